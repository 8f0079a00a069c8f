
import PyProof.Rows.All
import Wide.All
import OpenK.AllK
import Wide.FinOn
import HandS.ForMost
import HandS.Evl
import HandS.Steps
import HandS.IsInst
import HandS.Style
import HandS.Walk
import HandS.Flow
import HandS.HotCalls
import HandS.ExcIs
import KE.GoesEnumKw
import HandS.RevRange
import HandS.Rev
import KE.LtSeq
import HandS.SortInts
import PySem.Challenge.RW_textwrapper_k11_whole_none_less_in_lines
set_option Elab.async false
set_option linter.all false
set_option maxRecDepth 100000
namespace Tw
open PySem PySem.Spec PyProof.Rows L2 Evl
/-! ### rules of our own -/
/-- text * int -/
def rMulS : R2 := fun x y H Q => ∃ (z : Str) (k : Int) (L N : Nat), x = .str z ∧ y = .int k ∧ (z.length ≤ L ∧ k ≤ (N : Int) ∧ -(2 ^ 63 : Int) ≤ k ∧ N ≤ 16777216 ∧ L * N ≤ 16777216) ∧ Q (.str (Txt.mul z k)) H
theorem op_mulS {X : Cx} : OpR X (binaryOp .Mult) rMulS := by
  intro pins s σ H x y v u Q I rx ry h
  obtain ⟨z, k, L, N, rfl, rfl, ⟨h1, h2, h3, h4, h5⟩, q⟩ := h
  obtain ⟨t, rfl⟩ := rx
  obtain ⟨t', rfl⟩ := ry
  exact PySem.SB.mul (mulOk_of L N h1 h2 h3 h4 h5) fun t' k' => ⟨.str (Txt.mul z k), H, I.tok _, ⟨_, rfl⟩, q⟩
/-! ### what evaluates to what -/
section
variable {K : PySem.W.Frag} {σ : L2.St} {H H' : Hp} {ta tb te tx : TE} {t u : TT} {x y z v : V} {r : R2}
theorem rv_addS {a b : Str} (h : a.length + b.length ≤ 100000) : RV (fun x y H Q => ∃ i j, x = .str i ∧ y = .str j ∧ i.length + j.length ≤ sizeLine ∧ Q (.str (i ++ j)) H) (.str a) (.str b) H (.str (a ++ b)) :=
  fun H1 _ _ q => ⟨a, b, rfl, rfl, sz_of h, q H1 (Ex.refl H1)⟩
theorem rv_mulS {a : Str} {k : Int} {L N : Nat} (h : a.length ≤ L) (hk : k ≤ (N : Int)) (h0 : 0 ≤ k) (hN : N ≤ 100000) (hL : L * N ≤ 100000) : RV rMulS (.str a) (.int k) H (.str (Txt.mul a k)) :=
  fun H1 _ _ q => ⟨a, k, L, N, rfl, rfl, ⟨h, hk, by omega, by omega, by omega⟩, q H1 (Ex.refl H1)⟩
def rLenStr : List V → Hp → VK → Prop := fun xs H Q => ∃ z, xs = [.str z] ∧ z.length ≤ sizeLine ∧ Q (.int z.length) H
theorem rc_lenS {a : Str} (h : a.length ≤ 16000000) : RC (fun xs H Q => ∃ z, xs = [.str z] ∧ z.length ≤ sizeLine ∧ Q (.int z.length) H) [.str a] H (.int a.length) := fun H1 _ _ q => ⟨a, rfl, Nat.le_trans h (by rw [sizeLine_eq]; decide), q H1 (Ex.refl H1)⟩
theorem rc_intB {b : Bool} : RC (fun xs H Q => (∃ i, xs = [.int i] ∧ Q (.int i) H) ∨ ∃ k, xs = [.bl k] ∧ Q (.int (if k then 1 else 0)) H) [.bl b] H (.int (if b = true then 1 else 0)) := fun H1 _ _ q => .inr ⟨b, rfl, q H1 (Ex.refl H1)⟩
theorem rc_lenL {p : Addr} {xs : List V} (h : SqL K H p xs) : RC (fun xs H Q => ∃ p ys, xs = [.ref p] ∧ (SqL K H p ys ∨ SqT K H p ys) ∧ Q (.int ys.length) H) [.ref p] H (.int xs.length) := fun H1 e _ q => ⟨p, xs, rfl, .inl (ex_l e h), q H1 (Ex.refl H1)⟩
theorem rc_isi {x c : V} {t u : Value} {b : Bool} (hc : ClsV c u) (ty : ∀ H1, Ex H H1 → TyX K H1 x t) (k : PySem.W.kitOne K t u = some b) : RC (rIsi K) [x, c] H (.bl b) := fun H1 e _ q => ⟨x, c, t, u, b, rfl, hc, ty H1 e, k, q H1 (Ex.refl H1)⟩
theorem rc_isStr {a : Str} : RC (rIsi K) [.str a, .ty "str"] H (.bl true) := rc_isi (.ty _) (fun _ _ => .base (.str a)) (kit_ty (by decide +kernel))
theorem tyx_list {p : Addr} {xs : List V} (h : SqL K H p xs) : TyX K H (.ref p) (.type "list") := by
  rcases h with (h | ⟨o, h⟩) | ⟨o, vs, n, hk, hc, _⟩
  · exact .base (.lst h)
  · exact .base (.frz h)
  · exact .kList hk hc
theorem rc_isList {p : Addr} {xs : List V} (h : SqL K H p xs) : RC (rIsi K) [.ref p, .ty "list"] H (.bl true) := rc_isi (.ty _) (fun _ e => tyx_list (ex_l e h)) (kit_ty (by decide +kernel))
theorem rv_isB {a b : Bool} : RV rIsB (.bl a) (.bl b) H (.bl (decide (a = b))) := fun H1 _ _ q => ⟨a, b, rfl, rfl, q H1 (Ex.refl H1)⟩
theorem rv_isN : RV rIsN x .non H (.bl (decide (x = .non))) := fun H1 _ _ q => ⟨rfl, q H1 (Ex.refl H1)⟩
theorem rv_notN : RV rNotN x .non H (.bl (!decide (x = .non))) := fun H1 _ _ q => ⟨rfl, q H1 (Ex.refl H1)⟩
theorem rv_add {i j : Int} : RV (rI0 fun i j => .int (i + j)) (.int i) (.int j) H (.int (i + j)) := rv_I0
/-- data equal, by values -/
theorem rv_eqD {d e : PyData} (hd : ∀ H1, Ex H H1 → Dp K H1 x d) (he : ∀ H1, Ex H H1 → Dp K H1 y e) (sd : SeqAt.shaped d = true) (se : SeqAt.shaped e = true) : RV (rEqD K) x y H (.bl (PyData.eqv d e)) :=
  fun H1 e1 _ q => ⟨d, e, hd H1 e1, he H1 e1, sd, se, q H1 (Ex.refl H1)⟩
theorem rv_neD {d e : PyData} (hd : ∀ H1, Ex H H1 → Dp K H1 x d) (he : ∀ H1, Ex H H1 → Dp K H1 y e) (sd : SeqAt.shaped d = true) (se : SeqAt.shaped e = true) : RV (rNeD K) x y H (.bl (!PyData.eqv d e)) :=
  fun H1 e1 _ q => ⟨d, e, hd H1 e1, he H1 e1, sd, se, q H1 (Ex.refl H1)⟩
theorem dpAll_strs : ∀ l : List Str, DpAll K H (l.map V.str) (l.map PyData.str)
  | [] => .nil
  | a :: r => .cons (.str a) (dpAll_strs r)
theorem dpAll_ints : ∀ l : List Int, DpAll K H (l.map V.int) (l.map PyData.int)
  | [] => .nil
  | a :: r => .cons (.int a) (dpAll_ints r)
theorem dp_strs {p : Addr} {l : List Str} (h : SqL K H p (l.map V.str)) : Dp K H (.ref p) (.list (l.map PyData.str)) := .lst h (dpAll_strs l)
theorem dp_ints {p : Addr} {l : List Int} (h : SqL K H p (l.map V.int)) : Dp K H (.ref p) (.list (l.map PyData.int)) := .lst h (dpAll_ints l)
/-- split() -/
theorem el_words {a : Str} (h : Ev te σ H (.str a)) (hl : a.length ≤ 90000) : EvL (tM0 (fun x xs H Q => ∃ a, x = .str a ∧ xs = [] ∧ a.length + 2 ≤ sizeLine ∧ rNewStrs (Txt.words a) H Q) te) σ H ((Txt.words a).map V.str) :=
  fun H1 e Q q => h H1 e _ fun H2 e2 => ⟨⟨a, rfl⟩, a, rfl, rfl, sz_of (by omega), fun p hp => q p _ (fresh_back e2 hp) (e2.trans (Ex.new hp)) upd_same⟩
/-- join -/
theorem ev_join {a : Str} {p : Addr} {ys : List Str} (h : Ev ta σ H (.str a)) (hb : Ev tb σ H (.ref p)) (hp : SqL K H p (ys.map V.str)) (hz : (ys.map (·.length)).sum + ys.length * a.length ≤ 16777216) :
    Ev (tM1 (fun x xs H Q => ∃ a p, ∃ ys : List Str, x = .str a ∧ xs = [.ref p] ∧ (SqL K H p (ys.map V.str) ∨ SqT K H p (ys.map V.str)) ∧ (ys.map (·.length)).sum + ys.length * a.length ≤ 16777216 ∧ Q (.str (Txt.join a ys)) H) ta tb) σ H (.str (Txt.join a ys)) :=
  fun H1 e Q q => h H1 e _ fun H2 e2 => ⟨⟨a, rfl⟩, hb H2 (e.trans e2) _ fun H3 e3 => ⟨a, p, ys, rfl, rfl, .inl (ex_l ((e.trans e2).trans e3) hp), hz, q H3 (e2.trans e3)⟩⟩
theorem ev_joinL {a : Str} {ys : List Str} (h : Ev ta σ H (.str a)) (hb : EvL tb σ H (ys.map V.str)) (hz : (ys.map (·.length)).sum + ys.length * a.length ≤ 16777216) :
    Ev (tM1 (fun x xs H Q => ∃ a p, ∃ ys : List Str, x = .str a ∧ xs = [.ref p] ∧ (SqL K H p (ys.map V.str) ∨ SqT K H p (ys.map V.str)) ∧ (ys.map (·.length)).sum + ys.length * a.length ≤ 16777216 ∧ Q (.str (Txt.join a ys)) H) ta tb) σ H (.str (Txt.join a ys)) :=
  fun H1 e Q q => h H1 e _ fun H2 e2 => ⟨⟨a, rfl⟩, hb H2 (e.trans e2) _ fun p H3 _ e3 hp => ⟨a, p, ys, rfl, rfl, .inl (sq_of hp), hz, q H3 (e2.trans e3)⟩⟩
/-- a slice of a new list -/
theorem el_slN {tl th : TO} {xs : List V} {lo hi : Option Int} (h : EvL te σ H xs) (h1 : EvO tl σ H lo) (h2 : EvO th σ H hi) : EvL (tSl (rSlL K) te tl th) σ H (cutV xs lo hi) := fun H1 e _ q =>
  h H1 e _ fun p H2 _ e2 hp => h1 H2 (e.trans e2) _ fun H3 e3 => h2 H3 ((e.trans e2).trans e3) _ fun H4 e4 =>
    ⟨p, xs, rfl, sq_of (e4 _ _ (e3 _ _ hp)), fun q' hq => q q' _ (fresh_back ((e2.trans e3).trans e4) hq) (((e2.trans e3).trans e4).trans (Ex.new hq)) upd_same⟩
/-- a call whose arguments are told by what they give: any promise -/
theorem ev_callA {sp : Sp} {dvs : List V} {E : XK} {ta : TA} {P : List V → Hp → Prop} (h : ∀ H1, Ex H H1 → ∀ Q : List V → Hp → Prop, (∀ vs H2, Ex H1 H2 → P vs H2 → Q vs H2) → ta σ H1 Q)
    (hs : ∀ vs H1, Ex H H1 → P vs H1 → ∀ Q : VK, (∀ H2, Ex H1 H2 → Q z H2) → sp (vs ++ dvs) H1 Q E) : Ev (tCall sp dvs E ta) σ H z := fun H1 e Q q =>
  h H1 e _ fun vs H2 e2 hP => hs vs H2 (e.trans e2) hP Q fun H3 e3 => q H3 (e2.trans e3)
theorem el_callA {sp : Sp} {dvs xs : List V} {E : XK} {ta : TA} {P : List V → Hp → Prop} (h : ∀ H1, Ex H H1 → ∀ Q : List V → Hp → Prop, (∀ vs H2, Ex H1 H2 → P vs H2 → Q vs H2) → ta σ H1 Q)
    (hs : ∀ vs H1, Ex H H1 → P vs H1 → ∀ Q : VK, (∀ p H2, H1 p = none → Ex H1 H2 → H2 p = some (.lst xs) → Q (.ref p) H2) → sp (vs ++ dvs) H1 Q E) : EvL (tCall sp dvs E ta) σ H xs := fun H1 e Q q =>
  h H1 e _ fun vs H2 e2 hP => hs vs H2 (e.trans e2) hP Q fun p H3 hp e3 h3 => q p H3 (fresh_back e2 hp) (e2.trans e3) h3
/-- argument lists told by what they give -/
def ArgP (ta : TA) (σ : L2.St) (H : Hp) (P : List V → Hp → Prop) : Prop := ∀ H1, Ex H H1 → ∀ Q : List V → Hp → Prop, (∀ vs H2, Ex H1 H2 → P vs H2 → Q vs H2) → ta σ H1 Q
theorem ap_nil : ArgP tNil σ H (fun vs _ => vs = []) := fun H1 _ Q q => q [] H1 (Ex.refl H1) rfl
theorem ap_cons {tr : TA} {P : List V → Hp → Prop} (h : Ev te σ H v) (hr : ArgP tr σ H P) : ArgP (tCons te tr) σ H (fun vs H' => ∃ r, vs = v :: r ∧ P r H') := fun H1 e Q q =>
  h H1 e _ fun H2 e2 => hr H2 (e.trans e2) _ fun vs H3 e3 hP => q _ H3 (e2.trans e3) ⟨vs, rfl, hP⟩
theorem ap_consL {tr : TA} {P : List V → Hp → Prop} {xs : List V} (h : EvL te σ H xs) (hr : ArgP tr σ H P) (hmono : ∀ (vs : List V) (H1 H2 : Hp), True) : ArgP (tCons te tr) σ H (fun vs H' => ∃ p r, vs = .ref p :: r ∧ H' p = some (.lst xs) ∧ P r H') := fun H1 e Q q =>
  h H1 e _ fun p H2 _ e2 hp => hr H2 (e.trans e2) _ fun vs H3 e3 hP => q _ H3 (e2.trans e3) ⟨p, vs, rfl, e3 _ _ hp, hP⟩
end
/-! ### loops over a text -/
section
variable {K : PySem.W.Frag} {σ : L2.St} {H H' : Hp} {te : TE} {D : Ends} {tu tz : TS}
theorem s_forS {z : Str} {j : Nat} (h : Ev te σ H (.str z)) (Pv : Nat → L2.St → Hp → Prop) (h0 : ∀ H1, Ex H H1 → Pv 0 σ H1)
    (hs : ∀ (i c : Nat) σ' H', (TL.tl z)[i]? = some c → Pv i σ' H' → tu { D with nx := Pv (i + 1), ct := Pv (i + 1), bk := D.nx } (σ'.set j (some (.str ⟨#[c]⟩))) H')
    (hd : ∀ σ' H', Pv (TL.tl z).length σ' H' → D.nx σ' H') : tFor (iStr te) (gName j) tu D σ H :=
  h H (Ex.refl H) _ fun H1 e => ⟨z, rfl, for_it walk_str Pv (h0 H1 e) (fun _ _ _ _ _ => trivial) (fun i x σ' H' H'' hi p y => by
    obtain ⟨rfl, c, hc, rfl⟩ := y
    exact hs i c σ' _ (by rw [show (TL.tl z)[i]? = z.cps[i]? from Array.getElem?_toList]; exact hc) p) (fun σ' H' p => hd σ' H' (by
    have e : (TL.tl z).length = z.cps.size := Array.length_toList
    rw [e]
    exact p))⟩
theorem q_forS {z : Str} {j : Nat} (h : Ev te σ H (.str z)) (Pv : Nat → L2.St → Hp → Prop) (h0 : ∀ H1, Ex H H1 → Pv 0 σ H1)
    (hs : ∀ (i c : Nat) σ' H', (TL.tl z)[i]? = some c → Pv i σ' H' → tu { D with nx := Pv (i + 1), ct := Pv (i + 1), bk := tz D } (σ'.set j (some (.str ⟨#[c]⟩))) H')
    (hd : ∀ σ' H', Pv (TL.tl z).length σ' H' → tz D σ' H') : tSeq (tFor (iStr te) (gName j) tu) tz D σ H := s_forS (D := { D with nx := tz D }) h Pv h0 hs hd
end
/-! ### the signs of words -/
/-- from ! to ~, but the percent sign -/
def sgnL : List Nat := List.range' 33 4 ++ List.range' 38 89
theorem sgnL_len : sgnL.length = 93 := by decide +kernel
/-- a sign of a word -/
def Ws (c : Nat) : Prop := 33 ≤ c ∧ c ≤ 126
instance (c : Nat) : Decidable (Ws c) := inferInstanceAs (Decidable (_ ∧ _))
theorem sgnL_ws : ∀ c ∈ sgnL, Ws c := by decide +kernel
/-- a sign of a text -/
def Ts (c : Nat) : Prop := c = 32 ∨ c = 10 ∨ Ws c
instance (c : Nat) : Decidable (Ts c) := inferInstanceAs (Decidable (_ ∨ _))
def sgn (c : Int) : Nat := sgnL.getD (c % 93).toNat 33
theorem sgn_ws (c : Int) : Ws (sgn c) := by
  unfold sgn
  rw [List.getD_eq_getElem?_getD]
  cases h : sgnL[(c % 93).toNat]? with
  | none => exact ⟨by decide, by decide⟩
  | some x => exact sgnL_ws x (List.mem_of_getElem? h)
theorem at_sgn (c : Int) : atI sgnL (c % 93) = some (sgn c) := by
  have h0 : 0 ≤ c % 93 := Int.emod_nonneg c (by decide)
  have h1 : c % 93 < 93 := Int.emod_lt_of_pos c (by decide)
  have hl : (c % 93).toNat < sgnL.length := by rw [sgnL_len]; omega
  have e : c % 93 = ((c % 93).toNat : Int) := by omega
  rw [e]
  refine atI_nat ?_
  unfold sgn
  rw [List.getD_eq_getElem?_getD, List.getElem?_eq_getElem hl] <;> rfl
theorem space_ws : ∀ c, Ws c → Unicode.isSpace c = false := by
  have h : ∀ c < 127, 33 ≤ c → Unicode.isSpace c = false := by decide +kernel
  exact fun c hc => h c (by have := hc.2; omega) hc.1
theorem space_32 : Unicode.isSpace 32 = true := by decide +kernel
theorem space_10 : Unicode.isSpace 10 = true := by decide +kernel
/-! ### lists of texts, of ints, compared -/
theorem strOk_of {z : Str} (h : ∀ c ∈ TL.tl z, c < 1114112) : PyData.strOk z = true := by
  unfold PyData.strOk
  rw [← Array.all_toList, List.all_eq_true]
  exact fun c hc => decide_eq_true (h c hc)
theorem canLay_strs : ∀ {l : List Str}, (∀ z ∈ l, ∀ c ∈ TL.tl z, c < 1114112) → PyData.canLayAll0 (l.map PyData.str) = true
  | [], _ => by simp [PyData.canLayAll0]
  | z :: r, h => by
    rw [List.map_cons, PyData.canLayAll0, PyData.canLay0, strOk_of (h z (List.mem_cons_self ..)), canLay_strs fun y hy => h y (List.mem_cons_of_mem _ hy)] <;> rfl
theorem depth_strs : ∀ l : List Str, PyData.depthAll (l.map PyData.str) = 0
  | [] => by simp [PyData.depthAll]
  | z :: r => by
    rw [List.map_cons, PyData.depthAll, depth_strs r, PyData.depth] <;> rfl
theorem shaped_strs {l : List Str} (h : ∀ z ∈ l, ∀ c ∈ TL.tl z, c < 1114112) : SeqAt.shaped (.list (l.map PyData.str)) = true := by
  unfold SeqAt.shaped
  rw [PyData.canLay0, canLay_strs h, PyData.depth, depth_strs] <;> rfl
theorem eqv_strs : ∀ l m : List Str, PyData.eqvAll (l.map PyData.str) (m.map PyData.str) = decide (l = m)
  | [], [] => by simp [PyData.eqvAll]
  | [], _ :: _ => by simp [PyData.eqvAll]
  | _ :: _, [] => by simp [PyData.eqvAll]
  | x :: l, y :: m => by
    rw [List.map_cons, List.map_cons, PyData.eqvAll, PyData.eqv, eqv_strs l m]
    rw [Bool.eq_iff_iff]
    simp
theorem eqv_lstrs (l m : List Str) : PyData.eqv (.list (l.map PyData.str)) (.list (m.map PyData.str)) = decide (l = m) := by
  rw [PyData.eqv]
  exact eqv_strs l m
theorem canLay_ints : ∀ l : List Int, PyData.canLayAll0 (l.map PyData.int) = true
  | [] => by simp [PyData.canLayAll0]
  | z :: r => by
    rw [List.map_cons, PyData.canLayAll0, PyData.canLay0, canLay_ints r] <;> rfl
theorem depth_ints : ∀ l : List Int, PyData.depthAll (l.map PyData.int) = 0
  | [] => by simp [PyData.depthAll]
  | z :: r => by
    rw [List.map_cons, PyData.depthAll, depth_ints r, PyData.depth] <;> rfl
theorem shaped_ints (l : List Int) : SeqAt.shaped (.list (l.map PyData.int)) = true := by
  unfold SeqAt.shaped
  rw [PyData.canLay0, canLay_ints, PyData.depth, depth_ints] <;> rfl
theorem eqv_ints : ∀ l m : List Int, PyData.eqvAll (l.map PyData.int) (m.map PyData.int) = decide (l = m)
  | [], [] => by simp [PyData.eqvAll]
  | [], _ :: _ => by simp [PyData.eqvAll]
  | _ :: _, [] => by simp [PyData.eqvAll]
  | x :: l, y :: m => by
    rw [List.map_cons, List.map_cons, PyData.eqvAll, PyData.eqv, eqv_ints l m]
    rw [Bool.eq_iff_iff]
    simp
theorem eqv_lints (l m : List Int) : PyData.eqv (.list (l.map PyData.int)) (.list (m.map PyData.int)) = decide (l = m) := by
  rw [PyData.eqv]
  exact eqv_ints l m
section
variable {K : PySem.W.Frag} {σ : L2.St} {H H' : Hp} {ta tb te tx : TE}
theorem rv_eqS {p q : Addr} {l m : List Str} (hp : SqL K H p (l.map V.str)) (hq : SqL K H q (m.map V.str)) (hl : ∀ z ∈ l, ∀ c ∈ TL.tl z, c < 1114112) (hm : ∀ z ∈ m, ∀ c ∈ TL.tl z, c < 1114112) : RV (rEqD K) (.ref p) (.ref q) H (.bl (decide (l = m))) := by
  rw [← eqv_lstrs]
  exact rv_eqD (fun H1 e => dp_strs (ex_l e hp)) (fun H1 e => dp_strs (ex_l e hq)) (shaped_strs hl) (shaped_strs hm)
theorem rv_neS {p q : Addr} {l m : List Str} (hp : SqL K H p (l.map V.str)) (hq : SqL K H q (m.map V.str)) (hl : ∀ z ∈ l, ∀ c ∈ TL.tl z, c < 1114112) (hm : ∀ z ∈ m, ∀ c ∈ TL.tl z, c < 1114112) : RV (rNeD K) (.ref p) (.ref q) H (.bl (!decide (l = m))) := by
  rw [← eqv_lstrs]
  exact rv_neD (fun H1 e => dp_strs (ex_l e hp)) (fun H1 e => dp_strs (ex_l e hq)) (shaped_strs hl) (shaped_strs hm)
theorem rv_eqI {p q : Addr} {l m : List Int} (hp : SqL K H p (l.map V.int)) (hq : SqL K H q (m.map V.int)) : RV (rEqD K) (.ref p) (.ref q) H (.bl (decide (l = m))) := by
  rw [← eqv_lints]
  exact rv_eqD (fun H1 e => dp_ints (ex_l e hp)) (fun H1 e => dp_ints (ex_l e hq)) (shaped_ints _) (shaped_ints _)
theorem rv_neI {p q : Addr} {l m : List Int} (hp : SqL K H p (l.map V.int)) (hq : SqL K H q (m.map V.int)) : RV (rNeD K) (.ref p) (.ref q) H (.bl (!decide (l = m))) := by
  rw [← eqv_lints]
  exact rv_neD (fun H1 e => dp_ints (ex_l e hp)) (fun H1 e => dp_ints (ex_l e hq)) (shaped_ints _) (shaped_ints _)
end
/-- the texts of the law -/
def Txs (z : Str) : Prop := ∀ c ∈ TL.tl z, Ts c
theorem Ts.lt {c : Nat} (h : Ts c) : c < 1114112 := by
  rcases h with h | h | ⟨h, h2⟩ <;> omega
theorem Txs.lt {z : Str} (h : Txs z) : ∀ c ∈ TL.tl z, c < 1114112 := fun c hc => (h c hc).lt
theorem Txs.app {x y : Str} (h : Txs x) (k : Txs y) : Txs (x ++ y) := fun c hc => by
  rw [TL.tl_append] at hc
  rcases List.mem_append.mp hc with hc | hc
  · exact h c hc
  · exact k c hc
theorem len_app (x y : Str) : (x ++ y).length = x.length + y.length := by
  rw [TL.len_tl, TL.len_tl, TL.len_tl, TL.tl_append, List.length_append]
theorem tl_one (c : Nat) : TL.tl ⟨#[c]⟩ = [c] := rfl
theorem txs_one {c : Nat} (h : Ts c) : Txs ⟨#[c]⟩ := fun d hd => by
  rw [tl_one] at hd
  rw [List.mem_singleton.mp hd]
  exact h
theorem blank_eq : Str.ofString " " = ⟨#[32]⟩ := by decide +kernel
theorem lf_eq : Str.ofString "\n" = ⟨#[10]⟩ := by decide +kernel
theorem none_eq : Str.ofString "" = Str.empty := by decide +kernel
section
variable {σ : L2.St} {H : Hp}
theorem ev_blank : Ev (tC (.str (Str.ofString " "))) σ H (.str ⟨#[32]⟩) := ev_is ev_c (congrArg V.str blank_eq)
theorem ev_lf : Ev (tC (.str (Str.ofString "\n"))) σ H (.str ⟨#[10]⟩) := ev_is ev_c (congrArg V.str lf_eq)
theorem ev_none : Ev (tC (.str (Str.ofString ""))) σ H (.str Str.empty) := ev_is ev_c (congrArg V.str none_eq)
end
/-! ### the words of a text -/
theorem step_fst {ws : List Str} {u : Str} {c : Nat} : (KWd.step (ws, u) c).1.length ≤ ws.length + 1 ∧ (KWd.step (ws, u) c).2.length ≤ u.length + 1 := by
  unfold KWd.step
  split
  · split
    · exact ⟨Nat.le_succ _, Nat.le_succ _⟩
    · exact ⟨by rw [List.length_append] <;> exact Nat.le_refl _, Nat.zero_le _⟩
  · exact ⟨Nat.le_succ _, by rw [len_app] <;> exact Nat.le_refl _⟩
/-- what the fold keeps of words: no more signs than were read, each a sign of the text that is no blank -/
structure Cut (n : Nat) (S : Nat → Prop) (st : KWd.St) : Prop where
  few : st.1.length ≤ n
  short : st.2.length ≤ n
  all : (st.1.map (·.length)).sum + st.2.length ≤ n
  ws : ∀ z ∈ st.1, z.length ≠ 0 ∧ ∀ c ∈ TL.tl z, S c ∧ Unicode.isSpace c = false
  us : ∀ c ∈ TL.tl st.2, S c ∧ Unicode.isSpace c = false
theorem Cut.zero {S : Nat → Prop} : Cut 0 S ([], Str.empty) := ⟨Nat.le_refl _, Nat.le_refl _, Nat.le_refl _, fun _ h => by simp at h, fun _ h => by simp [TL.tl, Str.empty] at h⟩
theorem Cut.step {n : Nat} {S : Nat → Prop} {st : KWd.St} (h : Cut n S st) {c : Nat} (hc : S c) : Cut (n + 1) S (KWd.step st c) := by
  obtain ⟨ws, u⟩ := st
  obtain ⟨h1, h2, h3, h4, h5⟩ := h
  simp only at h1 h2 h3 h4 h5
  unfold KWd.step
  split
  · split
    · exact ⟨by simp only; omega, by simp only; omega, by simp only; omega, h4, h5⟩
    · rename_i hs hu
      refine ⟨by simp only [List.length_append, List.length_singleton]; omega, Nat.zero_le _, ?_, fun z hz => ?_, fun d hd => by simp [TL.tl, Str.empty] at hd⟩
      · simp only [List.map_append, List.map_cons, List.map_nil, List.sum_append, List.sum_cons, List.sum_nil]
        show _ + (u.length + 0) + 0 ≤ _
        omega
      · rcases List.mem_append.mp hz with hz | hz
        · exact h4 z hz
        · rw [List.mem_singleton.mp hz]
          exact ⟨hu, h5⟩
  · rename_i hs
    refine ⟨by simp only; omega, ?_, ?_, h4, fun d hd => ?_⟩
    · simp only [len_app]
      show u.length + 1 ≤ n + 1
      omega
    · simp only [len_app]
      show _ + (u.length + 1) ≤ n + 1
      omega
    · simp only at hd
      rw [TL.tl_append, tl_one] at hd
      rcases List.mem_append.mp hd with hd | hd
      · exact h5 d hd
      · rw [List.mem_singleton.mp hd]
        exact ⟨hc, by cases e : Unicode.isSpace c <;> simp_all⟩
theorem cut_fold {S : Nat → Prop} : ∀ (l : List Nat) (n : Nat) (st : KWd.St), Cut n S st → (∀ c ∈ l, S c) → Cut (n + l.length) S (l.foldl KWd.step st)
  | [], _, _, h, _ => h
  | c :: r, n, st, h, hs => by
    rw [List.foldl_cons, List.length_cons, show n + (r.length + 1) = n + 1 + r.length by omega]
    exact cut_fold r (n + 1) _ (h.step (hs c (List.mem_cons_self ..))) fun d hd => hs d (List.mem_cons_of_mem _ hd)
/-- words of a text of the law: none empty, of signs of words alone, no more of them than signs -/
theorem words_ok {z : Str} (h : Txs z) : (Txt.words z).length ≤ z.length ∧ ((Txt.words z).map (·.length)).sum ≤ z.length ∧ ∀ y ∈ Txt.words z, y.length ≠ 0 ∧ ∀ c ∈ TL.tl y, Ws c := by
  have q := cut_fold (S := Ts) (TL.tl z) 0 ([], Str.empty) Cut.zero h
  rw [Nat.zero_add, ← TL.len_tl] at q
  rw [KWd.words_scan]
  have hw : ∀ y : Str, (∀ c ∈ TL.tl y, Ts c ∧ Unicode.isSpace c = false) → ∀ c ∈ TL.tl y, Ws c := fun y hy c hc => by
    obtain ⟨t, s⟩ := hy c hc
    rcases t with t | t | t
    · rw [t, space_32] at s; cases s
    · rw [t, space_10] at s; cases s
    · exact t
  unfold KWd.fin KWd.scan
  revert q
  generalize z.cps.toList.foldl KWd.step ([], Str.empty) = st
  intro q
  split
  · exact ⟨q.few, by have := q.all; omega, fun y hy => ⟨(q.ws y hy).1, hw y (q.ws y hy).2⟩⟩
  · rename_i hu
    refine ⟨?_, ?_, fun y hy => ?_⟩
    · rw [List.length_append]
      have h1 := q.all
      have h2 : st.1.length ≤ (st.1.map (·.length)).sum := by
        have h4 := q.ws
        revert h4
        generalize st.1 = l
        intro h4
        induction l with
        | nil => exact Nat.le_refl _
        | cons a r ih =>
          have ha := (h4 a (List.mem_cons_self ..)).1
          have hr := ih fun y hy => h4 y (List.mem_cons_of_mem _ hy)
          rw [List.map_cons, List.sum_cons, List.length_cons]
          omega
      show st.1.length + 1 ≤ _
      omega
    · rw [List.map_append, List.sum_append]
      have h1 := q.all
      show _ + (st.2.length + 0) ≤ _
      omega
    · rcases List.mem_append.mp hy with hy | hy
      · exact ⟨(q.ws y hy).1, hw y (q.ws y hy).2⟩
      · rw [List.mem_singleton.mp hy]
        exact ⟨hu, hw _ q.us⟩
theorem mul_txs {z : Str} (h : Txs z) (k : Int) : Txs (Txt.mul z k) := fun c hc => by
  unfold Txt.mul at hc
  split at hc
  · simp [TL.tl, Str.empty] at hc
  · split at hc
    · exact h c hc
    · have go : ∀ (n : Nat) (acc : Array Nat), (∀ d ∈ acc.toList, Ts d) → ∀ d ∈ ((List.replicate n z.cps).foldl (· ++ ·) acc).toList, Ts d := by
        intro n
        induction n with
        | zero => exact fun acc ha => ha
        | succ n ih =>
          intro acc ha
          rw [List.replicate_succ, List.foldl_cons]
          refine ih _ fun d hd => ?_
          rw [Array.toList_append] at hd
          rcases List.mem_append.mp hd with hd | hd
          · exact ha d hd
          · exact h d hd
      exact go _ _ (fun d hd => by simp at hd) c hc
/-! ### a list of lists of texts, made behind H0 -/
def LLs (H0 H : Hp) (l : Addr) (ex : List Addr) (pss : List (List Str)) : Prop := H0 l = none ∧ ∃ ps : List (Addr × List Str), pss = ps.map (·.2) ∧ H l = some (.lst (ps.map fun x => V.ref x.1)) ∧ (l :: ps.map (·.1)).Nodup ∧
  (∀ x ∈ ps, H0 x.1 = none ∧ H x.1 = some (.lst (x.2.map V.str))) ∧ ∀ b ∈ ex, b ≠ l ∧ ∀ x ∈ ps, b ≠ x.1
theorem LLs.mono {H0 H H' : Hp} {l : Addr} {ex : List Addr} {pss : List (List Str)} (h : LLs H0 H l ex pss) (e : Ex H H') : LLs H0 H' l ex pss := by
  obtain ⟨h0, ps, h1, h2, h3, h4, h5⟩ := h
  exact ⟨h0, ps, h1, e _ _ h2, h3, fun x hx => ⟨(h4 x hx).1, e _ _ (h4 x hx).2⟩, h5⟩
/-- an address of ex is written -/
theorem LLs.other {H0 H : Hp} {l b : Addr} {ex : List Addr} {pss : List (List Str)} {o : HO} (h : LLs H0 H l ex pss) (hb : b ∈ ex) : LLs H0 (upd H b o) l ex pss := by
  obtain ⟨h0, ps, h1, h2, h3, h4, h5⟩ := h
  refine ⟨h0, ps, h1, ?_, h3, fun x hx => ⟨(h4 x hx).1, ?_⟩, h5⟩
  · rw [upd_ne (h5 b hb).1.symm]
    exact h2
  · rw [upd_ne ((h5 b hb).2 x hx).symm]
    exact (h4 x hx).2
/-- a new list q, laid behind Hb, is put behind -/
theorem LLs.push {H0 Hb H : Hp} {l q : Addr} {ex : List Addr} {pss : List (List Str)} {w : List Str} (h : LLs H0 Hb l ex pss) (hq : Hb q = none) (e : Ex Hb H) (e0 : Ex H0 Hb) (hw : H q = some (.lst (w.map V.str))) (hex : ∀ b ∈ ex, Hb b ≠ none) :
    ∃ vs, H l = some (.lst vs) ∧ vs.length = pss.length ∧ LLs H0 (upd H l (.lst (vs ++ [V.ref q]))) l ex (pss ++ [w]) := by
  obtain ⟨h0, ps, h1, h2, h3, h4, h5⟩ := h
  have nql : q ≠ l := fun z => by rw [z, h2] at hq; cases hq
  have nqp : ∀ x ∈ ps, x.1 ≠ q := fun x hx z => by rw [← z, (h4 x hx).2] at hq; cases hq
  have nlp : ∀ x ∈ ps, x.1 ≠ l := fun x hx z => (List.nodup_cons.mp h3).1 (by rw [← z]; exact List.mem_map_of_mem hx)
  refine ⟨_, e _ _ h2, by rw [h1, List.length_map, List.length_map], h0, ps ++ [(q, w)], by rw [h1, List.map_append] <;> rfl, by rw [upd_same, List.map_append] <;> rfl, ?_, fun x hx => ?_, fun b hb => ⟨(h5 b hb).1, fun x hx => ?_⟩⟩
  · rw [List.map_append, ← List.cons_append]
    refine List.nodup_append.mpr ⟨h3, by simp, fun a ha b hb => ?_⟩
    rw [List.map_cons, List.map_nil, List.mem_singleton] at hb
    rw [hb]
    rcases List.mem_cons.mp ha with ha | ha
    · rw [ha]
      exact nql.symm
    · obtain ⟨x, hx, rfl⟩ := List.mem_map.mp ha
      exact nqp x hx
  · rcases List.mem_append.mp hx with hx | hx
    · rw [upd_ne (nlp x hx)]
      exact ⟨(h4 x hx).1, e _ _ (h4 x hx).2⟩
    · rw [List.mem_singleton.mp hx, upd_ne nql]
      exact ⟨fresh_back e0 hq, hw⟩
  · rcases List.mem_append.mp hx with hx | hx
    · exact (h5 b hb).2 x hx
    · rw [List.mem_singleton.mp hx]
      exact fun z => hex b hb (by rw [z]; exact hq)
/-- the last one -/
theorem LLs.last {H0 H : Hp} {l : Addr} {ex : List Addr} {pss : List (List Str)} (h : LLs H0 H l ex pss) (hn : pss ≠ []) :
    ∃ vs p xs, H l = some (.lst vs) ∧ atI vs (-1) = some (.ref p) ∧ H p = some (.lst (xs.map V.str)) ∧ pss = pss.dropLast ++ [xs] ∧ H0 p = none ∧ (∀ b ∈ ex, b ≠ p) ∧
      ∀ H' ys, Ex H H' → LLs H0 (upd H' p (.lst (xs.map V.str ++ ys.map V.str))) l ex (pss.dropLast ++ [xs ++ ys]) := by
  obtain ⟨h0, ps, h1, h2, h3, h4, h5⟩ := h
  have hps : ps ≠ [] := fun z => hn (by rw [h1, z] <;> rfl)
  obtain ⟨r, x, rfl⟩ : ∃ r x, ps = r ++ [x] := ⟨_, _, (List.dropLast_concat_getLast hps).symm⟩
  have hx := h4 x (List.mem_append_right _ (List.mem_singleton.mpr rfl))
  have hdl : pss.dropLast = r.map (·.2) := by
    rw [h1, List.map_append]
    exact List.dropLast_concat
  have nxl : x.1 ≠ l := fun z => (List.nodup_cons.mp h3).1 (by rw [← z]; exact List.mem_map_of_mem (List.mem_append_right _ (List.mem_singleton.mpr rfl)))
  have nrx : ∀ y ∈ r, y.1 ≠ x.1 := fun y hy z => by
    have q := (List.nodup_cons.mp h3).2
    rw [List.map_append] at q
    exact (List.nodup_append.mp q).2.2 y.1 (List.mem_map_of_mem hy) x.1 (List.mem_singleton.mpr rfl) z
  refine ⟨_, x.1, x.2, h2, by rw [List.map_append]; exact atI_last _ _, hx.2, by rw [hdl, h1, List.map_append] <;> rfl, hx.1, fun b hb => (h5 b hb).2 x (List.mem_append_right _ (List.mem_singleton.mpr rfl)), fun H' ys e => ⟨h0, r ++ [(x.1, x.2 ++ ys)], ?_, ?_, ?_, fun y hy => ?_, fun b hb => ⟨(h5 b hb).1, fun y hy => ?_⟩⟩⟩
  · rw [hdl, List.map_append] <;> rfl
  · rw [upd_ne nxl.symm, e _ _ h2, List.map_append, List.map_append] <;> rfl
  · rw [List.map_append] at h3 ⊢
    exact h3
  · rcases List.mem_append.mp hy with hy | hy
    · rw [upd_ne (nrx y hy)]
      exact ⟨(h4 y (List.mem_append_left _ hy)).1, e _ _ (h4 y (List.mem_append_left _ hy)).2⟩
    · rw [List.mem_singleton.mp hy]
      refine ⟨hx.1, ?_⟩
      rw [upd_same, List.map_append]
  · rcases List.mem_append.mp hy with hy | hy
    · exact (h5 b hb).2 y (List.mem_append_left _ hy)
    · rw [List.mem_singleton.mp hy]
      exact (h5 b hb).2 x (List.mem_append_right _ (List.mem_singleton.mpr rfl))
/-- the k-th one -/
theorem LLs.at {H0 H : Hp} {l : Addr} {ex : List Addr} {pss : List (List Str)} (h : LLs H0 H l ex pss) {k : Nat} {xs : List Str} (hk : pss[k]? = some xs) :
    ∃ vs p, H l = some (.lst vs) ∧ vs.length = pss.length ∧ vs[k]? = some (.ref p) ∧ H p = some (.lst (xs.map V.str)) := by
  obtain ⟨h0, ps, h1, h2, h3, h4, h5⟩ := h
  rw [h1, List.getElem?_map] at hk
  obtain ⟨x, hx, rfl⟩ := Option.map_eq_some_iff.mp hk
  exact ⟨_, x.1, h2, by rw [h1, List.length_map, List.length_map], by rw [List.getElem?_map, hx] <;> rfl, (h4 x (List.mem_of_getElem? hx)).2⟩
theorem LLs.lst {H0 H : Hp} {l : Addr} {ex : List Addr} {pss : List (List Str)} (h : LLs H0 H l ex pss) : ∃ vs, H l = some (.lst vs) ∧ vs.length = pss.length := by
  obtain ⟨h0, ps, h1, h2, h3, h4, h5⟩ := h
  exact ⟨_, h2, by rw [h1, List.length_map, List.length_map]⟩
section
variable {K : PySem.W.Frag} {σ : L2.St} {H H' : Hp} {ta tb te tx : TE} {D : Ends} {tz : TS} {v : V}
theorem et_tru {p : Addr} {xs : List V} (h : Ev te σ H (.ref p)) (hs : SqL K H p xs) : EvT (fun σ H Q => te σ H fun x H' => ∃ k, TruV K x H' k ∧ Q k H') σ H (!xs.isEmpty) := fun H1 e _ q => h H1 e _ fun H2 e2 => ⟨_, .inl ⟨xs, ex_l (e.trans e2) hs, rfl⟩, q H2 e2⟩
theorem ev_notT {p : Addr} {xs : List V} (h : Ev te σ H (.ref p)) (hs : SqL K H p xs) : Ev (tNotT K te) σ H (.bl (!!xs.isEmpty)) := fun H1 e _ q => h H1 e _ fun H2 e2 => ⟨_, .inl ⟨xs, ex_l (e.trans e2) hs, rfl⟩, q H2 e2⟩
/-- xs.extend(ys) -/
theorem s_ext {l b : Addr} {xs zs : List V} (hl : H l = some (.lst xs)) (hb : H b = some (.lst zs)) (ha : Ev ta σ H (.ref l)) (h : Ev te σ H (.ref b)) (hz : xs.length + zs.length ≤ 100000) (k : ∀ H1, Ex H H1 → D.nx σ (upd H1 l (.lst (xs ++ zs)))) :
    tDrop (tBM K "list" rExtend ta (tCons te tNil)) D σ H := ha H (Ex.refl H) _ fun H1 e1 =>
  ⟨Or.inl ⟨rfl, xs, sq_of (e1 l _ hl)⟩, h H1 e1 _ fun H2 e2 => ⟨l, b, xs, zs, rfl, rfl, e2 l _ (e1 l _ hl), e2 b _ (e1 b _ hb), sz_of hz, k H2 (e1.trans e2)⟩⟩
/-- a text cut -/
theorem el_split {a b : Str} (ha : Ev ta σ H (.str a)) (hb : Ev tb σ H (.str b)) (h0 : (b.length == 0) = false) (hl : a.length ≤ 90000) :
    EvL (tM1 (fun x xs H Q => ∃ a b, x = .str a ∧ xs = [.str b] ∧ (b.length == 0) = false ∧ a.length + 2 ≤ sizeLine ∧ rNewStrs (Txt.split a b) H Q) ta tb) σ H ((Txt.split a b).map V.str) :=
  fun H1 e Q q => ha H1 e _ fun H2 e2 => ⟨⟨a, rfl⟩, hb H2 (e.trans e2) _ fun H3 e3 => ⟨a, b, rfl, rfl, h0, sz_of (by omega), fun p hp => q p _ (fresh_back (e2.trans e3) hp) ((e2.trans e3).trans (Ex.new hp)) upd_same⟩⟩
end
/-! ### joined, cut: signs and sizes -/
theorem joinL_mem (S : List Nat) : ∀ (ps : List (List Nat)) (c : Nat), c ∈ TL.joinL S ps → c ∈ S ∨ ∃ p ∈ ps, c ∈ p
  | [], _, h => absurd h (List.not_mem_nil)
  | [p], _, h => .inr ⟨p, List.mem_cons_self .., h⟩
  | p :: q :: r, c, h => by
    have h' : c ∈ p ++ (S ++ TL.joinL S (q :: r)) := h
    rcases List.mem_append.mp h' with h1 | h1
    · exact .inr ⟨p, List.mem_cons_self .., h1⟩
    · rcases List.mem_append.mp h1 with h2 | h2
      · exact .inl h2
      · rcases joinL_mem S (q :: r) c h2 with h3 | ⟨x, hx, h3⟩
        · exact .inl h3
        · exact .inr ⟨x, List.mem_cons_of_mem _ hx, h3⟩
theorem joinL_len (S : List Nat) : ∀ ps : List (List Nat), (TL.joinL S ps).length + (if ps = [] then 0 else S.length) = (ps.map List.length).sum + ps.length * S.length
  | [] => by simp [TL.joinL]
  | [p] => by simp [TL.joinL]
  | p :: q :: r => by
    have ih := joinL_len S (q :: r)
    rw [if_neg (by simp)] at ih
    show (p ++ (S ++ TL.joinL S (q :: r))).length + _ = _
    rw [if_neg (by simp), List.length_append, List.length_append, List.map_cons, List.sum_cons, List.length_cons, Nat.succ_mul]
    omega
theorem txs_join {y : Str} {ps : List Str} (hy : Txs y) (hp : ∀ p ∈ ps, Txs p) : Txs (Txt.join y ps) := fun c hc => by
  rw [TL.join_eq, TL.tl_join] at hc
  rcases joinL_mem _ _ c hc with h | ⟨p, h, h2⟩
  · exact hy c h
  · obtain ⟨z, hz, rfl⟩ := List.mem_map.mp h
    exact hp z hz c h2
theorem len_join (y : Str) (ps : List Str) : (Txt.join y ps).length + (if ps = [] then 0 else y.length) = (ps.map (·.length)).sum + ps.length * y.length := by
  have h := joinL_len (TL.tl y) (ps.map TL.tl)
  rw [← TL.tl_join, ← TL.join_eq, ← TL.len_tl, ← TL.len_tl, List.length_map, List.map_map] at h
  have e : (List.length ∘ TL.tl) = fun z : Str => z.length := by
    funext z
    exact (TL.len_tl z).symm
  rw [e] at h
  rw [← h]
  cases ps <;> simp
theorem len_join0 (ps : List Str) : (Txt.join Str.empty ps).length = (ps.map (·.length)).sum := by
  have h := len_join Str.empty ps
  rw [show Str.empty.length = 0 from rfl, Nat.mul_zero] at h
  cases ps <;> simp at h ⊢ <;> omega
theorem txs_empty : Txs Str.empty := fun c hc => by simp [TL.tl, Str.empty] at hc
/-- a text cut at the line ends -/
theorem spl_len : ∀ (l acc : List Nat), ((TL.spl [10] 0 acc l).map List.length).sum + (TL.spl [10] 0 acc l).length = acc.length + l.length + 1
  | [], acc => by rw [TL.spl_nil]; simp
  | c :: l, acc => by
    by_cases hc : c = 10
    · have e : TL.spl [10] 0 acc (c :: l) = acc :: TL.spl [10] 0 [] l := TL.spl_hit (by rw [hc]; rfl)
      rw [e, List.map_cons, List.sum_cons, List.length_cons]
      have ih := spl_len l []
      rw [List.length_nil] at ih
      rw [List.length_cons]
      omega
    · rw [TL.spl_miss (by
        show (([c] : List Nat) == [10]) = false
        rw [beq_eq_false_iff_ne]
        exact fun q => hc (List.cons.inj q).1)]
      have ih := spl_len l (acc ++ [c])
      rw [List.length_append, List.length_singleton] at ih
      rw [List.length_cons]
      omega
theorem spl_mem : ∀ (l acc y : List Nat) (c : Nat), y ∈ TL.spl [10] 0 acc l → c ∈ y → c ∈ acc ∨ c ∈ l
  | [], acc, y, c, h, hc => by
    rw [TL.spl_nil] at h
    rw [List.mem_singleton.mp h] at hc
    exact .inl hc
  | d :: l, acc, y, c, h, hc => by
    by_cases hd : d = 10
    · rw [TL.spl_hit (by rw [hd]; rfl)] at h
      rcases List.mem_cons.mp h with h | h
      · rw [h] at hc
        exact .inl hc
      · rcases spl_mem l [] y c h hc with q | q
        · exact absurd q (List.not_mem_nil)
        · exact .inr (List.mem_cons_of_mem _ q)
    · rw [TL.spl_miss (by
        show (([d] : List Nat) == [10]) = false
        rw [beq_eq_false_iff_ne]
        exact fun q => hd (List.cons.inj q).1)] at h
      rcases spl_mem l (acc ++ [d]) y c h hc with q | q
      · rcases List.mem_append.mp q with q | q
        · exact .inl q
        · rw [List.mem_singleton.mp q]
          exact .inr (List.mem_cons_self ..)
      · exact .inr (List.mem_cons_of_mem _ q)
def lfS : Str := ⟨#[10]⟩
theorem split_rows (z : Str) : (Txt.split z lfS).map TL.tl = TL.spl [10] 0 [] (TL.tl z) := TL.split_spl z lfS (by decide) (TL.kind_ok (by decide +kernel))
theorem rows_len (z : Str) : ((Txt.split z lfS).map (·.length)).sum + (Txt.split z lfS).length = z.length + 1 := by
  have h := spl_len (TL.tl z) []
  rw [← split_rows, List.length_map, List.map_map] at h
  have e : (List.length ∘ TL.tl) = fun z : Str => z.length := by
    funext z
    exact (TL.len_tl z).symm
  rw [e, ← TL.len_tl, List.length_nil, Nat.zero_add] at h
  exact h
theorem rows_txs {z : Str} (h : Txs z) : ∀ y ∈ Txt.split z lfS, Txs y := fun y hy c hc => by
  have hm : TL.tl y ∈ TL.spl [10] 0 [] (TL.tl z) := by
    rw [← split_rows]
    exact List.mem_map_of_mem hy
  rcases spl_mem _ _ _ c hm hc with q | q
  · exact absurd q (List.not_mem_nil)
  · exact h c q
section
variable {K : PySem.W.Frag} {σ : L2.St} {H H' : Hp} {ta tb te tx : TE} {D : Ends} {tz : TS} {v : V}
theorem el_is {xs ys : List V} (h : EvL te σ H xs) (e : xs = ys) : EvL te σ H ys := by
  rw [← e]
  exact h
theorem given_all (n : Nat) (v : Nat → V) : given n (fun _ => true) v = (List.range n).map v := by
  unfold given
  rw [List.filter_eq_self.mpr fun _ _ => rfl]
theorem et_yes : EvT tYes σ H true := fun H1 _ _ q => q H1 (Ex.refl H1)
/-- [e for k in range(n)] -/
theorem el_lcR {ta : TA} {j : Nat} {vs : List Nat} {n : Int} (v : Nat → V) (h : EvA ta σ H [.int n]) (hn : 0 ≤ n ∧ n ≤ 40000) (hw : ∀ x, wipe ((wipe σ vs).set j (some x)) vs = wipe σ vs)
    (he : ∀ (i : Nat) H1, Ex H H1 → (i : Int) < n → Ev te ((wipe σ vs).set j (some (.int (i : Int)))) H1 (v i)) : EvL (tLc (iRng1 ta) (gName j) tYes te vs) σ H ((List.range n.toNat).map v) :=
  el_is (el_lcR1 (fun _ => true) v h hn hw (fun _ _ _ _ => et_yes) fun i H1 e hi _ => he i H1 e hi) (given_all _ _)
/-- [e for x in l] -/
theorem el_lcX {a : Addr} {xs : List V} {tl : TE} {j : Nat} {vs : List Nat} (v : Nat → V) (h : Ev tl σ H (.ref a)) (hx : SqL K H a xs) (hz : xs.length ≤ 40000) (hw : ∀ x, wipe ((wipe σ vs).set j (some x)) vs = wipe σ vs)
    (he : ∀ (i : Nat) (x : V) H1, Ex H H1 → xs[i]? = some x → Ev te ((wipe σ vs).set j (some x)) H1 (v i)) : EvL (tLc (iList K tl) (gName j) tYes te vs) σ H ((List.range xs.length).map v) :=
  el_is (el_lcL (fun _ => true) v h hx hz hw (fun _ _ _ _ _ => et_yes) fun i x H1 e hi _ => he i x H1 e hi) (given_all _ _)
end
section
variable {σ : L2.St} {H : Hp} {D : Ends} {tz : TS}
/-- x = f(..), the arguments told by what they give -/
theorem q_asgP {ta : TA} {sp : Sp} {dvs : List V} {E : XK} {i : Nat} {P : List V → Hp → Prop} (h : ArgP ta σ H P) (k : ∀ vs H1, Ex H H1 → P vs H1 → sp (vs ++ dvs) H1 (fun v H2 => tz D (σ.set i (some v)) H2) E) : tSeq (tAsg (tCall sp dvs E ta) (gName i)) tz D σ H := h H (Ex.refl H) _ k
/-- x = f(..), told by f's own promise -/
theorem q_asgA {ta : TA} {sp : Sp} {dvs vs : List V} {E : XK} {i : Nat} (h : EvA ta σ H vs) (k : ∀ H1, Ex H H1 → sp (vs ++ dvs) H1 (fun v H2 => tz D (σ.set i (some v)) H2) E) : tSeq (tAsg (tCall sp dvs E ta) (gName i)) tz D σ H := h H (Ex.refl H) _ k
end
theorem LLs.drop {H0 H : Hp} {l : Addr} {ex : List Addr} {pss : List (List Str)} (h : LLs H0 H l ex pss) : LLs H0 H l [] pss := by
  obtain ⟨h0, ps, h1, h2, h3, h4, h5⟩ := h
  exact ⟨h0, ps, h1, h2, h3, h4, fun b hb => absurd hb (List.not_mem_nil)⟩
theorem LLs.zero {H0 H : Hp} {l : Addr} {ex : List Addr} (h0 : H0 l = none) (h : H l = some (.lst [])) (hex : ∀ b ∈ ex, b ≠ l) : LLs H0 H l ex [] :=
  ⟨h0, [], rfl, h, by simp, fun x hx => absurd hx (List.not_mem_nil), fun b hb => ⟨hex b hb, fun x hx => absurd hx (List.not_mem_nil)⟩⟩
/-! ### enumerate, tuples, sums -/
section
variable {K : PySem.W.Frag} {σ : L2.St} {H H' : Hp} {ta tb te tx : TE} {D : Ends} {tu tz : TS} {v : V}
theorem s_forE {ta : TA} {a : Addr} {xs : List V} {j1 j2 : Nat} (h : EvA ta σ H [.ref a]) (hx : SqL K H a xs) (Pv : Nat → L2.St → Hp → Prop) (h0 : ∀ H1, Ex H H1 → Pv 0 σ H1) (hl : ∀ i σ' H', i ≤ xs.length → Pv i σ' H' → SqL K H' a xs)
    (hs : ∀ i x σ' H' H2, xs[i]? = some x → Pv i σ' H' → Ex H' H2 → tu { D with nx := Pv (i + 1), ct := Pv (i + 1), bk := D.nx } ((σ'.set j1 (some (.int (i : Int)))).set j2 (some x)) H2) (hd : ∀ σ' H', Pv xs.length σ' H' → D.nx σ' H') :
    tFor (iEnum K ta) (gTup K 2 (gCons (gName j1) (gCons (gName j2) gNil))) tu D σ H :=
  h H (Ex.refl H) _ fun H1 e => ⟨a, xs, rfl, ex_l e hx, for_it walk_enum Pv (h0 H1 e) hl (fun i x σ' H' H'' hi p y => by
    obtain ⟨T, x1, x2, rfl, hT, rfl, hx1, hx2⟩ := y
    cases hx1
    exact ⟨T, _, rfl, .inl (.inl upd_same), rfl, _, _, rfl, _, _, rfl, rfl, hs i x2 σ' H' _ hx2 p (Ex.new hT)⟩) hd⟩
theorem q_forE {ta : TA} {a : Addr} {xs : List V} {j1 j2 : Nat} (h : EvA ta σ H [.ref a]) (hx : SqL K H a xs) (Pv : Nat → L2.St → Hp → Prop) (h0 : ∀ H1, Ex H H1 → Pv 0 σ H1) (hl : ∀ i σ' H', i ≤ xs.length → Pv i σ' H' → SqL K H' a xs)
    (hs : ∀ i x σ' H' H2, xs[i]? = some x → Pv i σ' H' → Ex H' H2 → tu { D with nx := Pv (i + 1), ct := Pv (i + 1), bk := tz D } ((σ'.set j1 (some (.int (i : Int)))).set j2 (some x)) H2) (hd : ∀ σ' H', Pv xs.length σ' H' → tz D σ' H') :
    tSeq (tFor (iEnum K ta) (gTup K 2 (gCons (gName j1) (gCons (gName j2) gNil))) tu) tz D σ H := s_forE (D := { D with nx := tz D }) h hx Pv h0 hl hs hd
theorem el_cat {l : Addr} {xs ys : List V} (ha : Ev ta σ H (.ref l)) (hl : H l = some (.lst xs)) (hb : EvL tb σ H ys) (hz : xs.length + ys.length ≤ 100000) : EvL (tOp rCat ta tb) σ H (xs ++ ys) := fun H1 e Q q =>
  ha H1 e _ fun H2 e2 => hb H2 (e.trans e2) _ fun p H3 _ e3 hp => ⟨l, p, xs, ys, rfl, rfl, e3 _ _ (e2 _ _ (e _ _ hl)), hp, sz_of hz, fun r hr => q r _ (fresh_back (e2.trans e3) hr) ((e2.trans e3).trans (Ex.new hr)) upd_same⟩
theorem el_catN {xs ys : List V} (ha : EvL ta σ H xs) (hb : EvL tb σ H ys) (hz : xs.length + ys.length ≤ 100000) : EvL (tOp rCat ta tb) σ H (xs ++ ys) := fun H1 e Q q =>
  ha H1 e _ fun l H2 _ e2 hl => hb H2 (e.trans e2) _ fun p H3 _ e3 hp => ⟨l, p, xs, ys, rfl, rfl, e3 _ _ hl, hp, sz_of hz, fun r hr => q r _ (fresh_back (e2.trans e3) hr) ((e2.trans e3).trans (Ex.new hr)) upd_same⟩
theorem ev_sumN {ns : List Int} (h : EvL te σ H (ns.map V.int)) : Ev (tCB (rSum K) (tCons te tNil)) σ H (.int ns.sum) := fun H1 e Q q =>
  h H1 e _ fun p H2 _ e2 hp => ⟨p, ns, rfl, sq_of hp, q H2 e2⟩
theorem ev_maxx {i j : Int} (ha : Ev ta σ H (.int i)) (hb : Ev tb σ H (.int j)) : Ev (tCB (fun xs H Q => ∃ i j, xs = [.int i, .int j] ∧ Q (.int (if j > i then j else i)) H) (tCons ta (tCons tb tNil))) σ H (.int (max i j)) := by
  have e : max i j = if j > i then j else i := by
    by_cases h : j > i
    · rw [if_pos h]; omega
    · rw [if_neg h]; omega
  rw [e]
  exact ev_max2 ha hb
theorem rc_isInt {i : Int} : RC (rIsi K) [.int i, .ty "int"] H (.bl true) := rc_isi (.ty _) (fun _ _ => .base (.int i)) (kit_ty (by decide +kernel))
theorem rc_isIntB {i : Int} : RC (rIsi K) [.int i, .ty "bool"] H (.bl false) := rc_isi (.ty _) (fun _ _ => .base (.int i)) (kit_ty (by decide +kernel))
/-- f(..) alone, told by f's own promise -/
theorem q_dropA {ta : TA} {sp : Sp} {dvs vs : List V} {E : XK} (h : EvA ta σ H vs) (k : ∀ H1, Ex H H1 → sp (vs ++ dvs) H1 (fun _ H2 => tz D σ H2) E) : tSeq (tDrop (tCall sp dvs E ta)) tz D σ H := h H (Ex.refl H) _ k
theorem s_dropA {ta : TA} {sp : Sp} {dvs vs : List V} {E : XK} (h : EvA ta σ H vs) (k : ∀ H1, Ex H H1 → sp (vs ++ dvs) H1 (fun _ H2 => D.nx σ H2) E) : tDrop (tCall sp dvs E ta) D σ H := h H (Ex.refl H) _ k
/-- a list made anew of another -/
theorem el_listOf {p : Addr} {xs : List V} (ha : Ev ta σ H (.ref p)) (h : SqL K H p xs) : EvL (tCB (fun xs H Q => ∃ p ys, xs = [.ref p] ∧ (SqL K H p ys ∨ SqT K H p ys) ∧ ∀ l, H l = none → Q (.ref l) (upd H l (.lst ys))) (tCons ta tNil)) σ H xs := el_list ha h
end
/-! ### tuples made in a display, walked -/
section
variable {K : PySem.W.Frag} {σ : L2.St} {H H' : Hp} {D : Ends} {tu tz : TS}
/-- arguments that give new tuples -/
def ArgT (ta : TA) (σ : L2.St) (H : Hp) (pss : List (List V)) : Prop := ∀ H1, Ex H H1 → ∀ Q : List V → Hp → Prop, (∀ (as : List Addr) H2, Ex H1 H2 → as.length = pss.length → (∀ (i : Nat) (a : Addr) (xs : List V), as[i]? = some a → pss[i]? = some xs → H2 a = some (.tup xs)) → Q (as.map V.ref) H2) → ta σ H1 Q
theorem at_nil : ArgT tNil σ H [] := fun H1 _ Q q => q [] H1 (Ex.refl H1) rfl (fun i a xs h => by simp at h)
theorem at_cons {te : TE} {tr : TA} {xs : List V} {pss : List (List V)} (h : EvU te σ H xs) (hr : ArgT tr σ H pss) : ArgT (tCons te tr) σ H (xs :: pss) := fun H1 e Q q =>
  h H1 e _ fun p H2 _ e2 hp => hr H2 (e.trans e2) _ fun as H3 e3 hl ha => q (p :: as) H3 (e2.trans e3) (by rw [List.length_cons, List.length_cons, hl]) (fun i a ys h1 h2 => by
    cases i with
    | zero =>
      cases h1
      cases h2
      exact e3 _ _ hp
    | succ i => exact ha i a ys h1 h2)
theorem q_forTs {ta : TA} {j : Nat} {pss : List (List V)} (h : ArgT ta σ H pss) (hz : pss.length ≤ 100) (Pv : Hp → Nat → L2.St → Hp → Prop) (hE : ∀ B i σ' H', Pv B i σ' H' → Ex B H') (h0 : ∀ B, Ex H B → Pv B 0 σ B)
    (hs : ∀ B i a xs σ' H', pss[i]? = some xs → Pv B i σ' H' → H' a = some (.tup xs) → tu { D with nx := Pv B (i + 1), ct := Pv B (i + 1), bk := tz D } (σ'.set j (some (.ref a))) H') (hd : ∀ B σ' H', Pv B pss.length σ' H' → tz D σ' H') :
    tSeq (tFor (iList K (tLst ta)) (gName j) tu) tz D σ H := h H (Ex.refl H) _ fun as H1 e1 hl ha => by
  have hn : (as.map V.ref).length = pss.length := by rw [List.length_map, hl]
  refine ⟨by rw [hn]; exact sz_of (by omega), fun p hp => ⟨p, rfl, ⟨_, sq_of upd_same⟩, ?_⟩⟩
  have eB : Ex H (upd H1 p (.lst (as.map V.ref))) := e1.trans (Ex.new hp)
  refine for_list (K := K) (a := p) (xs := as.map V.ref) (D := { D with nx := tz D }) (Pv (upd H1 p (.lst (as.map V.ref)))) (h0 _ eB) (fun i σ' H' _ q => sq_of (hE _ _ _ _ q _ _ upd_same)) (fun i x σ' H' hi q => ?_) (fun σ' H' q => ?_)
  · rw [List.getElem?_map] at hi
    obtain ⟨a, hai, rfl⟩ := Option.map_eq_some_iff.mp hi
    have hil : i < pss.length := by
      have := (List.getElem?_eq_some_iff.mp hai).1
      omega
    have hxs : pss[i]? = some pss[i] := List.getElem?_eq_getElem hil
    have hta := ha i a _ hai hxs
    have nap : a ≠ p := fun z => by rw [z, hp] at hta; cases hta
    exact hs _ i a _ σ' H' hxs q (hE _ _ _ _ q _ _ (by rw [upd_ne nap]; exact hta))
  · rw [hn] at q
    exact hd _ σ' H' q
end
end Tw
set_option Elab.async false
set_option linter.all false
set_option maxRecDepth 100000
set_option maxHeartbeats 4000000
namespace Tw
open PySem PySem.Spec PyProof.Rows L2 L2H
/-! ### a list comprehension where an exception is handled -/
abbrev blkH (X : Cx) (s : Shared) (H : Hp) (scope : Scope) (cenv : Env) (fp : List Addr) : Cx := { X with s_0 := s, H_0 := H, env := cenv, outer := X.stack, ex := fp, fn := fun x => scope.names.lookup x == some .cell, xe := fun _ _ => False }
section
variable {X : Cx} {pins : List (Addr × Obj)} {σ : L2.St} {H : Hp} {s : Shared}
theorem inv_blkH {scope : Scope} {ce : Env} {fp : List Addr} {s3 s4 : Shared} {H3 : Hp} {σ4 : L2.St} (I3 : Inv X pins σ H3 s3) (hL : s3.heap.objs.size ≤ ce.locals) (hk : ∀ b o, s3.heap.get? b = some o → s4.heap.get? b = some o)
    (I4 : Inv (X.blk s3 H3 scope ce fp) [] σ4 H3 s4) : Inv (blkH X s3 H3 scope ce fp) [] σ4 H3 s4 := by
  have ok := I4.ok
  refine ⟨⟨ok.mod, ok.kind, ok.glob, ok.blt, ok.above, ok.inj, ok.has, ok.cab, ok.hd, ok.frames, ok.stk, ok.exf, ok.bs, ok.bsz, ok.noex, ok.exfs, ok.funs, ok.frf⟩, I4.os, I4.bare, I4.base, I4.loc, I4.cell, I4.free, I4.freeC, fun p hp => ?_, I4.hok, I4.len⟩
  have hp' : p ∈ X.pn := by
    rcases List.mem_append.mp hp with z | z
    · exact z
    · exact absurd z (List.not_mem_nil)
  obtain ⟨h1, h2, h3, h4, h5⟩ := I3.pin p (List.mem_append_left _ hp')
  refine ⟨hk _ _ h1, h2, Nat.ne_of_lt (Nat.lt_of_lt_of_le (Heap.lt_size h1) hL), fun z => ?_, h5⟩
  have z' : p.1 ∈ frs X.stack := z
  rcases I3.ok.stk with e | ⟨e, ef⟩
  · rw [e] at z'
    exact h4 z'
  · rw [e] at z'
    obtain ⟨q, hq, hf⟩ := List.mem_filterMap.mp z'
    rcases List.mem_cons.mp hq with hq | hq
    · rw [hq, ef] at hf
      exact h3 (Option.some.inj hf).symm
    · exact h4 (List.mem_filterMap.mpr ⟨q, hq, hf⟩)
theorem lcH_core {Q : VK} {elt tg iter : Expr} {ifs : List Expr} {scope : Scope} {own : List (Str × Nat)} {pos pos' : Pos} {wi : TI} {g : TG} {tt : TT} {te : TE} {use : Option (Value → Sem Unit)} {Qf : Value → Shared → Prop}
    (hc : HotC X) (hN : X.N.Nodup) (I : Inv X pins σ H s) (hi : PIH X tg iter wi) (ok : BlkOk X.N X.env.scope scope own)
    (hg : ∀ (s : Shared) (H : Hp) (C : Addr) (cl : List (Str × Addr)) (fp : List Addr), PG (blkH X s H scope (compEnvC scope cl C X.env) fp) tg g) (ht : ∀ (s : Shared) (H : Hp) (C : Addr) (cl : List (Str × Addr)) (fp : List Addr), PTs (blkH X s H scope (compEnvC scope cl C X.env) fp) ifs tt)
    (he : ∀ (s : Shared) (H : Hp) (C : Addr) (cl : List (Str × Addr)) (fp : List Addr), PE (blkH X s H scope (compEnvC scope cl C X.env) fp) elt te) (hs : ∀ x, foldedSetIterable iter X.env x = pure x)
    (h : tLc wi g tt te (own.map (·.2)) σ H Q)
    (hRR : ∀ D C s' m H', Inv X pins σ H' s' → Q (.ref D) H' → s'.heap.Ns C m → FpOk X pins H' C → compPost (model X.prog X.w) X.A X.xe use Qf (.ref D) C (.ok .next) s') :
    wpAny (model X.prog X.w) X.A (comprehension (.ListComp elt [⟨tg, iter, ifs, 0⟩] scope pos) scope X.env pos' (newList []) false (eval iter X.env) use) Qf X.xe s := by
  have hfree : ∀ y ∈ scope.names, y.2 = .free → ∃ c, X.env.cells.lookup y.1 = some c := fun y hy e => by
    rcases ok.free y hy e with k | k
    · exact I.ok.has _ (.inl k)
    · exact I.ok.has _ (.inr k)
  refine wpAny_comprehension_free (use := use) rfl hs (closure_ok hfree) ok.kind (fun y hy e => by rw [ok.uniq y hy, e])
    (thn (hi.run pins s σ H _ I h) fun xv s1 hx => thn hx fun itv s2 h2 => ?_)
  obtain ⟨it, fp, tn, J, H2, e, I2, T, st2, f2, q⟩ := h2
  subst e
  refine wpAny_newObj_type (newEnv_comp ?_) (by show 0 ≤ sizeLine; decide)
  generalize hD : s2.heap.objs.size = D
  have hDn : H2 D = none := I2.hok.fresh (Nat.le_of_eq hD)
  obtain ⟨W, ⟨m0, w0⟩, turn⟩ := q D hDn
  generalize hs3 : ({ s2 with heap := s2.heap.push { cls := .type "list", data := .seq ([] : List Value).toArray } } : Shared) = s3
  have I3 : Inv X pins σ (upd H2 D (.lst [])) s3 := by
    rw [← hs3]
    refine I2.laid (t' := s2.toks) (fun b o e => Heap.get?_push_of_some _ e) (Nat.le_of_eq hD) ⟨Nat.zero_le _, [], 0, .nil, ?_⟩
    rw [← hD]
    exact Heap.get?_push_size _ rfl
  have h3 : s3.heap = s2.heap.push { cls := .type "list", data := .seq ([] : List Value).toArray } := by rw [← hs3]
  have sz : ∀ b ∈ fp, b < s2.heap.objs.size := fun b hb => by
    obtain ⟨o, e, _⟩ := T.obj _ _ st2 b hb
    exact Heap.lt_size e
  have f3 : ∀ b ∈ fp, FpOk X pins (upd H2 D (.lst [])) b ∧ b < s3.heap.objs.size := fun b hb => by
    have hlt := sz b hb
    refine ⟨⟨?_, (f2 b hb).2⟩, by rw [h3, Heap.size_push]; exact Nat.lt_succ_of_lt hlt⟩
    rw [upd_ne (by rw [← hD]; exact Nat.ne_of_lt hlt)]
    exact (f2 b hb).1
  have st3 : tn 0 s3.heap := T.keep _ _ _ st2 fun b _ o e => by rw [h3]; exact Heap.get?_push_of_some _ e
  have I4 := block_start I3 ok hN f3
  have pg := hg s3 (upd H2 D (.lst [])) s3.heap.objs.size (cellsFrom (s3.heap.objs.size + 1) scope.names (cloFrom X.env.cells scope.names [])) fp
  have pt := ht s3 (upd H2 D (.lst [])) s3.heap.objs.size (cellsFrom (s3.heap.objs.size + 1) scope.names (cloFrom X.env.cells scope.names [])) fp
  have pe := he s3 (upd H2 D (.lst [])) s3.heap.objs.size (cellsFrom (s3.heap.objs.size + 1) scope.names (cloFrom X.env.cells scope.names [])) fp
  show codeAny _ _ (.compStart (.ListComp elt [⟨tg, iter, ifs, 0⟩] scope pos) 0 (.ref it) (.ref D) (compEnvC scope (cellsFrom (s3.heap.objs.size + 1) scope.names (cloFrom X.env.cells scope.names [])) s3.heap.objs.size X.env)) (compPost (model X.prog X.w) X.A X.xe use Qf (.ref D) s3.heap.objs.size) { s3 with heap := pushCells (s3.heap.push { cls := .type "dict", data := .dict #[] }) scope.names }
  have nfp : ∀ b ∈ fp, (upd H2 D (.lst [])) b = none := fun b hb => (f3 b hb).1.1
  have I4' := inv_blkH I3 (ce := compEnvC scope (cellsFrom (s3.heap.objs.size + 1) scope.names (cloFrom X.env.cells scope.names [])) s3.heap.objs.size X.env) (Nat.le_refl _) (fun b o e => pushCells_keeps _ _ _ _ (Heap.get?_push_of_some _ e)) I4
  clear I4
  have I4 := I4'
  clear I4'
  generalize hce : compEnvC scope (cellsFrom (s3.heap.objs.size + 1) scope.names (cloFrom X.env.cells scope.names [])) s3.heap.objs.size X.env = ce at I4 pg pt pe ⊢
  have cL : ce.locals = s3.heap.objs.size := by subst hce; rfl
  generalize hH3 : upd H2 D (.lst []) = H3 at I3 I4 pg pt pe w0 nfp f3
  generalize hs4 : ({ s3 with heap := pushCells (s3.heap.push { cls := .type "dict", data := .dict #[] }) scope.names } : Shared) = s4 at I4 ⊢
  have st4 : tn 0 s4.heap := T.keep _ _ _ st3 fun b _ o e => by rw [← hs4]; exact pushCells_keeps _ _ _ _ (Heap.get?_push_of_some _ e)
  have hcB : HotC (blkH X s3 H3 scope ce fp) := hc
  have stat : ∀ {σ' : L2.St} {H' : Hp} {s' : Shared}, Inv (blkH X s3 H3 scope ce fp) [] σ' H' s' → (∀ b ∈ fp, H' b = none) → ∀ b ∈ fp, FpOk (blkH X s3 H3 scope ce fp) [] H' b := fun {σ' H' s'} I' hn b hb =>
    ⟨hn b hb, (I'.ok.exf b hb).1, I'.ok.exfs b hb, .inl hb, fun x c e => (I'.ok.exf b hb).2 x c e, fun p hp => (f3 b hb).1.2.2.2.2.2 p (by
      rcases List.mem_append.mp hp with z | z
      · exact List.mem_append_left _ z
      · exact absurd z (List.not_mem_nil))⟩
  have loop : codeAny (model X.prog X.w) X.A (.compLoop (.ListComp elt [⟨tg, iter, ifs, 0⟩] scope pos) 0 (.ref it) (.ref D) ce) (compPost (model X.prog X.w) X.A X.xe use Qf (.ref D) s3.heap.objs.size) s4 := by
    refine compLoop_any (fun n s' => ∃ i H', Inv (blkH X s3 H3 scope ce fp) [] (wipe σ (own.map (·.2))) H' s' ∧ tn i s'.heap ∧ (∀ b ∈ fp, H' b = none) ∧ W i n H') ?_ m0 ⟨0, H3, I4, st4, nfp, w0⟩
    rintro n s5 ⟨i, H5, I5, st5, n5, w5⟩
    rcases turn i n H5 w5 with ⟨stop, qq⟩ | ⟨go, Nx, hNx, step⟩
    · have td := T.done (blkH X s3 H3 scope ce fp) rfl rfl rfl hcB i [] s5 _ H5 (fun _ _ => False) I5 (stat I5 n5) st5 stop
      refine thnF td fun r s6 ⟨hr, I6⟩ => ?_
      subst hr
      have I7 : Inv X pins σ H5 s6 := I3.call' (ch := fp) I6.os I6.base I6.hok I6.bare fun b hb => ⟨(f3 b hb).1.2.2.2.1, (f3 b hb).1.2.1, (f3 b hb).1.2.2.2.2.1, (f3 b hb).1.2.2.2.2.2⟩
      have nC : H5 s3.heap.objs.size = none := by
        have z : H5 ce.locals = none := I6.free
        rw [cL] at z
        exact z
      obtain ⟨m, hn, _⟩ := I6.loc
      have hn : s6.heap.Ns ce.locals m := hn
      rw [cL] at hn
      exact hRR D s3.heap.objs.size s6 m H5 I7 qq hn (I3.fpOk (Nat.le_refl _) nC)
    · have ti := T.item (blkH X s3 H3 scope ce fp) rfl rfl rfl hcB i [] s5 _ H5 (fun _ _ => False) I5 (stat I5 n5) st5 go
      refine thnF ti fun r s6 ⟨u, hr, h6⟩ => ?_
      subst hr
      refine thnF h6 fun _ s7 ⟨x, H7, I7, r7, y7, st7, n7⟩ => ?_
      have I7' := I7.pinned (stat I7 n7) (T.obj _ _ st7)
      refine thnF (pg.run _ s7 _ H7 x u _ I7' r7 (step x H7 y7)) fun _ s8 ⟨σ8, H8, I8, hw8, q8⟩ => ?_
      refine thnF (pt.run _ s8 σ8 H8 _ I8 q8) fun b s9 ⟨H9, I9, q9⟩ => ?_
      have fin : ∀ {s' : Shared} {H' : Hp}, Inv (blkH X s3 H3 scope ce fp) ([] ++ pinsAt fp s7.heap) σ8 H' s' → Nx H' → ∃ m, m < n ∧ ∃ i H', Inv (blkH X s3 H3 scope ce fp) [] (wipe σ (own.map (·.2))) H' s' ∧ tn i s'.heap ∧ (∀ b ∈ fp, H' b = none) ∧ W i m H' := fun {s' H'} I' nx => by
        obtain ⟨m', hm, w'⟩ := hNx H' nx
        have pin' : ∀ b ∈ fp, ∀ o, s7.heap.get? b = some o → s'.heap.get? b = some o ∧ H' b = none := fun b hb o e =>
          let z := I'.pin (b, o) (List.mem_append_right _ (List.mem_append_right _ (mem_pinsAt hb e)))
          ⟨z.1, z.2.1⟩
        have hl : (wipe σ (own.map (·.2))).length = σ8.length := by rw [← hw8, wipe_length]
        refine ⟨m', hm, i + 1, H', (I'.unpinned (pins := [])).weak hl (fun j v e => ?_), T.keep _ _ _ st7 fun b hb o e => (pin' b hb o e).1, fun b hb => ?_, w'⟩
        · rw [← hw8] at e
          exact (wipe_some e).1
        · obtain ⟨o, e, _⟩ := T.obj _ _ st7 b hb
          exact (pin' b hb o e).2
      cases b with
      | false =>
        simp only [Bool.false_eq_true, if_false] at q9 ⊢
        exact fin I9 q9
      | true =>
        simp only [if_true] at q9 ⊢
        refine thnF (pe.run _ s9 σ8 H9 _ I9 q9) fun z s10 ⟨yv, H10, I10, r10, acc, hD10, hz10, nx⟩ => ?_
        exact app_ok (X := blkH X s3 H3 scope ce fp) I10 hD10 hz10 r10 fun s11 I11 => fin I11 nx
  exact codeAny_compStart_list loop (T.self X.A 0 _ _ _ st4 loop)
theorem pe_lcH {elt tg iter : Expr} {ifs : List Expr} {scope : Scope} {own : List (Str × Nat)} {pos : Pos} {wi : TI} {g : TG} {tt : TT} {te : TE} (hc : HotC X) (hN : X.N.Nodup) (hi : PIH X tg iter wi) (ok : BlkOk X.N X.env.scope scope own)
    (hg : ∀ (s : Shared) (H : Hp) (C : Addr) (cl : List (Str × Addr)) (fp : List Addr), PG (blkH X s H scope (compEnvC scope cl C X.env) fp) tg g) (ht : ∀ (s : Shared) (H : Hp) (C : Addr) (cl : List (Str × Addr)) (fp : List Addr), PTs (blkH X s H scope (compEnvC scope cl C X.env) fp) ifs tt)
    (he : ∀ (s : Shared) (H : Hp) (C : Addr) (cl : List (Str × Addr)) (fp : List Addr), PE (blkH X s H scope (compEnvC scope cl C X.env) fp) elt te) (hs : ∀ x, foldedSetIterable iter X.env x = pure x := by intro _; rfl) :
    PE X (.ListComp elt [⟨tg, iter, ifs, 0⟩] scope pos) (tLc wi g tt te (own.map (·.2))) := by
  refine ⟨fun pins s σ H Q I h => ?_⟩
  rw [eval_ListComp]
  refine lcH_core hc hN I hi ok hg ht he hs h fun D C s' m H' I' q hn f => ⟨m, hn, fun h'' sb => ?_⟩
  obtain ⟨f0, f1, f2, f3, f4, f5⟩ := f
  exact ⟨.ref D, H', I'.turned (t' := s'.toks) (fun b o hb e => (sb.2 b hb).trans e) f0 f1 f3 f4 f5, rfl, q⟩
/-! ### isinstance of the handled exception, where it is a pin -/
def rIsP (K : PySem.W.Frag) (cls : Value) (d : Option Addr) (a : Addr) : List V → Hp → VK → Prop := fun xs H Q => ∃ (D : Addr) (c : V) (cv : Value) (b : Bool), cls = .ref D ∧ d = none ∧ ExcC K D ∧ xs = [.ref a, c] ∧ (∀ u, RelV c u → u = cv) ∧ PySem.W.kitOne K (.ref D) cv = some b ∧ Q (.bl b) H
theorem call_isP {K : PySem.W.Frag} {a : Addr} {cls : Value} {d : Option Addr} {oe : Obj} (hK : X.K = K) (hp : (a, oe) ∈ X.pn) (hz : Zc cls d oe) (hf : ∃ vs, oe.data = .fields vs) : CallR X (.builtin "isinstance") (rIsP K cls d a) := by
  subst hK
  intro pins s σ H xs us Q I r h
  obtain ⟨D, c, cv, b, rfl, rfl, C, rfl, hcv, e, q⟩ := h
  cases r with
  | cons rx rr =>
    cases rr with
    | cons rt rr =>
      cases rr
      cases rx
      have ec := hcv _ rt
      subst ec
      obtain ⟨hget, _⟩ := I.pin (a, oe) (List.mem_append_left _ hp)
      obtain ⟨vs, hv⟩ := hf
      have J : PySem.W.InstAt s.heap a oe D none := by
        obtain ⟨oc, od, oda, osl⟩ := oe
        obtain ⟨h1, h2⟩ := hz
        dsimp only at h1 h2 hv
        subst h1 h2 hv
        exact ⟨hget, rfl, rfl, trivial⟩
      exact PySem.W.kia_one (PySem.W.handS_kitx_exc C.hg C.hk C.hs C.hd C.ha C.hn C.ht C.hm) I.kIn J e (fun z => nomatch z) fun tk => ⟨.bl b, H, I.kept (t' := tk) fun _ _ z => z, rfl, q⟩
end
end Tw
namespace Tw
open PySem PySem.Spec PyProof.Rows L2 L2H
/-! ### a def that is handed the handled exception -/
structure FnP (P : Program) (w : World) (K : PySem.W.Frag) (mg : Str → Option Value) (base : Heap) (CX : CXT) (k : Nat) (f : Addr) (fd : FuncData) (ps : List Str) (sp : Addr → Value → Option Addr → Sp) : Prop where
  len : ∀ a c d vs H Q E, sp a c d vs H Q E → vs.length = ps.length
  run : ∀ (A : Around) (outer : List Env) (s : Shared) (H : Hp) (args : Args) (us : List Value) (vs : List V) (Q : VK) (E : XK) (p : Addr × Obj) (c : Value) (d : Option Addr), Zc c d p.2 → RoomH k A → Hot1 A p → PinOk outer H s p → Env0 P w K mg base A outer s H → BindsTo s fd args (ps.zip us) → Vals vs us → sp p.1 c d vs H Q E →
    codeAny (model P w) A (.call (.ref f) args) (CR CX outer P w H s Q E) s
theorem fn_ofP {CX : CXT} {P : Program} {w : World} {K : PySem.W.Frag} {mg : Str → Option Value} {base : Heap} {k : Nat} {f : Addr} {name qual : Str} {params : Arguments} {body : List Stmt} {scope : Scope} {dV kV doc pm cdv ct oc : Value} {an od : Option Addr}
    {osl : Array (Option Value)} {N ps : List Str} {sp : Addr → Value → Option Addr → Sp} (lk : K.lookup f = some ⟨oc, od, .func (PySem.W.fnOf name qual params body scope dV kV doc pm an cdv ct), osl⟩) (hcd : PySem.W.codeIn K cdv qual = true) (S : FnScope N ps scope)
    (len : ∀ a c d vs H Q E, sp a c d vs H Q E → vs.length = ps.length)
    (hbody : ∀ (A : Around) (outer : List Env) (s : Shared) (H : Hp) (vs : List V) (Q : VK) (E : XK) (p : Addr × Obj) (c : Value) (d : Option Addr), Zc c d p.2 → Hot1 A p → RoomH k (A.deeper (envOfC qual scope s.heap.objs.size f cdv)) → sp p.1 c d vs H Q E →
      ∃ t, PSs (cxH CX P w K mg base N qual scope f cdv A outer s H E p) body t ∧ t { nx := fun _ H' => Q .non H', rt := Q } (L2.start N vs) H) :
    FnP P w K mg base CX (k + 1) f (PySem.W.fnOf name qual params body scope dV kV doc pm an cdv ct) ps sp := by
  refine ⟨len, fun A outer s H args us vs Q E p c d hz hr hot hpin e0 hb r hsp => ?_⟩
  have hl := len _ _ _ _ _ _ _ hsp
  have KX : K.In s.heap := e0.mod.kin.keeps fun b o e => (e0.bs b o e).1
  have lim : s.heap.NoLimit := e0.mod.nolimit.keeps fun b o e => (e0.bs b o e).1
  have hkind : ∀ y ∈ ps.zip us, scope.names.lookup y.1 = some .local ∨ (scope.names.lookup y.1 = some .cell ∧ ((cellsFrom (s.heap.objs.size + 1) scope.names []).lookup y.1).isSome = true) := fun ⟨n, v⟩ hy => by
    rcases S.par n (List.of_mem_zip hy).1 with q | q
    · exact .inl q
    · exact .inr ⟨q, PySem.W.cellsFrom_some _ _ _ (.inl q)⟩
  refine codeAny_call_function hr.depth (KX _ _ lk) rfl S.co S.gen rfl (PySem.W.codeRec_of KX hcd) (hb _ _ _ _ ?_)
  refine wpAny_newFunctionEnv_cells S.kind hkind fun env he s1 x => ?_
  subst he
  refine ⟨lim.keeps x.toInCall.keep, codeAny_func ?_⟩
  obtain ⟨t, ht, hq⟩ := hbody A outer s H vs Q E p c d hz hot (hr.deeper _) hsp
  have I : Inv (cxH CX P w K mg base N qual scope f cdv A outer s H E p) [] (L2.start N vs) H s1 := inv_startH S hpin e0 hl r x
  refine wpAny_mono (ht.run [] s1 (L2.start N vs) H _ I hq) (fun fl s' hs => ?_) fun e s' hs => hs
  have fin : ∀ {σ' : L2.St} {H' : Hp} {v : V} {u : Value}, Inv (cxH CX P w K mg base N qual scope f cdv A outer s H E p) [] σ' H' s' → RelV v u → Q v H' → CE outer P w H s Q u s' :=
    fun {σ' H' v u} J rv q => ⟨v, H', J.os, J.bare, J.base, J.hok, rv, q⟩
  cases fl with
  | ret u =>
    obtain ⟨v, σ', H', J, rv, q⟩ := hs
    exact fin J rv q
  | next =>
    obtain ⟨σ', H', J, q⟩ := hs
    exact fin (v := V.non) (u := Value.none) J rfl q
  | brk =>
    obtain ⟨_, _, _, q⟩ := hs
    exact False.elim q
  | cont =>
    obtain ⟨_, _, _, q⟩ := hs
    exact False.elim q
section
variable {P : Program} {w : World} {K : PySem.W.Frag} {mg : Str → Option Value} {base : Heap}
theorem Fun.okP {x qual : Str} {st : Stmt} {f : Addr} {fd : FuncData} {N ps : List Str} {k : Nat} {sp : Addr → Value → Option Addr → Sp} (F : Fun K x qual st f fd) (S : FnScope N ps (defScope st)) (len : ∀ a c d vs H Q E, sp a c d vs H Q E → vs.length = ps.length)
    (hbody : ∀ (cdv : Value) (A : Around) (outer : List Env) (s : Shared) (H : Hp) (vs : List V) (Q : VK) (E : XK) (p : Addr × Obj) (c : Value) (d : Option Addr), Zc c d p.2 → Hot1 A p → sp p.1 c d vs H Q E →
      ∃ t, PSs (cxH CX0 P w K mg base N qual (defScope st) f cdv A outer s H E p) (defBody st) t ∧ t { nx := fun _ H' => Q .non H', rt := Q } (L2.start N vs) H) : FnP P w K mg base CX0 (k + 1) f fd ps sp := by
  obtain ⟨oc, od, kV, doc, pm, an, cdv, ct, osl, rfl, lk, hcd⟩ := F.ex
  exact fn_ofP lk hcd S len fun A outer s H vs Q E p c d hz hot hr hsp => hbody cdv A outer s H vs Q E p c d hz hot hsp
/-- a def that may raise, nothing being handled -/
theorem Fun.okN {x qual : Str} {st : Stmt} {f : Addr} {fd : FuncData} {N ps : List Str} {k : Nat} {sp : Sp} (F : Fun K x qual st f fd) (S : FnScope N ps (defScope st)) (len : ∀ vs H Q E, sp vs H Q E → vs.length = ps.length)
    (hbody : ∀ (cdv : Value) (A : Around) (outer : List Env) (s : Shared) (H : Hp) (vs : List V) (Q : VK) (E : XK), Room k (A.deeper (envOfC qual (defScope st) s.heap.objs.size f cdv)) → sp vs H Q E →
      ∃ t, PSs (cxOf (L2N.CX P w) P w K mg base N qual (defScope st) f cdv A outer s H E) (defBody st) t ∧ t { nx := fun _ H' => Q .non H', rt := Q } (L2.start N vs) H) : FnOk P w K mg base (L2N.CX P w) (k + 1) f fd ps sp := by
  obtain ⟨oc, od, kV, doc, pm, an, cdv, ct, osl, rfl, lk, hcd⟩ := F.ex
  exact fn_of lk hcd S len fun A outer s H vs Q E hr hsp => hbody cdv A outer s H vs Q E hr hsp
end
section
variable {X : Cx} {CX : CXT} {k : Nat} {f C : Addr} {fd : FuncData} {ps : List Str} {sp : Addr → Value → Option Addr → Sp} {x : Str} {q pos : Pos} {e : Expr} {es : List Expr} {t : TA}
theorem pe_callP {a : Addr} {oe : Obj} {c : Value} {d : Option Addr} (F : FnP X.prog X.w X.K X.mg X.base CX0 k f fd ps sp) (hr : RoomH k X.A) (hot : Hot1 X.A (a, oe)) (hp : (a, oe) ∈ X.pn) (hz : Zc c d oe) (hg : Gl X x) (hm : X.mg x = some (.ref f)) (hk : PySem.W.keepIn X.K (.ref f) = true) (hb : Binds X.K fd ps [])
    (ha : PA X (e :: es) t) (hdb : (x == ("__debug__" : Str)) = false := by decide) (he : starEach (e :: es) X.env = (false, eval e X.env) :: starEach es X.env := by rfl) (hpl : (backTo pos (starEach es X.env)).any (·.1) = false := by rfl) :
    PE X (.Call (.Name x q) (e :: es) [] pos) (tCall (sp a c d) [] E0 t) := by
  refine ⟨fun pins s σ H Q I h => ?_⟩
  refine wpAny_Call_Name_kw (ld_glob I hg hm ?_ hdb)
  refine PySem.W.callWith_K (h₀ := X.base) I.ok.mod.kin hk (thn (ha.run pos pins s σ H _ I h) fun us s1 ⟨vs, H1, I1, r, q⟩ => ⟨I1.kIn, ?_⟩) he hpl
  have q : sp a c d (vs ++ []) H1 Q E0 := q
  rw [List.append_nil] at q
  have hl : us.length = ps.length := by rw [← r.length]; exact F.len _ _ _ _ _ _ _ q
  have b := hb s1 us I1.kIn (by rw [List.append_nil]; exact hl)
  rw [List.append_nil] at b
  have P1 := I1.pin (a, oe) (List.mem_append_left _ hp)
  have hpin : PinOk X.stack H1 s1 (a, oe) := ⟨P1.1, P1.2.1, fun hm => (List.mem_cons.mp (I1.stkSub a hm)).elim P1.2.2.1 P1.2.2.2.1, P1.2.2.2.2⟩
  refine wpAny_call (codeAny_mono (F.run X.A X.stack s1 H1 ⟨us, []⟩ us vs Q E0 (a, oe) c d hz hr hot hpin I1.env0 b r q) fun r s' hq => ?_)
  cases r with
  | error e => exact False.elim hq
  | ok fl =>
    cases fl with
    | ret u => exact I1.after hq
    | next => exact False.elim hq
    | brk => exact False.elim hq
    | cont => exact False.elim hq
/-- nothing is let out around -/
theorem takesN0 : L2N.Takes X (fun _ _ _ _ => False) := fun _ _ x => by
  obtain ⟨_, _, _, _, _, _, _, _, _, _, _, _, _, _, _, _, z⟩ := x
  exact z.elim
end
/-! ### what the written part says of an own exception class -/
structure ExF (K : PySem.W.Frag) (C : Addr) : Prop where
  x : PySem.W.excIn K C [.type "ValueError", .type "Exception", .type "BaseException", .type "object"] "ValueError.__new__" = true
  k : PySem.W.keepIn K (.ref C) = true
  t : PySem.W.typeIn K (.ref C) = some (.type "type")
  e : ExcC K C
theorem kit_ref {K : PySem.W.Frag} {D C : Addr} {b : Bool} (hd : PySem.W.hasDictIn K C = true) (ht : PySem.W.typeIn K (.ref C) = some (.type "type")) (hs : PySem.W.subIn K (.ref D) (.ref C) = some b) (hb : D = C → b = true) : PySem.W.kitOne K (.ref D) (.ref C) = some b := by
  unfold PySem.W.kitOne
  split
  · rename_i h
    have e : Value.ref D = Value.ref C := eq_of_beq h
    injection e with e
    rw [hb e]
  · obtain ⟨cd, hc, _⟩ := PySem.W.any_some hd
    show PySem.W.kitCls K (.ref D) (.ref C) = some b
    unfold PySem.W.kitCls
    show (if ((PySem.W.clsIn K C).isSome && PySem.W.typeIn K (.ref C) == some (.type "type")) = true then PySem.W.subIn K (.ref D) (.ref C) else none) = some b
    rw [if_pos (by rw [hc, ht] <;> rfl)]
    exact hs
theorem kit_bt {K : PySem.W.Frag} {D : Addr} {T : String} {b : Bool} (ht : PySem.W.kitMeta T = true) (hs : PySem.W.subIn K (.ref D) (.type T) = some b) : PySem.W.kitOne K (.ref D) (.type T) = some b := by
  unfold PySem.W.kitOne
  rw [if_neg (fun h => by have e := eq_of_beq h; cases e)]
  show PySem.W.kitCls K (.ref D) (.type T) = some b
  unfold PySem.W.kitCls
  show (if PySem.W.kitMeta T = true then PySem.W.subIn K (.ref D) (.type T) else none) = some b
  rw [if_pos ht]
  exact hs
section
variable {X : Cx}
/-- a call that lets nothing out after all -/
theorem passN : Passes (L2N.CX X.prog X.w) X E0 := fun _ _ _ _ _ _ _ h => by
  obtain ⟨_, _, _, _, _, _, _, _, _, _, _, _, z⟩ := h
  exact z.elim
theorem roomH_suite {k : Nat} {A : Around} {v : Option Value} (r : Room k A) : RoomH k (A.mark v) := ⟨r.dp, r.un⟩
/-- the handled exception of a suite -/
theorem hot_suite {A : Around} {a : Addr} {oe : Obj} {cls : Value} {d : Option Addr} (hz : L2N.Zn cls d oe) (hf : ∃ vs, oe.data = .fields vs) : Hot1 (A.mark (some (.ref a))) (a, oe) := by
  obtain ⟨vs, hv⟩ := hf
  exact ⟨rfl, vs, hv, hz.2.2 vs hv⟩
end
section
variable {K : PySem.W.Frag} {σ : L2.St} {H : Hp} {D : Ends}
open Evl
theorem s_dropS {ta : TA} {sp : Sp} {vs : List V} {E : L2.St → XK} (h : EvA ta σ H vs) (k : ∀ H1, Ex H H1 → sp vs H1 (fun _ H2 => D.nx σ H2) (E σ)) : tDrop (tCallS sp E ta) D σ H := h H (Ex.refl H) _ k
/-- if f(..) is not None, told by f's own promise -/
theorem s_ifNotN {ta : TA} {sp : Sp} {dvs vs : List V} {E : XK} {tu tw : TS} (h : EvA ta σ H vs) (k : ∀ H1, Ex H H1 → sp (vs ++ dvs) H1 (fun x H2 => rNotN x .non H2 fun z H' => ∃ c, z = .bl c ∧ (if c = true then tu D σ H' else tw D σ H')) E) :
    tIfS (tTest (tOp rNotN (tCall sp dvs E ta) (tC .non))) tu tw D σ H := h H (Ex.refl H) _ k
theorem rc_isP {a C Dd : Addr} {cls : Value} {d : Option Addr} {b : Bool} (h1 : cls = .ref Dd) (h2 : d = none) (ec : ExcC K Dd) (hk : PySem.W.kitOne K (.ref Dd) (.ref C) = some b) : RC (rIsP K cls d a) [.ref a, .ref C] H (.bl b) :=
  fun H1 _ _ q => ⟨Dd, .ref C, .ref C, b, h1, h2, ec, rfl, fun _ r => r, hk, q H1 (Ex.refl H1)⟩
theorem rc_isPT {a Dd : Addr} {T : String} {cls : Value} {d : Option Addr} {b : Bool} (h1 : cls = .ref Dd) (h2 : d = none) (ec : ExcC K Dd) (hk : PySem.W.kitOne K (.ref Dd) (.type T) = some b) : RC (rIsP K cls d a) [.ref a, .ty T] H (.bl b) :=
  fun H1 _ _ q => ⟨Dd, .ty T, .type T, b, h1, h2, ec, rfl, fun _ r => r, hk, q H1 (Ex.refl H1)⟩
/-- the refusal by its number -/
def sp_kind (K : PySem.W.Frag) (L : List Addr) : Addr → Value → Option Addr → Sp := fun a cls d vs H Q _ => ∃ (Dd : Addr) (j : Nat), cls = .ref Dd ∧ d = none ∧ vs = [.ref a] ∧ ExcC K Dd ∧ j < 10 ∧ (∀ i C, L[i]? = some C → PySem.W.kitOne K (.ref Dd) (.ref C) = some (decide (i = j))) ∧ RetV (.int (11 + (j : Int))) H Q
end
/-! ### the end of a list's walk, and sum, where an exception is handled -/
section
open PySem PySem.Calls HotX
variable {prog : Program} {w : World} {A : Around} {E : Value → Shared → Prop} {s : Shared}
def HotObj (x1 : Addr) (h : Heap) : Prop := ∃ (o : Obj) (vs : Array Value), h.get? x1 = some o ∧ o.data = .fields vs ∧ vs[2]? = some .none
theorem pyNext_list_end_hot {it l x1 : Addr} {i : Nat} {items : Array Value} {Q : Option Value → Shared → Prop} (hh : A.handled = some (.ref x1)) (hot : HotObj x1 s.heap)
    (hit : s.heap.IsListIter it l i) (hl : s.heap.IsList l items) (hx : items[i]? = none)
    (hQ : ∀ h', Heap.ExtBut it s.heap h' → Q none { s with heap := h' }) : wpAny (model prog w) A (pyNext (.ref it)) Q E s := by
  obtain ⟨o, ho, hc, hd⟩ := id hit
  obtain ⟨ol, hol, _, nl, hdl⟩ := hl
  obtain ⟨o1, vs1, h1, d1, c1⟩ := hot
  have nx : x1 ≠ it := fun z => by
    rw [z, ho] at h1
    cases h1
    rw [hd] at d1
    cases d1
    cases c1
  unfold pyNext
  refine wpAny_bind (wpAny_attempt (wpAny_callSpecial?_slot (name := Str.ofString "__next__") hit.typeIs slot_listiter_next
    (wpAny_call_entry slot_listiter_next hit.typeIs entry_listiter_next ?_ (args_listiter_next _))))
  show wpAny _ _ (field (.ref it) 0 >>= _) _ _ s
  refine wpAny_bind (wpAny_field ho hd (x := .ref l) rfl ?_)
  show wpAny _ _ (if (Value.ref l == Value.none) = true then _ else _) _ _ s
  rw [if_neg (show ¬ ((Value.ref l == Value.none) = true) from Bool.false_ne_true)]
  show wpAny _ _ (field (.ref it) 1 >>= _) _ _ s
  refine wpAny_bind (wpAny_field ho hd (x := .int i 0) rfl ?_)
  show wpAny _ _ (seqItems? (.ref l) >>= _) _ _ s
  refine wpAny_bind (wpAny_seqItems hol hdl ?_)
  simp only [Int.toNat_natCast, hx]
  refine wpAny_bind (wpAny_rule (wpAny_bind (wpAny_setField ho hd (by simp) ?_)))
  show wpAny _ _ (newExc (.type "StopIteration") [] >>= _) _ _ _
  refine wpAny_bind ?_
  simp only [newExc, newTuple]
  refine wpAny_bind (wpAny_newObj_type ?_ (by size_fits))
  refine wpAny_bind (m := firstArgMember _ _) (wpAny_of_eq (a := Value.none) (by first | rfl | (simp only [firstArgMember]; rfl)) ?_)
  refine wpAny_newObj_type ?_ (by size_fits)
  have h1' := (Heap.get?_update_other s.heap (Obj.mapFields (·.setIfInBounds 0 .none)) (Ne.symm nx)).trans h1
  refine raiseNew_hot ⟨hh, o1, vs1, Heap.get?_push_of_some _ (Heap.get?_push_of_some _ h1'), d1, c1⟩ (Nat.ne_of_lt (Heap.lt_size (Heap.get?_push_of_some _ h1'))) (Heap.get?_push_size _ rfl) rfl (by first | (simp; done) | (simp; omega) | (simp only [Array.size_append]; simp; omega)) ?_
  refine wpAny_bind (wpAny_isInstance (T := "StopIteration") (b := true) ⟨_, Heap.get?_update_self _ (Heap.get?_push_size _ rfl) rfl, rfl⟩ isSubtype_stop ?_)
  refine wpAny_pure (hQ _ fun b o hb e => ?_)
  have e1 := (Heap.get?_update_other s.heap (Obj.mapFields (·.setIfInBounds 0 .none)) (Ne.symm hb)).trans e
  rw [Heap.get?_update_other _ _ (Nat.ne_of_gt (Heap.lt_size (Heap.get?_push_of_some _ e1)))]
  exact Heap.get?_push_of_some _ (Heap.get?_push_of_some _ e1)
theorem walksH {I ax x1 : Addr} (hh : A.handled = some (.ref x1)) (hne : ax ≠ I) (hx : x1 ≠ I) (items : Array Value) :
    Walks prog w A I [I, ax, x1] [I] items.size (fun i v => items[i]? = some v) (fun i h => (h.IsListIter I ax i ∧ h.IsList ax items) ∧ HotObj x1 h) where
  sub := fun b hb => by simp at hb; simp [hb]
  frame := fun _ _ _ st hk => ⟨⟨st.1.1.at fun o e => hk I (by simp) o e, st.1.2.at fun o e => hk ax (by simp) o e⟩, by
    obtain ⟨o, vs, h1, h2⟩ := st.2
    exact ⟨o, vs, hk x1 (by simp) o h1, h2⟩⟩
  item := fun i s Q E hi st hQ => by
    refine wpAny_pyNext_list_item st.1.1 st.1.2 (x := items[i]) (by simp [hi]) fun h' hit' hs' => ?_
    refine hQ _ h' s.toks (by simp [hi]) ⟨⟨hit', st.1.2.extBut hs'.extBut hne⟩, ?_⟩ fun b o hb e => hs'.extBut b o (fun h => hb (by simp [h])) e
    obtain ⟨o, vs, h1, h2⟩ := st.2
    exact ⟨o, vs, hs'.extBut x1 o hx h1, h2⟩
  done := fun s Q E st hQ => pyNext_list_end_hot hh st.2 st.1.1 st.1.2 (by simp) fun h' he' => hQ h' s.toks fun b o hb e => he' b o (fun h => hb (by simp [h])) e
  self := fun _ _ _ _ st hQ => wpAny_pyIter_listiter st.1.1 hQ
theorem sum_hot {l x1 : Addr} {xs : Array (Int × Tok)} {Q : Value → Shared → Prop} (hh : A.handled = some (.ref x1)) (hot : HotObj x1 s.heap) (hl : s.heap.IsList l (intItems xs))
    (h : ∀ h' tk t', (∀ b o, s.heap.get? b = some o → h'.get? b = some o) → Q (.int (preSum (numAt xs) xs.size) t') { s with heap := h', toks := tk }) :
    wpAny (model prog w) A (call (.builtin "sum") [.ref l]) Q E s := by
  refine call_sum_walkG (iter_intList hl fun s₂ e st hfp hlI => ?_)
  subst e
  obtain ⟨o, vs, h1, h2, h3⟩ := hot
  have hlt := Heap.lt_size h1
  refine ⟨_, _, _, _, _, _, numAt xs, rfl, walksH (A := A.in1) (x1 := x1) hh hlI (Nat.ne_of_lt hlt) (intItems xs), ⟨st, o, vs, Heap.get?_push_of_some _ h1, h2, h3⟩, fun b hb => ?_, (fun _ _ => intItems_at), fun h' tk t' hk => ?_⟩
  · rcases List.mem_cons.mp hb with z | z
    · exact hfp b (by rw [z]; exact List.mem_cons_self ..)
    · rcases List.mem_cons.mp z with z | z
      · exact hfp b (by rw [z]; simp)
      · rw [List.mem_singleton.mp z]
        show x1 < (s.heap.push _).objs.size
        rw [Heap.size_push]
        exact Nat.lt_succ_of_lt hlt
  · have := h h' tk t' (old_kept hk)
    simpa [intItems] using this
end
section
variable {X : Cx}
open PyProof.Rows L2 L2H
theorem cr_sumH (hc : HotC X) : CallR X (.builtin "sum") (rSum X.K) := by
  intro pins s σ H vs us Q I r h
  obtain ⟨a, ns, rfl, hs, q⟩ := h
  obtain ⟨its, rv, hl, _⟩ := I.list hs
  rw [Vals.ref1 r]
  obtain ⟨p, ⟨hh, v1, e1, c1⟩, hp⟩ := hc
  have P1 := (I.pin p (List.mem_append_left _ hp)).1
  obtain ⟨xs, e⟩ := rv.ints.allInts.items
  have hn : numsOf (intItems xs).toList = ns := by rw [← e]; exact rv.ints.numsOf
  rw [nums_intItems] at hn
  have hl' := hl.isList
  rw [e] at hl'
  refine sum_hot hh ⟨p.2, v1, P1, e1, c1⟩ hl' fun h' tk t' hk => ?_
  rw [preSum_eq, List.take_of_length_le (by simp), hn]
  exact ⟨.int _, H, I.kept hk, ⟨_, rfl⟩, q⟩
/-- an item of a list, the written part named -/
theorem ixL {K : PySem.W.Frag} (h : X.K = K) : IxR X (rIxL K) := by
  rw [← h]
  exact ix_list
end
end Tw
set_option Elab.async false
set_option linter.all false
set_option maxRecDepth 100000
set_option maxHeartbeats 2000000
/-! enumerate(l, start=c); a tuple's parts given to names; reversed(range(n)). -/
namespace TwE
open PySem PySem.Spec PyProof.Rows L2 Evl Tw
open PySem.Sem (wp)
/-! ### a class called with keywords -/
section
variable {M : Model} {A : Around} {E : Value → Shared → Prop} {s : Shared} {env : Env}
theorem cw_typeKw {pos : Pos} {T : String} {e : Expr} {es : List Expr} {kws : List Keyword} {Q : Value → Shared → Prop}
    (hall : (backToKw pos (keywordEach kws env)).all (·.1.isSome) = true)
    (h : wpAny M A (spliced (backTo pos (starEach (e :: es) env))) (fun vs s1 => wpAny M A (evalAll ((backToKw pos (keywordEach kws env)).map (·.2)))
      (fun ks s2 => wpAny M A (call (.type T) vs (((backToKw pos (keywordEach kws env)).filterMap (·.1)).zip ks)) Q E s2) E s1) E s)
    (ha : starEach (e :: es) env = (false, eval e env) :: starEach es env) (hp : (backTo pos (starEach es env)).any (·.1) = false)
    (hk : (backToKw pos (keywordEach kws env)).any (·.1.isNone) = false) :
    wpAny M A (callWith pos (.type T) [] (backTo pos (starEach (e :: es) env)) (backToKw pos (keywordEach kws env))) Q E s := by
  have hp1 : (backTo pos (starEach (e :: es) env)).any (·.1) = false := by
    rw [ha]
    show (false || (backTo pos (starEach es env)).any (·.1)) = false
    rw [hp] <;> rfl
  unfold callWith
  refine wpAny_bind (wpAny_holding (wpAny_mono (evalArgs_kw2 (Q := fun a s1 => wpAny M A (call (.type T) ([] ++ a.pos) a.kw) Q E s1) hall h ha) (fun a s1 h1 => wpAny_bind (wpAny_standAt ?_)) fun _ _ x => x))
  simp only [hp1, hk, Bool.or_false]
  refine wpAny_bind (wpAny_pure ?_)
  exact wpAny_bind (wpAny_mono h1 (fun r s2 hr => wpAny_bind (wpAny_holding (wpAny_point (wpAny_pure hr)))) fun _ _ x => x)
end
/-! ### enumerate from a count on -/
/-- pairs of a number from c on and what the list at l has there -/
def ItC (K : PySem.W.Frag) (l : Addr) (c : Int) : It where
  go := fun i H => ∃ (ys : List V) (y : V), SqL K H l ys ∧ ys[i]? = some y
  yld := fun i H v H' => ∃ (T : Addr) (y : V), v = .ref T ∧ H T = none ∧ H' = upd H T (.tup [.int (c + (i : Int)), y]) ∧ ∀ ys, SqL K H l ys → ys[i]? = some y
  stop := fun i H => ∃ ys : List V, SqL K H l ys ∧ ys.length ≤ i
/-- what stands between two turns -/
def TnC (l : Addr) (c : Int) (e j : Addr) (i : Nat) (h : Heap) : Prop := (∃ old, IsEnum h e j (c + (i : Int)) old) ∧ h.IsListIter j l i ∧ e ≠ j
theorem apart_li {h : Heap} {l j : Addr} {i : Nat} {its : Array Value} (h1 : h.IsList l its) (h2 : h.IsListIter j l i) : l ≠ j := fun z => by
  obtain ⟨o, g, c, _⟩ := h1
  obtain ⟨o2, g2, c2, _⟩ := h2
  rw [z, g2] at g
  cases g
  rw [c2] at c
  exact absurd c (by decide)
theorem apart_le {h : Heap} {l e j : Addr} {i : Int} {old : Value} {its : Array Value} (h1 : h.IsList l its) (h2 : IsEnum h e j i old) : e ≠ l := fun z => by
  obtain ⟨o, g, c, _⟩ := h1
  rw [← z, h2] at g
  cases g
  exact absurd (Value.type.inj c : ("enumerate" : String) = "list") (by decide)
theorem end_of {prog : Program} {w : World} {A : Around} {E : Value → Shared → Prop} {s : Shared} {e j l : Addr} {i : Nat} {c : Int} {its : Array Value} {old : Value} {Q : Option Value → Shared → Prop} (hh : A.in1.handled = none) (he : IsEnum s.heap e j c old) (hj : s.heap.IsListIter j l i) (hl : s.heap.IsList l its) (hx : its[i]? = none) (hQ : ∀ h1, Heap.ExtBut j s.heap h1 → Q none { s with heap := h1 }) : wpAny (model prog w) A (pyNext (.ref e)) Q E s := by
  have hT : s.TypeIs (.ref e) "enumerate" := ⟨_, he, rfl⟩
  unfold pyNext
  refine wpAny_bind (wpAny_attempt (wpAny_callSpecial?_slot (name := Str.ofString "__next__") hT F.slot_enumerate_next (wpAny_call_entry F.slot_enumerate_next hT F.entry_enumerate_next ?_ (F.args_enumerate_next_1 _))))
  show wpAny _ _ (field (.ref e) 2 >>= fun _ => _) _ _ _
  refine wpAny_bind (wpAny_field he rfl (x := .ref j) rfl (wpAny_bind (wpAny_nextOf_list_end hh hj hl hx fun h1 x hb hx1 => ?_)))
  obtain ⟨o, ho, hc⟩ := hx1
  exact wpAny_bind (wpAny_isInstance (T := "StopIteration") (b := true) ⟨o, ho, hc⟩ isSubtype_stop (wpAny_pure (hQ _ hb)))
theorem turnC {P : Program} {w : World} {K : PySem.W.Frag} {es : List Expr} {nn : Nat} {tp : Pos} (l e j : Addr) (c : Int) : Turn P w K (.Tuple es nn tp) (ItC K l c) [e, j] e (TnC l c e j) where
  mem := List.mem_cons_self ..
  obj := fun i h st b hb => by
    obtain ⟨⟨old, he⟩, ⟨o, ho, hc, hd⟩, _⟩ := st
    rcases List.mem_cons.mp hb with rfl | hb
    · exact ⟨_, he, fun v q => nomatch q⟩
    · rw [List.mem_singleton.mp hb]
      exact ⟨o, ho, fun v q => by rw [hd] at q; cases q⟩
  keep := fun i h h' st k => ⟨st.1.imp fun _ he => k e (List.mem_cons_self ..) _ he, st.2.1.at fun o q => k j (List.mem_cons_of_mem _ (List.mem_singleton.mpr rfl)) o q, st.2.2⟩
  item := fun X hP hw hK hcalm i pins s σ H E I hf st hg => by
    subst hP hw hK
    obtain ⟨⟨old, he⟩, hj, ne⟩ := st
    obtain ⟨ys, y, hS, hy⟩ := hg
    obtain ⟨its, rv, pl, hz⟩ := I.list hS
    obtain ⟨u, hu, ru⟩ := rv.get hy
    have hiu : i < its.length := (List.getElem?_eq_some_iff.mp hu).1
    have es : e < s.heap.objs.size := Heap.lt_size he
    have js : j < s.heap.objs.size := by
      obtain ⟨_, q, _⟩ := hj
      exact Heap.lt_size q
    have nlj := apart_li pl.isList hj
    have nel := apart_le pl.isList he
    have hh : X.A.in1.handled = none := I.ok.hd hcalm
    refine wpAny_pyNext_enum_itemC (Draws.list (prog := X.prog) (w := X.w) hh j l nlj its.toArray) he ⟨hj, pl.isList⟩ (by simpa using hiu) ne (fun q => ?_) fun x h1 tk hx ho hst hT hsz hk => ?_
    · rcases List.mem_cons.mp q with q | q
      · exact ne q
      · exact nel (List.mem_singleton.mp q)
    have hxu : x = u := by
      have a1 : its[i]? = some x := by simpa using hx
      rw [hu] at a1
      exact (Option.some.inj a1).symm
    subst hxu
    refine ⟨.ref s.heap.objs.size, rfl, ?_⟩
    refine wpAny_letOwnedTupleGo_enum (s := { s with heap := h1, toks := tk + 1 }) ho fun h2 he2 sb => ?_
    have tup2 : h2.get? s.heap.objs.size = some { cls := .type "tuple", data := .seq #[.int (c + (i : Int)) tk, x] } := (sb.2 _ (Nat.ne_of_gt es)).trans hT
    have okT : ObjOk X.prog X.w (upd H s.heap.objs.size (.tup [.int (c + (i : Int)), y])) h2 s.heap.objs.size (.tup [.int (c + (i : Int)), y]) :=
      ⟨show 2 ≤ sizeLine by decide, [.int (c + (i : Int)) tk, x], .cons ⟨tk, rfl⟩ (.cons ru .nil), _, tup2, rfl, _, rfl⟩
    have I2 : Inv X pins σ (upd H s.heap.objs.size (.tup [.int (c + (i : Int)), y])) { s with heap := h2, toks := tk + 1 } :=
      I.turnedNew (ch := [e, j]) (fun b ob hb q => (sb.2 b fun z => hb (by rw [z]; exact List.mem_cons_self ..)).trans (hk b ob (fun z => hb (by rw [z]; exact List.mem_cons_self ..)) (fun z => hb (by rw [z]; exact List.mem_cons_of_mem _ (List.mem_singleton.mpr rfl))) q)) hf (Nat.le_refl _) okT
    refine ⟨.ref s.heap.objs.size, _, I2, rfl, ⟨s.heap.objs.size, y, rfl, I.hok.fresh (Nat.le_refl _), rfl, fun zs hzs => ?_⟩, ⟨⟨x, ?_⟩, hst.1.at fun o q => (sb.2 j ne.symm).trans q, ne⟩, fun b hb => ?_⟩
    · rw [I.list_inj hzs hS]
      exact hy
    · have e1 : c + ((i + 1 : Nat) : Int) = c + (i : Int) + 1 := by omega
      rw [e1]
      exact he2
    · have bs : b < s.heap.objs.size := by
        rcases List.mem_cons.mp hb with z | z
        · rw [z]; exact es
        · rw [List.mem_singleton.mp z]; exact js
      rw [upd_ne (Nat.ne_of_lt bs)]
      exact (hf b hb).1
  done := fun X hP hw hK hcalm i pins s σ H E I hf st hg => by
    subst hP hw hK
    obtain ⟨⟨old, he⟩, hj, ne⟩ := st
    obtain ⟨ys, hS, hy⟩ := hg
    obtain ⟨its, rv, pl, hz⟩ := I.list hS
    have hlen := rv.length
    obtain ⟨f0, f1, f2, f3, f4, f5⟩ := hf j (List.mem_cons_of_mem _ (List.mem_singleton.mpr rfl))
    have hh : X.A.in1.handled = none := I.ok.hd hcalm
    exact end_of hh he hj pl.isList (Array.getElem?_eq_none (by rw [List.size_toArray]; omega)) fun h1 eb => ⟨rfl, I.turned (t' := s.toks) (fun b o hb q => eb b o hb q) f0 f1 f3 f4 f5⟩
  self := fun A i s Q E st h => by
    obtain ⟨⟨_, he⟩, _⟩ := st
    exact wpAny_pyIter_enum he h
/-- what is walked: enumerate(l, start=c) -/
def iEnC (K : PySem.W.Frag) (ta tk : TA) : TI := fun σ H R => ta σ H fun vs H1 => tk σ H1 fun ks H2 => ∃ (l : Addr) (ys : List V) (c : Int), vs = [.ref l] ∧ ks = [.int c] ∧ -(2 ^ 62) ≤ c ∧ c < 2 ^ 62 ∧ SqL K H2 l ys ∧ R (ItC K l c) H2
theorem pi_enumC {X : Cx} {e e2 : Expr} {ta tk : TA} {np pos tp kp : Pos} {es : List Expr} {nn : Nat} (hg : Gl X "enumerate") (hm : X.mg "enumerate" = none) (ha : PA X [e] ta) (hk : PK X [⟨some "start", e2, kp⟩] tk)
    (hs : starEach [e] X.env = (false, eval e X.env) :: starEach [] X.env := by rfl) (hall : (backToKw pos (keywordEach [⟨some "start", e2, kp⟩] X.env)).all (·.1.isSome) = true := by rfl)
    (hks : (backToKw pos (keywordEach [⟨some "start", e2, kp⟩] X.env)).filterMap (·.1) = [("start" : Str)] := by rfl) (hp : (backTo pos (starEach [] X.env)).any (·.1) = false := by rfl)
    (hn : (backToKw pos (keywordEach [⟨some "start", e2, kp⟩] X.env)).any (·.1.isNone) = false := by rfl) :
    PI X (.Tuple es nn tp) (.Call (.Name "enumerate" np) [e] [⟨some "start", e2, kp⟩] pos) (iEnC X.K ta tk) := by
  refine ⟨fun pins s σ H R I h => ?_⟩
  refine wpAny_Call_Name_kw (ld_blt I hg hm boot_enumerate (cw_typeKw hall (thn (ha.run pos pins s σ H _ I h) fun us s1 ⟨vs, H1, I1, r1, q1⟩ => thn (hk.run pos pins s1 σ H1 _ I1 q1) fun ws s2 ⟨ks, H2, I2, r2, q2⟩ => ?_) hs hp hn))
  rw [hks]
  obtain ⟨l, ys, c, rfl, rfl, c0, c1, hS, q⟩ := q2
  cases r1 with
  | cons ra rb =>
    cases rb
    cases ra
    cases r2 with
    | cons rc rd =>
      cases rd
      obtain ⟨t, rfl⟩ := rc
      obtain ⟨its, rv, pl, hz⟩ := I2.list hS
      refine enum_begins_start (s := s2) (k := c) (t := t) (begins_list l its.toArray) pl.isList (by omega) (by omega) fun h1 he hit hsz keep => ?_
      refine wpAny_pyIter_enum he ?_
      have hj : h1.IsListIter s2.heap.objs.size l 0 := ⟨_, hit, rfl, rfl⟩
      have e0 : c + ((0 : Nat) : Int) = c := by omega
      refine ⟨s2.heap.objs.size + 1, [s2.heap.objs.size + 1, s2.heap.objs.size], _, ItC X.K l c, H2, rfl, I2.kept (t' := s2.toks) keep, turnC l (s2.heap.objs.size + 1) s2.heap.objs.size c, ⟨⟨.none, by rw [e0]; exact he⟩, hj, Nat.succ_ne_self _⟩, fun b hb => ?_, q⟩
      have le : s2.heap.objs.size ≤ b := by
        rcases List.mem_cons.mp hb with z | z
        · rw [z]; exact Nat.le_add_right _ _
        · rw [List.mem_singleton.mp z]; exact Nat.le_refl _
      exact I2.fpOk le (I2.hok.fresh le)
theorem walkC {K : PySem.W.Frag} {l : Addr} {xs : List V} {c : Int} : Walk (ItC K l c) xs.length (fun H => SqL K H l xs) (YPair (fun i => some (.int (c + (i : Int)))) (fun i => xs[i]?)) :=
  ⟨fun i _ hi q => ⟨xs, xs[i], q, List.getElem?_eq_getElem hi⟩, fun _ q => ⟨xs, q, Nat.le_refl _⟩, fun i H v H' _ q y => by
    obtain ⟨T, x, h1, h2, h3, h4⟩ := y
    exact ⟨T, _, x, h1, h2, h3, rfl, h4 xs q⟩⟩
section
variable {K : PySem.W.Frag} {σ : L2.St} {H H' : Hp} {ta tb te tx : TE} {D : Ends} {tu tz : TS} {v : V}
theorem s_forC {ta tk : TA} {a : Addr} {xs : List V} {c : Int} {j1 j2 : Nat} (h : EvA ta σ H [.ref a]) (hc : EvA tk σ H [.int c]) (b0 : -100000 ≤ c) (b1 : c ≤ 100000) (hx : SqL K H a xs) (Pv : Nat → L2.St → Hp → Prop) (h0 : ∀ H1, Ex H H1 → Pv 0 σ H1)
    (hl : ∀ i σ' H', i ≤ xs.length → Pv i σ' H' → SqL K H' a xs)
    (hs : ∀ i x σ' H' H2, xs[i]? = some x → Pv i σ' H' → Ex H' H2 → tu { D with nx := Pv (i + 1), ct := Pv (i + 1), bk := D.nx } ((σ'.set j1 (some (.int (c + (i : Int))))).set j2 (some x)) H2) (hd : ∀ σ' H', Pv xs.length σ' H' → D.nx σ' H') :
    tFor (iEnC K ta tk) (gTup K 2 (gCons (gName j1) (gCons (gName j2) gNil))) tu D σ H :=
  h H (Ex.refl H) _ fun H1 e1 => hc H1 e1 _ fun H2 e2 => ⟨a, xs, c, rfl, rfl, by omega, by omega, ex_l (e1.trans e2) hx, for_it walkC Pv (h0 H2 (e1.trans e2)) hl (fun i x σ' H' H'' hi p y => by
    obtain ⟨T, x1, x2, rfl, hT, rfl, hx1, hx2⟩ := y
    cases hx1
    exact ⟨T, _, rfl, .inl (.inl upd_same), rfl, _, _, rfl, _, _, rfl, rfl, hs i x2 σ' H' _ hx2 p (Ex.new hT)⟩) hd⟩
theorem q_forC {ta tk : TA} {a : Addr} {xs : List V} {c : Int} {j1 j2 : Nat} (h : EvA ta σ H [.ref a]) (hc : EvA tk σ H [.int c]) (b0 : -100000 ≤ c) (b1 : c ≤ 100000) (hx : SqL K H a xs) (Pv : Nat → L2.St → Hp → Prop) (h0 : ∀ H1, Ex H H1 → Pv 0 σ H1)
    (hl : ∀ i σ' H', i ≤ xs.length → Pv i σ' H' → SqL K H' a xs)
    (hs : ∀ i x σ' H' H2, xs[i]? = some x → Pv i σ' H' → Ex H' H2 → tu { D with nx := Pv (i + 1), ct := Pv (i + 1), bk := tz D } ((σ'.set j1 (some (.int (c + (i : Int))))).set j2 (some x)) H2) (hd : ∀ σ' H', Pv xs.length σ' H' → tz D σ' H') :
    tSeq (tFor (iEnC K ta tk) (gTup K 2 (gCons (gName j1) (gCons (gName j2) gNil))) tu) tz D σ H := s_forC (D := { D with nx := tz D }) h hc b0 b1 hx Pv h0 hl hs hd
/-- for j in reversed(range(n)) -/
theorem s_forRv {j : Nat} {n : Int} (h : Ev ta σ H (.int n)) (h0n : 0 ≤ n) (hn : n ≤ 100000) (Pv : Nat → L2.St → Hp → Prop) (h0 : ∀ H1, Ex H H1 → Pv 0 σ H1)
    (hs : ∀ (i : Nat) σ' H', (i : Int) < n → Pv i σ' H' → tu { D with nx := Pv (i + 1), ct := Pv (i + 1), bk := D.nx } (σ'.set j (some (.int (n - 1 - (i : Int))))) H') (hd : ∀ σ' H', Pv n.toNat σ' H' → D.nx σ' H') :
    tFor (iRevR (tRg1 ta)) (gName j) tu D σ H := h H (Ex.refl H) _ fun H1 e => by
  refine ⟨n, rfl, by omega, by omega, by omega, by omega, ?_⟩
  have en : (n - 0).toNat = n.toNat := by omega
  rw [en]
  refine for_it walk_rangeC Pv (h0 H1 e) (fun _ _ _ _ _ => trivial) (fun i x σ' H' H'' hi p y => ?_) hd
  obtain ⟨rfl, rfl⟩ := y
  have ei : (0 : Int) + ((n.toNat : Nat) : Int) - 1 + ((i : Nat) : Int) * (-1) = n - 1 - (i : Int) := by omega
  show tu _ (σ'.set j (some (.int _))) _
  rw [ei]
  exact hs i σ' _ (by omega) p
theorem q_forRv {j : Nat} {n : Int} (h : Ev ta σ H (.int n)) (h0n : 0 ≤ n) (hn : n ≤ 100000) (Pv : Nat → L2.St → Hp → Prop) (h0 : ∀ H1, Ex H H1 → Pv 0 σ H1)
    (hs : ∀ (i : Nat) σ' H', (i : Int) < n → Pv i σ' H' → tu { D with nx := Pv (i + 1), ct := Pv (i + 1), bk := tz D } (σ'.set j (some (.int (n - 1 - (i : Int))))) H') (hd : ∀ σ' H', Pv n.toNat σ' H' → tz D σ' H') :
    tSeq (tFor (iRevR (tRg1 ta)) (gName j) tu) tz D σ H := s_forRv (D := { D with nx := tz D }) h h0n hn Pv h0 hs hd
/-- a tuple's two parts given to names -/
theorem g2 {p : Addr} {x y : V} {i j : Nat} {Q : L2.St → Hp → Prop} (hp : SqT K H p [x, y]) (k : Q ((σ.set i (some x)).set j (some y)) H) : gTup K 2 (gCons (gName i) (gCons (gName j) gNil)) (.ref p) σ H Q :=
  ⟨p, _, rfl, hp, rfl, _, _, rfl, _, _, rfl, rfl, k⟩
/-- i, j = f(..), told by f's own promise -/
theorem q_un2A {ta : TA} {sp : Sp} {dvs vs : List V} {E : XK} {g : TG} (h : EvA ta σ H vs) (k : ∀ H1, Ex H H1 → sp (vs ++ dvs) H1 (fun v H2 => g v σ H2 (tz D)) E) : tSeq (tAsg (tCall sp dvs E ta) g) tz D σ H := h H (Ex.refl H) _ k
theorem s_un2A {ta : TA} {sp : Sp} {dvs vs : List V} {E : XK} {g : TG} (h : EvA ta σ H vs) (k : ∀ H1, Ex H H1 → sp (vs ++ dvs) H1 (fun v H2 => g v σ H2 D.nx) E) : tAsg (tCall sp dvs E ta) g D σ H := h H (Ex.refl H) _ k
/-- i, j = a new tuple -/
theorem q_un2 {x y : V} {i j : Nat} (h : EvU te σ H [x, y]) (k : ∀ H1, Ex H H1 → tz D ((σ.set i (some x)).set j (some y)) H1) : tSeq (tAsg te (gTup K 2 (gCons (gName i) (gCons (gName j) gNil)))) tz D σ H :=
  h H (Ex.refl H) _ fun p H1 _ e1 hp => g2 (st_of hp) (k H1 e1)
theorem s_un2 {x y : V} {i j : Nat} (h : EvU te σ H [x, y]) (k : ∀ H1, Ex H H1 → D.nx ((σ.set i (some x)).set j (some y)) H1) : tAsg te (gTup K 2 (gCons (gName i) (gCons (gName j) gNil))) D σ H :=
  h H (Ex.refl H) _ fun p H1 _ e1 hp => g2 (st_of hp) (k H1 e1)
end
/-- x ** y of any whole numbers whose power stays within bounds -/
def CPowE (i j : Int) : Prop := 0 ≤ j ∧ (Builtin.Int.intBits i : Int) * j ≤ 2 ^ 27
theorem op_powE {X : Cx} : OpR X (binaryOp .Pow) (rI CPowE fun i j => .int (i ^ j.toNat)) := opI fun _ _ _ _ _ _ _ hc q => pow_int hc.1 hc.2 q
theorem slE {X : Cx} {K : PySem.W.Frag} (h : X.K = K) : SlR X (rSlL K) := by
  subst h
  exact sl_list
theorem pe_joinE {X : Cx} {K : PySem.W.Frag} {o e : Expr} {to te : TE} {ap pos : Pos} (h : X.K = K) (ho : PE X o to) (he : PE X e te) (hs : starEach [e] X.env = [(false, eval e X.env)] := by rfl) (hbase : attributeBase o "join" X.env (eval o X.env) = eval o X.env := by rfl) (hline : (ap.endLine == pos.line) = true := by rfl) :
    PE X (.Call (.Attribute o "join" ap) [e] [] pos) (tM1 (fun x xs H Q => ∃ a p, ∃ ys : List Str, x = .str a ∧ xs = [.ref p] ∧ (SqL K H p (ys.map V.str) ∨ SqT K H p (ys.map V.str)) ∧ (ys.map (·.length)).sum + ys.length * a.length ≤ 16777216 ∧ Q (.str (Txt.join a ys)) H) to te) := by
  subst h
  exact pe_join ho he hs hbase hline
theorem ixTE {X : Cx} {K : PySem.W.Frag} (h : X.K = K) : IxR X (rIxT K) := by
  subst h
  exact ix_tup
/-- a new tuple is told -/
def RetU (xs : List V) (H : Hp) (Q : VK) : Prop := ∀ p H2, H p = none → Ex H H2 → H2 p = some (.tup xs) → Q (.ref p) H2
end TwE
set_option Elab.async false
set_option linter.all false
set_option maxRecDepth 100000
set_option maxHeartbeats 2000000
/-! two lists of whole numbers, the one below the other. -/
namespace TwL
open PySem PySem.Spec PyProof.Rows L2 Evl Tw PySem.SeqAt
/-- the first place where they part, else their lengths -/
def flt (ns ms : List Int) : Bool := firstLt (fun j => ns.getD j 0 == ms.getD j 0) (fun j => decide (ns.getD j 0 < ms.getD j 0)) (decide (ns.length < ms.length)) (List.range (min ns.length ms.length))
def rLtL (K : PySem.W.Frag) : R2 := fun x y H Q => ∃ (a b : Addr) (ns ms : List Int), x = .ref a ∧ y = .ref b ∧ SqL K H a (ns.map V.int) ∧ SqL K H b (ms.map V.int) ∧ Q (.bl (flt ns ms)) H
theorem at_int {ns : List Int} {its : List Value} (r : Vals (ns.map V.int) its) {j : Nat} (h : j < its.toArray.size) : ∃ t, its.toArray[j] = .int (ns.getD j 0) t := by
  have hl : its.length = (ns.map V.int).length := r.length.symm
  rw [List.length_map] at hl
  have hs : its.toArray.size = its.length := List.size_toArray ..
  have hj : j < ns.length := by omega
  have hx : (ns.map V.int)[j]? = some (.int (ns.getD j 0)) := by
    rw [List.getElem?_map, List.getElem?_eq_getElem hj, List.getD_eq_getElem?_getD, List.getElem?_eq_getElem hj] <;> rfl
  obtain ⟨u, hu, t, rfl⟩ := r.get hx
  refine ⟨t, ?_⟩
  have h2 : its.toArray[j]? = some (Value.int (ns.getD j 0) t) := by simpa using hu
  rw [Array.getElem?_eq_getElem h] at h2
  exact Option.some.inj h2
theorem op_ltL {X : Cx} (hu : X.A.units < cLine) : OpR X (compareOp .Lt) (rLtL X.K) := by
  intro pins s σ H x y v u Q I rx ry h
  obtain ⟨a, b, ns, ms, rfl, rfl, ha, hb, q⟩ := h
  cases rx
  cases ry
  obtain ⟨its, r1, p1, _⟩ := I.list ha
  obtain ⟨its2, r2, p2, _⟩ := I.list hb
  have hl : its.toArray.size = ns.length := by rw [List.size_toArray, ← r1.length, List.length_map]
  have hl2 : its2.toArray.size = ms.length := by rw [List.size_toArray, ← r2.length, List.length_map]
  have hlt := RcLt.lists (A := X.A) (s := s) (e := fun j => ns.getD j 0 == ms.getD j 0) (r := fun j => decide (ns.getD j 0 < ms.getD j 0)) p1.isList p2.isList hu
    (fun j h1 h2 => by
      obtain ⟨t, e1⟩ := at_int r1 h1
      obtain ⟨t2, e2⟩ := at_int r2 h2
      rw [e1, e2]
      exact EqAt.int_int _ _ _ _)
    (fun j h1 h2 _ => by
      obtain ⟨t, e1⟩ := at_int r1 h1
      obtain ⟨t2, e2⟩ := at_int r2 h2
      rw [e1, e2]
      exact fun prog w E Q h => PyProof.Rows.lt_int h)
  rw [hl, hl2] at hlt
  exact hlt _ _ _ _ ⟨.bl (flt ns ms), H, I, rfl, q⟩
section
variable {K : PySem.W.Frag} {H : Hp}
theorem rv_ltL {p q : Addr} {l m : List Int} (hp : SqL K H p (l.map V.int)) (hq : SqL K H q (m.map V.int)) : RV (rLtL K) (.ref p) (.ref q) H (.bl (flt l m)) := fun H1 e _ k => ⟨p, q, l, m, rfl, rfl, ex_l e hp, ex_l e hq, k H1 (Ex.refl H1)⟩
end
theorem firstLt_succ (e r : Nat → Bool) (z : Bool) : ∀ l : List Nat, firstLt e r z (l.map Nat.succ) = firstLt (fun j => e (j + 1)) (fun j => r (j + 1)) z l
  | [] => rfl
  | j :: t => by
    have ih := firstLt_succ e r z t
    show (if e (j + 1) = true then firstLt e r z (t.map Nat.succ) else r (j + 1)) = (if e (j + 1) = true then firstLt (fun j => e (j + 1)) (fun j => r (j + 1)) z t else r (j + 1))
    rw [ih]
theorem op_niK {X : Cx} {K : PySem.W.Frag} (h : X.K = K) : OpR X (compareOp .NotIn) (rIn K true) := by
  subst h
  exact op_notIn_seq
theorem flt_nil : flt [] [] = false := rfl
theorem flt_cons (a b : Int) (l m : List Int) : flt (a :: l) (b :: m) = if a = b then flt l m else decide (a < b) := by
  unfold flt
  have e1 : min (a :: l).length (b :: m).length = min l.length m.length + 1 := by
    rw [List.length_cons, List.length_cons]
    omega
  have e2 : decide ((a :: l).length < (b :: m).length) = decide (l.length < m.length) := by
    rw [List.length_cons, List.length_cons]
    by_cases h : l.length < m.length
    · rw [decide_eq_true h, decide_eq_true (by omega)]
    · rw [decide_eq_false h, decide_eq_false (by omega)]
  rw [e1, e2, List.range_succ_eq_map]
  by_cases h : a = b
  · rw [if_pos h, firstLt_yes (by show (a == b) = true; simpa using h), firstLt_succ]
    rfl
  · rw [if_neg h, firstLt_no (by show (a == b) = false; simpa using h)]
    rfl
end TwL
set_option Elab.async false
set_option linter.all false
set_option maxRecDepth 100000
set_option maxHeartbeats 2000000
namespace Pf
open PySem PySem.Spec PyProof.Rows L2 Evl Tw L2H
def topS (i : Nat) : Stmt := PySem.Challenge.pw_textwrapper_k11_whole_none_less_in_lines.main.body.getD i (.Pass ⟨0, 0, 0, 0⟩)
abbrev s_sizes_from : Stmt := topS 13
abbrev N_sizes_from : List Str := ["words", "width", "begin", "sizes", "size", "place"]
theorem sc_sizes_from : FnScope N_sizes_from ["words", "width", "begin"] (defScope s_sizes_from) := ⟨rfl, rfl, rfl, by decide +kernel, rfl, by decide +kernel, by decide +kernel⟩
abbrev s_long_word : Stmt := topS 14
abbrev N_long_word : List Str := ["words", "width", "place", "word"]
theorem sc_long_word : FnScope N_long_word ["words", "width"] (defScope s_long_word) := ⟨rfl, rfl, rfl, by decide +kernel, rfl, by decide +kernel, by decide +kernel⟩
abbrev s_check_width : Stmt := topS 15
abbrev N_check_width : List Str := ["width"]
theorem sc_check_width : FnScope N_check_width ["width"] (defScope s_check_width) := ⟨rfl, rfl, rfl, by decide +kernel, rfl, by decide +kernel, by decide +kernel⟩
abbrev s_check_words : Stmt := topS 16
abbrev N_check_words : List Str := ["words", "width"]
theorem sc_check_words : FnScope N_check_words ["words", "width"] (defScope s_check_words) := ⟨rfl, rfl, rfl, by decide +kernel, rfl, by decide +kernel, by decide +kernel⟩
abbrev s_quick_starts : Stmt := topS 18
abbrev N_quick_starts : List Str := ["words", "width", "starts", "size", "place", "word", "longer"]
theorem sc_quick_starts : FnScope N_quick_starts ["words", "width"] (defScope s_quick_starts) := ⟨rfl, rfl, rfl, by decide +kernel, rfl, by decide +kernel, by decide +kernel⟩
abbrev s_best_line : Stmt := topS 20
abbrev N_best_line : List Str := ["counts", "begin", "rest", "least", "best", "end", "count", "total"]
theorem sc_best_line : FnScope N_best_line ["counts", "begin", "rest"] (defScope s_best_line) := ⟨rfl, rfl, rfl, by decide +kernel, rfl, by decide +kernel, by decide +kernel⟩
abbrev s_squares_of : Stmt := topS 21
abbrev N_squares_of : List Str := ["width", "sizes", "size"]
theorem sc_squares_of : FnScope N_squares_of ["width", "sizes"] (defScope s_squares_of) := ⟨rfl, rfl, rfl, by decide +kernel, rfl, by decide +kernel, by decide +kernel⟩
abbrev s_starts_in : Stmt := topS 23
abbrev N_starts_in : List Str := ["words", "width", "many", "begin", "counts", "tables", "starts", "left", "_"]
theorem sc_starts_in : FnScope N_starts_in ["words", "width", "many"] (defScope s_starts_in) := ⟨rfl, rfl, rfl, by decide +kernel, rfl, by decide +kernel, by decide +kernel⟩
abbrev s_check_many : Stmt := topS 24
abbrev N_check_many : List Str := ["words", "width", "many"]
theorem sc_check_many : FnScope N_check_many ["words", "width", "many"] (defScope s_check_many) := ⟨rfl, rfl, rfl, by decide +kernel, rfl, by decide +kernel, by decide +kernel⟩
abbrev s_counts_from : Stmt := topS 25
abbrev N_counts_from : List Str := ["words", "width", "begin", "counts"]
theorem sc_counts_from : FnScope N_counts_from ["words", "width", "begin"] (defScope s_counts_from) := ⟨rfl, rfl, rfl, by decide +kernel, rfl, by decide +kernel, by decide +kernel⟩
abbrev s_tables_below : Stmt := topS 26
abbrev N_tables_below : List Str := ["counts", "many", "tables", "left", "rest", "sums", "begin", "row"]
theorem sc_tables_below : FnScope N_tables_below ["counts", "many"] (defScope s_tables_below) := ⟨rfl, rfl, rfl, by decide +kernel, rfl, by decide +kernel, by decide +kernel⟩
abbrev s_l_cell_at : Stmt := topS 28
abbrev N_l_cell_at : List Str := ["_law_script", "_law_k"]
theorem sc_l_cell_at : FnScope N_l_cell_at ["_law_script", "_law_k"] (defScope s_l_cell_at) := ⟨rfl, rfl, rfl, by decide +kernel, rfl, by decide +kernel, by decide +kernel⟩
abbrev s_l_sign_by : Stmt := topS 29
abbrev N_l_sign_by : List Str := ["_law_cell", "_law_some"]
theorem sc_l_sign_by : FnScope N_l_sign_by ["_law_cell"] (defScope s_l_sign_by) := ⟨rfl, rfl, rfl, by decide +kernel, rfl, by decide +kernel, by decide +kernel⟩
abbrev s_l_word_by : Stmt := topS 30
abbrev N_l_word_by : List Str := ["_law_cell", "_law_size_here", "_law_k"]
theorem sc_l_word_by : FnScope N_l_word_by ["_law_cell"] (defScope s_l_word_by) := ⟨rfl, rfl, rfl, by decide +kernel, rfl, by decide +kernel, by decide +kernel⟩
abbrev s_l_whole : Stmt := topS 31
abbrev N_l_whole : List Str := ["_law_found"]
theorem sc_l_whole : FnScope N_l_whole ["_law_found"] (defScope s_l_whole) := ⟨rfl, rfl, rfl, by decide +kernel, rfl, by decide +kernel, by decide +kernel⟩
abbrev s_l_wholes : Stmt := topS 32
abbrev N_l_wholes : List Str := ["_law_found", "_law_one"]
theorem sc_l_wholes : FnScope N_l_wholes ["_law_found"] (defScope s_l_wholes) := ⟨rfl, rfl, rfl, by decide +kernel, rfl, by decide +kernel, by decide +kernel⟩
abbrev s_l_longest : Stmt := topS 33
abbrev N_l_longest : List Str := ["_law_row", "_law_most", "_law_word"]
theorem sc_l_longest : FnScope N_l_longest ["_law_row"] (defScope s_l_longest) := ⟨rfl, rfl, rfl, by decide +kernel, rfl, by decide +kernel, by decide +kernel⟩
abbrev s_l_size : Stmt := topS 34
abbrev N_l_size : List Str := ["_law_row", "_law_begin", "_law_end"]
theorem sc_l_size : FnScope N_l_size ["_law_row", "_law_begin", "_law_end"] (defScope s_l_size) := ⟨rfl, rfl, rfl, by decide +kernel, rfl, by decide +kernel, by decide +kernel⟩
abbrev s_l_alike_by : Stmt := topS 35
abbrev N_l_alike_by : List Str := ["_law_cell", "_law_size_here", "_law_at"]
theorem sc_l_alike_by : FnScope N_l_alike_by ["_law_cell", "_law_size_here"] (defScope s_l_alike_by) := ⟨rfl, rfl, rfl, by decide +kernel, rfl, by decide +kernel, by decide +kernel⟩
abbrev s_l_wide_by : Stmt := topS 36
abbrev N_l_wide_by : List Str := ["_law_more", "_law_k"]
theorem sc_l_wide_by : FnScope N_l_wide_by ["_law_more", "_law_k"] (defScope s_l_wide_by) := ⟨rfl, rfl, rfl, by decide +kernel, rfl, by decide +kernel, by decide +kernel⟩
abbrev s_l_words_by : Stmt := topS 37
abbrev N_l_words_by : List Str := ["_law_cells", "_law_more", "_law_row", "_law_many", "_law_cell", "_law_k"]
theorem sc_l_words_by : FnScope N_l_words_by ["_law_cells", "_law_more"] (defScope s_l_words_by) := ⟨rfl, rfl, rfl, by decide +kernel, rfl, by decide +kernel, by decide +kernel⟩
abbrev s_l_width_by : Stmt := topS 38
abbrev N_l_width_by : List Str := ["_law_cell", "_law_row", "_law_room"]
theorem sc_l_width_by : FnScope N_l_width_by ["_law_cell", "_law_row"] (defScope s_l_width_by) := ⟨rfl, rfl, rfl, by decide +kernel, rfl, by decide +kernel, by decide +kernel⟩
abbrev s_l_price : Stmt := topS 39
abbrev N_l_price : List Str := ["_law_row", "_law_width", "_law_begin", "_law_end"]
theorem sc_l_price : FnScope N_l_price ["_law_row", "_law_width", "_law_begin", "_law_end"] (defScope s_l_price) := ⟨rfl, rfl, rfl, by decide +kernel, rfl, by decide +kernel, by decide +kernel⟩
abbrev s_l_sum : Stmt := topS 40
abbrev N_l_sum : List Str := ["_law_row", "_law_width", "_law_found", "_law_ends", "_law_total", "_law_k"]
theorem sc_l_sum : FnScope N_l_sum ["_law_row", "_law_width", "_law_found"] (defScope s_l_sum) := ⟨rfl, rfl, rfl, by decide +kernel, rfl, by decide +kernel, by decide +kernel⟩
abbrev s_l_are_starts : Stmt := topS 41
abbrev N_l_are_starts : List Str := ["_law_row", "_law_width", "_law_found", "_law_ends", "_law_k"]
theorem sc_l_are_starts : FnScope N_l_are_starts ["_law_row", "_law_width", "_law_found"] (defScope s_l_are_starts) := ⟨rfl, rfl, rfl, by decide +kernel, rfl, by decide +kernel, by decide +kernel⟩
abbrev s_l_others_by : Stmt := topS 42
abbrev N_l_others_by : List Str := ["_law_cells", "_law_row", "_law_width", "_law_found", "_law_at", "_law_end", "_law_cell"]
theorem sc_l_others_by : FnScope N_l_others_by ["_law_cells", "_law_row", "_law_width"] (defScope s_l_others_by) := ⟨rfl, rfl, rfl, by decide +kernel, rfl, by decide +kernel, by decide +kernel⟩
abbrev s_l_in_lines : Stmt := topS 43
abbrev N_l_in_lines : List Str := ["_law_cells", "_law_row", "_law_width", "_law_many", "_law_found", "_law_left", "_law_k"]
theorem sc_l_in_lines : FnScope N_l_in_lines ["_law_cells", "_law_row", "_law_width", "_law_many"] (defScope s_l_in_lines) := ⟨rfl, rfl, rfl, by decide +kernel, rfl, by decide +kernel, by decide +kernel⟩
abbrev s_l_kind : Stmt := topS 44
abbrev N_l_kind : List Str := ["_law_e", "_law_flags", "_law_k"]
theorem sc_l_kind : FnScope N_l_kind ["_law_e"] (defScope s_l_kind) := ⟨rfl, rfl, rfl, by decide +kernel, rfl, by decide +kernel, by decide +kernel⟩
abbrev s_l_refusal : Stmt := topS 45
abbrev N_l_refusal : List Str := ["_law_row", "_law_width", "_law_many", "_law_e"]
theorem sc_l_refusal : FnScope N_l_refusal ["_law_row", "_law_width", "_law_many"] (defScope s_l_refusal) := ⟨rfl, rfl, rfl, by decide +kernel, rfl, by decide +kernel, by decide +kernel⟩
abbrev s_l_all : Stmt := topS 46
abbrev N_l_all : List Str := ["_law_count", "_law_every", "_law_k", "_law_one"]
theorem sc_l_all : FnScope N_l_all ["_law_count"] (defScope s_l_all) := ⟨rfl, rfl, rfl, by decide +kernel, rfl, by decide +kernel, by decide +kernel⟩
abbrev s_l_near : Stmt := topS 47
abbrev N_l_near : List Str := ["_law_found", "_law_count", "_law_near_here", "_law_k"]
theorem sc_l_near : FnScope N_l_near ["_law_found", "_law_count"] (defScope s_l_near) := ⟨rfl, rfl, rfl, by decide +kernel, rfl, by decide +kernel, by decide +kernel⟩
abbrev s_l_beaten : Stmt := topS 48
abbrev N_l_beaten : List Str := ["_law_row", "_law_width", "_law_found", "_law_others", "_law_mine", "_law_theirs"]
theorem sc_l_beaten : FnScope N_l_beaten ["_law_row", "_law_width", "_law_found", "_law_others"] (defScope s_l_beaten) := ⟨rfl, rfl, rfl, by decide +kernel, rfl, by decide +kernel, by decide +kernel⟩
abbrev s_l_many_by : Stmt := topS 49
abbrev N_l_many_by : List Str := ["_law_cell", "_law_quick", "_law_count", "_law_great"]
theorem sc_l_many_by : FnScope N_l_many_by ["_law_cell", "_law_quick", "_law_count", "_law_great"] (defScope s_l_many_by) := ⟨rfl, rfl, rfl, by decide +kernel, rfl, by decide +kernel, by decide +kernel⟩
abbrev s_law : Stmt := topS 50
abbrev N_law : List Str := ["_law_script", "_law_cut", "_law_more", "_law_great", "_law_row", "_law_width", "_law_quick", "_law_many", "_law_handed", "_law_found", "_law_rows", "_law_turn", "_law_others"]
theorem sc_law : FnScope N_law ["_law_script"] (defScope s_law) := ⟨rfl, rfl, rfl, by decide +kernel, rfl, by decide +kernel, by decide +kernel⟩
/-- where the defs and classes stand -/
structure Ad where
  f_sizes_from : Addr
  d_sizes_from : FuncData
  f_long_word : Addr
  d_long_word : FuncData
  f_check_width : Addr
  d_check_width : FuncData
  f_check_words : Addr
  d_check_words : FuncData
  f_quick_starts : Addr
  d_quick_starts : FuncData
  f_best_line : Addr
  d_best_line : FuncData
  f_squares_of : Addr
  d_squares_of : FuncData
  f_starts_in : Addr
  d_starts_in : FuncData
  f_check_many : Addr
  d_check_many : FuncData
  f_counts_from : Addr
  d_counts_from : FuncData
  f_tables_below : Addr
  d_tables_below : FuncData
  f_l_cell_at : Addr
  d_l_cell_at : FuncData
  f_l_sign_by : Addr
  d_l_sign_by : FuncData
  f_l_word_by : Addr
  d_l_word_by : FuncData
  f_l_whole : Addr
  d_l_whole : FuncData
  f_l_wholes : Addr
  d_l_wholes : FuncData
  f_l_longest : Addr
  d_l_longest : FuncData
  f_l_size : Addr
  d_l_size : FuncData
  f_l_alike_by : Addr
  d_l_alike_by : FuncData
  f_l_wide_by : Addr
  d_l_wide_by : FuncData
  f_l_words_by : Addr
  d_l_words_by : FuncData
  f_l_width_by : Addr
  d_l_width_by : FuncData
  f_l_price : Addr
  d_l_price : FuncData
  f_l_sum : Addr
  d_l_sum : FuncData
  f_l_are_starts : Addr
  d_l_are_starts : FuncData
  f_l_others_by : Addr
  d_l_others_by : FuncData
  f_l_in_lines : Addr
  d_l_in_lines : FuncData
  f_l_kind : Addr
  d_l_kind : FuncData
  f_l_refusal : Addr
  d_l_refusal : FuncData
  f_l_all : Addr
  d_l_all : FuncData
  f_l_near : Addr
  d_l_near : FuncData
  f_l_beaten : Addr
  d_l_beaten : FuncData
  f_l_many_by : Addr
  d_l_many_by : FuncData
  f_law : Addr
  d_law : FuncData
  c_WrapError : Addr
  c_NoWidth : Addr
  c_LongWord : Addr
  c_NoStarts : Addr
  c_TooWide : Addr
  c_TooFew : Addr
  c_TooMany : Addr
  c_NoPlace : Addr
  c_NoWord : Addr
  c_Full : Addr
  c_NoWayBack : Addr
/-- what the top has left -/
structure Txt (K : PySem.W.Frag) (mg : Str → Option Value) (A : Ad) : Prop where
  F_sizes_from : Fun K "sizes_from" "sizes_from" s_sizes_from A.f_sizes_from A.d_sizes_from
  g_sizes_from : mg "sizes_from" = some (.ref A.f_sizes_from)
  b_sizes_from : Binds K A.d_sizes_from ["words", "width", "begin"] []
  F_long_word : Fun K "long_word" "long_word" s_long_word A.f_long_word A.d_long_word
  g_long_word : mg "long_word" = some (.ref A.f_long_word)
  b_long_word : Binds K A.d_long_word ["words", "width"] []
  F_check_width : Fun K "check_width" "check_width" s_check_width A.f_check_width A.d_check_width
  g_check_width : mg "check_width" = some (.ref A.f_check_width)
  b_check_width : Binds K A.d_check_width ["width"] []
  F_check_words : Fun K "check_words" "check_words" s_check_words A.f_check_words A.d_check_words
  g_check_words : mg "check_words" = some (.ref A.f_check_words)
  b_check_words : Binds K A.d_check_words ["words", "width"] []
  F_quick_starts : Fun K "quick_starts" "quick_starts" s_quick_starts A.f_quick_starts A.d_quick_starts
  g_quick_starts : mg "quick_starts" = some (.ref A.f_quick_starts)
  b_quick_starts : Binds K A.d_quick_starts ["words", "width"] []
  F_best_line : Fun K "best_line" "best_line" s_best_line A.f_best_line A.d_best_line
  g_best_line : mg "best_line" = some (.ref A.f_best_line)
  b_best_line : Binds K A.d_best_line ["counts", "begin", "rest"] []
  F_squares_of : Fun K "squares_of" "squares_of" s_squares_of A.f_squares_of A.d_squares_of
  g_squares_of : mg "squares_of" = some (.ref A.f_squares_of)
  b_squares_of : Binds K A.d_squares_of ["width", "sizes"] []
  F_starts_in : Fun K "starts_in" "starts_in" s_starts_in A.f_starts_in A.d_starts_in
  g_starts_in : mg "starts_in" = some (.ref A.f_starts_in)
  b_starts_in : Binds K A.d_starts_in ["words", "width", "many"] []
  F_check_many : Fun K "check_many" "check_many" s_check_many A.f_check_many A.d_check_many
  g_check_many : mg "check_many" = some (.ref A.f_check_many)
  b_check_many : Binds K A.d_check_many ["words", "width", "many"] []
  F_counts_from : Fun K "counts_from" "counts_from" s_counts_from A.f_counts_from A.d_counts_from
  g_counts_from : mg "counts_from" = some (.ref A.f_counts_from)
  b_counts_from : Binds K A.d_counts_from ["words", "width", "begin"] []
  F_tables_below : Fun K "tables_below" "tables_below" s_tables_below A.f_tables_below A.d_tables_below
  g_tables_below : mg "tables_below" = some (.ref A.f_tables_below)
  b_tables_below : Binds K A.d_tables_below ["counts", "many"] []
  F_l_cell_at : Fun K "_law_cell_at" "_law_cell_at" s_l_cell_at A.f_l_cell_at A.d_l_cell_at
  g_l_cell_at : mg "_law_cell_at" = some (.ref A.f_l_cell_at)
  b_l_cell_at : Binds K A.d_l_cell_at ["_law_script", "_law_k"] []
  F_l_sign_by : Fun K "_law_sign_by" "_law_sign_by" s_l_sign_by A.f_l_sign_by A.d_l_sign_by
  g_l_sign_by : mg "_law_sign_by" = some (.ref A.f_l_sign_by)
  b_l_sign_by : Binds K A.d_l_sign_by ["_law_cell"] []
  F_l_word_by : Fun K "_law_word_by" "_law_word_by" s_l_word_by A.f_l_word_by A.d_l_word_by
  g_l_word_by : mg "_law_word_by" = some (.ref A.f_l_word_by)
  b_l_word_by : Binds K A.d_l_word_by ["_law_cell"] []
  F_l_whole : Fun K "_law_whole" "_law_whole" s_l_whole A.f_l_whole A.d_l_whole
  g_l_whole : mg "_law_whole" = some (.ref A.f_l_whole)
  b_l_whole : Binds K A.d_l_whole ["_law_found"] []
  F_l_wholes : Fun K "_law_wholes" "_law_wholes" s_l_wholes A.f_l_wholes A.d_l_wholes
  g_l_wholes : mg "_law_wholes" = some (.ref A.f_l_wholes)
  b_l_wholes : Binds K A.d_l_wholes ["_law_found"] []
  F_l_longest : Fun K "_law_longest" "_law_longest" s_l_longest A.f_l_longest A.d_l_longest
  g_l_longest : mg "_law_longest" = some (.ref A.f_l_longest)
  b_l_longest : Binds K A.d_l_longest ["_law_row"] []
  F_l_size : Fun K "_law_size" "_law_size" s_l_size A.f_l_size A.d_l_size
  g_l_size : mg "_law_size" = some (.ref A.f_l_size)
  b_l_size : Binds K A.d_l_size ["_law_row", "_law_begin", "_law_end"] []
  F_l_alike_by : Fun K "_law_alike_by" "_law_alike_by" s_l_alike_by A.f_l_alike_by A.d_l_alike_by
  g_l_alike_by : mg "_law_alike_by" = some (.ref A.f_l_alike_by)
  b_l_alike_by : Binds K A.d_l_alike_by ["_law_cell", "_law_size_here"] []
  F_l_wide_by : Fun K "_law_wide_by" "_law_wide_by" s_l_wide_by A.f_l_wide_by A.d_l_wide_by
  g_l_wide_by : mg "_law_wide_by" = some (.ref A.f_l_wide_by)
  b_l_wide_by : Binds K A.d_l_wide_by ["_law_more", "_law_k"] []
  F_l_words_by : Fun K "_law_words_by" "_law_words_by" s_l_words_by A.f_l_words_by A.d_l_words_by
  g_l_words_by : mg "_law_words_by" = some (.ref A.f_l_words_by)
  b_l_words_by : Binds K A.d_l_words_by ["_law_cells", "_law_more"] []
  F_l_width_by : Fun K "_law_width_by" "_law_width_by" s_l_width_by A.f_l_width_by A.d_l_width_by
  g_l_width_by : mg "_law_width_by" = some (.ref A.f_l_width_by)
  b_l_width_by : Binds K A.d_l_width_by ["_law_cell", "_law_row"] []
  F_l_price : Fun K "_law_price" "_law_price" s_l_price A.f_l_price A.d_l_price
  g_l_price : mg "_law_price" = some (.ref A.f_l_price)
  b_l_price : Binds K A.d_l_price ["_law_row", "_law_width", "_law_begin", "_law_end"] []
  F_l_sum : Fun K "_law_sum" "_law_sum" s_l_sum A.f_l_sum A.d_l_sum
  g_l_sum : mg "_law_sum" = some (.ref A.f_l_sum)
  b_l_sum : Binds K A.d_l_sum ["_law_row", "_law_width", "_law_found"] []
  F_l_are_starts : Fun K "_law_are_starts" "_law_are_starts" s_l_are_starts A.f_l_are_starts A.d_l_are_starts
  g_l_are_starts : mg "_law_are_starts" = some (.ref A.f_l_are_starts)
  b_l_are_starts : Binds K A.d_l_are_starts ["_law_row", "_law_width", "_law_found"] []
  F_l_others_by : Fun K "_law_others_by" "_law_others_by" s_l_others_by A.f_l_others_by A.d_l_others_by
  g_l_others_by : mg "_law_others_by" = some (.ref A.f_l_others_by)
  b_l_others_by : Binds K A.d_l_others_by ["_law_cells", "_law_row", "_law_width"] []
  F_l_in_lines : Fun K "_law_in_lines" "_law_in_lines" s_l_in_lines A.f_l_in_lines A.d_l_in_lines
  g_l_in_lines : mg "_law_in_lines" = some (.ref A.f_l_in_lines)
  b_l_in_lines : Binds K A.d_l_in_lines ["_law_cells", "_law_row", "_law_width", "_law_many"] []
  F_l_kind : Fun K "_law_kind" "_law_kind" s_l_kind A.f_l_kind A.d_l_kind
  g_l_kind : mg "_law_kind" = some (.ref A.f_l_kind)
  b_l_kind : Binds K A.d_l_kind ["_law_e"] []
  F_l_refusal : Fun K "_law_refusal" "_law_refusal" s_l_refusal A.f_l_refusal A.d_l_refusal
  g_l_refusal : mg "_law_refusal" = some (.ref A.f_l_refusal)
  b_l_refusal : Binds K A.d_l_refusal ["_law_row", "_law_width", "_law_many"] []
  F_l_all : Fun K "_law_all" "_law_all" s_l_all A.f_l_all A.d_l_all
  g_l_all : mg "_law_all" = some (.ref A.f_l_all)
  b_l_all : Binds K A.d_l_all ["_law_count"] []
  F_l_near : Fun K "_law_near" "_law_near" s_l_near A.f_l_near A.d_l_near
  g_l_near : mg "_law_near" = some (.ref A.f_l_near)
  b_l_near : Binds K A.d_l_near ["_law_found", "_law_count"] []
  F_l_beaten : Fun K "_law_beaten" "_law_beaten" s_l_beaten A.f_l_beaten A.d_l_beaten
  g_l_beaten : mg "_law_beaten" = some (.ref A.f_l_beaten)
  b_l_beaten : Binds K A.d_l_beaten ["_law_row", "_law_width", "_law_found", "_law_others"] []
  F_l_many_by : Fun K "_law_many_by" "_law_many_by" s_l_many_by A.f_l_many_by A.d_l_many_by
  g_l_many_by : mg "_law_many_by" = some (.ref A.f_l_many_by)
  b_l_many_by : Binds K A.d_l_many_by ["_law_cell", "_law_quick", "_law_count", "_law_great"] []
  F_law : Fun K "law" "law" s_law A.f_law A.d_law
  g_law : mg "law" = some (.ref A.f_law)
  b_law : Binds K A.d_law ["_law_script"] []
  m_ValueError : mg "ValueError" = none
  m_bool : mg "bool" = none
  m_enumerate : mg "enumerate" = none
  m_int : mg "int" = none
  m_isinstance : mg "isinstance" = none
  m_len : mg "len" = none
  m_list : mg "list" = none
  m_max : mg "max" = none
  m_range : mg "range" = none
  m_reversed : mg "reversed" = none
  m_sorted : mg "sorted" = none
  m_sum : mg "sum" = none
  gc_WrapError : mg "WrapError" = some (.ref A.c_WrapError)
  gc_NoWidth : mg "NoWidth" = some (.ref A.c_NoWidth)
  gc_LongWord : mg "LongWord" = some (.ref A.c_LongWord)
  gc_NoStarts : mg "NoStarts" = some (.ref A.c_NoStarts)
  gc_TooWide : mg "TooWide" = some (.ref A.c_TooWide)
  gc_TooFew : mg "TooFew" = some (.ref A.c_TooFew)
  gc_TooMany : mg "TooMany" = some (.ref A.c_TooMany)
  gc_NoPlace : mg "NoPlace" = some (.ref A.c_NoPlace)
  gc_NoWord : mg "NoWord" = some (.ref A.c_NoWord)
  gc_Full : mg "Full" = some (.ref A.c_Full)
  gc_NoWayBack : mg "NoWayBack" = some (.ref A.c_NoWayBack)
  hd_WrapError : PySem.W.hasDictIn K A.c_WrapError = true
  ty_WrapError : PySem.W.typeIn K (.ref A.c_WrapError) = some (.type "type")
  hd_NoWidth : PySem.W.hasDictIn K A.c_NoWidth = true
  ty_NoWidth : PySem.W.typeIn K (.ref A.c_NoWidth) = some (.type "type")
  hd_LongWord : PySem.W.hasDictIn K A.c_LongWord = true
  ty_LongWord : PySem.W.typeIn K (.ref A.c_LongWord) = some (.type "type")
  hd_NoStarts : PySem.W.hasDictIn K A.c_NoStarts = true
  ty_NoStarts : PySem.W.typeIn K (.ref A.c_NoStarts) = some (.type "type")
  hd_TooWide : PySem.W.hasDictIn K A.c_TooWide = true
  ty_TooWide : PySem.W.typeIn K (.ref A.c_TooWide) = some (.type "type")
  hd_TooFew : PySem.W.hasDictIn K A.c_TooFew = true
  ty_TooFew : PySem.W.typeIn K (.ref A.c_TooFew) = some (.type "type")
  hd_TooMany : PySem.W.hasDictIn K A.c_TooMany = true
  ty_TooMany : PySem.W.typeIn K (.ref A.c_TooMany) = some (.type "type")
  hd_NoPlace : PySem.W.hasDictIn K A.c_NoPlace = true
  ty_NoPlace : PySem.W.typeIn K (.ref A.c_NoPlace) = some (.type "type")
  hd_NoWord : PySem.W.hasDictIn K A.c_NoWord = true
  ty_NoWord : PySem.W.typeIn K (.ref A.c_NoWord) = some (.type "type")
  hd_Full : PySem.W.hasDictIn K A.c_Full = true
  ty_Full : PySem.W.typeIn K (.ref A.c_Full) = some (.type "type")
  hd_NoWayBack : PySem.W.hasDictIn K A.c_NoWayBack = true
  ty_NoWayBack : PySem.W.typeIn K (.ref A.c_NoWayBack) = some (.type "type")
  bw : PySem.W.subIn K (.ref A.c_WrapError) (.type "BaseException") = some true
  ex_NoWidth : ExF K A.c_NoWidth
  sv_NoWidth : PySem.W.subIn K (.ref A.c_NoWidth) (.type "ValueError") = some true
  sb_NoWidth_WrapError : PySem.W.subIn K (.ref A.c_NoWidth) (.ref A.c_WrapError) = some true
  sb_NoWidth_NoWidth : PySem.W.subIn K (.ref A.c_NoWidth) (.ref A.c_NoWidth) = some true
  sb_NoWidth_LongWord : PySem.W.subIn K (.ref A.c_NoWidth) (.ref A.c_LongWord) = some false
  ne_NoWidth_LongWord : A.c_NoWidth ≠ A.c_LongWord
  sb_NoWidth_NoStarts : PySem.W.subIn K (.ref A.c_NoWidth) (.ref A.c_NoStarts) = some false
  ne_NoWidth_NoStarts : A.c_NoWidth ≠ A.c_NoStarts
  sb_NoWidth_TooWide : PySem.W.subIn K (.ref A.c_NoWidth) (.ref A.c_TooWide) = some false
  ne_NoWidth_TooWide : A.c_NoWidth ≠ A.c_TooWide
  sb_NoWidth_TooFew : PySem.W.subIn K (.ref A.c_NoWidth) (.ref A.c_TooFew) = some false
  ne_NoWidth_TooFew : A.c_NoWidth ≠ A.c_TooFew
  sb_NoWidth_TooMany : PySem.W.subIn K (.ref A.c_NoWidth) (.ref A.c_TooMany) = some false
  ne_NoWidth_TooMany : A.c_NoWidth ≠ A.c_TooMany
  sb_NoWidth_NoPlace : PySem.W.subIn K (.ref A.c_NoWidth) (.ref A.c_NoPlace) = some false
  ne_NoWidth_NoPlace : A.c_NoWidth ≠ A.c_NoPlace
  sb_NoWidth_NoWord : PySem.W.subIn K (.ref A.c_NoWidth) (.ref A.c_NoWord) = some false
  ne_NoWidth_NoWord : A.c_NoWidth ≠ A.c_NoWord
  sb_NoWidth_Full : PySem.W.subIn K (.ref A.c_NoWidth) (.ref A.c_Full) = some false
  ne_NoWidth_Full : A.c_NoWidth ≠ A.c_Full
  sb_NoWidth_NoWayBack : PySem.W.subIn K (.ref A.c_NoWidth) (.ref A.c_NoWayBack) = some false
  ne_NoWidth_NoWayBack : A.c_NoWidth ≠ A.c_NoWayBack
  ex_LongWord : ExF K A.c_LongWord
  sv_LongWord : PySem.W.subIn K (.ref A.c_LongWord) (.type "ValueError") = some true
  sb_LongWord_WrapError : PySem.W.subIn K (.ref A.c_LongWord) (.ref A.c_WrapError) = some true
  sb_LongWord_NoWidth : PySem.W.subIn K (.ref A.c_LongWord) (.ref A.c_NoWidth) = some false
  ne_LongWord_NoWidth : A.c_LongWord ≠ A.c_NoWidth
  sb_LongWord_LongWord : PySem.W.subIn K (.ref A.c_LongWord) (.ref A.c_LongWord) = some true
  sb_LongWord_NoStarts : PySem.W.subIn K (.ref A.c_LongWord) (.ref A.c_NoStarts) = some false
  ne_LongWord_NoStarts : A.c_LongWord ≠ A.c_NoStarts
  sb_LongWord_TooWide : PySem.W.subIn K (.ref A.c_LongWord) (.ref A.c_TooWide) = some false
  ne_LongWord_TooWide : A.c_LongWord ≠ A.c_TooWide
  sb_LongWord_TooFew : PySem.W.subIn K (.ref A.c_LongWord) (.ref A.c_TooFew) = some false
  ne_LongWord_TooFew : A.c_LongWord ≠ A.c_TooFew
  sb_LongWord_TooMany : PySem.W.subIn K (.ref A.c_LongWord) (.ref A.c_TooMany) = some false
  ne_LongWord_TooMany : A.c_LongWord ≠ A.c_TooMany
  sb_LongWord_NoPlace : PySem.W.subIn K (.ref A.c_LongWord) (.ref A.c_NoPlace) = some false
  ne_LongWord_NoPlace : A.c_LongWord ≠ A.c_NoPlace
  sb_LongWord_NoWord : PySem.W.subIn K (.ref A.c_LongWord) (.ref A.c_NoWord) = some false
  ne_LongWord_NoWord : A.c_LongWord ≠ A.c_NoWord
  sb_LongWord_Full : PySem.W.subIn K (.ref A.c_LongWord) (.ref A.c_Full) = some false
  ne_LongWord_Full : A.c_LongWord ≠ A.c_Full
  sb_LongWord_NoWayBack : PySem.W.subIn K (.ref A.c_LongWord) (.ref A.c_NoWayBack) = some false
  ne_LongWord_NoWayBack : A.c_LongWord ≠ A.c_NoWayBack
  ex_TooFew : ExF K A.c_TooFew
  sv_TooFew : PySem.W.subIn K (.ref A.c_TooFew) (.type "ValueError") = some true
  sb_TooFew_WrapError : PySem.W.subIn K (.ref A.c_TooFew) (.ref A.c_WrapError) = some true
  sb_TooFew_NoWidth : PySem.W.subIn K (.ref A.c_TooFew) (.ref A.c_NoWidth) = some false
  ne_TooFew_NoWidth : A.c_TooFew ≠ A.c_NoWidth
  sb_TooFew_LongWord : PySem.W.subIn K (.ref A.c_TooFew) (.ref A.c_LongWord) = some false
  ne_TooFew_LongWord : A.c_TooFew ≠ A.c_LongWord
  sb_TooFew_NoStarts : PySem.W.subIn K (.ref A.c_TooFew) (.ref A.c_NoStarts) = some false
  ne_TooFew_NoStarts : A.c_TooFew ≠ A.c_NoStarts
  sb_TooFew_TooWide : PySem.W.subIn K (.ref A.c_TooFew) (.ref A.c_TooWide) = some false
  ne_TooFew_TooWide : A.c_TooFew ≠ A.c_TooWide
  sb_TooFew_TooFew : PySem.W.subIn K (.ref A.c_TooFew) (.ref A.c_TooFew) = some true
  sb_TooFew_TooMany : PySem.W.subIn K (.ref A.c_TooFew) (.ref A.c_TooMany) = some false
  ne_TooFew_TooMany : A.c_TooFew ≠ A.c_TooMany
  sb_TooFew_NoPlace : PySem.W.subIn K (.ref A.c_TooFew) (.ref A.c_NoPlace) = some false
  ne_TooFew_NoPlace : A.c_TooFew ≠ A.c_NoPlace
  sb_TooFew_NoWord : PySem.W.subIn K (.ref A.c_TooFew) (.ref A.c_NoWord) = some false
  ne_TooFew_NoWord : A.c_TooFew ≠ A.c_NoWord
  sb_TooFew_Full : PySem.W.subIn K (.ref A.c_TooFew) (.ref A.c_Full) = some false
  ne_TooFew_Full : A.c_TooFew ≠ A.c_Full
  sb_TooFew_NoWayBack : PySem.W.subIn K (.ref A.c_TooFew) (.ref A.c_NoWayBack) = some false
  ne_TooFew_NoWayBack : A.c_TooFew ≠ A.c_NoWayBack
  ex_TooMany : ExF K A.c_TooMany
  sv_TooMany : PySem.W.subIn K (.ref A.c_TooMany) (.type "ValueError") = some true
  sb_TooMany_WrapError : PySem.W.subIn K (.ref A.c_TooMany) (.ref A.c_WrapError) = some true
  sb_TooMany_NoWidth : PySem.W.subIn K (.ref A.c_TooMany) (.ref A.c_NoWidth) = some false
  ne_TooMany_NoWidth : A.c_TooMany ≠ A.c_NoWidth
  sb_TooMany_LongWord : PySem.W.subIn K (.ref A.c_TooMany) (.ref A.c_LongWord) = some false
  ne_TooMany_LongWord : A.c_TooMany ≠ A.c_LongWord
  sb_TooMany_NoStarts : PySem.W.subIn K (.ref A.c_TooMany) (.ref A.c_NoStarts) = some false
  ne_TooMany_NoStarts : A.c_TooMany ≠ A.c_NoStarts
  sb_TooMany_TooWide : PySem.W.subIn K (.ref A.c_TooMany) (.ref A.c_TooWide) = some false
  ne_TooMany_TooWide : A.c_TooMany ≠ A.c_TooWide
  sb_TooMany_TooFew : PySem.W.subIn K (.ref A.c_TooMany) (.ref A.c_TooFew) = some false
  ne_TooMany_TooFew : A.c_TooMany ≠ A.c_TooFew
  sb_TooMany_TooMany : PySem.W.subIn K (.ref A.c_TooMany) (.ref A.c_TooMany) = some true
  sb_TooMany_NoPlace : PySem.W.subIn K (.ref A.c_TooMany) (.ref A.c_NoPlace) = some false
  ne_TooMany_NoPlace : A.c_TooMany ≠ A.c_NoPlace
  sb_TooMany_NoWord : PySem.W.subIn K (.ref A.c_TooMany) (.ref A.c_NoWord) = some false
  ne_TooMany_NoWord : A.c_TooMany ≠ A.c_NoWord
  sb_TooMany_Full : PySem.W.subIn K (.ref A.c_TooMany) (.ref A.c_Full) = some false
  ne_TooMany_Full : A.c_TooMany ≠ A.c_Full
  sb_TooMany_NoWayBack : PySem.W.subIn K (.ref A.c_TooMany) (.ref A.c_NoWayBack) = some false
  ne_TooMany_NoWayBack : A.c_TooMany ≠ A.c_NoWayBack
/-! ### the words that a law makes of its cells -/
/-- a word of the law's: of signs of words, of one to 300 -/
def Wd (z : Str) : Prop := (∀ c ∈ TL.tl z, Ws c) ∧ 1 ≤ z.length ∧ z.length ≤ 300
theorem Wd.txs {z : Str} (h : Wd z) : Txs z := fun c hc => .inr (.inr (h.1 c hc))
theorem Wd.lt {z : Str} (h : Wd z) : ∀ c ∈ TL.tl z, c < 1114112 := h.txs.lt
def one (c : Nat) : Str := ⟨#[c]⟩
theorem one_len (c : Nat) : (one c).length = 1 := rfl
theorem sum_ones (n : Nat) (g : Nat → Nat) : (((List.range n).map fun i => one (g i)).map (·.length)).sum = n := by
  rw [List.map_map]
  induction n with
  | zero => rfl
  | succ m ih => rw [List.range_succ, List.map_append, List.sum_append, ih] <;> rfl
theorem ws_join {ps : List Str} (h : ∀ p ∈ ps, ∀ c ∈ TL.tl p, Ws c) : ∀ c ∈ TL.tl (Txt.join Str.empty ps), Ws c := fun c hc => by
  rw [TL.join_eq, TL.tl_join] at hc
  rcases joinL_mem _ _ c hc with q | ⟨p, q, q2⟩
  · simp [TL.tl, Str.empty] at q
  · obtain ⟨z, hz, rfl⟩ := List.mem_map.mp q
    exact h z hz c q2
theorem ws_mul {z : Str} (h : ∀ c ∈ TL.tl z, Ws c) (k : Int) : ∀ c ∈ TL.tl (Txt.mul z k), Ws c := fun c hc => by
  unfold Txt.mul at hc
  split at hc
  · simp [TL.tl, Str.empty] at hc
  · split at hc
    · exact h c hc
    · have go : ∀ (n : Nat) (acc : Array Nat), (∀ d ∈ acc.toList, Ws d) → ∀ d ∈ ((List.replicate n z.cps).foldl (· ++ ·) acc).toList, Ws d := by
        intro n
        induction n with
        | zero => exact fun acc ha => ha
        | succ n ih =>
          intro acc ha
          rw [List.replicate_succ, List.foldl_cons]
          refine ih _ fun d hd => ?_
          rw [Array.toList_append] at hd
          rcases List.mem_append.mp hd with hd | hd
          · exact ha d hd
          · exact h d hd
      exact go _ _ (fun d hd => by simp at hd) c hc
theorem ws_one (c : Int) : ∀ d ∈ TL.tl (one (sgn c)), Ws d := fun d hd => by
  rw [show TL.tl (one (sgn c)) = [sgn c] from rfl] at hd
  rw [List.mem_singleton.mp hd]
  exact sgn_ws c
theorem ws_app {x y : Str} (h : ∀ c ∈ TL.tl x, Ws c) (k : ∀ c ∈ TL.tl y, Ws c) : ∀ c ∈ TL.tl (x ++ y), Ws c := fun c hc => by
  rw [TL.tl_append] at hc
  rcases List.mem_append.mp hc with hc | hc
  · exact h c hc
  · exact k c hc
theorem len_mul1 {z : Str} (hz : z.length = 1) {k : Int} (hk : 0 ≤ k) : ((Txt.mul z k).length : Int) = k := by
  have e := len_mul z k
  rw [hz, if_neg (by simp; omega)] at e
  omega
def wsize (c : Int) : Int := if c / 7 % 81 = 2 then 1 + c / 567 % 300 else if c / 7 % 9 = 1 then 1 + c / 63 % 40 else 1 + c % 7
theorem wsize_in (c : Int) : 1 ≤ wsize c ∧ wsize c ≤ 300 := by
  unfold wsize
  split
  · omega
  · split <;> omega
def wordOf (c : Int) : Str := Txt.join Str.empty ((List.range (wsize c).toNat).map fun (i : Nat) => one (sgn (c / 3 + (i : Int) * (1 + c % 5))))
theorem wordOf_wd (c : Int) : Wd (wordOf c) := by
  have h := wsize_in c
  have e : (wordOf c).length = (wsize c).toNat := by
    unfold wordOf
    rw [len_join0, sum_ones (wsize c).toNat fun i => sgn (c / 3 + (i : Int) * (1 + c % 5))]
  refine ⟨ws_join fun p hp => ?_, by omega, by omega⟩
  obtain ⟨i, _, rfl⟩ := List.mem_map.mp hp
  exact ws_one _
def signA : Str := ⟨#[97]⟩
theorem signA_eq : Str.ofString "a" = signA := by decide +kernel
theorem ws_a : ∀ d ∈ TL.tl signA, Ws d := by
  intro d hd
  rw [show TL.tl signA = [97] from rfl] at hd
  rw [List.mem_singleton.mp hd]
  exact ⟨by decide, by decide⟩
def alikeOf (c s : Int) : Str := Txt.mul signA (c / 93 % s) ++ one (sgn c) ++ Txt.mul signA (s - 1 - c / 93 % s)
theorem alikeOf_wd (c : Int) {s : Int} (h1 : 1 ≤ s) (h2 : s ≤ 4) : Wd (alikeOf c s) := by
  have a0 : 0 ≤ c / 93 % s := Int.emod_nonneg _ (by omega)
  have a1 : c / 93 % s < s := Int.emod_lt_of_pos _ (by omega)
  have l1 := len_mul1 (z := signA) rfl a0
  have l2 := len_mul1 (z := signA) rfl (show 0 ≤ s - 1 - c / 93 % s by omega)
  refine ⟨ws_app (ws_app (ws_mul ws_a _) (ws_one c)) (ws_mul ws_a _), ?_, ?_⟩
  · unfold alikeOf
    rw [len_app, len_app, one_len]
    omega
  · unfold alikeOf
    rw [len_app, len_app, one_len]
    omega
def wideOf (m k : Int) : Int := 1 + (m + k * k) % 3 + 5 * (if k % 7 = m % 7 then 1 else 0)
theorem wideOf_in (m k : Int) : 1 ≤ wideOf m k ∧ wideOf m k ≤ 8 := by
  unfold wideOf
  split <;> omega
def manyOf (m : Int) : Int := m * 48271 % 9973 % (if m / 12 % 4 = 3 then 1600 else 450)
theorem manyOf_in (m : Int) : 0 ≤ manyOf m ∧ manyOf m < 1600 := by
  unfold manyOf
  split <;> omega
def row0 (cells : List Int) (m : Int) : List Str := if m % 4 = 1 then ((List.replicate 6 (cells.map wordOf)).flatten).take (m / 4 % 150).toNat else cells.map wordOf
def row1 (cells : List Int) (m : Int) : List Str := if m % 4 = 2 then cells.map fun c => alikeOf c (1 + m / 4 % 4) else row0 cells m
def wordsOf (cells : List Int) (m : Int) : List Str := if m % 12 = 3 then (List.range (manyOf m).toNat).map fun (k : Nat) => Txt.mul (one (sgn (m + (k : Int)))) (wideOf m (k : Int)) else row1 cells m
theorem words_wd (cells : List Int) (m : Int) : ∀ z ∈ wordsOf cells m, Wd z := by
  have h0 : ∀ z ∈ cells.map wordOf, Wd z := fun z hz => by
    obtain ⟨c, _, rfl⟩ := List.mem_map.mp hz
    exact wordOf_wd c
  have h1 : ∀ z ∈ row0 cells m, Wd z := by
    unfold row0
    split
    · intro z hz
      have hz' := List.mem_of_mem_take hz
      obtain ⟨l, hl, hzl⟩ := List.mem_flatten.mp hz'
      rw [(List.mem_replicate.mp hl).2] at hzl
      exact h0 z hzl
    · exact h0
  have h2 : ∀ z ∈ row1 cells m, Wd z := by
    unfold row1
    split
    · intro z hz
      obtain ⟨c, _, rfl⟩ := List.mem_map.mp hz
      exact alikeOf_wd c (by omega) (by omega)
    · exact h1
  unfold wordsOf
  split
  · intro z hz
    obtain ⟨k, _, rfl⟩ := List.mem_map.mp hz
    have hw := wideOf_in m (k : Int)
    have hl := len_mul1 (z := one (sgn (m + (k : Int)))) rfl (show 0 ≤ wideOf m (k : Int) by omega)
    exact ⟨ws_mul (ws_one _) _, by omega, by omega⟩
  · exact h2
theorem words_len (cells : List Int) (m : Int) (h : cells.length ≤ 63) : (wordsOf cells m).length ≤ 1600 := by
  have hm := manyOf_in m
  unfold wordsOf row1 row0
  split
  · rw [List.length_map, List.length_range]
    omega
  · split
    · rw [List.length_map]
      omega
    · split
      · rw [List.length_take]
        have : m / 4 % 150 < 150 := by omega
        omega
      · rw [List.length_map]
        omega
theorem sum_le_mul : ∀ (l : List Str) (n : Nat), (∀ z ∈ l, z.length ≤ n) → (l.map (·.length)).sum ≤ n * l.length
  | [], _, _ => Nat.zero_le _
  | a :: r, n, h => by
    have h1 := h a (List.mem_cons_self ..)
    have h2 := sum_le_mul r n fun z hz => h z (List.mem_cons_of_mem _ hz)
    rw [List.map_cons, List.sum_cons, List.length_cons, Nat.mul_succ]
    omega

/-! ### lines -/
def blankS : Str := ⟨#[32]⟩
def lineOf (ws : List Str) (b e : Nat) : Str := Txt.join blankS ((ws.drop b).take (e - b))
def sizeN (ws : List Str) (b e : Nat) : Nat := (lineOf ws b e).length
theorem ev_blk {σ : L2.St} {H : Hp} : Ev (tC (.str (Str.ofString " "))) σ H (.str blankS) := ev_blank
theorem cut_words {ws : List Str} {b e : Nat} (h1 : b ≤ e) (h2 : e ≤ ws.length) : cutV (ws.map V.str) (some (b : Int)) (some (e : Int)) = ((ws.drop b).take (e - b)).map V.str := by
  unfold cutV
  rw [HT.sIx_nat, HT.sIx_nat, List.length_map, Nat.min_eq_left h2, Nat.min_eq_left (by omega), ← List.map_drop, ← List.map_take]
theorem line_fits {ws : List Str} (hz : ∀ z ∈ ws, z.length ≤ 300) (hl : ws.length ≤ 2000) (b e : Nat) : (((ws.drop b).take (e - b)).map (·.length)).sum + ((ws.drop b).take (e - b)).length * blankS.length ≤ 1000000 := by
  have h1 := sum_le_mul ((ws.drop b).take (e - b)) 300 fun z hz' => hz z (List.mem_of_mem_drop (List.mem_of_mem_take hz'))
  have h2 : ((ws.drop b).take (e - b)).length ≤ ws.length := by
    rw [List.length_take, List.length_drop]
    omega
  have h3 : blankS.length = 1 := rfl
  rw [h3]
  omega
theorem sizeN_le {ws : List Str} (hz : ∀ z ∈ ws, z.length ≤ 300) (hl : ws.length ≤ 2000) (b e : Nat) : sizeN ws b e ≤ 1000000 := by
  have h := line_fits hz hl b e
  have h2 := len_join blankS ((ws.drop b).take (e - b))
  unfold sizeN lineOf
  omega
def sp_size (K : PySem.W.Frag) : Sp := fun vs H Q _ => ∃ (p : Addr) (ws : List Str) (b e : Nat), vs = [.ref p, .int b, .int e] ∧ SqL K H p (ws.map V.str) ∧ (∀ z ∈ ws, z.length ≤ 300) ∧ ws.length ≤ 2000 ∧ b ≤ e ∧ e ≤ ws.length ∧ RetV (.int (sizeN ws b e)) H Q

/-! ### sizes by sums, starts that fit, the quick starts -/
def pre (ws : List Str) (i : Nat) : Nat := ((ws.take i).map fun z => z.length + 1).sum
theorem sum_succ : ∀ l : List Str, (l.map fun z => z.length + 1).sum = (l.map (·.length)).sum + l.length
  | [] => rfl
  | a :: r => by
    rw [List.map_cons, List.sum_cons, sum_succ r, List.map_cons, List.sum_cons, List.length_cons]
    omega
theorem pre_split {ws : List Str} {b e : Nat} (h : b ≤ e) : pre ws e = pre ws b + (((ws.drop b).take (e - b)).map fun z => z.length + 1).sum := by
  unfold pre
  have q : ws.take e = ws.take b ++ (ws.drop b).take (e - b) := by
    have q2 := List.take_add (l := ws) (i := b) (j := e - b)
    rw [show b + (e - b) = e by omega] at q2
    exact q2
  rw [q, List.map_append, List.sum_append]
theorem size_pre {ws : List Str} {b e : Nat} (h : b < e) (he : e ≤ ws.length) : sizeN ws b e + 1 + pre ws b = pre ws e := by
  have h1 := pre_split (ws := ws) (b := b) (e := e) (by omega)
  have h2 := len_join blankS ((ws.drop b).take (e - b))
  have h3 : ¬ (ws.drop b).take (e - b) = [] := fun q => by
    have q2 := congrArg List.length q
    rw [List.length_take, List.length_drop, List.length_nil] at q2
    omega
  rw [if_neg h3, show blankS.length = 1 from rfl, Nat.mul_one] at h2
  rw [sum_succ] at h1
  unfold sizeN lineOf
  omega
theorem pre_mono {ws : List Str} {b e : Nat} (h : b ≤ e) : pre ws b ≤ pre ws e := by
  rw [pre_split h]
  exact Nat.le_add_right _ _
theorem size_mono {ws : List Str} {b e b' e' : Nat} (h : b < e) (hb : b' ≤ b) (he : e ≤ e') (hn : e' ≤ ws.length) : sizeN ws b e ≤ sizeN ws b' e' := by
  have h1 := size_pre h (Nat.le_trans he hn)
  have h2 := size_pre (show b' < e' by omega) hn
  have h3 := pre_mono (ws := ws) hb
  have h4 := pre_mono (ws := ws) he
  omega
theorem pre_succ {ws : List Str} {i : Nat} {z : Str} (h : ws[i]? = some z) : pre ws (i + 1) = pre ws i + z.length + 1 := by
  unfold pre
  rw [List.take_add_one, h, List.map_append, List.sum_append]
  show _ + (z.length + 1 + 0) = _
  omega
theorem size_one {ws : List Str} {i : Nat} {z : Str} (h : ws[i]? = some z) : sizeN ws i (i + 1) = z.length := by
  have hi := (List.getElem?_eq_some_iff.mp h).1
  have h1 := size_pre (ws := ws) (show i < i + 1 by omega) (by omega)
  rw [pre_succ h] at h1
  omega
theorem size_succ {ws : List Str} {b i : Nat} {z : Str} (hb : b < i) (h : ws[i]? = some z) : sizeN ws b (i + 1) = sizeN ws b i + 1 + z.length := by
  have hi := (List.getElem?_eq_some_iff.mp h).1
  have h1 := size_pre (ws := ws) (show b < i + 1 by omega) (by omega)
  have h2 := size_pre (ws := ws) hb (by omega)
  rw [pre_succ h] at h1
  omega
/-- behind the k-th of the starts -/
def ends (S : List Nat) (n : Nat) : List Nat := S.drop 1 ++ [n]
theorem ends_at {S : List Nat} {n k : Nat} (hk : k < S.length) : (ends S n)[k]? = some (if h : k + 1 < S.length then S[k + 1] else n) := by
  unfold ends
  by_cases h : k + 1 < S.length
  · rw [dif_pos h, List.getElem?_append_left (by rw [List.length_drop]; omega), List.getElem?_drop, Nat.add_comm, List.getElem?_eq_getElem h]
  · rw [dif_neg h, List.getElem?_append_right (by rw [List.length_drop]; omega), List.length_drop]
    rw [show k - (S.length - 1) = 0 by omega] <;> rfl
/-- starts of lines that fit -/
structure FitS (ws : List Str) (w : Int) (S : List Nat) : Prop where
  nil : S = [] → ws = []
  zero : ∀ s : Nat, S[0]? = some s → s = 0
  fit : ∀ (k s e : Nat), S[k]? = some s → (ends S ws.length)[k]? = some e → s < e ∧ e ≤ ws.length ∧ (sizeN ws s e : Int) ≤ w
theorem FitS.next {ws : List Str} {w : Int} {S : List Nat} (f : FitS ws w S) {k : Nat} (hk : k + 1 < S.length) : S[k] < S[k + 1] ∧ S[k + 1] < ws.length ∧ (sizeN ws S[k] S[k + 1] : Int) ≤ w := by
  have h1 := f.fit k S[k] S[k + 1] (List.getElem?_eq_getElem (by omega)) (by rw [ends_at (by omega), dif_pos hk])
  have h2 := f.fit (k + 1) S[k + 1] (if h : k + 1 + 1 < S.length then S[k + 1 + 1] else ws.length) (List.getElem?_eq_getElem hk) (ends_at hk)
  exact ⟨h1.1, by omega, h1.2.2⟩
theorem FitS.last {ws : List Str} {w : Int} {S : List Nat} (f : FitS ws w S) {k : Nat} (hk : k + 1 = S.length) : S[k] < ws.length ∧ (sizeN ws S[k] ws.length : Int) ≤ w := by
  have h1 := f.fit k S[k] ws.length (List.getElem?_eq_getElem (by omega)) (by rw [ends_at (by omega), dif_neg (by omega)])
  exact ⟨h1.1, h1.2.2⟩
/-- each takes as many words as fit -/
def Full (ws : List Str) (w : Int) (S : List Nat) : Prop := ∀ (k : Nat) (h : k + 1 < S.length), w < (sizeN ws S[k] (S[k + 1] + 1) : Int)
theorem full_ahead {ws : List Str} {w : Int} {S O : List Nat} (fs : FitS ws w S) (hS : Full ws w S) (fo : FitS ws w O) : ∀ (k : Nat) (h1 : k < S.length) (h2 : k < O.length), O[k] ≤ S[k]
  | 0, h1, h2 => by
    rw [fs.zero S[0] (List.getElem?_eq_getElem h1), fo.zero O[0] (List.getElem?_eq_getElem h2)]
    exact Nat.le_refl _
  | k + 1, h1, h2 => by
    have ih := full_ahead fs hS fo k (by omega) (by omega)
    have a := fs.next (k := k) h1
    have b := fo.next (k := k) h2
    have c := hS k h1
    refine Nat.le_of_not_lt fun q => ?_
    have m := size_mono (ws := ws) (b := S[k]) (e := S[k + 1] + 1) (b' := O[k]) (e' := O[k + 1]) (by omega) ih (by omega) (by omega)
    omega
theorem full_few {ws : List Str} {w : Int} {S O : List Nat} (fs : FitS ws w S) (hS : Full ws w S) (fo : FitS ws w O) : S.length ≤ O.length := by
  refine Nat.le_of_not_lt fun q => ?_
  rcases Nat.eq_zero_or_pos O.length with h0 | h0
  · have e := fo.nil (List.length_eq_zero_iff.mp h0)
    have a := fs.fit 0 S[0] (if h : 0 + 1 < S.length then S[0 + 1] else ws.length) (List.getElem?_eq_getElem (by omega)) (ends_at (by omega))
    rw [e] at a
    have : ([] : List Str).length = 0 := rfl
    omega
  · obtain ⟨m, hm⟩ : ∃ m, O.length = m + 1 := ⟨O.length - 1, by omega⟩
    have ih := full_ahead fs hS fo m (by omega) (by omega)
    have a := fs.next (k := m) (by omega)
    have b := fo.last (k := m) (by omega)
    have c := hS m (by omega)
    have mo := size_mono (ws := ws) (b := S[m]) (e := S[m + 1] + 1) (b' := O[m]) (e' := ws.length) (by omega) ih (by omega) (Nat.le_refl _)
    omega
/-- the quick starts of the first i words: built from the left -/
structure Part (ws : List Str) (w : Int) (i : Nat) (S : List Nat) : Prop where
  nil : S = [] → i = 0
  zero : ∀ s : Nat, S[0]? = some s → s = 0
  le : i ≤ ws.length
  next : ∀ (k : Nat) (h : k + 1 < S.length), S[k] < S[k + 1] ∧ (sizeN ws S[k] S[k + 1] : Int) ≤ w ∧ w < (sizeN ws S[k] (S[k + 1] + 1) : Int)
  last : ∀ (k : Nat) (h : k + 1 = S.length), S[k] < i ∧ (sizeN ws S[k] i : Int) ≤ w
theorem Part.fit {ws : List Str} {w : Int} {S : List Nat} (p : Part ws w ws.length S) : FitS ws w S ∧ Full ws w S := by
  have below : ∀ d k (h : k + 1 + d = S.length), S[k] < ws.length := by
    intro d
    induction d with
    | zero => exact fun k h => (p.last k h).1
    | succ d ih =>
      intro k h
      have a := (p.next k (by omega)).1
      have b := ih (k + 1) (by omega)
      omega
  refine ⟨⟨fun h => List.length_eq_zero_iff.mp (p.nil h), p.zero, fun k s e hs he => ?_⟩, fun k h => (p.next k h).2.2⟩
  obtain ⟨hk, rfl⟩ := List.getElem?_eq_some_iff.mp hs
  rw [ends_at hk] at he
  by_cases h : k + 1 < S.length
  · rw [dif_pos h] at he
    cases he
    have a := p.next k h
    have b := below (S.length - (k + 2)) (k + 1) (by omega)
    exact ⟨a.1, by omega, a.2.1⟩
  · rw [dif_neg h] at he
    cases he
    have a := p.last k (by omega)
    exact ⟨a.1, Nat.le_refl _, a.2⟩
theorem Part.zero0 {ws : List Str} {w : Int} : Part ws w 0 [] := ⟨fun _ => rfl, fun s h => by simp at h, Nat.zero_le _, fun k h => absurd h (by simp), fun k h => absurd h (by simp)⟩
/-- one more word on the last line -/
theorem Part.more {ws : List Str} {w : Int} {i : Nat} {S : List Nat} (p : Part ws w i S) (hi : i < ws.length) (hS : S ≠ []) (h : ∀ (k : Nat) (hk : k + 1 = S.length), (sizeN ws S[k] (i + 1) : Int) ≤ w) : Part ws w (i + 1) S :=
  ⟨fun q => absurd q hS, p.zero, hi, p.next, fun k hk => ⟨by have := (p.last k hk).1; omega, h k hk⟩⟩
/-- a new line -/
theorem Part.new {ws : List Str} {w : Int} {i : Nat} {S : List Nat} {z : Str} (p : Part ws w i S) (hi : ws[i]? = some z) (hz : (z.length : Int) ≤ w) (h : ∀ (k : Nat) (hk : k + 1 = S.length), w < (sizeN ws S[k] (i + 1) : Int)) : Part ws w (i + 1) (S ++ [i]) := by
  have hil := (List.getElem?_eq_some_iff.mp hi).1
  refine ⟨fun q => by simp at q, fun s hs => ?_, hil, fun k hk => ?_, fun k hk => ?_⟩
  · rcases Nat.eq_zero_or_pos S.length with h0 | h0
    · have e := List.length_eq_zero_iff.mp h0
      rw [e] at hs
      have := p.nil e
      cases hs
      exact this
    · rw [List.getElem?_append_left h0] at hs
      exact p.zero s hs
  · rw [List.length_append, List.length_singleton] at hk
    have e1 : (S ++ [i])[k]'(by rw [List.length_append, List.length_singleton]; omega) = S[k] := List.getElem_append_left (by omega)
    by_cases h2 : k + 1 < S.length
    · have e2 : (S ++ [i])[k + 1]'(by rw [List.length_append, List.length_singleton]; omega) = S[k + 1] := List.getElem_append_left h2
      rw [e1, e2]
      exact p.next k h2
    · have h3 : k + 1 = S.length := by omega
      have e2 : (S ++ [i])[k + 1]'(by rw [List.length_append, List.length_singleton]; omega) = i := by
        rw [List.getElem_append_right (by omega)]
        simp [h3]
      rw [e1, e2]
      have a := p.last k h3
      exact ⟨a.1, a.2, h k h3⟩
  · rw [List.length_append, List.length_singleton] at hk
    have e2 : (S ++ [i])[k]'(by rw [List.length_append, List.length_singleton]; omega) = i := by
      have h3 : k = S.length := by omega
      subst h3
      simp
    rw [e2, size_one hi]
    exact ⟨by omega, hz⟩

/-! ### the least sum -/
def WidB (w : Int) : Prop := w.natAbs < 2 ^ 120
/-- m words from b on are as many as fit -/
structure IsCnt (ws : List Str) (w : Int) (b m : Nat) : Prop where
  le : b + m ≤ ws.length
  fit : ∀ i, i < m → (sizeN ws b (b + 1 + i) : Int) ≤ w
  most : b + m < ws.length → w < (sizeN ws b (b + m + 1) : Int)
theorem IsCnt.uniq {ws : List Str} {w : Int} {b m m' : Nat} (h : IsCnt ws w b m) (h' : IsCnt ws w b m') : m = m' := by
  rcases Nat.lt_trichotomy m m' with q | q | q
  · have a1 := h.most (by have := h'.le; omega)
    have a2 := h'.fit m q
    rw [show b + 1 + m = b + m + 1 by omega] at a2
    omega
  · exact q
  · have a1 := h'.most (by have := h.le; omega)
    have a2 := h.fit m' q
    rw [show b + 1 + m' = b + m' + 1 by omega] at a2
    omega
theorem IsCnt.in_ {ws : List Str} {w : Int} {b m e : Nat} (h : IsCnt ws w b m) (hb : b < e) (he : e ≤ ws.length) (hf : (sizeN ws b e : Int) ≤ w) : e ≤ b + m := by
  refine Nat.le_of_not_lt fun q => ?_
  have a1 := h.most (by omega)
  have a2 := size_mono (ws := ws) (b := b) (e := b + m + 1) (b' := b) (e' := e) (by omega) (Nat.le_refl _) (by omega) he
  omega
theorem IsCnt.out {ws : List Str} {w : Int} {b m e : Nat} (h : IsCnt ws w b m) (hb : b < e) (he : e ≤ b + m) : (sizeN ws b e : Int) ≤ w := by
  have := h.fit (e - b - 1) (by omega)
  rw [show b + 1 + (e - b - 1) = e by omega] at this
  exact this
def sizesL (ws : List Str) (b m : Nat) : List Int := (List.range m).map fun i => (sizeN ws b (b + 1 + i) : Int)
def countsL (ws : List Str) (w : Int) (b m : Nat) : List Int := (List.range m).map fun i => (w - (sizeN ws b (b + 1 + i) : Int)) ^ (2 : Int).toNat
/-- what a line counts -/
def price (ws : List Str) (w : Int) (b e : Nat) : Int := if e = ws.length then 0 else (w - (sizeN ws b e : Int)) ^ (2 : Int).toNat
theorem sq_nn (x : Int) : 0 ≤ x ^ (2 : Int).toNat := by
  show 0 ≤ x ^ 2
  rw [show x ^ 2 = x * x by rw [Int.pow_succ, Int.pow_succ, Int.pow_zero, Int.one_mul]]
  rw [← Int.natAbs_mul_self]
  exact Int.natCast_nonneg _
theorem price_nn (ws : List Str) (w : Int) (b e : Nat) : 0 ≤ price ws w b e := by
  unfold price
  split
  · exact Int.le_refl _
  · exact sq_nn _
/-- the best line of the first i: its sum, its end -/
def bestN (c : Nat → Int) (r : Nat → Option Int) (b : Nat) : Nat → Option (Int × Nat)
  | 0 => none
  | i + 1 => match r (b + 1 + i) with
    | none => bestN c r b i
    | some t => match bestN c r b i with
      | none => some (c i + t, b + 1 + i)
      | some (l, e) => if c i + t ≤ l then some (c i + t, b + 1 + i) else some (l, e)
theorem bestN_none {c : Nat → Int} {r : Nat → Option Int} {b : Nat} : ∀ {i : Nat}, bestN c r b i = none → ∀ j, j < i → r (b + 1 + j) = none
  | 0, _, j, hj => absurd hj (Nat.not_lt_zero _)
  | i + 1, h, j, hj => by
    unfold bestN at h
    cases hr : r (b + 1 + i) with
    | none =>
      rw [hr] at h
      rcases Nat.lt_or_ge j i with q | q
      · exact bestN_none h j q
      · rw [show j = i by omega]
        exact hr
    | some t =>
      rw [hr] at h
      exfalso
      revert h
      cases bestN c r b i with
      | none => exact fun h => nomatch h
      | some p =>
        show (if _ then _ else _) = none → False
        split <;> exact fun h => nomatch h
theorem bestN_some {c : Nat → Int} {r : Nat → Option Int} {b : Nat} : ∀ {i : Nat} {l : Int} {e : Nat}, bestN c r b i = some (l, e) → (∃ j t, j < i ∧ e = b + 1 + j ∧ r e = some t ∧ l = c j + t) ∧
    ∀ j, j < i → ∀ t, r (b + 1 + j) = some t → l ≤ c j + t ∧ (e < b + 1 + j → l < c j + t)
  | 0, _, _, h => nomatch h
  | i + 1, l, e, h => by
    unfold bestN at h
    cases hr : r (b + 1 + i) with
    | none =>
      rw [hr] at h
      obtain ⟨⟨j, t, h1, h2, h3, h4⟩, h5⟩ := bestN_some h
      refine ⟨⟨j, t, by omega, h2, h3, h4⟩, fun j' hj' t' ht' => ?_⟩
      rcases Nat.lt_or_ge j' i with q | q
      · exact h5 j' q t' ht'
      · rw [show j' = i by omega, hr] at ht'
        cases ht'
    | some t =>
      rw [hr] at h
      cases hb : bestN c r b i with
      | none =>
        rw [hb] at h
        cases h
        refine ⟨⟨i, t, Nat.lt_succ_self _, rfl, hr, rfl⟩, fun j' hj' t' ht' => ?_⟩
        rcases Nat.lt_or_ge j' i with q | q
        · rw [bestN_none hb j' q] at ht'
          cases ht'
        · have ej : j' = i := by omega
          subst ej
          rw [hr] at ht'
          cases ht'
          exact ⟨Int.le_refl _, fun q => absurd q (Nat.lt_irrefl _)⟩
      | some p =>
        obtain ⟨l0, e0⟩ := p
        rw [hb] at h
        obtain ⟨⟨j, t0, h1, h2, h3, h4⟩, h5⟩ := bestN_some hb
        by_cases hle : c i + t ≤ l0
        · have h' : some (c i + t, b + 1 + i) = some (l, e) := by
            rw [← h]
            exact (if_pos hle).symm
          cases h'
          refine ⟨⟨i, t, Nat.lt_succ_self _, rfl, hr, rfl⟩, fun j' hj' t' ht' => ?_⟩
          rcases Nat.lt_or_ge j' i with q | q
          · have := (h5 j' q t' ht').1
            exact ⟨by omega, fun q2 => by omega⟩
          · have ej : j' = i := by omega
            subst ej
            rw [hr] at ht'
            cases ht'
            exact ⟨Int.le_refl _, fun q => absurd q (Nat.lt_irrefl _)⟩
        · have h' : some (l0, e0) = some (l, e) := by
            rw [← h]
            exact (if_neg hle).symm
          cases h'
          refine ⟨⟨j, t0, by omega, h2, h3, h4⟩, fun j' hj' t' ht' => ?_⟩
          rcases Nat.lt_or_ge j' i with q | q
          · exact h5 j' q t' ht'
          · have ej : j' = i := by omega
            subst ej
            rw [hr] at ht'
            cases ht'
            exact ⟨by omega, fun _ => by omega⟩
/-- a line from k to e that fits -/
def Fits (ws : List Str) (w : Int) (k e : Nat) : Prop := k < e ∧ e ≤ ws.length ∧ (sizeN ws k e : Int) ≤ w
/-- t is the table from i on -/
structure TabFrom (ws : List Str) (w : Int) (t : Nat → Int) (i : Nat) : Prop where
  last : t ws.length = 0
  nn : ∀ k, i ≤ k → k ≤ ws.length → 0 ≤ t k
  le : ∀ k e, i ≤ k → Fits ws w k e → t k ≤ price ws w k e + t e
  eq : ∀ k, i ≤ k → k < ws.length → ∃ e, Fits ws w k e ∧ t k = price ws w k e + t e
abbrev IsTab (ws : List Str) (w : Int) (t : Nat → Int) : Prop := TabFrom ws w t 0
theorem TabFrom.uniq {ws : List Str} {w : Int} {t t' : Nat → Int} {i : Nat} (h : TabFrom ws w t i) (h' : TabFrom ws w t' i) : ∀ d k, k + d = ws.length → i ≤ k → t k = t' k := by
  intro d
  induction d using Nat.strongRecOn with
  | ind d ih =>
    intro k hk hi
    rcases Nat.eq_zero_or_pos d with h0 | h0
    · rw [show k = ws.length by omega, h.last, h'.last]
    · obtain ⟨e, f, q⟩ := h.eq k hi (by omega)
      obtain ⟨e', f', q'⟩ := h'.eq k hi (by omega)
      have a1 := h.le k e' hi f'
      have a2 := h'.le k e hi f
      have b1 := ih (ws.length - e) (by have := f.1; omega) e (by have := f.2.1; omega) (by have := f.1; omega)
      have b2 := ih (ws.length - e') (by have := f'.1; omega) e' (by have := f'.2.1; omega) (by have := f'.1; omega)
      omega
/-- the first of the best lines: the longest of the least -/
structure IsGoal (ws : List Str) (w : Int) (t : Nat → Int) (k e : Nat) : Prop where
  fit : Fits ws w k e
  eq : t k = price ws w k e + t e
  most : ∀ e', e < e' → Fits ws w k e' → t k < price ws w k e' + t e'
theorem IsGoal.uniq {ws : List Str} {w : Int} {t : Nat → Int} {k e e' : Nat} (h : IsGoal ws w t k e) (h' : IsGoal ws w t k e') : e = e' := by
  rcases Nat.lt_trichotomy e e' with q | q | q
  · have a1 := h.most e' q h'.fit
    have a2 := h'.eq
    omega
  · exact q
  · have a1 := h'.most e q h.fit
    have a2 := h.eq
    omega
/-- what first_line tells of a place -/
structure IsFirst (ws : List Str) (w : Int) (t : Nat → Int) (k : Nat) (l : Int) (e : Nat) : Prop where
  fit : Fits ws w k e
  nn : 0 ≤ l
  eq : l = price ws w k e + t e
  le : ∀ e', Fits ws w k e' → l ≤ price ws w k e' + t e'
  most : ∀ e', e < e' → Fits ws w k e' → l < price ws w k e' + t e'
theorem first_all {ws : List Str} {w : Int} {t : Nat → Int} {k m : Nat} (hc : IsCnt ws w k m) (hk : k < ws.length) (hm : k + m = ws.length) (h0 : t ws.length = 0) (hnn : ∀ e, k < e → e ≤ ws.length → 0 ≤ t e) : IsFirst ws w t k 0 ws.length :=
  ⟨⟨hk, Nat.le_refl _, hc.out hk (by omega)⟩, Int.le_refl _, by rw [h0, price, if_pos rfl] <;> rfl, fun e' f => by have := price_nn ws w k e'; have := hnn e' f.1 f.2.1; omega, fun e' q f => by have := f.2.1; omega⟩
theorem first_best {ws : List Str} {w : Int} {t : Nat → Int} {k m : Nat} (hc : IsCnt ws w k m) (hk : k < ws.length) (hm : k + m ≠ ws.length) (hone : (sizeN ws k (k + 1) : Int) ≤ w) (hnn : ∀ e, k < e → e ≤ ws.length → 0 ≤ t e) :
    ∃ l e, bestN (fun i => (w - (sizeN ws k (k + 1 + i) : Int)) ^ (2 : Int).toNat) (fun e => some (t e)) k m = some (l, e) ∧ IsFirst ws w t k l e := by
  have hle := hc.le
  cases hb : bestN (fun i => (w - (sizeN ws k (k + 1 + i) : Int)) ^ (2 : Int).toNat) (fun e => some (t e)) k m with
  | none =>
    have h1 := hc.in_ (Nat.lt_succ_self k) hk hone
    exact nomatch bestN_none hb 0 (by omega)
  | some p =>
    obtain ⟨l, e⟩ := p
    obtain ⟨⟨j, tt, h1, h2, h3, h4⟩, h5⟩ := bestN_some hb
    cases h3
    subst h2
    have hp : ∀ e', k < e' → e' ≤ k + m → price ws w k e' = (w - (sizeN ws k e' : Int)) ^ (2 : Int).toNat := fun e' _ q => if_neg (by omega)
    refine ⟨l, _, rfl, ⟨by omega, by omega, hc.fit j h1⟩, ?_, ?_, fun e' f => ?_, fun e' q f => ?_⟩
    · have a1 := sq_nn (w - (sizeN ws k (k + 1 + j) : Int))
      have a2 := hnn (k + 1 + j) (by omega) (by omega)
      omega
    · rw [hp _ (by omega) (by omega)]
      exact h4
    · have q := hc.in_ f.1 f.2.1 f.2.2
      have f1 := f.1
      rw [hp e' f1 q]
      have := (h5 (e' - k - 1) (by omega) (t e') (by rw [show k + 1 + (e' - k - 1) = e' by omega])).1
      rw [show k + 1 + (e' - k - 1) = e' by omega] at this
      exact this
    · have q2 := hc.in_ f.1 f.2.1 f.2.2
      have f1 := f.1
      rw [hp e' f1 q2]
      have := (h5 (e' - k - 1) (by omega) (t e') (by rw [show k + 1 + (e' - k - 1) = e' by omega])).2 (by omega)
      rw [show k + 1 + (e' - k - 1) = e' by omega] at this
      exact this
/-- the table's last place alone -/
theorem TabFrom.zero {ws : List Str} {w : Int} : TabFrom ws w (fun _ => 0) ws.length :=
  ⟨rfl, fun _ _ _ => Int.le_refl _, fun k e h f => by have := f.1; have := f.2.1; omega, fun k h h2 => by omega⟩
/-- one place more -/
theorem TabFrom.more {ws : List Str} {w : Int} {t : Nat → Int} {k : Nat} {l : Int} {e : Nat} (h : TabFrom ws w t (k + 1)) (hk : k < ws.length) (f : IsFirst ws w t k l e) : TabFrom ws w (fun j => if j = k then l else t j) k := by
  refine ⟨?_, fun j hj hj2 => ?_, fun j e' hj fe => ?_, fun j hj hj2 => ?_⟩
  · show (if ws.length = k then l else t ws.length) = 0
    rw [if_neg (by omega)]
    exact h.last
  · show 0 ≤ if j = k then l else t j
    split
    · exact f.nn
    · exact h.nn j (by omega) hj2
  · have := fe.1
    show (if j = k then l else t j) ≤ price ws w j e' + (if e' = k then l else t e')
    rw [if_neg (show ¬ e' = k by omega)]
    by_cases q : j = k
    · subst q
      rw [if_pos rfl]
      exact f.le e' fe
    · rw [if_neg q]
      exact h.le j e' (by omega) fe
  · by_cases q : j = k
    · subst q
      refine ⟨e, f.fit, ?_⟩
      have := f.fit.1
      show (if j = j then l else t j) = price ws w j e + (if e = j then l else t e)
      rw [if_pos rfl, if_neg (by omega)]
      exact f.eq
    · obtain ⟨e', fe, he⟩ := h.eq j (by omega) hj2
      refine ⟨e', fe, ?_⟩
      have := fe.1
      show (if j = k then l else t j) = price ws w j e' + (if e' = k then l else t e')
      rw [if_neg q, if_neg (by omega)]
      exact he
def tabL (t : Nat → Int) (n : Nat) : List Int := (List.range (n + 1)).map t
theorem tabL_len (t : Nat → Int) (n : Nat) : (tabL t n).length = n + 1 := by
  unfold tabL
  rw [List.length_map, List.length_range]
theorem tabL_at {t : Nat → Int} {n k : Nat} (h : k ≤ n) : (tabL t n)[k]? = some (t k) := by
  unfold tabL
  rw [List.getElem?_map, List.getElem?_range (by omega)] <;> rfl
theorem tab_at {t : Nat → Int} {n k : Nat} (h : k ≤ n) : ((tabL t n).map V.int)[k]? = some (.int (t k)) := by
  rw [List.getElem?_map, tabL_at h] <;> rfl
theorem tabL_congr {t t' : Nat → Int} {n : Nat} (h : ∀ k, k ≤ n → t k = t' k) : tabL t n = tabL t' n := by
  unfold tabL
  exact List.map_congr_left fun k hk => h k (by have := List.mem_range.mp hk; omega)
theorem tab_uniq {ws : List Str} {w : Int} {t t' : Nat → Int} (h : IsTab ws w t) (h' : IsTab ws w t') : ∀ k, k ≤ ws.length → t k = t' k := fun k hk => h.uniq h' (ws.length - k) k (by omega) (Nat.zero_le _)
/-- from a to b, by lines that G allows, begun at S -/
inductive WalkTo (G : Nat → Nat → Prop) : Nat → List Nat → Nat → Prop
  | nil (a : Nat) : WalkTo G a [] a
  | cons {a e b : Nat} {S : List Nat} : G a e → WalkTo G e S b → WalkTo G a (a :: S) b
theorem WalkTo.snoc {G : Nat → Nat → Prop} {a b e : Nat} {S : List Nat} (h : WalkTo G a S b) (g : G b e) : WalkTo G a (S ++ [b]) e := by
  induction h with
  | nil a => exact .cons g (.nil _)
  | cons g1 _ ih => exact .cons g1 (ih g)
theorem WalkTo.uniq {G : Nat → Nat → Prop} (hu : ∀ a e e', G a e → G a e' → e = e') (hlt : ∀ a e, G a e → a < e) {b : Nat} {S S' : List Nat} {a : Nat} (h : WalkTo G a S b) : WalkTo G a S' b → S = S' := by
  have up : ∀ {x y : Nat} {T : List Nat}, WalkTo G x T y → x ≤ y := fun hw => by
    induction hw with
    | nil => exact Nat.le_refl _
    | cons g _ ih =>
      have := hlt _ _ g
      omega
  induction h generalizing S' with
  | nil a =>
    intro h'
    cases h' with
    | nil => rfl
    | cons g hw =>
      have := hlt _ _ g
      have := up hw
      omega
  | cons g hw ih =>
    intro h'
    cases h' with
    | nil =>
      have := hlt _ _ g
      have := up hw
      omega
    | cons g' hw' =>
      have e1 := hu _ _ _ g g'
      subst e1
      rw [ih hw']
theorem IsFirst.goal {ws : List Str} {w : Int} {t : Nat → Int} {k : Nat} {l : Int} {e : Nat} (h : IsFirst ws w t k l e) (ht : IsTab ws w t) : IsGoal ws w t k e := by
  have hk : k < ws.length := Nat.lt_of_lt_of_le h.fit.1 h.fit.2.1
  obtain ⟨e', f', q'⟩ := ht.eq k (Nat.zero_le _) hk
  have a1 := ht.le k e (Nat.zero_le _) h.fit
  have a2 := h.le e' f'
  have a3 := h.eq
  refine ⟨h.fit, by omega, fun e2 q f => ?_⟩
  have := h.most e2 q f
  omega
/-- the starts that the table leads to -/
abbrev BestW (ws : List Str) (w : Int) (t : Nat → Int) (S : List Nat) : Prop := WalkTo (IsGoal ws w t) 0 S ws.length
theorem goal_uniq {ws : List Str} {w : Int} {t : Nat → Int} {S S' : List Nat} (h : BestW ws w t S) (h' : BestW ws w t S') : S = S' := h.uniq (fun _ _ _ a b => a.uniq b) (fun _ _ a => a.fit.1) h'
theorem walk_len {G : Nat → Nat → Prop} (hlt : ∀ a e, G a e → a < e) {a b : Nat} {S : List Nat} (h : WalkTo G a S b) : a + S.length ≤ b := by
  induction h with
  | nil => exact Nat.le_refl _
  | cons g _ ih =>
    have := hlt _ _ g
    rw [List.length_cons]
    omega
def tabZ (t : Nat → Int) (n j : Nat) : List Int := (List.range (n + 1)).map fun k => if j ≤ k then t k else 0
theorem tabZ_len (t : Nat → Int) (n j : Nat) : (tabZ t n j).length = n + 1 := by
  unfold tabZ
  rw [List.length_map, List.length_range]
theorem tabZ_at {t : Nat → Int} {n j k : Nat} (h : k ≤ n) (hj : j ≤ k) : (tabZ t n j)[k]? = some (t k) := by
  unfold tabZ
  rw [List.getElem?_map, List.getElem?_range (by omega)]
  show some (if j ≤ k then t k else 0) = _
  rw [if_pos hj]
theorem tabZ_zero (t : Nat → Int) (n : Nat) : tabZ t n 0 = tabL t n := by
  unfold tabZ tabL
  exact List.map_congr_left fun k _ => if_pos (Nat.zero_le _)
theorem tabZ_start (n : Nat) : (List.replicate ((n : Int) + 1).toNat [V.int 0]).flatten = (tabZ (fun _ => 0) n n).map V.int := by
  rw [show ((n : Int) + 1).toNat = n + 1 by omega]
  unfold tabZ
  rw [List.map_map]
  refine List.ext_getElem? fun j => ?_
  have hl : (List.replicate (n + 1) [V.int 0]).flatten = List.replicate (n + 1) (V.int 0) := by
    induction n + 1 with
    | zero => rfl
    | succ m ih => rw [List.replicate_succ, List.flatten_cons, ih] <;> rfl
  rw [hl, List.getElem?_map, List.getElem?_replicate]
  by_cases hj : j < n + 1
  · rw [if_pos hj, List.getElem?_range hj]
    show some (V.int 0) = some (V.int (if n ≤ j then 0 else 0))
    split <;> rfl
  · rw [if_neg hj, List.getElem?_eq_none (by rw [List.length_range]; omega)] <;> rfl
theorem tabZ_set {t : Nat → Int} {n k : Nat} {l : Int} (hk : k < n) : ((tabZ t n (k + 1)).map V.int).set k (.int l) = (tabZ (fun j => if j = k then l else t j) n k).map V.int := by
  refine List.ext_getElem? fun j => ?_
  rw [List.getElem?_set, List.length_map, tabZ_len]
  by_cases hj : k = j
  · subst hj
    rw [if_pos rfl, if_pos (by omega), List.getElem?_map, tabZ_at (by omega) (Nat.le_refl _)]
    show some (V.int l) = some (V.int (if k = k then l else t k))
    rw [if_pos rfl]
  · rw [if_neg hj, List.getElem?_map, List.getElem?_map]
    unfold tabZ
    rw [List.getElem?_map, List.getElem?_map]
    by_cases h2 : j < n + 1
    · rw [List.getElem?_range h2]
      show some (V.int (if k + 1 ≤ j then t j else 0)) = some (V.int (if k ≤ j then (if j = k then l else t j) else 0))
      rw [if_neg (show ¬ j = k by omega)]
      by_cases h3 : k ≤ j
      · rw [if_pos h3, if_pos (by omega)]
      · rw [if_neg h3, if_neg (by omega)]
    · rw [List.getElem?_eq_none (by rw [List.length_range]; omega)] <;> rfl

/-! ### sums of starts, the least of them -/
def sumTo (ws : List Str) (w : Int) (S : List Nat) (i : Nat) : Int := ((List.range i).map fun k => price ws w (S.getD k 0) ((ends S ws.length).getD k 0)).sum
theorem sumTo_succ (ws : List Str) (w : Int) (S : List Nat) (i : Nat) : sumTo ws w S (i + 1) = sumTo ws w S i + price ws w (S.getD i 0) ((ends S ws.length).getD i 0) := by
  unfold sumTo
  rw [List.range_succ, List.map_append, List.sum_append]
  show _ + (price ws w (S.getD i 0) ((ends S ws.length).getD i 0) + 0) = _
  omega
/-- the place behind the first line -/
def nextOf (S : List Nat) (n : Nat) : Nat := (S ++ [n]).getD 0 0
theorem ends_cons (a : Nat) (S : List Nat) (n : Nat) : ends (a :: S) n = S ++ [n] := rfl
theorem ends_shift (a : Nat) (S : List Nat) (n k : Nat) (hk : k < S.length) : (ends (a :: S) n).getD (k + 1) 0 = (ends S n).getD k 0 := by
  rw [ends_cons]
  match S, hk with
  | b :: r, _ => rfl
theorem sumTo_cons (ws : List Str) (w : Int) (a : Nat) (S : List Nat) : sumTo ws w (a :: S) (a :: S).length = price ws w a (nextOf S ws.length) + sumTo ws w S S.length := by
  unfold sumTo
  rw [List.length_cons, List.range_succ_eq_map, List.map_cons, List.sum_cons, List.map_map]
  congr 1
  congr 1
  refine List.map_congr_left fun k hk => ?_
  have hk' := List.mem_range.mp hk
  show price ws w ((a :: S).getD (k + 1) 0) ((ends (a :: S) ws.length).getD (k + 1) 0) = _
  rw [ends_shift a S ws.length k hk'] <;> rfl
theorem walk_next {G : Nat → Nat → Prop} {e n : Nat} {S : List Nat} (h : WalkTo G e S n) : nextOf S n = e := by
  cases h with
  | nil => rfl
  | cons _ _ => rfl
theorem best_sum {ws : List Str} {w : Int} {t : Nat → Int} (h0 : t ws.length = 0) {a n : Nat} {S : List Nat} (h : WalkTo (IsGoal ws w t) a S n) : n = ws.length → sumTo ws w S S.length = t a := by
  induction h with
  | nil a =>
    intro hn
    rw [hn, h0] <;> rfl
  | cons g hw ih =>
    intro hn
    rw [sumTo_cons, ih hn, ← hn, walk_next hw, g.eq]
theorem fit_sum {ws : List Str} {w : Int} {t : Nat → Int} (hT : IsTab ws w t) {a n : Nat} {O : List Nat} (h : WalkTo (Fits ws w) a O n) : n = ws.length → t a ≤ sumTo ws w O O.length := by
  induction h with
  | nil a =>
    intro hn
    rw [hn, hT.last]
    exact Int.le_refl _
  | cons g hw ih =>
    intro hn
    have i1 := ih hn
    have i2 := hT.le _ _ (Nat.zero_le _) g
    rw [sumTo_cons, ← hn, walk_next hw]
    omega
def zsOf (S : List Nat) : List Int := S.map fun (k : Nat) => (k : Int)
theorem fits_up {ws : List Str} {w : Int} {a n : Nat} {O : List Nat} (h : WalkTo (Fits ws w) a O n) : a ≤ n := by
  have := walk_len (fun _ _ g => g.1) h
  omega
theorem goals_up {ws : List Str} {w : Int} {t : Nat → Int} {a n : Nat} {S : List Nat} (h : WalkTo (IsGoal ws w t) a S n) : a ≤ n := by
  have := walk_len (fun _ _ g => g.fit.1) h
  omega
/-- of starts of the same sum none begins with a longer line -/
theorem best_first {ws : List Str} {w : Int} {t : Nat → Int} (hT : IsTab ws w t) {a n : Nat} {S : List Nat} (h : WalkTo (IsGoal ws w t) a S n) : ∀ {O : List Nat}, WalkTo (Fits ws w) a O n → n = ws.length → sumTo ws w O O.length = t a → TwL.flt (zsOf (S ++ [n])) (zsOf (O ++ [n])) = false := by
  induction h with
  | nil a =>
    intro O ho hn hs
    cases ho with
    | nil =>
      show TwL.flt [(a : Int)] [(a : Int)] = false
      rw [TwL.flt_cons, if_pos rfl] <;> rfl
    | cons g hw =>
      have := g.1
      have := fits_up hw
      omega
  | cons g hw ih =>
    intro O ho hn hs
    cases ho with
    | nil =>
      have := g.fit.1
      have := goals_up hw
      omega
    | cons f ho' =>
      rename_i a e b S' f' O'
      show TwL.flt ((a : Int) :: zsOf (S' ++ [b])) ((a : Int) :: zsOf (O' ++ [b])) = false
      rw [TwL.flt_cons, if_pos rfl]
      have i1 := fit_sum hT ho' hn
      have i2 := hT.le _ _ (Nat.zero_le _) f
      rw [sumTo_cons, ← hn, walk_next ho'] at hs
      have hle : f' ≤ e := by
        refine Nat.le_of_not_lt fun q => ?_
        have := g.most f' q f
        omega
      rcases Nat.eq_or_lt_of_le hle with q | q
      · subst q
        exact ih ho' hn (by omega)
      · have h1 : ∃ r, zsOf (S' ++ [b]) = (e : Int) :: r := by
          cases hw with
          | nil => exact ⟨[], rfl⟩
          | cons _ _ => exact ⟨_, rfl⟩
        have h2 : ∃ r, zsOf (O' ++ [b]) = (f' : Int) :: r := by
          cases ho' with
          | nil => exact ⟨[], rfl⟩
          | cons _ _ => exact ⟨_, rfl⟩
        obtain ⟨r1, h1⟩ := h1
        obtain ⟨r2, h2⟩ := h2
        rw [h1, h2, TwL.flt_cons, if_neg (by omega)]
        exact decide_eq_false (by omega)
theorem WalkTo.mono {G G' : Nat → Nat → Prop} (hg : ∀ a e, G a e → G' a e) {a b : Nat} {S : List Nat} (h : WalkTo G a S b) : WalkTo G' a S b := by
  induction h with
  | nil => exact .nil _
  | cons g _ ih => exact .cons (hg _ _ g) ih
/-- starts that fit, as a walk -/
theorem walk_of_fit {ws : List Str} {w : Int} : ∀ {S : List Nat} {a : Nat}, (S = [] → a = ws.length) → (∀ s, S[0]? = some s → s = a) → (∀ (k s e : Nat), S[k]? = some s → (ends S ws.length)[k]? = some e → Fits ws w s e) → WalkTo (Fits ws w) a S ws.length
  | [], a, h1, _, _ => by
    rw [h1 rfl]
    exact .nil _
  | b :: S, a, _, h2, h3 => by
    have hb := h2 b rfl
    subst hb
    have hf := h3 0 b (nextOf S ws.length) rfl (by
      rw [ends_cons]
      cases S <;> rfl)
    refine .cons hf (walk_of_fit (fun q => ?_) (fun s hs => ?_) fun k s e hs he => ?_)
    · rw [q] <;> rfl
    · cases S with
      | nil => cases hs
      | cons c r =>
        cases hs
        rfl
    · refine h3 (k + 1) s e hs ?_
      rw [ends_cons]
      cases S with
      | nil => cases hs
      | cons c r => exact he
theorem FitS.walk {ws : List Str} {w : Int} {S : List Nat} (f : FitS ws w S) : WalkTo (Fits ws w) 0 S ws.length :=
  walk_of_fit (fun q => by rw [f.nil q] <;> rfl) f.zero fun k s e h1 h2 => f.fit k s e h1 h2
theorem walk_fitS {ws : List Str} {w : Int} {S : List Nat} (h : WalkTo (Fits ws w) 0 S ws.length) : FitS ws w S := by
  have go : ∀ {a n : Nat} {S : List Nat}, WalkTo (Fits ws w) a S n → n = ws.length → ∀ (k s e : Nat), S[k]? = some s → (ends S n)[k]? = some e → s < e ∧ e ≤ ws.length ∧ (sizeN ws s e : Int) ≤ w := fun hw => by
    induction hw with
    | nil => exact fun _ k s e hs => by simp at hs
    | cons g hw ih =>
      rename_i a e0 b S'
      intro hn k s e hs he
      rw [ends_cons] at he
      cases k with
      | zero =>
        cases hs
        have : e = e0 := by
          cases hw with
          | nil =>
            cases he
            rfl
          | cons _ _ =>
            cases he
            rfl
        subst this
        exact g
      | succ k =>
        refine ih hn k s e hs ?_
        cases hw with
        | nil => cases hs
        | cons _ _ => exact he
  refine ⟨fun q => ?_, fun s hs => ?_, fun k s e hs he => go h rfl k s e hs he⟩
  · rw [q] at h
    generalize hn : ws.length = n at h
    cases h
    exact List.length_eq_zero_iff.mp hn
  · revert hs
    generalize hn : ws.length = n at h
    cases h with
    | nil =>
      intro hs
      simp at hs
    | cons _ _ =>
      intro hs
      cases hs
      rfl

/-! ### the least sum in a number of lines -/
theorem cnt_exists (ws : List Str) (w : Int) : ∀ (d b : Nat), b + d = ws.length → ∃ m, IsCnt ws w b m
  | 0, b, h => ⟨0, by omega, fun i hi => absurd hi (Nat.not_lt_zero _), fun q => by omega⟩
  | d + 1, b, h => by
    have go : ∀ j, b + j ≤ ws.length → (∀ i, i < j → (sizeN ws b (b + 1 + i) : Int) ≤ w) → ∃ m, IsCnt ws w b m := by
      intro j
      generalize hk : ws.length - (b + j) = k
      induction k generalizing j with
      | zero => exact fun hj hf => ⟨j, hj, hf, fun q => by omega⟩
      | succ k ih =>
        intro hj hf
        by_cases q : (sizeN ws b (b + 1 + j) : Int) ≤ w
        · exact ih (j + 1) (by omega) (by omega) fun i hi => by
            rcases Nat.lt_or_ge i j with c | c
            · exact hf i c
            · rw [show i = j by omega]
              exact q
        · exact ⟨j, hj, hf, fun _ => by rw [show b + j + 1 = b + 1 + j by omega]; omega⟩
    exact go 0 (by omega) fun i hi => absurd hi (Nat.not_lt_zero _)
open Classical in
noncomputable def cntOf (ws : List Str) (w : Int) (b : Nat) : Nat := if h : ∃ m, IsCnt ws w b m then h.choose else 0
theorem cntOf_is {ws : List Str} {w : Int} {b : Nat} (h : b ≤ ws.length) : IsCnt ws w b (cntOf ws w b) := by
  have e := cnt_exists ws w (ws.length - b) b (by omega)
  unfold cntOf
  rw [dif_pos e]
  exact e.choose_spec
/-- what the lines from b that fit count, the last of the words nothing -/
noncomputable def countsP (ws : List Str) (w : Int) (b : Nat) : List Int := (List.range (cntOf ws w b)).map fun i => price ws w b (b + 1 + i)
theorem countsP_len (ws : List Str) (w : Int) (b : Nat) : (countsP ws w b).length = cntOf ws w b := by
  unfold countsP
  rw [List.length_map, List.length_range]
theorem countsP_at {ws : List Str} {w : Int} {b j : Nat} (h : j < cntOf ws w b) : (countsP ws w b).getD j 0 = price ws w b (b + 1 + j) := by
  unfold countsP
  rw [List.getD_eq_getElem?_getD, List.getElem?_map, List.getElem?_range h] <;> rfl
/-- the least sum of the words from b on in m lines, where there is one -/
noncomputable def rM (ws : List Str) (w : Int) : Nat → Nat → Option Int
  | 0 => fun b => if b = ws.length then some 0 else none
  | m + 1 => fun b => if b < ws.length then (bestN (fun i => price ws w b (b + 1 + i)) (rM ws w m) b (cntOf ws w b)).map (·.1) else none
/-- the first of the best lines, m more behind it -/
structure IsGoalM (ws : List Str) (w : Int) (m b e : Nat) : Prop where
  fit : Fits ws w b e
  eq : ∃ t, rM ws w m e = some t ∧ rM ws w (m + 1) b = some (price ws w b e + t)
  most : ∀ e', e < e' → Fits ws w b e' → ∀ t l, rM ws w m e' = some t → rM ws w (m + 1) b = some l → l < price ws w b e' + t
theorem goalM_of {ws : List Str} {w : Int} {m b : Nat} (hb : b < ws.length) {l : Int} {e : Nat} (h : bestN (fun i => price ws w b (b + 1 + i)) (rM ws w m) b (cntOf ws w b) = some (l, e)) : IsGoalM ws w m b e := by
  have hc := cntOf_is (ws := ws) (w := w) (Nat.le_of_lt hb)
  have hle := hc.le
  obtain ⟨⟨j, t, h1, h2, h3, h4⟩, h5⟩ := bestN_some h
  have hr : rM ws w (m + 1) b = some l := by
    show (if b < ws.length then _ else _) = _
    rw [if_pos hb, h] <;> rfl
  subst h2
  have h4' : l = price ws w b (b + 1 + j) + t := h4
  refine ⟨⟨by omega, by omega, hc.fit j h1⟩, ⟨t, h3, by rw [hr, h4']⟩, fun e' he f t' l' ht' hl' => ?_⟩
  rw [hr] at hl'
  cases hl'
  have q := hc.in_ f.1 f.2.1 f.2.2
  have f1 := f.1
  have ee : b + 1 + (e' - b - 1) = e' := by omega
  have := (h5 (e' - b - 1) (by omega) t' (by rw [ee]; exact ht')).2 (by omega)
  rw [ee] at this
  exact this
theorem rM_some {ws : List Str} {w : Int} {m b e : Nat} {t : Int} (f : Fits ws w b e) (h : rM ws w m e = some t) : ∃ l, rM ws w (m + 1) b = some l ∧ l ≤ price ws w b e + t := by
  have hb : b < ws.length := Nat.lt_of_lt_of_le f.1 f.2.1
  have hc := cntOf_is (ws := ws) (w := w) (Nat.le_of_lt hb)
  have q := hc.in_ f.1 f.2.1 f.2.2
  have f1 := f.1
  have ee : b + 1 + (e - b - 1) = e := by omega
  cases hbn : bestN (fun i => price ws w b (b + 1 + i)) (rM ws w m) b (cntOf ws w b) with
  | none =>
    have := bestN_none hbn (e - b - 1) (by omega)
    rw [ee, h] at this
    cases this
  | some p =>
    obtain ⟨l, e0⟩ := p
    refine ⟨l, ?_, ?_⟩
    · show (if b < ws.length then _ else _) = _
      rw [if_pos hb, hbn] <;> rfl
    · have := ((bestN_some hbn).2 (e - b - 1) (by omega) t (by rw [ee]; exact h)).1
      rw [ee] at this
      exact this
theorem bestN_of {ws : List Str} {w : Int} {m b : Nat} {l : Int} (h : rM ws w (m + 1) b = some l) : b < ws.length ∧ ∃ e, bestN (fun i => price ws w b (b + 1 + i)) (rM ws w m) b (cntOf ws w b) = some (l, e) := by
  have h' : (if b < ws.length then (bestN (fun i => price ws w b (b + 1 + i)) (rM ws w m) b (cntOf ws w b)).map (·.1) else none) = some l := h
  by_cases hb : b < ws.length
  · rw [if_pos hb] at h'
    obtain ⟨p, hp, rfl⟩ := Option.map_eq_some_iff.mp h'
    exact ⟨hb, p.2, hp⟩
  · rw [if_neg hb] at h'
    cases h'
/-- from a on to the end in just m lines -/
inductive WM (ws : List Str) (w : Int) : Nat → Nat → List Nat → Prop
  | nil : WM ws w 0 ws.length []
  | cons {m a e : Nat} {S : List Nat} : IsGoalM ws w m a e → WM ws w m e S → WM ws w (m + 1) a (a :: S)
theorem WM.fits {ws : List Str} {w : Int} {m a : Nat} {S : List Nat} (h : WM ws w m a S) : WalkTo (Fits ws w) a S ws.length ∧ S.length = m := by
  induction h with
  | nil => exact ⟨.nil _, rfl⟩
  | cons g _ ih => exact ⟨.cons g.fit ih.1, by rw [List.length_cons, ih.2]⟩
theorem WM.sum {ws : List Str} {w : Int} {m a : Nat} {S : List Nat} (h : WM ws w m a S) : rM ws w m a = some (sumTo ws w S S.length) := by
  induction h with
  | nil =>
    show (if ws.length = ws.length then some (0 : Int) else none) = _
    rw [if_pos rfl] <;> rfl
  | cons g hw ih =>
    obtain ⟨t, h1, h2⟩ := g.eq
    rw [h1] at ih
    cases ih
    rw [sumTo_cons, walk_next hw.fits.1]
    exact h2
theorem fitM {ws : List Str} {w : Int} {a n : Nat} {O : List Nat} (h : WalkTo (Fits ws w) a O n) : n = ws.length → ∃ l, rM ws w O.length a = some l ∧ l ≤ sumTo ws w O O.length := by
  induction h with
  | nil a =>
    intro hn
    refine ⟨0, ?_, Int.le_refl _⟩
    show (if a = ws.length then some (0 : Int) else none) = _
    rw [if_pos hn]
  | cons g hw ih =>
    intro hn
    obtain ⟨t, h1, h2⟩ := ih hn
    obtain ⟨l, h3, h4⟩ := rM_some g h1
    refine ⟨l, h3, ?_⟩
    rw [sumTo_cons, ← hn, walk_next hw]
    omega
theorem WM.first {ws : List Str} {w : Int} {m a : Nat} {S : List Nat} (h : WM ws w m a S) : ∀ {O : List Nat}, WalkTo (Fits ws w) a O ws.length → O.length = m → sumTo ws w O O.length = sumTo ws w S S.length → TwL.flt (zsOf S) (zsOf O) = false := by
  induction h with
  | nil =>
    intro O _ hl _
    rw [List.length_eq_zero_iff.mp hl] <;> rfl
  | @cons m a e S' g hw ih =>
    intro O ho hl hs
    generalize hn : ws.length = n at ho
    cases ho with
    | nil => cases hl
    | @cons _ f _ O' f1 ho' =>
      subst hn
      have hl' : O'.length = m := by
        rw [List.length_cons] at hl
        omega
      show TwL.flt ((a : Int) :: zsOf S') ((a : Int) :: zsOf O') = false
      rw [TwL.flt_cons, if_pos rfl]
      rw [sumTo_cons, sumTo_cons, walk_next ho', walk_next hw.fits.1] at hs
      obtain ⟨t, h1, h2⟩ := g.eq
      have hsum := hw.sum
      rw [h1] at hsum
      cases hsum
      obtain ⟨t', h3, h4⟩ := fitM ho' rfl
      rw [hl'] at h3
      obtain ⟨l, h5, h6⟩ := rM_some f1 h3
      rw [h2] at h5
      cases h5
      have hle : f ≤ e := by
        refine Nat.le_of_not_lt fun q => ?_
        have := g.most f q f1 t' _ h3 h2
        omega
      rcases Nat.eq_or_lt_of_le hle with q | q
      · subst q
        exact ih ho' hl' (by omega)
      · have hne : e ≤ ws.length := g.fit.2.1
        have h7 : ∃ r, zsOf O' = (f : Int) :: r := by
          generalize ws.length = n at ho' hne
          cases ho' with
          | nil => omega
          | cons _ _ => exact ⟨_, rfl⟩
        obtain ⟨r2, h7⟩ := h7
        have h8 : ∃ r, zsOf S' = (e : Int) :: r := by
          cases hw with
          | nil =>
            rw [List.length_eq_zero_iff.mp hl'] at h7
            cases h7
          | cons _ _ => exact ⟨_, rfl⟩
        obtain ⟨r1, h8⟩ := h8
        rw [h7, h8, TwL.flt_cons, if_neg (by omega)]
        exact decide_eq_false (by omega)
/-- a line more, where some line has two words -/
theorem split_walk {ws : List Str} {w : Int} {a n : Nat} {O : List Nat} (h : WalkTo (Fits ws w) a O n) : n = ws.length → a + O.length < n → ∃ O', WalkTo (Fits ws w) a O' n ∧ O'.length = O.length + 1 := by
  induction h with
  | nil a =>
    intro _ q
    rw [List.length_nil] at q
    omega
  | @cons a e b S g hw ih =>
    intro hn q
    rw [List.length_cons] at q
    have g1 := g.1
    have g2 := g.2.1
    rcases Nat.lt_or_ge (a + 1) e with c | c
    · have f1 : Fits ws w a (a + 1) := ⟨by omega, by omega, by
        have := size_mono (ws := ws) (b := a) (e := a + 1) (b' := a) (e' := e) (by omega) (Nat.le_refl _) (by omega) g2
        have := g.2.2
        omega⟩
      have f2 : Fits ws w (a + 1) e := ⟨c, g2, by
        have := size_mono (ws := ws) (b := a + 1) (e := e) (b' := a) (e' := e) c (by omega) (Nat.le_refl _) g2
        have := g.2.2
        omega⟩
      exact ⟨a :: (a + 1) :: S, .cons f1 (.cons f2 hw), rfl⟩
    · obtain ⟨O', h1, h2⟩ := ih hn (by omega)
      exact ⟨a :: O', .cons g h1, by rw [List.length_cons, List.length_cons, h2]⟩
theorem walk_many {ws : List Str} {w : Int} {O : List Nat} (h : WalkTo (Fits ws w) 0 O ws.length) : ∀ d, O.length + d ≤ ws.length → ∃ O', WalkTo (Fits ws w) 0 O' ws.length ∧ O'.length = O.length + d
  | 0, _ => ⟨O, h, rfl⟩
  | d + 1, hd => by
    obtain ⟨O', h1, h2⟩ := walk_many h d (by omega)
    obtain ⟨O2, h3, h4⟩ := split_walk h1 rfl (by omega)
    exact ⟨O2, h3, by omega⟩
theorem rM_ok {ws : List Str} {w : Int} {O : List Nat} (h : WalkTo (Fits ws w) 0 O ws.length) {m : Nat} (h1 : O.length ≤ m) (h2 : m ≤ ws.length) : ∃ l, rM ws w m 0 = some l := by
  obtain ⟨O', h3, h4⟩ := walk_many h (m - O.length) (by omega)
  obtain ⟨l, h5, _⟩ := fitM h3 rfl
  exact ⟨l, by rw [show m = O'.length by omega]; exact h5⟩
theorem full_uniq {ws : List Str} {w : Int} {S O : List Nat} (fs : FitS ws w S) (hS : Full ws w S) (fo : FitS ws w O) (hO : Full ws w O) : S.length = O.length := Nat.le_antisymm (full_few fs hS fo) (full_few fo hO fs)

local macro_rules | `(tactic| walk_at "rv") => `(tactic| (first
  | exact rv_I0
  | exact rv_I (by decide)
  | exact rv_I ⟨by omega, by omega⟩
  | exact rv_I (.inl ⟨by omega, by omega⟩)
  | exact rv_I (.inr ⟨by omega, by omega⟩)
  | exact rv_eq rfl
  | exact rv_ne rfl
  | exact rv_isB
  | exact rv_isN
  | exact rv_notN))
local macro_rules | `(tactic| walk_at "ev") => `(tactic| (first
  | exact ev_c
  | exact ev_var rfl
  | (apply ev_op; (walk_at "ev"); (walk_at "ev"); (walk_at "rv"))
  | (apply ev_un; (walk_at "ev"); (exact ru_neg))
  | (apply ev_cb; (walk_at "ea"); (walk_at "rc"))
  | (apply ev_call; (walk_at "ea"); (walk_at "sp"))))
local macro_rules | `(tactic| walk_at "ea") => `(tactic| (first
  | exact ea_nil
  | (apply ea_cons; (walk_at "ev"); (walk_at "ea"))))
local macro_rules | `(tactic| walk_at "rc") => `(tactic| (first
  | exact rc_lenL (by assumption)
  | exact rc_lenS (by omega)
  | exact rc_isStr
  | exact rc_isList (by assumption)))
local macro_rules | `(tactic| walk_at "et") => `(tactic| (first
  | (apply et_test; (walk_at "ev"))
  | (apply et_B; (walk_at "ev"))
  | (apply et_not; (walk_at "et"))))

section
variable {P : Program} {w : World} {K : PySem.W.Frag} {mg : Str → Option Value} {base : Heap} {A : Ad}
/-! ### _law_cell_at -/
def sp_cell_at (K : PySem.W.Frag) : Sp := fun vs H Q _ => ∃ (a : Addr) (ns : List Int) (j : Nat), vs = [.ref a, .int j] ∧ SqL K H a (ns.map V.int) ∧ RetV (.int (ns.getD j 0)) H Q
theorem ok_l_cell_at (T : Txt K mg A) : FnOk P w K mg base CX0 1 A.f_l_cell_at A.d_l_cell_at ["_law_script", "_law_k"] (sp_cell_at K) := by
  refine T.F_l_cell_at.ok sc_l_cell_at (fun vs H Q E h => ?_) (fun cdv Ar outer s H vs Q E hr h => ?_)
  · obtain ⟨a, ns, j, rfl, _⟩ := h
    rfl
  · obtain ⟨a, ns, j, rfl, hS, k⟩ := h
    refine ⟨_, (pss_cons (ps_if (pt_cmpR op_lt (pv 1) (pe_callB call_len_seq (by rfl) T.m_len PySem.boot_len (pa_cons (pv 0) pa_nil)) (nomark _))
  (pss_one (ps_ret (pe_ix (ixL (K := K) rfl) (pv 0) (pv 1) (fun _ _ => rfl))))
  pss_nil)
  (pss_one (ps_ret pe_int))), ?_⟩
    refine q_when (b := decide ((j : Int) < ((ns.map V.int).length : Nat))) (by walk_at "et") (fun hb H1 e1 => ?_) (fun hb H1 e1 => ?_)
    · have hj : j < ns.length := by
        have q := of_decide_eq_true hb
        rw [List.length_map] at q
        omega
      have hS1 := ex_l e1 hS
      refine s_ret (v := .int (ns.getD j 0)) (ev_op (ev_var rfl) (ev_var rfl) (rv_ixL hS1 (atI_nat ?_))) fun H2 e2 => k H2 (e1.trans e2)
      rw [List.getElem?_map, List.getD_eq_getElem?_getD, List.getElem?_eq_getElem hj] <;> rfl
    · have hj : ns.length ≤ j := by
        have q := of_decide_eq_false hb
        rw [List.length_map] at q
        omega
      refine s_ret ev_c fun H2 e2 => ?_
      have e : ns.getD j 0 = 0 := by
        rw [List.getD_eq_getElem?_getD, List.getElem?_eq_none hj] <;> rfl
      rw [e] at k
      exact k H2 (e1.trans e2)
/-! ### _law_sign_by -/
def sp_sign_by (K : PySem.W.Frag) : Sp := fun vs H Q _ => ∃ (c : Int), vs = [.int c] ∧ RetV (.str ⟨#[sgn c]⟩) H Q
def alphA : Str := "!\"#$&'()*+,-./0123456789:;<=>?@ABCDEFGHIJKLMNOPQRSTUVWXYZ[\\]^_`"
def alphB : Str := "abcdefghijklmnopqrstuvwxyz{|}~"
theorem alph_tl : (alphA ++ alphB).cps.toList = sgnL := by decide +kernel
theorem alph_len : alphA.length + alphB.length ≤ 100000 := by decide +kernel
theorem alph_len2 : (alphA ++ alphB).length ≤ 100000 := by decide +kernel
theorem ok_l_sign_by (T : Txt K mg A) : FnOk P w K mg base CX0 1 A.f_l_sign_by A.d_l_sign_by ["_law_cell"] (sp_sign_by K) := by
  refine T.F_l_sign_by.ok sc_l_sign_by (fun vs H Q E h => ?_) (fun cdv Ar outer s H vs Q E hr h => ?_)
  · obtain ⟨c, rfl, _⟩ := h
    rfl
  · obtain ⟨c, rfl, k⟩ := h
    refine ⟨_, (pss_cons (ps_set (i := 1) sc_l_sign_by.nd rfl (.inl rfl) pe_str)
  (pss_cons (ps_set (i := 1) sc_l_sign_by.nd rfl (.inl rfl) (pe_op op_add_str (pv 1) pe_str))
  (pss_one (ps_ret (pe_ix ix_str (pv 1) (pe_op op_mod (pv 0) pe_int) (fun _ _ => rfl)))))), ?_⟩
    refine q_asg (v := .str alphA) ev_c fun H1 e1 => ?_
    refine q_asg (v := .str (alphA ++ alphB)) (ev_op (ev_var rfl) ev_c (rv_addS alph_len)) fun H2 e2 => ?_
    refine s_ret (v := .str ⟨#[sgn c]⟩) (ev_op (ev_var rfl) (ev_op (ev_var rfl) ev_c (rv_I (by decide))) (rv_ixS alph_len2 ?_)) fun H3 e3 => k H3 ((e1.trans e2).trans e3)
    rw [alph_tl]
    exact at_sgn c
/-! ### the defs that make the words -/
def sp_word_by (K : PySem.W.Frag) : Sp := fun vs H Q _ => ∃ c : Int, vs = [.int c] ∧ RetV (.str (wordOf c)) H Q
theorem ok_l_word_by (T : Txt K mg A) : FnOk P w K mg base CX0 2 A.f_l_word_by A.d_l_word_by ["_law_cell"] (sp_word_by K) := by
  refine T.F_l_word_by.ok sc_l_word_by (fun vs H Q E h => ?_) (fun cdv Ar outer s H vs Q E hr h => ?_)
  · obtain ⟨c, rfl, _⟩ := h
    rfl
  · obtain ⟨c, rfl, k⟩ := h
    refine ⟨_, (pss_cons (ps_set (i := 1) sc_l_word_by.nd rfl (.inl rfl) (pe_op op_add pe_int (pe_op op_mod (pv 0) pe_int)))
  (pss_cons (ps_if (pt_cmpR op_eq (pe_op op_mod (pe_op op_fdiv (pv 0) pe_int) pe_int) pe_int (nomark _))
  (pss_one (ps_set (i := 1) sc_l_word_by.nd rfl (.inl rfl) (pe_op op_add pe_int (pe_op op_mod (pe_op op_fdiv (pv 0) pe_int) pe_int))))
  pss_nil)
  (pss_cons (ps_if (pt_cmpR op_eq (pe_op op_mod (pe_op op_fdiv (pv 0) pe_int) pe_int) pe_int (nomark _))
  (pss_one (ps_set (i := 1) sc_l_word_by.nd rfl (.inl rfl) (pe_op op_add pe_int (pe_op op_mod (pe_op op_fdiv (pv 0) pe_int) pe_int))))
  pss_nil)
  (pss_one (ps_ret (TwE.pe_joinE (K := K) rfl pe_str (pe_lc (own := [("_law_k", 2)]) (tt := tYes) rfl sc_l_word_by.nd (pi_range1 (by rfl) T.m_range (pa_cons (pv 1) pa_nil)) (blkOk_by (N := N_l_word_by) (sc := defScope s_l_word_by) (by decide +kernel)) (fun _ _ _ _ _ => (pg_name (i := 2) sc_l_word_by.nd rfl (.inl rfl))) (fun _ _ _ _ _ => pts_nil) (fun _ _ _ _ _ => (pe_call (ok_l_sign_by T) (hr.mono (by decide)) rfl T.g_l_sign_by T.F_l_sign_by.kp T.b_l_sign_by .nil pass0 (pa_cons (pe_op op_add (pe_op op_fdiv (pv 0) pe_int) (pe_op op_mul (pv 2) (pe_op op_add pe_int (pe_op op_mod (pv 0) pe_int)))) pa_nil)))))))))), ?_⟩
    refine q_asg (v := .int (1 + c % 7)) (by walk_at "ev") fun H1 e1 => ?_
    refine q_ifAsg (i := 1) (b := decide (V.int (c / 7 % 9) = V.int 1)) (v := .int (if c / 7 % 9 = 1 then 1 + c / 63 % 40 else 1 + c % 7)) (by walk_at "et") (fun hb => ?_) (fun hb => ?_) fun H2 e2 => ?_
    · have h := of_decide_eq_true hb
      rw [if_pos (by injection h)]
      walk_at "ev"
    · have h := of_decide_eq_false hb
      rw [if_neg (fun q => h (by rw [q]))]
      rfl
    refine q_ifAsg (i := 1) (b := decide (V.int (c / 7 % 81) = V.int 2)) (v := .int (wsize c)) (by walk_at "et") (fun hb => ?_) (fun hb => ?_) fun H3 e3 => ?_
    · have h := of_decide_eq_true hb
      have h' : c / 7 % 81 = 2 := by injection h
      have ew : wsize c = 1 + c / 567 % 300 := if_pos h'
      rw [ew]
      walk_at "ev"
    · have h := of_decide_eq_false hb
      have h' : ¬ c / 7 % 81 = 2 := fun q => h (by rw [q])
      have ew : wsize c = if c / 7 % 9 = 1 then 1 + c / 63 % 40 else 1 + c % 7 := if_neg h'
      rw [ew]
      rfl
    have hn := wsize_in c
    have hys : ((List.range (wsize c).toNat).map fun i : Nat => V.str (one (sgn (c / 3 + (i : Int) * (1 + c % 5))))) = ((List.range (wsize c).toNat).map fun i : Nat => one (sgn (c / 3 + (i : Int) * (1 + c % 5)))).map V.str := by
      rw [List.map_map] <;> rfl
    refine s_ret (v := .str (wordOf c)) (ev_joinL ev_none (el_is (el_lcR (fun i : Nat => V.str (one (sgn (c / 3 + (i : Int) * (1 + c % 5))))) (ea_cons (ev_var rfl) ea_nil) (by omega) (fun _ => rfl) fun i H4 e4 hi => ?_) hys) ?_) fun H4 e4 => k H4 (((e1.trans e2).trans e3).trans e4)
    · exact ev_call (ea_cons (x := .int (c / 3 + (i : Int) * (1 + c % 5))) (by walk_at "ev") ea_nil) fun H5 e5 Q q E => ⟨_, rfl, q⟩
    · rw [sum_ones (wsize c).toNat fun i => sgn (c / 3 + (i : Int) * (1 + c % 5))]
      show _ + _ * 0 ≤ _
      omega
def sp_alike_by (K : PySem.W.Frag) : Sp := fun vs H Q _ => ∃ c s : Int, vs = [.int c, .int s] ∧ 1 ≤ s ∧ s ≤ 4 ∧ RetV (.str (alikeOf c s)) H Q
theorem ok_l_alike_by (T : Txt K mg A) : FnOk P w K mg base CX0 2 A.f_l_alike_by A.d_l_alike_by ["_law_cell", "_law_size_here"] (sp_alike_by K) := by
  refine T.F_l_alike_by.ok sc_l_alike_by (fun vs H Q E h => ?_) (fun cdv Ar outer s H vs Q E hr h => ?_)
  · obtain ⟨c, s, rfl, _⟩ := h
    rfl
  · obtain ⟨c, sz, rfl, h1, h2, k⟩ := h
    refine ⟨_, (pss_cons (ps_set (i := 2) sc_l_alike_by.nd rfl (.inl rfl) (pe_op op_mod (pe_op op_fdiv (pv 0) pe_int) (pv 1)))
  (pss_one (ps_ret (pe_op op_add_str (pe_op op_add_str (pe_op op_mulS pe_str (pv 2)) (pe_call (ok_l_sign_by T) (hr.mono (by decide)) rfl T.g_l_sign_by T.F_l_sign_by.kp T.b_l_sign_by .nil pass0 (pa_cons (pv 0) pa_nil))) (pe_op op_mulS pe_str (pe_op op_sub (pe_op op_sub (pv 1) pe_int) (pv 2))))))), ?_⟩
    have a0 : 0 ≤ c / 93 % sz := Int.emod_nonneg _ (by omega)
    have a1 : c / 93 % sz < sz := Int.emod_lt_of_pos _ (by omega)
    have l1 := len_mul1 (z := signA) rfl a0
    have l2 := len_mul1 (z := signA) rfl (show 0 ≤ sz - 1 - c / 93 % sz by omega)
    have ea : ∀ {σ : L2.St} {H : Hp}, Ev (tC (.str (Str.ofString "a"))) σ H (.str signA) := ev_is ev_c (congrArg V.str signA_eq)
    refine q_asg (v := .int (c / 93 % sz)) (ev_op (ev_op (ev_var rfl) ev_c (rv_I ⟨by decide, by decide⟩)) (ev_var rfl) (rv_I (by omega))) fun H1 e1 => ?_
    refine s_ret (v := .str (alikeOf c sz)) (ev_op (ev_op (ev_op ea (ev_var rfl) (rv_mulS (L := 1) (N := 4) (Nat.le_refl 1) (by omega) a0 (by decide) (by decide))) (ev_call (ea_cons (ev_var rfl) ea_nil) fun H5 e5 Q q E => ⟨_, rfl, q⟩) (rv_addS ?_)) (ev_op ea (by walk_at "ev") (rv_mulS (L := 1) (N := 4) (Nat.le_refl 1) (by omega) (by omega) (by decide) (by decide))) (rv_addS ?_)) fun H4 e4 => k H4 (e1.trans e4)
    · show _ + 1 ≤ _
      omega
    · rw [len_app]
      show _ + 1 + _ ≤ _
      omega
def sp_wide_by (K : PySem.W.Frag) : Sp := fun vs H Q _ => ∃ m k : Int, vs = [.int m, .int k] ∧ 0 ≤ k ∧ k ≤ 10000 ∧ RetV (.int (wideOf m k)) H Q
theorem ok_l_wide_by (T : Txt K mg A) : FnOk P w K mg base CX0 1 A.f_l_wide_by A.d_l_wide_by ["_law_more", "_law_k"] (sp_wide_by K) := by
  refine T.F_l_wide_by.ok sc_l_wide_by (fun vs H Q E h => ?_) (fun cdv Ar outer s H vs Q E hr h => ?_)
  · obtain ⟨m, k, rfl, _⟩ := h
    rfl
  · obtain ⟨m, kk, rfl, h1, h2, k⟩ := h
    refine ⟨_, (pss_one (ps_ret (pe_op op_add (pe_op op_add pe_int (pe_op op_mod (pe_op op_add (pv 0) (pe_op op_mul (pv 1) (pv 1))) pe_int)) (pe_op op_mul pe_int (pe_callTy call_int1 (by rfl) T.m_int (by decide +kernel) (pa_cons (pe_cmpR op_eq (pe_op op_mod (pv 1) pe_int) (pe_op op_mod (pv 0) pe_int) (nomark _)) pa_nil)))))), ?_⟩
    have e : (.int (wideOf m kk) : V) = .int (1 + (m + kk * kk) % 3 + 5 * (if (decide (V.int (kk % 7) = V.int (m % 7))) = true then 1 else 0)) := by
      unfold wideOf
      by_cases h : kk % 7 = m % 7
      · rw [if_pos h, if_pos (by rw [h]; simp)]
      · rw [if_neg h, if_neg (fun q => h (by have q := of_decide_eq_true q; injection q))]
    rw [e] at k
    refine s_ret (ev_op (ev_op ev_c (by walk_at "ev") rv_I0) (ev_op ev_c (ev_cb (ea_cons (ev_op (by walk_at "ev") (by walk_at "ev") (rv_eq rfl)) ea_nil) rc_intB) (rv_I (.inl ⟨by decide, by decide⟩))) rv_I0) fun H4 e4 => k H4 e4
def sp_words_by (K : PySem.W.Frag) : Sp := fun vs H Q _ => ∃ (a : Addr) (ns : List Int) (m : Int), vs = [.ref a, .int m] ∧ SqL K H a (ns.map V.int) ∧ ns.length ≤ 63 ∧ RetL ((wordsOf ns m).map V.str) H Q
theorem ok_l_words_by (T : Txt K mg A) : FnOk P w K mg base CX0 3 A.f_l_words_by A.d_l_words_by ["_law_cells", "_law_more"] (sp_words_by K) := by
  refine T.F_l_words_by.ok sc_l_words_by (fun vs H Q E h => ?_) (fun cdv Ar outer s H vs Q E hr h => ?_)
  · obtain ⟨a, ns, m, rfl, _⟩ := h
    rfl
  · obtain ⟨a, ns, m, rfl, hS, hlen, k⟩ := h
    refine ⟨_, (pss_cons (ps_setLc (i := 2) (own := [("_law_cell", 4)]) (tt := tYes) rfl sc_l_words_by.nd rfl rfl (sw_true rfl rfl rfl (by decide +kernel)) (pi_list (pv 0)) (blkOk_by (N := N_l_words_by) (sc := defScope s_l_words_by) (by decide +kernel)) (fun _ _ _ _ _ => (pg_name (i := 4) sc_l_words_by.nd rfl (.inl rfl))) (fun _ _ _ _ _ => pts_nil) (fun _ _ _ _ _ => (pe_call (ok_l_word_by T) (hr.mono (by decide)) rfl T.g_l_word_by T.F_l_word_by.kp T.b_l_word_by .nil pass0 (pa_cons (pv 4) pa_nil))))
  (Evl.pss_cut (ps_if (pt_cmpR op_eq (pe_op op_mod (pv 1) pe_int) pe_int (nomark _))
  (pss_one (ps_set (i := 2) sc_l_words_by.nd rfl (.inl rfl) (pe_slice (TwE.slE (K := K) rfl) (pe_op op_rep (pv 2) pe_int) po_none (po_some (pe_op op_mod (pe_op op_fdiv (pv 1) pe_int) pe_int)))))
  pss_nil)
  (Evl.pss_cut (ps_if (pt_cmpR op_eq (pe_op op_mod (pv 1) pe_int) pe_int (nomark _))
  (pss_one (ps_setLc (i := 2) (own := [("_law_cell", 4)]) (tt := tYes) rfl sc_l_words_by.nd rfl rfl (sw_true rfl rfl rfl (by decide +kernel)) (pi_list (pv 0)) (blkOk_by (N := N_l_words_by) (sc := defScope s_l_words_by) (by decide +kernel)) (fun _ _ _ _ _ => (pg_name (i := 4) sc_l_words_by.nd rfl (.inl rfl))) (fun _ _ _ _ _ => pts_nil) (fun _ _ _ _ _ => (pe_call (ok_l_alike_by T) (hr.mono (by decide)) rfl T.g_l_alike_by T.F_l_alike_by.kp T.b_l_alike_by .nil pass0 (pa_cons (pv 4) (pa_cons (pe_op op_add pe_int (pe_op op_mod (pe_op op_fdiv (pv 1) pe_int) pe_int)) pa_nil))))))
  pss_nil)
  (Evl.pss_cut (ps_if (pt_cmpR op_eq (pe_op op_mod (pv 1) pe_int) pe_int (nomark _))
  (pss_cons (ps_set (i := 3) sc_l_words_by.nd rfl (.inl rfl) (pe_op op_mod (pe_op op_mod (pe_op op_mul (pv 1) pe_int) pe_int) (pe_ix (ixL (K := K) rfl) (pe_lst (pa_cons pe_int (pa_cons pe_int (pa_cons pe_int (pa_cons pe_int pa_nil))))) (pe_op op_mod (pe_op op_fdiv (pv 1) pe_int) pe_int) (fun _ _ => rfl))))
  (pss_one (ps_setLc (i := 2) (own := [("_law_k", 5)]) (tt := tYes) rfl sc_l_words_by.nd rfl rfl (sw_true rfl rfl rfl (by decide +kernel)) (pi_range1 (by rfl) T.m_range (pa_cons (pv 3) pa_nil)) (blkOk_by (N := N_l_words_by) (sc := defScope s_l_words_by) (by decide +kernel)) (fun _ _ _ _ _ => (pg_name (i := 5) sc_l_words_by.nd rfl (.inl rfl))) (fun _ _ _ _ _ => pts_nil) (fun _ _ _ _ _ => (pe_op op_mulS (pe_call (ok_l_sign_by T) (hr.mono (by decide)) rfl T.g_l_sign_by T.F_l_sign_by.kp T.b_l_sign_by .nil pass0 (pa_cons (pe_op op_add (pv 1) (pv 5)) pa_nil)) (pe_call (ok_l_wide_by T) (hr.mono (by decide)) rfl T.g_l_wide_by T.F_l_wide_by.kp T.b_l_wide_by .nil pass0 (pa_cons (pv 1) (pa_cons (pv 5) pa_nil))))))))
  pss_nil)
  (pss_one (ps_ret (pv 2))))))), ?_⟩
    have nl : (ns.map V.int).length = ns.length := List.length_map ..
    have lw : ∀ (f : Int → Str), (List.range (ns.map V.int).length).map (fun i => V.str (f (ns.getD i 0))) = (ns.map f).map V.str := fun f => by
      rw [nl, List.map_map]
      refine List.ext_getElem? fun j => ?_
      rw [List.getElem?_map, List.getElem?_map]
      by_cases hj : j < ns.length
      · rw [List.getElem?_range hj, List.getElem?_eq_getElem hj]
        show some (V.str (f (ns.getD j 0))) = some (V.str (f ns[j]))
        rw [List.getD_eq_getElem?_getD, List.getElem?_eq_getElem hj] <;> rfl
      · rw [List.getElem?_eq_none (by rw [List.length_range]; omega), List.getElem?_eq_none (by omega)] <;> rfl
    have at_ : ∀ {i : Nat} {x : V}, (ns.map V.int)[i]? = some x → x = .int (ns.getD i 0) := fun {i x} h => by
      rw [List.getElem?_map] at h
      obtain ⟨c, hc, rfl⟩ := Option.map_eq_some_iff.mp h
      rw [List.getD_eq_getElem?_getD, hc] <;> rfl
    refine q_asgL (xs := (ns.map wordOf).map V.str) (el_is (el_lcX (fun i => V.str (wordOf (ns.getD i 0))) (ev_var rfl) hS (by omega) (fun _ => rfl) fun i x H1 e1 hi => ?_) (lw wordOf)) fun p H1 p0 e1 h1 => ?_
    · rw [at_ hi]
      exact ev_call (ea_cons (ev_var rfl) ea_nil) fun H5 e5 Q q E => ⟨_, rfl, q⟩
    have mk : ∀ {l : List Str} {H2 : Hp} {q : Addr} {b c d : Option V}, Ex H H2 → H q = none → H2 q = some (.lst (l.map V.str)) → ∃ b' c' d' q', ([some (V.ref a), some (.int m), some (.ref q), b, c, d] : L2.St) = [some (.ref a), some (.int m), some (.ref q'), b', c', d'] ∧ Ex H H2 ∧ H q' = none ∧ H2 q' = some (.lst (l.map V.str)) := fun e q0 h => ⟨_, _, _, _, rfl, e, q0, h⟩
    -- six times, cut
    refine q_cut (M := fun σ2 H2 => ∃ b' c' d' q', σ2 = [some (.ref a), some (.int m), some (.ref q'), b', c', d'] ∧ Ex H H2 ∧ H q' = none ∧ H2 q' = some (.lst ((row0 ns m).map V.str))) ?_ ?_
    · refine s_when (b := decide (V.int (m % 4) = V.int 1)) (by walk_at "et") (fun hb H2 e2 => ?_) (fun hb H2 e2 => ?_)
      · have hm : m % 4 = 1 := by
          have h := of_decide_eq_true hb
          injection h
        have er : row0 ns m = ((List.replicate 6 (ns.map wordOf)).flatten).take (m / 4 % 150).toNat := if_pos hm
        have hx : cutV ((List.replicate 6 ((ns.map wordOf).map V.str)).flatten) none (some (m / 4 % 150)) = (row0 ns m).map V.str := by
          have e6 : (List.replicate 6 ((ns.map wordOf).map V.str)).flatten = ((List.replicate 6 (ns.map wordOf)).flatten).map V.str := by
            rw [List.map_flatten, List.map_replicate]
          have h0 : m / 4 % 150 = ((m / 4 % 150).toNat : Int) := by omega
          rw [er, e6, h0, cutV, HT.sIx_none, HT.sIx_nat, List.drop_zero, Nat.sub_zero, ← List.map_take, Int.toNat_natCast]
          congr 1
          rw [List.length_map]
          rcases Nat.le_total (m / 4 % 150).toNat ((List.replicate 6 (ns.map wordOf)).flatten).length with q | q
          · rw [Nat.min_eq_left q]
          · rw [Nat.min_eq_right q, List.take_of_length_le q, List.take_length]
        refine s_asgL (xs := (row0 ns m).map V.str) ?_ fun q H3 q0 e3 h3 => mk (e1.trans (e2.trans e3)) (fresh_back (e1.trans e2) q0) h3
        rw [← hx]
        refine el_slN (fun H3 e3 Q q => ?_) eo_none (eo_some (by walk_at "ev"))
        exact ⟨.ref p, rfl, p, 6, _, rfl, rfl, e3 _ _ (e2 _ _ h1), by decide, by decide, sz_of (by rw [List.length_map, List.length_map]; show ns.length * 6 ≤ 100000; omega), fun q' hq' => q q' _ hq' (Ex.new hq') upd_same⟩
      · have hm : ¬ m % 4 = 1 := fun q => (of_decide_eq_false hb) (by rw [q])
        have er : row0 ns m = ns.map wordOf := if_neg hm
        rw [er]
        exact mk (e1.trans e2) p0 (e2 _ _ h1)
    rintro σ2 H2 ⟨b', c', d', q2, rfl, e2, q20, h2⟩
    -- alike
    refine q_cut (M := fun σ2 H2 => ∃ b' c' d' q', σ2 = [some (.ref a), some (.int m), some (.ref q'), b', c', d'] ∧ Ex H H2 ∧ H q' = none ∧ H2 q' = some (.lst ((row1 ns m).map V.str))) ?_ ?_
    · refine s_when (b := decide (V.int (m % 4) = V.int 2)) (by walk_at "et") (fun hb H3 e3 => ?_) (fun hb H3 e3 => ?_)
      · have hm : m % 4 = 2 := by
          have h := of_decide_eq_true hb
          injection h
        have er : row1 ns m = ns.map fun c => alikeOf c (1 + m / 4 % 4) := if_pos hm
        rw [er]
        refine s_asgL (xs := (ns.map fun c => alikeOf c (1 + m / 4 % 4)).map V.str) (el_is (el_lcX (fun i => V.str (alikeOf (ns.getD i 0) (1 + m / 4 % 4))) (ev_var rfl) (ex_l (e2.trans e3) hS) (by omega) (fun _ => rfl) fun i x H4 e4 hi => ?_) (lw fun c => alikeOf c (1 + m / 4 % 4))) fun q H5 q0 e5 h5 => mk (e2.trans (e3.trans e5)) (fresh_back (e2.trans e3) q0) h5
        rw [at_ hi]
        exact ev_call (ea_cons (ev_var rfl) (ea_cons (by walk_at "ev") ea_nil)) fun H5 e5 Q q E => ⟨_, _, rfl, by omega, by omega, q⟩
      · have hm : ¬ m % 4 = 2 := fun q => (of_decide_eq_false hb) (by rw [q])
        have er : row1 ns m = row0 ns m := if_neg hm
        rw [er]
        exact mk (e2.trans e3) q20 (e3 _ _ h2)
    rintro σ3 H3 ⟨b3, c3, d3, q3, rfl, e3, q30, h3⟩
    -- of one sign
    refine q_cut (M := fun σ2 H2 => ∃ x3 x4 x5 q', σ2 = [some (.ref a), some (.int m), some (.ref q'), x3, x4, x5] ∧ Ex H H2 ∧ H q' = none ∧ H2 q' = some (.lst ((wordsOf ns m).map V.str))) ?_ ?_
    · refine s_when (b := decide (V.int (m % 12) = V.int 3)) (by walk_at "et") (fun hb H4 e4 => ?_) (fun hb H4 e4 => ?_)
      · have hm : m % 12 = 3 := by
          have h := of_decide_eq_true hb
          injection h
        have er : wordsOf ns m = (List.range (manyOf m).toNat).map fun (k : Nat) => Txt.mul (one (sgn (m + (k : Int)))) (wideOf m (k : Int)) := if_pos hm
        rw [er]
        have hmi := manyOf_in m
        have hj : 0 ≤ m / 12 % 4 ∧ m / 12 % 4 < 4 := by omega
        have hat : atI [V.int 450, V.int 450, V.int 450, V.int 1600] (m / 12 % 4) = some (.int (if m / 12 % 4 = 3 then 1600 else 450)) := by
          have hc : m / 12 % 4 = 0 ∨ m / 12 % 4 = 1 ∨ m / 12 % 4 = 2 ∨ m / 12 % 4 = 3 := by omega
          rcases hc with h | h | h | h <;> rw [h] <;> decide +kernel
        refine q_asg (v := .int (manyOf m)) (ev_op (ev_op (ev_op (ev_var rfl) ev_c (rv_I (.inr ⟨by decide, by decide⟩))) ev_c (rv_I (by decide))) (ev_opL1 (xs := [V.int 450, V.int 450, V.int 450, V.int 1600]) (y := .int (m / 12 % 4)) (el_lst (ea_cons ev_c (ea_cons ev_c (ea_cons ev_c (ea_cons ev_c ea_nil)))) (Nat.le_of_ble_eq_true rfl)) (fun H5 e5 => by walk_at "ev") fun q H5 hq e5 => rv_ixL (sq_of hq) hat) (rv_I ?_)) fun H5 e5 => ?_
        · split <;> decide
        have hys : ((List.range (manyOf m).toNat).map fun (k : Nat) => V.str (Txt.mul (one (sgn (m + (k : Int)))) (wideOf m (k : Int)))) = ((List.range (manyOf m).toNat).map fun (k : Nat) => Txt.mul (one (sgn (m + (k : Int)))) (wideOf m (k : Int))).map V.str := by
          rw [List.map_map] <;> rfl
        refine s_asgL (xs := ((List.range (manyOf m).toNat).map fun (k : Nat) => Txt.mul (one (sgn (m + (k : Int)))) (wideOf m (k : Int))).map V.str) (el_is (el_lcR (fun (k : Nat) => V.str (Txt.mul (one (sgn (m + (k : Int)))) (wideOf m (k : Int)))) (ea_cons (ev_var rfl) ea_nil) (by omega) (fun _ => rfl) fun i H6 e6 hi => ?_) hys) fun q H6 q0 e6 h6 => ?_
        · have hw := wideOf_in m (i : Int)
          exact ev_op (x := .str (one (sgn (m + (i : Int))))) (y := .int (wideOf m (i : Int))) (ev_call (ea_cons (by walk_at "ev") ea_nil) fun H5 e5 Q q E => ⟨_, rfl, q⟩) (ev_call (ea_cons (ev_var rfl) (ea_cons (ev_var rfl) ea_nil)) fun H5 e5 Q q E => ⟨_, _, rfl, by omega, by omega, q⟩) (rv_mulS (L := 1) (N := 8) (Nat.le_refl 1) (by omega) (by omega) (by decide) (by decide))
        · exact ⟨_, _, _, _, rfl, e3.trans ((e4.trans e5).trans e6), fresh_back (e3.trans (e4.trans e5)) q0, h6⟩
      · have hm : ¬ m % 12 = 3 := fun q => (of_decide_eq_false hb) (by rw [q])
        have er : wordsOf ns m = row1 ns m := if_neg hm
        rw [er]
        exact ⟨_, _, _, _, rfl, e3.trans e4, q30, e4 _ _ h3⟩
    rintro σ4 H4 ⟨x3, x4, x5, q4, rfl, e4, q40, h4⟩
    exact s_ret (v := .ref q4) (ev_var rfl) fun H5 e5 => k q4 H5 q40 (e4.trans e5) (e5 _ _ h4)

/-! ### _law_kind: the refusal by its number -/
def kinds (A : Ad) : List Addr := [A.c_NoWidth, A.c_LongWord, A.c_NoStarts, A.c_TooWide, A.c_TooFew, A.c_TooMany, A.c_NoPlace, A.c_NoWord, A.c_Full, A.c_NoWayBack]
theorem kind_sum (j : Nat) (hj : j < 10) : ((List.range 10).map fun k : Nat => (11 + (k : Int)) * (if decide (k = j) = true then 1 else 0)).sum = 11 + (j : Int) := by
  have h : j = 0 ∨ j = 1 ∨ j = 2 ∨ j = 3 ∨ j = 4 ∨ j = 5 ∨ j = 6 ∨ j = 7 ∨ j = 8 ∨ j = 9 := by omega
  rcases h with h | h | h | h | h | h | h | h | h | h <;> rw [h] <;> decide
theorem ok_l_kind (T : Txt K mg A) : FnP P w K mg base CX0 1 A.f_l_kind A.d_l_kind ["_law_e"] (sp_kind K (kinds A)) := by
  refine Fun.okP T.F_l_kind sc_l_kind (fun a c d vs H Q E h => ?_) (fun cdv Ar outer s H vs Q E p c d hz hot h => ?_)
  · obtain ⟨Dd, j, _, _, rfl, _⟩ := h
    rfl
  · obtain ⟨Dd, j, hc, hd, rfl, hec, hj, hk, k⟩ := h
    have hfp : ∃ vs, p.2.data = .fields vs := ⟨hot.2.choose, hot.2.choose_spec.1⟩
    have hcx : HotC (cxH CX0 P w K mg base N_l_kind "_law_kind" (defScope s_l_kind) A.f_l_kind cdv Ar outer s H E p) := ⟨p, hot, List.mem_singleton.mpr rfl⟩
    have hcx := hcx
    refine ⟨_, (pss_cons (ps_set (i := 1) sc_l_kind.nd rfl (.inr rfl) (pe_lst (pa_cons (pe_callB (call_isP (K := K) rfl (List.mem_singleton.mpr rfl) hz hfp) (by rfl) T.m_isinstance (by decide +kernel) (pa_cons (pv 0) (pa_cons (pe_glob (v := .ref A.c_NoWidth) rfl T.gc_NoWidth rfl) pa_nil))) (pa_cons (pe_callB (call_isP (K := K) rfl (List.mem_singleton.mpr rfl) hz hfp) (by rfl) T.m_isinstance (by decide +kernel) (pa_cons (pv 0) (pa_cons (pe_glob (v := .ref A.c_LongWord) rfl T.gc_LongWord rfl) pa_nil))) (pa_cons (pe_callB (call_isP (K := K) rfl (List.mem_singleton.mpr rfl) hz hfp) (by rfl) T.m_isinstance (by decide +kernel) (pa_cons (pv 0) (pa_cons (pe_glob (v := .ref A.c_NoStarts) rfl T.gc_NoStarts rfl) pa_nil))) (pa_cons (pe_callB (call_isP (K := K) rfl (List.mem_singleton.mpr rfl) hz hfp) (by rfl) T.m_isinstance (by decide +kernel) (pa_cons (pv 0) (pa_cons (pe_glob (v := .ref A.c_TooWide) rfl T.gc_TooWide rfl) pa_nil))) pa_nil))))))
  (pss_cons (ps_set (i := 1) sc_l_kind.nd rfl (.inr rfl) (pe_op op_cat (pv 1) (pe_lst (pa_cons (pe_callB (call_isP (K := K) rfl (List.mem_singleton.mpr rfl) hz hfp) (by rfl) T.m_isinstance (by decide +kernel) (pa_cons (pv 0) (pa_cons (pe_glob (v := .ref A.c_TooFew) rfl T.gc_TooFew rfl) pa_nil))) (pa_cons (pe_callB (call_isP (K := K) rfl (List.mem_singleton.mpr rfl) hz hfp) (by rfl) T.m_isinstance (by decide +kernel) (pa_cons (pv 0) (pa_cons (pe_glob (v := .ref A.c_TooMany) rfl T.gc_TooMany rfl) pa_nil))) (pa_cons (pe_callB (call_isP (K := K) rfl (List.mem_singleton.mpr rfl) hz hfp) (by rfl) T.m_isinstance (by decide +kernel) (pa_cons (pv 0) (pa_cons (pe_glob (v := .ref A.c_NoPlace) rfl T.gc_NoPlace rfl) pa_nil))) (pa_cons (pe_callB (call_isP (K := K) rfl (List.mem_singleton.mpr rfl) hz hfp) (by rfl) T.m_isinstance (by decide +kernel) (pa_cons (pv 0) (pa_cons (pe_glob (v := .ref A.c_NoWord) rfl T.gc_NoWord rfl) pa_nil))) pa_nil)))))))
  (pss_cons (ps_set (i := 1) sc_l_kind.nd rfl (.inr rfl) (pe_op op_cat (pv 1) (pe_lst (pa_cons (pe_callB (call_isP (K := K) rfl (List.mem_singleton.mpr rfl) hz hfp) (by rfl) T.m_isinstance (by decide +kernel) (pa_cons (pv 0) (pa_cons (pe_glob (v := .ref A.c_Full) rfl T.gc_Full rfl) pa_nil))) (pa_cons (pe_callB (call_isP (K := K) rfl (List.mem_singleton.mpr rfl) hz hfp) (by rfl) T.m_isinstance (by decide +kernel) (pa_cons (pv 0) (pa_cons (pe_glob (v := .ref A.c_NoWayBack) rfl T.gc_NoWayBack rfl) pa_nil))) pa_nil)))))
  (pss_one (ps_ret (pe_callB (cr_sumH hcx) (by rfl) T.m_sum (by decide +kernel) (pa_cons (pe_lcH (own := [("_law_k", 2)]) (tt := tYes) hcx sc_l_kind.nd (pi_range1H (by rfl) T.m_range (pa_cons pe_int pa_nil)) (blkOk_by (N := N_l_kind) (sc := defScope s_l_kind) (by decide +kernel)) (fun _ _ _ _ _ => (pg_name (i := 2) sc_l_kind.nd rfl (.inl rfl))) (fun _ _ _ _ _ => pts_nil) (fun _ _ _ _ _ => (pe_op op_mul (pe_op op_add pe_int (pv 2)) (pe_callTy call_int1 (by rfl) T.m_int (by decide +kernel) (pa_cons (pe_ix (ixL (K := K) rfl) (pv 1) (pv 2) (fun _ _ => rfl)) pa_nil))))) pa_nil))))))), ?_⟩
    have one_ : ∀ (i : Nat) (C : Addr) {σ : L2.St} {H' : Hp}, (kinds A)[i]? = some C → σ[0]? = some (some (.ref p.1)) → Ev (tCB (rIsP K c d p.1) (tCons (tVar 0) (tCons (tC (.ref C)) tNil))) σ H' (.bl (decide (i = j))) := fun i C σ H' hi h0 =>
      ev_cb (ea_cons (ev_var h0) (ea_cons ev_c ea_nil)) (rc_isP hc hd hec (hk i C hi))
    refine q_asgL (xs := [.bl (decide (0 = j)), .bl (decide (1 = j)), .bl (decide (2 = j)), .bl (decide (3 = j))]) (el_lst (ea_cons (one_ 0 _ rfl rfl) (ea_cons (one_ 1 _ rfl rfl) (ea_cons (one_ 2 _ rfl rfl) (ea_cons (one_ 3 _ rfl rfl) ea_nil)))) (show 4 ≤ 100000 by decide)) fun l1 H1 p1 e1 h1 => ?_
    refine q_asgL (el_cat (ev_var rfl) h1 (el_lst (ea_cons (one_ 4 _ rfl rfl) (ea_cons (one_ 5 _ rfl rfl) (ea_cons (one_ 6 _ rfl rfl) (ea_cons (one_ 7 _ rfl rfl) ea_nil)))) (show 4 ≤ 100000 by decide)) (show 4 + 4 ≤ 100000 by decide)) fun l2 H2 p2 e2 h2 => ?_
    refine q_asgL (el_cat (ev_var rfl) h2 (el_lst (ea_cons (one_ 8 _ rfl rfl) (ea_cons (one_ 9 _ rfl rfl) ea_nil)) (show 2 ≤ 100000 by decide)) (show 8 + 2 ≤ 100000 by decide)) fun l3 H3 p3 e3 h3 => ?_
    have hfl : ∀ i : Nat, i < 10 → ([V.bl (decide (0 = j)), .bl (decide (1 = j)), .bl (decide (2 = j)), .bl (decide (3 = j))] ++ [V.bl (decide (4 = j)), .bl (decide (5 = j)), .bl (decide (6 = j)), .bl (decide (7 = j))] ++ [V.bl (decide (8 = j)), .bl (decide (9 = j))])[i]? = some (.bl (decide (i = j))) := fun i hi => by
      have h : i = 0 ∨ i = 1 ∨ i = 2 ∨ i = 3 ∨ i = 4 ∨ i = 5 ∨ i = 6 ∨ i = 7 ∨ i = 8 ∨ i = 9 := by omega
      rcases h with h | h | h | h | h | h | h | h | h | h <;> rw [h] <;> rfl
    have ks := kind_sum j hj
    refine s_ret (v := .int (11 + (j : Int))) (ev_is (ev_sumN (ns := (List.range 10).map fun k : Nat => (11 + (k : Int)) * (if decide (k = j) = true then 1 else 0)) (el_is (el_lcR (n := 10) (fun k : Nat => V.int ((11 + (k : Int)) * (if decide (k = j) = true then 1 else 0))) (ea_cons ev_c ea_nil) (by decide) (fun _ => rfl) fun i H4 e4 hi => ?_) (by rw [List.map_map] <;> rfl))) (by rw [ks])) fun H4 e4 => k H4 (((e1.trans e2).trans e3).trans e4)
    refine ev_op (ev_op ev_c (ev_var rfl) rv_I0) (ev_cb (ea_cons (ev_op (ev_var rfl) (ev_var rfl) (rv_ixL (sq_of (e4 _ _ h3)) (atI_nat (hfl i (by omega))))) ea_nil) rc_intB) (rv_I (.inl ⟨by omega, by omega⟩))

def sp_whole (K : PySem.W.Frag) : Sp := fun vs H Q _ => ∃ i : Int, vs = [.int i] ∧ RetV (.bl true) H Q
theorem ok_l_whole (T : Txt K mg A) : FnOk P w K mg base CX0 1 A.f_l_whole A.d_l_whole ["_law_found"] (sp_whole K) := by
  refine T.F_l_whole.ok sc_l_whole (fun vs H Q E h => ?_) (fun cdv Ar outer s H vs Q E hr h => ?_)
  · obtain ⟨i, rfl, _⟩ := h
    rfl
  · obtain ⟨i, rfl, k⟩ := h
    refine ⟨_, (pss_one (ps_ret (pe_and (pe_callB call_isi (by rfl) T.m_isinstance (by decide +kernel) (pa_cons (pv 0) (pa_cons (pe_bltn (v := .ty "int") (by rfl) T.m_int (by decide +kernel) rfl) pa_nil))) (pe_one (pe_not (pe_callB call_isi (by rfl) T.m_isinstance (by decide +kernel) (pa_cons (pv 0) (pa_cons (pe_bltn (v := .ty "bool") (by rfl) T.m_bool (by decide +kernel) rfl) pa_nil)))))))), ?_⟩
    exact s_ret (v := .bl true) (ev_is (ev_andV (ev_cb (ea_cons (ev_var rfl) (ea_cons ev_c ea_nil)) rc_isInt) fun _ => ev_notV (ev_cb (ea_cons (ev_var rfl) (ea_cons ev_c ea_nil)) rc_isIntB)) rfl) fun H1 e1 => k H1 e1

/-! ### whole numbers -/
def sp_wholes (K : PySem.W.Frag) : Sp := fun vs H Q _ => ∃ (p : Addr) (zs : List Int), vs = [.ref p] ∧ SqL K H p (zs.map V.int) ∧ RetV (.bl true) H Q
theorem ok_l_wholes (T : Txt K mg A) : FnOk P w K mg base CX0 2 A.f_l_wholes A.d_l_wholes ["_law_found"] (sp_wholes K) := by
  refine T.F_l_wholes.ok sc_l_wholes (fun vs H Q E h => ?_) (fun cdv Ar outer s H vs Q E hr h => ?_)
  · obtain ⟨p, zs, rfl, _⟩ := h
    rfl
  · obtain ⟨p, zs, rfl, hS, k⟩ := h
    refine ⟨_, (pss_cons (ps_if (pt_not (pt_val (pe_callB call_isi (by rfl) T.m_isinstance (by decide +kernel) (pa_cons (pv 0) (pa_cons (pe_bltn (v := .ty "list") (by rfl) T.m_list (by decide +kernel) rfl) pa_nil)))))
  (pss_one (ps_ret pe_bl))
  pss_nil)
  (pss_cons (ps_for PassesOwn.never rfl (pi_list (pv 0)) (pg_name (i := 1) sc_l_wholes.nd rfl (.inl rfl))
  (pss_one (ps_if (pt_not (pt_val (pe_call (ok_l_whole T) (hr.mono (by decide)) rfl T.g_l_whole T.F_l_whole.kp T.b_l_whole .nil pass0 (pa_cons (pv 1) pa_nil))))
  (pss_one (ps_ret pe_bl))
  pss_nil)))
  (pss_one (ps_ret pe_bl)))), ?_⟩
    refine q_when (b := false) (et_is (a := !true) (et_not (et_B (ev_cb (ea_cons (ev_var rfl) (ea_cons ev_c ea_nil)) (rc_isList hS)))) rfl) (fun hb => nomatch hb) (fun _ H1 e1 => ?_)
    refine q_forLn (ev_var rfl) (ex_l e1 hS) (fun i σ' H' => ∃ x, σ' = [some (.ref p), x] ∧ Ex H H') (fun H2 e2 => ⟨none, rfl, e1.trans e2⟩) (fun i σ' H' _ ⟨_, _, e⟩ => ex_l e hS) ?_ ?_
    · rintro i x σ' H' hi ⟨x', rfl, e⟩
      obtain ⟨c, rfl⟩ : ∃ c : Int, x = V.int c := by
        rw [List.getElem?_map] at hi
        obtain ⟨c, _, hc⟩ := Option.map_eq_some_iff.mp hi
        exact ⟨c, hc.symm⟩
      refine s_when (b := false) (et_is (a := !true) (et_not (et_B (ev_call (ea_cons (ev_var rfl) ea_nil) fun H3 e3 Q' q E' => ⟨_, rfl, q⟩))) rfl) (fun hb => nomatch hb) (fun _ H2 e2 => ⟨_, rfl, e.trans e2⟩)
    · rintro σ' H' ⟨x, rfl, e⟩
      exact s_ret (v := .bl true) ev_c fun H2 e2 => k H2 (e.trans e2)

def longest (ws : List Str) : Int := ws.foldl (fun (m : Int) z => max m (z.length : Int)) 0
def sp_longest (K : PySem.W.Frag) : Sp := fun vs H Q _ => ∃ (p : Addr) (ws : List Str), vs = [.ref p] ∧ SqL K H p (ws.map V.str) ∧ (∀ z ∈ ws, z.length ≤ 300) ∧ RetV (.int (longest ws)) H Q
theorem ok_l_longest (T : Txt K mg A) : FnOk P w K mg base CX0 1 A.f_l_longest A.d_l_longest ["_law_row"] (sp_longest K) := by
  refine T.F_l_longest.ok sc_l_longest (fun vs H Q E h => ?_) (fun cdv Ar outer s H vs Q E hr h => ?_)
  · obtain ⟨p, ws, rfl, _⟩ := h
    rfl
  · obtain ⟨p, ws, rfl, hS, hz, k⟩ := h
    refine ⟨_, (pss_cons (ps_set (i := 1) sc_l_longest.nd rfl (.inl rfl) pe_int)
  (pss_cons (ps_for PassesOwn.never rfl (pi_list (pv 0)) (pg_name (i := 2) sc_l_longest.nd rfl (.inl rfl))
  (pss_one (ps_set (i := 1) sc_l_longest.nd rfl (.inl rfl) (pe_callB (call_max2 rfl) (by rfl) T.m_max (by decide +kernel) (pa_cons (pv 1) (pa_cons (pe_callB call_len_str (by rfl) T.m_len PySem.boot_len (pa_cons (pv 2) pa_nil)) pa_nil))))))
  (pss_one (ps_ret (pv 1))))), ?_⟩
    refine q_asg (v := .int 0) ev_c fun H1 e1 => ?_
    refine q_forLn (ev_var rfl) (ex_l e1 hS) (fun i σ' H' => ∃ x, σ' = [some (.ref p), some (.int ((ws.take i).foldl (fun (m : Int) z => max m (z.length : Int)) 0)), x] ∧ Ex H H')
      (fun H2 e2 => ⟨none, rfl, e1.trans e2⟩) (fun i σ' H' _ ⟨_, _, e⟩ => ex_l e hS) ?_ ?_
    · rintro i x σ' H' hi ⟨x', rfl, e⟩
      obtain ⟨y, hy, rfl⟩ : ∃ y, ws[i]? = some y ∧ V.str y = x := by
        rw [List.getElem?_map] at hi
        exact Option.map_eq_some_iff.mp hi
      have hyl := hz y (List.mem_of_getElem? hy)
      have hn : (ws.take (i + 1)).foldl (fun (m : Int) z => max m (z.length : Int)) 0 = max ((ws.take i).foldl (fun (m : Int) z => max m (z.length : Int)) 0) (y.length : Int) := by
        rw [List.take_add_one, hy, List.foldl_append] <;> rfl
      refine s_asg (v := .int (max ((ws.take i).foldl (fun (m : Int) z => max m (z.length : Int)) 0) (y.length : Int))) (ev_maxx (ev_var rfl) (ev_cb (ea_cons (ev_var rfl) ea_nil) (rc_lenS (by omega)))) fun H2 e2 => ?_
      exact ⟨_, by rw [hn] <;> rfl, e.trans e2⟩
    · rintro σ' H' ⟨x, rfl, e⟩
      rw [List.length_map, List.take_length]
      exact s_ret (ev_var rfl) fun H2 e2 => k H2 (e.trans e2)

theorem longest_in (ws : List Str) (h : ∀ z ∈ ws, z.length ≤ 300) : 0 ≤ longest ws ∧ longest ws ≤ 300 := by
  have go : ∀ (l : List Str) (m : Int), (∀ z ∈ l, z.length ≤ 300) → 0 ≤ m → m ≤ 300 → 0 ≤ l.foldl (fun (m : Int) z => max m (z.length : Int)) m ∧ l.foldl (fun (m : Int) z => max m (z.length : Int)) m ≤ 300 := by
    intro l
    induction l with
    | nil => exact fun m _ h h2 => ⟨h, h2⟩
    | cons a r ih => exact fun m hz h h2 => ih (max m (a.length : Int)) (fun z hz' => hz z (List.mem_cons_of_mem _ hz')) (by omega) (by have := hz a (List.mem_cons_self ..); omega)
  exact go ws 0 h (by decide) (by decide)
theorem longest_ge (ws : List Str) : ∀ z ∈ ws, (z.length : Int) ≤ longest ws := by
  have go : ∀ (l : List Str) (m : Int), m ≤ l.foldl (fun (m : Int) z => max m (z.length : Int)) m ∧ ∀ z ∈ l, (z.length : Int) ≤ l.foldl (fun (m : Int) z => max m (z.length : Int)) m := by
    intro l
    induction l with
    | nil => exact fun m => ⟨Int.le_refl _, fun z h => absurd h (List.not_mem_nil)⟩
    | cons a r ih =>
      intro m
      obtain ⟨h1, h2⟩ := ih (max m (a.length : Int))
      rw [List.foldl_cons]
      refine ⟨by omega, fun z hz => ?_⟩
      rcases List.mem_cons.mp hz with q | q
      · rw [q]; omega
      · exact h2 z q
  exact (go ws 0).2
theorem longest_of (ws : List Str) {w : Int} (hw : 0 ≤ w) (h : w < longest ws) : ∃ z ∈ ws, w < (z.length : Int) := by
  have go : ∀ (l : List Str) (m : Int), m ≤ w → w < l.foldl (fun (m : Int) z => max m (z.length : Int)) m → ∃ z ∈ l, w < (z.length : Int) := by
    intro l
    induction l with
    | nil => exact fun m h1 h2 => absurd h2 (by show ¬ w < m; omega)
    | cons a r ih =>
      intro m h1 h2
      rw [List.foldl_cons] at h2
      by_cases q : w < (a.length : Int)
      · exact ⟨a, List.mem_cons_self .., q⟩
      · obtain ⟨z, hz, q2⟩ := ih (max m (a.length : Int)) (by omega) h2
        exact ⟨z, List.mem_cons_of_mem _ hz, q2⟩
  exact go ws 0 hw h

theorem ok_l_size (T : Txt K mg A) : FnOk P w K mg base CX0 1 A.f_l_size A.d_l_size ["_law_row", "_law_begin", "_law_end"] (sp_size K) := by
  refine T.F_l_size.ok sc_l_size (fun vs H Q E h => ?_) (fun cdv Ar outer s H vs Q E hr h => ?_)
  · obtain ⟨p, ws, b, e, rfl, _⟩ := h
    rfl
  · obtain ⟨p, ws, b, e, rfl, hS, hz, hl, h1, h2, k⟩ := h
    refine ⟨_, (pss_one (ps_ret (pe_callB call_len_str (by rfl) T.m_len PySem.boot_len (pa_cons (TwE.pe_joinE (K := K) rfl pe_str (pe_slice (TwE.slE (K := K) rfl) (pv 0) (po_some (pv 1)) (po_some (pv 2)))) pa_nil)))), ?_⟩
    have hs := sizeN_le hz hl b e
    refine s_ret (v := .int (sizeN ws b e)) (ev_cb (ea_cons (ev_joinL ev_blk (el_is (el_sl (ev_var rfl) (eo_some (ev_var rfl)) (eo_some (ev_var rfl)) hS) (cut_words h1 h2)) ?_) ea_nil) (rc_lenS ?_)) fun H1 e1 => k H1 e1
    · have := line_fits hz hl b e
      omega
    · have : (lineOf ws b e).length ≤ 1000000 := hs
      exact Nat.le_trans this (by decide)

/-- the widths of the laws: any, within some bounds -/
def sp_width_by (K : PySem.W.Frag) : Sp := fun vs H Q _ => ∃ (c : Int) (p : Addr) (ws : List Str), vs = [.int c, .ref p] ∧ SqL K H p (ws.map V.str) ∧ (∀ z ∈ ws, z.length ≤ 300) ∧ ∀ w : Int, -10000000000000000000000000000000000 ≤ w → w ≤ 10000000000000000000000000000000000 → RetV (.int w) H Q
theorem ten30 : (10 : Int) ^ (30 : Int).toNat = 1000000000000000000000000000000 := by decide
theorem ten9 : (10 : Int) ^ (9 : Int).toNat = 1000000000 := by decide

theorem ok_l_width_by (T : Txt K mg A) : FnOk P w K mg base CX0 2 A.f_l_width_by A.d_l_width_by ["_law_cell", "_law_row"] (sp_width_by K) := by
  refine T.F_l_width_by.ok sc_l_width_by (fun vs H Q E h => ?_) (fun cdv Ar outer s H vs Q E hr h => ?_)
  · obtain ⟨c, p, ws, rfl, _⟩ := h
    rfl
  · obtain ⟨c, p, ws, rfl, hS, hz, k⟩ := h
    refine ⟨_, (pss_cons (ps_if (pt_cmpR op_eq (pe_op op_mod (pe_op op_fdiv (pv 0) pe_int) pe_int) pe_int (nomark _))
  (pss_one (ps_ret (pe_op op_mul (pe_un un_neg (pe_op op_mod (pv 0) pe_int)) (pe_op op_add pe_int (pe_op op_mod (pe_op op_fdiv (pv 0) pe_int) (pe_op op_pow pe_int pe_int))))))
  pss_nil)
  (pss_cons (ps_if (pt_cmpR op_eq (pe_op op_mod (pe_op op_fdiv (pv 0) pe_int) pe_int) pe_int (nomark _))
  (pss_one (ps_ret (pe_op op_add pe_int (pe_op op_mod (pe_op op_fdiv (pv 0) pe_int) (pe_callB (call_max2 rfl) (by rfl) T.m_max (by decide +kernel) (pa_cons pe_int (pa_cons (pe_call (ok_l_longest T) (hr.mono (by decide)) rfl T.g_l_longest T.F_l_longest.kp T.b_l_longest .nil pass0 (pa_cons (pv 1) pa_nil)) pa_nil)))))))
  pss_nil)
  (pss_cons (ps_if (PW.pt (pw_and (pt_cmpR op_eq (pe_op op_mod (pe_op op_fdiv (pv 0) pe_int) pe_int) pe_int (nomark _)) (pw_and1 (pt_cmpR op_lt (pe_callB call_len_seq (by rfl) T.m_len PySem.boot_len (pa_cons (pv 1) pa_nil)) pe_int (nomark _)))))
  (pss_one (ps_ret (pe_op op_add (pe_callB (call_max2 rfl) (by rfl) T.m_max (by decide +kernel) (pa_cons pe_int (pa_cons (pe_call (ok_l_longest T) (hr.mono (by decide)) rfl T.g_l_longest T.F_l_longest.kp T.b_l_longest .nil pass0 (pa_cons (pv 1) pa_nil)) pa_nil))) (pe_ix (ixL (K := K) rfl) (pe_lst (pa_cons (pe_op op_mod (pe_op op_fdiv (pv 0) pe_int) pe_int) (pa_cons (pe_op op_pow pe_int pe_int) pa_nil))) (pe_op op_fdiv (pe_op op_mod (pv 0) pe_int) pe_int) (fun _ _ => rfl)))))
  pss_nil)
  (pss_cons (ps_set (i := 2) sc_l_width_by.nd rfl (.inl rfl) (pe_op op_sub (pe_op op_add pe_int (pe_op op_mul pe_int (pe_callTy call_int1 (by rfl) T.m_int (by decide +kernel) (pa_cons (pe_cmpR op_gt (pe_callB call_len_seq (by rfl) T.m_len PySem.boot_len (pa_cons (pv 1) pa_nil)) pe_int (nomark _)) pa_nil)))) (pe_op op_mul pe_int (pe_callTy call_int1 (by rfl) T.m_int (by decide +kernel) (pa_cons (pe_cmpR op_gt (pe_callB call_len_seq (by rfl) T.m_len PySem.boot_len (pa_cons (pv 1) pa_nil)) pe_int (nomark _)) pa_nil)))))
  (pss_one (ps_ret (pe_callB (call_max2 rfl) (by rfl) T.m_max (by decide +kernel) (pa_cons pe_int (pa_cons (pe_op op_sub (pe_op op_add (pe_call (ok_l_longest T) (hr.mono (by decide)) rfl T.g_l_longest T.F_l_longest.kp T.b_l_longest .nil pass0 (pa_cons (pv 1) pa_nil)) (pe_op op_mod (pv 0) (pv 2))) (pe_op op_mul pe_int (pe_callTy call_int1 (by rfl) T.m_int (by decide +kernel) (pa_cons (pe_cmpR op_eq (pe_op op_mod (pe_op op_fdiv (pv 0) pe_int) pe_int) pe_int (nomark _)) pa_nil)))) pa_nil))))))))), ?_⟩
    have hl := longest_in ws hz
    have nl : (ws.map V.str).length = ws.length := List.length_map ..
    have lo : ∀ {σ : L2.St} {H' : Hp}, Ex H H' → σ[1]? = some (some (.ref p)) → Ev (tCall (sp_longest K) [] E0 (tCons (tVar 1) tNil)) σ H' (.int (longest ws)) := fun e h => ev_call (ea_cons (ev_var h) ea_nil) fun H5 e5 Q' q E' => ⟨p, ws, rfl, ex_l (e.trans e5) hS, hz, q⟩
    have t9 : ∀ {σ : L2.St} {H' : Hp}, Ev (tOp (rI CPow fun i j => .int (i ^ j.toNat)) (tC (.int 10)) (tC (.int 9))) σ H' (.int 1000000000) := ev_is (ev_op ev_c ev_c (rv_I ⟨by decide, by decide, by decide⟩)) (by rw [ten9])
    have t30 : ∀ {σ : L2.St} {H' : Hp}, Ev (tOp (rI CPow fun i j => .int (i ^ j.toNat)) (tC (.int 10)) (tC (.int 30))) σ H' (.int 1000000000000000000000000000000) := ev_is (ev_op ev_c ev_c (rv_I ⟨by decide, by decide, by decide⟩)) (by rw [ten30])
    refine q_when (b := decide (V.int (c / 115 % 9) = V.int 1)) (by walk_at "et") (fun hb H1 e1 => ?_) (fun hb H1 e1 => ?_)
    · have hm : 0 ≤ c / 1035 % 1000000000 ∧ c / 1035 % 1000000000 < 1000000000 := by omega
      refine s_ret (ev_op (ev_un (by walk_at "ev") ru_neg) (ev_op ev_c (ev_op (by walk_at "ev") t9 (rv_I (by decide))) rv_I0) (rv_I (.inl ⟨by omega, by omega⟩))) fun H2 e2 => ?_
      have h3 : c % 3 = 0 ∨ c % 3 = 1 ∨ c % 3 = 2 := by omega
      rcases h3 with h3 | h3 | h3 <;> rw [h3] <;> exact k _ (by omega) (by omega) H2 (e1.trans e2)
    refine q_when (b := decide (V.int (c / 115 % 9) = V.int 3)) (by walk_at "et") (fun hb2 H2 e2 => ?_) (fun hb2 H2 e2 => ?_)
    · have hm1 : 1 ≤ max 1 (longest ws) := by omega
      have h0 : 0 ≤ c / 1035 % max 1 (longest ws) := Int.emod_nonneg _ (by omega)
      have h1 : c / 1035 % max 1 (longest ws) < max 1 (longest ws) := Int.emod_lt_of_pos _ (by omega)
      refine s_ret (ev_op ev_c (ev_op (by walk_at "ev") (ev_maxx ev_c (lo (e1.trans e2) rfl)) (rv_I (by omega))) rv_I0) fun H3 e3 => k _ (by omega) (by omega) H3 ((e1.trans e2).trans e3)
    have e12 := e1.trans e2
    refine q_when (b := decide (V.int (c / 115 % 9) = V.int 2) && decide (((ws.map V.str).length : Int) < 150)) (et_and (by walk_at "et") fun _ => et_test (ev_op (ev_cb (ea_cons (ev_var rfl) ea_nil) (rc_lenL (ex_l e12 hS))) ev_c rv_I0)) (fun hb3 H3 e3 => ?_) (fun hb3 H3 e3 => ?_)
    · have hj : c % 5 / 4 = 0 ∨ c % 5 / 4 = 1 := by omega
      have hat : atI [V.int (c / 1035 % 300), V.int 1000000000000000000000000000000] (c % 5 / 4) = some (.int (if c % 5 / 4 = 0 then c / 1035 % 300 else 1000000000000000000000000000000)) := by
        rcases hj with h | h <;> rw [h]
        · exact atI_nat (j := 0) rfl
        · exact atI_nat (j := 1) rfl
      refine s_ret (ev_op (ev_maxx ev_c (lo (e12.trans e3) rfl)) (ev_opL1 (xs := [V.int (c / 1035 % 300), V.int 1000000000000000000000000000000]) (y := .int (c % 5 / 4)) (el_lst (ea_cons (by walk_at "ev") (ea_cons t30 ea_nil)) (show 2 ≤ 100000 by decide)) (fun H5 e5 => by walk_at "ev") fun q H5 hq e5 => rv_ixL (sq_of hq) hat) rv_I0) fun H4 e4 => k _ ?_ ?_ H4 ((e12.trans e3).trans e4)
      · split <;> omega
      · split <;> omega
    have e13 := e12.trans e3
    refine q_asg (ev_op (ev_op ev_c (ev_op ev_c (ev_cb (ea_cons (ev_op (ev_cb (ea_cons (ev_var rfl) ea_nil) (rc_lenL (ex_l e13 hS))) ev_c rv_I0) ea_nil) rc_intB) (rv_I (.inl ⟨by decide, by decide⟩))) rv_I0) (ev_op ev_c (ev_cb (ea_cons (ev_op (ev_cb (ea_cons (ev_var rfl) ea_nil) (rc_lenL (ex_l e13 hS))) ev_c rv_I0) ea_nil) rc_intB) (rv_I (.inl ⟨by decide, by decide⟩))) rv_I0) fun H4 e4 => ?_
    obtain ⟨room, hroom, hr1, hr2⟩ : ∃ room : Int, 23 + 277 * (if decide ((149 : Int) < ((ws.map V.str).length : Nat)) = true then 1 else 0) - 270 * (if decide ((500 : Int) < ((ws.map V.str).length : Nat)) = true then 1 else 0) = room ∧ 1 ≤ room ∧ room ≤ 300 := by
      refine ⟨_, rfl, ?_, ?_⟩
      · by_cases h1 : (149 : Int) < ((ws.map V.str).length : Nat)
        · rw [if_pos (decide_eq_true h1)]
          split <;> omega
        · rw [if_neg (by rw [decide_eq_false h1]; decide), if_neg (by rw [decide_eq_false (by omega)]; decide)]
          omega
      · split <;> split <;> omega
    rw [hroom]
    have h0 : 0 ≤ c % room := Int.emod_nonneg _ (by omega)
    have h1 : c % room < room := Int.emod_lt_of_pos _ (by omega)
    refine s_ret (ev_maxx ev_c (ev_op (ev_op (lo (e13.trans e4) rfl) (ev_op (ev_var rfl) (ev_var rfl) (rv_I (by omega))) rv_I0) (ev_op ev_c (ev_cb (ea_cons (ev_op (by walk_at "ev") ev_c (rv_eq rfl)) ea_nil) rc_intB) (rv_I (.inl ⟨by decide, by decide⟩))) rv_I0)) fun H5 e5 => k _ ?_ ?_ H5 ((e13.trans e4).trans e5)
    · omega
    · split <;> omega

/-! ### textwrapper.measure: widths -/
def sp_check_width (A : Ad) : Sp := fun vs H Q E => ∃ w : Int, vs = [.int w] ∧ (w < 1 → ∀ H', Ex H H' → E (.ref A.c_NoWidth) none H') ∧ (1 ≤ w → RetV .non H Q)
theorem ok_check_width (T : Txt K mg A) : FnOk P w K mg base (L2N.CX P w) 1 A.f_check_width A.d_check_width ["width"] (sp_check_width A) := by
  refine Fun.okN T.F_check_width sc_check_width (fun vs H Q E h => ?_) (fun cdv Ar outer s H vs Q E hr h => ?_)
  · obtain ⟨i, rfl, _⟩ := h
    rfl
  · obtain ⟨i, rfl, h1, h2⟩ := h
    refine ⟨_, (pss_one (ps_if (pt_cmpR op_lt (pv 0) pe_int (nomark _))
  (pss_one (L2N.ps_raise rfl (L2N.takes_of rfl rfl rfl rfl) (L2N.pmk_own PySem.F.excBase_ValueError T.ex_NoWidth.x T.gc_NoWidth T.ex_NoWidth.k (raises_own T.ex_NoWidth.e.hs T.ex_NoWidth.t) rfl)))
  pss_nil)), ?_⟩
    refine s_when (b := decide (i < 1)) (by walk_at "et") (fun hb H1 e1 => ?_) (fun hb H1 e1 => ?_)
    · exact h1 (of_decide_eq_true hb) H1 e1
    · have := of_decide_eq_false hb
      exact h2 (by omega) H1 e1
def firstLong (ws : List Str) (w : Int) : Option Nat := ws.findIdx? fun z => decide (w < (z.length : Int))
def optV : Option Nat → V
  | none => .non
  | some k => .int (k : Int)
theorem fl_some {ws : List Str} {w : Int} {i : Nat} {y : Str} (h : ∀ z ∈ ws.take i, ¬ w < (z.length : Int)) (hy : ws[i]? = some y) (hl : w < (y.length : Int)) : firstLong ws w = some i := by
  unfold firstLong
  rw [List.findIdx?_eq_some_iff_getElem]
  obtain ⟨hi, e⟩ := List.getElem?_eq_some_iff.mp hy
  refine ⟨hi, by rw [e]; exact decide_eq_true hl, fun j hj => ?_⟩
  have hm : ws[j] ∈ ws.take i := by
    rw [List.mem_take_iff_getElem]
    exact ⟨j, by omega, rfl⟩
  simp only [decide_eq_true_eq]
  exact h _ hm
theorem fl_none {ws : List Str} {w : Int} (h : ∀ z ∈ ws, ¬ w < (z.length : Int)) : firstLong ws w = none := by
  unfold firstLong
  rw [List.findIdx?_eq_none_iff]
  exact fun z hz => decide_eq_false (h z hz)
def sp_long_word (K : PySem.W.Frag) (A : Ad) : Sp := fun vs H Q E => ∃ (p : Addr) (ws : List Str) (w : Int), vs = [.ref p, .int w] ∧ SqL K H p (ws.map V.str) ∧ (∀ z ∈ ws, z.length ≤ 300) ∧ (w < 1 → ∀ H', Ex H H' → E (.ref A.c_NoWidth) none H') ∧ (1 ≤ w → RetV (optV (firstLong ws w)) H Q)
theorem ok_long_word (T : Txt K mg A) : FnOk P w K mg base (L2N.CX P w) 2 A.f_long_word A.d_long_word ["words", "width"] (sp_long_word K A) := by
  refine Fun.okN T.F_long_word sc_long_word (fun vs H Q E h => ?_) (fun cdv Ar outer s H vs Q E hr h => ?_)
  · obtain ⟨p, ws, i, rfl, _⟩ := h
    rfl
  · obtain ⟨p, ws, wd, rfl, hS, hz, h1, h2⟩ := h
    refine ⟨_, (pss_cons (ps_expr (pe_call (ok_check_width T) (hr.mono (by decide)) rfl T.g_check_width T.F_check_width.kp T.b_check_width .nil (L2N.passes_call (L2N.takes_of rfl rfl rfl rfl) (fun _ _ _ _ h => h)) (pa_cons (pv 1) pa_nil)))
  (pss_cons (ps_for PassesOwn.leaving rfl (pi_enum (by rfl) T.m_enumerate (pa_cons (pv 0) pa_nil)) (pg_tup rfl (pgs_cons (pg_name (i := 2) sc_long_word.nd rfl (.inl rfl)) (pgs_cons (pg_name (i := 3) sc_long_word.nd rfl (.inl rfl)) pgs_nil)))
  (pss_one (ps_if (pt_cmpR op_gt (pe_callB call_len_str (by rfl) T.m_len PySem.boot_len (pa_cons (pv 3) pa_nil)) (pv 1) (nomark _))
  (pss_one (ps_ret (pv 2)))
  pss_nil)))
  (pss_one (ps_ret pe_non)))), ?_⟩
    refine q_dropA (ea_cons (ev_var rfl) ea_nil) fun H1 e1 => ⟨wd, rfl, fun hw H' e' => h1 hw H' (e1.trans e'), fun hw H2 e2 => ?_⟩
    have k := h2 hw
    refine q_forE (ea_cons (ev_var rfl) ea_nil) (ex_l (e1.trans e2) hS) (fun i σ' H' => ∃ x1 x2, σ' = [some (.ref p), some (.int wd), x1, x2] ∧ Ex H H' ∧ ∀ z ∈ ws.take i, ¬ wd < (z.length : Int))
      (fun H3 e3 => ⟨none, none, rfl, (e1.trans e2).trans e3, fun z hz' => absurd hz' (List.not_mem_nil)⟩) (fun i σ' H' _ ⟨_, _, _, e, _⟩ => ex_l e hS) ?_ ?_
    · rintro i x σ' H' H3 hi ⟨x1, x2, rfl, e, hn⟩ e3
      obtain ⟨y, hy, rfl⟩ : ∃ y, ws[i]? = some y ∧ V.str y = x := by
        rw [List.getElem?_map] at hi
        exact Option.map_eq_some_iff.mp hi
      have hyl := hz y (List.mem_of_getElem? hy)
      refine s_when (b := decide (wd < (y.length : Int))) (et_test (ev_op (ev_cb (ea_cons (ev_var rfl) ea_nil) (rc_lenS (by omega))) (ev_var rfl) rv_I0)) (fun hb H4 e4 => ?_) (fun hb H4 e4 => ?_)
      · rw [fl_some hn hy (of_decide_eq_true hb)] at k
        exact s_ret (ev_var rfl) fun H5 e5 => k H5 (((e.trans e3).trans e4).trans e5)
      · refine ⟨_, _, rfl, (e.trans e3).trans e4, fun z hz' => ?_⟩
        rw [List.take_add_one, hy] at hz'
        rcases List.mem_append.mp hz' with q | q
        · exact hn z q
        · rw [List.mem_singleton.mp q]
          exact of_decide_eq_false hb
    · rintro σ' H' ⟨x1, x2, rfl, e, hn⟩
      rw [List.length_map, List.take_length] at hn
      rw [fl_none hn] at k
      exact s_ret (v := .non) ev_c fun H5 e5 => k H5 (e.trans e5)

/-! ### check_words, quick_starts -/
def sp_check_words (K : PySem.W.Frag) (A : Ad) : Sp := fun vs H Q E => ∃ (p : Addr) (ws : List Str) (w : Int), vs = [.ref p, .int w] ∧ SqL K H p (ws.map V.str) ∧ (∀ z ∈ ws, z.length ≤ 300) ∧ (w < 1 → ∀ H', Ex H H' → E (.ref A.c_NoWidth) none H') ∧
  (1 ≤ w → (∃ z ∈ ws, w < (z.length : Int)) → ∀ H', Ex H H' → E (.ref A.c_LongWord) none H') ∧ (1 ≤ w → (∀ z ∈ ws, (z.length : Int) ≤ w) → RetV .non H Q)
theorem fl_has {ws : List Str} {w : Int} {i : Nat} (h : firstLong ws w = some i) : ∃ z ∈ ws, w < (z.length : Int) := by
  unfold firstLong at h
  rw [List.findIdx?_eq_some_iff_getElem] at h
  obtain ⟨hi, e, _⟩ := h
  exact ⟨ws[i], List.getElem_mem hi, of_decide_eq_true e⟩
theorem fl_hasnt {ws : List Str} {w : Int} (h : firstLong ws w = none) : ∀ z ∈ ws, (z.length : Int) ≤ w := fun z hz => by
  unfold firstLong at h
  rw [List.findIdx?_eq_none_iff] at h
  have q := of_decide_eq_false (h z hz)
  omega
theorem ok_check_words (T : Txt K mg A) : FnOk P w K mg base (L2N.CX P w) 3 A.f_check_words A.d_check_words ["words", "width"] (sp_check_words K A) := by
  refine Fun.okN T.F_check_words sc_check_words (fun vs H Q E h => ?_) (fun cdv Ar outer s H vs Q E hr h => ?_)
  · obtain ⟨p, ws, i, rfl, _⟩ := h
    rfl
  · obtain ⟨p, ws, wd, rfl, hS, hz, h1, h2, h3⟩ := h
    refine ⟨_, (pss_one (ps_if (pt_cmpR op_notN1 (pe_call (ok_long_word T) (hr.mono (by decide)) rfl T.g_long_word T.F_long_word.kp T.b_long_word .nil (L2N.passes_call (L2N.takes_of rfl rfl rfl rfl) (fun _ _ _ _ h => h)) (pa_cons (pv 0) (pa_cons (pv 1) pa_nil))) pe_non (nomark _))
  (pss_one (L2N.ps_raise rfl (L2N.takes_of rfl rfl rfl rfl) (L2N.pmk_own PySem.F.excBase_ValueError T.ex_LongWord.x T.gc_LongWord T.ex_LongWord.k (raises_own T.ex_LongWord.e.hs T.ex_LongWord.t) rfl)))
  pss_nil)), ?_⟩
    refine s_ifNotN (ea_cons (ev_var rfl) (ea_cons (ev_var rfl) ea_nil)) fun H1 e1 => ⟨p, ws, wd, rfl, ex_l e1 hS, hz, fun hw H' e' => h1 hw H' (e1.trans e'), fun hw H2 e2 => ?_⟩
    cases hf : firstLong ws wd with
    | none => exact ⟨rfl, false, rfl, h3 hw (fl_hasnt hf) H2 (e1.trans e2)⟩
    | some i => exact ⟨rfl, true, rfl, h2 hw (fl_has hf) H2 (e1.trans e2)⟩
def nats (S : List Nat) : List V := S.map fun (k : Nat) => V.int (k : Int)
theorem nats_len (S : List Nat) : (nats S).length = S.length := List.length_map ..
theorem nats_at {S : List Nat} {k s : Nat} (h : S[k]? = some s) : (nats S)[k]? = some (.int (s : Int)) := by
  unfold nats
  rw [List.getElem?_map, h] <;> rfl
theorem nats_snoc (S : List Nat) (i : Nat) : nats S ++ [.int (i : Int)] = nats (S ++ [i]) := by
  unfold nats
  rw [List.map_append] <;> rfl
def sp_quick (K : PySem.W.Frag) (A : Ad) : Sp := fun vs H Q E => ∃ (p : Addr) (ws : List Str) (w : Int), vs = [.ref p, .int w] ∧ SqL K H p (ws.map V.str) ∧ (∀ z ∈ ws, z.length ≤ 300) ∧ ws.length ≤ 2000 ∧ (w < 1 → ∀ H', Ex H H' → E (.ref A.c_NoWidth) none H') ∧
  (1 ≤ w → (∃ z ∈ ws, w < (z.length : Int)) → ∀ H', Ex H H' → E (.ref A.c_LongWord) none H') ∧ (1 ≤ w → (∀ z ∈ ws, (z.length : Int) ≤ w) → ∀ S, FitS ws w S → Full ws w S → RetL (nats S) H Q)
theorem ok_quick_starts (T : Txt K mg A) : FnOk P w K mg base (L2N.CX P w) 4 A.f_quick_starts A.d_quick_starts ["words", "width"] (sp_quick K A) := by
  refine Fun.okN T.F_quick_starts sc_quick_starts (fun vs H Q E h => ?_) (fun cdv Ar outer s H vs Q E hr h => ?_)
  · obtain ⟨p, ws, i, rfl, _⟩ := h
    rfl
  · obtain ⟨p, ws, wd, rfl, hS, hz, hl, h1, h2, h3⟩ := h
    refine ⟨_, (pss_cons (ps_expr (pe_call (ok_check_words T) (hr.mono (by decide)) rfl T.g_check_words T.F_check_words.kp T.b_check_words .nil (L2N.passes_call (L2N.takes_of rfl rfl rfl rfl) (fun _ _ _ _ h => h)) (pa_cons (pv 0) (pa_cons (pv 1) pa_nil))))
  (pss_cons (ps_set (i := 2) sc_quick_starts.nd rfl (.inl rfl) (pe_lst pa_nil))
  (pss_cons (ps_set (i := 3) sc_quick_starts.nd rfl (.inl rfl) pe_int)
  (pss_cons (ps_for PassesOwn.leaving rfl (pi_enum (by rfl) T.m_enumerate (pa_cons (pv 0) pa_nil)) (pg_tup rfl (pgs_cons (pg_name (i := 4) sc_quick_starts.nd rfl (.inl rfl)) (pgs_cons (pg_name (i := 5) sc_quick_starts.nd rfl (.inl rfl)) pgs_nil)))
  (pss_cons (ps_set (i := 6) sc_quick_starts.nd rfl (.inl rfl) (pe_op op_add (pe_op op_add (pv 3) pe_int) (pe_callB call_len_str (by rfl) T.m_len PySem.boot_len (pa_cons (pv 5) pa_nil))))
  (pss_one (ps_if (PW.pt (pw_or (pt_not (pt_truth (pv 2) (fun _ => rfl))) (pw_or1 (pt_cmpR op_gt (pv 6) (pv 1) (nomark _)))))
  (pss_cons (ps_expr (pe_bm PySem.F.plainAttrs_list PySem.F.slot_list_append PySem.F.type_list_append mt_append (pv 2) (pa_cons (pv 4) pa_nil)))
  (pss_one (ps_set (i := 3) sc_quick_starts.nd rfl (.inl rfl) (pe_callB call_len_str (by rfl) T.m_len PySem.boot_len (pa_cons (pv 5) pa_nil)))))
  (pss_one (ps_set (i := 3) sc_quick_starts.nd rfl (.inl rfl) (pv 6)))))))
  (pss_one (ps_ret (pv 2))))))), ?_⟩
    refine q_dropA (ea_cons (ev_var rfl) (ea_cons (ev_var rfl) ea_nil)) fun H1 e1 => ⟨p, ws, wd, rfl, ex_l e1 hS, hz, fun hw H' e' => h1 hw H' (e1.trans e'), fun hw hx H' e' => h2 hw hx H' (e1.trans e'), fun hw hx H2 e2 => ?_⟩
    have k := h3 hw hx
    refine q_asgL (xs := []) (el_lst ea_nil (Nat.zero_le _)) fun l H3 l0 e3 hl3 => ?_
    have l00 := fresh_back (e1.trans e2) l0
    refine q_asg (v := .int 0) ev_c fun H4 e4 => ?_
    have e14 := ((e1.trans e2).trans e3).trans e4
    refine q_forE (ea_cons (ev_var rfl) ea_nil) (ex_l e14 hS) (fun i σ' H' => ∃ S sz x1 x2 x3, σ' = [some (.ref p), some (.int wd), some (.ref l), some (.int sz), x1, x2, x3] ∧ Ex H H' ∧ H' l = some (.lst (nats S)) ∧ Part ws wd i S ∧ ∀ k (hk : k + 1 = S.length), sz = (sizeN ws S[k] i : Int))
      (fun H5 e5 => ⟨[], 0, none, none, none, rfl, e14.trans e5, e5 _ _ (e4 _ _ hl3), Part.zero0, fun k hk => absurd hk (by simp)⟩) (fun i σ' H' _ ⟨_, _, _, _, _, _, e, _⟩ => ex_l e hS) ?_ ?_
    · rintro i x σ' H' H5 hi ⟨S, sz, x1, x2, x3, rfl, e, hlS, hp, hsz⟩ e5
      obtain ⟨y, hy, rfl⟩ : ∃ y, ws[i]? = some y ∧ V.str y = x := by
        rw [List.getElem?_map] at hi
        exact Option.map_eq_some_iff.mp hi
      have hyl := hz y (List.mem_of_getElem? hy)
      have hyw := hx y (List.mem_of_getElem? hy)
      have hil := (List.getElem?_eq_some_iff.mp hy).1
      have hSl : S.length ≤ i := by
        have go : ∀ d k (h : k + 1 + d = S.length), S[k] + d < i := by
          intro d
          induction d with
          | zero => exact fun k h => (hp.last k h).1
          | succ d ih =>
            intro k h
            have a := (hp.next k (by omega)).1
            have b := ih (k + 1) (by omega)
            omega
        rcases Nat.eq_zero_or_pos S.length with h0 | h0
        · omega
        · have := go (S.length - 1) 0 (by omega)
          omega
      refine q_asg (v := .int (sz + 1 + (y.length : Int))) (ev_op (ev_op (ev_var rfl) ev_c rv_I0) (ev_cb (ea_cons (ev_var rfl) ea_nil) (rc_lenS (by omega))) rv_I0) fun H6 e6 => ?_
      have hl6 := e6 _ _ (e5 _ _ hlS)
      refine s_if (b := !(!(nats S).isEmpty) || decide (wd < sz + 1 + (y.length : Int))) (et_or (et_not (et_tru (ev_var rfl) (sq_of hl6))) fun _ => et_test (ev_op (ev_var rfl) (ev_var rfl) rv_I0)) (fun hb H7 e7 => ?_) (fun hb H7 e7 => ?_)
      · refine q_app (xs := nats S) (v := .int (i : Int)) (e7 _ _ hl6) (ev_var rfl) (ev_var rfl) (by rw [nats_len]; omega) fun H8 e8 => ?_
        refine s_asg (v := .int (y.length : Int)) (ev_cb (ea_cons (ev_var rfl) ea_nil) (rc_lenS (by omega))) fun H9 e9 => ?_
        refine ⟨S ++ [i], (y.length : Int), _, _, _, rfl, ?_, ?_, hp.new hy hyw fun k hk => ?_, fun k hk => ?_⟩
        · exact (Ex.mut ((((e.trans e5).trans e6).trans e7).trans e8) l00).trans e9
        · rw [← nats_snoc]
          exact e9 _ _ upd_same
        · have hne : (nats S).isEmpty = false := by
            cases S with
            | nil => simp at hk
            | cons a r => rfl
          rw [hne] at hb
          have q : wd < sz + 1 + (y.length : Int) := by simpa using hb
          have hs := hsz k hk
          have hlt := (hp.last k hk).1
          rw [size_succ hlt hy]
          omega
        · rw [List.length_append, List.length_singleton] at hk
          have h3 : k = S.length := by omega
          subst h3
          have e2 : (S ++ [i])[S.length]'(by rw [List.length_append, List.length_singleton]; omega) = i := by simp
          rw [e2, size_one hy]
      · have hne : S ≠ [] := fun q => by
          rw [q] at hb
          simp [nats] at hb
        have hb2 : ¬ wd < sz + 1 + (y.length : Int) := fun q => by
          rw [decide_eq_true q] at hb
          simp at hb
        refine s_asg (v := .int (sz + 1 + (y.length : Int))) (ev_var rfl) fun H8 e8 => ?_
        have hup : ∀ k (hk : k + 1 = S.length), sz + 1 + (y.length : Int) = (sizeN ws S[k] (i + 1) : Int) := fun k hk => by
          have hs := hsz k hk
          have hlt := (hp.last k hk).1
          rw [size_succ hlt hy]
          omega
        refine ⟨S, sz + 1 + (y.length : Int), _, _, _, rfl, ((((e.trans e5).trans e6).trans e7).trans e8), e8 _ _ (e7 _ _ hl6), hp.more hil hne fun k hk => ?_, hup⟩
        rw [← hup k hk]
        omega
    · rintro σ' H' ⟨S, sz, x1, x2, x3, rfl, e, hlS, hp, hsz⟩
      rw [List.length_map] at hp
      obtain ⟨f1, f2⟩ := hp.fit
      exact s_ret (v := .ref l) (ev_var rfl) fun H5 e5 => k S f1 f2 l H5 l00 (e.trans e5) (e5 _ _ hlS)

/-! ### textwrapper.measure, textwrapper.least: the table -/
theorem s_retP {ta : TA} {sp : Sp} {dvs : List V} {E : XK} {P : List V → Hp → Prop} {σ : L2.St} {H : Hp} {D : Ends} (h : ArgP ta σ H P) (k : ∀ vs H1, Ex H H1 → P vs H1 → sp (vs ++ dvs) H1 (fun v H2 => D.rt v H2) E) : tRet (tCall sp dvs E ta) D σ H := h H (Ex.refl H) _ k
theorem el_repZ {ta tb : TE} {σ : L2.St} {H : Hp} {n : Nat} (h : EvL ta σ H [.int 0]) (hb : Ev tb σ H (.int ((n : Int) + 1))) (hn : n ≤ 2000) : EvL (tOp rRep ta tb) σ H ((tabZ (fun _ => 0) n n).map V.int) := fun H1 e Q q =>
  h H1 e _ fun p H2 _ e2 hp => hb H2 (e.trans e2) _ fun H3 e3 => ⟨p, _, _, rfl, rfl, e3 _ _ hp, by omega, by omega, sz_of (by show 1 * _ ≤ _; omega), fun r hr => by
    rw [tabZ_start n]
    exact q r _ (fresh_back (e2.trans e3) hr) ((e2.trans e3).trans (Ex.new hr)) upd_same⟩
def sp_sizes_from (K : PySem.W.Frag) : Sp := fun vs H Q _ => ∃ (p : Addr) (ws : List Str) (w : Int) (b : Nat), vs = [.ref p, .int w, .int b] ∧ SqL K H p (ws.map V.str) ∧ (∀ z ∈ ws, z.length ≤ 300) ∧ ws.length ≤ 2000 ∧ b ≤ ws.length ∧ ∀ m, IsCnt ws w b m → RetL ((sizesL ws b m).map V.int) H Q
theorem sizesL_succ (ws : List Str) (b i : Nat) : (sizesL ws b i).map V.int ++ [V.int (sizeN ws b (b + 1 + i) : Int)] = (sizesL ws b (i + 1)).map V.int := by
  unfold sizesL
  rw [List.range_succ, List.map_append, List.map_append] <;> rfl
theorem sizesL_len (ws : List Str) (b i : Nat) : (sizesL ws b i).length = i := by
  unfold sizesL
  rw [List.length_map, List.length_range]
def szA (ws : List Str) (b i : Nat) : Int := if i = 0 then -1 else (sizeN ws b (b + i) : Int)
theorem szA_succ {ws : List Str} {b i : Nat} {z : Str} (h : ws[b + i]? = some z) : szA ws b i + 1 + (z.length : Int) = (sizeN ws b (b + 1 + i) : Int) := by
  unfold szA
  by_cases q : i = 0
  · subst q
    rw [if_pos rfl, show b + 1 + 0 = b + 0 + 1 by omega]
    have h' := size_one h
    rw [show b + 0 = b by omega] at *
    omega
  · rw [if_neg q, show b + 1 + i = b + i + 1 by omega, size_succ (show b < b + i by omega) h]
    omega
theorem ok_sizes_from (T : Txt K mg A) : FnOk P w K mg base CX0 1 A.f_sizes_from A.d_sizes_from ["words", "width", "begin"] (sp_sizes_from K) := by
  refine T.F_sizes_from.ok sc_sizes_from (fun vs H Q E h => ?_) (fun cdv Ar outer s H vs Q E hr h => ?_)
  · obtain ⟨p, ws, wd, b, rfl, _⟩ := h
    rfl
  · obtain ⟨p, ws, wd, b, rfl, hS, hz, hl, hb, k⟩ := h
    refine ⟨_, (pss_cons (ps_set (i := 3) sc_sizes_from.nd rfl (.inl rfl) (pe_lst pa_nil))
  (pss_cons (ps_set (i := 4) sc_sizes_from.nd rfl (.inl rfl) (pe_un un_neg pe_int))
  (pss_cons (ps_for PassesOwn.never rfl (pi_range2 (by rfl) T.m_range (pa_cons (pv 2) (pa_cons (pe_callB call_len_seq (by rfl) T.m_len PySem.boot_len (pa_cons (pv 0) pa_nil)) pa_nil))) (pg_name (i := 5) sc_sizes_from.nd rfl (.inl rfl))
  (pss_cons (ps_set (i := 4) sc_sizes_from.nd rfl (.inl rfl) (pe_op op_add (pe_op op_add (pv 4) pe_int) (pe_callB call_len_str (by rfl) T.m_len PySem.boot_len (pa_cons (pe_ix (ixL (K := K) rfl) (pv 0) (pv 5) (fun _ _ => rfl)) pa_nil))))
  (pss_cons (ps_if (pt_cmpR op_gt (pv 4) (pv 1) (nomark _))
  (pss_one (ps_ret (pv 3)))
  pss_nil)
  (pss_one (ps_expr (pe_bm PySem.F.plainAttrs_list PySem.F.slot_list_append PySem.F.type_list_append mt_append (pv 3) (pa_cons (pv 4) pa_nil)))))))
  (pss_one (ps_ret (pv 3)))))), ?_⟩
    have nl : (ws.map V.str).length = ws.length := List.length_map ..
    refine q_asgL (xs := []) (el_lst ea_nil (Nat.zero_le _)) fun l H1 l0 e1 hl1 => ?_
    refine q_asg (v := .int (-1)) (ev_un ev_c ru_neg) fun H2 e2 => ?_
    have e12 := e1.trans e2
    refine q_forR2 (lo := b) (n := (ws.map V.str).length) (ea_cons (ev_var rfl) (ea_cons (ev_cb (ea_cons (ev_var rfl) ea_nil) (rc_lenL (ex_l e12 hS))) ea_nil)) ⟨by omega, by omega, by omega, by omega⟩
      (fun i σ' H' => ∃ x, σ' = [some (.ref p), some (.int wd), some (.int b), some (.ref l), some (.int (szA ws b i)), x] ∧ Ex H H' ∧ H' l = some (.lst ((sizesL ws b i).map V.int)) ∧ ∀ j, j < i → (sizeN ws b (b + 1 + j) : Int) ≤ wd)
      (fun H3 e3 => ⟨none, rfl, e12.trans e3, e3 _ _ (e2 _ _ hl1), fun j hj => absurd hj (Nat.not_lt_zero _)⟩) ?_ ?_
    · rintro i σ' H' hi ⟨x, rfl, e, hlS, hf⟩
      have hbi : b + i < ws.length := by omega
      have hy : ws[b + i]? = some ws[b + i] := List.getElem?_eq_getElem hbi
      have hyl := hz ws[b + i] (List.getElem_mem hbi)
      have g : (ws.map V.str)[b + i]? = some (.str ws[b + i]) := by
        rw [List.getElem?_map, hy] <;> rfl
      refine q_asg (v := .int (sizeN ws b (b + 1 + i) : Int)) (ev_is (ev_op (ev_op (ev_var rfl) ev_c rv_I0) (ev_cb (ea_cons (ev_op (ev_var rfl) (ev_var rfl) (rv_ixL (ex_l e hS) (by rw [show (b : Int) + (i : Int) = ((b + i : Nat) : Int) by omega]; exact atI_nat g))) ea_nil) (rc_lenS (by omega))) rv_I0) (by rw [szA_succ hy])) fun H3 e3 => ?_
      refine q_when (b := decide (wd < (sizeN ws b (b + 1 + i) : Int))) (et_test (ev_op (ev_var rfl) (ev_var rfl) rv_I0)) (fun hb2 H4 e4 => ?_) (fun hb2 H4 e4 => ?_)
      · have e34 := (e.trans e3).trans e4
        exact s_ret (v := .ref l) (ev_var rfl) fun H5 e5 => k i ⟨by omega, hf, fun _ => by have := of_decide_eq_true hb2; rw [show b + i + 1 = b + 1 + i by omega]; exact this⟩ l H5 l0 (e34.trans e5) (e5 _ _ (e4 _ _ (e3 _ _ hlS)))
      · have hle : (sizeN ws b (b + 1 + i) : Int) ≤ wd := by
          have := of_decide_eq_false hb2
          omega
        refine s_app (e4 _ _ (e3 _ _ hlS)) (ev_var rfl) (ev_var rfl) (by rw [List.length_map, sizesL_len]; omega) fun H5 e5 => ?_
        refine ⟨some (.int ((b : Int) + (i : Int))), ?_, Ex.mut (((e.trans e3).trans e4).trans e5) l0, ?_, fun j hj => ?_⟩
        · rw [show szA ws b (i + 1) = (sizeN ws b (b + 1 + i) : Int) by unfold szA; rw [if_neg (by omega), show b + (i + 1) = b + 1 + i by omega]] <;> rfl
        · rw [sizesL_succ]
          exact upd_same
        · rcases Nat.lt_or_ge j i with q | q
          · exact hf j q
          · rw [show j = i by omega]
            exact hle
    · rintro σ' H' ⟨x, rfl, e, hlS, hf⟩
      rw [show (((ws.map V.str).length : Int) - (b : Int)).toNat = ws.length - b by omega] at hlS hf
      exact s_ret (v := .ref l) (ev_var rfl) fun H5 e5 => k (ws.length - b) ⟨by omega, hf, fun q => by omega⟩ l H5 l0 (e.trans e5) (e5 _ _ hlS)
def sp_squares (K : PySem.W.Frag) : Sp := fun vs H Q _ => ∃ (q : Addr) (zs : List Int) (w : Int), vs = [.int w, .ref q] ∧ SqL K H q (zs.map V.int) ∧ (∀ z ∈ zs, z.natAbs ≤ 1000000) ∧ zs.length ≤ 2000 ∧ WidB w ∧ RetL ((zs.map fun z => (w - z) ^ (2 : Int).toNat).map V.int) H Q
theorem ok_squares_of (T : Txt K mg A) : FnOk P w K mg base CX0 1 A.f_squares_of A.d_squares_of ["width", "sizes"] (sp_squares K) := by
  refine T.F_squares_of.ok sc_squares_of (fun vs H Q E h => ?_) (fun cdv Ar outer s H vs Q E hr h => ?_)
  · obtain ⟨q, zs, wd, rfl, _⟩ := h
    rfl
  · obtain ⟨q, zs, wd, rfl, hS, hz, hl, hw, k⟩ := h
    refine ⟨_, (pss_one (ps_ret (pe_lc (own := [("size", 2)]) (tt := tYes) rfl sc_squares_of.nd (pi_list (pv 1)) (blkOk_by (N := N_squares_of) (sc := defScope s_squares_of) (by decide +kernel)) (fun _ _ _ _ _ => (pg_name (i := 2) sc_squares_of.nd rfl (.inl rfl))) (fun _ _ _ _ _ => pts_nil) (fun _ _ _ _ _ => (pe_op TwE.op_powE (pe_op op_sub (pv 0) (pv 2)) pe_int))))), ?_⟩
    have nz : (zs.map V.int).length = zs.length := List.length_map ..
    have el : (List.range (zs.map V.int).length).map (fun i => V.int ((wd - zs.getD i 0) ^ (2 : Int).toNat)) = (zs.map fun z => (wd - z) ^ (2 : Int).toNat).map V.int := by
      rw [nz, List.map_map]
      refine List.ext_getElem? fun j => ?_
      rw [List.getElem?_map, List.getElem?_map]
      by_cases hj : j < zs.length
      · rw [List.getElem?_range hj, List.getElem?_eq_getElem hj]
        show some (V.int ((wd - zs.getD j 0) ^ (2 : Int).toNat)) = _
        rw [List.getD_eq_getElem?_getD, List.getElem?_eq_getElem hj] <;> rfl
      · rw [List.getElem?_eq_none (by rw [List.length_range]; omega), List.getElem?_eq_none (by omega)] <;> rfl
    refine s_retL (xs := (zs.map fun z => (wd - z) ^ (2 : Int).toNat).map V.int) (el_is (el_lcX (fun i => V.int ((wd - zs.getD i 0) ^ (2 : Int).toNat)) (ev_var rfl) hS (by omega) (fun _ => rfl) fun i x H1 e1 hi => ?_) el) fun l H1 l0 e1 h1 => k l H1 l0 e1 h1
    rw [List.getElem?_map] at hi
    obtain ⟨z, hzi, rfl⟩ := Option.map_eq_some_iff.mp hi
    have ez : zs.getD i 0 = z := by
      rw [List.getD_eq_getElem?_getD, hzi] <;> rfl
    rw [ez]
    have hzb := hz z (List.mem_of_getElem? hzi)
    have hb2 : (wd - z).natAbs < 2 ^ 121 := by
      unfold WidB at hw
      omega
    have hbits := PyProof.Rows.intBits_le hb2
    exact ev_op (ev_op (ev_var rfl) (ev_var rfl) rv_I0) ev_c (rv_I ⟨by decide, by omega⟩)
def optI : Option Int → V
  | none => .non
  | some x => .int x
def pairV : Option (Int × Nat) → List V
  | none => [.non, .non]
  | some (l, e) => [.int l, .int (e : Int)]
def lstV : Option (Int × Nat) → V
  | none => .non
  | some (l, _) => .int l
def endV : Option (Int × Nat) → V
  | none => .non
  | some (_, e) => .int (e : Int)
def sp_best_line (K : PySem.W.Frag) : Sp := fun vs H Q _ => ∃ (c r : Addr) (cs : List Int) (rs : List (Option Int)) (b : Nat), vs = [.ref c, .int b, .ref r] ∧ SqL K H c (cs.map V.int) ∧ SqL K H r (rs.map optI) ∧ cs.length ≤ 2000 ∧ b + cs.length < rs.length ∧ rs.length ≤ 3000 ∧
  TwE.RetU (pairV (bestN (fun i => cs.getD i 0) (fun e => rs.getD e none) b cs.length)) H Q
theorem ok_best_line (T : Txt K mg A) : FnOk P w K mg base CX0 1 A.f_best_line A.d_best_line ["counts", "begin", "rest"] (sp_best_line K) := by
  refine T.F_best_line.ok sc_best_line (fun vs H Q E h => ?_) (fun cdv Ar outer s H vs Q E hr h => ?_)
  · obtain ⟨c, r, cs, rs, b, rfl, _⟩ := h
    rfl
  · obtain ⟨c, r, cs, rs, b, rfl, hc, hR, hcl, hbr, hrl, k⟩ := h
    refine ⟨_, (pss_cons (ps_set (i := 3) sc_best_line.nd rfl (.inl rfl) pe_non)
  (pss_cons (ps_set (i := 4) sc_best_line.nd rfl (.inl rfl) pe_non)
  (pss_cons (ps_for PassesOwn.never rfl (TwE.pi_enumC (by rfl) T.m_enumerate (pa_cons (pv 0) pa_nil) (pk_cons (pe_op op_add (pv 1) pe_int) pk_nil)) (pg_tup rfl (pgs_cons (pg_name (i := 5) sc_best_line.nd rfl (.inl rfl)) (pgs_cons (pg_name (i := 6) sc_best_line.nd rfl (.inl rfl)) pgs_nil)))
  (pss_cons (ps_if (pt_cmpR op_isN1 (pe_ix (ixL (K := K) rfl) (pv 2) (pv 5) (fun _ _ => rfl)) pe_non (nomark _))
  (pss_one ps_continue)
  pss_nil)
  (pss_cons (ps_set (i := 7) sc_best_line.nd rfl (.inl rfl) (pe_op op_add (pv 6) (pe_ix (ixL (K := K) rfl) (pv 2) (pv 5) (fun _ _ => rfl))))
  (pss_one (ps_if (PW.pt (pw_or (pt_cmpR op_isN1 (pv 3) pe_non (nomark _)) (pw_or1 (pt_cmpR op_le (pv 7) (pv 3) (nomark _)))))
  (pss_cons (ps_set (i := 3) sc_best_line.nd rfl (.inl rfl) (pv 7))
  (pss_one (ps_set (i := 4) sc_best_line.nd rfl (.inl rfl) (pv 5))))
  pss_nil)))))
  (pss_one (ps_ret (pe_tup (pa_cons (pv 3) (pa_cons (pv 4) pa_nil)))))))), ?_⟩
    have nc : (cs.map V.int).length = cs.length := List.length_map ..
    refine q_asg (v := .non) ev_c fun H1 e1 => ?_
    refine q_asg (v := .non) ev_c fun H2 e2 => ?_
    have e12 := e1.trans e2
    refine TwE.q_forC (c := (b : Int) + 1) (ea_cons (ev_var rfl) ea_nil) (ea_cons (ev_op (ev_var rfl) ev_c rv_I0) ea_nil) (by omega) (by omega) (ex_l e12 hc)
      (fun i σ' H' => ∃ x5 x6 x7, σ' = [some (.ref c), some (.int b), some (.ref r), some (lstV (bestN (fun i => cs.getD i 0) (fun e => rs.getD e none) b i)), some (endV (bestN (fun i => cs.getD i 0) (fun e => rs.getD e none) b i)), x5, x6, x7] ∧ Ex H H')
      (fun H3 e3 => ⟨none, none, none, rfl, e12.trans e3⟩) (fun i σ' H' _ ⟨_, _, _, _, e⟩ => ex_l e hc) ?_ ?_
    · rintro i x σ' H' H3 hi ⟨x5, x6, x7, rfl, e⟩ e3
      have hil : i < cs.length := by
        have := (List.getElem?_eq_some_iff.mp hi).1
        omega
      have hx : x = .int (cs.getD i 0) := by
        rw [List.getElem?_map, List.getElem?_eq_getElem hil] at hi
        rw [List.getD_eq_getElem?_getD, List.getElem?_eq_getElem hil]
        exact (Option.some.inj hi).symm
      subst hx
      have hri : b + 1 + i < rs.length := by omega
      have g : (rs.map optI)[b + 1 + i]? = some (optI (rs.getD (b + 1 + i) none)) := by
        rw [List.getElem?_map, List.getElem?_eq_getElem hri, List.getD_eq_getElem?_getD, List.getElem?_eq_getElem hri] <;> rfl
      have ei : (b : Int) + 1 + (i : Int) = ((b + 1 + i : Nat) : Int) := by omega
      have rd : ∀ {σ : L2.St} {H' : Hp}, Ex H H' → σ[2]? = some (some (.ref r)) → σ[5]? = some (some (.int ((b : Int) + 1 + (i : Int)))) → Ev (tOp (rIxL K) (tVar 2) (tVar 5)) σ H' (optI (rs.getD (b + 1 + i) none)) := fun e h2 h5 => ev_op (ev_var h2) (ev_var h5) (rv_ixL (ex_l e hR) (by rw [ei]; exact atI_nat g))
      have e03 := e.trans e3
      have hs : bestN (fun i => cs.getD i 0) (fun e => rs.getD e none) b (i + 1) = match rs.getD (b + 1 + i) none with
        | none => bestN (fun i => cs.getD i 0) (fun e => rs.getD e none) b i
        | some t => match bestN (fun i => cs.getD i 0) (fun e => rs.getD e none) b i with
          | none => some (cs.getD i 0 + t, b + 1 + i)
          | some (l, e) => if cs.getD i 0 + t ≤ l then some (cs.getD i 0 + t, b + 1 + i) else some (l, e) := rfl
      rw [hs]
      revert rd
      generalize bestN (fun i => cs.getD i 0) (fun e => rs.getD e none) b i = st
      cases rs.getD (b + 1 + i) none with
      | none =>
        intro rd
        exact q_when (b := true) (et_is (et_test (ev_op (rd e03 rfl rfl) ev_c rv_isN)) rfl) (fun _ H4 e4 => ⟨_, _, _, rfl, e03.trans e4⟩) (fun hb => nomatch hb)
      | some t =>
        intro rd
        refine q_when (b := false) (et_is (et_test (ev_op (rd e03 rfl rfl) ev_c rv_isN)) rfl) (fun hb => nomatch hb) (fun _ H4 e4 => ?_)
        refine q_asg (v := .int (cs.getD i 0 + t)) (ev_op (ev_var rfl) (rd (e03.trans e4) rfl rfl) rv_I0) fun H5 e5 => ?_
        have e05 := (e03.trans e4).trans e5
        cases st with
        | none =>
          refine s_when (b := true) (et_is (et_or (a := true) (b := true) (et_is (et_test (ev_op (ev_var rfl) ev_c rv_isN)) rfl) fun q => nomatch q) rfl) (fun _ H6 e6 => ?_) (fun hb => nomatch hb)
          refine q_asg (ev_var rfl) fun H7 e7 => ?_
          refine s_asg (ev_var rfl) fun H8 e8 => ⟨some (.int ((b : Int) + 1 + (i : Int))), some (.int (cs.getD i 0)), some (.int (cs.getD i 0 + t)), ?_, ((e05.trans e6).trans e7).trans e8⟩
          show _ = [_, _, _, some (V.int (cs.getD i 0 + t)), some (V.int ((b + 1 + i : Nat) : Int)), _, _, _]
          rw [← ei]
          rfl
        | some pr =>
          obtain ⟨l, en⟩ := pr
          refine s_when (b := decide (cs.getD i 0 + t ≤ l)) (et_is (et_or (a := false) (et_is (et_test (ev_op (ev_var rfl) ev_c rv_isN)) rfl) fun _ => et_test (ev_op (ev_var rfl) (ev_var rfl) rv_I0)) (Bool.false_or _)) (fun hb H6 e6 => ?_) (fun hb H6 e6 => ?_)
          · have hle := of_decide_eq_true hb
            refine q_asg (ev_var rfl) fun H7 e7 => ?_
            refine s_asg (ev_var rfl) fun H8 e8 => ⟨some (.int ((b : Int) + 1 + (i : Int))), some (.int (cs.getD i 0)), some (.int (cs.getD i 0 + t)), ?_, ((e05.trans e6).trans e7).trans e8⟩
            show _ = [_, _, _, some (lstV (if cs.getD i 0 + t ≤ l then some (cs.getD i 0 + t, b + 1 + i) else some (l, en))), some (endV (if cs.getD i 0 + t ≤ l then some (cs.getD i 0 + t, b + 1 + i) else some (l, en))), _, _, _]
            rw [if_pos hle]
            show _ = [_, _, _, some (V.int (cs.getD i 0 + t)), some (V.int ((b + 1 + i : Nat) : Int)), _, _, _]
            rw [← ei]
            rfl
          · have hle := of_decide_eq_false hb
            refine ⟨some (.int ((b : Int) + 1 + (i : Int))), some (.int (cs.getD i 0)), some (.int (cs.getD i 0 + t)), ?_, e05.trans e6⟩
            show _ = [_, _, _, some (lstV (if cs.getD i 0 + t ≤ l then some (cs.getD i 0 + t, b + 1 + i) else some (l, en))), some (endV (if cs.getD i 0 + t ≤ l then some (cs.getD i 0 + t, b + 1 + i) else some (l, en))), _, _, _]
            rw [if_neg hle]
            rfl
    · rintro σ' H' ⟨x5, x6, x7, rfl, e⟩
      rw [nc]
      generalize hst : bestN (fun i => cs.getD i 0) (fun e => rs.getD e none) b cs.length = st at k
      refine s_retU (xs := pairV st) ?_ fun p H5 p0 e5 h5 => k p H5 (fresh_back e p0) (e.trans e5) h5
      have hp : pairV st = [lstV st, endV st] := by
        cases st with
        | none => rfl
        | some pr => rfl
      rw [hp]
      exact eu_tup (ea_cons (ev_var rfl) (ea_cons (ev_var rfl) ea_nil)) (show 2 ≤ 100000 by decide)

theorem bestN_congr {c c' : Nat → Int} {r r' : Nat → Option Int} {b : Nat} : ∀ {i : Nat}, (∀ j, j < i → c j = c' j ∧ r (b + 1 + j) = r' (b + 1 + j)) → bestN c r b i = bestN c' r' b i
  | 0, _ => rfl
  | i + 1, h => by
    have ih := bestN_congr (i := i) fun j hj => h j (by omega)
    obtain ⟨h1, h2⟩ := h i (Nat.lt_succ_self i)
    unfold bestN
    rw [ih, h1, h2]
theorem squaresL (ws : List Str) (w : Int) (b m : Nat) : (sizesL ws b m).map (fun z => (w - z) ^ (2 : Int).toNat) = countsL ws w b m := by
  unfold sizesL countsL
  rw [List.map_map] <;> rfl
theorem countsL_at {ws : List Str} {w : Int} {b m j : Nat} (h : j < m) : (countsL ws w b m).getD j 0 = (w - (sizeN ws b (b + 1 + j) : Int)) ^ (2 : Int).toNat := by
  unfold countsL
  rw [List.getD_eq_getElem?_getD, List.getElem?_map, List.getElem?_range h] <;> rfl
theorem countsL_len (ws : List Str) (w : Int) (b m : Nat) : (countsL ws w b m).length = m := by
  unfold countsL
  rw [List.length_map, List.length_range]
theorem sizesL_in {ws : List Str} (hz : ∀ z ∈ ws, z.length ≤ 300) (hl : ws.length ≤ 2000) (b m : Nat) : ∀ z ∈ sizesL ws b m, z.natAbs ≤ 1000000 := fun z h => by
  obtain ⟨i, _, rfl⟩ := List.mem_map.mp h
  have := sizeN_le hz hl b (b + 1 + i)
  omega
theorem one_fits {ws : List Str} {w : Int} (h : ∀ z ∈ ws, (z.length : Int) ≤ w) {b : Nat} (hb : b < ws.length) : (sizeN ws b (b + 1) : Int) ≤ w := by
  rw [size_one (List.getElem?_eq_getElem hb)]
  exact h _ (List.getElem_mem hb)

/-! ### textwrapper.counted -/
def RowsV (H : Hp) (l : Addr) (n : Nat) (v : Nat → List V) : Prop := ∃ ts : List Addr, H l = some (.lst (ts.map V.ref)) ∧ ts.length = n ∧ ∀ (j : Nat) (t : Addr), ts[j]? = some t → H t = some (.lst (v j))
theorem RowsV.ex {H H' : Hp} {l : Addr} {n : Nat} {v : Nat → List V} (h : RowsV H l n v) (e : Ex H H') : RowsV H' l n v := by
  obtain ⟨ts, h1, h2, h3⟩ := h
  exact ⟨ts, e _ _ h1, h2, fun j t a => e _ _ (h3 j t a)⟩
theorem RowsV.at {H : Hp} {l : Addr} {n : Nat} {v : Nat → List V} (h : RowsV H l n v) {j : Nat} (hj : j < n) : ∃ (ts : List Addr) (t : Addr), H l = some (.lst (ts.map V.ref)) ∧ ts[j]? = some t ∧ (ts.map V.ref)[j]? = some (V.ref t) ∧ H t = some (.lst (v j)) := by
  obtain ⟨ts, h1, h2, h3⟩ := h
  have g : ts[j]? = some (ts[j]'(by omega)) := List.getElem?_eq_getElem (by omega)
  exact ⟨ts, _, h1, g, by rw [List.getElem?_map, g] <;> rfl, h3 j _ g⟩
theorem yes_if {σ : L2.St} {H : Hp} {G F : Hp → Prop} (h : G H) : tYes σ H fun b H3 => if b = true then G H3 else F H3 := by
  show (if (true : Bool) = true then G H else F H)
  rw [if_pos rfl]
  exact h
def CwV (H : Hp) (v : Nat → List V) (Dl : Addr) (i : Nat) (H' : Hp) : Prop := H Dl = none ∧ Ex H H' ∧ ∃ ls : List Addr, H' Dl = some (.lst (ls.map V.ref)) ∧ ls.length = i ∧ ∀ (j : Nat) (t : Addr), ls[j]? = some t → t ≠ Dl ∧ H' t = some (.lst (v j))
theorem cwv_turn {H H' : Hp} {v : Nat → List V} {Dl : Addr} {i : Nat} {σ2 : L2.St} {te : TE} (p : CwV H v Dl i H') (hi : i < 90000) (he : EvL te σ2 H (v i)) :
    tYes σ2 H' fun b H3 => if b = true then te σ2 H3 fun y H4 => ∃ acc, H4 Dl = some (.lst acc) ∧ acc.length < sizeLine ∧ CwV H v Dl (i + 1) (upd H4 Dl (.lst (acc ++ [y]))) else CwV H v Dl (i + 1) H3 := by
  obtain ⟨h0, e, ls, hls, hln, hin⟩ := p
  refine yes_if (he H' e _ fun q H4 hq e4 h4 => ⟨ls.map V.ref, e4 _ _ hls, sz_lt (by rw [List.length_map]; omega), h0, Ex.mut (e.trans e4) h0, ls ++ [q], ?_, by rw [List.length_append, hln] <;> rfl, fun j t g => ?_⟩)
  · rw [List.map_append]
    exact upd_same
  · have hne : q ≠ Dl := fun z => by
      rw [z, hls] at hq
      cases hq
    rcases Nat.lt_or_ge j ls.length with c | c
    · rw [List.getElem?_append_left c] at g
      obtain ⟨a1, a2⟩ := hin j t g
      exact ⟨a1, by rw [upd_ne a1]; exact e4 _ _ a2⟩
    · have hj : j = i := by
        have := (List.getElem?_eq_some_iff.mp g).1
        rw [List.length_append] at this
        have h1 : ([q] : List Addr).length = 1 := rfl
        omega
      subst hj
      rw [List.getElem?_append_right c, hln, Nat.sub_self] at g
      cases g
      exact ⟨hne, by rw [upd_ne hne]; exact h4⟩
theorem q_asgR {te : TE} {g : TG} {tz : TS} {D : Ends} {σ : L2.St} {H : Hp} (h : te σ H fun v H1 => g v σ H1 (tz D)) : tSeq (tAsg te g) tz D σ H := h
/-- over range(n), each a new list -/
theorem er_lcN {ta : TA} {te : TE} {j : Nat} {vs : List Nat} {σ : L2.St} {H : Hp} {n : Nat} (v : Nat → List V) (h : EvA ta σ H [.int (n : Int)]) (hn : n ≤ 80000) (hw : ∀ x, wipe ((wipe σ vs).set j (some x)) vs = wipe σ vs)
    (he : ∀ (i : Nat) H1, Ex H H1 → i < n → EvL te ((wipe σ vs).set j (some (.int (i : Int)))) H1 (v i)) {Q : VK} (q : ∀ l H2, H l = none → Ex H H2 → RowsV H2 l n v → Q (.ref l) H2) : tLc (iRng1 ta) (gName j) tYes te vs σ H Q :=
  h H (Ex.refl H) _ fun H1 e1 => ⟨(n : Int), rfl, by omega, by omega, fun Dl hD => by
    refine lc_it (n := (n : Int).toNat) walk_range (CwV H1 v Dl) ⟨hD, Ex.new hD, [], upd_same, rfl, fun j t g => by simp at g⟩ (fun _ _ _ _ => trivial) (fun i x H2 H3 hi p y => ?_) (fun H2 p => ?_)
    · obtain ⟨rfl, rfl⟩ := y
      rw [Int.toNat_natCast] at hi
      rw [show (fun i : Nat => V.int (0 + (i : Int))) i = V.int (i : Int) from congrArg V.int (Int.zero_add _)]
      exact ⟨hw _, cwv_turn p (by omega) (he i H1 e1 hi)⟩
    · rw [Int.toNat_natCast] at p
      obtain ⟨p1, p2, ls, hls, hln, hin⟩ := p
      exact q Dl H2 (fresh_back e1 p1) (e1.trans p2) ⟨ls, hls, hln, fun j t g => (hin j t g).2⟩⟩
/-- over enumerate(l), each a value -/
theorem el_lcE {ta : TA} {a : Addr} {xs : List V} {te : TE} {j1 j2 : Nat} {vs : List Nat} {σ : L2.St} {H : Hp} (v : Nat → V) (h : EvA ta σ H [.ref a]) (hx : SqL K H a xs) (hz : xs.length ≤ 40000) (hw : ∀ x y, wipe (((wipe σ vs).set j1 (some x)).set j2 (some y)) vs = wipe σ vs)
    (he : ∀ (i : Nat) (x : V) H1, Ex H H1 → xs[i]? = some x → Ev te (((wipe σ vs).set j1 (some (.int (i : Int)))).set j2 (some x)) H1 (v i)) : EvL (tLc (iEnum K ta) (gTup K 2 (gCons (gName j1) (gCons (gName j2) gNil))) tYes te vs) σ H ((List.range xs.length).map v) := fun H0 e Q q =>
  h H0 e _ fun H1 e1 => ⟨a, xs, rfl, ex_l (e.trans e1) hx, fun Dl hD => by
    rw [← given_all] at q
    refine lc_it (walk_enum (xs := xs)) (Cw H1 (fun _ => true) v Dl) ⟨hD, Ex.new hD, upd_same⟩ (fun i H' _ p => ex_l ((e.trans e1).trans p.2.1) hx) (fun i x H2 H3 hi p y => ?_) (fun H2 p => q Dl H2 (fresh_back e1 p.1) (e1.trans p.2.1) p.2.2)
    obtain ⟨T, x1, x2, rfl, hT, rfl, hx1, hx2⟩ := y
    cases hx1
    have p' : Cw H1 (fun _ => true) v Dl i (upd H2 T (.tup [.int (i : Int), x2])) := ⟨p.1, p.2.1.trans (Ex.new hT), (Ex.new hT) _ _ p.2.2⟩
    exact ⟨T, _, rfl, .inl (.inl upd_same), rfl, _, _, rfl, _, _, rfl, rfl, hw _ _, cw_turn p' (by omega) et_yes fun _ => he i x2 H1 (e.trans e1) hx2⟩⟩
theorem eu_call {sp : Sp} {dvs vs xs : List V} {E : XK} {ta : TA} {σ : L2.St} {H : Hp} (h : EvA ta σ H vs) (hs : ∀ H1, Ex H H1 → ∀ Q : VK, TwE.RetU xs H1 Q → sp (vs ++ dvs) H1 Q E) : EvU (tCall sp dvs E ta) σ H xs := fun H1 e Q q =>
  h H1 e _ fun H2 e2 => hs H2 (e.trans e2) _ fun p H3 hp e3 h3 => q p H3 (fresh_back e2 hp) (e2.trans e3) h3
theorem ev_ixU {te tb : TE} {σ : L2.St} {H : Hp} {xs : List V} {i : Int} {x : V} (h : EvU te σ H xs) (hb : ∀ H1, Ex H H1 → Ev tb σ H1 (.int i)) (ha : atI xs i = some x) : Ev (tOp (rIxT K) te tb) σ H x := fun H1 e Q q =>
  h H1 e _ fun p H2 _ e2 hp => hb H2 (e.trans e2) H2 (Ex.refl H2) _ fun H3 e3 => ⟨p, xs, i, x, rfl, rfl, st_of (e3 _ _ hp), ha, q H3 (e2.trans e3)⟩
theorem s_setK {te ta tb : TE} {σ : L2.St} {H : Hp} {D : Ends} {v : V} {l : Addr} {xs : List V} {i : Int} {j : Nat} (hl : H l = some (.lst xs)) (h : Ev te σ H v) (ho : Ev ta σ H (.ref l)) (hi : Ev tb σ H (.int i)) (hj : ixN xs.length i = some j) (k : ∀ H1, Ex H H1 → D.nx σ (upd H1 l (.lst (xs.set j v)))) :
    tAsg te (gSub ta tb rSetL) D σ H := h H (Ex.refl H) _ fun H1 e1 => ho H1 e1 _ fun H2 e2 => hi H2 (e1.trans e2) _ fun H3 e3 => ⟨l, xs, i, j, rfl, rfl, ((e1.trans e2).trans e3) l _ hl, hj, k H3 ((e1.trans e2).trans e3)⟩
def sp_counts_from (K : PySem.W.Frag) : Sp := fun vs H Q _ => ∃ (p : Addr) (ws : List Str) (w : Int) (b : Nat), vs = [.ref p, .int w, .int b] ∧ SqL K H p (ws.map V.str) ∧ (∀ z ∈ ws, z.length ≤ 300) ∧ ws.length ≤ 2000 ∧ WidB w ∧ b < ws.length ∧ (sizeN ws b (b + 1) : Int) ≤ w ∧ RetL ((countsP ws w b).map V.int) H Q
theorem squares_counts {ws : List Str} {w : Int} {b : Nat} (h : b + cntOf ws w b < ws.length) : (sizesL ws b (cntOf ws w b)).map (fun z => (w - z) ^ (2 : Int).toNat) = countsP ws w b := by
  unfold sizesL countsP
  rw [List.map_map]
  refine List.map_congr_left fun i hi => ?_
  have := List.mem_range.mp hi
  exact (if_neg (by omega) : price ws w b (b + 1 + i) = _).symm
theorem squares_last {ws : List Str} {w : Int} {b : Nat} (h : b + cntOf ws w b = ws.length) : (((sizesL ws b (cntOf ws w b)).map (fun z => (w - z) ^ (2 : Int).toNat)).map V.int).set (cntOf ws w b - 1) (.int 0) = (countsP ws w b).map V.int := by
  refine List.ext_getElem? fun j => ?_
  unfold sizesL countsP
  rw [List.getElem?_set, List.length_map, List.length_map, List.length_map, List.length_range]
  by_cases c : cntOf ws w b - 1 = j
  · rw [if_pos c]
    by_cases h0 : cntOf ws w b - 1 < cntOf ws w b
    · rw [if_pos h0, List.getElem?_map, List.getElem?_map, List.getElem?_range (by omega)]
      show some (V.int 0) = some (V.int (price ws w b (b + 1 + j)))
      rw [show price ws w b (b + 1 + j) = 0 from if_pos (by omega)]
    · rw [if_neg h0, List.getElem?_eq_none (by rw [List.length_map, List.length_map, List.length_range]; omega)]
  · rw [if_neg c, List.map_map, List.map_map, List.map_map, List.getElem?_map, List.getElem?_map]
    by_cases hj : j < cntOf ws w b
    · rw [List.getElem?_range hj]
      show some (V.int ((w - (sizeN ws b (b + 1 + j) : Int)) ^ (2 : Int).toNat)) = some (V.int (price ws w b (b + 1 + j)))
      rw [show price ws w b (b + 1 + j) = _ from if_neg (by omega)]
    · rw [List.getElem?_eq_none (by rw [List.length_range]; omega)] <;> rfl
theorem ok_counts_from (T : Txt K mg A) : FnOk P w K mg base CX0 2 A.f_counts_from A.d_counts_from ["words", "width", "begin"] (sp_counts_from K) := by
  refine T.F_counts_from.ok sc_counts_from (fun vs H Q E h => ?_) (fun cdv Ar outer s H vs Q E hr h => ?_)
  · obtain ⟨p, ws, wd, b, rfl, _⟩ := h
    rfl
  · obtain ⟨p, ws, wd, b, rfl, hS, hz, hl, hw, hb, hone, k⟩ := h
    refine ⟨_, (pss_cons (ps_set (i := 3) sc_counts_from.nd rfl (.inl rfl) (pe_call (ok_squares_of T) (hr.mono (by decide)) rfl T.g_squares_of T.F_squares_of.kp T.b_squares_of .nil pass0 (pa_cons (pv 1) (pa_cons (pe_call (ok_sizes_from T) (hr.mono (by decide)) rfl T.g_sizes_from T.F_sizes_from.kp T.b_sizes_from .nil pass0 (pa_cons (pv 0) (pa_cons (pv 1) (pa_cons (pv 2) pa_nil)))) pa_nil))))
  (Evl.pss_cut (ps_if (pt_cmpR op_eq (pe_op op_add (pv 2) (pe_callB call_len_seq (by rfl) T.m_len PySem.boot_len (pa_cons (pv 3) pa_nil))) (pe_callB call_len_seq (by rfl) T.m_len PySem.boot_len (pa_cons (pv 0) pa_nil)) (nomark _))
  (pss_one (ps_asg pe_int (pg_sub (pv 3) (pe_un un_neg pe_int) set_list)))
  pss_nil)
  (pss_one (ps_ret (pv 3))))), ?_⟩
    have nl : (ws.map V.str).length = ws.length := List.length_map ..
    have hc := cntOf_is (ws := ws) (w := wd) (Nat.le_of_lt hb)
    have hcl := hc.le
    have hc1 := hc.in_ (Nat.lt_succ_self b) hb hone
    obtain ⟨sq, hsq⟩ : ∃ sq, (sizesL ws b (cntOf ws wd b)).map (fun z => (wd - z) ^ (2 : Int).toNat) = sq := ⟨_, rfl⟩
    have sql : sq.length = cntOf ws wd b := by
      rw [← hsq, List.length_map, sizesL_len]
    have nsq : (sq.map V.int).length = sq.length := List.length_map ..
    refine q_asgL (xs := sq.map V.int) (el_callA (ap_cons (ev_var rfl) (ap_consL (xs := (sizesL ws b (cntOf ws wd b)).map V.int) (el_call (ea_cons (ev_var rfl) (ea_cons (ev_var rfl) (ea_cons (ev_var rfl) ea_nil))) fun H1 e1 Q' q E' => ⟨p, ws, wd, b, rfl, ex_l e1 hS, hz, hl, Nat.le_of_lt hb, fun m hm => by rw [hm.uniq hc]; exact q⟩) ap_nil fun _ _ _ => trivial)) ?_) fun l H1 l0 e1 hl1 => ?_
    · rintro vs H5 e5 ⟨r, rfl, p1, r2, rfl, h5, rfl⟩ Q' q
      exact ⟨p1, sizesL ws b (cntOf ws wd b), wd, rfl, sq_of h5, sizesL_in hz hl b _, by rw [sizesL_len]; omega, hw, by rw [hsq]; exact q⟩
    refine q_cut (M := fun σ' H' => σ' = [some (.ref p), some (.int wd), some (.int b), some (.ref l)] ∧ Ex H H' ∧ H' l = some (.lst ((countsP ws wd b).map V.int))) ?_ ?_
    · refine s_when (b := decide (V.int ((b : Int) + (cntOf ws wd b : Int)) = V.int (ws.length : Int))) (et_test (ev_op (ev_is (ev_op (ev_var rfl) (ev_cb (ea_cons (ev_var rfl) ea_nil) (rc_lenL (sq_of hl1))) rv_I0) (by rw [nsq, sql])) (ev_is (ev_cb (ea_cons (ev_var rfl) ea_nil) (rc_lenL (ex_l e1 hS))) (by rw [nl])) (rv_eq rfl))) (fun hb2 H2 e2 => ?_) (fun hb2 H2 e2 => ?_)
      · have hbn : b + cntOf ws wd b = ws.length := by
          have h := of_decide_eq_true hb2
          injection h with h
          omega
        have hix : ixN (sq.map V.int).length (-1) = some (cntOf ws wd b - 1) := by
          unfold ixN
          rw [if_neg (by decide), nsq, sql, if_pos (by omega)]
          congr 1
          omega
        refine s_setK (e2 _ _ hl1) ev_c (ev_var rfl) (ev_un ev_c ru_neg) hix fun H3 e3 => ⟨rfl, Ex.mut ((e1.trans e2).trans e3) l0, ?_⟩
        rw [← squares_last hbn, hsq]
        exact upd_same
      · have hbn : b + cntOf ws wd b < ws.length := by
          have : ¬ (b : Int) + (cntOf ws wd b : Int) = (ws.length : Int) := fun q => of_decide_eq_false hb2 (by rw [q])
          omega
        refine ⟨rfl, e1.trans e2, ?_⟩
        rw [← squares_counts hbn, hsq]
        exact e2 _ _ hl1
    · rintro σ' H' ⟨rfl, e, h⟩
      exact s_ret (v := .ref l) (ev_var rfl) fun H5 e5 => k l H5 l0 (e.trans e5) (e5 _ _ h)
/-- the table of m lines -/
noncomputable def tblV (ws : List Str) (w : Int) (m : Nat) : List V := (List.range (ws.length + 1)).map fun b => optI (rM ws w m b)
theorem tblV_len (ws : List Str) (w : Int) (m : Nat) : (tblV ws w m).length = ws.length + 1 := by
  unfold tblV
  rw [List.length_map, List.length_range]
noncomputable def tblO (ws : List Str) (w : Int) (m : Nat) : List (Option Int) := (List.range (ws.length + 1)).map fun b => rM ws w m b
theorem tblV_O (ws : List Str) (w : Int) (m : Nat) : tblV ws w m = (tblO ws w m).map optI := by
  unfold tblV tblO
  rw [List.map_map] <;> rfl
theorem tblO_at {ws : List Str} {w : Int} {m e : Nat} (h : e ≤ ws.length) : (tblO ws w m).getD e none = rM ws w m e := by
  unfold tblO
  rw [List.getD_eq_getElem?_getD, List.getElem?_map, List.getElem?_range (by omega)] <;> rfl
theorem best_tbl {ws : List Str} {w : Int} {m b : Nat} (hb : b ≤ ws.length) : bestN (fun i => (countsP ws w b).getD i 0) (fun e => (tblO ws w m).getD e none) b (countsP ws w b).length = bestN (fun i => price ws w b (b + 1 + i)) (rM ws w m) b (cntOf ws w b) := by
  have hc := (cntOf_is (ws := ws) (w := w) hb).le
  rw [countsP_len]
  exact bestN_congr fun j hj => ⟨countsP_at hj, tblO_at (by omega)⟩
theorem lst_pair : ∀ st : Option (Int × Nat), pairV st = [lstV st, endV st]
  | none => rfl
  | some _ => rfl
theorem lst_opt : ∀ st : Option (Int × Nat), lstV st = optI (st.map (·.1))
  | none => rfl
  | some _ => rfl
theorem tbl_next (ws : List Str) (w : Int) (m : Nat) : ((List.range ws.length).map fun b => lstV (bestN (fun i => price ws w b (b + 1 + i)) (rM ws w m) b (cntOf ws w b))) ++ [V.non] = tblV ws w (m + 1) := by
  unfold tblV
  rw [List.range_succ, List.map_append]
  congr 1
  · refine List.map_congr_left fun b hb => ?_
    have := List.mem_range.mp hb
    show _ = optI (if b < ws.length then _ else none)
    rw [if_pos this]
    exact lst_opt _
  · show [V.non] = [optI (if ws.length < ws.length then _ else none)]
    rw [if_neg (Nat.lt_irrefl _)] <;> rfl
theorem tbl_zero (ws : List Str) (w : Int) : (List.replicate ((ws.length : Nat) : Int).toNat [V.non]).flatten ++ [V.int 0] = tblV ws w 0 := by
  unfold tblV
  rw [Int.toNat_natCast, List.range_succ, List.map_append]
  congr 1
  · have hl : (List.replicate ws.length [V.non]).flatten = List.replicate ws.length V.non := by
      induction ws.length with
      | zero => rfl
      | succ m ih => rw [List.replicate_succ, List.flatten_cons, ih] <;> rfl
    rw [hl]
    refine List.ext_getElem? fun j => ?_
    rw [List.getElem?_replicate, List.getElem?_map]
    by_cases hj : j < ws.length
    · rw [if_pos hj, List.getElem?_range hj]
      show _ = some (optI (if j = ws.length then some 0 else none))
      rw [if_neg (by omega)] <;> rfl
    · rw [if_neg hj, List.getElem?_eq_none (by rw [List.length_range]; omega)] <;> rfl
  · show [V.int 0] = [optI (if ws.length = ws.length then some 0 else none)]
    rw [if_pos rfl] <;> rfl
theorem el_rep {ta tb : TE} {σ : L2.St} {H : Hp} {n : Nat} {xs : List V} (h : EvL ta σ H xs) (hb : Ev tb σ H (.int (n : Int))) (hz : xs.length * n ≤ 100000) (hn : n ≤ 100000) : EvL (tOp rRep ta tb) σ H ((List.replicate ((n : Nat) : Int).toNat xs).flatten) := fun H1 e Q q =>
  h H1 e _ fun p H2 _ e2 hp => hb H2 (e.trans e2) _ fun H3 e3 => ⟨p, _, _, rfl, rfl, e3 _ _ hp, by omega, by omega, sz_of (by rw [Int.toNat_natCast]; exact hz), fun r hr => q r _ (fresh_back (e2.trans e3) hr) ((e2.trans e3).trans (Ex.new hr)) upd_same⟩
theorem q_forRn {ta : TA} {j : Nat} {n : Int} {σ : L2.St} {H : Hp} {D : Ends} {tu tz : TS} (h : EvA ta σ H [.int n]) (hn : -100000 ≤ n ∧ n ≤ 100000) (Pv : Nat → L2.St → Hp → Prop) (h0 : ∀ H1, Ex H H1 → Pv 0 σ H1)
    (hs : ∀ (i : Nat) σ' H', (i : Int) < n → Pv i σ' H' → tu { D with nx := Pv (i + 1), ct := Pv (i + 1), bk := tz D } (σ'.set j (some (.int (i : Int)))) H') (hd : ∀ σ' H', Pv n.toNat σ' H' → tz D σ' H') : tSeq (tFor (iRng1 ta) (gName j) tu) tz D σ H :=
  h H (Ex.refl H) _ fun H1 e => ⟨n, rfl, by omega, by omega, for_it (n := n.toNat) (D := { D with nx := tz D }) walk_range Pv (h0 H1 e) (fun _ _ _ _ _ => trivial) (fun i x σ' H' H'' hi p y => by
    obtain ⟨rfl, rfl⟩ := y
    show tu _ (σ'.set j (some (.int (0 + (i : Int))))) _
    rw [Int.zero_add]
    exact hs i σ' _ (by omega) p) hd⟩
def sp_tables (K : PySem.W.Frag) : Sp := fun vs H Q _ => ∃ (c : Addr) (ws : List Str) (w : Int) (m : Nat), vs = [.ref c, .int (m : Int)] ∧ RowsV H c ws.length (fun b => (countsP ws w b).map V.int) ∧ ws.length ≤ 2000 ∧ m ≤ 2000 ∧ ∀ l H', Ex H H' → RowsV H' l (m - 1 + 1) (fun i => tblV ws w i) → Q (.ref l) H'
theorem ok_tables_below (T : Txt K mg A) : FnOk P w K mg base CX0 2 A.f_tables_below A.d_tables_below ["counts", "many"] (sp_tables K) := by
  refine T.F_tables_below.ok sc_tables_below (fun vs H Q E h => ?_) (fun cdv Ar outer s H vs Q E hr h => ?_)
  · obtain ⟨c, ws, wd, m, rfl, _⟩ := h
    rfl
  · obtain ⟨c, ws, wd, m, rfl, hR, hl, hm, k⟩ := h
    refine ⟨_, (pss_cons (ps_set (i := 2) sc_tables_below.nd rfl (.inl rfl) (pe_lst (pa_cons (pe_op op_cat (pe_op op_rep (pe_lst (pa_cons pe_non pa_nil)) (pe_callB call_len_seq (by rfl) T.m_len PySem.boot_len (pa_cons (pv 0) pa_nil))) (pe_lst (pa_cons pe_int pa_nil))) pa_nil)))
  (pss_cons (ps_for PassesOwn.never rfl (pi_range1 (by rfl) T.m_range (pa_cons (pe_op op_sub (pv 1) pe_int) pa_nil)) (pg_name (i := 3) sc_tables_below.nd rfl (.inl rfl))
  (pss_cons (ps_set (i := 4) sc_tables_below.nd rfl (.inr rfl) (pe_ix (ixL (K := K) rfl) (pv 2) (pv 3) (fun _ _ => rfl)))
  (pss_cons (ps_setLc (i := 5) (own := [("begin", 6), ("row", 7)]) (g := gTup K 2 (gCons (gName 6) (gCons (gName 7) gNil))) (tt := tYes) rfl sc_tables_below.nd rfl rfl (sw_true rfl rfl rfl (by decide +kernel)) (pi_enum (by rfl) T.m_enumerate (pa_cons (pv 0) pa_nil)) (blkOk_by (N := N_tables_below) (sc := defScope s_tables_below) (by decide +kernel)) (fun _ _ _ _ _ => (by
        apply pg_tup (n := 2)
        all_goals try rfl
        apply pgs_cons
        all_goals try rfl
        focus exact pg_name (i := 6) sc_tables_below.nd rfl (.inl rfl)
        apply pgs_cons
        all_goals try rfl
        focus exact pg_name (i := 7) sc_tables_below.nd rfl (.inl rfl)
        exact pgs_nil)) (fun _ _ _ _ _ => pts_nil) (fun _ _ _ _ _ => (pe_ix (TwE.ixTE (K := K) rfl) (pe_call (ok_best_line T) (hr.mono (by decide)) rfl T.g_best_line T.F_best_line.kp T.b_best_line .nil pass0 (pa_cons (pv 7) (pa_cons (pv 6) (pa_cons (pv 4) pa_nil)))) pe_int (fun _ _ => rfl))))
  (pss_one (ps_expr (pe_bm PySem.F.plainAttrs_list PySem.F.slot_list_append PySem.F.type_list_append mt_append (pv 2) (pa_cons (pe_op op_cat (pv 5) (pe_lst (pa_cons pe_non pa_nil))) pa_nil)))))))
  (pss_one (ps_ret (pv 2))))), ?_⟩
    obtain ⟨cs, hcs, hcl, hcr⟩ := id hR
    have ncs : (cs.map V.ref).length = ws.length := by rw [List.length_map, hcl]
    have row0 : EvL (tOp rCat (tOp rRep (tLst (tCons (tC V.non) tNil)) (tCB (fun xs H Q => ∃ p ys, xs = [V.ref p] ∧ (SqL K H p ys ∨ SqT K H p ys) ∧ Q (.int ys.length) H) (tCons (tVar 0) tNil))) (tLst (tCons (tC (V.int 0)) tNil))) (L2.start N_tables_below [V.ref c, V.int (m : Int)]) H (tblV ws wd 0) :=
      el_is (el_catN (el_rep (n := ws.length) (el_lst (ea_cons ev_c ea_nil) (show 1 ≤ 100000 by decide)) (ev_is (ev_cb (ea_cons (ev_var rfl) ea_nil) (rc_lenL (sq_of hcs))) (by rw [ncs])) (by show 1 * _ ≤ _; omega) (by omega)) (el_lst (ea_cons ev_c ea_nil) (show 1 ≤ 100000 by decide)) (by
        have := congrArg List.length (tbl_zero ws wd)
        rw [List.length_append, tblV_len] at this
        show _ + 1 ≤ _
        have h1 : ([V.int 0] : List V).length = 1 := rfl
        omega)) (tbl_zero ws wd)
    refine row0 H (Ex.refl H) _ fun t0 H1 t00 e1 ht0 => ⟨sz_of (show 1 ≤ 100000 by decide), fun l hl0 => ?_⟩
    have hne : t0 ≠ l := fun q => by
      rw [q, hl0] at ht0
      cases ht0
    have e2 : Ex H (upd H1 l (.lst [V.ref t0])) := e1.trans (Ex.new hl0)
    have lf := fresh_back e1 hl0
    show tSeq _ _ _ _ (upd H1 l (.lst [V.ref t0]))
    refine q_forRn (n := (m : Int) - 1) (ea_cons (ev_op (ev_var rfl) ev_c rv_I0) ea_nil) ⟨by omega, by omega⟩ (fun i σ' H' => ∃ (ts : List Addr) (x3 x4 x5 x6 x7 : Option V), σ' = [some (.ref c), some (.int (m : Int)), some (.ref l), x3, x4, x5, x6, x7] ∧ Ex H H' ∧ H' l = some (.lst (ts.map V.ref)) ∧ ts.length = i + 1 ∧ ∀ (j : Nat) (t : Addr), ts[j]? = some t → t ≠ l ∧ H' t = some (.lst (tblV ws wd j)))
      (fun H3 e3 => ⟨[t0], none, none, none, none, none, rfl, e2.trans e3, e3 _ _ upd_same, rfl, fun j t g => ?_⟩) ?_ ?_
    · cases j with
      | zero =>
        cases g
        exact ⟨hne, e3 _ _ (by rw [upd_ne hne]; exact ht0)⟩
      | succ j => simp at g
    · rintro i σ' H' hi ⟨ts, x3, x4, x5, x6, x7, rfl, e, hlt, htl, hin⟩
      have gi : ts[i]? = some (ts[i]'(by omega)) := List.getElem?_eq_getElem (by omega)
      obtain ⟨tn, hti⟩ := hin i _ gi
      revert gi tn hti
      generalize ts[i]'(by omega) = t
      intro gi tn hti
      refine q_asg (v := .ref t) (ev_op (ev_var rfl) (ev_var rfl) (rv_ixL (sq_of hlt) (atI_nat (by rw [List.getElem?_map, gi] <;> rfl)))) fun H3 e3 => ?_
      have e03 := e.trans e3
      refine q_asgL (xs := (List.range ws.length).map fun b => lstV (bestN (fun i => price ws wd b (b + 1 + i)) (rM ws wd i) b (cntOf ws wd b))) (el_is (el_lcE (xs := cs.map V.ref) (fun b => lstV (bestN (fun i => price ws wd b (b + 1 + i)) (rM ws wd i) b (cntOf ws wd b))) (ea_cons (ev_var rfl) ea_nil) (sq_of (e03 _ _ hcs)) (by omega) (fun _ _ => rfl) fun b x H4 e4 hb => ?_) (by rw [ncs])) fun sl H4 sl0 e4 hsl => ?_
      · rw [List.getElem?_map] at hb
        obtain ⟨r, hr', rfl⟩ := Option.map_eq_some_iff.mp hb
        have hbl : b < ws.length := by
          have := (List.getElem?_eq_some_iff.mp hr').1
          omega
        have hcc := hcr b r hr'
        have hcle := (cntOf_is (ws := ws) (w := wd) (Nat.le_of_lt hbl)).le
        refine ev_ixU (xs := pairV (bestN (fun i => price ws wd b (b + 1 + i)) (rM ws wd i) b (cntOf ws wd b))) (i := ((0 : Nat) : Int)) (eu_call (ea_cons (ev_var rfl) (ea_cons (ev_var rfl) (ea_cons (ev_var rfl) ea_nil))) fun H5 e5 Q' q => ⟨r, t, countsP ws wd b, tblO ws wd i, b, rfl, sq_of ((e03.trans (e4.trans e5)) _ _ hcc), by rw [← tblV_O]; exact sq_of ((e3.trans (e4.trans e5)) _ _ hti), by rw [countsP_len]; omega, ?_, ?_, by rw [best_tbl (Nat.le_of_lt hbl)]; exact q⟩) (fun H5 e5 => ev_c) (by rw [lst_pair]; exact atI_nat rfl)
        · have := tblV_len ws wd i
          rw [tblV_O, List.length_map] at this
          rw [countsP_len]
          omega
        · have := tblV_len ws wd i
          rw [tblV_O, List.length_map] at this
          omega
      · have hlt4 := (e3.trans e4) _ _ hlt
        refine s_appL (ys := tblV ws wd (i + 1)) hlt4 (ev_var rfl) (el_is (el_cat (ev_var rfl) hsl (el_lst (ea_cons ev_c ea_nil) (show 1 ≤ 100000 by decide)) (by rw [List.length_map, List.length_range]; show _ + 1 ≤ _; omega)) (tbl_next ws wd i)) (by rw [List.length_map, htl]; omega) fun p H5 p0 e5 hp => ?_
        have pn : p ≠ l := fun q => by
          rw [q, hlt4] at p0
          cases p0
        refine ⟨ts ++ [p], _, _, _, _, _, rfl, Ex.mut ((e03.trans e4).trans e5) lf, ?_, by rw [List.length_append, htl] <;> rfl, fun j t2 g => ?_⟩
        · rw [List.map_append]
          exact upd_same
        · rcases Nat.lt_or_ge j ts.length with c2 | c2
          · rw [List.getElem?_append_left c2] at g
            obtain ⟨a1, a2⟩ := hin j t2 g
            exact ⟨a1, by rw [upd_ne a1]; exact ((e3.trans e4).trans e5) _ _ a2⟩
          · have hj : j = i + 1 := by
              have := (List.getElem?_eq_some_iff.mp g).1
              rw [List.length_append] at this
              have h1 : ([p] : List Addr).length = 1 := rfl
              omega
            subst hj
            rw [List.getElem?_append_right c2, htl, Nat.sub_self] at g
            cases g
            exact ⟨pn, by rw [upd_ne pn]; exact hp⟩
    · rintro σ' H' ⟨ts, x3, x4, x5, x6, x7, rfl, e, hlt, htl, hin⟩
      exact s_ret (v := .ref l) (ev_var rfl) fun H5 e5 => k l H5 (e.trans e5) ⟨ts, e5 _ _ hlt, by rw [htl]; omega, fun j t g => e5 _ _ (hin j t g).2⟩
theorem next_go {D : Ends} {σ : L2.St} {H : Hp} (h : D.nx σ H) : tNext D σ H := h
def sp_check_many (K : PySem.W.Frag) (A : Ad) : Sp := fun vs H Q E => ∃ (p : Addr) (ws : List Str) (w m : Int), vs = [.ref p, .int w, .int m] ∧ SqL K H p (ws.map V.str) ∧ (∀ z ∈ ws, z.length ≤ 300) ∧ ws.length ≤ 2000 ∧ (w < 1 → ∀ H', Ex H H' → E (.ref A.c_NoWidth) none H') ∧ (1 ≤ w → (∃ z ∈ ws, w < (z.length : Int)) → ∀ H', Ex H H' → E (.ref A.c_LongWord) none H') ∧
  (1 ≤ w → (∀ z ∈ ws, (z.length : Int) ≤ w) → ∀ S, FitS ws w S → Full ws w S → (m < (S.length : Int) → ∀ H', Ex H H' → E (.ref A.c_TooFew) none H') ∧ ((S.length : Int) ≤ m → (ws.length : Int) < m → ∀ H', Ex H H' → E (.ref A.c_TooMany) none H') ∧ ((S.length : Int) ≤ m → m ≤ (ws.length : Int) → RetV .non H Q))
theorem ok_check_many (T : Txt K mg A) : FnOk P w K mg base (L2N.CX P w) 5 A.f_check_many A.d_check_many ["words", "width", "many"] (sp_check_many K A) := by
  refine Fun.okN T.F_check_many sc_check_many (fun vs H Q E h => ?_) (fun cdv Ar outer s H vs Q E hr h => ?_)
  · obtain ⟨p, ws, i, m, rfl, _⟩ := h
    rfl
  · obtain ⟨p, ws, wd, m, rfl, hS, hz, hl, h1, h2, h3⟩ := h
    refine ⟨_, (pss_cons (ps_if (pt_cmpR op_lt (pv 2) (pe_callB call_len_seq (by rfl) T.m_len PySem.boot_len (pa_cons (pe_call (ok_quick_starts T) (hr.mono (by decide)) rfl T.g_quick_starts T.F_quick_starts.kp T.b_quick_starts .nil (L2N.passes_call (L2N.takes_of rfl rfl rfl rfl) (fun _ _ _ _ h => h)) (pa_cons (pv 0) (pa_cons (pv 1) pa_nil))) pa_nil)) (nomark _))
  (pss_one (L2N.ps_raise rfl (L2N.takes_of rfl rfl rfl rfl) (L2N.pmk_own PySem.F.excBase_ValueError T.ex_TooFew.x T.gc_TooFew T.ex_TooFew.k (raises_own T.ex_TooFew.e.hs T.ex_TooFew.t) rfl)))
  pss_nil)
  (pss_one (ps_if (pt_cmpR op_gt (pv 2) (pe_callB call_len_seq (by rfl) T.m_len PySem.boot_len (pa_cons (pv 0) pa_nil)) (nomark _))
  (pss_one (L2N.ps_raise rfl (L2N.takes_of rfl rfl rfl rfl) (L2N.pmk_own PySem.F.excBase_ValueError T.ex_TooMany.x T.gc_TooMany T.ex_TooMany.k (raises_own T.ex_TooMany.e.hs T.ex_TooMany.t) rfl)))
  pss_nil))), ?_⟩
    have nl : (ws.map V.str).length = ws.length := List.length_map ..
    refine ⟨_, rfl, ⟨_, rfl, ⟨_, rfl, ⟨p, ws, wd, rfl, hS, hz, hl, h1, h2, fun hw hx S f1 f2 l H1 l0 e1 hl1 => ?_⟩⟩⟩⟩
    obtain ⟨g1, g2, g3⟩ := h3 hw hx S f1 f2
    refine ⟨l, nats S, rfl, .inl (sq_of hl1), ⟨m, ((nats S).length : Int), rfl, rfl, ⟨decide (m < ((nats S).length : Int)), rfl, ?_⟩⟩⟩
    rw [nats_len]
    by_cases hm : m < (S.length : Int)
    · rw [decide_eq_true hm]
      show (if (true : Bool) = true then _ else _)
      rw [if_pos rfl]
      exact g1 hm H1 e1
    · rw [decide_eq_false hm]
      show (if (false : Bool) = true then _ else _)
      rw [if_neg (by decide)]
      refine next_go ?_
      dsimp only
      refine s_when (b := decide ((ws.length : Int) < m)) (et_test (ev_op (ev_var rfl) (ev_is (ev_cb (ea_cons (ev_var rfl) ea_nil) (rc_lenL (ex_l e1 hS))) (by rw [nl])) rv_I0)) (fun hb H2 e2 => g2 (by omega) (of_decide_eq_true hb) H2 (e1.trans e2)) (fun hb H2 e2 => ?_)
      have := of_decide_eq_false hb
      exact g3 (by omega) (by omega) H2 (e1.trans e2)
def sp_starts_in (K : PySem.W.Frag) (A : Ad) : Sp := fun vs H Q E => ∃ (p : Addr) (ws : List Str) (w m : Int), vs = [.ref p, .int w, .int m] ∧ SqL K H p (ws.map V.str) ∧ (∀ z ∈ ws, z.length ≤ 300) ∧ ws.length ≤ 2000 ∧ WidB w ∧ (w < 1 → ∀ H', Ex H H' → E (.ref A.c_NoWidth) none H') ∧ (1 ≤ w → (∃ z ∈ ws, w < (z.length : Int)) → ∀ H', Ex H H' → E (.ref A.c_LongWord) none H') ∧
  (1 ≤ w → (∀ z ∈ ws, (z.length : Int) ≤ w) → ∀ S, FitS ws w S → Full ws w S → (m < (S.length : Int) → ∀ H', Ex H H' → E (.ref A.c_TooFew) none H') ∧ ((S.length : Int) ≤ m → (ws.length : Int) < m → ∀ H', Ex H H' → E (.ref A.c_TooMany) none H') ∧ ((S.length : Int) ≤ m → m ≤ (ws.length : Int) → ∀ S', WM ws w m.toNat 0 S' → RetL (nats S') H Q))
theorem ok_starts_in (T : Txt K mg A) : FnOk P w K mg base (L2N.CX P w) 6 A.f_starts_in A.d_starts_in ["words", "width", "many"] (sp_starts_in K A) := by
  refine Fun.okN T.F_starts_in sc_starts_in (fun vs H Q E h => ?_) (fun cdv Ar outer s H vs Q E hr h => ?_)
  · obtain ⟨p, ws, i, m, rfl, _⟩ := h
    rfl
  · obtain ⟨p, ws, wd, mi, rfl, hS, hz, hl, hwB, h1, h2, h3⟩ := h
    refine ⟨_, (pss_cons (ps_expr (pe_call (ok_check_many T) (hr.mono (by decide)) rfl T.g_check_many T.F_check_many.kp T.b_check_many .nil (L2N.passes_call (L2N.takes_of rfl rfl rfl rfl) (fun _ _ _ _ h => h)) (pa_cons (pv 0) (pa_cons (pv 1) (pa_cons (pv 2) pa_nil)))))
  (pss_cons (ps_setLc (i := 4) (own := [("begin", 3)]) (tt := tYes) rfl sc_starts_in.nd rfl rfl (sw_true rfl rfl rfl (by decide +kernel)) (pi_range1 (by rfl) T.m_range (pa_cons (pe_callB call_len_seq (by rfl) T.m_len PySem.boot_len (pa_cons (pv 0) pa_nil)) pa_nil)) (blkOk_by (N := N_starts_in) (sc := defScope s_starts_in) (by decide +kernel)) (fun _ _ _ _ _ => (pg_name (i := 3) sc_starts_in.nd rfl (.inl rfl))) (fun _ _ _ _ _ => pts_nil) (fun _ _ _ _ _ => (pe_call (ok_counts_from T) (hr.mono (by decide)) rfl T.g_counts_from T.F_counts_from.kp T.b_counts_from .nil pass0 (pa_cons (pv 0) (pa_cons (pv 1) (pa_cons (pv 3) pa_nil))))))
  (pss_cons (ps_set (i := 5) sc_starts_in.nd rfl (.inl rfl) (pe_call (ok_tables_below T) (hr.mono (by decide)) rfl T.g_tables_below T.F_tables_below.kp T.b_tables_below .nil pass0 (pa_cons (pv 4) (pa_cons (pv 2) pa_nil))))
  (pss_cons (ps_set (i := 6) sc_starts_in.nd rfl (.inl rfl) (pe_lst pa_nil))
  (pss_cons (ps_set (i := 3) sc_starts_in.nd rfl (.inl rfl) pe_int)
  (pss_cons (ps_for PassesOwn.leaving rfl (pi_revR (by rfl) T.m_reversed (prg_1 (by rfl) T.m_range (pv 2))) (pg_name (i := 7) sc_starts_in.nd rfl (.inl rfl))
  (pss_cons (ps_expr (pe_bm PySem.F.plainAttrs_list PySem.F.slot_list_append PySem.F.type_list_append mt_append (pv 6) (pa_cons (pv 3) pa_nil)))
  (pss_one (ps_asg (pe_call (ok_best_line T) (hr.mono (by decide)) rfl T.g_best_line T.F_best_line.kp T.b_best_line .nil pass0 (pa_cons (pe_ix (ixL (K := K) rfl) (pv 4) (pv 3) (fun _ _ => rfl)) (pa_cons (pv 3) (pa_cons (pe_ix (ixL (K := K) rfl) (pv 5) (pv 7) (fun _ _ => rfl)) pa_nil)))) (pg_tup rfl (pgs_cons (pg_name (i := 8) sc_starts_in.nd rfl (.inl rfl)) (pgs_cons (pg_name (i := 3) sc_starts_in.nd rfl (.inl rfl)) pgs_nil)))))))
  (pss_one (ps_ret (pv 6))))))))), ?_⟩
    have nl : (ws.map V.str).length = ws.length := List.length_map ..
    refine q_dropA (ea_cons (ev_var rfl) (ea_cons (ev_var rfl) (ea_cons (ev_var rfl) ea_nil))) fun H1 e1 => ⟨p, ws, wd, mi, rfl, ex_l e1 hS, hz, hl, fun hw H' e' => h1 hw H' (e1.trans e'), fun hw hx H' e' => h2 hw hx H' (e1.trans e'), fun hw hx S0 f1 f2 => ?_⟩
    obtain ⟨g1, g2, g3⟩ := h3 hw hx S0 f1 f2
    refine ⟨fun hm H' e' => g1 hm H' (e1.trans e'), fun hm hm2 H' e' => g2 hm hm2 H' (e1.trans e'), fun hm hm2 H2 e2 => ?_⟩
    have k := g3 hm hm2
    obtain ⟨m, rfl⟩ : ∃ m : Nat, mi = (m : Int) := ⟨mi.toNat, by omega⟩
    rw [Int.toNat_natCast] at k
    have hrm := rM_ok f1.walk (m := m) (by omega) (by omega)
    have e02 := e1.trans e2
    show tSeq _ _ _ _ H2
    refine q_asgR (er_lcN (n := ws.length) (fun b => (countsP ws wd b).map V.int) (ea_cons (ev_is (ev_cb (ea_cons (ev_var rfl) ea_nil) (rc_lenL (ex_l e02 hS))) (by rw [nl])) ea_nil) (by omega) (fun _ => rfl) (fun b H3 e3 hb => el_call (ea_cons (ev_var rfl) (ea_cons (ev_var rfl) (ea_cons (ev_var rfl) ea_nil))) fun H4 e4 Q' q E' => ⟨p, ws, wd, b, rfl, ex_l (e02.trans (e3.trans e4)) hS, hz, hl, hwB, hb, one_fits hx hb, q⟩) fun c H3 c0 e3 hc => ?_)
    show tSeq _ _ _ _ H3
    have e03 := e02.trans e3
    refine q_asgA (ea_cons (ev_var rfl) (ea_cons (ev_var rfl) ea_nil)) fun H4 e4 => ⟨c, ws, wd, m, rfl, hc.ex e4, hl, by omega, fun tb H5 e5 htb => ?_⟩
    have hc5 := hc.ex (e4.trans e5)
    have e05 := (e03.trans e4).trans e5
    show tSeq _ _ _ _ H5
    refine q_asgL (xs := []) (el_lst ea_nil (Nat.zero_le _)) fun l H6 l0 e6 hl6 => ?_
    have lf := fresh_back e05 l0
    refine q_asg (v := .int ((0 : Nat) : Int)) ev_c fun H7 e7 => ?_
    have e57 := e6.trans e7
    refine TwE.q_forRv (n := (m : Int)) (ev_var rfl) (by omega) (by omega) (fun i σ' H' => ∃ (S : List Nat) (a : Nat) (x8 x9 : Option V), σ' = [some (.ref p), some (.int wd), some (.int (m : Int)), some (.int (a : Int)), some (.ref c), some (.ref tb), some (.ref l), x8, x9] ∧ Ex H5 H' ∧ H' l = some (.lst (nats S)) ∧ S.length = i ∧ (∃ t, rM ws wd (m - i) a = some t) ∧ ∀ S', WM ws wd (m - i) a S' → WM ws wd m 0 (S ++ S'))
      (fun H8 e8 => ⟨[], 0, none, none, rfl, e57.trans e8, e8 _ _ (e7 _ _ hl6), rfl, hrm, fun S' h => h⟩) ?_ ?_
    · rintro i σ' H' hi ⟨S, a, x8, x9, rfl, e, hlS, hSl, ⟨t, ht⟩, hW⟩
      obtain ⟨r, hr'⟩ : ∃ r, m - i = r + 1 := ⟨m - i - 1, by omega⟩
      have er : (m : Int) - 1 - (i : Int) = (r : Int) := by omega
      rw [er]
      rw [hr'] at ht hW
      obtain ⟨ha, en, hbest⟩ := bestN_of ht
      have hG := goalM_of ha hbest
      refine q_app (xs := nats S) (v := .int (a : Int)) hlS (ev_var rfl) (ev_var rfl) (by rw [nats_len]; omega) fun H8 e8 => ?_
      have hl9 : upd H8 l (.lst (nats S ++ [.int (a : Int)])) l = some (.lst (nats (S ++ [a]))) := by
        rw [← nats_snoc]
        exact upd_same
      have e59 : Ex H5 (upd H8 l (.lst (nats S ++ [.int (a : Int)]))) := Ex.mut (e.trans e8) l0
      revert hl9 e59
      generalize upd H8 l (.lst (nats S ++ [.int (a : Int)])) = H9
      intro hl9 e59
      obtain ⟨cs, ca, hcs, hca, hca2, hcr⟩ := (hc5.ex e59).at ha
      obtain ⟨ts, tr, hts, htr, htr2, htt⟩ := (htb.ex e59).at (show r < m - 1 + 1 by omega)
      refine TwE.s_un2A (ea_cons (ev_op (ev_var rfl) (ev_var rfl) (rv_ixL (sq_of hcs) (atI_nat hca2))) (ea_cons (ev_var rfl) (ea_cons (ev_op (ev_var rfl) (ev_var rfl) (rv_ixL (sq_of hts) (atI_nat htr2))) ea_nil))) fun H10 e10 => ⟨ca, tr, countsP ws wd a, tblO ws wd r, a, rfl, sq_of (e10 _ _ hcr), by rw [← tblV_O]; exact sq_of (e10 _ _ htt), ?_, ?_, ?_, ?_⟩
      · have := (cntOf_is (ws := ws) (w := wd) (Nat.le_of_lt ha)).le
        rw [countsP_len]
        omega
      · have h4 := tblV_len ws wd r
        have := (cntOf_is (ws := ws) (w := wd) (Nat.le_of_lt ha)).le
        rw [tblV_O, List.length_map] at h4
        rw [countsP_len]
        omega
      · have h4 := tblV_len ws wd r
        rw [tblV_O, List.length_map] at h4
        omega
      · rw [best_tbl (Nat.le_of_lt ha), hbest]
        intro u H11 _ e11 hu
        refine TwE.g2 (st_of hu) ⟨S ++ [a], en, _, _, rfl, (e59.trans e10).trans e11, e11 _ _ (e10 _ _ hl9), by rw [List.length_append, hSl] <;> rfl, ?_, fun S' hS' => ?_⟩
        · obtain ⟨t2, ht2, _⟩ := hG.eq
          rw [show m - (i + 1) = r by omega]
          exact ⟨t2, ht2⟩
        · rw [List.append_assoc]
          rw [show m - (i + 1) = r by omega] at hS'
          exact hW (a :: S') (.cons hG hS')
    · rintro σ' H' ⟨S, a, x8, x9, rfl, e, hlS, hSl, ⟨t, ht⟩, hW⟩
      rw [Int.toNat_natCast, Nat.sub_self] at ht hW
      have ha : a = ws.length := by
        have h' : (if a = ws.length then some (0 : Int) else none) = some t := ht
        by_cases q : a = ws.length
        · exact q
        · rw [if_neg q] at h'
          cases h'
      subst ha
      have hWM := hW [] .nil
      rw [List.append_nil] at hWM
      exact s_ret (v := .ref l) (ev_var rfl) fun H12 e12 => k S hWM l H12 lf ((e05.trans e).trans e12) (e12 _ _ hlS)

theorem nats_ints (S : List Nat) : nats S = (S.map fun (k : Nat) => (k : Int)).map V.int := by
  unfold nats
  rw [List.map_map] <;> rfl
theorem cutV_from {xs : List V} (k : Nat) : cutV xs (some (k : Int)) none = xs.drop k := by
  unfold cutV
  rw [HT.sIx_none, HT.sIx_nat]
  rcases Nat.le_total k xs.length with h | h
  · rw [Nat.min_eq_left h, List.take_of_length_le (by rw [List.length_drop]; omega)]
  · rw [Nat.min_eq_right h, Nat.sub_self, List.take_zero, List.drop_of_length_le h]
theorem nats_ends (S : List Nat) (n : Nat) : cutV (nats S) (some 1) none ++ [V.int (n : Int)] = nats (ends S n) := by
  have e : cutV (nats S) (some 1) none = (nats S).drop 1 := cutV_from 1
  rw [e]
  unfold nats ends
  rw [← List.map_drop, List.map_append] <;> rfl

/-! ### the law's own sum -/
def sp_price (K : PySem.W.Frag) : Sp := fun vs H Q _ => ∃ (p : Addr) (ws : List Str) (b e : Nat) (wd : Int), vs = [.ref p, .int wd, .int b, .int e] ∧ SqL K H p (ws.map V.str) ∧ (∀ z ∈ ws, z.length ≤ 300) ∧ ws.length ≤ 2000 ∧ b ≤ e ∧ e ≤ ws.length ∧ WidB wd ∧ RetV (.int (price ws wd b e)) H Q
theorem ok_l_price (T : Txt K mg A) : FnOk P w K mg base CX0 2 A.f_l_price A.d_l_price ["_law_row", "_law_width", "_law_begin", "_law_end"] (sp_price K) := by
  refine T.F_l_price.ok sc_l_price (fun vs H Q E h => ?_) (fun cdv Ar outer s H vs Q E hr h => ?_)
  · obtain ⟨p, ws, b, e, wd, rfl, _⟩ := h
    rfl
  · obtain ⟨p, ws, b, e, wd, rfl, hp, hz, hl, h1, h2, hw, k⟩ := h
    refine ⟨_, (pss_cons (ps_if (pt_cmpR op_eq (pv 3) (pe_callB call_len_seq (by rfl) T.m_len PySem.boot_len (pa_cons (pv 0) pa_nil)) (nomark _))
  (pss_one (ps_ret pe_int))
  pss_nil)
  (pss_one (ps_ret (pe_op TwE.op_powE (pe_op op_sub (pv 1) (pe_call (ok_l_size T) (hr.mono (by decide)) rfl T.g_l_size T.F_l_size.kp T.b_l_size .nil pass0 (pa_cons (pv 0) (pa_cons (pv 2) (pa_cons (pv 3) pa_nil))))) pe_int)))), ?_⟩
    have nlw : (ws.map V.str).length = ws.length := List.length_map ..
    have hs := sizeN_le hz hl b e
    unfold price at k
    refine q_when (b := decide (V.int (e : Int) = V.int (ws.length : Nat))) (et_test (ev_op (ev_var rfl) (ev_is (ev_cb (ea_cons (ev_var rfl) ea_nil) (rc_lenL hp)) (by rw [nlw])) (rv_eq rfl))) (fun hb H1 e1 => ?_) (fun hb H1 e1 => ?_)
    · have q : e = ws.length := by
        have q := of_decide_eq_true hb
        injection q with q
        omega
      rw [if_pos q] at k
      exact s_ret (v := .int 0) ev_c fun H2 e2 => k H2 (e1.trans e2)
    · have q : ¬ e = ws.length := fun q => of_decide_eq_false hb (by rw [q])
      rw [if_neg q] at k
      have hb2 : (wd - ((sizeN ws b e : Nat) : Int)).natAbs < 2 ^ 121 := by
        unfold WidB at hw
        omega
      have hbits := PyProof.Rows.intBits_le hb2
      exact s_ret (ev_op (ev_op (ev_var rfl) (ev_call (ea_cons (ev_var rfl) (ea_cons (ev_var rfl) (ea_cons (ev_var rfl) ea_nil))) fun H6 e6 Q' qq E' => ⟨p, ws, b, e, rfl, ex_l (e1.trans e6) hp, hz, hl, h1, h2, qq⟩) rv_I0) ev_c (rv_I ⟨by decide, by omega⟩)) fun H2 e2 => k H2 (e1.trans e2)
def sp_sum10 (K : PySem.W.Frag) : Sp := fun vs H Q _ => ∃ (p q : Addr) (ws : List Str) (S : List Nat) (wd : Int), vs = [.ref p, .int wd, .ref q] ∧ SqL K H p (ws.map V.str) ∧ SqL K H q (nats S) ∧ S.length ≤ 9000 ∧ (∀ z ∈ ws, z.length ≤ 300) ∧ ws.length ≤ 2000 ∧ FitS ws wd S ∧ WidB wd ∧ RetV (.int (sumTo ws wd S S.length)) H Q
theorem ok_l_sum (T : Txt K mg A) : FnOk P w K mg base CX0 3 A.f_l_sum A.d_l_sum ["_law_row", "_law_width", "_law_found"] (sp_sum10 K) := by
  refine T.F_l_sum.ok sc_l_sum (fun vs H Q E h => ?_) (fun cdv Ar outer s H vs Q E hr h => ?_)
  · obtain ⟨p, q, ws, S, wd, rfl, _⟩ := h
    rfl
  · obtain ⟨p, q, ws, S, wd, rfl, hp, hq, hSl, hz, hl, hf, hw, k⟩ := h
    refine ⟨_, (pss_cons (ps_set (i := 3) sc_l_sum.nd rfl (.inl rfl) (pe_op op_cat (pe_slice (TwE.slE (K := K) rfl) (pv 2) (po_some pe_int) po_none) (pe_lst (pa_cons (pe_callB call_len_seq (by rfl) T.m_len PySem.boot_len (pa_cons (pv 0) pa_nil)) pa_nil))))
  (pss_cons (ps_set (i := 4) sc_l_sum.nd rfl (.inl rfl) pe_int)
  (pss_cons (ps_for PassesOwn.never rfl (pi_range1 (by rfl) T.m_range (pa_cons (pe_callB call_len_seq (by rfl) T.m_len PySem.boot_len (pa_cons (pv 2) pa_nil)) pa_nil)) (pg_name (i := 5) sc_l_sum.nd rfl (.inl rfl))
  (pss_one (ps_set (i := 4) sc_l_sum.nd rfl (.inl rfl) (pe_op op_add (pv 4) (pe_call (ok_l_price T) (hr.mono (by decide)) rfl T.g_l_price T.F_l_price.kp T.b_l_price .nil pass0 (pa_cons (pv 0) (pa_cons (pv 1) (pa_cons (pe_ix (ixL (K := K) rfl) (pv 2) (pv 5) (fun _ _ => rfl)) (pa_cons (pe_ix (ixL (K := K) rfl) (pv 3) (pv 5) (fun _ _ => rfl)) pa_nil)))))))))
  (pss_one (ps_ret (pv 4)))))), ?_⟩
    have nlw : (ws.map V.str).length = ws.length := List.length_map ..
    have nS : (nats S).length = S.length := nats_len S
    refine q_asgL (xs := nats (ends S ws.length)) (el_is (el_catN (el_sl (ev_var rfl) (eo_some ev_c) eo_none hq) (el_lst (ea_cons (ev_cb (ea_cons (ev_var rfl) ea_nil) (rc_lenL hp)) ea_nil) (show 1 ≤ 100000 by decide)) ?_) (by rw [nlw]; exact nats_ends S ws.length)) fun en H1 en0 e1 h1 => ?_
    · have e : cutV (nats S) (some 1) none = (nats S).drop 1 := cutV_from 1
      rw [e, List.length_drop, nats_len]
      show _ + 1 ≤ _
      omega
    refine q_asg (v := .int (sumTo ws wd S 0)) ev_c fun H2 e2 => ?_
    have e12 := e1.trans e2
    refine q_forR1 (n := (nats S).length) (ea_cons (ev_cb (ea_cons (ev_var rfl) ea_nil) (rc_lenL (ex_l e12 hq))) ea_nil) (by omega) (fun i σ' H' => ∃ x, σ' = [some (.ref p), some (.int wd), some (.ref q), some (.ref en), some (.int (sumTo ws wd S i)), x] ∧ Ex H2 H') (fun H3 e3 => ⟨none, rfl, e3⟩) ?_ ?_
    · rintro i σ' H' hi ⟨x, rfl, e⟩
      have hi' : i < S.length := by omega
      have g1 : S[i]? = some (S.getD i 0) := by rw [List.getD_eq_getElem?_getD, List.getElem?_eq_getElem hi'] <;> rfl
      have el : (ends S ws.length).length = S.length := by
        unfold ends
        rw [List.length_append, List.length_drop]
        show _ - 1 + 1 = _
        omega
      have g2 : (ends S ws.length)[i]? = some ((ends S ws.length).getD i 0) := by rw [List.getD_eq_getElem?_getD, List.getElem?_eq_getElem (by omega)] <;> rfl
      obtain ⟨f1, f2, f3⟩ := hf.fit i _ _ g1 g2
      refine s_asg (v := .int (sumTo ws wd S (i + 1))) (ev_is (ev_op (ev_var rfl) (ev_call (ea_cons (ev_var rfl) (ea_cons (ev_var rfl) (ea_cons (ev_op (ev_var rfl) (ev_var rfl) (rv_ixL (ex_l (e12.trans e) hq) (atI_nat (nats_at g1)))) (ea_cons (ev_op (ev_var rfl) (ev_var rfl) (rv_ixL (sq_of (e _ _ (e2 _ _ h1))) (atI_nat (nats_at g2)))) ea_nil)))) fun H6 e6 Q' qq E' => ⟨p, ws, _, _, wd, rfl, ex_l ((e12.trans e).trans e6) hp, hz, hl, Nat.le_of_lt f1, f2, hw, qq⟩) rv_I0) (by rw [sumTo_succ])) fun H3 e3 => ⟨_, rfl, e.trans e3⟩
    · rintro σ' H' ⟨x, rfl, e⟩
      rw [nS]
      exact s_ret (ev_var rfl) fun H3 e3 => k H3 ((e12.trans e).trans e3)

/-! ### other starts that fit -/
structure FitP (ws : List Str) (w : Int) (n : Nat) (S : List Nat) : Prop where
  nil : S = [] → n = 0
  zero : ∀ s : Nat, S[0]? = some s → s = 0
  le : n ≤ ws.length
  few : S.length ≤ n
  fit : ∀ (k s e : Nat), S[k]? = some s → (ends S n)[k]? = some e → s < e ∧ e ≤ n ∧ (sizeN ws s e : Int) ≤ w
theorem FitP.zero0 {ws : List Str} {w : Int} : FitP ws w 0 [] := ⟨fun _ => rfl, fun s h => by simp at h, Nat.zero_le _, Nat.le_refl _, fun k s e h => by simp at h⟩
theorem FitP.done {ws : List Str} {w : Int} {S : List Nat} (p : FitP ws w ws.length S) : FitS ws w S := ⟨fun h => List.length_eq_zero_iff.mp (p.nil h), p.zero, p.fit⟩
theorem FitP.push {ws : List Str} {w : Int} {a e : Nat} {S : List Nat} (p : FitP ws w a S) (h : a < e) (he : e ≤ ws.length) (hs : (sizeN ws a e : Int) ≤ w) : FitP ws w e (S ++ [a]) := by
  refine ⟨fun q => by simp at q, fun s hs' => ?_, he, by rw [List.length_append, List.length_singleton]; have := p.few; omega, fun k s e' h1 h2 => ?_⟩
  · rcases Nat.eq_zero_or_pos S.length with h0 | h0
    · have e0 := List.length_eq_zero_iff.mp h0
      rw [e0] at hs'
      cases hs'
      exact p.nil e0
    · rw [List.getElem?_append_left h0] at hs'
      exact p.zero s hs'
  · have hk : k < S.length + 1 := by
      have := (List.getElem?_eq_some_iff.mp h1).1
      rw [List.length_append, List.length_singleton] at this
      exact this
    rw [ends_at (by rw [List.length_append, List.length_singleton]; exact hk)] at h2
    by_cases hk2 : k < S.length
    · rw [List.getElem?_append_left hk2] at h1
      rw [dif_pos (by rw [List.length_append, List.length_singleton]; omega)] at h2
      have q : (ends S a)[k]? = some e' := by
        rw [ends_at hk2]
        by_cases h3 : k + 1 < S.length
        · rw [dif_pos h3]
          rw [List.getElem_append_left h3] at h2
          exact h2
        · rw [dif_neg h3]
          rw [List.getElem_append_right (by omega)] at h2
          simpa using h2
      obtain ⟨a1, a2, a3⟩ := p.fit k s e' h1 q
      exact ⟨a1, by omega, a3⟩
    · have hk3 : k = S.length := by omega
      subst hk3
      rw [dif_neg (by rw [List.length_append, List.length_singleton]; omega)] at h2
      rw [List.getElem?_append_right (Nat.le_refl _), Nat.sub_self] at h1
      cases h1
      cases h2
      exact ⟨h, Nat.le_refl _, hs⟩
structure Greedy (ws : List Str) (w : Int) (S : List Nat) (a : Nat) : Prop where
  next : ∀ (k : Nat) (h : k + 1 < S.length), w < (sizeN ws S[k] (S[k + 1] + 1) : Int)
  last : ∀ (k : Nat) (h : k + 1 = S.length), a < ws.length → w < (sizeN ws S[k] (a + 1) : Int)
theorem Greedy.push {ws : List Str} {w : Int} {S : List Nat} {a e : Nat} (g : Greedy ws w S a) (ha : a < ws.length) (he : e < ws.length → w < (sizeN ws a (e + 1) : Int)) : Greedy ws w (S ++ [a]) e := by
  have l1 : (S ++ [a]).length = S.length + 1 := by rw [List.length_append] <;> rfl
  have ga : ∀ k (h : k < S.length) (h2 : k < (S ++ [a]).length), (S ++ [a])[k] = S[k] := fun k h h2 => List.getElem_append_left h
  have gl : ∀ k (h : k = S.length) (h2 : k < (S ++ [a]).length), (S ++ [a])[k] = a := fun k h h2 => by
    subst h
    simp
  refine ⟨fun k h => ?_, fun k h => ?_⟩
  · rcases Nat.lt_or_ge (k + 1) S.length with c | c
    · rw [ga k (by omega) (by omega), ga (k + 1) c h]
      exact g.next k c
    · rw [ga k (by omega) (by omega), gl (k + 1) (by omega) h]
      exact g.last k (by omega) ha
  · rw [gl k (by omega) (by omega)]
    exact he
def sp_others (K : PySem.W.Frag) : Sp := fun vs H Q _ => ∃ (c p : Addr) (ns : List Int) (ws : List Str) (wd : Int), vs = [.ref c, .ref p, .int wd] ∧ SqL K H c (ns.map V.int) ∧ SqL K H p (ws.map V.str) ∧ (∀ z ∈ ws, Wd z) ∧ (∀ z ∈ ws, (z.length : Int) ≤ wd) ∧ ws.length ≤ 2000 ∧
  ∀ S, FitS ws wd S → S.length ≤ ws.length → (ns = [] → Full ws wd S) → RetL (nats S) H Q
theorem ok_l_others_by (T : Txt K mg A) : FnOk P w K mg base CX0 2 A.f_l_others_by A.d_l_others_by ["_law_cells", "_law_row", "_law_width"] (sp_others K) := by
  refine T.F_l_others_by.ok sc_l_others_by (fun vs H Q E h => ?_) (fun cdv Ar outer s H vs Q E hr h => ?_)
  · obtain ⟨c, p, ns, ws, wd, rfl, _⟩ := h
    rfl
  · obtain ⟨c, p, ns, ws, wd, rfl, hc, hp, hwd, hfit, hl, k⟩ := h
    refine ⟨_, (pss_cons (ps_set (i := 3) sc_l_others_by.nd rfl (.inl rfl) (pe_lst pa_nil))
  (pss_cons (ps_set (i := 4) sc_l_others_by.nd rfl (.inl rfl) pe_int)
  (pss_cons (ps_while PassesOwn.never (pt_cmpR op_lt (pv 4) (pe_callB call_len_seq (by rfl) T.m_len PySem.boot_len (pa_cons (pv 1) pa_nil)) (nomark _))
  (pss_cons (ps_set (i := 5) sc_l_others_by.nd rfl (.inl rfl) (pe_op op_add (pv 4) pe_int))
  (pss_cons (ps_while PassesOwn.never (PW.pt (pw_and (pt_cmpR op_lt (pv 5) (pe_callB call_len_seq (by rfl) T.m_len PySem.boot_len (pa_cons (pv 1) pa_nil)) (nomark _)) (pw_and1 (pt_cmpR op_le (pe_call (ok_l_size T) (hr.mono (by decide)) rfl T.g_l_size T.F_l_size.kp T.b_l_size .nil pass0 (pa_cons (pv 1) (pa_cons (pv 4) (pa_cons (pe_op op_add (pv 5) pe_int) pa_nil)))) (pv 2) (nomark _)))))
  (pss_one (ps_set (i := 5) sc_l_others_by.nd rfl (.inl rfl) (pe_op op_add (pv 5) pe_int))))
  (Evl.pss_cut (ps_if (pt_cmpR op_lt (pe_callB call_len_seq (by rfl) T.m_len PySem.boot_len (pa_cons (pv 3) pa_nil)) (pe_callB call_len_seq (by rfl) T.m_len PySem.boot_len (pa_cons (pv 0) pa_nil)) (nomark _))
  (pss_cons (ps_set (i := 6) sc_l_others_by.nd rfl (.inl rfl) (pe_ix (ixL (K := K) rfl) (pv 0) (pe_callB call_len_seq (by rfl) T.m_len PySem.boot_len (pa_cons (pv 3) pa_nil)) (fun _ _ => rfl)))
  (pss_one (ps_set (i := 5) sc_l_others_by.nd rfl (.inl rfl) (pe_ix (ixL (K := K) rfl) (pe_lst (pa_cons (pv 5) (pa_cons (pv 5) (pa_cons (pe_callB (call_max2 rfl) (by rfl) T.m_max (by decide +kernel) (pa_cons (pe_op op_add (pv 4) pe_int) (pa_cons (pe_op op_sub (pv 5) pe_int) pa_nil))) (pa_cons (pe_op op_add (pe_op op_add (pv 4) pe_int) (pe_op op_mod (pe_op op_fdiv (pv 6) pe_int) (pe_op op_sub (pv 5) (pv 4)))) pa_nil))))) (pe_op op_mod (pv 6) pe_int) (fun _ _ => rfl)))))
  pss_nil)
  (pss_cons (ps_expr (pe_bm PySem.F.plainAttrs_list PySem.F.slot_list_append PySem.F.type_list_append mt_append (pv 3) (pa_cons (pv 4) pa_nil)))
  (pss_one (ps_set (i := 4) sc_l_others_by.nd rfl (.inl rfl) (pv 5))))))))
  (pss_one (ps_ret (pv 3)))))), ?_⟩
    have hz : ∀ z ∈ ws, z.length ≤ 300 := fun z h => (hwd z h).2.2
    have nl : (ws.map V.str).length = ws.length := List.length_map ..
    have nc : (ns.map V.int).length = ns.length := List.length_map ..
    refine q_asgL (xs := []) (el_lst ea_nil (Nat.zero_le _)) fun l H1 l0 e1 hl1 => ?_
    refine q_asg (v := .int ((0 : Nat) : Int)) ev_c fun H2 e2 => ?_
    refine q_while (fun m σ' H' => ∃ S at_ x5 x6, σ' = [some (.ref c), some (.ref p), some (.int wd), some (.ref l), some (.int ((at_ : Nat) : Int)), x5, x6] ∧ Ex H H' ∧ H' l = some (.lst (nats S)) ∧ FitP ws wd at_ S ∧ (ns = [] → Greedy ws wd S at_) ∧ m = ws.length - at_) ws.length
      ⟨[], 0, none, none, rfl, e1.trans e2, e2 _ _ hl1, FitP.zero0, fun _ => ⟨fun k h => absurd h (by simp), fun k h => absurd h (by simp)⟩, rfl⟩ ?_
    rintro m σ' H' ⟨S, at_, x5, x6, rfl, e, hlS, hP, hGr, rfl⟩
    refine ⟨decide (((at_ : Nat) : Int) < ((ws.map V.str).length : Nat)), et_test (ev_op (ev_var rfl) (ev_cb (ea_cons (ev_var rfl) ea_nil) (rc_lenL (ex_l e hp))) rv_I0), fun hb H3 e3 => ?_, fun hb H3 e3 => ?_⟩
    · have hat : at_ < ws.length := by
        have := of_decide_eq_true hb
        omega
      have hy : ws[at_]? = some ws[at_] := List.getElem?_eq_getElem hat
      have hym := List.getElem_mem hat
      refine ⟨fun σ2 H2 => ∃ S' a' x5 x6, σ2 = [some (.ref c), some (.ref p), some (.int wd), some (.ref l), some (.int ((a' : Nat) : Int)), x5, x6] ∧ Ex H H2 ∧ H2 l = some (.lst (nats S')) ∧ FitP ws wd a' S' ∧ (ns = [] → Greedy ws wd S' a') ∧ at_ < a', fun σ2 H2 ⟨S', a', x5, x6, h1, h2, h3, h4, hg, h5⟩ => ⟨ws.length - a', by have := h4.le; omega, S', a', x5, x6, h1, h2, h3, h4, hg, rfl⟩, ?_⟩
      refine q_asg (v := .int ((at_ + 1 : Nat) : Int)) (ev_is (ev_op (ev_var rfl) ev_c rv_I0) (by congr 1)) fun H4 e4 => ?_
      have e34 := (e.trans e3).trans e4
      -- as many as fit
      refine q_while (fun m σ' H' => ∃ en x6, σ' = [some (.ref c), some (.ref p), some (.int wd), some (.ref l), some (.int ((at_ : Nat) : Int)), some (.int ((en : Nat) : Int)), x6] ∧ Ex H H' ∧ H' l = some (.lst (nats S)) ∧ at_ < en ∧ en ≤ ws.length ∧ (sizeN ws at_ en : Int) ≤ wd ∧ m = ws.length - en) (ws.length - (at_ + 1))
        ⟨at_ + 1, _, rfl, e34, e4 _ _ (e3 _ _ hlS), Nat.lt_succ_self _, hat, by rw [size_one hy]; exact hfit _ hym, rfl⟩ ?_
      rintro m2 σ2 H5 ⟨en, x6', rfl, e5, hl5, g1, g2, g3, rfl⟩
      refine ⟨decide (((en : Nat) : Int) < ((ws.map V.str).length : Nat)) && decide ((sizeN ws at_ (en + 1) : Int) ≤ wd), et_and (et_test (ev_op (ev_var rfl) (ev_cb (ea_cons (ev_var rfl) ea_nil) (rc_lenL (ex_l e5 hp))) rv_I0)) fun q => et_test (ev_op (ev_call (ea_cons (ev_var rfl) (ea_cons (ev_var rfl) (ea_cons (ev_is (ev_op (ev_var rfl) ev_c rv_I0) (show V.int ((en : Int) + 1) = V.int ((en + 1 : Nat) : Int) by congr 1)) ea_nil))) fun H6 e6 Q' q' E' => ⟨p, ws, at_, en + 1, rfl, ex_l (e5.trans e6) hp, hz, hl, by omega, by have := of_decide_eq_true q; omega, q'⟩) (ev_var rfl) rv_I0), fun hb2 H6 e6 => ?_, fun hb2 H6 e6 => ?_⟩
      · rw [Bool.and_eq_true] at hb2
        have q1 := of_decide_eq_true hb2.1
        have q2 := of_decide_eq_true hb2.2
        refine ⟨fun σ2 H2 => ∃ en' x6, σ2 = [some (.ref c), some (.ref p), some (.int wd), some (.ref l), some (.int ((at_ : Nat) : Int)), some (.int ((en' : Nat) : Int)), x6] ∧ Ex H H2 ∧ H2 l = some (.lst (nats S)) ∧ at_ < en' ∧ en' ≤ ws.length ∧ (sizeN ws at_ en' : Int) ≤ wd ∧ en < en', fun σ2 H2 ⟨en', x6, h1, h2, h3, h4, h5, h6, h7⟩ => ⟨ws.length - en', by omega, en', x6, h1, h2, h3, h4, h5, h6, rfl⟩, ?_⟩
        exact s_asg (v := .int ((en + 1 : Nat) : Int)) (ev_is (ev_op (ev_var rfl) ev_c rv_I0) (by congr 1)) fun H7 e7 => ⟨en + 1, _, rfl, (e5.trans e6).trans e7, e7 _ _ (e6 _ _ hl5), by omega, by omega, q2, by omega⟩
      · -- less, by a cell
        have e56 := e5.trans e6
        have hl6 := e6 _ _ hl5
        have hSl : S.length ≤ ws.length := by have := hP.few; have := hP.le; omega
        refine q_cut (M := fun σ2 H2 => ∃ en' x6, σ2 = [some (.ref c), some (.ref p), some (.int wd), some (.ref l), some (.int ((at_ : Nat) : Int)), some (.int ((en' : Nat) : Int)), x6] ∧ Ex H H2 ∧ H2 l = some (.lst (nats S)) ∧ at_ < en' ∧ en' ≤ en ∧ (ns = [] → en' = en)) ?_ ?_
        · refine s_when (b := decide (((nats S).length : Int) < ((ns.map V.int).length : Nat))) (et_test (ev_op (ev_cb (ea_cons (ev_var rfl) ea_nil) (rc_lenL (sq_of hl6))) (ev_cb (ea_cons (ev_var rfl) ea_nil) (rc_lenL (ex_l e56 hc))) rv_I0)) (fun hb3 H7 e7 => ?_) (fun hb3 H7 e7 => ?_)
          · have hSn : S.length < ns.length := by
              have := of_decide_eq_true hb3
              rw [nats_len] at this
              omega
            have gx : (ns.map V.int)[(nats S).length]? = some (.int ns[S.length]) := by
              rw [nats_len, List.getElem?_map, List.getElem?_eq_getElem hSn] <;> rfl
            refine q_asg (v := .int ns[S.length]) (ev_op (ev_var rfl) (ev_cb (ea_cons (ev_var rfl) ea_nil) (rc_lenL (sq_of (e7 _ _ hl6)))) (rv_ixL (ex_l (e56.trans e7) hc) (atI_nat gx))) fun H8 e8 => ?_
            generalize ns[S.length] = cl
            have hd : 0 < (en : Int) - (at_ : Int) := by omega
            have m0 : 0 ≤ cl / 4 % ((en : Int) - (at_ : Int)) := Int.emod_nonneg _ (by omega)
            have m1 : cl / 4 % ((en : Int) - (at_ : Int)) < (en : Int) - (at_ : Int) := Int.emod_lt_of_pos _ hd
            obtain ⟨v, hv, v1, v2⟩ : ∃ v : Nat, atI [V.int (en : Int), V.int (en : Int), V.int (max ((at_ : Int) + 1) ((en : Int) - 1)), V.int ((at_ : Int) + 1 + cl / 4 % ((en : Int) - (at_ : Int)))] (cl % 4) = some (.int (v : Int)) ∧ at_ < v ∧ v ≤ en := by
              have h4 : cl % 4 = 0 ∨ cl % 4 = 1 ∨ cl % 4 = 2 ∨ cl % 4 = 3 := by omega
              rcases h4 with h | h | h | h <;> rw [h]
              · exact ⟨en, atI_nat (j := 0) rfl, g1, Nat.le_refl _⟩
              · exact ⟨en, atI_nat (j := 1) rfl, g1, Nat.le_refl _⟩
              · refine ⟨(max ((at_ : Int) + 1) ((en : Int) - 1)).toNat, ?_, by omega, by omega⟩
                rw [show (((max ((at_ : Int) + 1) ((en : Int) - 1)).toNat : Nat) : Int) = max ((at_ : Int) + 1) ((en : Int) - 1) by omega]
                exact atI_nat (j := 2) rfl
              · refine ⟨((at_ : Int) + 1 + cl / 4 % ((en : Int) - (at_ : Int))).toNat, ?_, by omega, by omega⟩
                rw [show ((((at_ : Int) + 1 + cl / 4 % ((en : Int) - (at_ : Int))).toNat : Nat) : Int) = (at_ : Int) + 1 + cl / 4 % ((en : Int) - (at_ : Int)) by omega]
                exact atI_nat (j := 3) rfl
            refine s_asg (v := .int (v : Int)) (ev_opL1 (xs := [V.int (en : Int), V.int (en : Int), V.int (max ((at_ : Int) + 1) ((en : Int) - 1)), V.int ((at_ : Int) + 1 + cl / 4 % ((en : Int) - (at_ : Int)))]) (y := .int (cl % 4)) (el_lst (ea_cons (ev_var rfl) (ea_cons (ev_var rfl) (ea_cons (ev_maxx (by walk_at "ev") (by walk_at "ev")) (ea_cons (ev_op (by walk_at "ev") (ev_op (by walk_at "ev") (by walk_at "ev") (rv_I hd)) rv_I0) ea_nil)))) (show 4 ≤ 100000 by decide)) (fun H5 e5 => by walk_at "ev") fun q H5 hq e5 => rv_ixL (sq_of hq) hv) fun H9 e9 => ?_
            exact ⟨v, _, rfl, ((e56.trans e7).trans e8).trans e9, e9 _ _ (e8 _ _ (e7 _ _ hl6)), v1, v2, fun q => by rw [q] at hSn; exact absurd hSn (Nat.not_lt_zero _)⟩
          · exact ⟨en, _, rfl, e56.trans e7, e7 _ _ hl6, g1, Nat.le_refl _, fun _ => rfl⟩
        · rintro σ3 H7 ⟨en', x6'', rfl, e7, hl7, v1, v2, v3⟩
          have hsz := size_mono (ws := ws) (b := at_) (e := en') (b' := at_) (e' := en) v1 (Nat.le_refl _) v2 g2
          refine q_app (xs := nats S) (v := .int (at_ : Int)) hl7 (ev_var rfl) (ev_var rfl) (by rw [nats_len]; omega) fun H8 e8 => ?_
          refine s_asg (v := .int (en' : Int)) (ev_var rfl) fun H9 e9 => ?_
          refine ⟨S ++ [at_], en', _, _, rfl, (Ex.mut (e7.trans e8) l0).trans e9, ?_, hP.push v1 (by omega) (by omega), fun hn => (hGr hn).push hat fun hen => ?_, v1⟩
          · rw [← nats_snoc]
            exact e9 _ _ upd_same
          · have e0 := v3 hn
            subst e0
            refine Int.not_le.mp fun q => ?_
            rw [decide_eq_true (show ((en' : Nat) : Int) < ((ws.map V.str).length : Nat) by omega), decide_eq_true q] at hb2
            cases hb2
    · have hat : at_ = ws.length := by
        have := of_decide_eq_false hb
        have := hP.le
        omega
      subst hat
      exact s_ret (v := .ref l) (ev_var rfl) fun H5 e5 => k S hP.done hP.few (fun hn k h => (hGr hn).next k h) l H5 l0 ((e.trans e3).trans e5) (e5 _ _ (e3 _ _ hlS))

/-! ### are_starts of any numbers -/
theorem zs_nats (S : List Nat) : (zsOf S).map V.int = nats S := by
  unfold zsOf nats
  rw [List.map_map] <;> rfl
theorem zs_len (S : List Nat) : (zsOf S).length = S.length := List.length_map ..
theorem zs_back {zs : List Int} (h : ∀ z ∈ zs, 0 ≤ z) : zsOf (zs.map Int.toNat) = zs := by
  unfold zsOf
  rw [List.map_map]
  have e : zs.map ((fun (k : Nat) => (k : Int)) ∘ Int.toNat) = zs.map id := List.map_congr_left fun z hz => by
    have := h z hz
    show ((z.toNat : Nat) : Int) = z
    omega
  rw [e, List.map_id]
theorem zs_at {zs : List Int} {i : Nat} (h : i < zs.length) : (zs.map V.int)[i]? = some (.int (zs.getD i 0)) := by
  rw [List.getElem?_map, List.getElem?_eq_getElem h, List.getD_eq_getElem?_getD, List.getElem?_eq_getElem h] <;> rfl
theorem zs_getD (S : List Nat) {i : Nat} (h : i < S.length) : (zsOf S).getD i 0 = ((S.getD i 0 : Nat) : Int) := by
  unfold zsOf
  rw [List.getD_eq_getElem?_getD, List.getElem?_map, List.getElem?_eq_getElem h, List.getD_eq_getElem?_getD, List.getElem?_eq_getElem h] <;> rfl
def endsZ (zs : List Int) (n : Nat) : List Int := zs.drop 1 ++ [(n : Int)]
theorem endsZ_zs (S : List Nat) (n : Nat) : endsZ (zsOf S) n = zsOf (ends S n) := by
  unfold endsZ ends zsOf
  rw [List.map_append, List.map_drop] <;> rfl
theorem endsZ_len (zs : List Int) (n : Nat) : (endsZ zs n).length = zs.length - 1 + 1 := by
  unfold endsZ
  rw [List.length_append, List.length_drop] <;> rfl
theorem ends_get {S : List Nat} {n i : Nat} (hi : i < S.length) : (ends S n)[i]? = some ((ends S n).getD i 0) := by
  have el : (ends S n).length = S.length := by
    unfold ends
    rw [List.length_append, List.length_drop]
    show _ - 1 + 1 = _
    omega
  rw [List.getD_eq_getElem?_getD, List.getElem?_eq_getElem (by omega)] <;> rfl
theorem get_get {S : List Nat} {i : Nat} (hi : i < S.length) : S[i]? = some (S.getD i 0) := by rw [List.getD_eq_getElem?_getD, List.getElem?_eq_getElem hi] <;> rfl
def Are (ws : List Str) (w : Int) (zs : List Int) : Prop := ∃ S, zs = zsOf S ∧ FitS ws w S
def sp_arI (K : PySem.W.Frag) : Sp := fun vs H Q _ => ∃ (p q : Addr) (ws : List Str) (wd : Int) (zs : List Int), vs = [.ref p, .int wd, .ref q] ∧ SqL K H p (ws.map V.str) ∧ SqL K H q (zs.map V.int) ∧ (∀ z ∈ ws, Wd z) ∧ ws.length ≤ 2000 ∧ zs.length ≤ 9000 ∧ (∀ z ∈ zs, 0 ≤ z ∧ z ≤ (ws.length : Int)) ∧
  ∀ b : Bool, (b = true → Are ws wd zs) → (Are ws wd zs → b = true) → RetV (.bl b) H Q
theorem ok_l_are_starts (T : Txt K mg A) : FnOk P w K mg base CX0 3 A.f_l_are_starts A.d_l_are_starts ["_law_row", "_law_width", "_law_found"] (sp_arI K) := by
  refine T.F_l_are_starts.ok sc_l_are_starts (fun vs H Q E h => ?_) (fun cdv Ar outer s H vs Q E hr h => ?_)
  · obtain ⟨p, q, ws, wd, zs, rfl, _⟩ := h
    rfl
  · obtain ⟨p, q, ws, wd, zs, rfl, hp, hq, hwd, hl, hzl, hb, k⟩ := h
    refine ⟨_, (pss_cons (ps_if (pt_not (pt_val (pe_call (ok_l_wholes T) (hr.mono (by decide)) rfl T.g_l_wholes T.F_l_wholes.kp T.b_l_wholes .nil pass0 (pa_cons (pv 2) pa_nil))))
  (pss_one (ps_ret pe_bl))
  pss_nil)
  (pss_cons (ps_set (i := 3) sc_l_are_starts.nd rfl (.inl rfl) (pe_op op_cat (pe_slice (TwE.slE (K := K) rfl) (pv 2) (po_some pe_int) po_none) (pe_lst (pa_cons (pe_callB call_len_seq (by rfl) T.m_len PySem.boot_len (pa_cons (pv 0) pa_nil)) pa_nil))))
  (pss_cons (ps_if (pt_cmpR (op_eqD hr.units) (pv 2) (pe_lst pa_nil) (nomark _))
  (pss_one (ps_ret (pe_cmpR (op_eqD hr.units) (pv 0) (pe_lst pa_nil) (nomark _))))
  pss_nil)
  (pss_cons (ps_if (pt_cmpR op_ne (pe_ix (ixL (K := K) rfl) (pv 2) pe_int (fun _ _ => rfl)) pe_int (nomark _))
  (pss_one (ps_ret pe_bl))
  pss_nil)
  (pss_cons (ps_for PassesOwn.never rfl (pi_range1 (by rfl) T.m_range (pa_cons (pe_callB call_len_seq (by rfl) T.m_len PySem.boot_len (pa_cons (pv 2) pa_nil)) pa_nil)) (pg_name (i := 4) sc_l_are_starts.nd rfl (.inl rfl))
  (pss_one (ps_if (PW.pt (pw_or (pt_not (pt_cmpR op_lt (pe_ix (ixL (K := K) rfl) (pv 2) (pv 4) (fun _ _ => rfl)) (pe_ix (ixL (K := K) rfl) (pv 3) (pv 4) (fun _ _ => rfl)) (nomark _))) (pw_or1 (pt_cmpR op_gt (pe_call (ok_l_size T) (hr.mono (by decide)) rfl T.g_l_size T.F_l_size.kp T.b_l_size .nil pass0 (pa_cons (pv 0) (pa_cons (pe_ix (ixL (K := K) rfl) (pv 2) (pv 4) (fun _ _ => rfl)) (pa_cons (pe_ix (ixL (K := K) rfl) (pv 3) (pv 4) (fun _ _ => rfl)) pa_nil)))) (pv 1) (nomark _)))))
  (pss_one (ps_ret pe_bl))
  pss_nil)))
  (pss_one (ps_ret pe_bl))))))), ?_⟩
    have hz : ∀ z ∈ ws, z.length ≤ 300 := fun z h => (hwd z h).2.2
    have hlt : ∀ z ∈ ws, ∀ c ∈ TL.tl z, c < 1114112 := fun z h => (hwd z h).lt
    have nl : (ws.map V.str).length = ws.length := List.length_map ..
    have nz : (zs.map V.int).length = zs.length := List.length_map ..
    refine q_when (b := false) (et_is (a := !true) (et_not (et_B (ev_call (ea_cons (ev_var rfl) ea_nil) fun H3 e3 Q' q' E' => ⟨q, zs, rfl, ex_l e3 hq, q'⟩))) rfl) (fun hb => nomatch hb) (fun _ H1 e1 => ?_)
    refine q_asgL (xs := (endsZ zs ws.length).map V.int) (el_is (el_catN (el_sl (ev_var rfl) (eo_some (i := ((1 : Nat) : Int)) ev_c) eo_none (ex_l e1 hq)) (el_lst (ea_cons (ev_cb (ea_cons (ev_var rfl) ea_nil) (rc_lenL (ex_l e1 hp))) ea_nil) (show 1 ≤ 100000 by decide)) (by rw [cutV_from, List.length_drop, nz]; show _ + 1 ≤ _; omega)) (by rw [cutV_from, nl]; unfold endsZ; rw [List.map_append, List.map_drop] <;> rfl)) fun en H2 en0 e2 h2 => ?_
    have e12 := e1.trans e2
    by_cases hn : zs = []
    · subst hn
      refine q_when (b := true) (et_is (et_test (ev_opL (xs := ([] : List Int).map V.int) (ev_var rfl) (el_lst ea_nil (Nat.zero_le _)) fun q H5 hq' e5 => rv_eqI (l := []) (ex_l (e12.trans e5) hq) (sq_of hq'))) rfl) (fun _ H3 e3 => ?_) (fun hb => nomatch hb)
      refine s_ret (v := .bl (decide (ws = []))) (ev_opL (xs := ([] : List Str).map V.str) (ev_var rfl) (el_lst ea_nil (Nat.zero_le _)) fun q H5 hq e5 => rv_eqS (l := ws) (ex_l ((e12.trans e3).trans e5) hp) (sq_of hq) hlt (fun z h => absurd h (List.not_mem_nil))) fun H4 e4 => k _ (fun h => ?_) (fun h => ?_) H4 ((e12.trans e3).trans e4)
      · have h0 := of_decide_eq_true h
        exact ⟨[], rfl, ⟨fun _ => h0, fun s h => by simp at h, fun k s e h => by simp at h⟩⟩
      · obtain ⟨S, h1, h2⟩ := h
        have hS : S = [] := List.map_eq_nil_iff.mp h1.symm
        exact decide_eq_true (h2.nil hS)
    · have hpos : 0 < zs.length := List.length_pos_iff.mpr hn
      refine q_when (b := false) (et_is (et_test (ev_opL (xs := ([] : List Int).map V.int) (ev_var rfl) (el_lst ea_nil (Nat.zero_le _)) fun q H5 hq' e5 => rv_eqI (l := zs) (ex_l (e12.trans e5) hq) (sq_of hq'))) (decide_eq_false hn)) (fun hb => nomatch hb) (fun _ H3 e3 => ?_)
      refine q_when (b := !decide (V.int (zs.getD 0 0) = V.int 0)) (et_test (ev_op (ev_op (ev_var rfl) ev_c (rv_ixL (ex_l (e12.trans e3) hq) (atI_nat (j := 0) (zs_at hpos)))) ev_c (rv_ne rfl))) (fun hb0 H4 e4 => ?_) (fun hb0 H4 e4 => ?_)
      · refine s_ret (v := .bl false) ev_c fun H5 e5 => k false (fun h => nomatch h) (fun h => ?_) H5 (((e12.trans e3).trans e4).trans e5)
        obtain ⟨S, rfl, hf⟩ := h
        rw [zs_len] at hpos
        rw [zs_getD S hpos, hf.zero (S.getD 0 0) (get_get hpos)] at hb0
        simp at hb0
      · have h00 : zs.getD 0 0 = 0 := by
          by_cases c : zs.getD 0 0 = 0
          · exact c
          · rw [decide_eq_false (fun q => c (by injection q))] at hb0
            cases hb0
        have e14 := (e12.trans e3).trans e4
        have en4 := e4 _ _ (e3 _ _ h2)
        have ezl := endsZ_len zs ws.length
        have ebd : ∀ i, i < zs.length → 0 ≤ (endsZ zs ws.length).getD i 0 ∧ (endsZ zs ws.length).getD i 0 ≤ (ws.length : Int) := fun i hi => by
          have hm : (endsZ zs ws.length).getD i 0 ∈ endsZ zs ws.length := by
            rw [List.getD_eq_getElem?_getD, List.getElem?_eq_getElem (by omega)]
            exact List.getElem_mem _
          unfold endsZ at hm ⊢
          rcases List.mem_append.mp hm with c | c
          · exact hb _ (List.mem_of_mem_drop c)
          · rw [List.mem_singleton.mp c]
            omega
        refine q_forR1 (n := (zs.map V.int).length) (ea_cons (ev_cb (ea_cons (ev_var rfl) ea_nil) (rc_lenL (ex_l e14 hq))) ea_nil) (by omega) (fun i σ' H' => ∃ x, σ' = [some (.ref p), some (.int wd), some (.ref q), some (.ref en), x] ∧ Ex H4 H' ∧ ∀ j, j < i → zs.getD j 0 < (endsZ zs ws.length).getD j 0 ∧ (sizeN ws (zs.getD j 0).toNat ((endsZ zs ws.length).getD j 0).toNat : Int) ≤ wd) (fun H5 e5 => ⟨none, rfl, e5, fun j hj => absurd hj (Nat.not_lt_zero _)⟩) ?_ ?_
        · rintro i σ' H' hi ⟨x, rfl, e, hf⟩
          have hi' : i < zs.length := by omega
          have hze : (endsZ zs ws.length).length = zs.length := by omega
          obtain ⟨z0, z1⟩ := hb (zs.getD i 0) (by rw [List.getD_eq_getElem?_getD, List.getElem?_eq_getElem hi']; exact List.getElem_mem _)
          obtain ⟨z2, z3⟩ := ebd i hi'
          have c1 : (((zs.getD i 0).toNat : Nat) : Int) = zs.getD i 0 := Int.toNat_of_nonneg z0
          have c2 : ((((endsZ zs ws.length).getD i 0).toNat : Nat) : Int) = (endsZ zs ws.length).getD i 0 := Int.toNat_of_nonneg z2
          have ix1 : ∀ {H5 : Hp} {σ : L2.St}, Ex H' H5 → σ[2]? = some (some (.ref q)) → σ[4]? = some (some (.int (i : Int))) → Ev (tOp (rIxL K) (tVar 2) (tVar 4)) σ H5 (.int (zs.getD i 0)) := fun e5 g2 g4 => ev_op (ev_var g2) (ev_var g4) (rv_ixL (ex_l ((e14.trans e).trans e5) hq) (atI_nat (zs_at hi')))
          have ix2 : ∀ {H5 : Hp} {σ : L2.St}, Ex H' H5 → σ[3]? = some (some (.ref en)) → σ[4]? = some (some (.int (i : Int))) → Ev (tOp (rIxL K) (tVar 3) (tVar 4)) σ H5 (.int ((endsZ zs ws.length).getD i 0)) := fun e5 g3 g4 => ev_op (ev_var g3) (ev_var g4) (rv_ixL (sq_of (e5 _ _ (e _ _ en4))) (atI_nat (zs_at (by omega))))
          refine s_when (b := !decide (zs.getD i 0 < (endsZ zs ws.length).getD i 0) || decide (wd < (sizeN ws (zs.getD i 0).toNat ((endsZ zs ws.length).getD i 0).toNat : Int))) (et_or (et_not (et_test (ev_op (ix1 (Ex.refl H') rfl rfl) (ix2 (Ex.refl H') rfl rfl) rv_I0))) fun hlt2 => et_test (ev_op (ev_call (ea_cons (ev_var rfl) (ea_cons (ev_is (ix1 (Ex.refl H') rfl rfl) (by rw [c1])) (ea_cons (ev_is (ix2 (Ex.refl H') rfl rfl) (by rw [c2])) ea_nil))) fun H5 e5 Q' q' E' => ⟨p, ws, (zs.getD i 0).toNat, ((endsZ zs ws.length).getD i 0).toNat, rfl, ex_l ((e14.trans e).trans e5) hp, hz, hl, ?_, by omega, q'⟩) (ev_var rfl) rv_I0)) (fun hbb H5 e5 => ?_) (fun hbb H5 e5 => ⟨_, rfl, e.trans e5, fun j hj => ?_⟩)
          · have hlt3 : zs.getD i 0 < (endsZ zs ws.length).getD i 0 := by
              by_cases c : zs.getD i 0 < (endsZ zs ws.length).getD i 0
              · exact c
              · rw [decide_eq_false c] at hlt2
                cases hlt2
            omega
          · refine s_ret (v := .bl false) ev_c fun H6 e6 => k false (fun h => nomatch h) (fun h => ?_) H6 (((e14.trans e).trans e5).trans e6)
            obtain ⟨S, rfl, hfs⟩ := h
            have hS : i < S.length := by rw [zs_len] at hi'; exact hi'
            obtain ⟨f1, f2, f3⟩ := hfs.fit i _ _ (get_get hS) (ends_get (n := ws.length) hS)
            have el : i < (ends S ws.length).length := by
              unfold ends
              rw [List.length_append, List.length_drop]
              show i < _ - 1 + 1
              omega
            rw [endsZ_zs, zs_getD S hS, zs_getD _ el, Int.toNat_natCast, Int.toNat_natCast, decide_eq_true (by omega), decide_eq_false (by omega)] at hbb
            cases hbb
          · rcases Nat.lt_or_ge j i with c | c
            · exact hf j c
            · have ej : j = i := by omega
              subst ej
              rw [Bool.or_eq_false_iff] at hbb
              have g2 := of_decide_eq_false hbb.2
              refine ⟨?_, by omega⟩
              by_cases c3 : zs.getD j 0 < (endsZ zs ws.length).getD j 0
              · exact c3
              · rw [decide_eq_false c3] at hbb
                exact absurd hbb.1 (by decide)
        · rintro σ' H' ⟨x, rfl, e, hf⟩
          rw [nz, Int.toNat_natCast] at hf
          refine s_ret (v := .bl true) ev_c fun H5 e5 => k true (fun _ => ?_) (fun _ => rfl) H5 ((e14.trans e).trans e5)
          have hback := zs_back fun z hz => (hb z hz).1
          have hSl : (zs.map Int.toNat).length = zs.length := List.length_map ..
          refine ⟨zs.map Int.toNat, hback.symm, fun q => absurd (List.map_eq_nil_iff.mp q) hn, fun s0 hs0 => ?_, fun k s0 e0 hs he => ?_⟩
          · rw [get_get (by omega)] at hs0
            cases hs0
            have := zs_getD (zs.map Int.toNat) (i := 0) (by omega)
            rw [hback, h00] at this
            omega
          · have hk : k < zs.length := by
              have := (List.getElem?_eq_some_iff.mp hs).1
              omega
            rw [get_get (by omega)] at hs
            rw [ends_get (by omega)] at he
            cases hs
            cases he
            obtain ⟨f1, f2⟩ := hf k hk
            have g1 := zs_getD (zs.map Int.toNat) (i := k) (by omega)
            have el : k < (ends (zs.map Int.toNat) ws.length).length := by
              unfold ends
              rw [List.length_append, List.length_drop]
              show k < _ - 1 + 1
              omega
            have g2 := zs_getD (ends (zs.map Int.toNat) ws.length) (i := k) el
            rw [← endsZ_zs, hback] at g2
            rw [hback] at g1
            obtain ⟨b1, b2⟩ := ebd k hk
            rw [g1, g2] at f1
            rw [g2] at b2
            rw [g1, g2, Int.toNat_natCast, Int.toNat_natCast] at f2
            exact ⟨by omega, by omega, f2⟩
/-! ### others in so many lines -/
theorem inV_ints (i : Int) (zs : List Int) : inV (.int i) (zs.map V.int) = decide (i ∈ zs) := by
  unfold inV
  rw [List.any_map]
  rw [Bool.eq_iff_iff, List.any_eq_true, decide_eq_true_iff]
  constructor
  · rintro ⟨z, hz, h⟩
    have h' : (z == i) = true := h
    rw [← eq_of_beq h']
    exact hz
  · exact fun h => ⟨i, h, show (i == i) = true from beq_self_eq_true i⟩
theorem flat_ints (zs : List Int) : (zs.map V.int).all flatV = true := by
  rw [List.all_map, List.all_eq_true]
  exact fun _ _ => rfl
/-- of n places less are taken than n: one is left -/
theorem left_some : ∀ (n : Nat) (zs : List Int), zs.length < n → ∃ i, i < n ∧ ¬ ((i : Int) ∈ zs)
  | 0, _, h => absurd h (Nat.not_lt_zero _)
  | n + 1, zs, h => by
    by_cases c : (n : Int) ∈ zs
    · have hl : (zs.filter fun z => decide (z ≠ (n : Int))).length < zs.length := by
        rcases Nat.lt_or_eq_of_le (List.length_filter_le (fun z => decide (z ≠ (n : Int))) zs) with q | q
        · exact q
        · have := List.length_filter_eq_length_iff.mp q (n : Int) c
          simp at this
      obtain ⟨i, h1, h2⟩ := left_some n (zs.filter fun z => decide (z ≠ (n : Int))) (by omega)
      refine ⟨i, by omega, fun q => h2 (List.mem_filter.mpr ⟨q, decide_eq_true (by omega)⟩)⟩
    · exact ⟨n, Nat.lt_succ_self n, c⟩
theorem cut_some (ns : List Int) (lo hi : Option Int) : ∃ ms : List Int, cutV (ns.map V.int) lo hi = ms.map V.int ∧ ms.length ≤ ns.length := by
  unfold cutV
  rw [← List.map_drop, ← List.map_take]
  exact ⟨_, rfl, by rw [List.length_take, List.length_drop]; omega⟩
theorem given_ints {n : Nat} {f : Nat → Bool} : ∀ x ∈ given n f (fun k => V.int (k : Int)), ∃ k : Nat, k < n ∧ x = .int (k : Int) := fun x hx => by
  unfold given at hx
  obtain ⟨k, hk, rfl⟩ := List.mem_map.mp hx
  exact ⟨k, List.mem_range.mp (List.mem_filter.mp hk).1, rfl⟩
theorem s_asgP {ta : TA} {sp : Sp} {dvs : List V} {E : XK} {i : Nat} {P : List V → Hp → Prop} {σ : L2.St} {H : Hp} {D : Ends} (h : ArgP ta σ H P) (k : ∀ vs H1, Ex H H1 → P vs H1 → sp (vs ++ dvs) H1 (fun v H2 => D.nx (σ.set i (some v)) H2) E) : tAsg (tCall sp dvs E ta) (gName i) D σ H := h H (Ex.refl H) _ k
theorem cutV_to {xs : List V} (k : Nat) : cutV xs none (some (k : Int)) = xs.take k := by
  unfold cutV
  rw [HT.sIx_none, HT.sIx_nat, List.drop_zero, Nat.sub_zero]
  rcases Nat.le_total k xs.length with h | h
  · rw [Nat.min_eq_left h]
  · rw [Nat.min_eq_right h, List.take_of_length_le h, List.take_length]
def sp_in_lines (K : PySem.W.Frag) : Sp := fun vs H Q _ => ∃ (c p : Addr) (ns : List Int) (ws : List Str) (wd : Int) (m : Nat), vs = [.ref c, .ref p, .int wd, .int (m : Int)] ∧ SqL K H c (ns.map V.int) ∧ SqL K H p (ws.map V.str) ∧ (∀ z ∈ ws, Wd z) ∧ (∀ z ∈ ws, (z.length : Int) ≤ wd) ∧ ws.length ≤ 2000 ∧ m ≤ ws.length ∧
  ∀ zs : List Int, (∀ z ∈ zs, 0 ≤ z ∧ z ≤ (ws.length : Int)) → zs.length ≤ 4000 → RetL (zs.map V.int) H Q
theorem fit_in {ws : List Str} {w : Int} {S : List Nat} (f : FitS ws w S) : ∀ z ∈ zsOf S, 0 ≤ z ∧ z ≤ (ws.length : Int) := fun z hz => by
  obtain ⟨s, hs, rfl⟩ := List.mem_map.mp hz
  obtain ⟨k, hk, rfl⟩ := List.getElem_of_mem hs
  obtain ⟨f1, f2, _⟩ := f.fit k _ _ (List.getElem?_eq_getElem hk) (ends_get (n := ws.length) hk)
  omega
theorem ok_l_in_lines (T : Txt K mg A) : FnOk P w K mg base CX0 3 A.f_l_in_lines A.d_l_in_lines ["_law_cells", "_law_row", "_law_width", "_law_many"] (sp_in_lines K) := by
  refine T.F_l_in_lines.ok sc_l_in_lines (fun vs H Q E h => ?_) (fun cdv Ar outer s H vs Q E hr h => ?_)
  · obtain ⟨c, p, ns, ws, wd, m, rfl, _⟩ := h
    rfl
  · obtain ⟨c, p, ns, ws, wd, m, rfl, hc, hp, hwd, hfit, hl, hm, k⟩ := h
    refine ⟨_, (pss_cons (ps_set (i := 4) sc_l_in_lines.nd rfl (.inr rfl) (pe_call (ok_l_others_by T) (hr.mono (by decide)) rfl T.g_l_others_by T.F_l_others_by.kp T.b_l_others_by .nil pass0 (pa_cons (pv 0) (pa_cons (pv 1) (pa_cons (pv 2) pa_nil)))))
  (Evl.pss_cut (ps_if (pt_cmpR op_gt (pe_callB call_len_seq (by rfl) T.m_len PySem.boot_len (pa_cons (pv 4) pa_nil)) (pv 3) (nomark _))
  (pss_one (ps_set (i := 4) sc_l_in_lines.nd rfl (.inr rfl) (pe_call (ok_l_others_by T) (hr.mono (by decide)) rfl T.g_l_others_by T.F_l_others_by.kp T.b_l_others_by .nil pass0 (pa_cons (pe_lst pa_nil) (pa_cons (pv 1) (pa_cons (pv 2) pa_nil))))))
  pss_nil)
  (pss_cons (ps_while PassesOwn.never (pt_cmpR op_lt (pe_callB call_len_seq (by rfl) T.m_len PySem.boot_len (pa_cons (pv 4) pa_nil)) (pv 3) (nomark _))
  (pss_cons (ps_setLc (i := 5) (own := [("_law_k", 6)]) rfl sc_l_in_lines.nd rfl rfl (sw_true rfl rfl rfl (by decide +kernel)) (pi_range1 (by rfl) T.m_range (pa_cons (pe_callB call_len_seq (by rfl) T.m_len PySem.boot_len (pa_cons (pv 1) pa_nil)) pa_nil)) (blkOk_by (N := N_l_in_lines) (sc := defScope s_l_in_lines) (by decide +kernel)) (fun _ _ _ _ _ => (pg_name (i := 6) sc_l_in_lines.nd rfl (.inl rfl))) (fun _ _ _ _ _ => (pts_one (pt_cmpR (TwL.op_niK (K := K) rfl) (pv 6) (pv 4) (by rfl)))) (fun _ _ _ _ _ => (pv 6)))
  (pss_one (ps_set (i := 4) sc_l_in_lines.nd rfl (.inr rfl) (pe_callB cr_sortedI (by rfl) T.m_sorted (by decide +kernel) (pa_cons (pe_op op_cat (pv 4) (pe_lst (pa_cons (pe_ix (ixL (K := K) rfl) (pv 5) (pe_op op_mod (pe_callB (cr_sum rfl) (by rfl) T.m_sum (by decide +kernel) (pa_cons (pe_slice (TwE.slE (K := K) rfl) (pv 0) po_none (po_some (pe_callB call_len_seq (by rfl) T.m_len PySem.boot_len (pa_cons (pv 4) pa_nil)))) pa_nil)) (pe_callB call_len_seq (by rfl) T.m_len PySem.boot_len (pa_cons (pv 5) pa_nil))) (fun _ _ => rfl)) pa_nil))) pa_nil))))))
  (pss_one (ps_ret (pv 4)))))), ?_⟩
    have nl : (ws.map V.str).length = ws.length := List.length_map ..
    refine q_asgA (ea_cons (ev_var rfl) (ea_cons (ev_var rfl) (ea_cons (ev_var rfl) ea_nil))) fun H1 e1 => ⟨c, p, ns, ws, wd, rfl, ex_l e1 hc, ex_l e1 hp, hwd, hfit, hl, fun S0 f0 l0 _ o0 H2 o00 e2 ho0 => ?_⟩
    show tCut _ _ _ _ H2
    have e02 := e1.trans e2
    refine q_cut (M := fun σ' H' => ∃ (o : Addr) (zs : List Int) , σ' = [some (.ref c), some (.ref p), some (.int wd), some (.int (m : Int)), some (.ref o), none, none] ∧ Ex H H' ∧ H o = none ∧ H' o = some (.lst (zs.map V.int)) ∧ (∀ z ∈ zs, 0 ≤ z ∧ z ≤ (ws.length : Int)) ∧ zs.length ≤ 2000) ?_ ?_
    · refine s_when (b := decide ((m : Int) < ((nats S0).length : Int))) (et_test (ev_op (ev_cb (ea_cons (ev_var rfl) ea_nil) (rc_lenL (sq_of ho0))) (ev_var rfl) rv_I0)) (fun _ H3 e3 => ?_) (fun _ H3 e3 => ⟨o0, zsOf S0, rfl, e02.trans e3, fresh_back e1 o00, by rw [zs_nats]; exact e3 _ _ ho0, fit_in f0, by rw [zs_len]; omega⟩)
      refine s_asgP (ap_consL (xs := ([] : List Int).map V.int) (el_lst ea_nil (Nat.zero_le _)) (ap_cons (ev_var rfl) (ap_cons (ev_var rfl) ap_nil)) fun _ _ _ => trivial) ?_
      rintro vs H4 e4 ⟨q, r, rfl, hq, r2, rfl, r3, rfl, rfl⟩
      have e04 := (e02.trans e3).trans e4
      exact ⟨q, p, [], ws, wd, rfl, sq_of hq, ex_l e04 hp, hwd, hfit, hl, fun S1 f1 l1 _ o1 H5 o10 e5 ho1 => ⟨o1, zsOf S1, rfl, e04.trans e5, fresh_back e04 o10, by rw [zs_nats]; exact ho1, fit_in f1, by rw [zs_len]; omega⟩⟩
    · rintro σ2 H3 ⟨o, zs, rfl, e3, of, ho, hb, hzl⟩
      refine q_while (fun k σ' H' => ∃ (o : Addr) (zs : List Int) (x5 x6 : Option V), σ' = [some (.ref c), some (.ref p), some (.int wd), some (.int (m : Int)), some (.ref o), x5, x6] ∧ Ex H H' ∧ H o = none ∧ H' o = some (.lst (zs.map V.int)) ∧ (∀ z ∈ zs, 0 ≤ z ∧ z ≤ (ws.length : Int)) ∧ zs.length ≤ 2000 + m ∧ k = m - zs.length) (m - zs.length) ⟨o, zs, none, none, rfl, e3, of, ho, hb, by omega, rfl⟩ ?_
      rintro k' σ' H' ⟨o, zs, x5, x6, rfl, e, of, ho, hb, hzl, rfl⟩
      have nz : (zs.map V.int).length = zs.length := List.length_map ..
      refine ⟨decide ((zs.length : Int) < (m : Int)), et_test (ev_op (ev_is (ev_cb (ea_cons (ev_var rfl) ea_nil) (rc_lenL (sq_of ho))) (by rw [nz])) (ev_var rfl) rv_I0), fun hlt H4 e4 => ?_, fun hlt H4 e4 => ?_⟩
      · have hzm : zs.length < m := by
          have := of_decide_eq_true hlt
          omega
        refine ⟨fun σ2 H2 => ∃ (o : Addr) (zs' : List Int) (x5 x6 : Option V), σ2 = [some (.ref c), some (.ref p), some (.int wd), some (.int (m : Int)), some (.ref o), x5, x6] ∧ Ex H H2 ∧ H o = none ∧ H2 o = some (.lst (zs'.map V.int)) ∧ (∀ z ∈ zs', 0 ≤ z ∧ z ≤ (ws.length : Int)) ∧ zs'.length ≤ 2000 + m ∧ zs'.length = zs.length + 1, fun σ2 H2 ⟨o, zs', x5, x6, q1, q2, q3, q4, q5, q6, q7⟩ => ⟨m - zs'.length, by omega, o, zs', x5, x6, q1, q2, q3, q4, q5, q6, rfl⟩, ?_⟩
        have ho4 := e4 _ _ ho
        have e04 := e.trans e4
        refine q_asgL (xs := given (ws.length : Int).toNat (fun k => !decide ((k : Int) ∈ zs)) (fun k => V.int (k : Int))) (el_lcR1 (n := (ws.length : Int)) (fun k => !decide ((k : Int) ∈ zs)) (fun k => V.int (k : Int)) (ea_cons (ev_is (ev_cb (ea_cons (ev_var rfl) ea_nil) (rc_lenL (ex_l e04 hp))) (by rw [nl])) ea_nil) (by omega) (fun _ => rfl) (fun i H5 e5 hi => et_test (ev_is (ev_op (ev_var rfl) (ev_var rfl) (rv_niL (sq_of (e5 _ _ ho4)) rfl (flat_ints zs))) (by rw [inV_ints]))) fun i H5 e5 hi _ => ev_var rfl) fun lf H5 lf0 e5 hlf => ?_
        obtain ⟨j0, j1, j2⟩ := left_some ws.length zs (by omega)
        have hgl : given (ws.length : Int).toNat (fun k => !decide ((k : Int) ∈ zs)) (fun k => V.int (k : Int)) ≠ [] := fun q => by
          have hmem : V.int (j0 : Int) ∈ given (ws.length : Int).toNat (fun k => !decide ((k : Int) ∈ zs)) (fun k => V.int (k : Int)) := by
            unfold given
            exact List.mem_map.mpr ⟨j0, List.mem_filter.mpr ⟨List.mem_range.mpr (by omega), by rw [decide_eq_false j2] <;> rfl⟩, rfl⟩
          rw [q] at hmem
          exact absurd hmem (List.not_mem_nil)
        have hgm := given_ints (n := (ws.length : Int).toNat) (f := fun k => !decide ((k : Int) ∈ zs))
        revert hlf hgl hgm
        generalize given (ws.length : Int).toNat (fun k => !decide ((k : Int) ∈ zs)) (fun k => V.int (k : Int)) = gs
        intro hlf hgl hgm
        have hgp := List.length_pos_iff.mpr hgl
        have ho5 := e5 _ _ ho4
        have e05 := e04.trans e5
        obtain ⟨ms, hms, hml⟩ := cut_some ns none (some (zs.length : Int))
        obtain ⟨ix, hix, hix2⟩ : ∃ ix : Nat, ms.sum % ((gs.length : Nat) : Int) = (ix : Int) ∧ ix < gs.length := by
          have a0 := Int.emod_nonneg ms.sum (show ((gs.length : Nat) : Int) ≠ 0 by omega)
          have a1 := Int.emod_lt_of_pos ms.sum (show 0 < ((gs.length : Nat) : Int) by omega)
          exact ⟨(ms.sum % ((gs.length : Nat) : Int)).toNat, by omega, by omega⟩
        obtain ⟨x, hx, k0, hk0, rfl⟩ : ∃ (x : V) (hx : gs[ix]? = some x) (k : Nat), k < (ws.length : Int).toNat ∧ x = V.int (k : Int) := by
          obtain ⟨k, a1, a2⟩ := hgm gs[ix] (List.getElem_mem hix2)
          exact ⟨gs[ix], List.getElem?_eq_getElem hix2, k, a1, a2⟩
        refine (el_cat (ev_var rfl) ho5 (el_lst (vs := [V.int (k0 : Int)]) (ea_cons (ev_op (y := .int (ix : Int)) (ev_var rfl) (ev_is (ev_op (x := .int ms.sum) (ev_sumN (el_is (el_sl (hi := some (zs.length : Int)) (ev_var rfl) eo_none (eo_some (ev_is (ev_cb (ea_cons (ev_var rfl) ea_nil) (rc_lenL (sq_of ho5))) (by rw [nz]))) (ex_l e05 hc)) hms)) (ev_cb (ea_cons (ev_var rfl) ea_nil) (rc_lenL (sq_of hlf))) (rv_I (by omega))) (by rw [hix])) (rv_ixL (sq_of hlf) (atI_nat hx))) ea_nil) (show 1 ≤ 100000 by decide)) (by rw [nz]; show _ + 1 ≤ _; omega)) H5 (Ex.refl H5) _ fun q H6 q0 e6 hq => ⟨q, zs ++ [(k0 : Int)], rfl, sq_of (by rw [List.map_append]; exact hq), fun ns' p2 perm srt p20 => ?_⟩
        refine ⟨p2, ns', _, _, rfl, (e05.trans e6).trans (Ex.new p20), fresh_back (e05.trans e6) p20, upd_same, fun z hz => ?_, ?_, ?_⟩
        · have hm2 := perm.mem_iff.mp hz
          rcases List.mem_append.mp hm2 with c2 | c2
          · exact hb z c2
          · rw [List.mem_singleton.mp c2]
            omega
        · have := perm.length_eq
          rw [List.length_append] at this
          have h1 : ([(k0 : Int)] : List Int).length = 1 := rfl
          omega
        · have := perm.length_eq
          rw [List.length_append] at this
          exact this
      · exact s_ret (v := .ref o) (ev_var rfl) fun H5 e5 => k zs hb (by omega) o H5 of ((e.trans e4).trans e5) (e5 _ _ (e4 _ _ ho))
/-! ### lists of starts to be held against -/
def RI (n L : Nat) (H : Hp) (ts : List Addr) : Prop := ∀ t ∈ ts, ∃ zs : List Int, H t = some (.lst (zs.map V.int)) ∧ (∀ z ∈ zs, 0 ≤ z ∧ z ≤ (n : Int)) ∧ zs.length ≤ L
theorem RI.ex {n L : Nat} {H H' : Hp} {ts : List Addr} (h : RI n L H ts) (e : Ex H H') : RI n L H' ts := fun t ht => by
  obtain ⟨zs, h1, h2⟩ := h t ht
  exact ⟨zs, e _ _ h1, h2⟩
theorem RI.upd {n L : Nat} {H : Hp} {ts : List Addr} {l : Addr} {o : HO} (h : RI n L H ts) (hl : ∀ t ∈ ts, t ≠ l) : RI n L (upd H l o) ts := fun t ht => by
  obtain ⟨zs, h1, h2⟩ := h t ht
  exact ⟨zs, by rw [upd_ne (hl t ht)]; exact h1, h2⟩
theorem RI.one {n L : Nat} {H : Hp} {t : Addr} {zs : List Int} (h : H t = some (.lst (zs.map V.int))) (hb : ∀ z ∈ zs, 0 ≤ z ∧ z ≤ (n : Int)) (hl : zs.length ≤ L) : RI n L H [t] := fun u hu => by
  rw [List.mem_singleton.mp hu]
  exact ⟨zs, h, hb, hl⟩
theorem RI.app {n L : Nat} {H : Hp} {ts us : List Addr} (h : RI n L H ts) (k : RI n L H us) : RI n L H (ts ++ us) := fun t ht => by
  rcases List.mem_append.mp ht with q | q
  · exact h t q
  · exact k t q
/-- over a list of such lists, each a new one -/
theorem er_lcI {n L M : Nat} {ts : List Addr} {a : Addr} {tl te : TE} {j : Nat} {vs : List Nat} {σ : L2.St} {H : Hp} {Q : VK} (h : Ev tl σ H (.ref a)) (hx : H a = some (.lst (ts.map V.ref))) (hR : RI n L H ts) (hz : ts.length ≤ 80000) (hw : ∀ x, wipe ((wipe σ vs).set j (some x)) vs = wipe σ vs)
    (he : ∀ (t : Addr) (zs : List Int) H1, Ex H H1 → H1 t = some (.lst (zs.map V.int)) → (∀ z ∈ zs, 0 ≤ z ∧ z ≤ (n : Int)) → zs.length ≤ L → ∃ zs' : List Int, EvL te ((wipe σ vs).set j (some (.ref t))) H1 (zs'.map V.int) ∧ (∀ z ∈ zs', 0 ≤ z ∧ z ≤ (n : Int)) ∧ zs'.length ≤ M)
    (q : ∀ l H2 us, H l = none → Ex H H2 → H2 l = some (.lst (us.map V.ref)) → us.length = ts.length → RI n M H2 us → (∀ u ∈ us, u ≠ l) → Q (.ref l) H2) : tLc (iList K tl) (gName j) tYes te vs σ H Q := h H (Ex.refl H) _ fun H1 e1 => by
  have hx1 := e1 _ _ hx
  refine ⟨a, rfl, ⟨_, sq_of hx1⟩, fun Dl hD => ?_⟩
  refine lc_list (xs := ts.map V.ref) (fun i H' => Ex H1 H' ∧ ∃ us : List Addr, H' Dl = some (.lst (us.map V.ref)) ∧ us.length = i ∧ RI n M H' us ∧ ∀ u ∈ us, u ≠ Dl) ⟨Ex.new hD, [], upd_same, rfl, fun t ht => absurd ht (List.not_mem_nil), fun t ht => absurd ht (List.not_mem_nil)⟩ (fun i H' _ p => sq_of (p.1 _ _ hx1)) (fun i x H' hi p => ?_) (fun H' p => ?_)
  · obtain ⟨e, us, hus, hul, hR2, hne⟩ := p
    rw [List.getElem?_map] at hi
    obtain ⟨t, ht, rfl⟩ := Option.map_eq_some_iff.mp hi
    have hil := (List.getElem?_eq_some_iff.mp ht).1
    obtain ⟨zs, z1, z2, z3⟩ := hR t (List.mem_of_getElem? ht)
    obtain ⟨zs', k1, k2, k3⟩ := he t zs H' (e1.trans e) ((e1.trans e) _ _ z1) z2 z3
    refine ⟨hw _, yes_if (k1 H' (Ex.refl H') _ fun u H4 u0 e4 hu => ⟨us.map V.ref, e4 _ _ hus, sz_lt (by rw [List.length_map]; omega), Ex.mut (e.trans e4) hD, us ++ [u], by rw [List.map_append]; exact upd_same, by rw [List.length_append, hul] <;> rfl, ?_, ?_⟩)⟩
    · have un : u ≠ Dl := fun c => by
        rw [c, hus] at u0
        cases u0
      refine RI.upd ((hR2.ex e4).app (RI.one hu k2 k3)) fun v hv => ?_
      rcases List.mem_append.mp hv with c | c
      · exact hne v c
      · rw [List.mem_singleton.mp c]
        exact un
    · have un : u ≠ Dl := fun c => by
        rw [c, hus] at u0
        cases u0
      intro v hv
      rcases List.mem_append.mp hv with c | c
      · exact hne v c
      · rw [List.mem_singleton.mp c]
        exact un
  · obtain ⟨e, us, hus, hul, hR2, hne⟩ := p
    rw [List.length_map] at hul
    exact q Dl H' us (fresh_back e1 hD) (e1.trans e) hus hul hR2 hne
theorem s_asgR {te : TE} {g : TG} {D : Ends} {σ : L2.St} {H : Hp} (h : te σ H fun v H1 => g v σ H1 D.nx) : tAsg te g D σ H := h
theorem t_cat {ta tb : TE} {σ : L2.St} {H : Hp} {Q : VK} {l : Addr} (ha : Ev ta σ H (.ref l)) (hb : ∀ H1, Ex H H1 → tb σ H1 fun y H2 => ∃ p xs ys, y = .ref p ∧ H2 l = some (.lst xs) ∧ H2 p = some (.lst ys) ∧ xs.length + ys.length ≤ 100000 ∧ ∀ r, H2 r = none → Q (.ref r) (upd H2 r (.lst (xs ++ ys)))) (mono : ∀ σ H (P P' : VK), (∀ v H2, P v H2 → P' v H2) → tb σ H P → tb σ H P') : tOp rCat ta tb σ H Q :=
  ha H (Ex.refl H) _ fun H1 e1 => mono σ H1 _ _ (fun y H2 ⟨p, xs, ys, h1, h2, h3, h4, h5⟩ => ⟨l, p, xs, ys, rfl, h1, h2, h3, sz_of h4, h5⟩) (hb H1 e1)
theorem el_nest {ta : TE} {xs : List V} {σ : L2.St} {H : Hp} {Q : VK} (h : EvL ta σ H xs) (k : ∀ p H1 l, H p = none → Ex H H1 → H1 p = some (.lst xs) → H1 l = none → Q (.ref l) (upd H1 l (.lst [V.ref p]))) : tLst (tCons ta tNil) σ H Q :=
  h H (Ex.refl H) _ fun p H1 p0 e1 hp => ⟨sz_of (show 1 ≤ 100000 by decide), fun l hl => k p H1 l p0 e1 hp hl⟩
def sp_all (K : PySem.W.Frag) : Sp := fun vs H Q _ => ∃ n : Nat, vs = [.int (n : Int)] ∧ 1 ≤ n ∧ n ≤ 7 ∧ ∀ l H' ts, Ex H H' → H l = none → H' l = some (.lst (ts.map V.ref)) → RI n 4000 H' ts → ts.length ≤ 200 → Q (.ref l) H'
theorem ok_l_all (T : Txt K mg A) : FnOk P w K mg base CX0 1 A.f_l_all A.d_l_all ["_law_count"] (sp_all K) := by
  refine T.F_l_all.ok sc_l_all (fun vs H Q E h => ?_) (fun cdv Ar outer s H vs Q E hr h => ?_)
  · obtain ⟨n, rfl, _⟩ := h
    rfl
  · obtain ⟨n, rfl, h1, h7, k⟩ := h
    refine ⟨_, (pss_cons (ps_set (i := 1) sc_l_all.nd rfl (.inl rfl) (pe_lst (pa_cons (pe_lst (pa_cons pe_int pa_nil)) pa_nil)))
  (pss_cons (ps_for PassesOwn.never rfl (pi_range2 (by rfl) T.m_range (pa_cons pe_int (pa_cons (pv 0) pa_nil))) (pg_name (i := 2) sc_l_all.nd rfl (.inr rfl))
  (pss_one (ps_set (i := 1) sc_l_all.nd rfl (.inl rfl) (pe_op op_cat (pv 1) (pe_lc (own := [("_law_one", 3)]) (tt := tYes) rfl sc_l_all.nd (pi_list (pv 1)) (blkOk_by (N := N_l_all) (sc := defScope s_l_all) (by decide +kernel)) (fun _ _ _ _ _ => (pg_name (i := 3) sc_l_all.nd rfl (.inl rfl))) (fun _ _ _ _ _ => pts_nil) (fun _ _ _ _ _ => (pe_op op_cat (pv 3) (pe_lst (pa_cons (pv 2) pa_nil)))))))))
  (pss_one (ps_ret (pv 1))))), ?_⟩
    refine q_asgR (el_nest (el_lst (vs := [V.int 0]) (ea_cons ev_c ea_nil) (show 1 ≤ 100000 by decide)) fun t0 H1 l t00 e1 ht0 hl0 => ?_)
    have tn : t0 ≠ l := fun c => by
      rw [c, hl0] at ht0
      cases ht0
    show tSeq _ _ _ _ (upd H1 l (.lst [V.ref t0]))
    refine q_forR2 (lo := 1) (n := (n : Int)) (ea_cons ev_c (ea_cons (ev_var rfl) ea_nil)) ⟨by decide, by decide, by omega, by omega⟩ (fun i σ' H' => ∃ (l : Addr) (ts : List Addr) (x2 x3 : Option V), σ' = [some (.int (n : Int)), some (.ref l), x2, x3] ∧ Ex H H' ∧ H l = none ∧ H' l = some (.lst (ts.map V.ref)) ∧ RI n (i + 1) H' ts ∧ ts.length = 2 ^ i)
      (fun H2 e2 => ⟨l, [t0], none, none, rfl, (e1.trans (Ex.new hl0)).trans e2, fresh_back e1 hl0, e2 _ _ upd_same, RI.ex (RI.upd (RI.one (zs := [0]) ht0 (fun z hz => by rw [List.mem_singleton.mp hz]; omega) (by decide)) fun u hu => by rw [List.mem_singleton.mp hu]; exact tn) e2, rfl⟩) ?_ ?_
    · rintro i σ' H' hi ⟨l, ts, x2, x3, rfl, e, l0, hlt, hR, htl⟩
      have p2 : (2 : Nat) ^ i ≤ 64 := by
        have hi6 : i ≤ 6 := by omega
        exact Nat.le_trans (Nat.pow_le_pow_right (by decide) hi6) (by decide)
      refine s_asgR (show tOp rCat _ _ _ _ _ from ⟨.ref l, rfl, er_lcI (n := n) (L := i + 1) (M := i + 1 + 1) (ts := ts) (ev_var rfl) hlt hR (by omega) (fun _ => rfl) (fun t zs H2 e2 ht hb hzl => ⟨zs ++ [(1 : Int) + (i : Int)], ?_, ?_, ?_⟩) fun q H2 us q0 e2 hq hul hR2 hne => ⟨l, q, _, _, rfl, rfl, e2 _ _ hlt, hq, sz_of (by rw [List.length_map, List.length_map, hul, htl]; omega), fun r hr => ?_⟩⟩)
      · exact el_is (el_cat (ev_var rfl) ht (el_lst (ea_cons (ev_var rfl) ea_nil) (show 1 ≤ 100000 by decide)) (by rw [List.length_map]; show _ + 1 ≤ _; omega)) (by rw [List.map_append] <;> rfl)
      · intro z hz
        rcases List.mem_append.mp hz with c | c
        · exact hb z c
        · rw [List.mem_singleton.mp c]
          omega
      · rw [List.length_append]
        show _ + 1 ≤ _
        omega
      · refine ⟨r, ts ++ us, _, _, rfl, (e.trans e2).trans (Ex.new hr), fresh_back (e.trans e2) hr, by rw [List.map_append]; exact upd_same, ?_, by rw [List.length_append, hul, htl, Nat.pow_succ]; omega⟩
        have h0 : RI n (i + 1 + 1) H2 ts := fun t ht => by
          obtain ⟨zs, z1, z2, z3⟩ := (hR.ex e2) t ht
          exact ⟨zs, z1, z2, by omega⟩
        refine RI.upd (h0.app hR2) fun u hu c => ?_
        obtain ⟨zs, z1, _⟩ := (h0.app hR2) u hu
        rw [c, hr] at z1
        cases z1
    · rintro σ' H' ⟨l, ts, x2, x3, rfl, e, l0, hlt, hR, htl⟩
      have p2 : ts.length ≤ 200 := by
        have hi6 : ((n : Int) - 1).toNat ≤ 6 := by omega
        rw [htl]
        exact Nat.le_trans (Nat.pow_le_pow_right (by decide) hi6) (by decide)
      exact s_ret (v := .ref l) (ev_var rfl) fun H5 e5 => k l H5 ts (e.trans e5) l0 (e5 _ _ hlt) (fun t ht => by
        obtain ⟨zs, z1, z2, z3⟩ := (hR.ex e5) t ht
        exact ⟨zs, z1, z2, by omega⟩) p2
theorem ev_chain {r r' : R2} {ta tb tc : TE} {σ : L2.St} {H : Hp} {x y : V} {a b : Bool} (h1 : Ev ta σ H x) (h2 : Ev tb σ H y) (hr : RV r x y H (.bl a)) (h3 : a = true → ∃ z, Ev tc σ H z ∧ RV r' y z H (.bl b)) : Ev (tChain r r' ta tb tc) σ H (.bl (a && b)) := fun H1 e Q q =>
  h1 H1 e _ fun H2 e2 => h2 H2 (e.trans e2) _ fun H3 e3 => hr H3 ((e.trans e2).trans e3) _ fun H4 e4 => ⟨a, rfl, by
    cases a with
    | true =>
      obtain ⟨z, h5, h6⟩ := h3 rfl
      have e14 := ((e.trans e2).trans e3).trans e4
      exact h5 H4 e14 _ fun H5 e5 => h6 H5 (e14.trans e5) Q fun H6 e6 => q H6 ((((e2.trans e3).trans e4).trans e5).trans e6)
    | false => exact q H4 ((e2.trans e3).trans e4)⟩
def sp_near (K : PySem.W.Frag) : Sp := fun vs H Q _ => ∃ (f : Addr) (S : List Nat) (n : Nat), vs = [.ref f, .int (n : Int)] ∧ SqL K H f (nats S) ∧ S.length ≤ 2000 ∧ (∀ k (h : k < S.length), S[k] < n ∧ (0 < k → 0 < S[k])) ∧ ∀ l H' ts, Ex H H' → H l = none → H' l = some (.lst (ts.map V.ref)) → (∀ t ∈ ts, t ≠ l) → RI n 4000 H' ts → ts.length ≤ 6000 → Q (.ref l) H'
theorem ok_l_near (T : Txt K mg A) : FnOk P w K mg base CX0 2 A.f_l_near A.d_l_near ["_law_found", "_law_count"] (sp_near K) := by
  refine T.F_l_near.ok sc_l_near (fun vs H Q E h => ?_) (fun cdv Ar outer s H vs Q E hr h => ?_)
  · obtain ⟨f, S, n, rfl, _⟩ := h
    rfl
  · obtain ⟨f, S, n, rfl, hf, hSl, hS, k⟩ := h
    refine ⟨_, (pss_cons (ps_set (i := 2) sc_l_near.nd rfl (.inl rfl) (pe_lst pa_nil))
  (Evl.pss_cut (ps_for PassesOwn.never rfl (pi_range2 (by rfl) T.m_range (pa_cons pe_int (pa_cons (pe_callB call_len_seq (by rfl) T.m_len PySem.boot_len (pa_cons (pv 0) pa_nil)) pa_nil))) (pg_name (i := 3) sc_l_near.nd rfl (.inl rfl))
  (pss_cons (ps_expr (pe_bm PySem.F.plainAttrs_list PySem.F.slot_list_append PySem.F.type_list_append mt_append (pv 2) (pa_cons (pe_op op_cat (pe_op op_cat (pe_slice (TwE.slE (K := K) rfl) (pv 0) po_none (po_some (pv 3))) (pe_lst (pa_cons (pe_op op_sub (pe_ix (ixL (K := K) rfl) (pv 0) (pv 3) (fun _ _ => rfl)) pe_int) pa_nil))) (pe_slice (TwE.slE (K := K) rfl) (pv 0) (po_some (pe_op op_add (pv 3) pe_int)) po_none)) pa_nil)))
  (pss_one (ps_expr (pe_bm PySem.F.plainAttrs_list PySem.F.slot_list_append PySem.F.type_list_append mt_append (pv 2) (pa_cons (pe_op op_cat (pe_op op_cat (pe_slice (TwE.slE (K := K) rfl) (pv 0) po_none (po_some (pv 3))) (pe_lst (pa_cons (pe_op op_add (pe_ix (ixL (K := K) rfl) (pv 0) (pv 3) (fun _ _ => rfl)) pe_int) pa_nil))) (pe_slice (TwE.slE (K := K) rfl) (pv 0) (po_some (pe_op op_add (pv 3) pe_int)) po_none)) pa_nil))))))
  (Evl.pss_cut (ps_if (pt_chain op_lt op_lt pe_int (pv 1) pe_int)
  (pss_one (ps_set (i := 2) sc_l_near.nd rfl (.inl rfl) (pe_op op_cat (pv 2) (pe_call (ok_l_all T) (hr.mono (by decide)) rfl T.g_l_all T.F_l_all.kp T.b_l_all .nil pass0 (pa_cons (pv 1) pa_nil)))))
  pss_nil)
  (pss_one (ps_ret (pv 2)))))), ?_⟩
    have nS : (nats S).length = S.length := nats_len S
    refine q_asgL (xs := []) (el_lst ea_nil (Nat.zero_le _)) fun l H1 l0 e1 hl1 => ?_
    refine q_cut (M := fun σ' H' => ∃ (ts : List Addr) (x : Option V), σ' = [some (.ref f), some (.int (n : Int)), some (.ref l), x] ∧ Ex H H' ∧ H' l = some (.lst (ts.map V.ref)) ∧ (∀ t ∈ ts, t ≠ l) ∧ RI n 4000 H' ts ∧ ts.length ≤ 5000) ?_ ?_
    · refine s_forR2 (lo := 1) (n := ((nats S).length : Int)) (ea_cons ev_c (ea_cons (ev_cb (ea_cons (ev_var rfl) ea_nil) (rc_lenL (ex_l e1 hf))) ea_nil)) ⟨by decide, by decide, by omega, by omega⟩ (fun i σ' H' => ∃ (ts : List Addr) (x : Option V), σ' = [some (.ref f), some (.int (n : Int)), some (.ref l), x] ∧ Ex H H' ∧ H' l = some (.lst (ts.map V.ref)) ∧ (∀ t ∈ ts, t ≠ l) ∧ RI n 4000 H' ts ∧ ts.length = 2 * i)
        (fun H2 e2 => ⟨[], none, rfl, e1.trans e2, e2 _ _ hl1, fun t ht => absurd ht (List.not_mem_nil), fun t ht => absurd ht (List.not_mem_nil), rfl⟩) ?_ ?_
      · rintro i σ' H' hi ⟨ts, x, rfl, e, hlt, hne, hR, htl⟩
        have hi1 : i + 1 < S.length := by omega
        have ei : (1 : Int) + (i : Int) = ((i + 1 : Nat) : Int) := by omega
        rw [ei]
        obtain ⟨s1, s2⟩ := hS (i + 1) hi1
        have s2 := s2 (Nat.succ_pos i)
        have rowE : ∀ (d : Int) (g : Int → Int → V) {r : R2} {c : V} {σ : L2.St} {H2 : Hp}, (∀ H3, RV r (.int (S[i + 1] : Int)) c H3 (.int d)) → Ex H' H2 → σ[0]? = some (some (.ref f)) → σ[3]? = some (some (.int ((i + 1 : Nat) : Int))) → EvL (tOp rCat (tOp rCat (tSl (rSlL K) (tVar 0) tNoPart (tPart (tVar 3))) (tLst (tCons (tOp r (tOp (rIxL K) (tVar 0) (tVar 3)) (tC c)) tNil))) (tSl (rSlL K) (tVar 0) (tPart (tOp (rI0 fun i j => .int (i + j)) (tVar 3) (tC (.int 1)))) tNoPart)) σ H2 (((zsOf S).take (i + 1) ++ [d] ++ (zsOf S).drop (i + 2)).map V.int) := fun d g r c σ H2 hr e2 g0 g3 => by
          have hf2 := ex_l (e.trans e2) hf
          refine el_is (el_catN (el_catN (el_sl (hi := some ((i + 1 : Nat) : Int)) (ev_var g0) eo_none (eo_some (ev_var g3)) hf2) (el_lst (vs := [V.int d]) (ea_cons (ev_op (ev_op (ev_var g0) (ev_var g3) (rv_ixL hf2 (atI_nat (nats_at (List.getElem?_eq_getElem hi1))))) ev_c (hr _)) ea_nil) (show 1 ≤ 100000 by decide)) ?_) (el_sl (lo := some ((i + 2 : Nat) : Int)) (ev_var g0) (eo_some (ev_is (ev_op (ev_var g3) ev_c rv_I0) (congrArg V.int (by omega)))) eo_none hf2) ?_) ?_
          · rw [cutV_to, List.length_take, nS]
            show _ + 1 ≤ _
            omega
          · rw [cutV_to, cutV_from, List.length_append, List.length_take, List.length_drop, nS]
            show _ + 1 + _ ≤ _
            omega
          · rw [cutV_to, cutV_from, List.map_append, List.map_append, List.map_take, List.map_drop, zs_nats] <;> rfl
        have bnd : ∀ d : Int, 0 ≤ d → d ≤ (n : Int) → (∀ z ∈ (zsOf S).take (i + 1) ++ [d] ++ (zsOf S).drop (i + 2), 0 ≤ z ∧ z ≤ (n : Int)) ∧ ((zsOf S).take (i + 1) ++ [d] ++ (zsOf S).drop (i + 2)).length ≤ 4000 := fun d d0 d1 => by
          have all : ∀ z ∈ zsOf S, 0 ≤ z ∧ z ≤ (n : Int) := fun z hz => by
            obtain ⟨s0, hs0, rfl⟩ := List.mem_map.mp hz
            obtain ⟨k0, hk0, rfl⟩ := List.getElem_of_mem hs0
            have := (hS k0 hk0).1
            omega
          refine ⟨fun z hz => ?_, ?_⟩
          · rcases List.mem_append.mp hz with c | c
            · rcases List.mem_append.mp c with c | c
              · exact all z (List.mem_of_mem_take c)
              · rw [List.mem_singleton.mp c]
                exact ⟨d0, d1⟩
            · exact all z (List.mem_of_mem_drop c)
          · rw [List.length_append, List.length_append, List.length_take, List.length_drop, zs_len]
            show _ + 1 + _ ≤ _
            omega
        refine q_appL hlt (ev_var rfl) (rowE ((S[i + 1] : Int) - 1) (fun i j => .int (i - j)) (fun H3 => rv_I0) (Ex.refl H') rfl rfl) (by rw [List.length_map, htl]; omega) fun p H3 p0 e3 hp => ?_
        have pn : p ≠ l := fun c => by
          rw [c, hlt] at p0
          cases p0
        have b1 := bnd ((S[i + 1] : Int) - 1) (by omega) (by omega)
        have hR3 : RI n 4000 (upd H3 l (.lst (ts.map V.ref ++ [V.ref p]))) (ts ++ [p]) := RI.upd ((hR.ex e3).app (RI.one hp b1.1 b1.2)) fun u hu => by
          rcases List.mem_append.mp hu with c | c
          · exact hne u c
          · rw [List.mem_singleton.mp c]
            exact pn
        have e4 : Ex H (upd H3 l (.lst (ts.map V.ref ++ [V.ref p]))) := Ex.mut (e.trans e3) l0
        have hl4 : (upd H3 l (.lst (ts.map V.ref ++ [V.ref p]))) l = some (.lst ((ts ++ [p]).map V.ref)) := by
          rw [List.map_append]
          exact upd_same
        have e34 : ∀ b o, b ≠ l → H' b = some o → (upd H3 l (.lst (ts.map V.ref ++ [V.ref p]))) b = some o := fun b o hb ho => by
          rw [upd_ne hb]
          exact e3 _ _ ho
        have hf4 := ex_l e4 hf
        revert hR3 e4 hl4 hf4
        generalize upd H3 l (.lst (ts.map V.ref ++ [V.ref p])) = H4
        intro hR3 e4 hl4 hf4
        have rowE2 : ∀ (d : Int) {r : R2} {c : V} {σ : L2.St}, (∀ H3, RV r (.int (S[i + 1] : Int)) c H3 (.int d)) → σ[0]? = some (some (.ref f)) → σ[3]? = some (some (.int ((i + 1 : Nat) : Int))) → EvL (tOp rCat (tOp rCat (tSl (rSlL K) (tVar 0) tNoPart (tPart (tVar 3))) (tLst (tCons (tOp r (tOp (rIxL K) (tVar 0) (tVar 3)) (tC c)) tNil))) (tSl (rSlL K) (tVar 0) (tPart (tOp (rI0 fun i j => .int (i + j)) (tVar 3) (tC (.int 1)))) tNoPart)) σ H4 (((zsOf S).take (i + 1) ++ [d] ++ (zsOf S).drop (i + 2)).map V.int) := fun d r c σ hr g0 g3 => by
          refine el_is (el_catN (el_catN (el_sl (hi := some ((i + 1 : Nat) : Int)) (ev_var g0) eo_none (eo_some (ev_var g3)) hf4) (el_lst (vs := [V.int d]) (ea_cons (ev_op (ev_op (ev_var g0) (ev_var g3) (rv_ixL hf4 (atI_nat (nats_at (List.getElem?_eq_getElem hi1))))) ev_c (hr _)) ea_nil) (show 1 ≤ 100000 by decide)) ?_) (el_sl (lo := some ((i + 2 : Nat) : Int)) (ev_var g0) (eo_some (ev_is (ev_op (ev_var g3) ev_c rv_I0) (congrArg V.int (by omega)))) eo_none hf4) ?_) ?_
          · rw [cutV_to, List.length_take, nS]
            show _ + 1 ≤ _
            omega
          · rw [cutV_to, cutV_from, List.length_append, List.length_take, List.length_drop, nS]
            show _ + 1 + _ ≤ _
            omega
          · rw [cutV_to, cutV_from, List.map_append, List.map_append, List.map_take, List.map_drop, zs_nats] <;> rfl
        refine s_appL hl4 (ev_var rfl) (rowE2 ((S[i + 1] : Int) + 1) (fun H3 => rv_I0) rfl rfl) (by rw [List.length_map, List.length_append, htl]; show _ + 1 < _; omega) fun p2 H5 p20 e5 hp2 => ?_
        have pn2 : p2 ≠ l := fun c => by
          rw [c, hl4] at p20
          cases p20
        have b2 := bnd ((S[i + 1] : Int) + 1) (by omega) (by omega)
        have hne2 : ∀ u ∈ ts ++ [p] ++ [p2], u ≠ l := fun u hu => by
          rcases List.mem_append.mp hu with c | c
          · rcases List.mem_append.mp c with c | c
            · exact hne u c
            · rw [List.mem_singleton.mp c]
              exact pn
          · rw [List.mem_singleton.mp c]
            exact pn2
        exact ⟨ts ++ [p] ++ [p2], _, rfl, Ex.mut (e4.trans e5) l0, by rw [show (ts ++ [p] ++ [p2]).map V.ref = (ts ++ [p]).map V.ref ++ [V.ref p2] from List.map_append ..]; exact upd_same, hne2, RI.upd ((hR3.ex e5).app (RI.one hp2 b2.1 b2.2)) hne2, by rw [List.length_append, List.length_append, htl]; show _ + 1 + 1 = _; omega⟩
      · rintro σ' H' ⟨ts, x, rfl, e, hlt, hne, hR, htl⟩
        exact ⟨ts, _, rfl, e, hlt, hne, hR, by omega⟩
    · rintro σ2 H2 ⟨ts, x, rfl, e, hlt, hne, hR, htl⟩
      refine q_cut (M := fun σ' H' => ∃ (l : Addr) (ts : List Addr), σ' = [some (.ref f), some (.int (n : Int)), some (.ref l), x] ∧ Ex H H' ∧ H l = none ∧ H' l = some (.lst (ts.map V.ref)) ∧ (∀ t ∈ ts, t ≠ l) ∧ RI n 4000 H' ts ∧ ts.length ≤ 6000) ?_ ?_
      · refine s_when (b := decide (0 < (n : Int)) && decide ((n : Int) < 8)) ?_ (fun hb H3 e3 => ?_) (fun hb H3 e3 => ⟨l, ts, rfl, e.trans e3, l0, e3 _ _ hlt, hne, hR.ex e3, by omega⟩)
        · exact et_test (ev_chain ev_c (ev_var rfl) rv_I0 fun _ => ⟨_, ev_c, rv_I0⟩)
        · rw [Bool.and_eq_true] at hb
          have n1 := of_decide_eq_true hb.1
          have n2 := of_decide_eq_true hb.2
          refine s_asgR (show tOp rCat _ _ _ _ _ from ⟨.ref l, rfl, ⟨_, rfl, ⟨n, rfl, by omega, by omega, fun q H4 us e4 q0 hq hRq hql => ⟨l, q, _, _, rfl, rfl, (e3.trans e4) _ _ hlt, hq, sz_of (by rw [List.length_map, List.length_map]; omega), fun r hr => ?_⟩⟩⟩⟩)
          have hall := (hR.ex (e3.trans e4)).app hRq
          have hne3 : ∀ u ∈ ts ++ us, u ≠ r := fun u hu c => by
            obtain ⟨zs, z1, _⟩ := hall u hu
            rw [c, hr] at z1
            cases z1
          exact ⟨r, ts ++ us, rfl, ((e.trans e3).trans e4).trans (Ex.new hr), fresh_back ((e.trans e3).trans e4) hr, by rw [List.map_append]; exact upd_same, hne3, RI.upd hall hne3, by rw [List.length_append]; omega⟩
      · rintro σ3 H3 ⟨l, ts, rfl, e3, l0, hlt, hne, hR, htl⟩
        exact s_ret (v := .ref l) (ev_var rfl) fun H5 e5 => k l H5 ts (e3.trans e5) l0 (e5 _ _ hlt) hne (hR.ex e5) htl
/-! ### beaten by others -/
def sp_beaten (K : PySem.W.Frag) : Sp := fun vs H Q _ => ∃ (p f o : Addr) (ws : List Str) (wd : Int) (S : List Nat) (zs : List Int), vs = [.ref p, .int wd, .ref f, .ref o] ∧ SqL K H p (ws.map V.str) ∧ SqL K H f (nats S) ∧ SqL K H o (zs.map V.int) ∧ (∀ z ∈ ws, Wd z) ∧ ws.length ≤ 2000 ∧ WidB wd ∧ S.length ≤ 2000 ∧ zs.length ≤ 9000 ∧ (∀ z ∈ zs, 0 ≤ z ∧ z ≤ (ws.length : Int)) ∧ FitS ws wd S ∧
  (∀ O, FitS ws wd O → O.length = S.length → sumTo ws wd S S.length ≤ sumTo ws wd O O.length ∧ (sumTo ws wd O O.length = sumTo ws wd S S.length → TwL.flt (zsOf S) (zsOf O) = false)) ∧ RetV (.bl false) H Q
theorem ok_l_beaten (T : Txt K mg A) : FnOk P w K mg base CX0 4 A.f_l_beaten A.d_l_beaten ["_law_row", "_law_width", "_law_found", "_law_others"] (sp_beaten K) := by
  refine T.F_l_beaten.ok sc_l_beaten (fun vs H Q E h => ?_) (fun cdv Ar outer s H vs Q E hr h => ?_)
  · obtain ⟨p, f, o, ws, wd, S, zs, rfl, _⟩ := h
    rfl
  · obtain ⟨p, f, o, ws, wd, S, zs, rfl, hp, hf, ho, hwd, hl, hwB, hSl, hzl, hb, fS, hbest, k⟩ := h
    refine ⟨_, (pss_cons (ps_if (PW.pt (pw_or (pt_cmpR op_ne (pe_callB call_len_seq (by rfl) T.m_len PySem.boot_len (pa_cons (pv 3) pa_nil)) (pe_callB call_len_seq (by rfl) T.m_len PySem.boot_len (pa_cons (pv 2) pa_nil)) (nomark _)) (pw_or1 (pt_not (pt_val (pe_call (ok_l_are_starts T) (hr.mono (by decide)) rfl T.g_l_are_starts T.F_l_are_starts.kp T.b_l_are_starts .nil pass0 (pa_cons (pv 0) (pa_cons (pv 1) (pa_cons (pv 3) pa_nil)))))))))
  (pss_one (ps_ret pe_bl))
  pss_nil)
  (pss_cons (ps_set (i := 4) sc_l_beaten.nd rfl (.inl rfl) (pe_call (ok_l_sum T) (hr.mono (by decide)) rfl T.g_l_sum T.F_l_sum.kp T.b_l_sum .nil pass0 (pa_cons (pv 0) (pa_cons (pv 1) (pa_cons (pv 2) pa_nil)))))
  (pss_cons (ps_set (i := 5) sc_l_beaten.nd rfl (.inl rfl) (pe_call (ok_l_sum T) (hr.mono (by decide)) rfl T.g_l_sum T.F_l_sum.kp T.b_l_sum .nil pass0 (pa_cons (pv 0) (pa_cons (pv 1) (pa_cons (pv 3) pa_nil)))))
  (pss_one (ps_ret (pe_or (pe_cmpR op_lt (pv 5) (pv 4) (nomark _)) (pe_one (pe_and (pe_cmpR op_eq (pv 4) (pv 5) (nomark _)) (pe_one (pe_cmpR (TwL.op_ltL (Nat.lt_of_le_of_lt (Nat.le_add_right _ 64) hr.units)) (pv 2) (pv 3) (nomark _))))))))))), ?_⟩
    have hz : ∀ z ∈ ws, z.length ≤ 300 := fun z h => (hwd z h).2.2
    have nz : (zs.map V.int).length = zs.length := List.length_map ..
    have nS : (nats S).length = S.length := nats_len S
    by_cases hA : Are ws wd zs
    · refine q_when (b := !decide (V.int ((zs.length : Nat) : Int) = V.int ((S.length : Nat) : Int)) || !true) (et_or (et_test (ev_op (ev_is (ev_cb (ea_cons (ev_var rfl) ea_nil) (rc_lenL ho)) (by rw [nz])) (ev_is (ev_cb (ea_cons (ev_var rfl) ea_nil) (rc_lenL hf)) (by rw [nS])) (rv_ne rfl))) fun _ => et_not (et_B (ev_call (ea_cons (ev_var rfl) (ea_cons (ev_var rfl) (ea_cons (ev_var rfl) ea_nil))) fun H3 e3 Q' q' E' => ⟨p, o, ws, wd, zs, rfl, ex_l e3 hp, ex_l e3 ho, hwd, hl, hzl, hb, fun b h1 h2 => by
        have h3 := h2 hA
        subst h3
        exact q'⟩))) (fun _ H1 e1 => s_ret (v := .bl false) ev_c fun H2 e2 => k H2 (e1.trans e2)) (fun hb1 H1 e1 => ?_)
      obtain ⟨O, rfl, fO⟩ := hA
      rw [zs_len] at hzl hb1
      have hOl : O.length = S.length := by
        by_cases c : O.length = S.length
        · exact c
        · rw [decide_eq_false (fun q => c (by injection q with q; omega))] at hb1
          cases hb1
      obtain ⟨g1, g2⟩ := hbest O fO hOl
      rw [zs_nats] at ho
      refine q_asg (v := .int (sumTo ws wd S S.length)) (ev_call (ea_cons (ev_var rfl) (ea_cons (ev_var rfl) (ea_cons (ev_var rfl) ea_nil))) fun H3 e3 Q' q E' => ⟨p, f, ws, S, wd, rfl, ex_l (e1.trans e3) hp, ex_l (e1.trans e3) hf, by omega, hz, hl, fS, hwB, q⟩) fun H2 e2 => ?_
      refine q_asg (v := .int (sumTo ws wd O O.length)) (ev_call (ea_cons (ev_var rfl) (ea_cons (ev_var rfl) (ea_cons (ev_var rfl) ea_nil))) fun H3 e3 Q' q E' => ⟨p, o, ws, O, wd, rfl, ex_l ((e1.trans e2).trans e3) hp, ex_l ((e1.trans e2).trans e3) ho, by omega, hz, hl, fO, hwB, q⟩) fun H3 e3 => ?_
      have e13 := (e1.trans e2).trans e3
      refine s_ret (v := .bl false) (ev_is (ev_orV (a := decide (sumTo ws wd O O.length < sumTo ws wd S S.length)) (ev_op (ev_var rfl) (ev_var rfl) rv_I0) fun _ => ev_andV (a := decide (V.int (sumTo ws wd S S.length) = V.int (sumTo ws wd O O.length))) (ev_op (ev_var rfl) (ev_var rfl) (rv_eq rfl)) fun _ => ev_op (ev_var rfl) (ev_var rfl) (TwL.rv_ltL (l := zsOf S) (m := zsOf O) (by rw [zs_nats]; exact ex_l e13 hf) (by rw [zs_nats]; exact ex_l e13 ho))) ?_) fun H4 e4 => k H4 (e13.trans e4)
      rw [decide_eq_false (show ¬ sumTo ws wd O O.length < sumTo ws wd S S.length by omega)]
      by_cases heq : sumTo ws wd O O.length = sumTo ws wd S S.length
      · rw [g2 heq, Bool.and_false, Bool.or_false]
      · rw [decide_eq_false (show ¬ V.int (sumTo ws wd S S.length) = V.int (sumTo ws wd O O.length) from fun q => by injection q with q; omega)]
        rfl
    · refine q_when (b := true) (et_is (et_or (a := !decide (V.int ((zs.length : Nat) : Int) = V.int ((S.length : Nat) : Int))) (b := !false) (et_test (ev_op (ev_is (ev_cb (ea_cons (ev_var rfl) ea_nil) (rc_lenL ho)) (by rw [nz])) (ev_is (ev_cb (ea_cons (ev_var rfl) ea_nil) (rc_lenL hf)) (by rw [nS])) (rv_ne rfl))) fun _ => et_not (et_B (ev_call (ea_cons (ev_var rfl) (ea_cons (ev_var rfl) (ea_cons (ev_var rfl) ea_nil))) fun H3 e3 Q' q' E' => ⟨p, o, ws, wd, zs, rfl, ex_l e3 hp, ex_l e3 ho, hwd, hl, hzl, hb, fun b h1 h2 => by
        cases b with
        | true => exact absurd (h1 rfl) hA
        | false => exact q'⟩))) (by rw [Bool.not_false, Bool.or_true])) (fun _ H1 e1 => s_ret (v := .bl false) ev_c fun H2 e2 => k H2 (e1.trans e2)) (fun hb1 => nomatch hb1)
/-! ### how many lines -/
def sp_many_by (K : PySem.W.Frag) : Sp := fun vs H Q _ => ∃ (c q n : Int) (g : Bool), vs = [.int c, .int q, .int n, .bl g] ∧ 0 ≤ q ∧ q ≤ n ∧ n ≤ 2000 ∧ ∀ m : Int, -10000000000000000000000000000000000 ≤ m → m ≤ 10000000000000000000000000000000000 → RetV (.int m) H Q
theorem ok_l_many_by (T : Txt K mg A) : FnOk P w K mg base CX0 1 A.f_l_many_by A.d_l_many_by ["_law_cell", "_law_quick", "_law_count", "_law_great"] (sp_many_by K) := by
  refine T.F_l_many_by.ok sc_l_many_by (fun vs H Q E h => ?_) (fun cdv Ar outer s H vs Q E hr h => ?_)
  · obtain ⟨c, q, n, g, rfl, _⟩ := h
    rfl
  · obtain ⟨c, q, n, g, rfl, q0, q1, n1, k⟩ := h
    refine ⟨_, (pss_cons (ps_if (pt_cmpR op_eq (pe_op op_mod (pv 0) pe_int) pe_int (nomark _))
  (pss_one (ps_ret (pe_ix (ixL (K := K) rfl) (pe_lst (pa_cons (pe_un un_neg pe_int) (pa_cons (pe_op op_pow pe_int pe_int) pa_nil))) (pe_op op_mod (pe_op op_fdiv (pv 0) pe_int) pe_int) (fun _ _ => rfl))))
  pss_nil)
  (pss_cons (ps_if (pt_val (pv 3))
  (pss_one (ps_ret (pe_op op_sub (pe_op op_add (pv 1) (pe_op op_mod (pe_op op_fdiv (pv 0) pe_int) pe_int)) pe_int)))
  pss_nil)
  (pss_one (ps_ret (pe_op op_add (pe_op op_sub (pv 1) pe_int) (pe_op op_mod (pe_op op_fdiv (pv 0) pe_int) (pe_op op_add (pe_op op_sub (pv 2) (pv 1)) pe_int))))))), ?_⟩
    have t30 : ∀ {σ : L2.St} {H' : Hp}, Ev (tOp (rI CPow fun i j => .int (i ^ j.toNat)) (tC (.int 10)) (tC (.int 30))) σ H' (.int 1000000000000000000000000000000) := ev_is (ev_op ev_c ev_c (rv_I ⟨by decide, by decide, by decide⟩)) (by rw [ten30])
    refine q_when (b := decide (V.int (c % 9) = V.int 1)) (et_test (ev_op (ev_op (ev_var rfl) ev_c (rv_I (by decide))) ev_c (rv_eq rfl))) (fun hb H1 e1 => ?_) (fun hb H1 e1 => ?_)
    · have lst : EvL (tLst (tCons (tUn (rU fun i => .int (-i)) (tC (.int 2))) (tCons (tOp (rI CPow fun i j => .int (i ^ j.toNat)) (tC (.int 10)) (tC (.int 30))) tNil))) [some (.int c), some (.int q), some (.int n), some (.bl g)] H1 [.int (-2), .int 1000000000000000000000000000000] := el_lst (ea_cons (ev_un ev_c ru_neg) (ea_cons t30 ea_nil)) (show 2 ≤ 100000 by decide)
      have h2 : c / 9 % 2 = 0 ∨ c / 9 % 2 = 1 := by omega
      rcases h2 with h2 | h2
      · exact s_ret (v := .int (-2)) (ev_opL1 (y := .int 0) lst (fun H3 e3 => ev_is (ev_op (ev_op (ev_var rfl) ev_c (rv_I ⟨by decide, by decide⟩)) ev_c (rv_I (by decide))) (by rw [h2])) fun p H3 hp e3 => rv_ixL (sq_of hp) rfl) fun H2 e2 => k _ (by decide) (by decide) H2 (e1.trans e2)
      · exact s_ret (v := .int 1000000000000000000000000000000) (ev_opL1 (y := .int 1) lst (fun H3 e3 => ev_is (ev_op (ev_op (ev_var rfl) ev_c (rv_I ⟨by decide, by decide⟩)) ev_c (rv_I (by decide))) (by rw [h2])) fun p H3 hp e3 => rv_ixL (sq_of hp) rfl) fun H2 e2 => k _ (by decide) (by decide) H2 (e1.trans e2)
    · refine q_when (b := g) (et_B (ev_var rfl)) (fun hg H2 e2 => ?_) (fun hg H2 e2 => ?_)
      · exact s_ret (v := .int (q + c / 9 % 5 - 1)) (ev_op (ev_op (ev_var rfl) (ev_op (ev_op (ev_var rfl) ev_c (rv_I ⟨by decide, by decide⟩)) ev_c (rv_I (by decide))) rv_I0) ev_c rv_I0) fun H3 e3 => k _ (by omega) (by omega) H3 ((e1.trans e2).trans e3)
      · have p0 : 0 < n - q + 3 := by omega
        have a0 := Int.emod_nonneg (c / 9) (show n - q + 3 ≠ 0 by omega)
        have a1 := Int.emod_lt_of_pos (c / 9) p0
        exact s_ret (v := .int (q - 1 + c / 9 % (n - q + 3))) (ev_op (ev_op (ev_var rfl) ev_c rv_I0) (ev_op (ev_op (ev_var rfl) ev_c (rv_I ⟨by decide, by decide⟩)) (ev_op (ev_op (ev_var rfl) (ev_var rfl) rv_I0) ev_c rv_I0) (rv_I (by omega))) rv_I0) fun H3 e3 => k _ (by omega) (by omega) H3 ((e1.trans e2).trans e3)
/-! ### the refusals -/
theorem kinds_NoWidth (T : Txt K mg A) : ∀ i C, (kinds A)[i]? = some C → PySem.W.kitOne K (.ref A.c_NoWidth) (.ref C) = some (decide (i = 0)) := fun i C h => by
  have hi : i < 10 := (List.getElem?_eq_some_iff.mp h).1
  have hc : i = 0 ∨ i = 1 ∨ i = 2 ∨ i = 3 ∨ i = 4 ∨ i = 5 ∨ i = 6 ∨ i = 7 ∨ i = 8 ∨ i = 9 := by omega
  rcases hc with q | q | q | q | q | q | q | q | q | q <;> subst q <;> cases h
  · exact kit_ref T.hd_NoWidth T.ty_NoWidth T.sb_NoWidth_NoWidth fun _ => rfl
  · exact kit_ref T.hd_LongWord T.ty_LongWord T.sb_NoWidth_LongWord fun q => absurd q T.ne_NoWidth_LongWord
  · exact kit_ref T.hd_NoStarts T.ty_NoStarts T.sb_NoWidth_NoStarts fun q => absurd q T.ne_NoWidth_NoStarts
  · exact kit_ref T.hd_TooWide T.ty_TooWide T.sb_NoWidth_TooWide fun q => absurd q T.ne_NoWidth_TooWide
  · exact kit_ref T.hd_TooFew T.ty_TooFew T.sb_NoWidth_TooFew fun q => absurd q T.ne_NoWidth_TooFew
  · exact kit_ref T.hd_TooMany T.ty_TooMany T.sb_NoWidth_TooMany fun q => absurd q T.ne_NoWidth_TooMany
  · exact kit_ref T.hd_NoPlace T.ty_NoPlace T.sb_NoWidth_NoPlace fun q => absurd q T.ne_NoWidth_NoPlace
  · exact kit_ref T.hd_NoWord T.ty_NoWord T.sb_NoWidth_NoWord fun q => absurd q T.ne_NoWidth_NoWord
  · exact kit_ref T.hd_Full T.ty_Full T.sb_NoWidth_Full fun q => absurd q T.ne_NoWidth_Full
  · exact kit_ref T.hd_NoWayBack T.ty_NoWayBack T.sb_NoWidth_NoWayBack fun q => absurd q T.ne_NoWidth_NoWayBack
theorem kinds_LongWord (T : Txt K mg A) : ∀ i C, (kinds A)[i]? = some C → PySem.W.kitOne K (.ref A.c_LongWord) (.ref C) = some (decide (i = 1)) := fun i C h => by
  have hi : i < 10 := (List.getElem?_eq_some_iff.mp h).1
  have hc : i = 0 ∨ i = 1 ∨ i = 2 ∨ i = 3 ∨ i = 4 ∨ i = 5 ∨ i = 6 ∨ i = 7 ∨ i = 8 ∨ i = 9 := by omega
  rcases hc with q | q | q | q | q | q | q | q | q | q <;> subst q <;> cases h
  · exact kit_ref T.hd_NoWidth T.ty_NoWidth T.sb_LongWord_NoWidth fun q => absurd q T.ne_LongWord_NoWidth
  · exact kit_ref T.hd_LongWord T.ty_LongWord T.sb_LongWord_LongWord fun _ => rfl
  · exact kit_ref T.hd_NoStarts T.ty_NoStarts T.sb_LongWord_NoStarts fun q => absurd q T.ne_LongWord_NoStarts
  · exact kit_ref T.hd_TooWide T.ty_TooWide T.sb_LongWord_TooWide fun q => absurd q T.ne_LongWord_TooWide
  · exact kit_ref T.hd_TooFew T.ty_TooFew T.sb_LongWord_TooFew fun q => absurd q T.ne_LongWord_TooFew
  · exact kit_ref T.hd_TooMany T.ty_TooMany T.sb_LongWord_TooMany fun q => absurd q T.ne_LongWord_TooMany
  · exact kit_ref T.hd_NoPlace T.ty_NoPlace T.sb_LongWord_NoPlace fun q => absurd q T.ne_LongWord_NoPlace
  · exact kit_ref T.hd_NoWord T.ty_NoWord T.sb_LongWord_NoWord fun q => absurd q T.ne_LongWord_NoWord
  · exact kit_ref T.hd_Full T.ty_Full T.sb_LongWord_Full fun q => absurd q T.ne_LongWord_Full
  · exact kit_ref T.hd_NoWayBack T.ty_NoWayBack T.sb_LongWord_NoWayBack fun q => absurd q T.ne_LongWord_NoWayBack
theorem kinds_TooFew (T : Txt K mg A) : ∀ i C, (kinds A)[i]? = some C → PySem.W.kitOne K (.ref A.c_TooFew) (.ref C) = some (decide (i = 4)) := fun i C h => by
  have hi : i < 10 := (List.getElem?_eq_some_iff.mp h).1
  have hc : i = 0 ∨ i = 1 ∨ i = 2 ∨ i = 3 ∨ i = 4 ∨ i = 5 ∨ i = 6 ∨ i = 7 ∨ i = 8 ∨ i = 9 := by omega
  rcases hc with q | q | q | q | q | q | q | q | q | q <;> subst q <;> cases h
  · exact kit_ref T.hd_NoWidth T.ty_NoWidth T.sb_TooFew_NoWidth fun q => absurd q T.ne_TooFew_NoWidth
  · exact kit_ref T.hd_LongWord T.ty_LongWord T.sb_TooFew_LongWord fun q => absurd q T.ne_TooFew_LongWord
  · exact kit_ref T.hd_NoStarts T.ty_NoStarts T.sb_TooFew_NoStarts fun q => absurd q T.ne_TooFew_NoStarts
  · exact kit_ref T.hd_TooWide T.ty_TooWide T.sb_TooFew_TooWide fun q => absurd q T.ne_TooFew_TooWide
  · exact kit_ref T.hd_TooFew T.ty_TooFew T.sb_TooFew_TooFew fun _ => rfl
  · exact kit_ref T.hd_TooMany T.ty_TooMany T.sb_TooFew_TooMany fun q => absurd q T.ne_TooFew_TooMany
  · exact kit_ref T.hd_NoPlace T.ty_NoPlace T.sb_TooFew_NoPlace fun q => absurd q T.ne_TooFew_NoPlace
  · exact kit_ref T.hd_NoWord T.ty_NoWord T.sb_TooFew_NoWord fun q => absurd q T.ne_TooFew_NoWord
  · exact kit_ref T.hd_Full T.ty_Full T.sb_TooFew_Full fun q => absurd q T.ne_TooFew_Full
  · exact kit_ref T.hd_NoWayBack T.ty_NoWayBack T.sb_TooFew_NoWayBack fun q => absurd q T.ne_TooFew_NoWayBack
theorem kinds_TooMany (T : Txt K mg A) : ∀ i C, (kinds A)[i]? = some C → PySem.W.kitOne K (.ref A.c_TooMany) (.ref C) = some (decide (i = 5)) := fun i C h => by
  have hi : i < 10 := (List.getElem?_eq_some_iff.mp h).1
  have hc : i = 0 ∨ i = 1 ∨ i = 2 ∨ i = 3 ∨ i = 4 ∨ i = 5 ∨ i = 6 ∨ i = 7 ∨ i = 8 ∨ i = 9 := by omega
  rcases hc with q | q | q | q | q | q | q | q | q | q <;> subst q <;> cases h
  · exact kit_ref T.hd_NoWidth T.ty_NoWidth T.sb_TooMany_NoWidth fun q => absurd q T.ne_TooMany_NoWidth
  · exact kit_ref T.hd_LongWord T.ty_LongWord T.sb_TooMany_LongWord fun q => absurd q T.ne_TooMany_LongWord
  · exact kit_ref T.hd_NoStarts T.ty_NoStarts T.sb_TooMany_NoStarts fun q => absurd q T.ne_TooMany_NoStarts
  · exact kit_ref T.hd_TooWide T.ty_TooWide T.sb_TooMany_TooWide fun q => absurd q T.ne_TooMany_TooWide
  · exact kit_ref T.hd_TooFew T.ty_TooFew T.sb_TooMany_TooFew fun q => absurd q T.ne_TooMany_TooFew
  · exact kit_ref T.hd_TooMany T.ty_TooMany T.sb_TooMany_TooMany fun _ => rfl
  · exact kit_ref T.hd_NoPlace T.ty_NoPlace T.sb_TooMany_NoPlace fun q => absurd q T.ne_TooMany_NoPlace
  · exact kit_ref T.hd_NoWord T.ty_NoWord T.sb_TooMany_NoWord fun q => absurd q T.ne_TooMany_NoWord
  · exact kit_ref T.hd_Full T.ty_Full T.sb_TooMany_Full fun q => absurd q T.ne_TooMany_Full
  · exact kit_ref T.hd_NoWayBack T.ty_NoWayBack T.sb_TooMany_NoWayBack fun q => absurd q T.ne_TooMany_NoWayBack
def sp_refusal (K : PySem.W.Frag) : Sp := fun vs H Q _ => ∃ (p : Addr) (ws : List Str) (w m : Int), vs = [.ref p, .int w, .int m] ∧ SqL K H p (ws.map V.str) ∧ (∀ z ∈ ws, z.length ≤ 300) ∧ ws.length ≤ 2000 ∧ WidB w ∧ (w < 1 → RetV (.int 11) H Q) ∧ (1 ≤ w → (∃ z ∈ ws, w < (z.length : Int)) → RetV (.int 12) H Q) ∧
  (1 ≤ w → (∀ z ∈ ws, (z.length : Int) ≤ w) → ∃ S, FitS ws w S ∧ Full ws w S ∧ ((m < (S.length : Int) ∧ RetV (.int 15) H Q) ∨ ((S.length : Int) ≤ m ∧ (ws.length : Int) < m ∧ RetV (.int 16) H Q)))
theorem ok_l_refusal (T : Txt K mg A) : FnOk P w K mg base CX0 7 A.f_l_refusal A.d_l_refusal ["_law_row", "_law_width", "_law_many"] (sp_refusal K) := by
  refine T.F_l_refusal.ok sc_l_refusal (fun vs H Q E h => ?_) (fun cdv Ar outer s H vs Q E hr h => ?_)
  · obtain ⟨p, ws, i, m, rfl, _⟩ := h
    rfl
  · obtain ⟨p, ws, wd, m, rfl, hS, hz, hl, hwB, k1, k2, k3⟩ := h
    refine ⟨_, (pss_cons (L2N.ps_try_as (i := 3) (Wout := fun _ _ _ _ => False) rfl rfl sc_l_refusal.nd rfl rfl ⟨rfl, by decide, .inl T.gc_WrapError⟩ takesN0 (fun W pn xe tk pw => (pss_one (ps_expr (pe_callS (ok_starts_in T) (hr.mono (by decide)) rfl T.g_starts_in T.F_starts_in.kp T.b_starts_in (fun σ => L2N.passAt tk σ) (pa_cons (pv 0) (pa_cons (pv 1) (pa_cons (pv 2) pa_nil))))))) (fun a oe cls d pn hz hf => (pss_one (ps_ret (pe_callP (a := a) (oe := oe) (ok_l_kind T) (roomH_suite (k := 1) (hr.mono (by decide))) (hot_suite hz hf) (List.mem_cons_self ..) hz.zc rfl T.g_l_kind T.F_l_kind.kp T.b_l_kind (pa_cons (pv 3) pa_nil))))))
  (pss_one (ps_ret pe_int))), ?_⟩
    refine s_dropS (ea_cons (ev_var rfl) (ea_cons (ev_var rfl) (ea_cons (ev_var rfl) ea_nil))) fun H1 e1 => ⟨p, ws, wd, m, rfl, ex_l e1 hS, hz, hl, hwB, fun hw H' e' => ?_, fun hw hx H' e' => ?_, fun hw hx S0 f1 f2 => ?_⟩
    · refine ⟨true, PySem.W.exm_ref T.bw T.hd_WrapError T.ty_WrapError T.sb_NoWidth_WrapError, fun _ a ha => ?_, fun q => nomatch q⟩
      exact s_ret (v := .int 11) (ev_call (ea_cons (ev_var rfl) ea_nil) fun H5 e5 Q' q E' => ⟨A.c_NoWidth, 0, rfl, rfl, rfl, T.ex_NoWidth.e, by decide, kinds_NoWidth T, q⟩) fun H2 e2 => k1 hw H2 ((e1.trans e').trans e2)
    · refine ⟨true, PySem.W.exm_ref T.bw T.hd_WrapError T.ty_WrapError T.sb_LongWord_WrapError, fun _ a ha => ?_, fun q => nomatch q⟩
      exact s_ret (v := .int 12) (ev_call (ea_cons (ev_var rfl) ea_nil) fun H5 e5 Q' q E' => ⟨A.c_LongWord, 1, rfl, rfl, rfl, T.ex_LongWord.e, by decide, kinds_LongWord T, q⟩) fun H2 e2 => k2 hw hx H2 ((e1.trans e').trans e2)
    · obtain ⟨S, g1, g2, g3⟩ := k3 hw hx
      have hu := full_uniq f1 f2 g1 g2
      refine ⟨fun hm H' e' => ?_, fun hm hm2 H' e' => ?_, fun hm hm2 => ?_⟩
      · refine ⟨true, PySem.W.exm_ref T.bw T.hd_WrapError T.ty_WrapError T.sb_TooFew_WrapError, fun _ a ha => ?_, fun q => nomatch q⟩
        rcases g3 with ⟨c1, k4⟩ | ⟨c1, c2, k4⟩
        · exact s_ret (v := .int 15) (ev_call (ea_cons (ev_var rfl) ea_nil) fun H5 e5 Q' q E' => ⟨A.c_TooFew, 4, rfl, rfl, rfl, T.ex_TooFew.e, by decide, kinds_TooFew T, q⟩) fun H2 e2 => k4 H2 ((e1.trans e').trans e2)
        · omega
      · refine ⟨true, PySem.W.exm_ref T.bw T.hd_WrapError T.ty_WrapError T.sb_TooMany_WrapError, fun _ a ha => ?_, fun q => nomatch q⟩
        rcases g3 with ⟨c1, k4⟩ | ⟨c1, c2, k4⟩
        · omega
        · exact s_ret (v := .int 16) (ev_call (ea_cons (ev_var rfl) ea_nil) fun H5 e5 Q' q E' => ⟨A.c_TooMany, 5, rfl, rfl, rfl, T.ex_TooMany.e, by decide, kinds_TooMany T, q⟩) fun H2 e2 => k4 H2 ((e1.trans e').trans e2)
      · rcases g3 with ⟨c1, k4⟩ | ⟨c1, c2, k4⟩ <;> omega

/-! ### the law -/
theorem widB_of {w : Int} (h1 : -10000000000000000000000000000000000 ≤ w) (h2 : w ≤ 10000000000000000000000000000000000) : WidB w := by
  unfold WidB
  omega
theorem cut_strs (ws : List Str) (lo hi : Option Int) : ∃ ws' : List Str, cutV (ws.map V.str) lo hi = ws'.map V.str ∧ ws'.length ≤ ws.length ∧ ∀ z ∈ ws', z ∈ ws := by
  unfold cutV
  rw [← List.map_drop, ← List.map_take]
  exact ⟨_, rfl, by rw [List.length_take, List.length_drop]; omega, fun z hz => List.mem_of_mem_drop (List.mem_of_mem_take hz)⟩
theorem t_lenA {ta : TA} {sp : Sp} {dvs : List V} {E : XK} {σ : L2.St} {H : Hp} {Q : VK} {P : List V → Hp → Prop} (h : ArgP ta σ H P) (k : ∀ vs H1, Ex H H1 → P vs H1 → ∀ Q' : VK, (∀ p ys H2, SqL K H2 p ys → Q (.int (ys.length : Int)) H2 → Q' (.ref p) H2) → sp (vs ++ dvs) H1 Q' E) : tCB (rLenS K) (tCons (tCall sp dvs E ta) tNil) σ H Q :=
  h H (Ex.refl H) _ fun vs H1 e1 hP => k vs H1 e1 hP _ fun p ys H2 h1 h2 => ⟨p, ys, rfl, Or.inl h1, h2⟩
theorem s_appP {l : Addr} {xs : List V} {ta' : TE} {ta : TA} {sp : Sp} {dvs : List V} {E : XK} {σ : L2.St} {H : Hp} {D : Ends} {P : List V → Hp → Prop} (hl : H l = some (.lst xs)) (ha : Ev ta' σ H (.ref l)) (h : ArgP ta σ H P)
    (k : ∀ vs H1, Ex H H1 → P vs H1 → ∀ Q : VK, (∀ v H2, (∃ xs', H2 l = some (.lst xs') ∧ xs'.length < 100000 ∧ D.nx σ (upd H2 l (.lst (xs' ++ [v])))) → Q v H2) → sp (vs ++ dvs) H1 Q E) : tDrop (tBM K "list" rAppend ta' (tCons (tCall sp dvs E ta) tNil)) D σ H := ha H (Ex.refl H) _ fun H1 e1 =>
  ⟨Or.inl ⟨rfl, xs, sq_of (e1 l _ hl)⟩, h H1 e1 _ fun vs H2 e2 hP => k vs H2 (e1.trans e2) hP _ fun v H3 ⟨xs', h1, h2, h3⟩ => ⟨l, xs', v, rfl, rfl, h1, sz_lt h2, h3⟩⟩
theorem fit_low {ws : List Str} {w : Int} {S : List Nat} (f : FitS ws w S) : ∀ k (h : k < S.length), S[k] < ws.length ∧ (0 < k → 0 < S[k]) := fun k h => by
  obtain ⟨a1, a2, a3⟩ := f.fit k S[k] _ (List.getElem?_eq_getElem h) (ends_get h)
  refine ⟨by omega, fun hp => ?_⟩
  have h1 : k - 1 < S.length := by omega
  have h2 : k - 1 + 1 < S.length := by omega
  obtain ⟨b1, b2, b3⟩ := f.fit (k - 1) S[k - 1] S[k - 1 + 1] (List.getElem?_eq_getElem h1) (by rw [ends_at h1, dif_pos h2])
  have e : S[k - 1 + 1] = S[k] := by
    congr 1
    omega
  omega
def sp_law (K : PySem.W.Frag) : Sp := fun vs H Q _ => ∃ (a : Addr) (ns : List Int), vs = [.ref a] ∧ SqL K H a (ns.map V.int) ∧ ns.length ≤ 63 ∧ ∀ H', Q (.bl true) H'
theorem ok_law (T : Txt K mg A) : FnOk P w K mg base CX0 8 A.f_law A.d_law ["_law_script"] (sp_law K) := by
  refine T.F_law.ok sc_law (fun vs H Q E h => ?_) (fun cdv Ar outer s H vs Q E hr h => ?_)
  · obtain ⟨a, ns, rfl, _⟩ := h
    rfl
  · obtain ⟨a, ns, rfl, hS, hlen, k⟩ := h
    refine ⟨_, (pss_cons (ps_set (i := 1) sc_law.nd rfl (.inl rfl) (pe_op op_add pe_int (pe_op op_fdiv (pe_op op_mul (pe_callB (call_max2 rfl) (by rfl) T.m_max (by decide +kernel) (pa_cons pe_int (pa_cons (pe_op op_sub (pe_callB call_len_seq (by rfl) T.m_len PySem.boot_len (pa_cons (pv 0) pa_nil)) pe_int) pa_nil))) (pe_op op_add pe_int (pe_op op_mod (pe_call (ok_l_cell_at T) (hr.mono (by decide)) rfl T.g_l_cell_at T.F_l_cell_at.kp T.b_l_cell_at .nil pass0 (pa_cons (pv 0) (pa_cons pe_int pa_nil))) pe_int))) pe_int)))
  (pss_cons (ps_set (i := 2) sc_law.nd rfl (.inl rfl) (pe_call (ok_l_cell_at T) (hr.mono (by decide)) rfl T.g_l_cell_at T.F_l_cell_at.kp T.b_l_cell_at .nil pass0 (pa_cons (pv 0) (pa_cons pe_int pa_nil))))
  (pss_cons (ps_set (i := 3) sc_law.nd rfl (.inl rfl) (pe_cmpR op_eq (pe_op op_mod (pe_op op_fdiv (pv 2) pe_int) pe_int) pe_int (nomark _)))
  (pss_cons (ps_set (i := 4) sc_law.nd rfl (.inl rfl) (pe_slice (TwE.slE (K := K) rfl) (pe_call (ok_l_words_by T) (hr.mono (by decide)) rfl T.g_l_words_by T.F_l_words_by.kp T.b_l_words_by .nil pass0 (pa_cons (pe_slice (TwE.slE (K := K) rfl) (pv 0) (po_some pe_int) (po_some (pv 1))) (pa_cons (pv 2) pa_nil))) po_none (po_some (pe_op op_add pe_int (pe_op op_mul pe_int (pe_callTy call_int1 (by rfl) T.m_int (by decide +kernel) (pa_cons (pv 3) pa_nil)))))))
  (Evl.pss_cut (ps_if (pt_cmpR op_eq (pe_op op_mod (pe_op op_fdiv (pv 2) pe_int) pe_int) pe_int (nomark _))
  (pss_one (ps_set (i := 4) sc_law.nd rfl (.inl rfl) (pe_slice (TwE.slE (K := K) rfl) (pv 4) po_none (po_some pe_int))))
  pss_nil)
  (pss_cons (ps_set (i := 5) sc_law.nd rfl (.inl rfl) (pe_call (ok_l_width_by T) (hr.mono (by decide)) rfl T.g_l_width_by T.F_l_width_by.kp T.b_l_width_by .nil pass0 (pa_cons (pe_call (ok_l_cell_at T) (hr.mono (by decide)) rfl T.g_l_cell_at T.F_l_cell_at.kp T.b_l_cell_at .nil pass0 (pa_cons (pv 0) (pa_cons pe_int pa_nil))) (pa_cons (pv 4) pa_nil))))
  (Evl.pss_cut (ps_if (pt_cmpR op_eq (pe_op op_mod (pv 2) pe_int) pe_int (nomark _))
  (pss_cons (ps_set (i := 4) sc_law.nd rfl (.inl rfl) (pe_slice (TwE.slE (K := K) rfl) (pe_call (ok_l_words_by T) (hr.mono (by decide)) rfl T.g_l_words_by T.F_l_words_by.kp T.b_l_words_by .nil pass0 (pa_cons (pe_lst pa_nil) (pa_cons (pv 2) pa_nil))) po_none (po_some pe_int)))
  (pss_cons (ps_set (i := 3) sc_law.nd rfl (.inl rfl) pe_bl)
  (pss_one (ps_set (i := 5) sc_law.nd rfl (.inl rfl) (pe_op op_add pe_int (pe_op op_fdiv (pe_call (ok_l_size T) (hr.mono (by decide)) rfl T.g_l_size T.F_l_size.kp T.b_l_size .nil pass0 (pa_cons (pv 4) (pa_cons pe_int (pa_cons (pe_callB call_len_seq (by rfl) T.m_len PySem.boot_len (pa_cons (pv 4) pa_nil)) pa_nil)))) (pe_op op_add pe_int (pe_op op_mod (pe_call (ok_l_cell_at T) (hr.mono (by decide)) rfl T.g_l_cell_at T.F_l_cell_at.kp T.b_l_cell_at .nil pass0 (pa_cons (pv 0) (pa_cons pe_int pa_nil))) pe_int))))))))
  pss_nil)
  (Evl.pss_cut (ps_if (PW.pt (pw_and (pt_val (pv 3)) (pw_and1 (pt_cmpR op_eq (pe_op op_mod (pe_op op_fdiv (pe_call (ok_l_cell_at T) (hr.mono (by decide)) rfl T.g_l_cell_at T.F_l_cell_at.kp T.b_l_cell_at .nil pass0 (pa_cons (pv 0) (pa_cons pe_int pa_nil))) pe_int) pe_int) pe_int (nomark _)))))
  (pss_cons (ps_set (i := 4) sc_law.nd rfl (.inl rfl) (pe_slice (TwE.slE (K := K) rfl) (pv 4) po_none (po_some pe_int)))
  (pss_one (ps_set (i := 3) sc_law.nd rfl (.inl rfl) pe_bl)))
  pss_nil)
  (pss_cons (ps_if (PW.pt (pw_or (pt_cmpR op_lt (pv 5) pe_int (nomark _)) (pw_or1 (pt_cmpR op_gt (pe_call (ok_l_longest T) (hr.mono (by decide)) rfl T.g_l_longest T.F_l_longest.kp T.b_l_longest .nil pass0 (pa_cons (pv 4) pa_nil)) (pv 5) (nomark _)))))
  (pss_one (ps_ret (pe_cmpR op_eq (pe_call (ok_l_refusal T) (hr.mono (by decide)) rfl T.g_l_refusal T.F_l_refusal.kp T.b_l_refusal .nil pass0 (pa_cons (pe_callTy call_list_of (by rfl) T.m_list (by decide +kernel) (pa_cons (pv 4) pa_nil)) (pa_cons (pv 5) (pa_cons (pe_op op_sub (pe_op op_mod (pe_call (ok_l_cell_at T) (hr.mono (by decide)) rfl T.g_l_cell_at T.F_l_cell_at.kp T.b_l_cell_at .nil pass0 (pa_cons (pv 0) (pa_cons pe_int pa_nil))) pe_int) pe_int) pa_nil)))) (pe_op op_add pe_int (pe_callTy call_int1 (by rfl) T.m_int (by decide +kernel) (pa_cons (pe_cmpR op_ge (pv 5) pe_int (nomark _)) pa_nil))) (nomark _))))
  pss_nil)
  (pss_cons (ps_set (i := 6) sc_law.nd rfl (.inl rfl) (pe_callB call_len_seq (by rfl) T.m_len PySem.boot_len (pa_cons (pe_call (ok_l_others_by T) (hr.mono (by decide)) rfl T.g_l_others_by T.F_l_others_by.kp T.b_l_others_by .nil pass0 (pa_cons (pe_lst pa_nil) (pa_cons (pv 4) (pa_cons (pv 5) pa_nil)))) pa_nil)))
  (pss_cons (ps_set (i := 7) sc_law.nd rfl (.inl rfl) (pe_call (ok_l_many_by T) (hr.mono (by decide)) rfl T.g_l_many_by T.F_l_many_by.kp T.b_l_many_by .nil pass0 (pa_cons (pe_call (ok_l_cell_at T) (hr.mono (by decide)) rfl T.g_l_cell_at T.F_l_cell_at.kp T.b_l_cell_at .nil pass0 (pa_cons (pv 0) (pa_cons pe_int pa_nil))) (pa_cons (pv 6) (pa_cons (pe_callB call_len_seq (by rfl) T.m_len PySem.boot_len (pa_cons (pv 4) pa_nil)) (pa_cons (pv 3) pa_nil))))))
  (pss_cons (ps_set (i := 8) sc_law.nd rfl (.inl rfl) (pe_callTy call_list_of (by rfl) T.m_list (by decide +kernel) (pa_cons (pv 4) pa_nil)))
  (pss_cons (ps_if (PW.pt (pw_or (pt_cmpR op_lt (pv 7) (pv 6) (nomark _)) (pw_or1 (pt_cmpR op_gt (pv 7) (pe_callB call_len_seq (by rfl) T.m_len PySem.boot_len (pa_cons (pv 4) pa_nil)) (nomark _)))))
  (pss_one (ps_ret (pe_and (pe_cmpR op_eq (pe_call (ok_l_refusal T) (hr.mono (by decide)) rfl T.g_l_refusal T.F_l_refusal.kp T.b_l_refusal .nil pass0 (pa_cons (pv 8) (pa_cons (pv 5) (pa_cons (pv 7) pa_nil)))) (pe_op op_add pe_int (pe_callTy call_int1 (by rfl) T.m_int (by decide +kernel) (pa_cons (pe_cmpR op_gt (pv 7) (pe_callB call_len_seq (by rfl) T.m_len PySem.boot_len (pa_cons (pv 4) pa_nil)) (nomark _)) pa_nil))) (nomark _)) (pe_one (pe_cmpR (op_eqD hr.units) (pv 8) (pv 4) (nomark _))))))
  pss_nil)
  (pss_cons (ps_set (i := 9) sc_law.nd rfl (.inl rfl) (pe_call (ok_starts_in T) (hr.mono (by decide)) rfl T.g_starts_in T.F_starts_in.kp T.b_starts_in .nil passN (pa_cons (pv 8) (pa_cons (pv 5) (pa_cons (pv 7) pa_nil)))))
  (pss_cons (ps_if (PW.pt (pw_or (pt_cmpR (op_neD hr.units) (pv 8) (pv 4) (nomark _)) (pw_or (pt_not (pt_val (pe_call (ok_l_are_starts T) (hr.mono (by decide)) rfl T.g_l_are_starts T.F_l_are_starts.kp T.b_l_are_starts .nil pass0 (pa_cons (pv 4) (pa_cons (pv 5) (pa_cons (pv 9) pa_nil)))))) (pw_or1 (pt_cmpR op_ne (pe_callB call_len_seq (by rfl) T.m_len PySem.boot_len (pa_cons (pv 9) pa_nil)) (pv 7) (nomark _))))))
  (pss_one (ps_ret pe_bl))
  pss_nil)
  (pss_cons (ps_set (i := 10) sc_law.nd rfl (.inl rfl) (pe_call (ok_l_near T) (hr.mono (by decide)) rfl T.g_l_near T.F_l_near.kp T.b_l_near .nil pass0 (pa_cons (pv 9) (pa_cons (pe_callB call_len_seq (by rfl) T.m_len PySem.boot_len (pa_cons (pv 4) pa_nil)) pa_nil))))
  (pss_cons (ps_for PassesOwn.never rfl (pi_range1 (by rfl) T.m_range (pa_cons pe_int pa_nil)) (pg_name (i := 11) sc_law.nd rfl (.inl rfl))
  (pss_one (ps_expr (pe_bm PySem.F.plainAttrs_list PySem.F.slot_list_append PySem.F.type_list_append mt_append (pv 10) (pa_cons (pe_call (ok_l_in_lines T) (hr.mono (by decide)) rfl T.g_l_in_lines T.F_l_in_lines.kp T.b_l_in_lines .nil pass0 (pa_cons (pe_slice (TwE.slE (K := K) rfl) (pv 0) (po_some (pe_op op_add (pv 1) (pv 11))) po_none) (pa_cons (pv 4) (pa_cons (pv 5) (pa_cons (pv 7) pa_nil))))) pa_nil)))))
  (pss_cons (ps_for PassesOwn.never rfl (pi_list (pv 10)) (pg_name (i := 12) sc_law.nd rfl (.inl rfl))
  (pss_one (ps_if (pt_val (pe_call (ok_l_beaten T) (hr.mono (by decide)) rfl T.g_l_beaten T.F_l_beaten.kp T.b_l_beaten .nil pass0 (pa_cons (pv 4) (pa_cons (pv 5) (pa_cons (pv 9) (pa_cons (pv 12) pa_nil))))))
  (pss_one (ps_ret pe_bl))
  pss_nil)))
  (pss_one (ps_ret pe_bl)))))))))))))))))))), ?_⟩
    have cj : ∀ (j : Nat) {σ : L2.St} {H' : Hp}, Ex H H' → σ[0]? = some (some (.ref a)) → Ev (tCall (sp_cell_at K) [] E0 (tCons (tVar 0) (tCons (tC (.int (j : Int))) tNil))) σ H' (.int (ns.getD j 0)) := fun j σ H' e h => ev_call (ea_cons (ev_var h) (ea_cons ev_c ea_nil)) fun H3 e3 Q' q E' => ⟨a, ns, j, rfl, ex_l (e.trans e3) hS, q⟩
    have nn : (ns.map V.int).length = ns.length := List.length_map ..
    refine q_asg (ev_op ev_c (ev_op (ev_op (ev_maxx ev_c (ev_op (ev_cb (ea_cons (ev_var rfl) ea_nil) (rc_lenL hS)) ev_c rv_I0)) (ev_op ev_c (ev_op (cj 2 (Ex.refl H) rfl) ev_c (rv_I (by decide))) rv_I0) (rv_I (.inl ⟨by omega, by omega⟩))) ev_c (rv_I ⟨by decide, by decide⟩)) rv_I0) fun H1 e1 => ?_
    generalize (4 : Int) + max 0 (((ns.map V.int).length : Nat) - 4 : Int) * (1 + ns.getD 2 0 % 4) / 5 = cut
    refine q_asg (v := .int (ns.getD 0 0)) (cj 0 e1 rfl) fun H2 e2 => ?_
    have e12 := e1.trans e2
    refine q_asg (v := .bl (decide (V.int (ns.getD 0 0 / 600 % 8) = V.int 1))) (ev_op (ev_op (ev_op (ev_var rfl) ev_c (rv_I ⟨by decide, by decide⟩)) ev_c (rv_I (by decide))) ev_c (rv_eq rfl)) fun H3 e3 => ?_
    have e13 := e12.trans e3
    generalize decide (V.int (ns.getD 0 0 / 600 % 8) = V.int 1) = g
    generalize ns.getD 0 0 = more
    obtain ⟨ms, hms, hml⟩ := cut_some ns (some 4) (some cut)
    obtain ⟨ws, hws, hwl, hwm⟩ := cut_strs (wordsOf ms more) none (some (24 + 36 * (if g = true then 1 else 0)))
    have hW0 := words_wd ms more
    have hL0 := words_len ms more (by omega)
    refine q_asgL (xs := ws.map V.str) (el_is (el_slN (el_callA (ap_consL (el_is (el_sl (ev_var rfl) (eo_some ev_c) (eo_some (ev_var rfl)) (ex_l e13 hS)) hms) (ap_cons (ev_var rfl) ap_nil) fun _ _ _ => trivial) ?_) eo_none (eo_some (ev_op ev_c (ev_op ev_c (ev_cb (ea_cons (ev_var rfl) ea_nil) rc_intB) (rv_I (.inl ⟨by decide, by decide⟩))) rv_I0))) hws) fun row H4 row0 e4 h4 => ?_
    · rintro vs H5 e5 ⟨p1, r, rfl, h5, r2, rfl, rfl⟩ Q' q
      exact ⟨p1, ms, _, rfl, sq_of h5, by omega, q⟩
    refine q_cut (M := fun σ' H' => ∃ (row : Addr) (ws : List Str), σ' = [some (.ref a), some (.int cut), some (.int more), some (.bl g), some (.ref row), none, none, none, none, none, none, none, none] ∧ Ex H H' ∧ H' row = some (.lst (ws.map V.str)) ∧ (∀ z ∈ ws, Wd z) ∧ ws.length ≤ 1600) ?_ ?_
    · obtain ⟨ws', hws', hwl', hwm'⟩ := cut_strs ws none (some 7)
      refine s_when (b := decide (V.int (more / 4800 % 3) = V.int 1)) (et_test (ev_op (ev_op (ev_op (ev_var rfl) ev_c (rv_I ⟨by decide, by decide⟩)) ev_c (rv_I (by decide))) ev_c (rv_eq rfl))) (fun hb H5 e5 => ?_) (fun hb H5 e5 => ⟨row, ws, rfl, (e13.trans e4).trans e5, e5 _ _ h4, fun z hz => hW0 z (hwm z hz), by omega⟩)
      exact s_asgL (xs := ws'.map V.str) (el_is (el_sl (ev_var rfl) eo_none (eo_some ev_c) (sq_of (e5 _ _ h4))) hws') fun row' H6 r0 e6 h6 => ⟨row', ws', rfl, ((e13.trans e4).trans e5).trans e6, h6, fun z hz => hW0 z (hwm z (hwm' z hz)), by omega⟩
    clear hW0 hL0 hwm hwl hws h4 row0 e4 hms hml
    clear row H4 ws ms
    rintro σ5 H5 ⟨row, ws, rfl, e15, h5, hwd, hwl⟩
    refine q_asgA (ea_cons (cj 1 e15 rfl) (ea_cons (ev_var rfl) ea_nil)) fun H6 e6 => ⟨_, row, ws, rfl, sq_of (e6 _ _ h5), fun z h => (hwd z h).2.2, fun wd b1 b2 H7 e7 => ?_⟩
    have e17 := (e15.trans e6).trans e7
    have h7 := e7 _ _ (e6 _ _ h5)
    refine q_cut (M := fun σ' H' => ∃ (g : Bool) (row : Addr) (ws : List Str) (wd : Int), σ' = [some (.ref a), some (.int cut), some (.int more), some (.bl g), some (.ref row), some (.int wd), none, none, none, none, none, none, none] ∧ Ex H H' ∧ H' row = some (.lst (ws.map V.str)) ∧ (∀ z ∈ ws, Wd z) ∧ ws.length ≤ 1600 ∧ WidB wd) ?_ ?_
    · obtain ⟨ws2, hws2, hl2, hm2⟩ := cut_strs (wordsOf [] more) none (some 120)
      have hW2 := words_wd [] more
      have hL2 := words_len [] more (by decide)
      have hwd2 : ∀ z ∈ ws2, Wd z := fun z hz => hW2 z (hm2 z hz)
      have hz2 : ∀ z ∈ ws2, z.length ≤ 300 := fun z hz => (hwd2 z hz).2.2
      have nl2 : (ws2.map V.str).length = ws2.length := List.length_map ..
      refine s_when (b := decide (V.int (more % 24) = V.int 3)) (et_test (ev_op (ev_op (ev_var rfl) ev_c (rv_I (by decide))) ev_c (rv_eq rfl))) (fun hb H8 e8 => ?_) (fun hb H8 e8 => ⟨g, row, ws, wd, rfl, e17.trans e8, e8 _ _ h7, hwd, hwl, widB_of b1 b2⟩)
      refine q_asgL (xs := ws2.map V.str) (el_is (el_slN (el_callA (ap_consL (xs := []) (el_lst ea_nil (Nat.zero_le _)) (ap_cons (ev_var rfl) ap_nil) fun _ _ _ => trivial) ?_) eo_none (eo_some ev_c)) hws2) fun row2 H9 r20 e9 h9 => ?_
      · rintro vs H10 e10 ⟨p1, r, rfl, h10, r2, rfl, rfl⟩ Q' q
        exact ⟨p1, [], _, rfl, sq_of h10, by decide, q⟩
      refine q_asg (v := .bl true) ev_c fun H10 e10 => ?_
      have e110 := ((e17.trans e8).trans e9).trans e10
      have h10 := e10 _ _ h9
      have hsz := sizeN_le hz2 (by omega) 0 ws2.length
      have hd3 : 2 ≤ 2 + ns.getD 1 0 % 3 := by omega
      have q0 : 0 ≤ (sizeN ws2 0 ws2.length : Int) / (2 + ns.getD 1 0 % 3) := Int.ediv_nonneg (by omega) (by omega)
      have q1 : (sizeN ws2 0 ws2.length : Int) / (2 + ns.getD 1 0 % 3) ≤ (sizeN ws2 0 ws2.length : Int) := Int.ediv_le_self _ (by omega)
      exact s_asg (v := .int (4 + (sizeN ws2 0 ws2.length : Int) / (2 + ns.getD 1 0 % 3))) (ev_op ev_c (ev_op (ev_call (ea_cons (ev_var rfl) (ea_cons ev_c (ea_cons (ev_is (ev_cb (ea_cons (ev_var rfl) ea_nil) (rc_lenL (sq_of h10))) (by rw [nl2])) ea_nil))) fun H11 e11 Q' q E' => ⟨row2, ws2, 0, ws2.length, rfl, sq_of (e11 _ _ h10), hz2, by omega, Nat.zero_le _, Nat.le_refl _, q⟩) (ev_op ev_c (ev_op (cj 1 e110 rfl) ev_c (rv_I (by decide))) rv_I0) (rv_I ⟨by omega, by omega⟩)) rv_I0) fun H11 e11 => ⟨true, row2, ws2, _, rfl, e110.trans e11, e11 _ _ h10, hwd2, by omega, widB_of (by omega) (by omega)⟩
    clear h7 e17 b1 b2 hwd hwl h5 e15 e6 e7
    clear wd H7 H6 H5 ws row g
    rintro σ8 H8 ⟨g, row, ws, wd, rfl, e18, h8, hwd, hwl, hwB⟩
    refine q_cut (M := fun σ' H' => ∃ (g : Bool) (row : Addr) (ws : List Str), σ' = [some (.ref a), some (.int cut), some (.int more), some (.bl g), some (.ref row), some (.int wd), none, none, none, none, none, none, none] ∧ Ex H H' ∧ H' row = some (.lst (ws.map V.str)) ∧ (∀ z ∈ ws, Wd z) ∧ ws.length ≤ 1600) ?_ ?_
    · obtain ⟨ws', hws', hwl', hwm'⟩ := cut_strs ws none (some 36)
      refine s_when (b := g && decide (V.int (ns.getD 3 0 / 9 % 7) = V.int 6)) (et_and (et_B (ev_var rfl)) fun _ => et_test (ev_op (ev_op (ev_op (cj 3 e18 rfl) ev_c (rv_I ⟨by decide, by decide⟩)) ev_c (rv_I (by decide))) ev_c (rv_eq rfl))) (fun hb H9 e9 => ?_) (fun hb H9 e9 => ⟨g, row, ws, rfl, e18.trans e9, e9 _ _ h8, hwd, hwl⟩)
      refine q_asgL (xs := ws'.map V.str) (el_is (el_sl (ev_var rfl) eo_none (eo_some ev_c) (sq_of (e9 _ _ h8))) hws') fun row' H10 r0 e10 h10 => ?_
      exact s_asg (v := .bl false) ev_c fun H11 e11 => ⟨false, row', ws', rfl, ((e18.trans e9).trans e10).trans e11, e11 _ _ h10, fun z hz => hwd z (hwm' z hz), by omega⟩
    clear h8 e18 hwd hwl
    clear ws row g H8
    rintro σ9 H9 ⟨g, row, ws, rfl, e19, r9, hwd, hwl⟩
    have hz : ∀ z ∈ ws, z.length ≤ 300 := fun z h => (hwd z h).2.2
    have hlt : ∀ z ∈ ws, ∀ c ∈ TL.tl z, c < 1114112 := fun z h => (hwd z h).lt
    have nl : (ws.map V.str).length = ws.length := List.length_map ..
    refine q_when (b := decide (wd < 1) || decide (wd < longest ws)) (et_or (et_test (ev_op (ev_var rfl) ev_c rv_I0)) fun _ => et_test (ev_op (ev_call (ea_cons (ev_var rfl) ea_nil) fun H6 e6 Q' q E' => ⟨row, ws, rfl, sq_of (e6 _ _ r9), hz, q⟩) (ev_var rfl) rv_I0)) (fun hb H10 e10 => ?_) (fun hb H10 e10 => ?_)
    · have hor : wd < 1 ∨ ∃ z ∈ ws, wd < (z.length : Int) := by
        rw [Bool.or_eq_true] at hb
        by_cases h1 : wd < 1
        · exact .inl h1
        · rcases hb with q | q
          · exact .inl (of_decide_eq_true q)
          · exact .inr (longest_of ws (by omega) (of_decide_eq_true q))
      refine s_ret (v := .bl true) (ev_is (ev_op (x := .int (if wd < 1 then 11 else 12)) (y := .int (11 + (if decide (1 ≤ wd) = true then 1 else 0))) (ev_callA (ap_consL (el_listOf (ev_var rfl) (sq_of (e10 _ _ r9))) (ap_cons (ev_var rfl) (ap_cons (v := .int (ns.getD 3 0 % 1000 - 500)) (ev_op (ev_op (cj 3 (e19.trans e10) rfl) ev_c (rv_I (by decide))) ev_c rv_I0) ap_nil)) fun _ _ _ => trivial) ?_) (ev_op ev_c (ev_cb (ea_cons (ev_op (ev_var rfl) ev_c rv_I0) ea_nil) rc_intB) rv_I0) (rv_eq rfl)) ?_) fun H7 e7 => k H7
      · rintro vs H11 e11 ⟨p1, r, rfl, h11, r2, rfl, r3, rfl, rfl⟩ Q' q
        refine ⟨p1, ws, wd, _, rfl, sq_of h11, hz, by omega, hwB, fun h => ?_, fun h _ => ?_, fun h hx => ?_⟩
        · rw [if_pos h] at q
          exact q
        · rw [if_neg (by omega)] at q
          exact q
        · rcases hor with q | ⟨z, hz1, q⟩
          · omega
          · have := hx z hz1
            omega
      · by_cases h1 : wd < 1
        · rw [if_pos h1, decide_eq_false (show ¬ 1 ≤ wd by omega)]
          rfl
        · rw [if_neg h1, decide_eq_true (show 1 ≤ wd by omega)]
          rfl
    · rw [Bool.or_eq_false_iff] at hb
      have hw1 : 1 ≤ wd := by
        have := of_decide_eq_false hb.1
        omega
      have hfits : ∀ z ∈ ws, (z.length : Int) ≤ wd := fun z hz' => by
        have := of_decide_eq_false hb.2
        have := longest_ge ws z hz'
        omega
      have r10 := e10 _ _ r9
      have e110 := e19.trans e10
      refine q_asgR (t_lenA (ap_consL (xs := []) (el_lst ea_nil (Nat.zero_le _)) (ap_cons (ev_var rfl) (ap_cons (ev_var rfl) ap_nil)) fun _ _ _ => trivial) ?_)
      rintro vs H11 e11 ⟨p1, r, rfl, h11, r2, rfl, r3, rfl, rfl⟩ Q' q'
      refine ⟨p1, row, [], ws, wd, rfl, sq_of h11, sq_of (e11 _ _ r10), hwd, hfits, by omega, fun O fo hOl hO o H12 o0 e12 hoO => q' o (nats O) H12 (sq_of hoO) ?_⟩
      have hO := hO rfl
      rw [nats_len]
      show tSeq _ _ _ _ H12
      have e112 := (e110.trans e11).trans e12
      have r12 := e12 _ _ (e11 _ _ r10)
      refine q_asgA (ea_cons (cj 3 e112 rfl) (ea_cons (ev_var rfl) (ea_cons (ev_is (ev_cb (ea_cons (ev_var rfl) ea_nil) (rc_lenL (sq_of r12))) (by rw [nl])) (ea_cons (ev_var rfl) ea_nil)))) fun H13 e13 => ⟨_, (O.length : Int), (ws.length : Int), g, rfl, by omega, by omega, by omega, fun m m1 m2 H14 e14 => ?_⟩
      show tSeq _ _ _ _ H14
      have r14 := e14 _ _ (e13 _ _ r12)
      have e114 := (e112.trans e13).trans e14
      refine q_asgL (xs := ws.map V.str) (el_listOf (ev_var rfl) (sq_of r14)) fun hd H15 hd0 e15 h15 => ?_
      have r15 := e15 _ _ r14
      have e115 := e114.trans e15
      refine q_when (b := decide (m < (O.length : Int)) || decide ((ws.length : Int) < m)) (et_or (et_test (ev_op (ev_var rfl) (ev_var rfl) rv_I0)) fun _ => et_test (ev_op (ev_var rfl) (ev_is (ev_cb (ea_cons (ev_var rfl) ea_nil) (rc_lenL (sq_of r15))) (by rw [nl])) rv_I0)) (fun hb2 H16 e16 => ?_) (fun hb2 H16 e16 => ?_)
      · have h16 := e16 _ _ h15
        have r16 := e16 _ _ r15
        refine s_ret (v := .bl true) (ev_is (ev_andV (a := true) (ev_is (ev_op (x := .int (if (ws.length : Int) < m then 16 else 15)) (y := .int (15 + (if decide ((ws.length : Int) < m) = true then 1 else 0))) (ev_call (ea_cons (ev_var rfl) (ea_cons (ev_var rfl) (ea_cons (ev_var rfl) ea_nil))) fun H17 e17 Q' q E' => ⟨hd, ws, wd, m, rfl, sq_of (e17 _ _ h16), hz, by omega, hwB, fun h => absurd h (by omega), fun _ ⟨z, hz1, q2⟩ => absurd (hfits z hz1) (by omega), fun _ _ => ⟨O, fo, hO, ?_⟩⟩) (ev_op ev_c (ev_cb (ea_cons (ev_op (ev_var rfl) (ev_is (ev_cb (ea_cons (ev_var rfl) ea_nil) (rc_lenL (sq_of r16))) (by rw [nl])) rv_I0) ea_nil) rc_intB) rv_I0) (rv_eq rfl)) ?_) fun _ => ev_op (ev_var rfl) (ev_var rfl) (rv_eqS (sq_of h16) (sq_of r16) hlt hlt)) (by simp)) fun H17 e17 => k H17
        · by_cases c : (ws.length : Int) < m
          · rw [if_pos c] at q
            exact .inr ⟨by omega, c, q⟩
          · rw [if_neg c] at q
            rw [decide_eq_false c, Bool.or_false] at hb2
            exact .inl ⟨of_decide_eq_true hb2, q⟩
        · by_cases c : (ws.length : Int) < m
          · rw [if_pos c, decide_eq_true c]
            rfl
          · rw [if_neg c, decide_eq_false c]
            rfl
      · rw [Bool.or_eq_false_iff] at hb2
        have m3 := of_decide_eq_false hb2.1
        have m4 := of_decide_eq_false hb2.2
        obtain ⟨mN, rfl⟩ : ∃ mN : Nat, m = (mN : Int) := ⟨m.toNat, by omega⟩
        have h16 := e16 _ _ h15
        have r16 := e16 _ _ r15
        have e116 := e115.trans e16
        refine q_asgA (ea_cons (ev_var rfl) (ea_cons (ev_var rfl) (ea_cons (ev_var rfl) ea_nil))) fun H17 e17 => ⟨hd, ws, wd, (mN : Int), rfl, sq_of (e17 _ _ h16), hz, by omega, hwB, fun h => absurd h (by omega), fun _ ⟨z, hz1, q2⟩ => absurd (hfits z hz1) (by omega), fun _ _ S0 f1 f2 => ⟨fun c => absurd c (by have := full_uniq f1 f2 fo hO; omega), fun _ c => absurd c (by omega), fun _ _ S hW l H18 l0 e18 hlS => ?_⟩⟩
        show tSeq _ _ _ _ H18
        rw [Int.toNat_natCast] at hW
        obtain ⟨fW, hSm⟩ := hW.fits
        have fS := walk_fitS fW
        have h18 := e18 _ _ (e17 _ _ h16)
        have r18 := e18 _ _ (e17 _ _ r16)
        have e118 := (e116.trans e17).trans e18
        have lz : SqL K H18 l ((zsOf S).map V.int) := by
          rw [zs_nats]
          exact sq_of hlS
        refine q_when (b := false) (et_is (et_or (et_test (ev_op (ev_var rfl) (ev_var rfl) (rv_neS (sq_of h18) (sq_of r18) hlt hlt))) fun _ => et_or (et_not (et_B (ev_call (ea_cons (ev_var rfl) (ea_cons (ev_var rfl) (ea_cons (ev_var rfl) ea_nil))) fun H19 e19 Q' q E' => ⟨row, l, ws, wd, zsOf S, rfl, sq_of (e19 _ _ r18), ex_l e19 lz, hwd, by omega, by rw [zs_len]; omega, fit_in fS, fun b _ h2 => by
          have h3 := h2 ⟨S, rfl, fS⟩
          subst h3
          exact q⟩))) fun _ => et_test (ev_op (ev_is (ev_cb (ea_cons (ev_var rfl) ea_nil) (rc_lenL (sq_of hlS))) (by rw [nats_len])) (ev_var rfl) (rv_ne rfl))) (by rw [hSm]; simp)) (fun hb => nomatch hb) (fun _ H19 e19 => ?_)
        have r19 := e19 _ _ r18
        have l19 := e19 _ _ hlS
        have e119 := e118.trans e19
        refine q_asgA (ea_cons (ev_var rfl) (ea_cons (ev_is (ev_cb (ea_cons (ev_var rfl) ea_nil) (rc_lenL (sq_of r19))) (by rw [nl])) ea_nil)) fun H20 e20 => ⟨l, S, ws.length, rfl, sq_of (e20 _ _ l19), by omega, fit_low fS, fun rws H21 ts e21 rw0 hrw hne hR htl => ?_⟩
        show tSeq _ _ _ _ H21
        have r20 := e20 _ _ r19
        have l20 := e20 _ _ l19
        have e120 := e119.trans e20
        refine q_forR1 (n := 3) (ea_cons ev_c ea_nil) (by decide) (fun i σ' H' => ∃ (ts : List Addr) (x1 x2 : Option V), σ' = [some (.ref a), some (.int cut), some (.int more), some (.bl g), some (.ref row), some (.int wd), some (.int (O.length : Int)), some (.int (mN : Int)), some (.ref hd), some (.ref l), some (.ref rws), x1, x2] ∧ Ex H20 H' ∧ H' rws = some (.lst (ts.map V.ref)) ∧ (∀ t ∈ ts, t ≠ rws) ∧ RI ws.length 4000 H' ts ∧ ts.length ≤ 6000 + i) (fun H22 e22 => ⟨ts, none, none, rfl, e21.trans e22, e22 _ _ hrw, hne, hR.ex e22, by omega⟩) ?_ ?_
        · rintro i σ' H' hi ⟨ts, x1, x2, rfl, e, hts, hne, hR, htl⟩
          obtain ⟨os, hos, hol⟩ := cut_some ns (some (cut + (i : Int))) none
          refine s_appP hts (ev_var rfl) (ap_consL (el_is (el_sl (ev_var rfl) (eo_some (ev_op (ev_var rfl) (ev_var rfl) rv_I0)) eo_none (ex_l (e120.trans e) hS)) hos) (ap_cons (ev_var rfl) (ap_cons (ev_var rfl) (ap_cons (ev_var rfl) ap_nil))) fun _ _ _ => trivial) ?_
          rintro vs H22 e22 ⟨p1, r, rfl, h22, r2, rfl, r3, rfl, r4, rfl, rfl⟩ Q' q'
          refine ⟨p1, row, os, ws, wd, mN, rfl, sq_of h22, sq_of (e22 _ _ (e _ _ r20)), hwd, hfits, by omega, by omega, fun zs hzb hzl o H23 o0 e23 hoz => q' _ _ ⟨ts.map V.ref, e23 _ _ (e22 _ _ hts), by rw [List.length_map]; omega, ?_⟩⟩
          have on : o ≠ rws := fun c => by
            rw [c, e22 _ _ hts] at o0
            cases o0
          have hne2 : ∀ t ∈ ts ++ [o], t ≠ rws := fun t ht => by
            rcases List.mem_append.mp ht with c | c
            · exact hne t c
            · rw [List.mem_singleton.mp c]
              exact on
          exact ⟨ts ++ [o], _, _, rfl, Ex.mut ((e.trans e22).trans e23) rw0, by rw [List.map_append]; exact upd_same, hne2, RI.upd ((hR.ex (e22.trans e23)).app (RI.one hoz hzb hzl)) hne2, by rw [List.length_append]; show _ + 1 ≤ _; omega⟩
        · rintro σ' H' ⟨ts, x1, x2, rfl, e, hts, hne, hR, htl⟩
          refine q_forLn (xs := ts.map V.ref) (ev_var rfl) (sq_of hts) (fun i σ'' H'' => ∃ x1 x2, σ'' = [some (.ref a), some (.int cut), some (.int more), some (.bl g), some (.ref row), some (.int wd), some (.int (O.length : Int)), some (.int (mN : Int)), some (.ref hd), some (.ref l), some (.ref rws), x1, x2] ∧ Ex H' H'') (fun H1 e1 => ⟨_, _, rfl, e1⟩) (fun i σ'' H'' _ ⟨_, _, _, e''⟩ => sq_of (e'' _ _ hts)) ?_ ?_
          · rintro i x σ'' H'' hx ⟨x1', x2', rfl, e''⟩
            rw [List.getElem?_map] at hx
            obtain ⟨t, ht, rfl⟩ := Option.map_eq_some_iff.mp hx
            obtain ⟨zs, z1, z2, z3⟩ := hR t (List.mem_of_getElem? ht)
            refine s_when (b := false) (et_B (ev_call (ea_cons (ev_var rfl) (ea_cons (ev_var rfl) (ea_cons (ev_var rfl) (ea_cons (ev_var rfl) ea_nil)))) fun H3 e3 Q' q' E' => ⟨row, l, t, ws, wd, S, zs, rfl, sq_of (e3 _ _ (e'' _ _ (e _ _ r20))), sq_of (e3 _ _ (e'' _ _ (e _ _ l20))), sq_of (e3 _ _ (e'' _ _ z1)), hwd, by omega, hwB, by omega, by omega, z2, fS, fun O' fO' hO' => ?_, q'⟩)) (fun hb => nomatch hb) (fun _ H3 e3 => ⟨_, _, rfl, e''.trans e3⟩)
            obtain ⟨t2, h1, h2⟩ := fitM fO'.walk rfl
            have h3 := hW.sum
            rw [show mN = O'.length by omega, h1] at h3
            cases h3
            exact ⟨by omega, fun heq => hW.first fO'.walk (by omega) heq⟩
          · rintro σ'' H'' ⟨_, _, rfl, e''⟩
            exact s_ret (v := .bl true) ev_c fun H12 e12 => k H12

end
theorem all_mk {l : PySem.W.OpenLaw} {w : World} {K : PySem.W.Frag} {h : Heap} {mg : Str → Option Value} {fa : Addr} (X : K.In h) (G : h.Ns mainGlobals mg) (hfa : mg "law" = some (.ref fa))
    {f0 : Addr} {od0 an0 : Option Addr} {sl0 : Array (Option Value)} {oc0 kV0 dc0 pm0 cd0 ct0 : Value}
    (a0 : PySem.W.nsIn K mainGlobals "sizes_from" = some (some (.ref f0))) (l0 : K.lookup f0 = some ⟨oc0, od0, .func (PySem.W.fnOf "sizes_from" "sizes_from" (defArgs s_sizes_from) (defBody s_sizes_from) (defScope s_sizes_from) .none kV0 dc0 pm0 an0 cd0 ct0), sl0⟩) (c0 : PySem.W.codeIn K cd0 "sizes_from" = true) (k0 : PySem.W.keepIn K (.ref f0) = true)
    {f1 : Addr} {od1 an1 : Option Addr} {sl1 : Array (Option Value)} {oc1 kV1 dc1 pm1 cd1 ct1 : Value}
    (a1 : PySem.W.nsIn K mainGlobals "long_word" = some (some (.ref f1))) (l1 : K.lookup f1 = some ⟨oc1, od1, .func (PySem.W.fnOf "long_word" "long_word" (defArgs s_long_word) (defBody s_long_word) (defScope s_long_word) .none kV1 dc1 pm1 an1 cd1 ct1), sl1⟩) (c1 : PySem.W.codeIn K cd1 "long_word" = true) (k1 : PySem.W.keepIn K (.ref f1) = true)
    {f2 : Addr} {od2 an2 : Option Addr} {sl2 : Array (Option Value)} {oc2 kV2 dc2 pm2 cd2 ct2 : Value}
    (a2 : PySem.W.nsIn K mainGlobals "check_width" = some (some (.ref f2))) (l2 : K.lookup f2 = some ⟨oc2, od2, .func (PySem.W.fnOf "check_width" "check_width" (defArgs s_check_width) (defBody s_check_width) (defScope s_check_width) .none kV2 dc2 pm2 an2 cd2 ct2), sl2⟩) (c2 : PySem.W.codeIn K cd2 "check_width" = true) (k2 : PySem.W.keepIn K (.ref f2) = true)
    {f3 : Addr} {od3 an3 : Option Addr} {sl3 : Array (Option Value)} {oc3 kV3 dc3 pm3 cd3 ct3 : Value}
    (a3 : PySem.W.nsIn K mainGlobals "check_words" = some (some (.ref f3))) (l3 : K.lookup f3 = some ⟨oc3, od3, .func (PySem.W.fnOf "check_words" "check_words" (defArgs s_check_words) (defBody s_check_words) (defScope s_check_words) .none kV3 dc3 pm3 an3 cd3 ct3), sl3⟩) (c3 : PySem.W.codeIn K cd3 "check_words" = true) (k3 : PySem.W.keepIn K (.ref f3) = true)
    {f4 : Addr} {od4 an4 : Option Addr} {sl4 : Array (Option Value)} {oc4 kV4 dc4 pm4 cd4 ct4 : Value}
    (a4 : PySem.W.nsIn K mainGlobals "quick_starts" = some (some (.ref f4))) (l4 : K.lookup f4 = some ⟨oc4, od4, .func (PySem.W.fnOf "quick_starts" "quick_starts" (defArgs s_quick_starts) (defBody s_quick_starts) (defScope s_quick_starts) .none kV4 dc4 pm4 an4 cd4 ct4), sl4⟩) (c4 : PySem.W.codeIn K cd4 "quick_starts" = true) (k4 : PySem.W.keepIn K (.ref f4) = true)
    {f5 : Addr} {od5 an5 : Option Addr} {sl5 : Array (Option Value)} {oc5 kV5 dc5 pm5 cd5 ct5 : Value}
    (a5 : PySem.W.nsIn K mainGlobals "best_line" = some (some (.ref f5))) (l5 : K.lookup f5 = some ⟨oc5, od5, .func (PySem.W.fnOf "best_line" "best_line" (defArgs s_best_line) (defBody s_best_line) (defScope s_best_line) .none kV5 dc5 pm5 an5 cd5 ct5), sl5⟩) (c5 : PySem.W.codeIn K cd5 "best_line" = true) (k5 : PySem.W.keepIn K (.ref f5) = true)
    {f6 : Addr} {od6 an6 : Option Addr} {sl6 : Array (Option Value)} {oc6 kV6 dc6 pm6 cd6 ct6 : Value}
    (a6 : PySem.W.nsIn K mainGlobals "squares_of" = some (some (.ref f6))) (l6 : K.lookup f6 = some ⟨oc6, od6, .func (PySem.W.fnOf "squares_of" "squares_of" (defArgs s_squares_of) (defBody s_squares_of) (defScope s_squares_of) .none kV6 dc6 pm6 an6 cd6 ct6), sl6⟩) (c6 : PySem.W.codeIn K cd6 "squares_of" = true) (k6 : PySem.W.keepIn K (.ref f6) = true)
    {f7 : Addr} {od7 an7 : Option Addr} {sl7 : Array (Option Value)} {oc7 kV7 dc7 pm7 cd7 ct7 : Value}
    (a7 : PySem.W.nsIn K mainGlobals "starts_in" = some (some (.ref f7))) (l7 : K.lookup f7 = some ⟨oc7, od7, .func (PySem.W.fnOf "starts_in" "starts_in" (defArgs s_starts_in) (defBody s_starts_in) (defScope s_starts_in) .none kV7 dc7 pm7 an7 cd7 ct7), sl7⟩) (c7 : PySem.W.codeIn K cd7 "starts_in" = true) (k7 : PySem.W.keepIn K (.ref f7) = true)
    {f8 : Addr} {od8 an8 : Option Addr} {sl8 : Array (Option Value)} {oc8 kV8 dc8 pm8 cd8 ct8 : Value}
    (a8 : PySem.W.nsIn K mainGlobals "check_many" = some (some (.ref f8))) (l8 : K.lookup f8 = some ⟨oc8, od8, .func (PySem.W.fnOf "check_many" "check_many" (defArgs s_check_many) (defBody s_check_many) (defScope s_check_many) .none kV8 dc8 pm8 an8 cd8 ct8), sl8⟩) (c8 : PySem.W.codeIn K cd8 "check_many" = true) (k8 : PySem.W.keepIn K (.ref f8) = true)
    {f9 : Addr} {od9 an9 : Option Addr} {sl9 : Array (Option Value)} {oc9 kV9 dc9 pm9 cd9 ct9 : Value}
    (a9 : PySem.W.nsIn K mainGlobals "counts_from" = some (some (.ref f9))) (l9 : K.lookup f9 = some ⟨oc9, od9, .func (PySem.W.fnOf "counts_from" "counts_from" (defArgs s_counts_from) (defBody s_counts_from) (defScope s_counts_from) .none kV9 dc9 pm9 an9 cd9 ct9), sl9⟩) (c9 : PySem.W.codeIn K cd9 "counts_from" = true) (k9 : PySem.W.keepIn K (.ref f9) = true)
    {f10 : Addr} {od10 an10 : Option Addr} {sl10 : Array (Option Value)} {oc10 kV10 dc10 pm10 cd10 ct10 : Value}
    (a10 : PySem.W.nsIn K mainGlobals "tables_below" = some (some (.ref f10))) (l10 : K.lookup f10 = some ⟨oc10, od10, .func (PySem.W.fnOf "tables_below" "tables_below" (defArgs s_tables_below) (defBody s_tables_below) (defScope s_tables_below) .none kV10 dc10 pm10 an10 cd10 ct10), sl10⟩) (c10 : PySem.W.codeIn K cd10 "tables_below" = true) (k10 : PySem.W.keepIn K (.ref f10) = true)
    {f11 : Addr} {od11 an11 : Option Addr} {sl11 : Array (Option Value)} {oc11 kV11 dc11 pm11 cd11 ct11 : Value}
    (a11 : PySem.W.nsIn K mainGlobals "_law_cell_at" = some (some (.ref f11))) (l11 : K.lookup f11 = some ⟨oc11, od11, .func (PySem.W.fnOf "_law_cell_at" "_law_cell_at" (defArgs s_l_cell_at) (defBody s_l_cell_at) (defScope s_l_cell_at) .none kV11 dc11 pm11 an11 cd11 ct11), sl11⟩) (c11 : PySem.W.codeIn K cd11 "_law_cell_at" = true) (k11 : PySem.W.keepIn K (.ref f11) = true)
    {f12 : Addr} {od12 an12 : Option Addr} {sl12 : Array (Option Value)} {oc12 kV12 dc12 pm12 cd12 ct12 : Value}
    (a12 : PySem.W.nsIn K mainGlobals "_law_sign_by" = some (some (.ref f12))) (l12 : K.lookup f12 = some ⟨oc12, od12, .func (PySem.W.fnOf "_law_sign_by" "_law_sign_by" (defArgs s_l_sign_by) (defBody s_l_sign_by) (defScope s_l_sign_by) .none kV12 dc12 pm12 an12 cd12 ct12), sl12⟩) (c12 : PySem.W.codeIn K cd12 "_law_sign_by" = true) (k12 : PySem.W.keepIn K (.ref f12) = true)
    {f13 : Addr} {od13 an13 : Option Addr} {sl13 : Array (Option Value)} {oc13 kV13 dc13 pm13 cd13 ct13 : Value}
    (a13 : PySem.W.nsIn K mainGlobals "_law_word_by" = some (some (.ref f13))) (l13 : K.lookup f13 = some ⟨oc13, od13, .func (PySem.W.fnOf "_law_word_by" "_law_word_by" (defArgs s_l_word_by) (defBody s_l_word_by) (defScope s_l_word_by) .none kV13 dc13 pm13 an13 cd13 ct13), sl13⟩) (c13 : PySem.W.codeIn K cd13 "_law_word_by" = true) (k13 : PySem.W.keepIn K (.ref f13) = true)
    {f14 : Addr} {od14 an14 : Option Addr} {sl14 : Array (Option Value)} {oc14 kV14 dc14 pm14 cd14 ct14 : Value}
    (a14 : PySem.W.nsIn K mainGlobals "_law_whole" = some (some (.ref f14))) (l14 : K.lookup f14 = some ⟨oc14, od14, .func (PySem.W.fnOf "_law_whole" "_law_whole" (defArgs s_l_whole) (defBody s_l_whole) (defScope s_l_whole) .none kV14 dc14 pm14 an14 cd14 ct14), sl14⟩) (c14 : PySem.W.codeIn K cd14 "_law_whole" = true) (k14 : PySem.W.keepIn K (.ref f14) = true)
    {f15 : Addr} {od15 an15 : Option Addr} {sl15 : Array (Option Value)} {oc15 kV15 dc15 pm15 cd15 ct15 : Value}
    (a15 : PySem.W.nsIn K mainGlobals "_law_wholes" = some (some (.ref f15))) (l15 : K.lookup f15 = some ⟨oc15, od15, .func (PySem.W.fnOf "_law_wholes" "_law_wholes" (defArgs s_l_wholes) (defBody s_l_wholes) (defScope s_l_wholes) .none kV15 dc15 pm15 an15 cd15 ct15), sl15⟩) (c15 : PySem.W.codeIn K cd15 "_law_wholes" = true) (k15 : PySem.W.keepIn K (.ref f15) = true)
    {f16 : Addr} {od16 an16 : Option Addr} {sl16 : Array (Option Value)} {oc16 kV16 dc16 pm16 cd16 ct16 : Value}
    (a16 : PySem.W.nsIn K mainGlobals "_law_longest" = some (some (.ref f16))) (l16 : K.lookup f16 = some ⟨oc16, od16, .func (PySem.W.fnOf "_law_longest" "_law_longest" (defArgs s_l_longest) (defBody s_l_longest) (defScope s_l_longest) .none kV16 dc16 pm16 an16 cd16 ct16), sl16⟩) (c16 : PySem.W.codeIn K cd16 "_law_longest" = true) (k16 : PySem.W.keepIn K (.ref f16) = true)
    {f17 : Addr} {od17 an17 : Option Addr} {sl17 : Array (Option Value)} {oc17 kV17 dc17 pm17 cd17 ct17 : Value}
    (a17 : PySem.W.nsIn K mainGlobals "_law_size" = some (some (.ref f17))) (l17 : K.lookup f17 = some ⟨oc17, od17, .func (PySem.W.fnOf "_law_size" "_law_size" (defArgs s_l_size) (defBody s_l_size) (defScope s_l_size) .none kV17 dc17 pm17 an17 cd17 ct17), sl17⟩) (c17 : PySem.W.codeIn K cd17 "_law_size" = true) (k17 : PySem.W.keepIn K (.ref f17) = true)
    {f18 : Addr} {od18 an18 : Option Addr} {sl18 : Array (Option Value)} {oc18 kV18 dc18 pm18 cd18 ct18 : Value}
    (a18 : PySem.W.nsIn K mainGlobals "_law_alike_by" = some (some (.ref f18))) (l18 : K.lookup f18 = some ⟨oc18, od18, .func (PySem.W.fnOf "_law_alike_by" "_law_alike_by" (defArgs s_l_alike_by) (defBody s_l_alike_by) (defScope s_l_alike_by) .none kV18 dc18 pm18 an18 cd18 ct18), sl18⟩) (c18 : PySem.W.codeIn K cd18 "_law_alike_by" = true) (k18 : PySem.W.keepIn K (.ref f18) = true)
    {f19 : Addr} {od19 an19 : Option Addr} {sl19 : Array (Option Value)} {oc19 kV19 dc19 pm19 cd19 ct19 : Value}
    (a19 : PySem.W.nsIn K mainGlobals "_law_wide_by" = some (some (.ref f19))) (l19 : K.lookup f19 = some ⟨oc19, od19, .func (PySem.W.fnOf "_law_wide_by" "_law_wide_by" (defArgs s_l_wide_by) (defBody s_l_wide_by) (defScope s_l_wide_by) .none kV19 dc19 pm19 an19 cd19 ct19), sl19⟩) (c19 : PySem.W.codeIn K cd19 "_law_wide_by" = true) (k19 : PySem.W.keepIn K (.ref f19) = true)
    {f20 : Addr} {od20 an20 : Option Addr} {sl20 : Array (Option Value)} {oc20 kV20 dc20 pm20 cd20 ct20 : Value}
    (a20 : PySem.W.nsIn K mainGlobals "_law_words_by" = some (some (.ref f20))) (l20 : K.lookup f20 = some ⟨oc20, od20, .func (PySem.W.fnOf "_law_words_by" "_law_words_by" (defArgs s_l_words_by) (defBody s_l_words_by) (defScope s_l_words_by) .none kV20 dc20 pm20 an20 cd20 ct20), sl20⟩) (c20 : PySem.W.codeIn K cd20 "_law_words_by" = true) (k20 : PySem.W.keepIn K (.ref f20) = true)
    {f21 : Addr} {od21 an21 : Option Addr} {sl21 : Array (Option Value)} {oc21 kV21 dc21 pm21 cd21 ct21 : Value}
    (a21 : PySem.W.nsIn K mainGlobals "_law_width_by" = some (some (.ref f21))) (l21 : K.lookup f21 = some ⟨oc21, od21, .func (PySem.W.fnOf "_law_width_by" "_law_width_by" (defArgs s_l_width_by) (defBody s_l_width_by) (defScope s_l_width_by) .none kV21 dc21 pm21 an21 cd21 ct21), sl21⟩) (c21 : PySem.W.codeIn K cd21 "_law_width_by" = true) (k21 : PySem.W.keepIn K (.ref f21) = true)
    {f22 : Addr} {od22 an22 : Option Addr} {sl22 : Array (Option Value)} {oc22 kV22 dc22 pm22 cd22 ct22 : Value}
    (a22 : PySem.W.nsIn K mainGlobals "_law_price" = some (some (.ref f22))) (l22 : K.lookup f22 = some ⟨oc22, od22, .func (PySem.W.fnOf "_law_price" "_law_price" (defArgs s_l_price) (defBody s_l_price) (defScope s_l_price) .none kV22 dc22 pm22 an22 cd22 ct22), sl22⟩) (c22 : PySem.W.codeIn K cd22 "_law_price" = true) (k22 : PySem.W.keepIn K (.ref f22) = true)
    {f23 : Addr} {od23 an23 : Option Addr} {sl23 : Array (Option Value)} {oc23 kV23 dc23 pm23 cd23 ct23 : Value}
    (a23 : PySem.W.nsIn K mainGlobals "_law_sum" = some (some (.ref f23))) (l23 : K.lookup f23 = some ⟨oc23, od23, .func (PySem.W.fnOf "_law_sum" "_law_sum" (defArgs s_l_sum) (defBody s_l_sum) (defScope s_l_sum) .none kV23 dc23 pm23 an23 cd23 ct23), sl23⟩) (c23 : PySem.W.codeIn K cd23 "_law_sum" = true) (k23 : PySem.W.keepIn K (.ref f23) = true)
    {f24 : Addr} {od24 an24 : Option Addr} {sl24 : Array (Option Value)} {oc24 kV24 dc24 pm24 cd24 ct24 : Value}
    (a24 : PySem.W.nsIn K mainGlobals "_law_are_starts" = some (some (.ref f24))) (l24 : K.lookup f24 = some ⟨oc24, od24, .func (PySem.W.fnOf "_law_are_starts" "_law_are_starts" (defArgs s_l_are_starts) (defBody s_l_are_starts) (defScope s_l_are_starts) .none kV24 dc24 pm24 an24 cd24 ct24), sl24⟩) (c24 : PySem.W.codeIn K cd24 "_law_are_starts" = true) (k24 : PySem.W.keepIn K (.ref f24) = true)
    {f25 : Addr} {od25 an25 : Option Addr} {sl25 : Array (Option Value)} {oc25 kV25 dc25 pm25 cd25 ct25 : Value}
    (a25 : PySem.W.nsIn K mainGlobals "_law_others_by" = some (some (.ref f25))) (l25 : K.lookup f25 = some ⟨oc25, od25, .func (PySem.W.fnOf "_law_others_by" "_law_others_by" (defArgs s_l_others_by) (defBody s_l_others_by) (defScope s_l_others_by) .none kV25 dc25 pm25 an25 cd25 ct25), sl25⟩) (c25 : PySem.W.codeIn K cd25 "_law_others_by" = true) (k25 : PySem.W.keepIn K (.ref f25) = true)
    {f26 : Addr} {od26 an26 : Option Addr} {sl26 : Array (Option Value)} {oc26 kV26 dc26 pm26 cd26 ct26 : Value}
    (a26 : PySem.W.nsIn K mainGlobals "_law_in_lines" = some (some (.ref f26))) (l26 : K.lookup f26 = some ⟨oc26, od26, .func (PySem.W.fnOf "_law_in_lines" "_law_in_lines" (defArgs s_l_in_lines) (defBody s_l_in_lines) (defScope s_l_in_lines) .none kV26 dc26 pm26 an26 cd26 ct26), sl26⟩) (c26 : PySem.W.codeIn K cd26 "_law_in_lines" = true) (k26 : PySem.W.keepIn K (.ref f26) = true)
    {f27 : Addr} {od27 an27 : Option Addr} {sl27 : Array (Option Value)} {oc27 kV27 dc27 pm27 cd27 ct27 : Value}
    (a27 : PySem.W.nsIn K mainGlobals "_law_kind" = some (some (.ref f27))) (l27 : K.lookup f27 = some ⟨oc27, od27, .func (PySem.W.fnOf "_law_kind" "_law_kind" (defArgs s_l_kind) (defBody s_l_kind) (defScope s_l_kind) .none kV27 dc27 pm27 an27 cd27 ct27), sl27⟩) (c27 : PySem.W.codeIn K cd27 "_law_kind" = true) (k27 : PySem.W.keepIn K (.ref f27) = true)
    {f28 : Addr} {od28 an28 : Option Addr} {sl28 : Array (Option Value)} {oc28 kV28 dc28 pm28 cd28 ct28 : Value}
    (a28 : PySem.W.nsIn K mainGlobals "_law_refusal" = some (some (.ref f28))) (l28 : K.lookup f28 = some ⟨oc28, od28, .func (PySem.W.fnOf "_law_refusal" "_law_refusal" (defArgs s_l_refusal) (defBody s_l_refusal) (defScope s_l_refusal) .none kV28 dc28 pm28 an28 cd28 ct28), sl28⟩) (c28 : PySem.W.codeIn K cd28 "_law_refusal" = true) (k28 : PySem.W.keepIn K (.ref f28) = true)
    {f29 : Addr} {od29 an29 : Option Addr} {sl29 : Array (Option Value)} {oc29 kV29 dc29 pm29 cd29 ct29 : Value}
    (a29 : PySem.W.nsIn K mainGlobals "_law_all" = some (some (.ref f29))) (l29 : K.lookup f29 = some ⟨oc29, od29, .func (PySem.W.fnOf "_law_all" "_law_all" (defArgs s_l_all) (defBody s_l_all) (defScope s_l_all) .none kV29 dc29 pm29 an29 cd29 ct29), sl29⟩) (c29 : PySem.W.codeIn K cd29 "_law_all" = true) (k29 : PySem.W.keepIn K (.ref f29) = true)
    {f30 : Addr} {od30 an30 : Option Addr} {sl30 : Array (Option Value)} {oc30 kV30 dc30 pm30 cd30 ct30 : Value}
    (a30 : PySem.W.nsIn K mainGlobals "_law_near" = some (some (.ref f30))) (l30 : K.lookup f30 = some ⟨oc30, od30, .func (PySem.W.fnOf "_law_near" "_law_near" (defArgs s_l_near) (defBody s_l_near) (defScope s_l_near) .none kV30 dc30 pm30 an30 cd30 ct30), sl30⟩) (c30 : PySem.W.codeIn K cd30 "_law_near" = true) (k30 : PySem.W.keepIn K (.ref f30) = true)
    {f31 : Addr} {od31 an31 : Option Addr} {sl31 : Array (Option Value)} {oc31 kV31 dc31 pm31 cd31 ct31 : Value}
    (a31 : PySem.W.nsIn K mainGlobals "_law_beaten" = some (some (.ref f31))) (l31 : K.lookup f31 = some ⟨oc31, od31, .func (PySem.W.fnOf "_law_beaten" "_law_beaten" (defArgs s_l_beaten) (defBody s_l_beaten) (defScope s_l_beaten) .none kV31 dc31 pm31 an31 cd31 ct31), sl31⟩) (c31 : PySem.W.codeIn K cd31 "_law_beaten" = true) (k31 : PySem.W.keepIn K (.ref f31) = true)
    {f32 : Addr} {od32 an32 : Option Addr} {sl32 : Array (Option Value)} {oc32 kV32 dc32 pm32 cd32 ct32 : Value}
    (a32 : PySem.W.nsIn K mainGlobals "_law_many_by" = some (some (.ref f32))) (l32 : K.lookup f32 = some ⟨oc32, od32, .func (PySem.W.fnOf "_law_many_by" "_law_many_by" (defArgs s_l_many_by) (defBody s_l_many_by) (defScope s_l_many_by) .none kV32 dc32 pm32 an32 cd32 ct32), sl32⟩) (c32 : PySem.W.codeIn K cd32 "_law_many_by" = true) (k32 : PySem.W.keepIn K (.ref f32) = true)
    {f33 : Addr} {od33 an33 : Option Addr} {sl33 : Array (Option Value)} {oc33 kV33 dc33 pm33 cd33 ct33 : Value}
    (a33 : PySem.W.nsIn K mainGlobals "law" = some (some (.ref f33))) (l33 : K.lookup f33 = some ⟨oc33, od33, .func (PySem.W.fnOf "law" "law" (defArgs s_law) (defBody s_law) (defScope s_law) .none kV33 dc33 pm33 an33 cd33 ct33), sl33⟩) (c33 : PySem.W.codeIn K cd33 "law" = true) (k33 : PySem.W.keepIn K (.ref f33) = true)
    (z0 : PySem.W.nsIn K mainGlobals "ValueError" = some none)
    (z1 : PySem.W.nsIn K mainGlobals "bool" = some none)
    (z2 : PySem.W.nsIn K mainGlobals "enumerate" = some none)
    (z3 : PySem.W.nsIn K mainGlobals "int" = some none)
    (z4 : PySem.W.nsIn K mainGlobals "isinstance" = some none)
    (z5 : PySem.W.nsIn K mainGlobals "len" = some none)
    (z6 : PySem.W.nsIn K mainGlobals "list" = some none)
    (z7 : PySem.W.nsIn K mainGlobals "max" = some none)
    (z8 : PySem.W.nsIn K mainGlobals "range" = some none)
    (z9 : PySem.W.nsIn K mainGlobals "reversed" = some none)
    (z10 : PySem.W.nsIn K mainGlobals "sorted" = some none)
    (z11 : PySem.W.nsIn K mainGlobals "sum" = some none)
    {C0 : Addr} (y0 : PySem.W.nsIn K mainGlobals "WrapError" = some (some (.ref C0)))
    {C1 : Addr} (y1 : PySem.W.nsIn K mainGlobals "NoWidth" = some (some (.ref C1)))
    {C2 : Addr} (y2 : PySem.W.nsIn K mainGlobals "LongWord" = some (some (.ref C2)))
    {C3 : Addr} (y3 : PySem.W.nsIn K mainGlobals "NoStarts" = some (some (.ref C3)))
    {C4 : Addr} (y4 : PySem.W.nsIn K mainGlobals "TooWide" = some (some (.ref C4)))
    {C5 : Addr} (y5 : PySem.W.nsIn K mainGlobals "TooFew" = some (some (.ref C5)))
    {C6 : Addr} (y6 : PySem.W.nsIn K mainGlobals "TooMany" = some (some (.ref C6)))
    {C7 : Addr} (y7 : PySem.W.nsIn K mainGlobals "NoPlace" = some (some (.ref C7)))
    {C8 : Addr} (y8 : PySem.W.nsIn K mainGlobals "NoWord" = some (some (.ref C8)))
    {C9 : Addr} (y9 : PySem.W.nsIn K mainGlobals "Full" = some (some (.ref C9)))
    {C10 : Addr} (y10 : PySem.W.nsIn K mainGlobals "NoWayBack" = some (some (.ref C10)))
    (hd_WrapError : PySem.W.hasDictIn K C0 = true)
    (ty_WrapError : PySem.W.typeIn K (.ref C0) = some (.type "type"))
    (hd_NoWidth : PySem.W.hasDictIn K C1 = true)
    (ty_NoWidth : PySem.W.typeIn K (.ref C1) = some (.type "type"))
    (hd_LongWord : PySem.W.hasDictIn K C2 = true)
    (ty_LongWord : PySem.W.typeIn K (.ref C2) = some (.type "type"))
    (hd_NoStarts : PySem.W.hasDictIn K C3 = true)
    (ty_NoStarts : PySem.W.typeIn K (.ref C3) = some (.type "type"))
    (hd_TooWide : PySem.W.hasDictIn K C4 = true)
    (ty_TooWide : PySem.W.typeIn K (.ref C4) = some (.type "type"))
    (hd_TooFew : PySem.W.hasDictIn K C5 = true)
    (ty_TooFew : PySem.W.typeIn K (.ref C5) = some (.type "type"))
    (hd_TooMany : PySem.W.hasDictIn K C6 = true)
    (ty_TooMany : PySem.W.typeIn K (.ref C6) = some (.type "type"))
    (hd_NoPlace : PySem.W.hasDictIn K C7 = true)
    (ty_NoPlace : PySem.W.typeIn K (.ref C7) = some (.type "type"))
    (hd_NoWord : PySem.W.hasDictIn K C8 = true)
    (ty_NoWord : PySem.W.typeIn K (.ref C8) = some (.type "type"))
    (hd_Full : PySem.W.hasDictIn K C9 = true)
    (ty_Full : PySem.W.typeIn K (.ref C9) = some (.type "type"))
    (hd_NoWayBack : PySem.W.hasDictIn K C10 = true)
    (ty_NoWayBack : PySem.W.typeIn K (.ref C10) = some (.type "type"))
    (bw : PySem.W.subIn K (.ref C0) (.type "BaseException") = some true)
    (x1_NoWidth : PySem.W.excIn K C1 [.type "ValueError", .type "Exception", .type "BaseException", .type "object"] "ValueError.__new__" = true)
    (x2_NoWidth : PySem.W.keepIn K (.ref C1) = true)
    (x3_NoWidth : PySem.W.findIn K (.ref C1) "__getattribute__" = some (some (.builtin "BaseException.__getattribute__")))
    (x4_NoWidth : PySem.W.findIn K (.ref C1) "__getattr__" = some none)
    (x5_NoWidth : PySem.W.subIn K (.ref C1) (.type "BaseException") = some true)
    (x6_NoWidth : PySem.W.findIn K (.ref C1) "__class__" = some (some (.builtin "object.__class__")))
    (x7_NoWidth : PySem.W.specialIn K (.builtin "object.__class__") "__get__" = some (some (.builtin "getset_descriptor.__get__")))
    (x8_NoWidth : PySem.W.takesIn K (.builtin "object.__class__") = some true)
    (x9_NoWidth : PySem.W.mroIn K C1 (.type "object") = some true)
    (sv_NoWidth : PySem.W.subIn K (.ref C1) (.type "ValueError") = some true)
    (sb_NoWidth_WrapError : PySem.W.subIn K (.ref C1) (.ref C0) = some true)
    (sb_NoWidth_NoWidth : PySem.W.subIn K (.ref C1) (.ref C1) = some true)
    (sb_NoWidth_LongWord : PySem.W.subIn K (.ref C1) (.ref C2) = some false)
    (ne_NoWidth_LongWord : C1 ≠ C2)
    (sb_NoWidth_NoStarts : PySem.W.subIn K (.ref C1) (.ref C3) = some false)
    (ne_NoWidth_NoStarts : C1 ≠ C3)
    (sb_NoWidth_TooWide : PySem.W.subIn K (.ref C1) (.ref C4) = some false)
    (ne_NoWidth_TooWide : C1 ≠ C4)
    (sb_NoWidth_TooFew : PySem.W.subIn K (.ref C1) (.ref C5) = some false)
    (ne_NoWidth_TooFew : C1 ≠ C5)
    (sb_NoWidth_TooMany : PySem.W.subIn K (.ref C1) (.ref C6) = some false)
    (ne_NoWidth_TooMany : C1 ≠ C6)
    (sb_NoWidth_NoPlace : PySem.W.subIn K (.ref C1) (.ref C7) = some false)
    (ne_NoWidth_NoPlace : C1 ≠ C7)
    (sb_NoWidth_NoWord : PySem.W.subIn K (.ref C1) (.ref C8) = some false)
    (ne_NoWidth_NoWord : C1 ≠ C8)
    (sb_NoWidth_Full : PySem.W.subIn K (.ref C1) (.ref C9) = some false)
    (ne_NoWidth_Full : C1 ≠ C9)
    (sb_NoWidth_NoWayBack : PySem.W.subIn K (.ref C1) (.ref C10) = some false)
    (ne_NoWidth_NoWayBack : C1 ≠ C10)
    (x1_LongWord : PySem.W.excIn K C2 [.type "ValueError", .type "Exception", .type "BaseException", .type "object"] "ValueError.__new__" = true)
    (x2_LongWord : PySem.W.keepIn K (.ref C2) = true)
    (x3_LongWord : PySem.W.findIn K (.ref C2) "__getattribute__" = some (some (.builtin "BaseException.__getattribute__")))
    (x4_LongWord : PySem.W.findIn K (.ref C2) "__getattr__" = some none)
    (x5_LongWord : PySem.W.subIn K (.ref C2) (.type "BaseException") = some true)
    (x6_LongWord : PySem.W.findIn K (.ref C2) "__class__" = some (some (.builtin "object.__class__")))
    (x7_LongWord : PySem.W.specialIn K (.builtin "object.__class__") "__get__" = some (some (.builtin "getset_descriptor.__get__")))
    (x8_LongWord : PySem.W.takesIn K (.builtin "object.__class__") = some true)
    (x9_LongWord : PySem.W.mroIn K C2 (.type "object") = some true)
    (sv_LongWord : PySem.W.subIn K (.ref C2) (.type "ValueError") = some true)
    (sb_LongWord_WrapError : PySem.W.subIn K (.ref C2) (.ref C0) = some true)
    (sb_LongWord_NoWidth : PySem.W.subIn K (.ref C2) (.ref C1) = some false)
    (ne_LongWord_NoWidth : C2 ≠ C1)
    (sb_LongWord_LongWord : PySem.W.subIn K (.ref C2) (.ref C2) = some true)
    (sb_LongWord_NoStarts : PySem.W.subIn K (.ref C2) (.ref C3) = some false)
    (ne_LongWord_NoStarts : C2 ≠ C3)
    (sb_LongWord_TooWide : PySem.W.subIn K (.ref C2) (.ref C4) = some false)
    (ne_LongWord_TooWide : C2 ≠ C4)
    (sb_LongWord_TooFew : PySem.W.subIn K (.ref C2) (.ref C5) = some false)
    (ne_LongWord_TooFew : C2 ≠ C5)
    (sb_LongWord_TooMany : PySem.W.subIn K (.ref C2) (.ref C6) = some false)
    (ne_LongWord_TooMany : C2 ≠ C6)
    (sb_LongWord_NoPlace : PySem.W.subIn K (.ref C2) (.ref C7) = some false)
    (ne_LongWord_NoPlace : C2 ≠ C7)
    (sb_LongWord_NoWord : PySem.W.subIn K (.ref C2) (.ref C8) = some false)
    (ne_LongWord_NoWord : C2 ≠ C8)
    (sb_LongWord_Full : PySem.W.subIn K (.ref C2) (.ref C9) = some false)
    (ne_LongWord_Full : C2 ≠ C9)
    (sb_LongWord_NoWayBack : PySem.W.subIn K (.ref C2) (.ref C10) = some false)
    (ne_LongWord_NoWayBack : C2 ≠ C10)
    (x1_TooFew : PySem.W.excIn K C5 [.type "ValueError", .type "Exception", .type "BaseException", .type "object"] "ValueError.__new__" = true)
    (x2_TooFew : PySem.W.keepIn K (.ref C5) = true)
    (x3_TooFew : PySem.W.findIn K (.ref C5) "__getattribute__" = some (some (.builtin "BaseException.__getattribute__")))
    (x4_TooFew : PySem.W.findIn K (.ref C5) "__getattr__" = some none)
    (x5_TooFew : PySem.W.subIn K (.ref C5) (.type "BaseException") = some true)
    (x6_TooFew : PySem.W.findIn K (.ref C5) "__class__" = some (some (.builtin "object.__class__")))
    (x7_TooFew : PySem.W.specialIn K (.builtin "object.__class__") "__get__" = some (some (.builtin "getset_descriptor.__get__")))
    (x8_TooFew : PySem.W.takesIn K (.builtin "object.__class__") = some true)
    (x9_TooFew : PySem.W.mroIn K C5 (.type "object") = some true)
    (sv_TooFew : PySem.W.subIn K (.ref C5) (.type "ValueError") = some true)
    (sb_TooFew_WrapError : PySem.W.subIn K (.ref C5) (.ref C0) = some true)
    (sb_TooFew_NoWidth : PySem.W.subIn K (.ref C5) (.ref C1) = some false)
    (ne_TooFew_NoWidth : C5 ≠ C1)
    (sb_TooFew_LongWord : PySem.W.subIn K (.ref C5) (.ref C2) = some false)
    (ne_TooFew_LongWord : C5 ≠ C2)
    (sb_TooFew_NoStarts : PySem.W.subIn K (.ref C5) (.ref C3) = some false)
    (ne_TooFew_NoStarts : C5 ≠ C3)
    (sb_TooFew_TooWide : PySem.W.subIn K (.ref C5) (.ref C4) = some false)
    (ne_TooFew_TooWide : C5 ≠ C4)
    (sb_TooFew_TooFew : PySem.W.subIn K (.ref C5) (.ref C5) = some true)
    (sb_TooFew_TooMany : PySem.W.subIn K (.ref C5) (.ref C6) = some false)
    (ne_TooFew_TooMany : C5 ≠ C6)
    (sb_TooFew_NoPlace : PySem.W.subIn K (.ref C5) (.ref C7) = some false)
    (ne_TooFew_NoPlace : C5 ≠ C7)
    (sb_TooFew_NoWord : PySem.W.subIn K (.ref C5) (.ref C8) = some false)
    (ne_TooFew_NoWord : C5 ≠ C8)
    (sb_TooFew_Full : PySem.W.subIn K (.ref C5) (.ref C9) = some false)
    (ne_TooFew_Full : C5 ≠ C9)
    (sb_TooFew_NoWayBack : PySem.W.subIn K (.ref C5) (.ref C10) = some false)
    (ne_TooFew_NoWayBack : C5 ≠ C10)
    (x1_TooMany : PySem.W.excIn K C6 [.type "ValueError", .type "Exception", .type "BaseException", .type "object"] "ValueError.__new__" = true)
    (x2_TooMany : PySem.W.keepIn K (.ref C6) = true)
    (x3_TooMany : PySem.W.findIn K (.ref C6) "__getattribute__" = some (some (.builtin "BaseException.__getattribute__")))
    (x4_TooMany : PySem.W.findIn K (.ref C6) "__getattr__" = some none)
    (x5_TooMany : PySem.W.subIn K (.ref C6) (.type "BaseException") = some true)
    (x6_TooMany : PySem.W.findIn K (.ref C6) "__class__" = some (some (.builtin "object.__class__")))
    (x7_TooMany : PySem.W.specialIn K (.builtin "object.__class__") "__get__" = some (some (.builtin "getset_descriptor.__get__")))
    (x8_TooMany : PySem.W.takesIn K (.builtin "object.__class__") = some true)
    (x9_TooMany : PySem.W.mroIn K C6 (.type "object") = some true)
    (sv_TooMany : PySem.W.subIn K (.ref C6) (.type "ValueError") = some true)
    (sb_TooMany_WrapError : PySem.W.subIn K (.ref C6) (.ref C0) = some true)
    (sb_TooMany_NoWidth : PySem.W.subIn K (.ref C6) (.ref C1) = some false)
    (ne_TooMany_NoWidth : C6 ≠ C1)
    (sb_TooMany_LongWord : PySem.W.subIn K (.ref C6) (.ref C2) = some false)
    (ne_TooMany_LongWord : C6 ≠ C2)
    (sb_TooMany_NoStarts : PySem.W.subIn K (.ref C6) (.ref C3) = some false)
    (ne_TooMany_NoStarts : C6 ≠ C3)
    (sb_TooMany_TooWide : PySem.W.subIn K (.ref C6) (.ref C4) = some false)
    (ne_TooMany_TooWide : C6 ≠ C4)
    (sb_TooMany_TooFew : PySem.W.subIn K (.ref C6) (.ref C5) = some false)
    (ne_TooMany_TooFew : C6 ≠ C5)
    (sb_TooMany_TooMany : PySem.W.subIn K (.ref C6) (.ref C6) = some true)
    (sb_TooMany_NoPlace : PySem.W.subIn K (.ref C6) (.ref C7) = some false)
    (ne_TooMany_NoPlace : C6 ≠ C7)
    (sb_TooMany_NoWord : PySem.W.subIn K (.ref C6) (.ref C8) = some false)
    (ne_TooMany_NoWord : C6 ≠ C8)
    (sb_TooMany_Full : PySem.W.subIn K (.ref C6) (.ref C9) = some false)
    (ne_TooMany_Full : C6 ≠ C9)
    (sb_TooMany_NoWayBack : PySem.W.subIn K (.ref C6) (.ref C10) = some false)
    (ne_TooMany_NoWayBack : C6 ≠ C10)
    : ∃ fd : FuncData, (∀ (s : Shared) (v : Value), BindsTo s fd ⟨[v], []⟩ [("_law_script", v)]) ∧ ∀ base : Heap, K.In base → base.Ns mainGlobals mg → FnOk l.prog w K mg base CX0 8 fa fd ["_law_script"] (sp_law K) := by
  have e := hfa.symm.trans (PySem.W.mg_of X G a33)
  cases e
  have F0 := fun_mk (st := s_sizes_from) l0 c0 k0
  have b0 := F0.binds (ps := ["words", "width", "begin"]) fun _ _ _ _ _ _ us hl => match us, hl with | [_, _, _], _ => rfl
  have F1 := fun_mk (st := s_long_word) l1 c1 k1
  have b1 := F1.binds (ps := ["words", "width"]) fun _ _ _ _ _ _ us hl => match us, hl with | [_, _], _ => rfl
  have F2 := fun_mk (st := s_check_width) l2 c2 k2
  have b2 := F2.binds (ps := ["width"]) fun _ _ _ _ _ _ us hl => match us, hl with | [_], _ => rfl
  have F3 := fun_mk (st := s_check_words) l3 c3 k3
  have b3 := F3.binds (ps := ["words", "width"]) fun _ _ _ _ _ _ us hl => match us, hl with | [_, _], _ => rfl
  have F4 := fun_mk (st := s_quick_starts) l4 c4 k4
  have b4 := F4.binds (ps := ["words", "width"]) fun _ _ _ _ _ _ us hl => match us, hl with | [_, _], _ => rfl
  have F5 := fun_mk (st := s_best_line) l5 c5 k5
  have b5 := F5.binds (ps := ["counts", "begin", "rest"]) fun _ _ _ _ _ _ us hl => match us, hl with | [_, _, _], _ => rfl
  have F6 := fun_mk (st := s_squares_of) l6 c6 k6
  have b6 := F6.binds (ps := ["width", "sizes"]) fun _ _ _ _ _ _ us hl => match us, hl with | [_, _], _ => rfl
  have F7 := fun_mk (st := s_starts_in) l7 c7 k7
  have b7 := F7.binds (ps := ["words", "width", "many"]) fun _ _ _ _ _ _ us hl => match us, hl with | [_, _, _], _ => rfl
  have F8 := fun_mk (st := s_check_many) l8 c8 k8
  have b8 := F8.binds (ps := ["words", "width", "many"]) fun _ _ _ _ _ _ us hl => match us, hl with | [_, _, _], _ => rfl
  have F9 := fun_mk (st := s_counts_from) l9 c9 k9
  have b9 := F9.binds (ps := ["words", "width", "begin"]) fun _ _ _ _ _ _ us hl => match us, hl with | [_, _, _], _ => rfl
  have F10 := fun_mk (st := s_tables_below) l10 c10 k10
  have b10 := F10.binds (ps := ["counts", "many"]) fun _ _ _ _ _ _ us hl => match us, hl with | [_, _], _ => rfl
  have F11 := fun_mk (st := s_l_cell_at) l11 c11 k11
  have b11 := F11.binds (ps := ["_law_script", "_law_k"]) fun _ _ _ _ _ _ us hl => match us, hl with | [_, _], _ => rfl
  have F12 := fun_mk (st := s_l_sign_by) l12 c12 k12
  have b12 := F12.binds (ps := ["_law_cell"]) fun _ _ _ _ _ _ us hl => match us, hl with | [_], _ => rfl
  have F13 := fun_mk (st := s_l_word_by) l13 c13 k13
  have b13 := F13.binds (ps := ["_law_cell"]) fun _ _ _ _ _ _ us hl => match us, hl with | [_], _ => rfl
  have F14 := fun_mk (st := s_l_whole) l14 c14 k14
  have b14 := F14.binds (ps := ["_law_found"]) fun _ _ _ _ _ _ us hl => match us, hl with | [_], _ => rfl
  have F15 := fun_mk (st := s_l_wholes) l15 c15 k15
  have b15 := F15.binds (ps := ["_law_found"]) fun _ _ _ _ _ _ us hl => match us, hl with | [_], _ => rfl
  have F16 := fun_mk (st := s_l_longest) l16 c16 k16
  have b16 := F16.binds (ps := ["_law_row"]) fun _ _ _ _ _ _ us hl => match us, hl with | [_], _ => rfl
  have F17 := fun_mk (st := s_l_size) l17 c17 k17
  have b17 := F17.binds (ps := ["_law_row", "_law_begin", "_law_end"]) fun _ _ _ _ _ _ us hl => match us, hl with | [_, _, _], _ => rfl
  have F18 := fun_mk (st := s_l_alike_by) l18 c18 k18
  have b18 := F18.binds (ps := ["_law_cell", "_law_size_here"]) fun _ _ _ _ _ _ us hl => match us, hl with | [_, _], _ => rfl
  have F19 := fun_mk (st := s_l_wide_by) l19 c19 k19
  have b19 := F19.binds (ps := ["_law_more", "_law_k"]) fun _ _ _ _ _ _ us hl => match us, hl with | [_, _], _ => rfl
  have F20 := fun_mk (st := s_l_words_by) l20 c20 k20
  have b20 := F20.binds (ps := ["_law_cells", "_law_more"]) fun _ _ _ _ _ _ us hl => match us, hl with | [_, _], _ => rfl
  have F21 := fun_mk (st := s_l_width_by) l21 c21 k21
  have b21 := F21.binds (ps := ["_law_cell", "_law_row"]) fun _ _ _ _ _ _ us hl => match us, hl with | [_, _], _ => rfl
  have F22 := fun_mk (st := s_l_price) l22 c22 k22
  have b22 := F22.binds (ps := ["_law_row", "_law_width", "_law_begin", "_law_end"]) fun _ _ _ _ _ _ us hl => match us, hl with | [_, _, _, _], _ => rfl
  have F23 := fun_mk (st := s_l_sum) l23 c23 k23
  have b23 := F23.binds (ps := ["_law_row", "_law_width", "_law_found"]) fun _ _ _ _ _ _ us hl => match us, hl with | [_, _, _], _ => rfl
  have F24 := fun_mk (st := s_l_are_starts) l24 c24 k24
  have b24 := F24.binds (ps := ["_law_row", "_law_width", "_law_found"]) fun _ _ _ _ _ _ us hl => match us, hl with | [_, _, _], _ => rfl
  have F25 := fun_mk (st := s_l_others_by) l25 c25 k25
  have b25 := F25.binds (ps := ["_law_cells", "_law_row", "_law_width"]) fun _ _ _ _ _ _ us hl => match us, hl with | [_, _, _], _ => rfl
  have F26 := fun_mk (st := s_l_in_lines) l26 c26 k26
  have b26 := F26.binds (ps := ["_law_cells", "_law_row", "_law_width", "_law_many"]) fun _ _ _ _ _ _ us hl => match us, hl with | [_, _, _, _], _ => rfl
  have F27 := fun_mk (st := s_l_kind) l27 c27 k27
  have b27 := F27.binds (ps := ["_law_e"]) fun _ _ _ _ _ _ us hl => match us, hl with | [_], _ => rfl
  have F28 := fun_mk (st := s_l_refusal) l28 c28 k28
  have b28 := F28.binds (ps := ["_law_row", "_law_width", "_law_many"]) fun _ _ _ _ _ _ us hl => match us, hl with | [_, _, _], _ => rfl
  have F29 := fun_mk (st := s_l_all) l29 c29 k29
  have b29 := F29.binds (ps := ["_law_count"]) fun _ _ _ _ _ _ us hl => match us, hl with | [_], _ => rfl
  have F30 := fun_mk (st := s_l_near) l30 c30 k30
  have b30 := F30.binds (ps := ["_law_found", "_law_count"]) fun _ _ _ _ _ _ us hl => match us, hl with | [_, _], _ => rfl
  have F31 := fun_mk (st := s_l_beaten) l31 c31 k31
  have b31 := F31.binds (ps := ["_law_row", "_law_width", "_law_found", "_law_others"]) fun _ _ _ _ _ _ us hl => match us, hl with | [_, _, _, _], _ => rfl
  have F32 := fun_mk (st := s_l_many_by) l32 c32 k32
  have b32 := F32.binds (ps := ["_law_cell", "_law_quick", "_law_count", "_law_great"]) fun _ _ _ _ _ _ us hl => match us, hl with | [_, _, _, _], _ => rfl
  have F33 := fun_mk (st := s_law) l33 c33 k33
  have b33 := F33.binds (ps := ["_law_script"]) fun _ _ _ _ _ _ us hl => match us, hl with | [_], _ => rfl
  have T : Txt K mg { f_sizes_from := f0, d_sizes_from := _, f_long_word := f1, d_long_word := _, f_check_width := f2, d_check_width := _, f_check_words := f3, d_check_words := _, f_quick_starts := f4, d_quick_starts := _, f_best_line := f5, d_best_line := _, f_squares_of := f6, d_squares_of := _, f_starts_in := f7, d_starts_in := _, f_check_many := f8, d_check_many := _, f_counts_from := f9, d_counts_from := _, f_tables_below := f10, d_tables_below := _, f_l_cell_at := f11, d_l_cell_at := _, f_l_sign_by := f12, d_l_sign_by := _, f_l_word_by := f13, d_l_word_by := _, f_l_whole := f14, d_l_whole := _, f_l_wholes := f15, d_l_wholes := _, f_l_longest := f16, d_l_longest := _, f_l_size := f17, d_l_size := _, f_l_alike_by := f18, d_l_alike_by := _, f_l_wide_by := f19, d_l_wide_by := _, f_l_words_by := f20, d_l_words_by := _, f_l_width_by := f21, d_l_width_by := _, f_l_price := f22, d_l_price := _, f_l_sum := f23, d_l_sum := _, f_l_are_starts := f24, d_l_are_starts := _, f_l_others_by := f25, d_l_others_by := _, f_l_in_lines := f26, d_l_in_lines := _, f_l_kind := f27, d_l_kind := _, f_l_refusal := f28, d_l_refusal := _, f_l_all := f29, d_l_all := _, f_l_near := f30, d_l_near := _, f_l_beaten := f31, d_l_beaten := _, f_l_many_by := f32, d_l_many_by := _, f_law := fa, d_law := _, c_WrapError := C0, c_NoWidth := C1, c_LongWord := C2, c_NoStarts := C3, c_TooWide := C4, c_TooFew := C5, c_TooMany := C6, c_NoPlace := C7, c_NoWord := C8, c_Full := C9, c_NoWayBack := C10 } := {
    F_sizes_from := F0, g_sizes_from := PySem.W.mg_of X G a0, b_sizes_from := b0,
    F_long_word := F1, g_long_word := PySem.W.mg_of X G a1, b_long_word := b1,
    F_check_width := F2, g_check_width := PySem.W.mg_of X G a2, b_check_width := b2,
    F_check_words := F3, g_check_words := PySem.W.mg_of X G a3, b_check_words := b3,
    F_quick_starts := F4, g_quick_starts := PySem.W.mg_of X G a4, b_quick_starts := b4,
    F_best_line := F5, g_best_line := PySem.W.mg_of X G a5, b_best_line := b5,
    F_squares_of := F6, g_squares_of := PySem.W.mg_of X G a6, b_squares_of := b6,
    F_starts_in := F7, g_starts_in := PySem.W.mg_of X G a7, b_starts_in := b7,
    F_check_many := F8, g_check_many := PySem.W.mg_of X G a8, b_check_many := b8,
    F_counts_from := F9, g_counts_from := PySem.W.mg_of X G a9, b_counts_from := b9,
    F_tables_below := F10, g_tables_below := PySem.W.mg_of X G a10, b_tables_below := b10,
    F_l_cell_at := F11, g_l_cell_at := PySem.W.mg_of X G a11, b_l_cell_at := b11,
    F_l_sign_by := F12, g_l_sign_by := PySem.W.mg_of X G a12, b_l_sign_by := b12,
    F_l_word_by := F13, g_l_word_by := PySem.W.mg_of X G a13, b_l_word_by := b13,
    F_l_whole := F14, g_l_whole := PySem.W.mg_of X G a14, b_l_whole := b14,
    F_l_wholes := F15, g_l_wholes := PySem.W.mg_of X G a15, b_l_wholes := b15,
    F_l_longest := F16, g_l_longest := PySem.W.mg_of X G a16, b_l_longest := b16,
    F_l_size := F17, g_l_size := PySem.W.mg_of X G a17, b_l_size := b17,
    F_l_alike_by := F18, g_l_alike_by := PySem.W.mg_of X G a18, b_l_alike_by := b18,
    F_l_wide_by := F19, g_l_wide_by := PySem.W.mg_of X G a19, b_l_wide_by := b19,
    F_l_words_by := F20, g_l_words_by := PySem.W.mg_of X G a20, b_l_words_by := b20,
    F_l_width_by := F21, g_l_width_by := PySem.W.mg_of X G a21, b_l_width_by := b21,
    F_l_price := F22, g_l_price := PySem.W.mg_of X G a22, b_l_price := b22,
    F_l_sum := F23, g_l_sum := PySem.W.mg_of X G a23, b_l_sum := b23,
    F_l_are_starts := F24, g_l_are_starts := PySem.W.mg_of X G a24, b_l_are_starts := b24,
    F_l_others_by := F25, g_l_others_by := PySem.W.mg_of X G a25, b_l_others_by := b25,
    F_l_in_lines := F26, g_l_in_lines := PySem.W.mg_of X G a26, b_l_in_lines := b26,
    F_l_kind := F27, g_l_kind := PySem.W.mg_of X G a27, b_l_kind := b27,
    F_l_refusal := F28, g_l_refusal := PySem.W.mg_of X G a28, b_l_refusal := b28,
    F_l_all := F29, g_l_all := PySem.W.mg_of X G a29, b_l_all := b29,
    F_l_near := F30, g_l_near := PySem.W.mg_of X G a30, b_l_near := b30,
    F_l_beaten := F31, g_l_beaten := PySem.W.mg_of X G a31, b_l_beaten := b31,
    F_l_many_by := F32, g_l_many_by := PySem.W.mg_of X G a32, b_l_many_by := b32,
    F_law := F33, g_law := PySem.W.mg_of X G a33, b_law := b33,
    m_ValueError := PySem.W.mg_none_of X G z0,
    m_bool := PySem.W.mg_none_of X G z1,
    m_enumerate := PySem.W.mg_none_of X G z2,
    m_int := PySem.W.mg_none_of X G z3,
    m_isinstance := PySem.W.mg_none_of X G z4,
    m_len := PySem.W.mg_none_of X G z5,
    m_list := PySem.W.mg_none_of X G z6,
    m_max := PySem.W.mg_none_of X G z7,
    m_range := PySem.W.mg_none_of X G z8,
    m_reversed := PySem.W.mg_none_of X G z9,
    m_sorted := PySem.W.mg_none_of X G z10,
    m_sum := PySem.W.mg_none_of X G z11,
    gc_WrapError := PySem.W.mg_of X G y0,
    gc_NoWidth := PySem.W.mg_of X G y1,
    gc_LongWord := PySem.W.mg_of X G y2,
    gc_NoStarts := PySem.W.mg_of X G y3,
    gc_TooWide := PySem.W.mg_of X G y4,
    gc_TooFew := PySem.W.mg_of X G y5,
    gc_TooMany := PySem.W.mg_of X G y6,
    gc_NoPlace := PySem.W.mg_of X G y7,
    gc_NoWord := PySem.W.mg_of X G y8,
    gc_Full := PySem.W.mg_of X G y9,
    gc_NoWayBack := PySem.W.mg_of X G y10,
    hd_WrapError := hd_WrapError, ty_WrapError := ty_WrapError,
    hd_NoWidth := hd_NoWidth, ty_NoWidth := ty_NoWidth,
    hd_LongWord := hd_LongWord, ty_LongWord := ty_LongWord,
    hd_NoStarts := hd_NoStarts, ty_NoStarts := ty_NoStarts,
    hd_TooWide := hd_TooWide, ty_TooWide := ty_TooWide,
    hd_TooFew := hd_TooFew, ty_TooFew := ty_TooFew,
    hd_TooMany := hd_TooMany, ty_TooMany := ty_TooMany,
    hd_NoPlace := hd_NoPlace, ty_NoPlace := ty_NoPlace,
    hd_NoWord := hd_NoWord, ty_NoWord := ty_NoWord,
    hd_Full := hd_Full, ty_Full := ty_Full,
    hd_NoWayBack := hd_NoWayBack, ty_NoWayBack := ty_NoWayBack,
    bw := bw,
    ex_NoWidth := ⟨x1_NoWidth, x2_NoWidth, ty_NoWidth, ⟨x3_NoWidth, x4_NoWidth, x5_NoWidth, hd_NoWidth, x6_NoWidth, x7_NoWidth, x8_NoWidth, x9_NoWidth⟩⟩, sv_NoWidth := sv_NoWidth,
    sb_NoWidth_WrapError := sb_NoWidth_WrapError,
    sb_NoWidth_NoWidth := sb_NoWidth_NoWidth,
    sb_NoWidth_LongWord := sb_NoWidth_LongWord,
    ne_NoWidth_LongWord := ne_NoWidth_LongWord,
    sb_NoWidth_NoStarts := sb_NoWidth_NoStarts,
    ne_NoWidth_NoStarts := ne_NoWidth_NoStarts,
    sb_NoWidth_TooWide := sb_NoWidth_TooWide,
    ne_NoWidth_TooWide := ne_NoWidth_TooWide,
    sb_NoWidth_TooFew := sb_NoWidth_TooFew,
    ne_NoWidth_TooFew := ne_NoWidth_TooFew,
    sb_NoWidth_TooMany := sb_NoWidth_TooMany,
    ne_NoWidth_TooMany := ne_NoWidth_TooMany,
    sb_NoWidth_NoPlace := sb_NoWidth_NoPlace,
    ne_NoWidth_NoPlace := ne_NoWidth_NoPlace,
    sb_NoWidth_NoWord := sb_NoWidth_NoWord,
    ne_NoWidth_NoWord := ne_NoWidth_NoWord,
    sb_NoWidth_Full := sb_NoWidth_Full,
    ne_NoWidth_Full := ne_NoWidth_Full,
    sb_NoWidth_NoWayBack := sb_NoWidth_NoWayBack,
    ne_NoWidth_NoWayBack := ne_NoWidth_NoWayBack,
    ex_LongWord := ⟨x1_LongWord, x2_LongWord, ty_LongWord, ⟨x3_LongWord, x4_LongWord, x5_LongWord, hd_LongWord, x6_LongWord, x7_LongWord, x8_LongWord, x9_LongWord⟩⟩, sv_LongWord := sv_LongWord,
    sb_LongWord_WrapError := sb_LongWord_WrapError,
    sb_LongWord_NoWidth := sb_LongWord_NoWidth,
    ne_LongWord_NoWidth := ne_LongWord_NoWidth,
    sb_LongWord_LongWord := sb_LongWord_LongWord,
    sb_LongWord_NoStarts := sb_LongWord_NoStarts,
    ne_LongWord_NoStarts := ne_LongWord_NoStarts,
    sb_LongWord_TooWide := sb_LongWord_TooWide,
    ne_LongWord_TooWide := ne_LongWord_TooWide,
    sb_LongWord_TooFew := sb_LongWord_TooFew,
    ne_LongWord_TooFew := ne_LongWord_TooFew,
    sb_LongWord_TooMany := sb_LongWord_TooMany,
    ne_LongWord_TooMany := ne_LongWord_TooMany,
    sb_LongWord_NoPlace := sb_LongWord_NoPlace,
    ne_LongWord_NoPlace := ne_LongWord_NoPlace,
    sb_LongWord_NoWord := sb_LongWord_NoWord,
    ne_LongWord_NoWord := ne_LongWord_NoWord,
    sb_LongWord_Full := sb_LongWord_Full,
    ne_LongWord_Full := ne_LongWord_Full,
    sb_LongWord_NoWayBack := sb_LongWord_NoWayBack,
    ne_LongWord_NoWayBack := ne_LongWord_NoWayBack,
    ex_TooFew := ⟨x1_TooFew, x2_TooFew, ty_TooFew, ⟨x3_TooFew, x4_TooFew, x5_TooFew, hd_TooFew, x6_TooFew, x7_TooFew, x8_TooFew, x9_TooFew⟩⟩, sv_TooFew := sv_TooFew,
    sb_TooFew_WrapError := sb_TooFew_WrapError,
    sb_TooFew_NoWidth := sb_TooFew_NoWidth,
    ne_TooFew_NoWidth := ne_TooFew_NoWidth,
    sb_TooFew_LongWord := sb_TooFew_LongWord,
    ne_TooFew_LongWord := ne_TooFew_LongWord,
    sb_TooFew_NoStarts := sb_TooFew_NoStarts,
    ne_TooFew_NoStarts := ne_TooFew_NoStarts,
    sb_TooFew_TooWide := sb_TooFew_TooWide,
    ne_TooFew_TooWide := ne_TooFew_TooWide,
    sb_TooFew_TooFew := sb_TooFew_TooFew,
    sb_TooFew_TooMany := sb_TooFew_TooMany,
    ne_TooFew_TooMany := ne_TooFew_TooMany,
    sb_TooFew_NoPlace := sb_TooFew_NoPlace,
    ne_TooFew_NoPlace := ne_TooFew_NoPlace,
    sb_TooFew_NoWord := sb_TooFew_NoWord,
    ne_TooFew_NoWord := ne_TooFew_NoWord,
    sb_TooFew_Full := sb_TooFew_Full,
    ne_TooFew_Full := ne_TooFew_Full,
    sb_TooFew_NoWayBack := sb_TooFew_NoWayBack,
    ne_TooFew_NoWayBack := ne_TooFew_NoWayBack,
    ex_TooMany := ⟨x1_TooMany, x2_TooMany, ty_TooMany, ⟨x3_TooMany, x4_TooMany, x5_TooMany, hd_TooMany, x6_TooMany, x7_TooMany, x8_TooMany, x9_TooMany⟩⟩, sv_TooMany := sv_TooMany,
    sb_TooMany_WrapError := sb_TooMany_WrapError,
    sb_TooMany_NoWidth := sb_TooMany_NoWidth,
    ne_TooMany_NoWidth := ne_TooMany_NoWidth,
    sb_TooMany_LongWord := sb_TooMany_LongWord,
    ne_TooMany_LongWord := ne_TooMany_LongWord,
    sb_TooMany_NoStarts := sb_TooMany_NoStarts,
    ne_TooMany_NoStarts := ne_TooMany_NoStarts,
    sb_TooMany_TooWide := sb_TooMany_TooWide,
    ne_TooMany_TooWide := ne_TooMany_TooWide,
    sb_TooMany_TooFew := sb_TooMany_TooFew,
    ne_TooMany_TooFew := ne_TooMany_TooFew,
    sb_TooMany_TooMany := sb_TooMany_TooMany,
    sb_TooMany_NoPlace := sb_TooMany_NoPlace,
    ne_TooMany_NoPlace := ne_TooMany_NoPlace,
    sb_TooMany_NoWord := sb_TooMany_NoWord,
    ne_TooMany_NoWord := ne_TooMany_NoWord,
    sb_TooMany_Full := sb_TooMany_Full,
    ne_TooMany_Full := ne_TooMany_Full,
    sb_TooMany_NoWayBack := sb_TooMany_NoWayBack,
    ne_TooMany_NoWayBack := ne_TooMany_NoWayBack }
  exact ⟨_, fun s v => .of_eq rfl, fun base _ _ => ok_law T⟩
end Pf
open PySem PySem.W PyProof.Rows
set_option maxHeartbeats 0 in
theorem PySem.Challenge.cw_textwrapper_k11_whole_none_less_in_lines_holds : PySem.Challenge.rw_textwrapper_k11_whole_none_less_in_lines.Holds := by
  w_on; o_law; k_head; (case hw => w_witness2)
  k_fill
  refine L2.walk_of (l := PySem.Challenge.rw_textwrapper_k11_whole_none_less_in_lines) (n := 63) (k := 8) (x := "_law_script") (CX := fun _ => L2.CX0) (sp := fun w => Pf.sp_law _) rfl (by decide) rfl ⟨rfl, by decide, by decide⟩ (fun w h Y => PySem.W.kIn_of Y) ?F (fun _ _ a ns hl _ hS => ⟨a, ns, rfl, hS, hl, fun _ => rfl⟩) (fun _ _ _ _ _ h => h)
  case F =>
    intro w mg fa h KX G hmg
    refine' Pf.all_mk KX G hmg ?a0 ?l0 ?c0 ?k0 ?a1 ?l1 ?c1 ?k1 ?a2 ?l2 ?c2 ?k2 ?a3 ?l3 ?c3 ?k3 ?a4 ?l4 ?c4 ?k4 ?a5 ?l5 ?c5 ?k5 ?a6 ?l6 ?c6 ?k6 ?a7 ?l7 ?c7 ?k7 ?a8 ?l8 ?c8 ?k8 ?a9 ?l9 ?c9 ?k9 ?a10 ?l10 ?c10 ?k10 ?a11 ?l11 ?c11 ?k11 ?a12 ?l12 ?c12 ?k12 ?a13 ?l13 ?c13 ?k13 ?a14 ?l14 ?c14 ?k14 ?a15 ?l15 ?c15 ?k15 ?a16 ?l16 ?c16 ?k16 ?a17 ?l17 ?c17 ?k17 ?a18 ?l18 ?c18 ?k18 ?a19 ?l19 ?c19 ?k19 ?a20 ?l20 ?c20 ?k20 ?a21 ?l21 ?c21 ?k21 ?a22 ?l22 ?c22 ?k22 ?a23 ?l23 ?c23 ?k23 ?a24 ?l24 ?c24 ?k24 ?a25 ?l25 ?c25 ?k25 ?a26 ?l26 ?c26 ?k26 ?a27 ?l27 ?c27 ?k27 ?a28 ?l28 ?c28 ?k28 ?a29 ?l29 ?c29 ?k29 ?a30 ?l30 ?c30 ?k30 ?a31 ?l31 ?c31 ?k31 ?a32 ?l32 ?c32 ?k32 ?a33 ?l33 ?c33 ?k33 ?z0 ?z1 ?z2 ?z3 ?z4 ?z5 ?z6 ?z7 ?z8 ?z9 ?z10 ?z11 ?y0 ?y1 ?y2 ?y3 ?y4 ?y5 ?y6 ?y7 ?y8 ?y9 ?y10 ?hd_WrapError ?ty_WrapError ?hd_NoWidth ?ty_NoWidth ?hd_LongWord ?ty_LongWord ?hd_NoStarts ?ty_NoStarts ?hd_TooWide ?ty_TooWide ?hd_TooFew ?ty_TooFew ?hd_TooMany ?ty_TooMany ?hd_NoPlace ?ty_NoPlace ?hd_NoWord ?ty_NoWord ?hd_Full ?ty_Full ?hd_NoWayBack ?ty_NoWayBack ?bw ?x1_NoWidth ?x2_NoWidth ?x3_NoWidth ?x4_NoWidth ?x5_NoWidth ?x6_NoWidth ?x7_NoWidth ?x8_NoWidth ?x9_NoWidth ?sv_NoWidth ?sb_NoWidth_WrapError ?sb_NoWidth_NoWidth ?sb_NoWidth_LongWord ?ne_NoWidth_LongWord ?sb_NoWidth_NoStarts ?ne_NoWidth_NoStarts ?sb_NoWidth_TooWide ?ne_NoWidth_TooWide ?sb_NoWidth_TooFew ?ne_NoWidth_TooFew ?sb_NoWidth_TooMany ?ne_NoWidth_TooMany ?sb_NoWidth_NoPlace ?ne_NoWidth_NoPlace ?sb_NoWidth_NoWord ?ne_NoWidth_NoWord ?sb_NoWidth_Full ?ne_NoWidth_Full ?sb_NoWidth_NoWayBack ?ne_NoWidth_NoWayBack ?x1_LongWord ?x2_LongWord ?x3_LongWord ?x4_LongWord ?x5_LongWord ?x6_LongWord ?x7_LongWord ?x8_LongWord ?x9_LongWord ?sv_LongWord ?sb_LongWord_WrapError ?sb_LongWord_NoWidth ?ne_LongWord_NoWidth ?sb_LongWord_LongWord ?sb_LongWord_NoStarts ?ne_LongWord_NoStarts ?sb_LongWord_TooWide ?ne_LongWord_TooWide ?sb_LongWord_TooFew ?ne_LongWord_TooFew ?sb_LongWord_TooMany ?ne_LongWord_TooMany ?sb_LongWord_NoPlace ?ne_LongWord_NoPlace ?sb_LongWord_NoWord ?ne_LongWord_NoWord ?sb_LongWord_Full ?ne_LongWord_Full ?sb_LongWord_NoWayBack ?ne_LongWord_NoWayBack ?x1_TooFew ?x2_TooFew ?x3_TooFew ?x4_TooFew ?x5_TooFew ?x6_TooFew ?x7_TooFew ?x8_TooFew ?x9_TooFew ?sv_TooFew ?sb_TooFew_WrapError ?sb_TooFew_NoWidth ?ne_TooFew_NoWidth ?sb_TooFew_LongWord ?ne_TooFew_LongWord ?sb_TooFew_NoStarts ?ne_TooFew_NoStarts ?sb_TooFew_TooWide ?ne_TooFew_TooWide ?sb_TooFew_TooFew ?sb_TooFew_TooMany ?ne_TooFew_TooMany ?sb_TooFew_NoPlace ?ne_TooFew_NoPlace ?sb_TooFew_NoWord ?ne_TooFew_NoWord ?sb_TooFew_Full ?ne_TooFew_Full ?sb_TooFew_NoWayBack ?ne_TooFew_NoWayBack ?x1_TooMany ?x2_TooMany ?x3_TooMany ?x4_TooMany ?x5_TooMany ?x6_TooMany ?x7_TooMany ?x8_TooMany ?x9_TooMany ?sv_TooMany ?sb_TooMany_WrapError ?sb_TooMany_NoWidth ?ne_TooMany_NoWidth ?sb_TooMany_LongWord ?ne_TooMany_LongWord ?sb_TooMany_NoStarts ?ne_TooMany_NoStarts ?sb_TooMany_TooWide ?ne_TooMany_TooWide ?sb_TooMany_TooFew ?ne_TooMany_TooFew ?sb_TooMany_TooMany ?sb_TooMany_NoPlace ?ne_TooMany_NoPlace ?sb_TooMany_NoWord ?ne_TooMany_NoWord ?sb_TooMany_Full ?ne_TooMany_Full ?sb_TooMany_NoWayBack ?ne_TooMany_NoWayBack
    (case a0 => k_is); (case l0 => k_is); (case c0 => k_is); (case k0 => k_is); (case a1 => k_is); (case l1 => k_is); (case c1 => k_is); (case k1 => k_is)
    (case a2 => k_is); (case l2 => k_is); (case c2 => k_is); (case k2 => k_is); (case a3 => k_is); (case l3 => k_is); (case c3 => k_is); (case k3 => k_is)
    (case a4 => k_is); (case l4 => k_is); (case c4 => k_is); (case k4 => k_is); (case a5 => k_is); (case l5 => k_is); (case c5 => k_is); (case k5 => k_is)
    (case a6 => k_is); (case l6 => k_is); (case c6 => k_is); (case k6 => k_is); (case a7 => k_is); (case l7 => k_is); (case c7 => k_is); (case k7 => k_is)
    (case a8 => k_is); (case l8 => k_is); (case c8 => k_is); (case k8 => k_is); (case a9 => k_is); (case l9 => k_is); (case c9 => k_is); (case k9 => k_is)
    (case a10 => k_is); (case l10 => k_is); (case c10 => k_is); (case k10 => k_is); (case a11 => k_is); (case l11 => k_is); (case c11 => k_is); (case k11 => k_is)
    (case a12 => k_is); (case l12 => k_is); (case c12 => k_is); (case k12 => k_is); (case a13 => k_is); (case l13 => k_is); (case c13 => k_is); (case k13 => k_is)
    (case a14 => k_is); (case l14 => k_is); (case c14 => k_is); (case k14 => k_is); (case a15 => k_is); (case l15 => k_is); (case c15 => k_is); (case k15 => k_is)
    (case a16 => k_is); (case l16 => k_is); (case c16 => k_is); (case k16 => k_is); (case a17 => k_is); (case l17 => k_is); (case c17 => k_is); (case k17 => k_is)
    (case a18 => k_is); (case l18 => k_is); (case c18 => k_is); (case k18 => k_is); (case a19 => k_is); (case l19 => k_is); (case c19 => k_is); (case k19 => k_is)
    (case a20 => k_is); (case l20 => k_is); (case c20 => k_is); (case k20 => k_is); (case a21 => k_is); (case l21 => k_is); (case c21 => k_is); (case k21 => k_is)
    (case a22 => k_is); (case l22 => k_is); (case c22 => k_is); (case k22 => k_is); (case a23 => k_is); (case l23 => k_is); (case c23 => k_is); (case k23 => k_is)
    (case a24 => k_is); (case l24 => k_is); (case c24 => k_is); (case k24 => k_is); (case a25 => k_is); (case l25 => k_is); (case c25 => k_is); (case k25 => k_is)
    (case a26 => k_is); (case l26 => k_is); (case c26 => k_is); (case k26 => k_is); (case a27 => k_is); (case l27 => k_is); (case c27 => k_is); (case k27 => k_is)
    (case a28 => k_is); (case l28 => k_is); (case c28 => k_is); (case k28 => k_is); (case a29 => k_is); (case l29 => k_is); (case c29 => k_is); (case k29 => k_is)
    (case a30 => k_is); (case l30 => k_is); (case c30 => k_is); (case k30 => k_is); (case a31 => k_is); (case l31 => k_is); (case c31 => k_is); (case k31 => k_is)
    (case a32 => k_is); (case l32 => k_is); (case c32 => k_is); (case k32 => k_is); (case a33 => k_is); (case l33 => k_is); (case c33 => k_is); (case k33 => k_is)
    (case z0 => k_is); (case z1 => k_is); (case z2 => k_is); (case z3 => k_is); (case z4 => k_is); (case z5 => k_is); (case z6 => k_is); (case z7 => k_is)
    (case z8 => k_is); (case z9 => k_is); (case z10 => k_is); (case z11 => k_is); (case y0 => k_is); (case y1 => k_is); (case y2 => k_is); (case y3 => k_is)
    (case y4 => k_is); (case y5 => k_is); (case y6 => k_is); (case y7 => k_is); (case y8 => k_is); (case y9 => k_is); (case y10 => k_is); (case hd_WrapError => k_is)
    (case ty_WrapError => k_is); (case hd_NoWidth => k_is); (case ty_NoWidth => k_is); (case hd_LongWord => k_is); (case ty_LongWord => k_is); (case hd_NoStarts => k_is); (case ty_NoStarts => k_is); (case hd_TooWide => k_is)
    (case ty_TooWide => k_is); (case hd_TooFew => k_is); (case ty_TooFew => k_is); (case hd_TooMany => k_is); (case ty_TooMany => k_is); (case hd_NoPlace => k_is); (case ty_NoPlace => k_is); (case hd_NoWord => k_is)
    (case ty_NoWord => k_is); (case hd_Full => k_is); (case ty_Full => k_is); (case hd_NoWayBack => k_is); (case ty_NoWayBack => k_is); (case bw => k_is); (case x1_NoWidth => k_exc); (case x2_NoWidth => k_is)
    (case x3_NoWidth => k_is); (case x4_NoWidth => k_is); (case x5_NoWidth => k_is); (case x6_NoWidth => k_is); (case x7_NoWidth => k_is); (case x8_NoWidth => k_is); (case x9_NoWidth => k_is); (case sv_NoWidth => k_is)
    (case sb_NoWidth_WrapError => k_is); (case sb_NoWidth_NoWidth => k_is); (case sb_NoWidth_LongWord => k_is); (case ne_NoWidth_LongWord => decide); (case sb_NoWidth_NoStarts => k_is); (case ne_NoWidth_NoStarts => decide); (case sb_NoWidth_TooWide => k_is); (case ne_NoWidth_TooWide => decide)
    (case sb_NoWidth_TooFew => k_is); (case ne_NoWidth_TooFew => decide); (case sb_NoWidth_TooMany => k_is); (case ne_NoWidth_TooMany => decide); (case sb_NoWidth_NoPlace => k_is); (case ne_NoWidth_NoPlace => decide); (case sb_NoWidth_NoWord => k_is); (case ne_NoWidth_NoWord => decide)
    (case sb_NoWidth_Full => k_is); (case ne_NoWidth_Full => decide); (case sb_NoWidth_NoWayBack => k_is); (case ne_NoWidth_NoWayBack => decide); (case x1_LongWord => k_exc); (case x2_LongWord => k_is); (case x3_LongWord => k_is); (case x4_LongWord => k_is)
    (case x5_LongWord => k_is); (case x6_LongWord => k_is); (case x7_LongWord => k_is); (case x8_LongWord => k_is); (case x9_LongWord => k_is); (case sv_LongWord => k_is); (case sb_LongWord_WrapError => k_is); (case sb_LongWord_NoWidth => k_is)
    (case ne_LongWord_NoWidth => decide); (case sb_LongWord_LongWord => k_is); (case sb_LongWord_NoStarts => k_is); (case ne_LongWord_NoStarts => decide); (case sb_LongWord_TooWide => k_is); (case ne_LongWord_TooWide => decide); (case sb_LongWord_TooFew => k_is); (case ne_LongWord_TooFew => decide)
    (case sb_LongWord_TooMany => k_is); (case ne_LongWord_TooMany => decide); (case sb_LongWord_NoPlace => k_is); (case ne_LongWord_NoPlace => decide); (case sb_LongWord_NoWord => k_is); (case ne_LongWord_NoWord => decide); (case sb_LongWord_Full => k_is); (case ne_LongWord_Full => decide)
    (case sb_LongWord_NoWayBack => k_is); (case ne_LongWord_NoWayBack => decide); (case x1_TooFew => k_exc); (case x2_TooFew => k_is); (case x3_TooFew => k_is); (case x4_TooFew => k_is); (case x5_TooFew => k_is); (case x6_TooFew => k_is)
    (case x7_TooFew => k_is); (case x8_TooFew => k_is); (case x9_TooFew => k_is); (case sv_TooFew => k_is); (case sb_TooFew_WrapError => k_is); (case sb_TooFew_NoWidth => k_is); (case ne_TooFew_NoWidth => decide); (case sb_TooFew_LongWord => k_is)
    (case ne_TooFew_LongWord => decide); (case sb_TooFew_NoStarts => k_is); (case ne_TooFew_NoStarts => decide); (case sb_TooFew_TooWide => k_is); (case ne_TooFew_TooWide => decide); (case sb_TooFew_TooFew => k_is); (case sb_TooFew_TooMany => k_is); (case ne_TooFew_TooMany => decide)
    (case sb_TooFew_NoPlace => k_is); (case ne_TooFew_NoPlace => decide); (case sb_TooFew_NoWord => k_is); (case ne_TooFew_NoWord => decide); (case sb_TooFew_Full => k_is); (case ne_TooFew_Full => decide); (case sb_TooFew_NoWayBack => k_is); (case ne_TooFew_NoWayBack => decide)
    (case x1_TooMany => k_exc); (case x2_TooMany => k_is); (case x3_TooMany => k_is); (case x4_TooMany => k_is); (case x5_TooMany => k_is); (case x6_TooMany => k_is); (case x7_TooMany => k_is); (case x8_TooMany => k_is)
    (case x9_TooMany => k_is); (case sv_TooMany => k_is); (case sb_TooMany_WrapError => k_is); (case sb_TooMany_NoWidth => k_is); (case ne_TooMany_NoWidth => decide); (case sb_TooMany_LongWord => k_is); (case ne_TooMany_LongWord => decide); (case sb_TooMany_NoStarts => k_is)
    (case ne_TooMany_NoStarts => decide); (case sb_TooMany_TooWide => k_is); (case ne_TooMany_TooWide => decide); (case sb_TooMany_TooFew => k_is); (case ne_TooMany_TooFew => decide); (case sb_TooMany_TooMany => k_is); (case sb_TooMany_NoPlace => k_is); (case ne_TooMany_NoPlace => decide)
    (case sb_TooMany_NoWord => k_is); (case ne_TooMany_NoWord => decide); (case sb_TooMany_Full => k_is); (case ne_TooMany_Full => decide); (case sb_TooMany_NoWayBack => k_is); (case ne_TooMany_NoWayBack => decide)
