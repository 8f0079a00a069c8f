
import PyProof.Rows.All
import Wide.All
import OpenK.AllK
import Wide.FinOn
import HandS.ForMost
import HandS.Evl
import HandS.Steps
import HandS.IsInst
import HandS.Style
import HandS.Walk
import HandS.Flow
import HandS.HotCalls
import HandS.ExcIs
import PySem.Challenge.RW_textwrapper_k03_lines_measured
set_option Elab.async false
set_option linter.all false
set_option maxRecDepth 100000
namespace Tw
open PySem PySem.Spec PyProof.Rows L2 Evl
/-! ### rules of our own -/
/-- text * int -/
def rMulS : R2 := fun x y H Q => ∃ (z : Str) (k : Int) (L N : Nat), x = .str z ∧ y = .int k ∧ (z.length ≤ L ∧ k ≤ (N : Int) ∧ -(2 ^ 63 : Int) ≤ k ∧ N ≤ 16777216 ∧ L * N ≤ 16777216) ∧ Q (.str (Txt.mul z k)) H
theorem op_mulS {X : Cx} : OpR X (binaryOp .Mult) rMulS := by
  intro pins s σ H x y v u Q I rx ry h
  obtain ⟨z, k, L, N, rfl, rfl, ⟨h1, h2, h3, h4, h5⟩, q⟩ := h
  obtain ⟨t, rfl⟩ := rx
  obtain ⟨t', rfl⟩ := ry
  exact PySem.SB.mul (mulOk_of L N h1 h2 h3 h4 h5) fun t' k' => ⟨.str (Txt.mul z k), H, I.tok _, ⟨_, rfl⟩, q⟩
/-! ### what evaluates to what -/
section
variable {K : PySem.W.Frag} {σ : L2.St} {H H' : Hp} {ta tb te tx : TE} {t u : TT} {x y z v : V} {r : R2}
theorem rv_addS {a b : Str} (h : a.length + b.length ≤ 100000) : RV (fun x y H Q => ∃ i j, x = .str i ∧ y = .str j ∧ i.length + j.length ≤ sizeLine ∧ Q (.str (i ++ j)) H) (.str a) (.str b) H (.str (a ++ b)) :=
  fun H1 _ _ q => ⟨a, b, rfl, rfl, sz_of h, q H1 (Ex.refl H1)⟩
theorem rv_mulS {a : Str} {k : Int} {L N : Nat} (h : a.length ≤ L) (hk : k ≤ (N : Int)) (h0 : 0 ≤ k) (hN : N ≤ 100000) (hL : L * N ≤ 100000) : RV rMulS (.str a) (.int k) H (.str (Txt.mul a k)) :=
  fun H1 _ _ q => ⟨a, k, L, N, rfl, rfl, ⟨h, hk, by omega, by omega, by omega⟩, q H1 (Ex.refl H1)⟩
def rLenStr : List V → Hp → VK → Prop := fun xs H Q => ∃ z, xs = [.str z] ∧ z.length ≤ sizeLine ∧ Q (.int z.length) H
theorem rc_lenS {a : Str} (h : a.length ≤ 16000000) : RC (fun xs H Q => ∃ z, xs = [.str z] ∧ z.length ≤ sizeLine ∧ Q (.int z.length) H) [.str a] H (.int a.length) := fun H1 _ _ q => ⟨a, rfl, Nat.le_trans h (by rw [sizeLine_eq]; decide), q H1 (Ex.refl H1)⟩
theorem rc_intB {b : Bool} : RC (fun xs H Q => (∃ i, xs = [.int i] ∧ Q (.int i) H) ∨ ∃ k, xs = [.bl k] ∧ Q (.int (if k then 1 else 0)) H) [.bl b] H (.int (if b = true then 1 else 0)) := fun H1 _ _ q => .inr ⟨b, rfl, q H1 (Ex.refl H1)⟩
theorem rc_lenL {p : Addr} {xs : List V} (h : SqL K H p xs) : RC (fun xs H Q => ∃ p ys, xs = [.ref p] ∧ (SqL K H p ys ∨ SqT K H p ys) ∧ Q (.int ys.length) H) [.ref p] H (.int xs.length) := fun H1 e _ q => ⟨p, xs, rfl, .inl (ex_l e h), q H1 (Ex.refl H1)⟩
theorem rc_isi {x c : V} {t u : Value} {b : Bool} (hc : ClsV c u) (ty : ∀ H1, Ex H H1 → TyX K H1 x t) (k : PySem.W.kitOne K t u = some b) : RC (rIsi K) [x, c] H (.bl b) := fun H1 e _ q => ⟨x, c, t, u, b, rfl, hc, ty H1 e, k, q H1 (Ex.refl H1)⟩
theorem rc_isStr {a : Str} : RC (rIsi K) [.str a, .ty "str"] H (.bl true) := rc_isi (.ty _) (fun _ _ => .base (.str a)) (kit_ty (by decide +kernel))
theorem tyx_list {p : Addr} {xs : List V} (h : SqL K H p xs) : TyX K H (.ref p) (.type "list") := by
  rcases h with (h | ⟨o, h⟩) | ⟨o, vs, n, hk, hc, _⟩
  · exact .base (.lst h)
  · exact .base (.frz h)
  · exact .kList hk hc
theorem rc_isList {p : Addr} {xs : List V} (h : SqL K H p xs) : RC (rIsi K) [.ref p, .ty "list"] H (.bl true) := rc_isi (.ty _) (fun _ e => tyx_list (ex_l e h)) (kit_ty (by decide +kernel))
theorem rv_isB {a b : Bool} : RV rIsB (.bl a) (.bl b) H (.bl (decide (a = b))) := fun H1 _ _ q => ⟨a, b, rfl, rfl, q H1 (Ex.refl H1)⟩
theorem rv_isN : RV rIsN x .non H (.bl (decide (x = .non))) := fun H1 _ _ q => ⟨rfl, q H1 (Ex.refl H1)⟩
theorem rv_notN : RV rNotN x .non H (.bl (!decide (x = .non))) := fun H1 _ _ q => ⟨rfl, q H1 (Ex.refl H1)⟩
theorem rv_add {i j : Int} : RV (rI0 fun i j => .int (i + j)) (.int i) (.int j) H (.int (i + j)) := rv_I0
/-- data equal, by values -/
theorem rv_eqD {d e : PyData} (hd : ∀ H1, Ex H H1 → Dp K H1 x d) (he : ∀ H1, Ex H H1 → Dp K H1 y e) (sd : SeqAt.shaped d = true) (se : SeqAt.shaped e = true) : RV (rEqD K) x y H (.bl (PyData.eqv d e)) :=
  fun H1 e1 _ q => ⟨d, e, hd H1 e1, he H1 e1, sd, se, q H1 (Ex.refl H1)⟩
theorem rv_neD {d e : PyData} (hd : ∀ H1, Ex H H1 → Dp K H1 x d) (he : ∀ H1, Ex H H1 → Dp K H1 y e) (sd : SeqAt.shaped d = true) (se : SeqAt.shaped e = true) : RV (rNeD K) x y H (.bl (!PyData.eqv d e)) :=
  fun H1 e1 _ q => ⟨d, e, hd H1 e1, he H1 e1, sd, se, q H1 (Ex.refl H1)⟩
theorem dpAll_strs : ∀ l : List Str, DpAll K H (l.map V.str) (l.map PyData.str)
  | [] => .nil
  | a :: r => .cons (.str a) (dpAll_strs r)
theorem dpAll_ints : ∀ l : List Int, DpAll K H (l.map V.int) (l.map PyData.int)
  | [] => .nil
  | a :: r => .cons (.int a) (dpAll_ints r)
theorem dp_strs {p : Addr} {l : List Str} (h : SqL K H p (l.map V.str)) : Dp K H (.ref p) (.list (l.map PyData.str)) := .lst h (dpAll_strs l)
theorem dp_ints {p : Addr} {l : List Int} (h : SqL K H p (l.map V.int)) : Dp K H (.ref p) (.list (l.map PyData.int)) := .lst h (dpAll_ints l)
/-- split() -/
theorem el_words {a : Str} (h : Ev te σ H (.str a)) (hl : a.length ≤ 90000) : EvL (tM0 (fun x xs H Q => ∃ a, x = .str a ∧ xs = [] ∧ a.length + 2 ≤ sizeLine ∧ rNewStrs (Txt.words a) H Q) te) σ H ((Txt.words a).map V.str) :=
  fun H1 e Q q => h H1 e _ fun H2 e2 => ⟨⟨a, rfl⟩, a, rfl, rfl, sz_of (by omega), fun p hp => q p _ (fresh_back e2 hp) (e2.trans (Ex.new hp)) upd_same⟩
/-- join -/
theorem ev_join {a : Str} {p : Addr} {ys : List Str} (h : Ev ta σ H (.str a)) (hb : Ev tb σ H (.ref p)) (hp : SqL K H p (ys.map V.str)) (hz : (ys.map (·.length)).sum + ys.length * a.length ≤ 16777216) :
    Ev (tM1 (fun x xs H Q => ∃ a p, ∃ ys : List Str, x = .str a ∧ xs = [.ref p] ∧ (SqL K H p (ys.map V.str) ∨ SqT K H p (ys.map V.str)) ∧ (ys.map (·.length)).sum + ys.length * a.length ≤ 16777216 ∧ Q (.str (Txt.join a ys)) H) ta tb) σ H (.str (Txt.join a ys)) :=
  fun H1 e Q q => h H1 e _ fun H2 e2 => ⟨⟨a, rfl⟩, hb H2 (e.trans e2) _ fun H3 e3 => ⟨a, p, ys, rfl, rfl, .inl (ex_l ((e.trans e2).trans e3) hp), hz, q H3 (e2.trans e3)⟩⟩
theorem ev_joinL {a : Str} {ys : List Str} (h : Ev ta σ H (.str a)) (hb : EvL tb σ H (ys.map V.str)) (hz : (ys.map (·.length)).sum + ys.length * a.length ≤ 16777216) :
    Ev (tM1 (fun x xs H Q => ∃ a p, ∃ ys : List Str, x = .str a ∧ xs = [.ref p] ∧ (SqL K H p (ys.map V.str) ∨ SqT K H p (ys.map V.str)) ∧ (ys.map (·.length)).sum + ys.length * a.length ≤ 16777216 ∧ Q (.str (Txt.join a ys)) H) ta tb) σ H (.str (Txt.join a ys)) :=
  fun H1 e Q q => h H1 e _ fun H2 e2 => ⟨⟨a, rfl⟩, hb H2 (e.trans e2) _ fun p H3 _ e3 hp => ⟨a, p, ys, rfl, rfl, .inl (sq_of hp), hz, q H3 (e2.trans e3)⟩⟩
/-- a slice of a new list -/
theorem el_slN {tl th : TO} {xs : List V} {lo hi : Option Int} (h : EvL te σ H xs) (h1 : EvO tl σ H lo) (h2 : EvO th σ H hi) : EvL (tSl (rSlL K) te tl th) σ H (cutV xs lo hi) := fun H1 e _ q =>
  h H1 e _ fun p H2 _ e2 hp => h1 H2 (e.trans e2) _ fun H3 e3 => h2 H3 ((e.trans e2).trans e3) _ fun H4 e4 =>
    ⟨p, xs, rfl, sq_of (e4 _ _ (e3 _ _ hp)), fun q' hq => q q' _ (fresh_back ((e2.trans e3).trans e4) hq) (((e2.trans e3).trans e4).trans (Ex.new hq)) upd_same⟩
/-- a call whose arguments are told by what they give: any promise -/
theorem ev_callA {sp : Sp} {dvs : List V} {E : XK} {ta : TA} {P : List V → Hp → Prop} (h : ∀ H1, Ex H H1 → ∀ Q : List V → Hp → Prop, (∀ vs H2, Ex H1 H2 → P vs H2 → Q vs H2) → ta σ H1 Q)
    (hs : ∀ vs H1, Ex H H1 → P vs H1 → ∀ Q : VK, (∀ H2, Ex H1 H2 → Q z H2) → sp (vs ++ dvs) H1 Q E) : Ev (tCall sp dvs E ta) σ H z := fun H1 e Q q =>
  h H1 e _ fun vs H2 e2 hP => hs vs H2 (e.trans e2) hP Q fun H3 e3 => q H3 (e2.trans e3)
theorem el_callA {sp : Sp} {dvs xs : List V} {E : XK} {ta : TA} {P : List V → Hp → Prop} (h : ∀ H1, Ex H H1 → ∀ Q : List V → Hp → Prop, (∀ vs H2, Ex H1 H2 → P vs H2 → Q vs H2) → ta σ H1 Q)
    (hs : ∀ vs H1, Ex H H1 → P vs H1 → ∀ Q : VK, (∀ p H2, H1 p = none → Ex H1 H2 → H2 p = some (.lst xs) → Q (.ref p) H2) → sp (vs ++ dvs) H1 Q E) : EvL (tCall sp dvs E ta) σ H xs := fun H1 e Q q =>
  h H1 e _ fun vs H2 e2 hP => hs vs H2 (e.trans e2) hP Q fun p H3 hp e3 h3 => q p H3 (fresh_back e2 hp) (e2.trans e3) h3
/-- argument lists told by what they give -/
def ArgP (ta : TA) (σ : L2.St) (H : Hp) (P : List V → Hp → Prop) : Prop := ∀ H1, Ex H H1 → ∀ Q : List V → Hp → Prop, (∀ vs H2, Ex H1 H2 → P vs H2 → Q vs H2) → ta σ H1 Q
theorem ap_nil : ArgP tNil σ H (fun vs _ => vs = []) := fun H1 _ Q q => q [] H1 (Ex.refl H1) rfl
theorem ap_cons {tr : TA} {P : List V → Hp → Prop} (h : Ev te σ H v) (hr : ArgP tr σ H P) : ArgP (tCons te tr) σ H (fun vs H' => ∃ r, vs = v :: r ∧ P r H') := fun H1 e Q q =>
  h H1 e _ fun H2 e2 => hr H2 (e.trans e2) _ fun vs H3 e3 hP => q _ H3 (e2.trans e3) ⟨vs, rfl, hP⟩
theorem ap_consL {tr : TA} {P : List V → Hp → Prop} {xs : List V} (h : EvL te σ H xs) (hr : ArgP tr σ H P) (hmono : ∀ (vs : List V) (H1 H2 : Hp), True) : ArgP (tCons te tr) σ H (fun vs H' => ∃ p r, vs = .ref p :: r ∧ H' p = some (.lst xs) ∧ P r H') := fun H1 e Q q =>
  h H1 e _ fun p H2 _ e2 hp => hr H2 (e.trans e2) _ fun vs H3 e3 hP => q _ H3 (e2.trans e3) ⟨p, vs, rfl, e3 _ _ hp, hP⟩
end
/-! ### loops over a text -/
section
variable {K : PySem.W.Frag} {σ : L2.St} {H H' : Hp} {te : TE} {D : Ends} {tu tz : TS}
theorem s_forS {z : Str} {j : Nat} (h : Ev te σ H (.str z)) (Pv : Nat → L2.St → Hp → Prop) (h0 : ∀ H1, Ex H H1 → Pv 0 σ H1)
    (hs : ∀ (i c : Nat) σ' H', (TL.tl z)[i]? = some c → Pv i σ' H' → tu { D with nx := Pv (i + 1), ct := Pv (i + 1), bk := D.nx } (σ'.set j (some (.str ⟨#[c]⟩))) H')
    (hd : ∀ σ' H', Pv (TL.tl z).length σ' H' → D.nx σ' H') : tFor (iStr te) (gName j) tu D σ H :=
  h H (Ex.refl H) _ fun H1 e => ⟨z, rfl, for_it walk_str Pv (h0 H1 e) (fun _ _ _ _ _ => trivial) (fun i x σ' H' H'' hi p y => by
    obtain ⟨rfl, c, hc, rfl⟩ := y
    exact hs i c σ' _ (by rw [show (TL.tl z)[i]? = z.cps[i]? from Array.getElem?_toList]; exact hc) p) (fun σ' H' p => hd σ' H' (by
    have e : (TL.tl z).length = z.cps.size := Array.length_toList
    rw [e]
    exact p))⟩
theorem q_forS {z : Str} {j : Nat} (h : Ev te σ H (.str z)) (Pv : Nat → L2.St → Hp → Prop) (h0 : ∀ H1, Ex H H1 → Pv 0 σ H1)
    (hs : ∀ (i c : Nat) σ' H', (TL.tl z)[i]? = some c → Pv i σ' H' → tu { D with nx := Pv (i + 1), ct := Pv (i + 1), bk := tz D } (σ'.set j (some (.str ⟨#[c]⟩))) H')
    (hd : ∀ σ' H', Pv (TL.tl z).length σ' H' → tz D σ' H') : tSeq (tFor (iStr te) (gName j) tu) tz D σ H := s_forS (D := { D with nx := tz D }) h Pv h0 hs hd
end
/-! ### the signs of words -/
/-- from ! to ~, but the percent sign -/
def sgnL : List Nat := List.range' 33 4 ++ List.range' 38 89
theorem sgnL_len : sgnL.length = 93 := by decide +kernel
/-- a sign of a word -/
def Ws (c : Nat) : Prop := 33 ≤ c ∧ c ≤ 126
instance (c : Nat) : Decidable (Ws c) := inferInstanceAs (Decidable (_ ∧ _))
theorem sgnL_ws : ∀ c ∈ sgnL, Ws c := by decide +kernel
/-- a sign of a text -/
def Ts (c : Nat) : Prop := c = 32 ∨ c = 10 ∨ Ws c
instance (c : Nat) : Decidable (Ts c) := inferInstanceAs (Decidable (_ ∨ _))
def sgn (c : Int) : Nat := sgnL.getD (c % 93).toNat 33
theorem sgn_ws (c : Int) : Ws (sgn c) := by
  unfold sgn
  rw [List.getD_eq_getElem?_getD]
  cases h : sgnL[(c % 93).toNat]? with
  | none => exact ⟨by decide, by decide⟩
  | some x => exact sgnL_ws x (List.mem_of_getElem? h)
theorem at_sgn (c : Int) : atI sgnL (c % 93) = some (sgn c) := by
  have h0 : 0 ≤ c % 93 := Int.emod_nonneg c (by decide)
  have h1 : c % 93 < 93 := Int.emod_lt_of_pos c (by decide)
  have hl : (c % 93).toNat < sgnL.length := by rw [sgnL_len]; omega
  have e : c % 93 = ((c % 93).toNat : Int) := by omega
  rw [e]
  refine atI_nat ?_
  unfold sgn
  rw [List.getD_eq_getElem?_getD, List.getElem?_eq_getElem hl] <;> rfl
theorem space_ws : ∀ c, Ws c → Unicode.isSpace c = false := by
  have h : ∀ c < 127, 33 ≤ c → Unicode.isSpace c = false := by decide +kernel
  exact fun c hc => h c (by have := hc.2; omega) hc.1
theorem space_32 : Unicode.isSpace 32 = true := by decide +kernel
theorem space_10 : Unicode.isSpace 10 = true := by decide +kernel
/-! ### lists of texts, of ints, compared -/
theorem strOk_of {z : Str} (h : ∀ c ∈ TL.tl z, c < 1114112) : PyData.strOk z = true := by
  unfold PyData.strOk
  rw [← Array.all_toList, List.all_eq_true]
  exact fun c hc => decide_eq_true (h c hc)
theorem canLay_strs : ∀ {l : List Str}, (∀ z ∈ l, ∀ c ∈ TL.tl z, c < 1114112) → PyData.canLayAll0 (l.map PyData.str) = true
  | [], _ => by simp [PyData.canLayAll0]
  | z :: r, h => by
    rw [List.map_cons, PyData.canLayAll0, PyData.canLay0, strOk_of (h z (List.mem_cons_self ..)), canLay_strs fun y hy => h y (List.mem_cons_of_mem _ hy)] <;> rfl
theorem depth_strs : ∀ l : List Str, PyData.depthAll (l.map PyData.str) = 0
  | [] => by simp [PyData.depthAll]
  | z :: r => by
    rw [List.map_cons, PyData.depthAll, depth_strs r, PyData.depth] <;> rfl
theorem shaped_strs {l : List Str} (h : ∀ z ∈ l, ∀ c ∈ TL.tl z, c < 1114112) : SeqAt.shaped (.list (l.map PyData.str)) = true := by
  unfold SeqAt.shaped
  rw [PyData.canLay0, canLay_strs h, PyData.depth, depth_strs] <;> rfl
theorem eqv_strs : ∀ l m : List Str, PyData.eqvAll (l.map PyData.str) (m.map PyData.str) = decide (l = m)
  | [], [] => by simp [PyData.eqvAll]
  | [], _ :: _ => by simp [PyData.eqvAll]
  | _ :: _, [] => by simp [PyData.eqvAll]
  | x :: l, y :: m => by
    rw [List.map_cons, List.map_cons, PyData.eqvAll, PyData.eqv, eqv_strs l m]
    rw [Bool.eq_iff_iff]
    simp
theorem eqv_lstrs (l m : List Str) : PyData.eqv (.list (l.map PyData.str)) (.list (m.map PyData.str)) = decide (l = m) := by
  rw [PyData.eqv]
  exact eqv_strs l m
theorem canLay_ints : ∀ l : List Int, PyData.canLayAll0 (l.map PyData.int) = true
  | [] => by simp [PyData.canLayAll0]
  | z :: r => by
    rw [List.map_cons, PyData.canLayAll0, PyData.canLay0, canLay_ints r] <;> rfl
theorem depth_ints : ∀ l : List Int, PyData.depthAll (l.map PyData.int) = 0
  | [] => by simp [PyData.depthAll]
  | z :: r => by
    rw [List.map_cons, PyData.depthAll, depth_ints r, PyData.depth] <;> rfl
theorem shaped_ints (l : List Int) : SeqAt.shaped (.list (l.map PyData.int)) = true := by
  unfold SeqAt.shaped
  rw [PyData.canLay0, canLay_ints, PyData.depth, depth_ints] <;> rfl
theorem eqv_ints : ∀ l m : List Int, PyData.eqvAll (l.map PyData.int) (m.map PyData.int) = decide (l = m)
  | [], [] => by simp [PyData.eqvAll]
  | [], _ :: _ => by simp [PyData.eqvAll]
  | _ :: _, [] => by simp [PyData.eqvAll]
  | x :: l, y :: m => by
    rw [List.map_cons, List.map_cons, PyData.eqvAll, PyData.eqv, eqv_ints l m]
    rw [Bool.eq_iff_iff]
    simp
theorem eqv_lints (l m : List Int) : PyData.eqv (.list (l.map PyData.int)) (.list (m.map PyData.int)) = decide (l = m) := by
  rw [PyData.eqv]
  exact eqv_ints l m
section
variable {K : PySem.W.Frag} {σ : L2.St} {H H' : Hp} {ta tb te tx : TE}
theorem rv_eqS {p q : Addr} {l m : List Str} (hp : SqL K H p (l.map V.str)) (hq : SqL K H q (m.map V.str)) (hl : ∀ z ∈ l, ∀ c ∈ TL.tl z, c < 1114112) (hm : ∀ z ∈ m, ∀ c ∈ TL.tl z, c < 1114112) : RV (rEqD K) (.ref p) (.ref q) H (.bl (decide (l = m))) := by
  rw [← eqv_lstrs]
  exact rv_eqD (fun H1 e => dp_strs (ex_l e hp)) (fun H1 e => dp_strs (ex_l e hq)) (shaped_strs hl) (shaped_strs hm)
theorem rv_neS {p q : Addr} {l m : List Str} (hp : SqL K H p (l.map V.str)) (hq : SqL K H q (m.map V.str)) (hl : ∀ z ∈ l, ∀ c ∈ TL.tl z, c < 1114112) (hm : ∀ z ∈ m, ∀ c ∈ TL.tl z, c < 1114112) : RV (rNeD K) (.ref p) (.ref q) H (.bl (!decide (l = m))) := by
  rw [← eqv_lstrs]
  exact rv_neD (fun H1 e => dp_strs (ex_l e hp)) (fun H1 e => dp_strs (ex_l e hq)) (shaped_strs hl) (shaped_strs hm)
theorem rv_eqI {p q : Addr} {l m : List Int} (hp : SqL K H p (l.map V.int)) (hq : SqL K H q (m.map V.int)) : RV (rEqD K) (.ref p) (.ref q) H (.bl (decide (l = m))) := by
  rw [← eqv_lints]
  exact rv_eqD (fun H1 e => dp_ints (ex_l e hp)) (fun H1 e => dp_ints (ex_l e hq)) (shaped_ints _) (shaped_ints _)
theorem rv_neI {p q : Addr} {l m : List Int} (hp : SqL K H p (l.map V.int)) (hq : SqL K H q (m.map V.int)) : RV (rNeD K) (.ref p) (.ref q) H (.bl (!decide (l = m))) := by
  rw [← eqv_lints]
  exact rv_neD (fun H1 e => dp_ints (ex_l e hp)) (fun H1 e => dp_ints (ex_l e hq)) (shaped_ints _) (shaped_ints _)
end
/-- the texts of the law -/
def Txs (z : Str) : Prop := ∀ c ∈ TL.tl z, Ts c
theorem Ts.lt {c : Nat} (h : Ts c) : c < 1114112 := by
  rcases h with h | h | ⟨h, h2⟩ <;> omega
theorem Txs.lt {z : Str} (h : Txs z) : ∀ c ∈ TL.tl z, c < 1114112 := fun c hc => (h c hc).lt
theorem Txs.app {x y : Str} (h : Txs x) (k : Txs y) : Txs (x ++ y) := fun c hc => by
  rw [TL.tl_append] at hc
  rcases List.mem_append.mp hc with hc | hc
  · exact h c hc
  · exact k c hc
theorem len_app (x y : Str) : (x ++ y).length = x.length + y.length := by
  rw [TL.len_tl, TL.len_tl, TL.len_tl, TL.tl_append, List.length_append]
theorem tl_one (c : Nat) : TL.tl ⟨#[c]⟩ = [c] := rfl
theorem txs_one {c : Nat} (h : Ts c) : Txs ⟨#[c]⟩ := fun d hd => by
  rw [tl_one] at hd
  rw [List.mem_singleton.mp hd]
  exact h
theorem blank_eq : Str.ofString " " = ⟨#[32]⟩ := by decide +kernel
theorem lf_eq : Str.ofString "\n" = ⟨#[10]⟩ := by decide +kernel
theorem none_eq : Str.ofString "" = Str.empty := by decide +kernel
section
variable {σ : L2.St} {H : Hp}
theorem ev_blank : Ev (tC (.str (Str.ofString " "))) σ H (.str ⟨#[32]⟩) := ev_is ev_c (congrArg V.str blank_eq)
theorem ev_lf : Ev (tC (.str (Str.ofString "\n"))) σ H (.str ⟨#[10]⟩) := ev_is ev_c (congrArg V.str lf_eq)
theorem ev_none : Ev (tC (.str (Str.ofString ""))) σ H (.str Str.empty) := ev_is ev_c (congrArg V.str none_eq)
end
/-! ### the words of a text -/
theorem step_fst {ws : List Str} {u : Str} {c : Nat} : (KWd.step (ws, u) c).1.length ≤ ws.length + 1 ∧ (KWd.step (ws, u) c).2.length ≤ u.length + 1 := by
  unfold KWd.step
  split
  · split
    · exact ⟨Nat.le_succ _, Nat.le_succ _⟩
    · exact ⟨by rw [List.length_append] <;> exact Nat.le_refl _, Nat.zero_le _⟩
  · exact ⟨Nat.le_succ _, by rw [len_app] <;> exact Nat.le_refl _⟩
/-- what the fold keeps of words: no more signs than were read, each a sign of the text that is no blank -/
structure Cut (n : Nat) (S : Nat → Prop) (st : KWd.St) : Prop where
  few : st.1.length ≤ n
  short : st.2.length ≤ n
  all : (st.1.map (·.length)).sum + st.2.length ≤ n
  ws : ∀ z ∈ st.1, z.length ≠ 0 ∧ ∀ c ∈ TL.tl z, S c ∧ Unicode.isSpace c = false
  us : ∀ c ∈ TL.tl st.2, S c ∧ Unicode.isSpace c = false
theorem Cut.zero {S : Nat → Prop} : Cut 0 S ([], Str.empty) := ⟨Nat.le_refl _, Nat.le_refl _, Nat.le_refl _, fun _ h => by simp at h, fun _ h => by simp [TL.tl, Str.empty] at h⟩
theorem Cut.step {n : Nat} {S : Nat → Prop} {st : KWd.St} (h : Cut n S st) {c : Nat} (hc : S c) : Cut (n + 1) S (KWd.step st c) := by
  obtain ⟨ws, u⟩ := st
  obtain ⟨h1, h2, h3, h4, h5⟩ := h
  simp only at h1 h2 h3 h4 h5
  unfold KWd.step
  split
  · split
    · exact ⟨by simp only; omega, by simp only; omega, by simp only; omega, h4, h5⟩
    · rename_i hs hu
      refine ⟨by simp only [List.length_append, List.length_singleton]; omega, Nat.zero_le _, ?_, fun z hz => ?_, fun d hd => by simp [TL.tl, Str.empty] at hd⟩
      · simp only [List.map_append, List.map_cons, List.map_nil, List.sum_append, List.sum_cons, List.sum_nil]
        show _ + (u.length + 0) + 0 ≤ _
        omega
      · rcases List.mem_append.mp hz with hz | hz
        · exact h4 z hz
        · rw [List.mem_singleton.mp hz]
          exact ⟨hu, h5⟩
  · rename_i hs
    refine ⟨by simp only; omega, ?_, ?_, h4, fun d hd => ?_⟩
    · simp only [len_app]
      show u.length + 1 ≤ n + 1
      omega
    · simp only [len_app]
      show _ + (u.length + 1) ≤ n + 1
      omega
    · simp only at hd
      rw [TL.tl_append, tl_one] at hd
      rcases List.mem_append.mp hd with hd | hd
      · exact h5 d hd
      · rw [List.mem_singleton.mp hd]
        exact ⟨hc, by cases e : Unicode.isSpace c <;> simp_all⟩
theorem cut_fold {S : Nat → Prop} : ∀ (l : List Nat) (n : Nat) (st : KWd.St), Cut n S st → (∀ c ∈ l, S c) → Cut (n + l.length) S (l.foldl KWd.step st)
  | [], _, _, h, _ => h
  | c :: r, n, st, h, hs => by
    rw [List.foldl_cons, List.length_cons, show n + (r.length + 1) = n + 1 + r.length by omega]
    exact cut_fold r (n + 1) _ (h.step (hs c (List.mem_cons_self ..))) fun d hd => hs d (List.mem_cons_of_mem _ hd)
/-- words of a text of the law: none empty, of signs of words alone, no more of them than signs -/
theorem words_ok {z : Str} (h : Txs z) : (Txt.words z).length ≤ z.length ∧ ((Txt.words z).map (·.length)).sum ≤ z.length ∧ ∀ y ∈ Txt.words z, y.length ≠ 0 ∧ ∀ c ∈ TL.tl y, Ws c := by
  have q := cut_fold (S := Ts) (TL.tl z) 0 ([], Str.empty) Cut.zero h
  rw [Nat.zero_add, ← TL.len_tl] at q
  rw [KWd.words_scan]
  have hw : ∀ y : Str, (∀ c ∈ TL.tl y, Ts c ∧ Unicode.isSpace c = false) → ∀ c ∈ TL.tl y, Ws c := fun y hy c hc => by
    obtain ⟨t, s⟩ := hy c hc
    rcases t with t | t | t
    · rw [t, space_32] at s; cases s
    · rw [t, space_10] at s; cases s
    · exact t
  unfold KWd.fin KWd.scan
  revert q
  generalize z.cps.toList.foldl KWd.step ([], Str.empty) = st
  intro q
  split
  · exact ⟨q.few, by have := q.all; omega, fun y hy => ⟨(q.ws y hy).1, hw y (q.ws y hy).2⟩⟩
  · rename_i hu
    refine ⟨?_, ?_, fun y hy => ?_⟩
    · rw [List.length_append]
      have h1 := q.all
      have h2 : st.1.length ≤ (st.1.map (·.length)).sum := by
        have h4 := q.ws
        revert h4
        generalize st.1 = l
        intro h4
        induction l with
        | nil => exact Nat.le_refl _
        | cons a r ih =>
          have ha := (h4 a (List.mem_cons_self ..)).1
          have hr := ih fun y hy => h4 y (List.mem_cons_of_mem _ hy)
          rw [List.map_cons, List.sum_cons, List.length_cons]
          omega
      show st.1.length + 1 ≤ _
      omega
    · rw [List.map_append, List.sum_append]
      have h1 := q.all
      show _ + (st.2.length + 0) ≤ _
      omega
    · rcases List.mem_append.mp hy with hy | hy
      · exact ⟨(q.ws y hy).1, hw y (q.ws y hy).2⟩
      · rw [List.mem_singleton.mp hy]
        exact ⟨hu, hw _ q.us⟩
theorem mul_txs {z : Str} (h : Txs z) (k : Int) : Txs (Txt.mul z k) := fun c hc => by
  unfold Txt.mul at hc
  split at hc
  · simp [TL.tl, Str.empty] at hc
  · split at hc
    · exact h c hc
    · have go : ∀ (n : Nat) (acc : Array Nat), (∀ d ∈ acc.toList, Ts d) → ∀ d ∈ ((List.replicate n z.cps).foldl (· ++ ·) acc).toList, Ts d := by
        intro n
        induction n with
        | zero => exact fun acc ha => ha
        | succ n ih =>
          intro acc ha
          rw [List.replicate_succ, List.foldl_cons]
          refine ih _ fun d hd => ?_
          rw [Array.toList_append] at hd
          rcases List.mem_append.mp hd with hd | hd
          · exact ha d hd
          · exact h d hd
      exact go _ _ (fun d hd => by simp at hd) c hc
/-! ### a list of lists of texts, made behind H0 -/
def LLs (H0 H : Hp) (l : Addr) (ex : List Addr) (pss : List (List Str)) : Prop := H0 l = none ∧ ∃ ps : List (Addr × List Str), pss = ps.map (·.2) ∧ H l = some (.lst (ps.map fun x => V.ref x.1)) ∧ (l :: ps.map (·.1)).Nodup ∧
  (∀ x ∈ ps, H0 x.1 = none ∧ H x.1 = some (.lst (x.2.map V.str))) ∧ ∀ b ∈ ex, b ≠ l ∧ ∀ x ∈ ps, b ≠ x.1
theorem LLs.mono {H0 H H' : Hp} {l : Addr} {ex : List Addr} {pss : List (List Str)} (h : LLs H0 H l ex pss) (e : Ex H H') : LLs H0 H' l ex pss := by
  obtain ⟨h0, ps, h1, h2, h3, h4, h5⟩ := h
  exact ⟨h0, ps, h1, e _ _ h2, h3, fun x hx => ⟨(h4 x hx).1, e _ _ (h4 x hx).2⟩, h5⟩
/-- an address of ex is written -/
theorem LLs.other {H0 H : Hp} {l b : Addr} {ex : List Addr} {pss : List (List Str)} {o : HO} (h : LLs H0 H l ex pss) (hb : b ∈ ex) : LLs H0 (upd H b o) l ex pss := by
  obtain ⟨h0, ps, h1, h2, h3, h4, h5⟩ := h
  refine ⟨h0, ps, h1, ?_, h3, fun x hx => ⟨(h4 x hx).1, ?_⟩, h5⟩
  · rw [upd_ne (h5 b hb).1.symm]
    exact h2
  · rw [upd_ne ((h5 b hb).2 x hx).symm]
    exact (h4 x hx).2
/-- a new list q, laid behind Hb, is put behind -/
theorem LLs.push {H0 Hb H : Hp} {l q : Addr} {ex : List Addr} {pss : List (List Str)} {w : List Str} (h : LLs H0 Hb l ex pss) (hq : Hb q = none) (e : Ex Hb H) (e0 : Ex H0 Hb) (hw : H q = some (.lst (w.map V.str))) (hex : ∀ b ∈ ex, Hb b ≠ none) :
    ∃ vs, H l = some (.lst vs) ∧ vs.length = pss.length ∧ LLs H0 (upd H l (.lst (vs ++ [V.ref q]))) l ex (pss ++ [w]) := by
  obtain ⟨h0, ps, h1, h2, h3, h4, h5⟩ := h
  have nql : q ≠ l := fun z => by rw [z, h2] at hq; cases hq
  have nqp : ∀ x ∈ ps, x.1 ≠ q := fun x hx z => by rw [← z, (h4 x hx).2] at hq; cases hq
  have nlp : ∀ x ∈ ps, x.1 ≠ l := fun x hx z => (List.nodup_cons.mp h3).1 (by rw [← z]; exact List.mem_map_of_mem hx)
  refine ⟨_, e _ _ h2, by rw [h1, List.length_map, List.length_map], h0, ps ++ [(q, w)], by rw [h1, List.map_append] <;> rfl, by rw [upd_same, List.map_append] <;> rfl, ?_, fun x hx => ?_, fun b hb => ⟨(h5 b hb).1, fun x hx => ?_⟩⟩
  · rw [List.map_append, ← List.cons_append]
    refine List.nodup_append.mpr ⟨h3, by simp, fun a ha b hb => ?_⟩
    rw [List.map_cons, List.map_nil, List.mem_singleton] at hb
    rw [hb]
    rcases List.mem_cons.mp ha with ha | ha
    · rw [ha]
      exact nql.symm
    · obtain ⟨x, hx, rfl⟩ := List.mem_map.mp ha
      exact nqp x hx
  · rcases List.mem_append.mp hx with hx | hx
    · rw [upd_ne (nlp x hx)]
      exact ⟨(h4 x hx).1, e _ _ (h4 x hx).2⟩
    · rw [List.mem_singleton.mp hx, upd_ne nql]
      exact ⟨fresh_back e0 hq, hw⟩
  · rcases List.mem_append.mp hx with hx | hx
    · exact (h5 b hb).2 x hx
    · rw [List.mem_singleton.mp hx]
      exact fun z => hex b hb (by rw [z]; exact hq)
/-- the last one -/
theorem LLs.last {H0 H : Hp} {l : Addr} {ex : List Addr} {pss : List (List Str)} (h : LLs H0 H l ex pss) (hn : pss ≠ []) :
    ∃ vs p xs, H l = some (.lst vs) ∧ atI vs (-1) = some (.ref p) ∧ H p = some (.lst (xs.map V.str)) ∧ pss = pss.dropLast ++ [xs] ∧ H0 p = none ∧ (∀ b ∈ ex, b ≠ p) ∧
      ∀ H' ys, Ex H H' → LLs H0 (upd H' p (.lst (xs.map V.str ++ ys.map V.str))) l ex (pss.dropLast ++ [xs ++ ys]) := by
  obtain ⟨h0, ps, h1, h2, h3, h4, h5⟩ := h
  have hps : ps ≠ [] := fun z => hn (by rw [h1, z] <;> rfl)
  obtain ⟨r, x, rfl⟩ : ∃ r x, ps = r ++ [x] := ⟨_, _, (List.dropLast_concat_getLast hps).symm⟩
  have hx := h4 x (List.mem_append_right _ (List.mem_singleton.mpr rfl))
  have hdl : pss.dropLast = r.map (·.2) := by
    rw [h1, List.map_append]
    exact List.dropLast_concat
  have nxl : x.1 ≠ l := fun z => (List.nodup_cons.mp h3).1 (by rw [← z]; exact List.mem_map_of_mem (List.mem_append_right _ (List.mem_singleton.mpr rfl)))
  have nrx : ∀ y ∈ r, y.1 ≠ x.1 := fun y hy z => by
    have q := (List.nodup_cons.mp h3).2
    rw [List.map_append] at q
    exact (List.nodup_append.mp q).2.2 y.1 (List.mem_map_of_mem hy) x.1 (List.mem_singleton.mpr rfl) z
  refine ⟨_, x.1, x.2, h2, by rw [List.map_append]; exact atI_last _ _, hx.2, by rw [hdl, h1, List.map_append] <;> rfl, hx.1, fun b hb => (h5 b hb).2 x (List.mem_append_right _ (List.mem_singleton.mpr rfl)), fun H' ys e => ⟨h0, r ++ [(x.1, x.2 ++ ys)], ?_, ?_, ?_, fun y hy => ?_, fun b hb => ⟨(h5 b hb).1, fun y hy => ?_⟩⟩⟩
  · rw [hdl, List.map_append] <;> rfl
  · rw [upd_ne nxl.symm, e _ _ h2, List.map_append, List.map_append] <;> rfl
  · rw [List.map_append] at h3 ⊢
    exact h3
  · rcases List.mem_append.mp hy with hy | hy
    · rw [upd_ne (nrx y hy)]
      exact ⟨(h4 y (List.mem_append_left _ hy)).1, e _ _ (h4 y (List.mem_append_left _ hy)).2⟩
    · rw [List.mem_singleton.mp hy]
      refine ⟨hx.1, ?_⟩
      rw [upd_same, List.map_append]
  · rcases List.mem_append.mp hy with hy | hy
    · exact (h5 b hb).2 y (List.mem_append_left _ hy)
    · rw [List.mem_singleton.mp hy]
      exact (h5 b hb).2 x (List.mem_append_right _ (List.mem_singleton.mpr rfl))
/-- the k-th one -/
theorem LLs.at {H0 H : Hp} {l : Addr} {ex : List Addr} {pss : List (List Str)} (h : LLs H0 H l ex pss) {k : Nat} {xs : List Str} (hk : pss[k]? = some xs) :
    ∃ vs p, H l = some (.lst vs) ∧ vs.length = pss.length ∧ vs[k]? = some (.ref p) ∧ H p = some (.lst (xs.map V.str)) := by
  obtain ⟨h0, ps, h1, h2, h3, h4, h5⟩ := h
  rw [h1, List.getElem?_map] at hk
  obtain ⟨x, hx, rfl⟩ := Option.map_eq_some_iff.mp hk
  exact ⟨_, x.1, h2, by rw [h1, List.length_map, List.length_map], by rw [List.getElem?_map, hx] <;> rfl, (h4 x (List.mem_of_getElem? hx)).2⟩
theorem LLs.lst {H0 H : Hp} {l : Addr} {ex : List Addr} {pss : List (List Str)} (h : LLs H0 H l ex pss) : ∃ vs, H l = some (.lst vs) ∧ vs.length = pss.length := by
  obtain ⟨h0, ps, h1, h2, h3, h4, h5⟩ := h
  exact ⟨_, h2, by rw [h1, List.length_map, List.length_map]⟩
section
variable {K : PySem.W.Frag} {σ : L2.St} {H H' : Hp} {ta tb te tx : TE} {D : Ends} {tz : TS} {v : V}
theorem et_tru {p : Addr} {xs : List V} (h : Ev te σ H (.ref p)) (hs : SqL K H p xs) : EvT (fun σ H Q => te σ H fun x H' => ∃ k, TruV K x H' k ∧ Q k H') σ H (!xs.isEmpty) := fun H1 e _ q => h H1 e _ fun H2 e2 => ⟨_, .inl ⟨xs, ex_l (e.trans e2) hs, rfl⟩, q H2 e2⟩
theorem ev_notT {p : Addr} {xs : List V} (h : Ev te σ H (.ref p)) (hs : SqL K H p xs) : Ev (tNotT K te) σ H (.bl (!!xs.isEmpty)) := fun H1 e _ q => h H1 e _ fun H2 e2 => ⟨_, .inl ⟨xs, ex_l (e.trans e2) hs, rfl⟩, q H2 e2⟩
/-- xs.extend(ys) -/
theorem s_ext {l b : Addr} {xs zs : List V} (hl : H l = some (.lst xs)) (hb : H b = some (.lst zs)) (ha : Ev ta σ H (.ref l)) (h : Ev te σ H (.ref b)) (hz : xs.length + zs.length ≤ 100000) (k : ∀ H1, Ex H H1 → D.nx σ (upd H1 l (.lst (xs ++ zs)))) :
    tDrop (tBM K "list" rExtend ta (tCons te tNil)) D σ H := ha H (Ex.refl H) _ fun H1 e1 =>
  ⟨Or.inl ⟨rfl, xs, sq_of (e1 l _ hl)⟩, h H1 e1 _ fun H2 e2 => ⟨l, b, xs, zs, rfl, rfl, e2 l _ (e1 l _ hl), e2 b _ (e1 b _ hb), sz_of hz, k H2 (e1.trans e2)⟩⟩
/-- a text cut -/
theorem el_split {a b : Str} (ha : Ev ta σ H (.str a)) (hb : Ev tb σ H (.str b)) (h0 : (b.length == 0) = false) (hl : a.length ≤ 90000) :
    EvL (tM1 (fun x xs H Q => ∃ a b, x = .str a ∧ xs = [.str b] ∧ (b.length == 0) = false ∧ a.length + 2 ≤ sizeLine ∧ rNewStrs (Txt.split a b) H Q) ta tb) σ H ((Txt.split a b).map V.str) :=
  fun H1 e Q q => ha H1 e _ fun H2 e2 => ⟨⟨a, rfl⟩, hb H2 (e.trans e2) _ fun H3 e3 => ⟨a, b, rfl, rfl, h0, sz_of (by omega), fun p hp => q p _ (fresh_back (e2.trans e3) hp) ((e2.trans e3).trans (Ex.new hp)) upd_same⟩⟩
end
/-! ### joined, cut: signs and sizes -/
theorem joinL_mem (S : List Nat) : ∀ (ps : List (List Nat)) (c : Nat), c ∈ TL.joinL S ps → c ∈ S ∨ ∃ p ∈ ps, c ∈ p
  | [], _, h => absurd h (List.not_mem_nil)
  | [p], _, h => .inr ⟨p, List.mem_cons_self .., h⟩
  | p :: q :: r, c, h => by
    have h' : c ∈ p ++ (S ++ TL.joinL S (q :: r)) := h
    rcases List.mem_append.mp h' with h1 | h1
    · exact .inr ⟨p, List.mem_cons_self .., h1⟩
    · rcases List.mem_append.mp h1 with h2 | h2
      · exact .inl h2
      · rcases joinL_mem S (q :: r) c h2 with h3 | ⟨x, hx, h3⟩
        · exact .inl h3
        · exact .inr ⟨x, List.mem_cons_of_mem _ hx, h3⟩
theorem joinL_len (S : List Nat) : ∀ ps : List (List Nat), (TL.joinL S ps).length + (if ps = [] then 0 else S.length) = (ps.map List.length).sum + ps.length * S.length
  | [] => by simp [TL.joinL]
  | [p] => by simp [TL.joinL]
  | p :: q :: r => by
    have ih := joinL_len S (q :: r)
    rw [if_neg (by simp)] at ih
    show (p ++ (S ++ TL.joinL S (q :: r))).length + _ = _
    rw [if_neg (by simp), List.length_append, List.length_append, List.map_cons, List.sum_cons, List.length_cons, Nat.succ_mul]
    omega
theorem txs_join {y : Str} {ps : List Str} (hy : Txs y) (hp : ∀ p ∈ ps, Txs p) : Txs (Txt.join y ps) := fun c hc => by
  rw [TL.join_eq, TL.tl_join] at hc
  rcases joinL_mem _ _ c hc with h | ⟨p, h, h2⟩
  · exact hy c h
  · obtain ⟨z, hz, rfl⟩ := List.mem_map.mp h
    exact hp z hz c h2
theorem len_join (y : Str) (ps : List Str) : (Txt.join y ps).length + (if ps = [] then 0 else y.length) = (ps.map (·.length)).sum + ps.length * y.length := by
  have h := joinL_len (TL.tl y) (ps.map TL.tl)
  rw [← TL.tl_join, ← TL.join_eq, ← TL.len_tl, ← TL.len_tl, List.length_map, List.map_map] at h
  have e : (List.length ∘ TL.tl) = fun z : Str => z.length := by
    funext z
    exact (TL.len_tl z).symm
  rw [e] at h
  rw [← h]
  cases ps <;> simp
theorem len_join0 (ps : List Str) : (Txt.join Str.empty ps).length = (ps.map (·.length)).sum := by
  have h := len_join Str.empty ps
  rw [show Str.empty.length = 0 from rfl, Nat.mul_zero] at h
  cases ps <;> simp at h ⊢ <;> omega
theorem txs_empty : Txs Str.empty := fun c hc => by simp [TL.tl, Str.empty] at hc
/-- a text cut at the line ends -/
theorem spl_len : ∀ (l acc : List Nat), ((TL.spl [10] 0 acc l).map List.length).sum + (TL.spl [10] 0 acc l).length = acc.length + l.length + 1
  | [], acc => by rw [TL.spl_nil]; simp
  | c :: l, acc => by
    by_cases hc : c = 10
    · have e : TL.spl [10] 0 acc (c :: l) = acc :: TL.spl [10] 0 [] l := TL.spl_hit (by rw [hc]; rfl)
      rw [e, List.map_cons, List.sum_cons, List.length_cons]
      have ih := spl_len l []
      rw [List.length_nil] at ih
      rw [List.length_cons]
      omega
    · rw [TL.spl_miss (by
        show (([c] : List Nat) == [10]) = false
        rw [beq_eq_false_iff_ne]
        exact fun q => hc (List.cons.inj q).1)]
      have ih := spl_len l (acc ++ [c])
      rw [List.length_append, List.length_singleton] at ih
      rw [List.length_cons]
      omega
theorem spl_mem : ∀ (l acc y : List Nat) (c : Nat), y ∈ TL.spl [10] 0 acc l → c ∈ y → c ∈ acc ∨ c ∈ l
  | [], acc, y, c, h, hc => by
    rw [TL.spl_nil] at h
    rw [List.mem_singleton.mp h] at hc
    exact .inl hc
  | d :: l, acc, y, c, h, hc => by
    by_cases hd : d = 10
    · rw [TL.spl_hit (by rw [hd]; rfl)] at h
      rcases List.mem_cons.mp h with h | h
      · rw [h] at hc
        exact .inl hc
      · rcases spl_mem l [] y c h hc with q | q
        · exact absurd q (List.not_mem_nil)
        · exact .inr (List.mem_cons_of_mem _ q)
    · rw [TL.spl_miss (by
        show (([d] : List Nat) == [10]) = false
        rw [beq_eq_false_iff_ne]
        exact fun q => hd (List.cons.inj q).1)] at h
      rcases spl_mem l (acc ++ [d]) y c h hc with q | q
      · rcases List.mem_append.mp q with q | q
        · exact .inl q
        · rw [List.mem_singleton.mp q]
          exact .inr (List.mem_cons_self ..)
      · exact .inr (List.mem_cons_of_mem _ q)
def lfS : Str := ⟨#[10]⟩
theorem split_rows (z : Str) : (Txt.split z lfS).map TL.tl = TL.spl [10] 0 [] (TL.tl z) := TL.split_spl z lfS (by decide) (TL.kind_ok (by decide +kernel))
theorem rows_len (z : Str) : ((Txt.split z lfS).map (·.length)).sum + (Txt.split z lfS).length = z.length + 1 := by
  have h := spl_len (TL.tl z) []
  rw [← split_rows, List.length_map, List.map_map] at h
  have e : (List.length ∘ TL.tl) = fun z : Str => z.length := by
    funext z
    exact (TL.len_tl z).symm
  rw [e, ← TL.len_tl, List.length_nil, Nat.zero_add] at h
  exact h
theorem rows_txs {z : Str} (h : Txs z) : ∀ y ∈ Txt.split z lfS, Txs y := fun y hy c hc => by
  have hm : TL.tl y ∈ TL.spl [10] 0 [] (TL.tl z) := by
    rw [← split_rows]
    exact List.mem_map_of_mem hy
  rcases spl_mem _ _ _ c hm hc with q | q
  · exact absurd q (List.not_mem_nil)
  · exact h c q
section
variable {K : PySem.W.Frag} {σ : L2.St} {H H' : Hp} {ta tb te tx : TE} {D : Ends} {tz : TS} {v : V}
theorem el_is {xs ys : List V} (h : EvL te σ H xs) (e : xs = ys) : EvL te σ H ys := by
  rw [← e]
  exact h
theorem given_all (n : Nat) (v : Nat → V) : given n (fun _ => true) v = (List.range n).map v := by
  unfold given
  rw [List.filter_eq_self.mpr fun _ _ => rfl]
theorem et_yes : EvT tYes σ H true := fun H1 _ _ q => q H1 (Ex.refl H1)
/-- [e for k in range(n)] -/
theorem el_lcR {ta : TA} {j : Nat} {vs : List Nat} {n : Int} (v : Nat → V) (h : EvA ta σ H [.int n]) (hn : 0 ≤ n ∧ n ≤ 40000) (hw : ∀ x, wipe ((wipe σ vs).set j (some x)) vs = wipe σ vs)
    (he : ∀ (i : Nat) H1, Ex H H1 → (i : Int) < n → Ev te ((wipe σ vs).set j (some (.int (i : Int)))) H1 (v i)) : EvL (tLc (iRng1 ta) (gName j) tYes te vs) σ H ((List.range n.toNat).map v) :=
  el_is (el_lcR1 (fun _ => true) v h hn hw (fun _ _ _ _ => et_yes) fun i H1 e hi _ => he i H1 e hi) (given_all _ _)
/-- [e for x in l] -/
theorem el_lcX {a : Addr} {xs : List V} {tl : TE} {j : Nat} {vs : List Nat} (v : Nat → V) (h : Ev tl σ H (.ref a)) (hx : SqL K H a xs) (hz : xs.length ≤ 40000) (hw : ∀ x, wipe ((wipe σ vs).set j (some x)) vs = wipe σ vs)
    (he : ∀ (i : Nat) (x : V) H1, Ex H H1 → xs[i]? = some x → Ev te ((wipe σ vs).set j (some x)) H1 (v i)) : EvL (tLc (iList K tl) (gName j) tYes te vs) σ H ((List.range xs.length).map v) :=
  el_is (el_lcL (fun _ => true) v h hx hz hw (fun _ _ _ _ _ => et_yes) fun i x H1 e hi _ => he i x H1 e hi) (given_all _ _)
end
section
variable {σ : L2.St} {H : Hp} {D : Ends} {tz : TS}
/-- x = f(..), the arguments told by what they give -/
theorem q_asgP {ta : TA} {sp : Sp} {dvs : List V} {E : XK} {i : Nat} {P : List V → Hp → Prop} (h : ArgP ta σ H P) (k : ∀ vs H1, Ex H H1 → P vs H1 → sp (vs ++ dvs) H1 (fun v H2 => tz D (σ.set i (some v)) H2) E) : tSeq (tAsg (tCall sp dvs E ta) (gName i)) tz D σ H := h H (Ex.refl H) _ k
/-- x = f(..), told by f's own promise -/
theorem q_asgA {ta : TA} {sp : Sp} {dvs vs : List V} {E : XK} {i : Nat} (h : EvA ta σ H vs) (k : ∀ H1, Ex H H1 → sp (vs ++ dvs) H1 (fun v H2 => tz D (σ.set i (some v)) H2) E) : tSeq (tAsg (tCall sp dvs E ta) (gName i)) tz D σ H := h H (Ex.refl H) _ k
end
theorem LLs.drop {H0 H : Hp} {l : Addr} {ex : List Addr} {pss : List (List Str)} (h : LLs H0 H l ex pss) : LLs H0 H l [] pss := by
  obtain ⟨h0, ps, h1, h2, h3, h4, h5⟩ := h
  exact ⟨h0, ps, h1, h2, h3, h4, fun b hb => absurd hb (List.not_mem_nil)⟩
theorem LLs.zero {H0 H : Hp} {l : Addr} {ex : List Addr} (h0 : H0 l = none) (h : H l = some (.lst [])) (hex : ∀ b ∈ ex, b ≠ l) : LLs H0 H l ex [] :=
  ⟨h0, [], rfl, h, by simp, fun x hx => absurd hx (List.not_mem_nil), fun b hb => ⟨hex b hb, fun x hx => absurd hx (List.not_mem_nil)⟩⟩
/-! ### enumerate, tuples, sums -/
section
variable {K : PySem.W.Frag} {σ : L2.St} {H H' : Hp} {ta tb te tx : TE} {D : Ends} {tu tz : TS} {v : V}
theorem s_forE {ta : TA} {a : Addr} {xs : List V} {j1 j2 : Nat} (h : EvA ta σ H [.ref a]) (hx : SqL K H a xs) (Pv : Nat → L2.St → Hp → Prop) (h0 : ∀ H1, Ex H H1 → Pv 0 σ H1) (hl : ∀ i σ' H', i ≤ xs.length → Pv i σ' H' → SqL K H' a xs)
    (hs : ∀ i x σ' H' H2, xs[i]? = some x → Pv i σ' H' → Ex H' H2 → tu { D with nx := Pv (i + 1), ct := Pv (i + 1), bk := D.nx } ((σ'.set j1 (some (.int (i : Int)))).set j2 (some x)) H2) (hd : ∀ σ' H', Pv xs.length σ' H' → D.nx σ' H') :
    tFor (iEnum K ta) (gTup K 2 (gCons (gName j1) (gCons (gName j2) gNil))) tu D σ H :=
  h H (Ex.refl H) _ fun H1 e => ⟨a, xs, rfl, ex_l e hx, for_it walk_enum Pv (h0 H1 e) hl (fun i x σ' H' H'' hi p y => by
    obtain ⟨T, x1, x2, rfl, hT, rfl, hx1, hx2⟩ := y
    cases hx1
    exact ⟨T, _, rfl, .inl (.inl upd_same), rfl, _, _, rfl, _, _, rfl, rfl, hs i x2 σ' H' _ hx2 p (Ex.new hT)⟩) hd⟩
theorem q_forE {ta : TA} {a : Addr} {xs : List V} {j1 j2 : Nat} (h : EvA ta σ H [.ref a]) (hx : SqL K H a xs) (Pv : Nat → L2.St → Hp → Prop) (h0 : ∀ H1, Ex H H1 → Pv 0 σ H1) (hl : ∀ i σ' H', i ≤ xs.length → Pv i σ' H' → SqL K H' a xs)
    (hs : ∀ i x σ' H' H2, xs[i]? = some x → Pv i σ' H' → Ex H' H2 → tu { D with nx := Pv (i + 1), ct := Pv (i + 1), bk := tz D } ((σ'.set j1 (some (.int (i : Int)))).set j2 (some x)) H2) (hd : ∀ σ' H', Pv xs.length σ' H' → tz D σ' H') :
    tSeq (tFor (iEnum K ta) (gTup K 2 (gCons (gName j1) (gCons (gName j2) gNil))) tu) tz D σ H := s_forE (D := { D with nx := tz D }) h hx Pv h0 hl hs hd
theorem el_cat {l : Addr} {xs ys : List V} (ha : Ev ta σ H (.ref l)) (hl : H l = some (.lst xs)) (hb : EvL tb σ H ys) (hz : xs.length + ys.length ≤ 100000) : EvL (tOp rCat ta tb) σ H (xs ++ ys) := fun H1 e Q q =>
  ha H1 e _ fun H2 e2 => hb H2 (e.trans e2) _ fun p H3 _ e3 hp => ⟨l, p, xs, ys, rfl, rfl, e3 _ _ (e2 _ _ (e _ _ hl)), hp, sz_of hz, fun r hr => q r _ (fresh_back (e2.trans e3) hr) ((e2.trans e3).trans (Ex.new hr)) upd_same⟩
theorem el_catN {xs ys : List V} (ha : EvL ta σ H xs) (hb : EvL tb σ H ys) (hz : xs.length + ys.length ≤ 100000) : EvL (tOp rCat ta tb) σ H (xs ++ ys) := fun H1 e Q q =>
  ha H1 e _ fun l H2 _ e2 hl => hb H2 (e.trans e2) _ fun p H3 _ e3 hp => ⟨l, p, xs, ys, rfl, rfl, e3 _ _ hl, hp, sz_of hz, fun r hr => q r _ (fresh_back (e2.trans e3) hr) ((e2.trans e3).trans (Ex.new hr)) upd_same⟩
theorem ev_sumN {ns : List Int} (h : EvL te σ H (ns.map V.int)) : Ev (tCB (rSum K) (tCons te tNil)) σ H (.int ns.sum) := fun H1 e Q q =>
  h H1 e _ fun p H2 _ e2 hp => ⟨p, ns, rfl, sq_of hp, q H2 e2⟩
theorem ev_maxx {i j : Int} (ha : Ev ta σ H (.int i)) (hb : Ev tb σ H (.int j)) : Ev (tCB (fun xs H Q => ∃ i j, xs = [.int i, .int j] ∧ Q (.int (if j > i then j else i)) H) (tCons ta (tCons tb tNil))) σ H (.int (max i j)) := by
  have e : max i j = if j > i then j else i := by
    by_cases h : j > i
    · rw [if_pos h]; omega
    · rw [if_neg h]; omega
  rw [e]
  exact ev_max2 ha hb
theorem rc_isInt {i : Int} : RC (rIsi K) [.int i, .ty "int"] H (.bl true) := rc_isi (.ty _) (fun _ _ => .base (.int i)) (kit_ty (by decide +kernel))
theorem rc_isIntB {i : Int} : RC (rIsi K) [.int i, .ty "bool"] H (.bl false) := rc_isi (.ty _) (fun _ _ => .base (.int i)) (kit_ty (by decide +kernel))
/-- f(..) alone, told by f's own promise -/
theorem q_dropA {ta : TA} {sp : Sp} {dvs vs : List V} {E : XK} (h : EvA ta σ H vs) (k : ∀ H1, Ex H H1 → sp (vs ++ dvs) H1 (fun _ H2 => tz D σ H2) E) : tSeq (tDrop (tCall sp dvs E ta)) tz D σ H := h H (Ex.refl H) _ k
theorem s_dropA {ta : TA} {sp : Sp} {dvs vs : List V} {E : XK} (h : EvA ta σ H vs) (k : ∀ H1, Ex H H1 → sp (vs ++ dvs) H1 (fun _ H2 => D.nx σ H2) E) : tDrop (tCall sp dvs E ta) D σ H := h H (Ex.refl H) _ k
/-- a list made anew of another -/
theorem el_listOf {p : Addr} {xs : List V} (ha : Ev ta σ H (.ref p)) (h : SqL K H p xs) : EvL (tCB (fun xs H Q => ∃ p ys, xs = [.ref p] ∧ (SqL K H p ys ∨ SqT K H p ys) ∧ ∀ l, H l = none → Q (.ref l) (upd H l (.lst ys))) (tCons ta tNil)) σ H xs := el_list ha h
end
/-! ### tuples made in a display, walked -/
section
variable {K : PySem.W.Frag} {σ : L2.St} {H H' : Hp} {D : Ends} {tu tz : TS}
/-- arguments that give new tuples -/
def ArgT (ta : TA) (σ : L2.St) (H : Hp) (pss : List (List V)) : Prop := ∀ H1, Ex H H1 → ∀ Q : List V → Hp → Prop, (∀ (as : List Addr) H2, Ex H1 H2 → as.length = pss.length → (∀ (i : Nat) (a : Addr) (xs : List V), as[i]? = some a → pss[i]? = some xs → H2 a = some (.tup xs)) → Q (as.map V.ref) H2) → ta σ H1 Q
theorem at_nil : ArgT tNil σ H [] := fun H1 _ Q q => q [] H1 (Ex.refl H1) rfl (fun i a xs h => by simp at h)
theorem at_cons {te : TE} {tr : TA} {xs : List V} {pss : List (List V)} (h : EvU te σ H xs) (hr : ArgT tr σ H pss) : ArgT (tCons te tr) σ H (xs :: pss) := fun H1 e Q q =>
  h H1 e _ fun p H2 _ e2 hp => hr H2 (e.trans e2) _ fun as H3 e3 hl ha => q (p :: as) H3 (e2.trans e3) (by rw [List.length_cons, List.length_cons, hl]) (fun i a ys h1 h2 => by
    cases i with
    | zero =>
      cases h1
      cases h2
      exact e3 _ _ hp
    | succ i => exact ha i a ys h1 h2)
theorem q_forTs {ta : TA} {j : Nat} {pss : List (List V)} (h : ArgT ta σ H pss) (hz : pss.length ≤ 100) (Pv : Hp → Nat → L2.St → Hp → Prop) (hE : ∀ B i σ' H', Pv B i σ' H' → Ex B H') (h0 : ∀ B, Ex H B → Pv B 0 σ B)
    (hs : ∀ B i a xs σ' H', pss[i]? = some xs → Pv B i σ' H' → H' a = some (.tup xs) → tu { D with nx := Pv B (i + 1), ct := Pv B (i + 1), bk := tz D } (σ'.set j (some (.ref a))) H') (hd : ∀ B σ' H', Pv B pss.length σ' H' → tz D σ' H') :
    tSeq (tFor (iList K (tLst ta)) (gName j) tu) tz D σ H := h H (Ex.refl H) _ fun as H1 e1 hl ha => by
  have hn : (as.map V.ref).length = pss.length := by rw [List.length_map, hl]
  refine ⟨by rw [hn]; exact sz_of (by omega), fun p hp => ⟨p, rfl, ⟨_, sq_of upd_same⟩, ?_⟩⟩
  have eB : Ex H (upd H1 p (.lst (as.map V.ref))) := e1.trans (Ex.new hp)
  refine for_list (K := K) (a := p) (xs := as.map V.ref) (D := { D with nx := tz D }) (Pv (upd H1 p (.lst (as.map V.ref)))) (h0 _ eB) (fun i σ' H' _ q => sq_of (hE _ _ _ _ q _ _ upd_same)) (fun i x σ' H' hi q => ?_) (fun σ' H' q => ?_)
  · rw [List.getElem?_map] at hi
    obtain ⟨a, hai, rfl⟩ := Option.map_eq_some_iff.mp hi
    have hil : i < pss.length := by
      have := (List.getElem?_eq_some_iff.mp hai).1
      omega
    have hxs : pss[i]? = some pss[i] := List.getElem?_eq_getElem hil
    have hta := ha i a _ hai hxs
    have nap : a ≠ p := fun z => by rw [z, hp] at hta; cases hta
    exact hs _ i a _ σ' H' hxs q (hE _ _ _ _ q _ _ (by rw [upd_ne nap]; exact hta))
  · rw [hn] at q
    exact hd _ σ' H' q
end
end Tw
set_option Elab.async false
set_option linter.all false
set_option maxRecDepth 100000
set_option maxHeartbeats 4000000
namespace Tw
open PySem PySem.Spec PyProof.Rows L2 L2H
/-! ### a list comprehension where an exception is handled -/
abbrev blkH (X : Cx) (s : Shared) (H : Hp) (scope : Scope) (cenv : Env) (fp : List Addr) : Cx := { X with s_0 := s, H_0 := H, env := cenv, outer := X.stack, ex := fp, fn := fun x => scope.names.lookup x == some .cell, xe := fun _ _ => False }
section
variable {X : Cx} {pins : List (Addr × Obj)} {σ : L2.St} {H : Hp} {s : Shared}
theorem inv_blkH {scope : Scope} {ce : Env} {fp : List Addr} {s3 s4 : Shared} {H3 : Hp} {σ4 : L2.St} (I3 : Inv X pins σ H3 s3) (hL : s3.heap.objs.size ≤ ce.locals) (hk : ∀ b o, s3.heap.get? b = some o → s4.heap.get? b = some o)
    (I4 : Inv (X.blk s3 H3 scope ce fp) [] σ4 H3 s4) : Inv (blkH X s3 H3 scope ce fp) [] σ4 H3 s4 := by
  have ok := I4.ok
  refine ⟨⟨ok.mod, ok.kind, ok.glob, ok.blt, ok.above, ok.inj, ok.has, ok.cab, ok.hd, ok.frames, ok.stk, ok.exf, ok.bs, ok.bsz, ok.noex, ok.exfs, ok.funs, ok.frf⟩, I4.os, I4.bare, I4.base, I4.loc, I4.cell, I4.free, I4.freeC, fun p hp => ?_, I4.hok, I4.len⟩
  have hp' : p ∈ X.pn := by
    rcases List.mem_append.mp hp with z | z
    · exact z
    · exact absurd z (List.not_mem_nil)
  obtain ⟨h1, h2, h3, h4, h5⟩ := I3.pin p (List.mem_append_left _ hp')
  refine ⟨hk _ _ h1, h2, Nat.ne_of_lt (Nat.lt_of_lt_of_le (Heap.lt_size h1) hL), fun z => ?_, h5⟩
  have z' : p.1 ∈ frs X.stack := z
  rcases I3.ok.stk with e | ⟨e, ef⟩
  · rw [e] at z'
    exact h4 z'
  · rw [e] at z'
    obtain ⟨q, hq, hf⟩ := List.mem_filterMap.mp z'
    rcases List.mem_cons.mp hq with hq | hq
    · rw [hq, ef] at hf
      exact h3 (Option.some.inj hf).symm
    · exact h4 (List.mem_filterMap.mpr ⟨q, hq, hf⟩)
theorem lcH_core {Q : VK} {elt tg iter : Expr} {ifs : List Expr} {scope : Scope} {own : List (Str × Nat)} {pos pos' : Pos} {wi : TI} {g : TG} {tt : TT} {te : TE} {use : Option (Value → Sem Unit)} {Qf : Value → Shared → Prop}
    (hc : HotC X) (hN : X.N.Nodup) (I : Inv X pins σ H s) (hi : PIH X tg iter wi) (ok : BlkOk X.N X.env.scope scope own)
    (hg : ∀ (s : Shared) (H : Hp) (C : Addr) (cl : List (Str × Addr)) (fp : List Addr), PG (blkH X s H scope (compEnvC scope cl C X.env) fp) tg g) (ht : ∀ (s : Shared) (H : Hp) (C : Addr) (cl : List (Str × Addr)) (fp : List Addr), PTs (blkH X s H scope (compEnvC scope cl C X.env) fp) ifs tt)
    (he : ∀ (s : Shared) (H : Hp) (C : Addr) (cl : List (Str × Addr)) (fp : List Addr), PE (blkH X s H scope (compEnvC scope cl C X.env) fp) elt te) (hs : ∀ x, foldedSetIterable iter X.env x = pure x)
    (h : tLc wi g tt te (own.map (·.2)) σ H Q)
    (hRR : ∀ D C s' m H', Inv X pins σ H' s' → Q (.ref D) H' → s'.heap.Ns C m → FpOk X pins H' C → compPost (model X.prog X.w) X.A X.xe use Qf (.ref D) C (.ok .next) s') :
    wpAny (model X.prog X.w) X.A (comprehension (.ListComp elt [⟨tg, iter, ifs, 0⟩] scope pos) scope X.env pos' (newList []) false (eval iter X.env) use) Qf X.xe s := by
  have hfree : ∀ y ∈ scope.names, y.2 = .free → ∃ c, X.env.cells.lookup y.1 = some c := fun y hy e => by
    rcases ok.free y hy e with k | k
    · exact I.ok.has _ (.inl k)
    · exact I.ok.has _ (.inr k)
  refine wpAny_comprehension_free (use := use) rfl hs (closure_ok hfree) ok.kind (fun y hy e => by rw [ok.uniq y hy, e])
    (thn (hi.run pins s σ H _ I h) fun xv s1 hx => thn hx fun itv s2 h2 => ?_)
  obtain ⟨it, fp, tn, J, H2, e, I2, T, st2, f2, q⟩ := h2
  subst e
  refine wpAny_newObj_type (newEnv_comp ?_) (by show 0 ≤ sizeLine; decide)
  generalize hD : s2.heap.objs.size = D
  have hDn : H2 D = none := I2.hok.fresh (Nat.le_of_eq hD)
  obtain ⟨W, ⟨m0, w0⟩, turn⟩ := q D hDn
  generalize hs3 : ({ s2 with heap := s2.heap.push { cls := .type "list", data := .seq ([] : List Value).toArray } } : Shared) = s3
  have I3 : Inv X pins σ (upd H2 D (.lst [])) s3 := by
    rw [← hs3]
    refine I2.laid (t' := s2.toks) (fun b o e => Heap.get?_push_of_some _ e) (Nat.le_of_eq hD) ⟨Nat.zero_le _, [], 0, .nil, ?_⟩
    rw [← hD]
    exact Heap.get?_push_size _ rfl
  have h3 : s3.heap = s2.heap.push { cls := .type "list", data := .seq ([] : List Value).toArray } := by rw [← hs3]
  have sz : ∀ b ∈ fp, b < s2.heap.objs.size := fun b hb => by
    obtain ⟨o, e, _⟩ := T.obj _ _ st2 b hb
    exact Heap.lt_size e
  have f3 : ∀ b ∈ fp, FpOk X pins (upd H2 D (.lst [])) b ∧ b < s3.heap.objs.size := fun b hb => by
    have hlt := sz b hb
    refine ⟨⟨?_, (f2 b hb).2⟩, by rw [h3, Heap.size_push]; exact Nat.lt_succ_of_lt hlt⟩
    rw [upd_ne (by rw [← hD]; exact Nat.ne_of_lt hlt)]
    exact (f2 b hb).1
  have st3 : tn 0 s3.heap := T.keep _ _ _ st2 fun b _ o e => by rw [h3]; exact Heap.get?_push_of_some _ e
  have I4 := block_start I3 ok hN f3
  have pg := hg s3 (upd H2 D (.lst [])) s3.heap.objs.size (cellsFrom (s3.heap.objs.size + 1) scope.names (cloFrom X.env.cells scope.names [])) fp
  have pt := ht s3 (upd H2 D (.lst [])) s3.heap.objs.size (cellsFrom (s3.heap.objs.size + 1) scope.names (cloFrom X.env.cells scope.names [])) fp
  have pe := he s3 (upd H2 D (.lst [])) s3.heap.objs.size (cellsFrom (s3.heap.objs.size + 1) scope.names (cloFrom X.env.cells scope.names [])) fp
  show codeAny _ _ (.compStart (.ListComp elt [⟨tg, iter, ifs, 0⟩] scope pos) 0 (.ref it) (.ref D) (compEnvC scope (cellsFrom (s3.heap.objs.size + 1) scope.names (cloFrom X.env.cells scope.names [])) s3.heap.objs.size X.env)) (compPost (model X.prog X.w) X.A X.xe use Qf (.ref D) s3.heap.objs.size) { s3 with heap := pushCells (s3.heap.push { cls := .type "dict", data := .dict #[] }) scope.names }
  have nfp : ∀ b ∈ fp, (upd H2 D (.lst [])) b = none := fun b hb => (f3 b hb).1.1
  have I4' := inv_blkH I3 (ce := compEnvC scope (cellsFrom (s3.heap.objs.size + 1) scope.names (cloFrom X.env.cells scope.names [])) s3.heap.objs.size X.env) (Nat.le_refl _) (fun b o e => pushCells_keeps _ _ _ _ (Heap.get?_push_of_some _ e)) I4
  clear I4
  have I4 := I4'
  clear I4'
  generalize hce : compEnvC scope (cellsFrom (s3.heap.objs.size + 1) scope.names (cloFrom X.env.cells scope.names [])) s3.heap.objs.size X.env = ce at I4 pg pt pe ⊢
  have cL : ce.locals = s3.heap.objs.size := by subst hce; rfl
  generalize hH3 : upd H2 D (.lst []) = H3 at I3 I4 pg pt pe w0 nfp f3
  generalize hs4 : ({ s3 with heap := pushCells (s3.heap.push { cls := .type "dict", data := .dict #[] }) scope.names } : Shared) = s4 at I4 ⊢
  have st4 : tn 0 s4.heap := T.keep _ _ _ st3 fun b _ o e => by rw [← hs4]; exact pushCells_keeps _ _ _ _ (Heap.get?_push_of_some _ e)
  have hcB : HotC (blkH X s3 H3 scope ce fp) := hc
  have stat : ∀ {σ' : L2.St} {H' : Hp} {s' : Shared}, Inv (blkH X s3 H3 scope ce fp) [] σ' H' s' → (∀ b ∈ fp, H' b = none) → ∀ b ∈ fp, FpOk (blkH X s3 H3 scope ce fp) [] H' b := fun {σ' H' s'} I' hn b hb =>
    ⟨hn b hb, (I'.ok.exf b hb).1, I'.ok.exfs b hb, .inl hb, fun x c e => (I'.ok.exf b hb).2 x c e, fun p hp => (f3 b hb).1.2.2.2.2.2 p (by
      rcases List.mem_append.mp hp with z | z
      · exact List.mem_append_left _ z
      · exact absurd z (List.not_mem_nil))⟩
  have loop : codeAny (model X.prog X.w) X.A (.compLoop (.ListComp elt [⟨tg, iter, ifs, 0⟩] scope pos) 0 (.ref it) (.ref D) ce) (compPost (model X.prog X.w) X.A X.xe use Qf (.ref D) s3.heap.objs.size) s4 := by
    refine compLoop_any (fun n s' => ∃ i H', Inv (blkH X s3 H3 scope ce fp) [] (wipe σ (own.map (·.2))) H' s' ∧ tn i s'.heap ∧ (∀ b ∈ fp, H' b = none) ∧ W i n H') ?_ m0 ⟨0, H3, I4, st4, nfp, w0⟩
    rintro n s5 ⟨i, H5, I5, st5, n5, w5⟩
    rcases turn i n H5 w5 with ⟨stop, qq⟩ | ⟨go, Nx, hNx, step⟩
    · have td := T.done (blkH X s3 H3 scope ce fp) rfl rfl rfl hcB i [] s5 _ H5 (fun _ _ => False) I5 (stat I5 n5) st5 stop
      refine thnF td fun r s6 ⟨hr, I6⟩ => ?_
      subst hr
      have I7 : Inv X pins σ H5 s6 := I3.call' (ch := fp) I6.os I6.base I6.hok I6.bare fun b hb => ⟨(f3 b hb).1.2.2.2.1, (f3 b hb).1.2.1, (f3 b hb).1.2.2.2.2.1, (f3 b hb).1.2.2.2.2.2⟩
      have nC : H5 s3.heap.objs.size = none := by
        have z : H5 ce.locals = none := I6.free
        rw [cL] at z
        exact z
      obtain ⟨m, hn, _⟩ := I6.loc
      have hn : s6.heap.Ns ce.locals m := hn
      rw [cL] at hn
      exact hRR D s3.heap.objs.size s6 m H5 I7 qq hn (I3.fpOk (Nat.le_refl _) nC)
    · have ti := T.item (blkH X s3 H3 scope ce fp) rfl rfl rfl hcB i [] s5 _ H5 (fun _ _ => False) I5 (stat I5 n5) st5 go
      refine thnF ti fun r s6 ⟨u, hr, h6⟩ => ?_
      subst hr
      refine thnF h6 fun _ s7 ⟨x, H7, I7, r7, y7, st7, n7⟩ => ?_
      have I7' := I7.pinned (stat I7 n7) (T.obj _ _ st7)
      refine thnF (pg.run _ s7 _ H7 x u _ I7' r7 (step x H7 y7)) fun _ s8 ⟨σ8, H8, I8, hw8, q8⟩ => ?_
      refine thnF (pt.run _ s8 σ8 H8 _ I8 q8) fun b s9 ⟨H9, I9, q9⟩ => ?_
      have fin : ∀ {s' : Shared} {H' : Hp}, Inv (blkH X s3 H3 scope ce fp) ([] ++ pinsAt fp s7.heap) σ8 H' s' → Nx H' → ∃ m, m < n ∧ ∃ i H', Inv (blkH X s3 H3 scope ce fp) [] (wipe σ (own.map (·.2))) H' s' ∧ tn i s'.heap ∧ (∀ b ∈ fp, H' b = none) ∧ W i m H' := fun {s' H'} I' nx => by
        obtain ⟨m', hm, w'⟩ := hNx H' nx
        have pin' : ∀ b ∈ fp, ∀ o, s7.heap.get? b = some o → s'.heap.get? b = some o ∧ H' b = none := fun b hb o e =>
          let z := I'.pin (b, o) (List.mem_append_right _ (List.mem_append_right _ (mem_pinsAt hb e)))
          ⟨z.1, z.2.1⟩
        have hl : (wipe σ (own.map (·.2))).length = σ8.length := by rw [← hw8, wipe_length]
        refine ⟨m', hm, i + 1, H', (I'.unpinned (pins := [])).weak hl (fun j v e => ?_), T.keep _ _ _ st7 fun b hb o e => (pin' b hb o e).1, fun b hb => ?_, w'⟩
        · rw [← hw8] at e
          exact (wipe_some e).1
        · obtain ⟨o, e, _⟩ := T.obj _ _ st7 b hb
          exact (pin' b hb o e).2
      cases b with
      | false =>
        simp only [Bool.false_eq_true, if_false] at q9 ⊢
        exact fin I9 q9
      | true =>
        simp only [if_true] at q9 ⊢
        refine thnF (pe.run _ s9 σ8 H9 _ I9 q9) fun z s10 ⟨yv, H10, I10, r10, acc, hD10, hz10, nx⟩ => ?_
        exact app_ok (X := blkH X s3 H3 scope ce fp) I10 hD10 hz10 r10 fun s11 I11 => fin I11 nx
  exact codeAny_compStart_list loop (T.self X.A 0 _ _ _ st4 loop)
theorem pe_lcH {elt tg iter : Expr} {ifs : List Expr} {scope : Scope} {own : List (Str × Nat)} {pos : Pos} {wi : TI} {g : TG} {tt : TT} {te : TE} (hc : HotC X) (hN : X.N.Nodup) (hi : PIH X tg iter wi) (ok : BlkOk X.N X.env.scope scope own)
    (hg : ∀ (s : Shared) (H : Hp) (C : Addr) (cl : List (Str × Addr)) (fp : List Addr), PG (blkH X s H scope (compEnvC scope cl C X.env) fp) tg g) (ht : ∀ (s : Shared) (H : Hp) (C : Addr) (cl : List (Str × Addr)) (fp : List Addr), PTs (blkH X s H scope (compEnvC scope cl C X.env) fp) ifs tt)
    (he : ∀ (s : Shared) (H : Hp) (C : Addr) (cl : List (Str × Addr)) (fp : List Addr), PE (blkH X s H scope (compEnvC scope cl C X.env) fp) elt te) (hs : ∀ x, foldedSetIterable iter X.env x = pure x := by intro _; rfl) :
    PE X (.ListComp elt [⟨tg, iter, ifs, 0⟩] scope pos) (tLc wi g tt te (own.map (·.2))) := by
  refine ⟨fun pins s σ H Q I h => ?_⟩
  rw [eval_ListComp]
  refine lcH_core hc hN I hi ok hg ht he hs h fun D C s' m H' I' q hn f => ⟨m, hn, fun h'' sb => ?_⟩
  obtain ⟨f0, f1, f2, f3, f4, f5⟩ := f
  exact ⟨.ref D, H', I'.turned (t' := s'.toks) (fun b o hb e => (sb.2 b hb).trans e) f0 f1 f3 f4 f5, rfl, q⟩
/-! ### isinstance of the handled exception, where it is a pin -/
def rIsP (K : PySem.W.Frag) (cls : Value) (d : Option Addr) (a : Addr) : List V → Hp → VK → Prop := fun xs H Q => ∃ (D : Addr) (c : V) (cv : Value) (b : Bool), cls = .ref D ∧ d = none ∧ ExcC K D ∧ xs = [.ref a, c] ∧ (∀ u, RelV c u → u = cv) ∧ PySem.W.kitOne K (.ref D) cv = some b ∧ Q (.bl b) H
theorem call_isP {K : PySem.W.Frag} {a : Addr} {cls : Value} {d : Option Addr} {oe : Obj} (hK : X.K = K) (hp : (a, oe) ∈ X.pn) (hz : Zc cls d oe) (hf : ∃ vs, oe.data = .fields vs) : CallR X (.builtin "isinstance") (rIsP K cls d a) := by
  subst hK
  intro pins s σ H xs us Q I r h
  obtain ⟨D, c, cv, b, rfl, rfl, C, rfl, hcv, e, q⟩ := h
  cases r with
  | cons rx rr =>
    cases rr with
    | cons rt rr =>
      cases rr
      cases rx
      have ec := hcv _ rt
      subst ec
      obtain ⟨hget, _⟩ := I.pin (a, oe) (List.mem_append_left _ hp)
      obtain ⟨vs, hv⟩ := hf
      have J : PySem.W.InstAt s.heap a oe D none := by
        obtain ⟨oc, od, oda, osl⟩ := oe
        obtain ⟨h1, h2⟩ := hz
        dsimp only at h1 h2 hv
        subst h1 h2 hv
        exact ⟨hget, rfl, rfl, trivial⟩
      exact PySem.W.kia_one (PySem.W.handS_kitx_exc C.hg C.hk C.hs C.hd C.ha C.hn C.ht C.hm) I.kIn J e (fun z => nomatch z) fun tk => ⟨.bl b, H, I.kept (t' := tk) fun _ _ z => z, rfl, q⟩
end
end Tw
namespace Tw
open PySem PySem.Spec PyProof.Rows L2 L2H
/-! ### a def that is handed the handled exception -/
structure FnP (P : Program) (w : World) (K : PySem.W.Frag) (mg : Str → Option Value) (base : Heap) (CX : CXT) (k : Nat) (f : Addr) (fd : FuncData) (ps : List Str) (sp : Addr → Value → Option Addr → Sp) : Prop where
  len : ∀ a c d vs H Q E, sp a c d vs H Q E → vs.length = ps.length
  run : ∀ (A : Around) (outer : List Env) (s : Shared) (H : Hp) (args : Args) (us : List Value) (vs : List V) (Q : VK) (E : XK) (p : Addr × Obj) (c : Value) (d : Option Addr), Zc c d p.2 → RoomH k A → Hot1 A p → PinOk outer H s p → Env0 P w K mg base A outer s H → BindsTo s fd args (ps.zip us) → Vals vs us → sp p.1 c d vs H Q E →
    codeAny (model P w) A (.call (.ref f) args) (CR CX outer P w H s Q E) s
theorem fn_ofP {CX : CXT} {P : Program} {w : World} {K : PySem.W.Frag} {mg : Str → Option Value} {base : Heap} {k : Nat} {f : Addr} {name qual : Str} {params : Arguments} {body : List Stmt} {scope : Scope} {dV kV doc pm cdv ct oc : Value} {an od : Option Addr}
    {osl : Array (Option Value)} {N ps : List Str} {sp : Addr → Value → Option Addr → Sp} (lk : K.lookup f = some ⟨oc, od, .func (PySem.W.fnOf name qual params body scope dV kV doc pm an cdv ct), osl⟩) (hcd : PySem.W.codeIn K cdv qual = true) (S : FnScope N ps scope)
    (len : ∀ a c d vs H Q E, sp a c d vs H Q E → vs.length = ps.length)
    (hbody : ∀ (A : Around) (outer : List Env) (s : Shared) (H : Hp) (vs : List V) (Q : VK) (E : XK) (p : Addr × Obj) (c : Value) (d : Option Addr), Zc c d p.2 → Hot1 A p → RoomH k (A.deeper (envOfC qual scope s.heap.objs.size f cdv)) → sp p.1 c d vs H Q E →
      ∃ t, PSs (cxH CX P w K mg base N qual scope f cdv A outer s H E p) body t ∧ t { nx := fun _ H' => Q .non H', rt := Q } (L2.start N vs) H) :
    FnP P w K mg base CX (k + 1) f (PySem.W.fnOf name qual params body scope dV kV doc pm an cdv ct) ps sp := by
  refine ⟨len, fun A outer s H args us vs Q E p c d hz hr hot hpin e0 hb r hsp => ?_⟩
  have hl := len _ _ _ _ _ _ _ hsp
  have KX : K.In s.heap := e0.mod.kin.keeps fun b o e => (e0.bs b o e).1
  have lim : s.heap.NoLimit := e0.mod.nolimit.keeps fun b o e => (e0.bs b o e).1
  have hkind : ∀ y ∈ ps.zip us, scope.names.lookup y.1 = some .local ∨ (scope.names.lookup y.1 = some .cell ∧ ((cellsFrom (s.heap.objs.size + 1) scope.names []).lookup y.1).isSome = true) := fun ⟨n, v⟩ hy => by
    rcases S.par n (List.of_mem_zip hy).1 with q | q
    · exact .inl q
    · exact .inr ⟨q, PySem.W.cellsFrom_some _ _ _ (.inl q)⟩
  refine codeAny_call_function hr.depth (KX _ _ lk) rfl S.co S.gen rfl (PySem.W.codeRec_of KX hcd) (hb _ _ _ _ ?_)
  refine wpAny_newFunctionEnv_cells S.kind hkind fun env he s1 x => ?_
  subst he
  refine ⟨lim.keeps x.toInCall.keep, codeAny_func ?_⟩
  obtain ⟨t, ht, hq⟩ := hbody A outer s H vs Q E p c d hz hot (hr.deeper _) hsp
  have I : Inv (cxH CX P w K mg base N qual scope f cdv A outer s H E p) [] (L2.start N vs) H s1 := inv_startH S hpin e0 hl r x
  refine wpAny_mono (ht.run [] s1 (L2.start N vs) H _ I hq) (fun fl s' hs => ?_) fun e s' hs => hs
  have fin : ∀ {σ' : L2.St} {H' : Hp} {v : V} {u : Value}, Inv (cxH CX P w K mg base N qual scope f cdv A outer s H E p) [] σ' H' s' → RelV v u → Q v H' → CE outer P w H s Q u s' :=
    fun {σ' H' v u} J rv q => ⟨v, H', J.os, J.bare, J.base, J.hok, rv, q⟩
  cases fl with
  | ret u =>
    obtain ⟨v, σ', H', J, rv, q⟩ := hs
    exact fin J rv q
  | next =>
    obtain ⟨σ', H', J, q⟩ := hs
    exact fin (v := V.non) (u := Value.none) J rfl q
  | brk =>
    obtain ⟨_, _, _, q⟩ := hs
    exact False.elim q
  | cont =>
    obtain ⟨_, _, _, q⟩ := hs
    exact False.elim q
section
variable {P : Program} {w : World} {K : PySem.W.Frag} {mg : Str → Option Value} {base : Heap}
theorem Fun.okP {x qual : Str} {st : Stmt} {f : Addr} {fd : FuncData} {N ps : List Str} {k : Nat} {sp : Addr → Value → Option Addr → Sp} (F : Fun K x qual st f fd) (S : FnScope N ps (defScope st)) (len : ∀ a c d vs H Q E, sp a c d vs H Q E → vs.length = ps.length)
    (hbody : ∀ (cdv : Value) (A : Around) (outer : List Env) (s : Shared) (H : Hp) (vs : List V) (Q : VK) (E : XK) (p : Addr × Obj) (c : Value) (d : Option Addr), Zc c d p.2 → Hot1 A p → sp p.1 c d vs H Q E →
      ∃ t, PSs (cxH CX0 P w K mg base N qual (defScope st) f cdv A outer s H E p) (defBody st) t ∧ t { nx := fun _ H' => Q .non H', rt := Q } (L2.start N vs) H) : FnP P w K mg base CX0 (k + 1) f fd ps sp := by
  obtain ⟨oc, od, kV, doc, pm, an, cdv, ct, osl, rfl, lk, hcd⟩ := F.ex
  exact fn_ofP lk hcd S len fun A outer s H vs Q E p c d hz hot hr hsp => hbody cdv A outer s H vs Q E p c d hz hot hsp
/-- a def that may raise, nothing being handled -/
theorem Fun.okN {x qual : Str} {st : Stmt} {f : Addr} {fd : FuncData} {N ps : List Str} {k : Nat} {sp : Sp} (F : Fun K x qual st f fd) (S : FnScope N ps (defScope st)) (len : ∀ vs H Q E, sp vs H Q E → vs.length = ps.length)
    (hbody : ∀ (cdv : Value) (A : Around) (outer : List Env) (s : Shared) (H : Hp) (vs : List V) (Q : VK) (E : XK), Room k (A.deeper (envOfC qual (defScope st) s.heap.objs.size f cdv)) → sp vs H Q E →
      ∃ t, PSs (cxOf (L2N.CX P w) P w K mg base N qual (defScope st) f cdv A outer s H E) (defBody st) t ∧ t { nx := fun _ H' => Q .non H', rt := Q } (L2.start N vs) H) : FnOk P w K mg base (L2N.CX P w) (k + 1) f fd ps sp := by
  obtain ⟨oc, od, kV, doc, pm, an, cdv, ct, osl, rfl, lk, hcd⟩ := F.ex
  exact fn_of lk hcd S len fun A outer s H vs Q E hr hsp => hbody cdv A outer s H vs Q E hr hsp
end
section
variable {X : Cx} {CX : CXT} {k : Nat} {f C : Addr} {fd : FuncData} {ps : List Str} {sp : Addr → Value → Option Addr → Sp} {x : Str} {q pos : Pos} {e : Expr} {es : List Expr} {t : TA}
theorem pe_callP {a : Addr} {oe : Obj} {c : Value} {d : Option Addr} (F : FnP X.prog X.w X.K X.mg X.base CX0 k f fd ps sp) (hr : RoomH k X.A) (hot : Hot1 X.A (a, oe)) (hp : (a, oe) ∈ X.pn) (hz : Zc c d oe) (hg : Gl X x) (hm : X.mg x = some (.ref f)) (hk : PySem.W.keepIn X.K (.ref f) = true) (hb : Binds X.K fd ps [])
    (ha : PA X (e :: es) t) (hdb : (x == ("__debug__" : Str)) = false := by decide) (he : starEach (e :: es) X.env = (false, eval e X.env) :: starEach es X.env := by rfl) (hpl : (backTo pos (starEach es X.env)).any (·.1) = false := by rfl) :
    PE X (.Call (.Name x q) (e :: es) [] pos) (tCall (sp a c d) [] E0 t) := by
  refine ⟨fun pins s σ H Q I h => ?_⟩
  refine wpAny_Call_Name_kw (ld_glob I hg hm ?_ hdb)
  refine PySem.W.callWith_K (h₀ := X.base) I.ok.mod.kin hk (thn (ha.run pos pins s σ H _ I h) fun us s1 ⟨vs, H1, I1, r, q⟩ => ⟨I1.kIn, ?_⟩) he hpl
  have q : sp a c d (vs ++ []) H1 Q E0 := q
  rw [List.append_nil] at q
  have hl : us.length = ps.length := by rw [← r.length]; exact F.len _ _ _ _ _ _ _ q
  have b := hb s1 us I1.kIn (by rw [List.append_nil]; exact hl)
  rw [List.append_nil] at b
  have P1 := I1.pin (a, oe) (List.mem_append_left _ hp)
  have hpin : PinOk X.stack H1 s1 (a, oe) := ⟨P1.1, P1.2.1, fun hm => (List.mem_cons.mp (I1.stkSub a hm)).elim P1.2.2.1 P1.2.2.2.1, P1.2.2.2.2⟩
  refine wpAny_call (codeAny_mono (F.run X.A X.stack s1 H1 ⟨us, []⟩ us vs Q E0 (a, oe) c d hz hr hot hpin I1.env0 b r q) fun r s' hq => ?_)
  cases r with
  | error e => exact False.elim hq
  | ok fl =>
    cases fl with
    | ret u => exact I1.after hq
    | next => exact False.elim hq
    | brk => exact False.elim hq
    | cont => exact False.elim hq
/-- nothing is let out around -/
theorem takesN0 : L2N.Takes X (fun _ _ _ _ => False) := fun _ _ x => by
  obtain ⟨_, _, _, _, _, _, _, _, _, _, _, _, _, _, _, _, z⟩ := x
  exact z.elim
end
/-! ### what the written part says of an own exception class -/
structure ExF (K : PySem.W.Frag) (C : Addr) : Prop where
  x : PySem.W.excIn K C [.type "ValueError", .type "Exception", .type "BaseException", .type "object"] "ValueError.__new__" = true
  k : PySem.W.keepIn K (.ref C) = true
  t : PySem.W.typeIn K (.ref C) = some (.type "type")
  e : ExcC K C
theorem kit_ref {K : PySem.W.Frag} {D C : Addr} {b : Bool} (hd : PySem.W.hasDictIn K C = true) (ht : PySem.W.typeIn K (.ref C) = some (.type "type")) (hs : PySem.W.subIn K (.ref D) (.ref C) = some b) (hb : D = C → b = true) : PySem.W.kitOne K (.ref D) (.ref C) = some b := by
  unfold PySem.W.kitOne
  split
  · rename_i h
    have e : Value.ref D = Value.ref C := eq_of_beq h
    injection e with e
    rw [hb e]
  · obtain ⟨cd, hc, _⟩ := PySem.W.any_some hd
    show PySem.W.kitCls K (.ref D) (.ref C) = some b
    unfold PySem.W.kitCls
    show (if ((PySem.W.clsIn K C).isSome && PySem.W.typeIn K (.ref C) == some (.type "type")) = true then PySem.W.subIn K (.ref D) (.ref C) else none) = some b
    rw [if_pos (by rw [hc, ht] <;> rfl)]
    exact hs
theorem kit_bt {K : PySem.W.Frag} {D : Addr} {T : String} {b : Bool} (ht : PySem.W.kitMeta T = true) (hs : PySem.W.subIn K (.ref D) (.type T) = some b) : PySem.W.kitOne K (.ref D) (.type T) = some b := by
  unfold PySem.W.kitOne
  rw [if_neg (fun h => by have e := eq_of_beq h; cases e)]
  show PySem.W.kitCls K (.ref D) (.type T) = some b
  unfold PySem.W.kitCls
  show (if PySem.W.kitMeta T = true then PySem.W.subIn K (.ref D) (.type T) else none) = some b
  rw [if_pos ht]
  exact hs
section
variable {X : Cx}
/-- a call that lets nothing out after all -/
theorem passN : Passes (L2N.CX X.prog X.w) X E0 := fun _ _ _ _ _ _ _ h => by
  obtain ⟨_, _, _, _, _, _, _, _, _, _, _, _, z⟩ := h
  exact z.elim
theorem roomH_suite {k : Nat} {A : Around} {v : Option Value} (r : Room k A) : RoomH k (A.mark v) := ⟨r.dp, r.un⟩
/-- the handled exception of a suite -/
theorem hot_suite {A : Around} {a : Addr} {oe : Obj} {cls : Value} {d : Option Addr} (hz : L2N.Zn cls d oe) (hf : ∃ vs, oe.data = .fields vs) : Hot1 (A.mark (some (.ref a))) (a, oe) := by
  obtain ⟨vs, hv⟩ := hf
  exact ⟨rfl, vs, hv, hz.2.2 vs hv⟩
end
section
variable {K : PySem.W.Frag} {σ : L2.St} {H : Hp} {D : Ends}
open Evl
theorem s_dropS {ta : TA} {sp : Sp} {vs : List V} {E : L2.St → XK} (h : EvA ta σ H vs) (k : ∀ H1, Ex H H1 → sp vs H1 (fun _ H2 => D.nx σ H2) (E σ)) : tDrop (tCallS sp E ta) D σ H := h H (Ex.refl H) _ k
/-- if f(..) is not None, told by f's own promise -/
theorem s_ifNotN {ta : TA} {sp : Sp} {dvs vs : List V} {E : XK} {tu tw : TS} (h : EvA ta σ H vs) (k : ∀ H1, Ex H H1 → sp (vs ++ dvs) H1 (fun x H2 => rNotN x .non H2 fun z H' => ∃ c, z = .bl c ∧ (if c = true then tu D σ H' else tw D σ H')) E) :
    tIfS (tTest (tOp rNotN (tCall sp dvs E ta) (tC .non))) tu tw D σ H := h H (Ex.refl H) _ k
theorem rc_isP {a C Dd : Addr} {cls : Value} {d : Option Addr} {b : Bool} (h1 : cls = .ref Dd) (h2 : d = none) (ec : ExcC K Dd) (hk : PySem.W.kitOne K (.ref Dd) (.ref C) = some b) : RC (rIsP K cls d a) [.ref a, .ref C] H (.bl b) :=
  fun H1 _ _ q => ⟨Dd, .ref C, .ref C, b, h1, h2, ec, rfl, fun _ r => r, hk, q H1 (Ex.refl H1)⟩
theorem rc_isPT {a Dd : Addr} {T : String} {cls : Value} {d : Option Addr} {b : Bool} (h1 : cls = .ref Dd) (h2 : d = none) (ec : ExcC K Dd) (hk : PySem.W.kitOne K (.ref Dd) (.type T) = some b) : RC (rIsP K cls d a) [.ref a, .ty T] H (.bl b) :=
  fun H1 _ _ q => ⟨Dd, .ty T, .type T, b, h1, h2, ec, rfl, fun _ r => r, hk, q H1 (Ex.refl H1)⟩
/-- the refusal by its number -/
def sp_kind (K : PySem.W.Frag) (L : List Addr) : Addr → Value → Option Addr → Sp := fun a cls d vs H Q _ => ∃ (Dd : Addr) (j : Nat), cls = .ref Dd ∧ d = none ∧ vs = [.ref a] ∧ ExcC K Dd ∧ j < 10 ∧ (∀ i C, L[i]? = some C → PySem.W.kitOne K (.ref Dd) (.ref C) = some (decide (i = j))) ∧ RetV (.int (11 + (j : Int))) H Q
end
/-! ### the end of a list's walk, and sum, where an exception is handled -/
section
open PySem PySem.Calls HotX
variable {prog : Program} {w : World} {A : Around} {E : Value → Shared → Prop} {s : Shared}
def HotObj (x1 : Addr) (h : Heap) : Prop := ∃ (o : Obj) (vs : Array Value), h.get? x1 = some o ∧ o.data = .fields vs ∧ vs[2]? = some .none
theorem pyNext_list_end_hot {it l x1 : Addr} {i : Nat} {items : Array Value} {Q : Option Value → Shared → Prop} (hh : A.handled = some (.ref x1)) (hot : HotObj x1 s.heap)
    (hit : s.heap.IsListIter it l i) (hl : s.heap.IsList l items) (hx : items[i]? = none)
    (hQ : ∀ h', Heap.ExtBut it s.heap h' → Q none { s with heap := h' }) : wpAny (model prog w) A (pyNext (.ref it)) Q E s := by
  obtain ⟨o, ho, hc, hd⟩ := id hit
  obtain ⟨ol, hol, _, nl, hdl⟩ := hl
  obtain ⟨o1, vs1, h1, d1, c1⟩ := hot
  have nx : x1 ≠ it := fun z => by
    rw [z, ho] at h1
    cases h1
    rw [hd] at d1
    cases d1
    cases c1
  unfold pyNext
  refine wpAny_bind (wpAny_attempt (wpAny_callSpecial?_slot (name := Str.ofString "__next__") hit.typeIs slot_listiter_next
    (wpAny_call_entry slot_listiter_next hit.typeIs entry_listiter_next ?_ (args_listiter_next _))))
  show wpAny _ _ (field (.ref it) 0 >>= _) _ _ s
  refine wpAny_bind (wpAny_field ho hd (x := .ref l) rfl ?_)
  show wpAny _ _ (if (Value.ref l == Value.none) = true then _ else _) _ _ s
  rw [if_neg (show ¬ ((Value.ref l == Value.none) = true) from Bool.false_ne_true)]
  show wpAny _ _ (field (.ref it) 1 >>= _) _ _ s
  refine wpAny_bind (wpAny_field ho hd (x := .int i 0) rfl ?_)
  show wpAny _ _ (seqItems? (.ref l) >>= _) _ _ s
  refine wpAny_bind (wpAny_seqItems hol hdl ?_)
  simp only [Int.toNat_natCast, hx]
  refine wpAny_bind (wpAny_rule (wpAny_bind (wpAny_setField ho hd (by simp) ?_)))
  show wpAny _ _ (newExc (.type "StopIteration") [] >>= _) _ _ _
  refine wpAny_bind ?_
  simp only [newExc, newTuple]
  refine wpAny_bind (wpAny_newObj_type ?_ (by size_fits))
  refine wpAny_bind (m := firstArgMember _ _) (wpAny_of_eq (a := Value.none) (by first | rfl | (simp only [firstArgMember]; rfl)) ?_)
  refine wpAny_newObj_type ?_ (by size_fits)
  have h1' := (Heap.get?_update_other s.heap (Obj.mapFields (·.setIfInBounds 0 .none)) (Ne.symm nx)).trans h1
  refine raiseNew_hot ⟨hh, o1, vs1, Heap.get?_push_of_some _ (Heap.get?_push_of_some _ h1'), d1, c1⟩ (Nat.ne_of_lt (Heap.lt_size (Heap.get?_push_of_some _ h1'))) (Heap.get?_push_size _ rfl) rfl (by first | (simp; done) | (simp; omega) | (simp only [Array.size_append]; simp; omega)) ?_
  refine wpAny_bind (wpAny_isInstance (T := "StopIteration") (b := true) ⟨_, Heap.get?_update_self _ (Heap.get?_push_size _ rfl) rfl, rfl⟩ isSubtype_stop ?_)
  refine wpAny_pure (hQ _ fun b o hb e => ?_)
  have e1 := (Heap.get?_update_other s.heap (Obj.mapFields (·.setIfInBounds 0 .none)) (Ne.symm hb)).trans e
  rw [Heap.get?_update_other _ _ (Nat.ne_of_gt (Heap.lt_size (Heap.get?_push_of_some _ e1)))]
  exact Heap.get?_push_of_some _ (Heap.get?_push_of_some _ e1)
theorem walksH {I ax x1 : Addr} (hh : A.handled = some (.ref x1)) (hne : ax ≠ I) (hx : x1 ≠ I) (items : Array Value) :
    Walks prog w A I [I, ax, x1] [I] items.size (fun i v => items[i]? = some v) (fun i h => (h.IsListIter I ax i ∧ h.IsList ax items) ∧ HotObj x1 h) where
  sub := fun b hb => by simp at hb; simp [hb]
  frame := fun _ _ _ st hk => ⟨⟨st.1.1.at fun o e => hk I (by simp) o e, st.1.2.at fun o e => hk ax (by simp) o e⟩, by
    obtain ⟨o, vs, h1, h2⟩ := st.2
    exact ⟨o, vs, hk x1 (by simp) o h1, h2⟩⟩
  item := fun i s Q E hi st hQ => by
    refine wpAny_pyNext_list_item st.1.1 st.1.2 (x := items[i]) (by simp [hi]) fun h' hit' hs' => ?_
    refine hQ _ h' s.toks (by simp [hi]) ⟨⟨hit', st.1.2.extBut hs'.extBut hne⟩, ?_⟩ fun b o hb e => hs'.extBut b o (fun h => hb (by simp [h])) e
    obtain ⟨o, vs, h1, h2⟩ := st.2
    exact ⟨o, vs, hs'.extBut x1 o hx h1, h2⟩
  done := fun s Q E st hQ => pyNext_list_end_hot hh st.2 st.1.1 st.1.2 (by simp) fun h' he' => hQ h' s.toks fun b o hb e => he' b o (fun h => hb (by simp [h])) e
  self := fun _ _ _ _ st hQ => wpAny_pyIter_listiter st.1.1 hQ
theorem sum_hot {l x1 : Addr} {xs : Array (Int × Tok)} {Q : Value → Shared → Prop} (hh : A.handled = some (.ref x1)) (hot : HotObj x1 s.heap) (hl : s.heap.IsList l (intItems xs))
    (h : ∀ h' tk t', (∀ b o, s.heap.get? b = some o → h'.get? b = some o) → Q (.int (preSum (numAt xs) xs.size) t') { s with heap := h', toks := tk }) :
    wpAny (model prog w) A (call (.builtin "sum") [.ref l]) Q E s := by
  refine call_sum_walkG (iter_intList hl fun s₂ e st hfp hlI => ?_)
  subst e
  obtain ⟨o, vs, h1, h2, h3⟩ := hot
  have hlt := Heap.lt_size h1
  refine ⟨_, _, _, _, _, _, numAt xs, rfl, walksH (A := A.in1) (x1 := x1) hh hlI (Nat.ne_of_lt hlt) (intItems xs), ⟨st, o, vs, Heap.get?_push_of_some _ h1, h2, h3⟩, fun b hb => ?_, (fun _ _ => intItems_at), fun h' tk t' hk => ?_⟩
  · rcases List.mem_cons.mp hb with z | z
    · exact hfp b (by rw [z]; exact List.mem_cons_self ..)
    · rcases List.mem_cons.mp z with z | z
      · exact hfp b (by rw [z]; simp)
      · rw [List.mem_singleton.mp z]
        show x1 < (s.heap.push _).objs.size
        rw [Heap.size_push]
        exact Nat.lt_succ_of_lt hlt
  · have := h h' tk t' (old_kept hk)
    simpa [intItems] using this
end
section
variable {X : Cx}
open PyProof.Rows L2 L2H
theorem cr_sumH (hc : HotC X) : CallR X (.builtin "sum") (rSum X.K) := by
  intro pins s σ H vs us Q I r h
  obtain ⟨a, ns, rfl, hs, q⟩ := h
  obtain ⟨its, rv, hl, _⟩ := I.list hs
  rw [Vals.ref1 r]
  obtain ⟨p, ⟨hh, v1, e1, c1⟩, hp⟩ := hc
  have P1 := (I.pin p (List.mem_append_left _ hp)).1
  obtain ⟨xs, e⟩ := rv.ints.allInts.items
  have hn : numsOf (intItems xs).toList = ns := by rw [← e]; exact rv.ints.numsOf
  rw [nums_intItems] at hn
  have hl' := hl.isList
  rw [e] at hl'
  refine sum_hot hh ⟨p.2, v1, P1, e1, c1⟩ hl' fun h' tk t' hk => ?_
  rw [preSum_eq, List.take_of_length_le (by simp), hn]
  exact ⟨.int _, H, I.kept hk, ⟨_, rfl⟩, q⟩
/-- an item of a list, the written part named -/
theorem ixL {K : PySem.W.Frag} (h : X.K = K) : IxR X (rIxL K) := by
  rw [← h]
  exact ix_list
end
end Tw
set_option Elab.async false
set_option linter.all false
set_option maxRecDepth 100000
namespace Pf
open PySem PySem.Spec PyProof.Rows L2 Evl Tw L2H
def topS (i : Nat) : Stmt := PySem.Challenge.pw_textwrapper_k03_lines_measured.main.body.getD i (.Pass ⟨0, 0, 0, 0⟩)
abbrev s_line_of : Stmt := topS 13
abbrev N_line_of : List Str := ["words", "begin", "end"]
theorem sc_line_of : FnScope N_line_of ["words", "begin", "end"] (defScope s_line_of) := ⟨rfl, rfl, rfl, by decide +kernel, rfl, by decide +kernel, by decide +kernel⟩
abbrev s_size_of : Stmt := topS 14
abbrev N_size_of : List Str := ["words", "begin", "end"]
theorem sc_size_of : FnScope N_size_of ["words", "begin", "end"] (defScope s_size_of) := ⟨rfl, rfl, rfl, by decide +kernel, rfl, by decide +kernel, by decide +kernel⟩
abbrev s_long_word : Stmt := topS 15
abbrev N_long_word : List Str := ["words", "width", "place", "word"]
theorem sc_long_word : FnScope N_long_word ["words", "width"] (defScope s_long_word) := ⟨rfl, rfl, rfl, by decide +kernel, rfl, by decide +kernel, by decide +kernel⟩
abbrev s_check_width : Stmt := topS 16
abbrev N_check_width : List Str := ["width"]
theorem sc_check_width : FnScope N_check_width ["width"] (defScope s_check_width) := ⟨rfl, rfl, rfl, by decide +kernel, rfl, by decide +kernel, by decide +kernel⟩
abbrev s_l_cell_at : Stmt := topS 18
abbrev N_l_cell_at : List Str := ["_law_script", "_law_k"]
theorem sc_l_cell_at : FnScope N_l_cell_at ["_law_script", "_law_k"] (defScope s_l_cell_at) := ⟨rfl, rfl, rfl, by decide +kernel, rfl, by decide +kernel, by decide +kernel⟩
abbrev s_l_sign_by : Stmt := topS 19
abbrev N_l_sign_by : List Str := ["_law_cell", "_law_some"]
theorem sc_l_sign_by : FnScope N_l_sign_by ["_law_cell"] (defScope s_l_sign_by) := ⟨rfl, rfl, rfl, by decide +kernel, rfl, by decide +kernel, by decide +kernel⟩
abbrev s_l_word_by : Stmt := topS 20
abbrev N_l_word_by : List Str := ["_law_cell", "_law_size_here", "_law_k"]
theorem sc_l_word_by : FnScope N_l_word_by ["_law_cell"] (defScope s_l_word_by) := ⟨rfl, rfl, rfl, by decide +kernel, rfl, by decide +kernel, by decide +kernel⟩
abbrev s_l_whole : Stmt := topS 21
abbrev N_l_whole : List Str := ["_law_found"]
theorem sc_l_whole : FnScope N_l_whole ["_law_found"] (defScope s_l_whole) := ⟨rfl, rfl, rfl, by decide +kernel, rfl, by decide +kernel, by decide +kernel⟩
abbrev s_l_longest : Stmt := topS 22
abbrev N_l_longest : List Str := ["_law_row", "_law_most", "_law_word"]
theorem sc_l_longest : FnScope N_l_longest ["_law_row"] (defScope s_l_longest) := ⟨rfl, rfl, rfl, by decide +kernel, rfl, by decide +kernel, by decide +kernel⟩
abbrev s_l_size : Stmt := topS 23
abbrev N_l_size : List Str := ["_law_row", "_law_begin", "_law_end"]
theorem sc_l_size : FnScope N_l_size ["_law_row", "_law_begin", "_law_end"] (defScope s_l_size) := ⟨rfl, rfl, rfl, by decide +kernel, rfl, by decide +kernel, by decide +kernel⟩
abbrev s_l_alike_by : Stmt := topS 24
abbrev N_l_alike_by : List Str := ["_law_cell", "_law_size_here", "_law_at"]
theorem sc_l_alike_by : FnScope N_l_alike_by ["_law_cell", "_law_size_here"] (defScope s_l_alike_by) := ⟨rfl, rfl, rfl, by decide +kernel, rfl, by decide +kernel, by decide +kernel⟩
abbrev s_l_wide_by : Stmt := topS 25
abbrev N_l_wide_by : List Str := ["_law_more", "_law_k"]
theorem sc_l_wide_by : FnScope N_l_wide_by ["_law_more", "_law_k"] (defScope s_l_wide_by) := ⟨rfl, rfl, rfl, by decide +kernel, rfl, by decide +kernel, by decide +kernel⟩
abbrev s_l_words_by : Stmt := topS 26
abbrev N_l_words_by : List Str := ["_law_cells", "_law_more", "_law_row", "_law_many", "_law_cell", "_law_k"]
theorem sc_l_words_by : FnScope N_l_words_by ["_law_cells", "_law_more"] (defScope s_l_words_by) := ⟨rfl, rfl, rfl, by decide +kernel, rfl, by decide +kernel, by decide +kernel⟩
abbrev s_l_kind : Stmt := topS 27
abbrev N_l_kind : List Str := ["_law_e", "_law_flags", "_law_k"]
theorem sc_l_kind : FnScope N_l_kind ["_law_e"] (defScope s_l_kind) := ⟨rfl, rfl, rfl, by decide +kernel, rfl, by decide +kernel, by decide +kernel⟩
abbrev s_l_refused : Stmt := topS 28
abbrev N_l_refused : List Str := ["_law_row", "_law_width", "_law_e"]
theorem sc_l_refused : FnScope N_l_refused ["_law_row", "_law_width"] (defScope s_l_refused) := ⟨rfl, rfl, rfl, by decide +kernel, rfl, by decide +kernel, by decide +kernel⟩
abbrev s_l_first_long : Stmt := topS 29
abbrev N_l_first_long : List Str := ["_law_row", "_law_width", "_law_k"]
theorem sc_l_first_long : FnScope N_l_first_long ["_law_row", "_law_width"] (defScope s_l_first_long) := ⟨rfl, rfl, rfl, by decide +kernel, rfl, by decide +kernel, by decide +kernel⟩
abbrev s_law : Stmt := topS 30
abbrev N_law : List Str := ["_law_script", "_law_row", "_law_begin", "_law_end", "_law_width", "_law_handed", "_law_span", "_law_found", "_law_due"]
theorem sc_law : FnScope N_law ["_law_script"] (defScope s_law) := ⟨rfl, rfl, rfl, by decide +kernel, rfl, by decide +kernel, by decide +kernel⟩
/-- where the defs and classes stand -/
structure Ad where
  f_line_of : Addr
  d_line_of : FuncData
  f_size_of : Addr
  d_size_of : FuncData
  f_long_word : Addr
  d_long_word : FuncData
  f_check_width : Addr
  d_check_width : FuncData
  f_l_cell_at : Addr
  d_l_cell_at : FuncData
  f_l_sign_by : Addr
  d_l_sign_by : FuncData
  f_l_word_by : Addr
  d_l_word_by : FuncData
  f_l_whole : Addr
  d_l_whole : FuncData
  f_l_longest : Addr
  d_l_longest : FuncData
  f_l_size : Addr
  d_l_size : FuncData
  f_l_alike_by : Addr
  d_l_alike_by : FuncData
  f_l_wide_by : Addr
  d_l_wide_by : FuncData
  f_l_words_by : Addr
  d_l_words_by : FuncData
  f_l_kind : Addr
  d_l_kind : FuncData
  f_l_refused : Addr
  d_l_refused : FuncData
  f_l_first_long : Addr
  d_l_first_long : FuncData
  f_law : Addr
  d_law : FuncData
  c_WrapError : Addr
  c_NoWidth : Addr
  c_LongWord : Addr
  c_NoStarts : Addr
  c_TooWide : Addr
  c_TooFew : Addr
  c_TooMany : Addr
  c_NoPlace : Addr
  c_NoWord : Addr
  c_Full : Addr
  c_NoWayBack : Addr
/-- what the top has left -/
structure Txt (K : PySem.W.Frag) (mg : Str → Option Value) (A : Ad) : Prop where
  F_line_of : Fun K "line_of" "line_of" s_line_of A.f_line_of A.d_line_of
  g_line_of : mg "line_of" = some (.ref A.f_line_of)
  b_line_of : Binds K A.d_line_of ["words", "begin", "end"] []
  F_size_of : Fun K "size_of" "size_of" s_size_of A.f_size_of A.d_size_of
  g_size_of : mg "size_of" = some (.ref A.f_size_of)
  b_size_of : Binds K A.d_size_of ["words", "begin", "end"] []
  F_long_word : Fun K "long_word" "long_word" s_long_word A.f_long_word A.d_long_word
  g_long_word : mg "long_word" = some (.ref A.f_long_word)
  b_long_word : Binds K A.d_long_word ["words", "width"] []
  F_check_width : Fun K "check_width" "check_width" s_check_width A.f_check_width A.d_check_width
  g_check_width : mg "check_width" = some (.ref A.f_check_width)
  b_check_width : Binds K A.d_check_width ["width"] []
  F_l_cell_at : Fun K "_law_cell_at" "_law_cell_at" s_l_cell_at A.f_l_cell_at A.d_l_cell_at
  g_l_cell_at : mg "_law_cell_at" = some (.ref A.f_l_cell_at)
  b_l_cell_at : Binds K A.d_l_cell_at ["_law_script", "_law_k"] []
  F_l_sign_by : Fun K "_law_sign_by" "_law_sign_by" s_l_sign_by A.f_l_sign_by A.d_l_sign_by
  g_l_sign_by : mg "_law_sign_by" = some (.ref A.f_l_sign_by)
  b_l_sign_by : Binds K A.d_l_sign_by ["_law_cell"] []
  F_l_word_by : Fun K "_law_word_by" "_law_word_by" s_l_word_by A.f_l_word_by A.d_l_word_by
  g_l_word_by : mg "_law_word_by" = some (.ref A.f_l_word_by)
  b_l_word_by : Binds K A.d_l_word_by ["_law_cell"] []
  F_l_whole : Fun K "_law_whole" "_law_whole" s_l_whole A.f_l_whole A.d_l_whole
  g_l_whole : mg "_law_whole" = some (.ref A.f_l_whole)
  b_l_whole : Binds K A.d_l_whole ["_law_found"] []
  F_l_longest : Fun K "_law_longest" "_law_longest" s_l_longest A.f_l_longest A.d_l_longest
  g_l_longest : mg "_law_longest" = some (.ref A.f_l_longest)
  b_l_longest : Binds K A.d_l_longest ["_law_row"] []
  F_l_size : Fun K "_law_size" "_law_size" s_l_size A.f_l_size A.d_l_size
  g_l_size : mg "_law_size" = some (.ref A.f_l_size)
  b_l_size : Binds K A.d_l_size ["_law_row", "_law_begin", "_law_end"] []
  F_l_alike_by : Fun K "_law_alike_by" "_law_alike_by" s_l_alike_by A.f_l_alike_by A.d_l_alike_by
  g_l_alike_by : mg "_law_alike_by" = some (.ref A.f_l_alike_by)
  b_l_alike_by : Binds K A.d_l_alike_by ["_law_cell", "_law_size_here"] []
  F_l_wide_by : Fun K "_law_wide_by" "_law_wide_by" s_l_wide_by A.f_l_wide_by A.d_l_wide_by
  g_l_wide_by : mg "_law_wide_by" = some (.ref A.f_l_wide_by)
  b_l_wide_by : Binds K A.d_l_wide_by ["_law_more", "_law_k"] []
  F_l_words_by : Fun K "_law_words_by" "_law_words_by" s_l_words_by A.f_l_words_by A.d_l_words_by
  g_l_words_by : mg "_law_words_by" = some (.ref A.f_l_words_by)
  b_l_words_by : Binds K A.d_l_words_by ["_law_cells", "_law_more"] []
  F_l_kind : Fun K "_law_kind" "_law_kind" s_l_kind A.f_l_kind A.d_l_kind
  g_l_kind : mg "_law_kind" = some (.ref A.f_l_kind)
  b_l_kind : Binds K A.d_l_kind ["_law_e"] []
  F_l_refused : Fun K "_law_refused" "_law_refused" s_l_refused A.f_l_refused A.d_l_refused
  g_l_refused : mg "_law_refused" = some (.ref A.f_l_refused)
  b_l_refused : Binds K A.d_l_refused ["_law_row", "_law_width"] []
  F_l_first_long : Fun K "_law_first_long" "_law_first_long" s_l_first_long A.f_l_first_long A.d_l_first_long
  g_l_first_long : mg "_law_first_long" = some (.ref A.f_l_first_long)
  b_l_first_long : Binds K A.d_l_first_long ["_law_row", "_law_width"] []
  F_law : Fun K "law" "law" s_law A.f_law A.d_law
  g_law : mg "law" = some (.ref A.f_law)
  b_law : Binds K A.d_law ["_law_script"] []
  m_ValueError : mg "ValueError" = none
  m_bool : mg "bool" = none
  m_enumerate : mg "enumerate" = none
  m_int : mg "int" = none
  m_isinstance : mg "isinstance" = none
  m_len : mg "len" = none
  m_list : mg "list" = none
  m_max : mg "max" = none
  m_range : mg "range" = none
  m_sum : mg "sum" = none
  gc_WrapError : mg "WrapError" = some (.ref A.c_WrapError)
  gc_NoWidth : mg "NoWidth" = some (.ref A.c_NoWidth)
  gc_LongWord : mg "LongWord" = some (.ref A.c_LongWord)
  gc_NoStarts : mg "NoStarts" = some (.ref A.c_NoStarts)
  gc_TooWide : mg "TooWide" = some (.ref A.c_TooWide)
  gc_TooFew : mg "TooFew" = some (.ref A.c_TooFew)
  gc_TooMany : mg "TooMany" = some (.ref A.c_TooMany)
  gc_NoPlace : mg "NoPlace" = some (.ref A.c_NoPlace)
  gc_NoWord : mg "NoWord" = some (.ref A.c_NoWord)
  gc_Full : mg "Full" = some (.ref A.c_Full)
  gc_NoWayBack : mg "NoWayBack" = some (.ref A.c_NoWayBack)
  hd_WrapError : PySem.W.hasDictIn K A.c_WrapError = true
  ty_WrapError : PySem.W.typeIn K (.ref A.c_WrapError) = some (.type "type")
  hd_NoWidth : PySem.W.hasDictIn K A.c_NoWidth = true
  ty_NoWidth : PySem.W.typeIn K (.ref A.c_NoWidth) = some (.type "type")
  hd_LongWord : PySem.W.hasDictIn K A.c_LongWord = true
  ty_LongWord : PySem.W.typeIn K (.ref A.c_LongWord) = some (.type "type")
  hd_NoStarts : PySem.W.hasDictIn K A.c_NoStarts = true
  ty_NoStarts : PySem.W.typeIn K (.ref A.c_NoStarts) = some (.type "type")
  hd_TooWide : PySem.W.hasDictIn K A.c_TooWide = true
  ty_TooWide : PySem.W.typeIn K (.ref A.c_TooWide) = some (.type "type")
  hd_TooFew : PySem.W.hasDictIn K A.c_TooFew = true
  ty_TooFew : PySem.W.typeIn K (.ref A.c_TooFew) = some (.type "type")
  hd_TooMany : PySem.W.hasDictIn K A.c_TooMany = true
  ty_TooMany : PySem.W.typeIn K (.ref A.c_TooMany) = some (.type "type")
  hd_NoPlace : PySem.W.hasDictIn K A.c_NoPlace = true
  ty_NoPlace : PySem.W.typeIn K (.ref A.c_NoPlace) = some (.type "type")
  hd_NoWord : PySem.W.hasDictIn K A.c_NoWord = true
  ty_NoWord : PySem.W.typeIn K (.ref A.c_NoWord) = some (.type "type")
  hd_Full : PySem.W.hasDictIn K A.c_Full = true
  ty_Full : PySem.W.typeIn K (.ref A.c_Full) = some (.type "type")
  hd_NoWayBack : PySem.W.hasDictIn K A.c_NoWayBack = true
  ty_NoWayBack : PySem.W.typeIn K (.ref A.c_NoWayBack) = some (.type "type")
  bw : PySem.W.subIn K (.ref A.c_WrapError) (.type "BaseException") = some true
  ex_NoWidth : ExF K A.c_NoWidth
  sv_NoWidth : PySem.W.subIn K (.ref A.c_NoWidth) (.type "ValueError") = some true
  sb_NoWidth_WrapError : PySem.W.subIn K (.ref A.c_NoWidth) (.ref A.c_WrapError) = some true
  sb_NoWidth_NoWidth : PySem.W.subIn K (.ref A.c_NoWidth) (.ref A.c_NoWidth) = some true
  sb_NoWidth_LongWord : PySem.W.subIn K (.ref A.c_NoWidth) (.ref A.c_LongWord) = some false
  ne_NoWidth_LongWord : A.c_NoWidth ≠ A.c_LongWord
  sb_NoWidth_NoStarts : PySem.W.subIn K (.ref A.c_NoWidth) (.ref A.c_NoStarts) = some false
  ne_NoWidth_NoStarts : A.c_NoWidth ≠ A.c_NoStarts
  sb_NoWidth_TooWide : PySem.W.subIn K (.ref A.c_NoWidth) (.ref A.c_TooWide) = some false
  ne_NoWidth_TooWide : A.c_NoWidth ≠ A.c_TooWide
  sb_NoWidth_TooFew : PySem.W.subIn K (.ref A.c_NoWidth) (.ref A.c_TooFew) = some false
  ne_NoWidth_TooFew : A.c_NoWidth ≠ A.c_TooFew
  sb_NoWidth_TooMany : PySem.W.subIn K (.ref A.c_NoWidth) (.ref A.c_TooMany) = some false
  ne_NoWidth_TooMany : A.c_NoWidth ≠ A.c_TooMany
  sb_NoWidth_NoPlace : PySem.W.subIn K (.ref A.c_NoWidth) (.ref A.c_NoPlace) = some false
  ne_NoWidth_NoPlace : A.c_NoWidth ≠ A.c_NoPlace
  sb_NoWidth_NoWord : PySem.W.subIn K (.ref A.c_NoWidth) (.ref A.c_NoWord) = some false
  ne_NoWidth_NoWord : A.c_NoWidth ≠ A.c_NoWord
  sb_NoWidth_Full : PySem.W.subIn K (.ref A.c_NoWidth) (.ref A.c_Full) = some false
  ne_NoWidth_Full : A.c_NoWidth ≠ A.c_Full
  sb_NoWidth_NoWayBack : PySem.W.subIn K (.ref A.c_NoWidth) (.ref A.c_NoWayBack) = some false
  ne_NoWidth_NoWayBack : A.c_NoWidth ≠ A.c_NoWayBack
/-! ### the words that a law makes of its cells -/
/-- a word of the law's: of signs of words, of one to 300 -/
def Wd (z : Str) : Prop := (∀ c ∈ TL.tl z, Ws c) ∧ 1 ≤ z.length ∧ z.length ≤ 300
theorem Wd.txs {z : Str} (h : Wd z) : Txs z := fun c hc => .inr (.inr (h.1 c hc))
theorem Wd.lt {z : Str} (h : Wd z) : ∀ c ∈ TL.tl z, c < 1114112 := h.txs.lt
def one (c : Nat) : Str := ⟨#[c]⟩
theorem one_len (c : Nat) : (one c).length = 1 := rfl
theorem sum_ones (n : Nat) (g : Nat → Nat) : (((List.range n).map fun i => one (g i)).map (·.length)).sum = n := by
  rw [List.map_map]
  induction n with
  | zero => rfl
  | succ m ih => rw [List.range_succ, List.map_append, List.sum_append, ih] <;> rfl
theorem ws_join {ps : List Str} (h : ∀ p ∈ ps, ∀ c ∈ TL.tl p, Ws c) : ∀ c ∈ TL.tl (Txt.join Str.empty ps), Ws c := fun c hc => by
  rw [TL.join_eq, TL.tl_join] at hc
  rcases joinL_mem _ _ c hc with q | ⟨p, q, q2⟩
  · simp [TL.tl, Str.empty] at q
  · obtain ⟨z, hz, rfl⟩ := List.mem_map.mp q
    exact h z hz c q2
theorem ws_mul {z : Str} (h : ∀ c ∈ TL.tl z, Ws c) (k : Int) : ∀ c ∈ TL.tl (Txt.mul z k), Ws c := fun c hc => by
  unfold Txt.mul at hc
  split at hc
  · simp [TL.tl, Str.empty] at hc
  · split at hc
    · exact h c hc
    · have go : ∀ (n : Nat) (acc : Array Nat), (∀ d ∈ acc.toList, Ws d) → ∀ d ∈ ((List.replicate n z.cps).foldl (· ++ ·) acc).toList, Ws d := by
        intro n
        induction n with
        | zero => exact fun acc ha => ha
        | succ n ih =>
          intro acc ha
          rw [List.replicate_succ, List.foldl_cons]
          refine ih _ fun d hd => ?_
          rw [Array.toList_append] at hd
          rcases List.mem_append.mp hd with hd | hd
          · exact ha d hd
          · exact h d hd
      exact go _ _ (fun d hd => by simp at hd) c hc
theorem ws_one (c : Int) : ∀ d ∈ TL.tl (one (sgn c)), Ws d := fun d hd => by
  rw [show TL.tl (one (sgn c)) = [sgn c] from rfl] at hd
  rw [List.mem_singleton.mp hd]
  exact sgn_ws c
theorem ws_app {x y : Str} (h : ∀ c ∈ TL.tl x, Ws c) (k : ∀ c ∈ TL.tl y, Ws c) : ∀ c ∈ TL.tl (x ++ y), Ws c := fun c hc => by
  rw [TL.tl_append] at hc
  rcases List.mem_append.mp hc with hc | hc
  · exact h c hc
  · exact k c hc
theorem len_mul1 {z : Str} (hz : z.length = 1) {k : Int} (hk : 0 ≤ k) : ((Txt.mul z k).length : Int) = k := by
  have e := len_mul z k
  rw [hz, if_neg (by simp; omega)] at e
  omega
def wsize (c : Int) : Int := if c / 7 % 81 = 2 then 1 + c / 567 % 300 else if c / 7 % 9 = 1 then 1 + c / 63 % 40 else 1 + c % 7
theorem wsize_in (c : Int) : 1 ≤ wsize c ∧ wsize c ≤ 300 := by
  unfold wsize
  split
  · omega
  · split <;> omega
def wordOf (c : Int) : Str := Txt.join Str.empty ((List.range (wsize c).toNat).map fun (i : Nat) => one (sgn (c / 3 + (i : Int) * (1 + c % 5))))
theorem wordOf_wd (c : Int) : Wd (wordOf c) := by
  have h := wsize_in c
  have e : (wordOf c).length = (wsize c).toNat := by
    unfold wordOf
    rw [len_join0, sum_ones (wsize c).toNat fun i => sgn (c / 3 + (i : Int) * (1 + c % 5))]
  refine ⟨ws_join fun p hp => ?_, by omega, by omega⟩
  obtain ⟨i, _, rfl⟩ := List.mem_map.mp hp
  exact ws_one _
def signA : Str := ⟨#[97]⟩
theorem signA_eq : Str.ofString "a" = signA := by decide +kernel
theorem ws_a : ∀ d ∈ TL.tl signA, Ws d := by
  intro d hd
  rw [show TL.tl signA = [97] from rfl] at hd
  rw [List.mem_singleton.mp hd]
  exact ⟨by decide, by decide⟩
def alikeOf (c s : Int) : Str := Txt.mul signA (c / 93 % s) ++ one (sgn c) ++ Txt.mul signA (s - 1 - c / 93 % s)
theorem alikeOf_wd (c : Int) {s : Int} (h1 : 1 ≤ s) (h2 : s ≤ 4) : Wd (alikeOf c s) := by
  have a0 : 0 ≤ c / 93 % s := Int.emod_nonneg _ (by omega)
  have a1 : c / 93 % s < s := Int.emod_lt_of_pos _ (by omega)
  have l1 := len_mul1 (z := signA) rfl a0
  have l2 := len_mul1 (z := signA) rfl (show 0 ≤ s - 1 - c / 93 % s by omega)
  refine ⟨ws_app (ws_app (ws_mul ws_a _) (ws_one c)) (ws_mul ws_a _), ?_, ?_⟩
  · unfold alikeOf
    rw [len_app, len_app, one_len]
    omega
  · unfold alikeOf
    rw [len_app, len_app, one_len]
    omega
def wideOf (m k : Int) : Int := 1 + (m + k * k) % 3 + 5 * (if k % 7 = m % 7 then 1 else 0)
theorem wideOf_in (m k : Int) : 1 ≤ wideOf m k ∧ wideOf m k ≤ 8 := by
  unfold wideOf
  split <;> omega
def manyOf (m : Int) : Int := m * 48271 % 9973 % (if m / 12 % 4 = 3 then 1600 else 450)
theorem manyOf_in (m : Int) : 0 ≤ manyOf m ∧ manyOf m < 1600 := by
  unfold manyOf
  split <;> omega
def row0 (cells : List Int) (m : Int) : List Str := if m % 4 = 1 then ((List.replicate 6 (cells.map wordOf)).flatten).take (m / 4 % 150).toNat else cells.map wordOf
def row1 (cells : List Int) (m : Int) : List Str := if m % 4 = 2 then cells.map fun c => alikeOf c (1 + m / 4 % 4) else row0 cells m
def wordsOf (cells : List Int) (m : Int) : List Str := if m % 12 = 3 then (List.range (manyOf m).toNat).map fun (k : Nat) => Txt.mul (one (sgn (m + (k : Int)))) (wideOf m (k : Int)) else row1 cells m
theorem words_wd (cells : List Int) (m : Int) : ∀ z ∈ wordsOf cells m, Wd z := by
  have h0 : ∀ z ∈ cells.map wordOf, Wd z := fun z hz => by
    obtain ⟨c, _, rfl⟩ := List.mem_map.mp hz
    exact wordOf_wd c
  have h1 : ∀ z ∈ row0 cells m, Wd z := by
    unfold row0
    split
    · intro z hz
      have hz' := List.mem_of_mem_take hz
      obtain ⟨l, hl, hzl⟩ := List.mem_flatten.mp hz'
      rw [(List.mem_replicate.mp hl).2] at hzl
      exact h0 z hzl
    · exact h0
  have h2 : ∀ z ∈ row1 cells m, Wd z := by
    unfold row1
    split
    · intro z hz
      obtain ⟨c, _, rfl⟩ := List.mem_map.mp hz
      exact alikeOf_wd c (by omega) (by omega)
    · exact h1
  unfold wordsOf
  split
  · intro z hz
    obtain ⟨k, _, rfl⟩ := List.mem_map.mp hz
    have hw := wideOf_in m (k : Int)
    have hl := len_mul1 (z := one (sgn (m + (k : Int)))) rfl (show 0 ≤ wideOf m (k : Int) by omega)
    exact ⟨ws_mul (ws_one _) _, by omega, by omega⟩
  · exact h2
theorem words_len (cells : List Int) (m : Int) (h : cells.length ≤ 63) : (wordsOf cells m).length ≤ 1600 := by
  have hm := manyOf_in m
  unfold wordsOf row1 row0
  split
  · rw [List.length_map, List.length_range]
    omega
  · split
    · rw [List.length_map]
      omega
    · split
      · rw [List.length_take]
        have : m / 4 % 150 < 150 := by omega
        omega
      · rw [List.length_map]
        omega
theorem sum_le_mul : ∀ (l : List Str) (n : Nat), (∀ z ∈ l, z.length ≤ n) → (l.map (·.length)).sum ≤ n * l.length
  | [], _, _ => Nat.zero_le _
  | a :: r, n, h => by
    have h1 := h a (List.mem_cons_self ..)
    have h2 := sum_le_mul r n fun z hz => h z (List.mem_cons_of_mem _ hz)
    rw [List.map_cons, List.sum_cons, List.length_cons, Nat.mul_succ]
    omega

local macro_rules | `(tactic| walk_at "rv") => `(tactic| (first
  | exact rv_I0
  | exact rv_I (by decide)
  | exact rv_I ⟨by omega, by omega⟩
  | exact rv_I (.inl ⟨by omega, by omega⟩)
  | exact rv_I (.inr ⟨by omega, by omega⟩)
  | exact rv_eq rfl
  | exact rv_ne rfl
  | exact rv_isB
  | exact rv_isN
  | exact rv_notN))
local macro_rules | `(tactic| walk_at "ev") => `(tactic| (first
  | exact ev_c
  | exact ev_var rfl
  | (apply ev_op; (walk_at "ev"); (walk_at "ev"); (walk_at "rv"))
  | (apply ev_un; (walk_at "ev"); (exact ru_neg))
  | (apply ev_cb; (walk_at "ea"); (walk_at "rc"))
  | (apply ev_call; (walk_at "ea"); (walk_at "sp"))))
local macro_rules | `(tactic| walk_at "ea") => `(tactic| (first
  | exact ea_nil
  | (apply ea_cons; (walk_at "ev"); (walk_at "ea"))))
local macro_rules | `(tactic| walk_at "rc") => `(tactic| (first
  | exact rc_lenL (by assumption)
  | exact rc_lenS (by omega)
  | exact rc_isStr
  | exact rc_isList (by assumption)))
local macro_rules | `(tactic| walk_at "et") => `(tactic| (first
  | (apply et_test; (walk_at "ev"))
  | (apply et_B; (walk_at "ev"))
  | (apply et_not; (walk_at "et"))))

section
variable {P : Program} {w : World} {K : PySem.W.Frag} {mg : Str → Option Value} {base : Heap} {A : Ad}
/-! ### _law_cell_at -/
def sp_cell_at (K : PySem.W.Frag) : Sp := fun vs H Q _ => ∃ (a : Addr) (ns : List Int) (j : Nat), vs = [.ref a, .int j] ∧ SqL K H a (ns.map V.int) ∧ RetV (.int (ns.getD j 0)) H Q
theorem ok_l_cell_at (T : Txt K mg A) : FnOk P w K mg base CX0 1 A.f_l_cell_at A.d_l_cell_at ["_law_script", "_law_k"] (sp_cell_at K) := by
  refine T.F_l_cell_at.ok sc_l_cell_at (fun vs H Q E h => ?_) (fun cdv Ar outer s H vs Q E hr h => ?_)
  · obtain ⟨a, ns, j, rfl, _⟩ := h
    rfl
  · obtain ⟨a, ns, j, rfl, hS, k⟩ := h
    refine ⟨_, (pss_cons (ps_if (pt_cmpR op_lt (pv 1) (pe_callB call_len_seq (by rfl) T.m_len PySem.boot_len (pa_cons (pv 0) pa_nil)) (nomark _))
  (pss_one (ps_ret (pe_ix (ixL (K := K) rfl) (pv 0) (pv 1) (fun _ _ => rfl))))
  pss_nil)
  (pss_one (ps_ret pe_int))), ?_⟩
    refine q_when (b := decide ((j : Int) < ((ns.map V.int).length : Nat))) (by walk_at "et") (fun hb H1 e1 => ?_) (fun hb H1 e1 => ?_)
    · have hj : j < ns.length := by
        have q := of_decide_eq_true hb
        rw [List.length_map] at q
        omega
      have hS1 := ex_l e1 hS
      refine s_ret (v := .int (ns.getD j 0)) (ev_op (ev_var rfl) (ev_var rfl) (rv_ixL hS1 (atI_nat ?_))) fun H2 e2 => k H2 (e1.trans e2)
      rw [List.getElem?_map, List.getD_eq_getElem?_getD, List.getElem?_eq_getElem hj] <;> rfl
    · have hj : ns.length ≤ j := by
        have q := of_decide_eq_false hb
        rw [List.length_map] at q
        omega
      refine s_ret ev_c fun H2 e2 => ?_
      have e : ns.getD j 0 = 0 := by
        rw [List.getD_eq_getElem?_getD, List.getElem?_eq_none hj] <;> rfl
      rw [e] at k
      exact k H2 (e1.trans e2)
/-! ### _law_sign_by -/
def sp_sign_by (K : PySem.W.Frag) : Sp := fun vs H Q _ => ∃ (c : Int), vs = [.int c] ∧ RetV (.str ⟨#[sgn c]⟩) H Q
def alphA : Str := "!\"#$&'()*+,-./0123456789:;<=>?@ABCDEFGHIJKLMNOPQRSTUVWXYZ[\\]^_`"
def alphB : Str := "abcdefghijklmnopqrstuvwxyz{|}~"
theorem alph_tl : (alphA ++ alphB).cps.toList = sgnL := by decide +kernel
theorem alph_len : alphA.length + alphB.length ≤ 100000 := by decide +kernel
theorem alph_len2 : (alphA ++ alphB).length ≤ 100000 := by decide +kernel
theorem ok_l_sign_by (T : Txt K mg A) : FnOk P w K mg base CX0 1 A.f_l_sign_by A.d_l_sign_by ["_law_cell"] (sp_sign_by K) := by
  refine T.F_l_sign_by.ok sc_l_sign_by (fun vs H Q E h => ?_) (fun cdv Ar outer s H vs Q E hr h => ?_)
  · obtain ⟨c, rfl, _⟩ := h
    rfl
  · obtain ⟨c, rfl, k⟩ := h
    refine ⟨_, (pss_cons (ps_set (i := 1) sc_l_sign_by.nd rfl (.inl rfl) pe_str)
  (pss_cons (ps_set (i := 1) sc_l_sign_by.nd rfl (.inl rfl) (pe_op op_add_str (pv 1) pe_str))
  (pss_one (ps_ret (pe_ix ix_str (pv 1) (pe_op op_mod (pv 0) pe_int) (fun _ _ => rfl)))))), ?_⟩
    refine q_asg (v := .str alphA) ev_c fun H1 e1 => ?_
    refine q_asg (v := .str (alphA ++ alphB)) (ev_op (ev_var rfl) ev_c (rv_addS alph_len)) fun H2 e2 => ?_
    refine s_ret (v := .str ⟨#[sgn c]⟩) (ev_op (ev_var rfl) (ev_op (ev_var rfl) ev_c (rv_I (by decide))) (rv_ixS alph_len2 ?_)) fun H3 e3 => k H3 ((e1.trans e2).trans e3)
    rw [alph_tl]
    exact at_sgn c
/-! ### the defs that make the words -/
def sp_word_by (K : PySem.W.Frag) : Sp := fun vs H Q _ => ∃ c : Int, vs = [.int c] ∧ RetV (.str (wordOf c)) H Q
theorem ok_l_word_by (T : Txt K mg A) : FnOk P w K mg base CX0 2 A.f_l_word_by A.d_l_word_by ["_law_cell"] (sp_word_by K) := by
  refine T.F_l_word_by.ok sc_l_word_by (fun vs H Q E h => ?_) (fun cdv Ar outer s H vs Q E hr h => ?_)
  · obtain ⟨c, rfl, _⟩ := h
    rfl
  · obtain ⟨c, rfl, k⟩ := h
    refine ⟨_, (pss_cons (ps_set (i := 1) sc_l_word_by.nd rfl (.inl rfl) (pe_op op_add pe_int (pe_op op_mod (pv 0) pe_int)))
  (pss_cons (ps_if (pt_cmpR op_eq (pe_op op_mod (pe_op op_fdiv (pv 0) pe_int) pe_int) pe_int (nomark _))
  (pss_one (ps_set (i := 1) sc_l_word_by.nd rfl (.inl rfl) (pe_op op_add pe_int (pe_op op_mod (pe_op op_fdiv (pv 0) pe_int) pe_int))))
  pss_nil)
  (pss_cons (ps_if (pt_cmpR op_eq (pe_op op_mod (pe_op op_fdiv (pv 0) pe_int) pe_int) pe_int (nomark _))
  (pss_one (ps_set (i := 1) sc_l_word_by.nd rfl (.inl rfl) (pe_op op_add pe_int (pe_op op_mod (pe_op op_fdiv (pv 0) pe_int) pe_int))))
  pss_nil)
  (pss_one (ps_ret (pe_join pe_str (pe_lc (own := [("_law_k", 2)]) (tt := tYes) rfl sc_l_word_by.nd (pi_range1 (by rfl) T.m_range (pa_cons (pv 1) pa_nil)) (blkOk_by (N := N_l_word_by) (sc := defScope s_l_word_by) (by decide +kernel)) (fun _ _ _ _ _ => (pg_name (i := 2) sc_l_word_by.nd rfl (.inl rfl))) (fun _ _ _ _ _ => pts_nil) (fun _ _ _ _ _ => (pe_call (ok_l_sign_by T) (hr.mono (by decide)) rfl T.g_l_sign_by T.F_l_sign_by.kp T.b_l_sign_by .nil pass0 (pa_cons (pe_op op_add (pe_op op_fdiv (pv 0) pe_int) (pe_op op_mul (pv 2) (pe_op op_add pe_int (pe_op op_mod (pv 0) pe_int)))) pa_nil)))))))))), ?_⟩
    refine q_asg (v := .int (1 + c % 7)) (by walk_at "ev") fun H1 e1 => ?_
    refine q_ifAsg (i := 1) (b := decide (V.int (c / 7 % 9) = V.int 1)) (v := .int (if c / 7 % 9 = 1 then 1 + c / 63 % 40 else 1 + c % 7)) (by walk_at "et") (fun hb => ?_) (fun hb => ?_) fun H2 e2 => ?_
    · have h := of_decide_eq_true hb
      rw [if_pos (by injection h)]
      walk_at "ev"
    · have h := of_decide_eq_false hb
      rw [if_neg (fun q => h (by rw [q]))]
      rfl
    refine q_ifAsg (i := 1) (b := decide (V.int (c / 7 % 81) = V.int 2)) (v := .int (wsize c)) (by walk_at "et") (fun hb => ?_) (fun hb => ?_) fun H3 e3 => ?_
    · have h := of_decide_eq_true hb
      have h' : c / 7 % 81 = 2 := by injection h
      have ew : wsize c = 1 + c / 567 % 300 := if_pos h'
      rw [ew]
      walk_at "ev"
    · have h := of_decide_eq_false hb
      have h' : ¬ c / 7 % 81 = 2 := fun q => h (by rw [q])
      have ew : wsize c = if c / 7 % 9 = 1 then 1 + c / 63 % 40 else 1 + c % 7 := if_neg h'
      rw [ew]
      rfl
    have hn := wsize_in c
    have hys : ((List.range (wsize c).toNat).map fun i : Nat => V.str (one (sgn (c / 3 + (i : Int) * (1 + c % 5))))) = ((List.range (wsize c).toNat).map fun i : Nat => one (sgn (c / 3 + (i : Int) * (1 + c % 5)))).map V.str := by
      rw [List.map_map] <;> rfl
    refine s_ret (v := .str (wordOf c)) (ev_joinL ev_none (el_is (el_lcR (fun i : Nat => V.str (one (sgn (c / 3 + (i : Int) * (1 + c % 5))))) (ea_cons (ev_var rfl) ea_nil) (by omega) (fun _ => rfl) fun i H4 e4 hi => ?_) hys) ?_) fun H4 e4 => k H4 (((e1.trans e2).trans e3).trans e4)
    · exact ev_call (ea_cons (x := .int (c / 3 + (i : Int) * (1 + c % 5))) (by walk_at "ev") ea_nil) fun H5 e5 Q q E => ⟨_, rfl, q⟩
    · rw [sum_ones (wsize c).toNat fun i => sgn (c / 3 + (i : Int) * (1 + c % 5))]
      show _ + _ * 0 ≤ _
      omega
def sp_alike_by (K : PySem.W.Frag) : Sp := fun vs H Q _ => ∃ c s : Int, vs = [.int c, .int s] ∧ 1 ≤ s ∧ s ≤ 4 ∧ RetV (.str (alikeOf c s)) H Q
theorem ok_l_alike_by (T : Txt K mg A) : FnOk P w K mg base CX0 2 A.f_l_alike_by A.d_l_alike_by ["_law_cell", "_law_size_here"] (sp_alike_by K) := by
  refine T.F_l_alike_by.ok sc_l_alike_by (fun vs H Q E h => ?_) (fun cdv Ar outer s H vs Q E hr h => ?_)
  · obtain ⟨c, s, rfl, _⟩ := h
    rfl
  · obtain ⟨c, sz, rfl, h1, h2, k⟩ := h
    refine ⟨_, (pss_cons (ps_set (i := 2) sc_l_alike_by.nd rfl (.inl rfl) (pe_op op_mod (pe_op op_fdiv (pv 0) pe_int) (pv 1)))
  (pss_one (ps_ret (pe_op op_add_str (pe_op op_add_str (pe_op op_mulS pe_str (pv 2)) (pe_call (ok_l_sign_by T) (hr.mono (by decide)) rfl T.g_l_sign_by T.F_l_sign_by.kp T.b_l_sign_by .nil pass0 (pa_cons (pv 0) pa_nil))) (pe_op op_mulS pe_str (pe_op op_sub (pe_op op_sub (pv 1) pe_int) (pv 2))))))), ?_⟩
    have a0 : 0 ≤ c / 93 % sz := Int.emod_nonneg _ (by omega)
    have a1 : c / 93 % sz < sz := Int.emod_lt_of_pos _ (by omega)
    have l1 := len_mul1 (z := signA) rfl a0
    have l2 := len_mul1 (z := signA) rfl (show 0 ≤ sz - 1 - c / 93 % sz by omega)
    have ea : ∀ {σ : L2.St} {H : Hp}, Ev (tC (.str (Str.ofString "a"))) σ H (.str signA) := ev_is ev_c (congrArg V.str signA_eq)
    refine q_asg (v := .int (c / 93 % sz)) (ev_op (ev_op (ev_var rfl) ev_c (rv_I ⟨by decide, by decide⟩)) (ev_var rfl) (rv_I (by omega))) fun H1 e1 => ?_
    refine s_ret (v := .str (alikeOf c sz)) (ev_op (ev_op (ev_op ea (ev_var rfl) (rv_mulS (L := 1) (N := 4) (Nat.le_refl 1) (by omega) a0 (by decide) (by decide))) (ev_call (ea_cons (ev_var rfl) ea_nil) fun H5 e5 Q q E => ⟨_, rfl, q⟩) (rv_addS ?_)) (ev_op ea (by walk_at "ev") (rv_mulS (L := 1) (N := 4) (Nat.le_refl 1) (by omega) (by omega) (by decide) (by decide))) (rv_addS ?_)) fun H4 e4 => k H4 (e1.trans e4)
    · show _ + 1 ≤ _
      omega
    · rw [len_app]
      show _ + 1 + _ ≤ _
      omega
def sp_wide_by (K : PySem.W.Frag) : Sp := fun vs H Q _ => ∃ m k : Int, vs = [.int m, .int k] ∧ 0 ≤ k ∧ k ≤ 10000 ∧ RetV (.int (wideOf m k)) H Q
theorem ok_l_wide_by (T : Txt K mg A) : FnOk P w K mg base CX0 1 A.f_l_wide_by A.d_l_wide_by ["_law_more", "_law_k"] (sp_wide_by K) := by
  refine T.F_l_wide_by.ok sc_l_wide_by (fun vs H Q E h => ?_) (fun cdv Ar outer s H vs Q E hr h => ?_)
  · obtain ⟨m, k, rfl, _⟩ := h
    rfl
  · obtain ⟨m, kk, rfl, h1, h2, k⟩ := h
    refine ⟨_, (pss_one (ps_ret (pe_op op_add (pe_op op_add pe_int (pe_op op_mod (pe_op op_add (pv 0) (pe_op op_mul (pv 1) (pv 1))) pe_int)) (pe_op op_mul pe_int (pe_callTy call_int1 (by rfl) T.m_int (by decide +kernel) (pa_cons (pe_cmpR op_eq (pe_op op_mod (pv 1) pe_int) (pe_op op_mod (pv 0) pe_int) (nomark _)) pa_nil)))))), ?_⟩
    have e : (.int (wideOf m kk) : V) = .int (1 + (m + kk * kk) % 3 + 5 * (if (decide (V.int (kk % 7) = V.int (m % 7))) = true then 1 else 0)) := by
      unfold wideOf
      by_cases h : kk % 7 = m % 7
      · rw [if_pos h, if_pos (by rw [h]; simp)]
      · rw [if_neg h, if_neg (fun q => h (by have q := of_decide_eq_true q; injection q))]
    rw [e] at k
    refine s_ret (ev_op (ev_op ev_c (by walk_at "ev") rv_I0) (ev_op ev_c (ev_cb (ea_cons (ev_op (by walk_at "ev") (by walk_at "ev") (rv_eq rfl)) ea_nil) rc_intB) (rv_I (.inl ⟨by decide, by decide⟩))) rv_I0) fun H4 e4 => k H4 e4
def sp_words_by (K : PySem.W.Frag) : Sp := fun vs H Q _ => ∃ (a : Addr) (ns : List Int) (m : Int), vs = [.ref a, .int m] ∧ SqL K H a (ns.map V.int) ∧ ns.length ≤ 63 ∧ RetL ((wordsOf ns m).map V.str) H Q
theorem ok_l_words_by (T : Txt K mg A) : FnOk P w K mg base CX0 3 A.f_l_words_by A.d_l_words_by ["_law_cells", "_law_more"] (sp_words_by K) := by
  refine T.F_l_words_by.ok sc_l_words_by (fun vs H Q E h => ?_) (fun cdv Ar outer s H vs Q E hr h => ?_)
  · obtain ⟨a, ns, m, rfl, _⟩ := h
    rfl
  · obtain ⟨a, ns, m, rfl, hS, hlen, k⟩ := h
    refine ⟨_, (pss_cons (ps_setLc (i := 2) (own := [("_law_cell", 4)]) (tt := tYes) rfl sc_l_words_by.nd rfl rfl (sw_true rfl rfl rfl (by decide +kernel)) (pi_list (pv 0)) (blkOk_by (N := N_l_words_by) (sc := defScope s_l_words_by) (by decide +kernel)) (fun _ _ _ _ _ => (pg_name (i := 4) sc_l_words_by.nd rfl (.inl rfl))) (fun _ _ _ _ _ => pts_nil) (fun _ _ _ _ _ => (pe_call (ok_l_word_by T) (hr.mono (by decide)) rfl T.g_l_word_by T.F_l_word_by.kp T.b_l_word_by .nil pass0 (pa_cons (pv 4) pa_nil))))
  (Evl.pss_cut (ps_if (pt_cmpR op_eq (pe_op op_mod (pv 1) pe_int) pe_int (nomark _))
  (pss_one (ps_set (i := 2) sc_l_words_by.nd rfl (.inl rfl) (pe_slice sl_list (pe_op op_rep (pv 2) pe_int) po_none (po_some (pe_op op_mod (pe_op op_fdiv (pv 1) pe_int) pe_int)))))
  pss_nil)
  (Evl.pss_cut (ps_if (pt_cmpR op_eq (pe_op op_mod (pv 1) pe_int) pe_int (nomark _))
  (pss_one (ps_setLc (i := 2) (own := [("_law_cell", 4)]) (tt := tYes) rfl sc_l_words_by.nd rfl rfl (sw_true rfl rfl rfl (by decide +kernel)) (pi_list (pv 0)) (blkOk_by (N := N_l_words_by) (sc := defScope s_l_words_by) (by decide +kernel)) (fun _ _ _ _ _ => (pg_name (i := 4) sc_l_words_by.nd rfl (.inl rfl))) (fun _ _ _ _ _ => pts_nil) (fun _ _ _ _ _ => (pe_call (ok_l_alike_by T) (hr.mono (by decide)) rfl T.g_l_alike_by T.F_l_alike_by.kp T.b_l_alike_by .nil pass0 (pa_cons (pv 4) (pa_cons (pe_op op_add pe_int (pe_op op_mod (pe_op op_fdiv (pv 1) pe_int) pe_int)) pa_nil))))))
  pss_nil)
  (Evl.pss_cut (ps_if (pt_cmpR op_eq (pe_op op_mod (pv 1) pe_int) pe_int (nomark _))
  (pss_cons (ps_set (i := 3) sc_l_words_by.nd rfl (.inl rfl) (pe_op op_mod (pe_op op_mod (pe_op op_mul (pv 1) pe_int) pe_int) (pe_ix (ixL (K := K) rfl) (pe_lst (pa_cons pe_int (pa_cons pe_int (pa_cons pe_int (pa_cons pe_int pa_nil))))) (pe_op op_mod (pe_op op_fdiv (pv 1) pe_int) pe_int) (fun _ _ => rfl))))
  (pss_one (ps_setLc (i := 2) (own := [("_law_k", 5)]) (tt := tYes) rfl sc_l_words_by.nd rfl rfl (sw_true rfl rfl rfl (by decide +kernel)) (pi_range1 (by rfl) T.m_range (pa_cons (pv 3) pa_nil)) (blkOk_by (N := N_l_words_by) (sc := defScope s_l_words_by) (by decide +kernel)) (fun _ _ _ _ _ => (pg_name (i := 5) sc_l_words_by.nd rfl (.inl rfl))) (fun _ _ _ _ _ => pts_nil) (fun _ _ _ _ _ => (pe_op op_mulS (pe_call (ok_l_sign_by T) (hr.mono (by decide)) rfl T.g_l_sign_by T.F_l_sign_by.kp T.b_l_sign_by .nil pass0 (pa_cons (pe_op op_add (pv 1) (pv 5)) pa_nil)) (pe_call (ok_l_wide_by T) (hr.mono (by decide)) rfl T.g_l_wide_by T.F_l_wide_by.kp T.b_l_wide_by .nil pass0 (pa_cons (pv 1) (pa_cons (pv 5) pa_nil))))))))
  pss_nil)
  (pss_one (ps_ret (pv 2))))))), ?_⟩
    have nl : (ns.map V.int).length = ns.length := List.length_map ..
    have lw : ∀ (f : Int → Str), (List.range (ns.map V.int).length).map (fun i => V.str (f (ns.getD i 0))) = (ns.map f).map V.str := fun f => by
      rw [nl, List.map_map]
      refine List.ext_getElem? fun j => ?_
      rw [List.getElem?_map, List.getElem?_map]
      by_cases hj : j < ns.length
      · rw [List.getElem?_range hj, List.getElem?_eq_getElem hj]
        show some (V.str (f (ns.getD j 0))) = some (V.str (f ns[j]))
        rw [List.getD_eq_getElem?_getD, List.getElem?_eq_getElem hj] <;> rfl
      · rw [List.getElem?_eq_none (by rw [List.length_range]; omega), List.getElem?_eq_none (by omega)] <;> rfl
    have at_ : ∀ {i : Nat} {x : V}, (ns.map V.int)[i]? = some x → x = .int (ns.getD i 0) := fun {i x} h => by
      rw [List.getElem?_map] at h
      obtain ⟨c, hc, rfl⟩ := Option.map_eq_some_iff.mp h
      rw [List.getD_eq_getElem?_getD, hc] <;> rfl
    refine q_asgL (xs := (ns.map wordOf).map V.str) (el_is (el_lcX (fun i => V.str (wordOf (ns.getD i 0))) (ev_var rfl) hS (by omega) (fun _ => rfl) fun i x H1 e1 hi => ?_) (lw wordOf)) fun p H1 p0 e1 h1 => ?_
    · rw [at_ hi]
      exact ev_call (ea_cons (ev_var rfl) ea_nil) fun H5 e5 Q q E => ⟨_, rfl, q⟩
    have mk : ∀ {l : List Str} {H2 : Hp} {q : Addr} {b c d : Option V}, Ex H H2 → H q = none → H2 q = some (.lst (l.map V.str)) → ∃ b' c' d' q', ([some (V.ref a), some (.int m), some (.ref q), b, c, d] : L2.St) = [some (.ref a), some (.int m), some (.ref q'), b', c', d'] ∧ Ex H H2 ∧ H q' = none ∧ H2 q' = some (.lst (l.map V.str)) := fun e q0 h => ⟨_, _, _, _, rfl, e, q0, h⟩
    -- six times, cut
    refine q_cut (M := fun σ2 H2 => ∃ b' c' d' q', σ2 = [some (.ref a), some (.int m), some (.ref q'), b', c', d'] ∧ Ex H H2 ∧ H q' = none ∧ H2 q' = some (.lst ((row0 ns m).map V.str))) ?_ ?_
    · refine s_when (b := decide (V.int (m % 4) = V.int 1)) (by walk_at "et") (fun hb H2 e2 => ?_) (fun hb H2 e2 => ?_)
      · have hm : m % 4 = 1 := by
          have h := of_decide_eq_true hb
          injection h
        have er : row0 ns m = ((List.replicate 6 (ns.map wordOf)).flatten).take (m / 4 % 150).toNat := if_pos hm
        have hx : cutV ((List.replicate 6 ((ns.map wordOf).map V.str)).flatten) none (some (m / 4 % 150)) = (row0 ns m).map V.str := by
          have e6 : (List.replicate 6 ((ns.map wordOf).map V.str)).flatten = ((List.replicate 6 (ns.map wordOf)).flatten).map V.str := by
            rw [List.map_flatten, List.map_replicate]
          have h0 : m / 4 % 150 = ((m / 4 % 150).toNat : Int) := by omega
          rw [er, e6, h0, cutV, HT.sIx_none, HT.sIx_nat, List.drop_zero, Nat.sub_zero, ← List.map_take, Int.toNat_natCast]
          congr 1
          rw [List.length_map]
          rcases Nat.le_total (m / 4 % 150).toNat ((List.replicate 6 (ns.map wordOf)).flatten).length with q | q
          · rw [Nat.min_eq_left q]
          · rw [Nat.min_eq_right q, List.take_of_length_le q, List.take_length]
        refine s_asgL (xs := (row0 ns m).map V.str) ?_ fun q H3 q0 e3 h3 => mk (e1.trans (e2.trans e3)) (fresh_back (e1.trans e2) q0) h3
        rw [← hx]
        refine el_slN (fun H3 e3 Q q => ?_) eo_none (eo_some (by walk_at "ev"))
        exact ⟨.ref p, rfl, p, 6, _, rfl, rfl, e3 _ _ (e2 _ _ h1), by decide, by decide, sz_of (by rw [List.length_map, List.length_map]; show ns.length * 6 ≤ 100000; omega), fun q' hq' => q q' _ hq' (Ex.new hq') upd_same⟩
      · have hm : ¬ m % 4 = 1 := fun q => (of_decide_eq_false hb) (by rw [q])
        have er : row0 ns m = ns.map wordOf := if_neg hm
        rw [er]
        exact mk (e1.trans e2) p0 (e2 _ _ h1)
    rintro σ2 H2 ⟨b', c', d', q2, rfl, e2, q20, h2⟩
    -- alike
    refine q_cut (M := fun σ2 H2 => ∃ b' c' d' q', σ2 = [some (.ref a), some (.int m), some (.ref q'), b', c', d'] ∧ Ex H H2 ∧ H q' = none ∧ H2 q' = some (.lst ((row1 ns m).map V.str))) ?_ ?_
    · refine s_when (b := decide (V.int (m % 4) = V.int 2)) (by walk_at "et") (fun hb H3 e3 => ?_) (fun hb H3 e3 => ?_)
      · have hm : m % 4 = 2 := by
          have h := of_decide_eq_true hb
          injection h
        have er : row1 ns m = ns.map fun c => alikeOf c (1 + m / 4 % 4) := if_pos hm
        rw [er]
        refine s_asgL (xs := (ns.map fun c => alikeOf c (1 + m / 4 % 4)).map V.str) (el_is (el_lcX (fun i => V.str (alikeOf (ns.getD i 0) (1 + m / 4 % 4))) (ev_var rfl) (ex_l (e2.trans e3) hS) (by omega) (fun _ => rfl) fun i x H4 e4 hi => ?_) (lw fun c => alikeOf c (1 + m / 4 % 4))) fun q H5 q0 e5 h5 => mk (e2.trans (e3.trans e5)) (fresh_back (e2.trans e3) q0) h5
        rw [at_ hi]
        exact ev_call (ea_cons (ev_var rfl) (ea_cons (by walk_at "ev") ea_nil)) fun H5 e5 Q q E => ⟨_, _, rfl, by omega, by omega, q⟩
      · have hm : ¬ m % 4 = 2 := fun q => (of_decide_eq_false hb) (by rw [q])
        have er : row1 ns m = row0 ns m := if_neg hm
        rw [er]
        exact mk (e2.trans e3) q20 (e3 _ _ h2)
    rintro σ3 H3 ⟨b3, c3, d3, q3, rfl, e3, q30, h3⟩
    -- of one sign
    refine q_cut (M := fun σ2 H2 => ∃ x3 x4 x5 q', σ2 = [some (.ref a), some (.int m), some (.ref q'), x3, x4, x5] ∧ Ex H H2 ∧ H q' = none ∧ H2 q' = some (.lst ((wordsOf ns m).map V.str))) ?_ ?_
    · refine s_when (b := decide (V.int (m % 12) = V.int 3)) (by walk_at "et") (fun hb H4 e4 => ?_) (fun hb H4 e4 => ?_)
      · have hm : m % 12 = 3 := by
          have h := of_decide_eq_true hb
          injection h
        have er : wordsOf ns m = (List.range (manyOf m).toNat).map fun (k : Nat) => Txt.mul (one (sgn (m + (k : Int)))) (wideOf m (k : Int)) := if_pos hm
        rw [er]
        have hmi := manyOf_in m
        have hj : 0 ≤ m / 12 % 4 ∧ m / 12 % 4 < 4 := by omega
        have hat : atI [V.int 450, V.int 450, V.int 450, V.int 1600] (m / 12 % 4) = some (.int (if m / 12 % 4 = 3 then 1600 else 450)) := by
          have hc : m / 12 % 4 = 0 ∨ m / 12 % 4 = 1 ∨ m / 12 % 4 = 2 ∨ m / 12 % 4 = 3 := by omega
          rcases hc with h | h | h | h <;> rw [h] <;> decide +kernel
        refine q_asg (v := .int (manyOf m)) (ev_op (ev_op (ev_op (ev_var rfl) ev_c (rv_I (.inr ⟨by decide, by decide⟩))) ev_c (rv_I (by decide))) (ev_opL1 (xs := [V.int 450, V.int 450, V.int 450, V.int 1600]) (y := .int (m / 12 % 4)) (el_lst (ea_cons ev_c (ea_cons ev_c (ea_cons ev_c (ea_cons ev_c ea_nil)))) (Nat.le_of_ble_eq_true rfl)) (fun H5 e5 => by walk_at "ev") fun q H5 hq e5 => rv_ixL (sq_of hq) hat) (rv_I ?_)) fun H5 e5 => ?_
        · split <;> decide
        have hys : ((List.range (manyOf m).toNat).map fun (k : Nat) => V.str (Txt.mul (one (sgn (m + (k : Int)))) (wideOf m (k : Int)))) = ((List.range (manyOf m).toNat).map fun (k : Nat) => Txt.mul (one (sgn (m + (k : Int)))) (wideOf m (k : Int))).map V.str := by
          rw [List.map_map] <;> rfl
        refine s_asgL (xs := ((List.range (manyOf m).toNat).map fun (k : Nat) => Txt.mul (one (sgn (m + (k : Int)))) (wideOf m (k : Int))).map V.str) (el_is (el_lcR (fun (k : Nat) => V.str (Txt.mul (one (sgn (m + (k : Int)))) (wideOf m (k : Int)))) (ea_cons (ev_var rfl) ea_nil) (by omega) (fun _ => rfl) fun i H6 e6 hi => ?_) hys) fun q H6 q0 e6 h6 => ?_
        · have hw := wideOf_in m (i : Int)
          exact ev_op (x := .str (one (sgn (m + (i : Int))))) (y := .int (wideOf m (i : Int))) (ev_call (ea_cons (by walk_at "ev") ea_nil) fun H5 e5 Q q E => ⟨_, rfl, q⟩) (ev_call (ea_cons (ev_var rfl) (ea_cons (ev_var rfl) ea_nil)) fun H5 e5 Q q E => ⟨_, _, rfl, by omega, by omega, q⟩) (rv_mulS (L := 1) (N := 8) (Nat.le_refl 1) (by omega) (by omega) (by decide) (by decide))
        · exact ⟨_, _, _, _, rfl, e3.trans ((e4.trans e5).trans e6), fresh_back (e3.trans (e4.trans e5)) q0, h6⟩
      · have hm : ¬ m % 12 = 3 := fun q => (of_decide_eq_false hb) (by rw [q])
        have er : wordsOf ns m = row1 ns m := if_neg hm
        rw [er]
        exact ⟨_, _, _, _, rfl, e3.trans e4, q30, e4 _ _ h3⟩
    rintro σ4 H4 ⟨x3, x4, x5, q4, rfl, e4, q40, h4⟩
    exact s_ret (v := .ref q4) (ev_var rfl) fun H5 e5 => k q4 H5 q40 (e4.trans e5) (e5 _ _ h4)

/-! ### _law_kind: the refusal by its number -/
def kinds (A : Ad) : List Addr := [A.c_NoWidth, A.c_LongWord, A.c_NoStarts, A.c_TooWide, A.c_TooFew, A.c_TooMany, A.c_NoPlace, A.c_NoWord, A.c_Full, A.c_NoWayBack]
theorem kind_sum (j : Nat) (hj : j < 10) : ((List.range 10).map fun k : Nat => (11 + (k : Int)) * (if decide (k = j) = true then 1 else 0)).sum = 11 + (j : Int) := by
  have h : j = 0 ∨ j = 1 ∨ j = 2 ∨ j = 3 ∨ j = 4 ∨ j = 5 ∨ j = 6 ∨ j = 7 ∨ j = 8 ∨ j = 9 := by omega
  rcases h with h | h | h | h | h | h | h | h | h | h <;> rw [h] <;> decide
theorem ok_l_kind (T : Txt K mg A) : FnP P w K mg base CX0 1 A.f_l_kind A.d_l_kind ["_law_e"] (sp_kind K (kinds A)) := by
  refine Fun.okP T.F_l_kind sc_l_kind (fun a c d vs H Q E h => ?_) (fun cdv Ar outer s H vs Q E p c d hz hot h => ?_)
  · obtain ⟨Dd, j, _, _, rfl, _⟩ := h
    rfl
  · obtain ⟨Dd, j, hc, hd, rfl, hec, hj, hk, k⟩ := h
    have hfp : ∃ vs, p.2.data = .fields vs := ⟨hot.2.choose, hot.2.choose_spec.1⟩
    have hcx : HotC (cxH CX0 P w K mg base N_l_kind "_law_kind" (defScope s_l_kind) A.f_l_kind cdv Ar outer s H E p) := ⟨p, hot, List.mem_singleton.mpr rfl⟩
    have hcx := hcx
    refine ⟨_, (pss_cons (ps_set (i := 1) sc_l_kind.nd rfl (.inr rfl) (pe_lst (pa_cons (pe_callB (call_isP (K := K) rfl (List.mem_singleton.mpr rfl) hz hfp) (by rfl) T.m_isinstance (by decide +kernel) (pa_cons (pv 0) (pa_cons (pe_glob (v := .ref A.c_NoWidth) rfl T.gc_NoWidth rfl) pa_nil))) (pa_cons (pe_callB (call_isP (K := K) rfl (List.mem_singleton.mpr rfl) hz hfp) (by rfl) T.m_isinstance (by decide +kernel) (pa_cons (pv 0) (pa_cons (pe_glob (v := .ref A.c_LongWord) rfl T.gc_LongWord rfl) pa_nil))) (pa_cons (pe_callB (call_isP (K := K) rfl (List.mem_singleton.mpr rfl) hz hfp) (by rfl) T.m_isinstance (by decide +kernel) (pa_cons (pv 0) (pa_cons (pe_glob (v := .ref A.c_NoStarts) rfl T.gc_NoStarts rfl) pa_nil))) (pa_cons (pe_callB (call_isP (K := K) rfl (List.mem_singleton.mpr rfl) hz hfp) (by rfl) T.m_isinstance (by decide +kernel) (pa_cons (pv 0) (pa_cons (pe_glob (v := .ref A.c_TooWide) rfl T.gc_TooWide rfl) pa_nil))) pa_nil))))))
  (pss_cons (ps_set (i := 1) sc_l_kind.nd rfl (.inr rfl) (pe_op op_cat (pv 1) (pe_lst (pa_cons (pe_callB (call_isP (K := K) rfl (List.mem_singleton.mpr rfl) hz hfp) (by rfl) T.m_isinstance (by decide +kernel) (pa_cons (pv 0) (pa_cons (pe_glob (v := .ref A.c_TooFew) rfl T.gc_TooFew rfl) pa_nil))) (pa_cons (pe_callB (call_isP (K := K) rfl (List.mem_singleton.mpr rfl) hz hfp) (by rfl) T.m_isinstance (by decide +kernel) (pa_cons (pv 0) (pa_cons (pe_glob (v := .ref A.c_TooMany) rfl T.gc_TooMany rfl) pa_nil))) (pa_cons (pe_callB (call_isP (K := K) rfl (List.mem_singleton.mpr rfl) hz hfp) (by rfl) T.m_isinstance (by decide +kernel) (pa_cons (pv 0) (pa_cons (pe_glob (v := .ref A.c_NoPlace) rfl T.gc_NoPlace rfl) pa_nil))) (pa_cons (pe_callB (call_isP (K := K) rfl (List.mem_singleton.mpr rfl) hz hfp) (by rfl) T.m_isinstance (by decide +kernel) (pa_cons (pv 0) (pa_cons (pe_glob (v := .ref A.c_NoWord) rfl T.gc_NoWord rfl) pa_nil))) pa_nil)))))))
  (pss_cons (ps_set (i := 1) sc_l_kind.nd rfl (.inr rfl) (pe_op op_cat (pv 1) (pe_lst (pa_cons (pe_callB (call_isP (K := K) rfl (List.mem_singleton.mpr rfl) hz hfp) (by rfl) T.m_isinstance (by decide +kernel) (pa_cons (pv 0) (pa_cons (pe_glob (v := .ref A.c_Full) rfl T.gc_Full rfl) pa_nil))) (pa_cons (pe_callB (call_isP (K := K) rfl (List.mem_singleton.mpr rfl) hz hfp) (by rfl) T.m_isinstance (by decide +kernel) (pa_cons (pv 0) (pa_cons (pe_glob (v := .ref A.c_NoWayBack) rfl T.gc_NoWayBack rfl) pa_nil))) pa_nil)))))
  (pss_one (ps_ret (pe_callB (cr_sumH hcx) (by rfl) T.m_sum (by decide +kernel) (pa_cons (pe_lcH (own := [("_law_k", 2)]) (tt := tYes) hcx sc_l_kind.nd (pi_range1H (by rfl) T.m_range (pa_cons pe_int pa_nil)) (blkOk_by (N := N_l_kind) (sc := defScope s_l_kind) (by decide +kernel)) (fun _ _ _ _ _ => (pg_name (i := 2) sc_l_kind.nd rfl (.inl rfl))) (fun _ _ _ _ _ => pts_nil) (fun _ _ _ _ _ => (pe_op op_mul (pe_op op_add pe_int (pv 2)) (pe_callTy call_int1 (by rfl) T.m_int (by decide +kernel) (pa_cons (pe_ix (ixL (K := K) rfl) (pv 1) (pv 2) (fun _ _ => rfl)) pa_nil))))) pa_nil))))))), ?_⟩
    have one_ : ∀ (i : Nat) (C : Addr) {σ : L2.St} {H' : Hp}, (kinds A)[i]? = some C → σ[0]? = some (some (.ref p.1)) → Ev (tCB (rIsP K c d p.1) (tCons (tVar 0) (tCons (tC (.ref C)) tNil))) σ H' (.bl (decide (i = j))) := fun i C σ H' hi h0 =>
      ev_cb (ea_cons (ev_var h0) (ea_cons ev_c ea_nil)) (rc_isP hc hd hec (hk i C hi))
    refine q_asgL (xs := [.bl (decide (0 = j)), .bl (decide (1 = j)), .bl (decide (2 = j)), .bl (decide (3 = j))]) (el_lst (ea_cons (one_ 0 _ rfl rfl) (ea_cons (one_ 1 _ rfl rfl) (ea_cons (one_ 2 _ rfl rfl) (ea_cons (one_ 3 _ rfl rfl) ea_nil)))) (show 4 ≤ 100000 by decide)) fun l1 H1 p1 e1 h1 => ?_
    refine q_asgL (el_cat (ev_var rfl) h1 (el_lst (ea_cons (one_ 4 _ rfl rfl) (ea_cons (one_ 5 _ rfl rfl) (ea_cons (one_ 6 _ rfl rfl) (ea_cons (one_ 7 _ rfl rfl) ea_nil)))) (show 4 ≤ 100000 by decide)) (show 4 + 4 ≤ 100000 by decide)) fun l2 H2 p2 e2 h2 => ?_
    refine q_asgL (el_cat (ev_var rfl) h2 (el_lst (ea_cons (one_ 8 _ rfl rfl) (ea_cons (one_ 9 _ rfl rfl) ea_nil)) (show 2 ≤ 100000 by decide)) (show 8 + 2 ≤ 100000 by decide)) fun l3 H3 p3 e3 h3 => ?_
    have hfl : ∀ i : Nat, i < 10 → ([V.bl (decide (0 = j)), .bl (decide (1 = j)), .bl (decide (2 = j)), .bl (decide (3 = j))] ++ [V.bl (decide (4 = j)), .bl (decide (5 = j)), .bl (decide (6 = j)), .bl (decide (7 = j))] ++ [V.bl (decide (8 = j)), .bl (decide (9 = j))])[i]? = some (.bl (decide (i = j))) := fun i hi => by
      have h : i = 0 ∨ i = 1 ∨ i = 2 ∨ i = 3 ∨ i = 4 ∨ i = 5 ∨ i = 6 ∨ i = 7 ∨ i = 8 ∨ i = 9 := by omega
      rcases h with h | h | h | h | h | h | h | h | h | h <;> rw [h] <;> rfl
    have ks := kind_sum j hj
    refine s_ret (v := .int (11 + (j : Int))) (ev_is (ev_sumN (ns := (List.range 10).map fun k : Nat => (11 + (k : Int)) * (if decide (k = j) = true then 1 else 0)) (el_is (el_lcR (n := 10) (fun k : Nat => V.int ((11 + (k : Int)) * (if decide (k = j) = true then 1 else 0))) (ea_cons ev_c ea_nil) (by decide) (fun _ => rfl) fun i H4 e4 hi => ?_) (by rw [List.map_map] <;> rfl))) (by rw [ks])) fun H4 e4 => k H4 (((e1.trans e2).trans e3).trans e4)
    refine ev_op (ev_op ev_c (ev_var rfl) rv_I0) (ev_cb (ea_cons (ev_op (ev_var rfl) (ev_var rfl) (rv_ixL (sq_of (e4 _ _ h3)) (atI_nat (hfl i (by omega))))) ea_nil) rc_intB) (rv_I (.inl ⟨by omega, by omega⟩))

/-! ### small defs of the law -/
def sp_whole (K : PySem.W.Frag) : Sp := fun vs H Q _ => ∃ i : Int, vs = [.int i] ∧ RetV (.bl true) H Q
theorem ok_l_whole (T : Txt K mg A) : FnOk P w K mg base CX0 1 A.f_l_whole A.d_l_whole ["_law_found"] (sp_whole K) := by
  refine T.F_l_whole.ok sc_l_whole (fun vs H Q E h => ?_) (fun cdv Ar outer s H vs Q E hr h => ?_)
  · obtain ⟨i, rfl, _⟩ := h
    rfl
  · obtain ⟨i, rfl, k⟩ := h
    refine ⟨_, (pss_one (ps_ret (pe_and (pe_callB call_isi (by rfl) T.m_isinstance (by decide +kernel) (pa_cons (pv 0) (pa_cons (pe_bltn (v := .ty "int") (by rfl) T.m_int (by decide +kernel) rfl) pa_nil))) (pe_one (pe_not (pe_callB call_isi (by rfl) T.m_isinstance (by decide +kernel) (pa_cons (pv 0) (pa_cons (pe_bltn (v := .ty "bool") (by rfl) T.m_bool (by decide +kernel) rfl) pa_nil)))))))), ?_⟩
    exact s_ret (v := .bl true) (ev_is (ev_andV (ev_cb (ea_cons (ev_var rfl) (ea_cons ev_c ea_nil)) rc_isInt) fun _ => ev_notV (ev_cb (ea_cons (ev_var rfl) (ea_cons ev_c ea_nil)) rc_isIntB)) rfl) fun H1 e1 => k H1 e1
def longest (ws : List Str) : Int := ws.foldl (fun (m : Int) z => max m (z.length : Int)) 0
def sp_longest (K : PySem.W.Frag) : Sp := fun vs H Q _ => ∃ (p : Addr) (ws : List Str), vs = [.ref p] ∧ SqL K H p (ws.map V.str) ∧ (∀ z ∈ ws, z.length ≤ 300) ∧ RetV (.int (longest ws)) H Q
theorem ok_l_longest (T : Txt K mg A) : FnOk P w K mg base CX0 1 A.f_l_longest A.d_l_longest ["_law_row"] (sp_longest K) := by
  refine T.F_l_longest.ok sc_l_longest (fun vs H Q E h => ?_) (fun cdv Ar outer s H vs Q E hr h => ?_)
  · obtain ⟨p, ws, rfl, _⟩ := h
    rfl
  · obtain ⟨p, ws, rfl, hS, hz, k⟩ := h
    refine ⟨_, (pss_cons (ps_set (i := 1) sc_l_longest.nd rfl (.inl rfl) pe_int)
  (pss_cons (ps_for PassesOwn.never rfl (pi_list (pv 0)) (pg_name (i := 2) sc_l_longest.nd rfl (.inl rfl))
  (pss_one (ps_set (i := 1) sc_l_longest.nd rfl (.inl rfl) (pe_callB (call_max2 rfl) (by rfl) T.m_max (by decide +kernel) (pa_cons (pv 1) (pa_cons (pe_callB call_len_str (by rfl) T.m_len PySem.boot_len (pa_cons (pv 2) pa_nil)) pa_nil))))))
  (pss_one (ps_ret (pv 1))))), ?_⟩
    refine q_asg (v := .int 0) ev_c fun H1 e1 => ?_
    refine q_forLn (ev_var rfl) (ex_l e1 hS) (fun i σ' H' => ∃ x, σ' = [some (.ref p), some (.int ((ws.take i).foldl (fun (m : Int) z => max m (z.length : Int)) 0)), x] ∧ Ex H H')
      (fun H2 e2 => ⟨none, rfl, e1.trans e2⟩) (fun i σ' H' _ ⟨_, _, e⟩ => ex_l e hS) ?_ ?_
    · rintro i x σ' H' hi ⟨x', rfl, e⟩
      obtain ⟨y, hy, rfl⟩ : ∃ y, ws[i]? = some y ∧ V.str y = x := by
        rw [List.getElem?_map] at hi
        exact Option.map_eq_some_iff.mp hi
      have hyl := hz y (List.mem_of_getElem? hy)
      have hn : (ws.take (i + 1)).foldl (fun (m : Int) z => max m (z.length : Int)) 0 = max ((ws.take i).foldl (fun (m : Int) z => max m (z.length : Int)) 0) (y.length : Int) := by
        rw [List.take_add_one, hy, List.foldl_append] <;> rfl
      refine s_asg (v := .int (max ((ws.take i).foldl (fun (m : Int) z => max m (z.length : Int)) 0) (y.length : Int))) (ev_maxx (ev_var rfl) (ev_cb (ea_cons (ev_var rfl) ea_nil) (rc_lenS (by omega)))) fun H2 e2 => ?_
      exact ⟨_, by rw [hn] <;> rfl, e.trans e2⟩
    · rintro σ' H' ⟨x, rfl, e⟩
      rw [List.length_map, List.take_length]
      exact s_ret (ev_var rfl) fun H2 e2 => k H2 (e.trans e2)
/-! ### lines -/
def blankS : Str := ⟨#[32]⟩
def lineOf (ws : List Str) (b e : Nat) : Str := Txt.join blankS ((ws.drop b).take (e - b))
def sizeN (ws : List Str) (b e : Nat) : Nat := (lineOf ws b e).length
theorem ev_blk {σ : L2.St} {H : Hp} : Ev (tC (.str (Str.ofString " "))) σ H (.str blankS) := ev_blank
theorem cut_words {ws : List Str} {b e : Nat} (h1 : b ≤ e) (h2 : e ≤ ws.length) : cutV (ws.map V.str) (some (b : Int)) (some (e : Int)) = ((ws.drop b).take (e - b)).map V.str := by
  unfold cutV
  rw [HT.sIx_nat, HT.sIx_nat, List.length_map, Nat.min_eq_left h2, Nat.min_eq_left (by omega), ← List.map_drop, ← List.map_take]
theorem line_fits {ws : List Str} (hz : ∀ z ∈ ws, z.length ≤ 300) (hl : ws.length ≤ 2000) (b e : Nat) : (((ws.drop b).take (e - b)).map (·.length)).sum + ((ws.drop b).take (e - b)).length * blankS.length ≤ 1000000 := by
  have h1 := sum_le_mul ((ws.drop b).take (e - b)) 300 fun z hz' => hz z (List.mem_of_mem_drop (List.mem_of_mem_take hz'))
  have h2 : ((ws.drop b).take (e - b)).length ≤ ws.length := by
    rw [List.length_take, List.length_drop]
    omega
  have h3 : blankS.length = 1 := rfl
  rw [h3]
  omega
theorem sizeN_le {ws : List Str} (hz : ∀ z ∈ ws, z.length ≤ 300) (hl : ws.length ≤ 2000) (b e : Nat) : sizeN ws b e ≤ 1000000 := by
  have h := line_fits hz hl b e
  have h2 := len_join blankS ((ws.drop b).take (e - b))
  unfold sizeN lineOf
  omega
def sp_size (K : PySem.W.Frag) : Sp := fun vs H Q _ => ∃ (p : Addr) (ws : List Str) (b e : Nat), vs = [.ref p, .int b, .int e] ∧ SqL K H p (ws.map V.str) ∧ (∀ z ∈ ws, z.length ≤ 300) ∧ ws.length ≤ 2000 ∧ b ≤ e ∧ e ≤ ws.length ∧ RetV (.int (sizeN ws b e)) H Q
theorem ok_l_size (T : Txt K mg A) : FnOk P w K mg base CX0 1 A.f_l_size A.d_l_size ["_law_row", "_law_begin", "_law_end"] (sp_size K) := by
  refine T.F_l_size.ok sc_l_size (fun vs H Q E h => ?_) (fun cdv Ar outer s H vs Q E hr h => ?_)
  · obtain ⟨p, ws, b, e, rfl, _⟩ := h
    rfl
  · obtain ⟨p, ws, b, e, rfl, hS, hz, hl, h1, h2, k⟩ := h
    refine ⟨_, (pss_one (ps_ret (pe_callB call_len_str (by rfl) T.m_len PySem.boot_len (pa_cons (pe_join pe_str (pe_slice sl_list (pv 0) (po_some (pv 1)) (po_some (pv 2)))) pa_nil)))), ?_⟩
    have hs := sizeN_le hz hl b e
    refine s_ret (v := .int (sizeN ws b e)) (ev_cb (ea_cons (ev_joinL ev_blk (el_is (el_sl (ev_var rfl) (eo_some (ev_var rfl)) (eo_some (ev_var rfl)) hS) (cut_words h1 h2)) ?_) ea_nil) (rc_lenS ?_)) fun H1 e1 => k H1 e1
    · have := line_fits hz hl b e
      omega
    · have : (lineOf ws b e).length ≤ 1000000 := hs
      exact Nat.le_trans this (by decide)

/-! ### textwrapper.measure -/
def sp_line_of (K : PySem.W.Frag) : Sp := fun vs H Q _ => ∃ (p : Addr) (ws : List Str) (b e : Nat), vs = [.ref p, .int b, .int e] ∧ SqL K H p (ws.map V.str) ∧ (∀ z ∈ ws, z.length ≤ 300) ∧ ws.length ≤ 2000 ∧ b ≤ e ∧ e ≤ ws.length ∧ RetV (.str (lineOf ws b e)) H Q
theorem ok_line_of (T : Txt K mg A) : FnOk P w K mg base CX0 1 A.f_line_of A.d_line_of ["words", "begin", "end"] (sp_line_of K) := by
  refine T.F_line_of.ok sc_line_of (fun vs H Q E h => ?_) (fun cdv Ar outer s H vs Q E hr h => ?_)
  · obtain ⟨p, ws, b, e, rfl, _⟩ := h
    rfl
  · obtain ⟨p, ws, b, e, rfl, hS, hz, hl, h1, h2, k⟩ := h
    refine ⟨_, (pss_one (ps_ret (pe_join pe_str (pe_slice sl_list (pv 0) (po_some (pv 1)) (po_some (pv 2)))))), ?_⟩
    refine s_ret (v := .str (lineOf ws b e)) (ev_joinL ev_blk (el_is (el_sl (ev_var rfl) (eo_some (ev_var rfl)) (eo_some (ev_var rfl)) hS) (cut_words h1 h2)) ?_) fun H1 e1 => k H1 e1
    have := line_fits hz hl b e
    omega
theorem ok_size_of (T : Txt K mg A) : FnOk P w K mg base CX0 2 A.f_size_of A.d_size_of ["words", "begin", "end"] (sp_size K) := by
  refine T.F_size_of.ok sc_size_of (fun vs H Q E h => ?_) (fun cdv Ar outer s H vs Q E hr h => ?_)
  · obtain ⟨p, ws, b, e, rfl, _⟩ := h
    rfl
  · obtain ⟨p, ws, b, e, rfl, hS, hz, hl, h1, h2, k⟩ := h
    refine ⟨_, (pss_one (ps_ret (pe_callB call_len_str (by rfl) T.m_len PySem.boot_len (pa_cons (pe_call (ok_line_of T) (hr.mono (by decide)) rfl T.g_line_of T.F_line_of.kp T.b_line_of .nil pass0 (pa_cons (pv 0) (pa_cons (pv 1) (pa_cons (pv 2) pa_nil)))) pa_nil)))), ?_⟩
    have hs := sizeN_le hz hl b e
    refine s_ret (v := .int (sizeN ws b e)) (ev_cb (ea_cons (ev_call (ea_cons (ev_var rfl) (ea_cons (ev_var rfl) (ea_cons (ev_var rfl) ea_nil))) fun H1 e1 Q' q E' => ⟨p, ws, b, e, rfl, ex_l e1 hS, hz, hl, h1, h2, q⟩) ea_nil) (rc_lenS ?_)) fun H1 e1 => k H1 e1
    have : (lineOf ws b e).length ≤ 1000000 := hs
    exact Nat.le_trans this (by decide)
/-! ### textwrapper.measure: widths -/
def sp_check_width (A : Ad) : Sp := fun vs H Q E => ∃ w : Int, vs = [.int w] ∧ (w < 1 → ∀ H', Ex H H' → E (.ref A.c_NoWidth) none H') ∧ (1 ≤ w → RetV .non H Q)
theorem ok_check_width (T : Txt K mg A) : FnOk P w K mg base (L2N.CX P w) 1 A.f_check_width A.d_check_width ["width"] (sp_check_width A) := by
  refine Fun.okN T.F_check_width sc_check_width (fun vs H Q E h => ?_) (fun cdv Ar outer s H vs Q E hr h => ?_)
  · obtain ⟨i, rfl, _⟩ := h
    rfl
  · obtain ⟨i, rfl, h1, h2⟩ := h
    refine ⟨_, (pss_one (ps_if (pt_cmpR op_lt (pv 0) pe_int (nomark _))
  (pss_one (L2N.ps_raise rfl (L2N.takes_of rfl rfl rfl rfl) (L2N.pmk_own PySem.F.excBase_ValueError T.ex_NoWidth.x T.gc_NoWidth T.ex_NoWidth.k (raises_own T.ex_NoWidth.e.hs T.ex_NoWidth.t) rfl)))
  pss_nil)), ?_⟩
    refine s_when (b := decide (i < 1)) (by walk_at "et") (fun hb H1 e1 => ?_) (fun hb H1 e1 => ?_)
    · exact h1 (of_decide_eq_true hb) H1 e1
    · have := of_decide_eq_false hb
      exact h2 (by omega) H1 e1
def firstLong (ws : List Str) (w : Int) : Option Nat := ws.findIdx? fun z => decide (w < (z.length : Int))
def optV : Option Nat → V
  | none => .non
  | some k => .int (k : Int)
theorem fl_some {ws : List Str} {w : Int} {i : Nat} {y : Str} (h : ∀ z ∈ ws.take i, ¬ w < (z.length : Int)) (hy : ws[i]? = some y) (hl : w < (y.length : Int)) : firstLong ws w = some i := by
  unfold firstLong
  rw [List.findIdx?_eq_some_iff_getElem]
  obtain ⟨hi, e⟩ := List.getElem?_eq_some_iff.mp hy
  refine ⟨hi, by rw [e]; exact decide_eq_true hl, fun j hj => ?_⟩
  have hm : ws[j] ∈ ws.take i := by
    rw [List.mem_take_iff_getElem]
    exact ⟨j, by omega, rfl⟩
  simp only [decide_eq_true_eq]
  exact h _ hm
theorem fl_none {ws : List Str} {w : Int} (h : ∀ z ∈ ws, ¬ w < (z.length : Int)) : firstLong ws w = none := by
  unfold firstLong
  rw [List.findIdx?_eq_none_iff]
  exact fun z hz => decide_eq_false (h z hz)
def sp_long_word (K : PySem.W.Frag) (A : Ad) : Sp := fun vs H Q E => ∃ (p : Addr) (ws : List Str) (w : Int), vs = [.ref p, .int w] ∧ SqL K H p (ws.map V.str) ∧ (∀ z ∈ ws, z.length ≤ 300) ∧ (w < 1 → ∀ H', Ex H H' → E (.ref A.c_NoWidth) none H') ∧ (1 ≤ w → RetV (optV (firstLong ws w)) H Q)
theorem ok_long_word (T : Txt K mg A) : FnOk P w K mg base (L2N.CX P w) 2 A.f_long_word A.d_long_word ["words", "width"] (sp_long_word K A) := by
  refine Fun.okN T.F_long_word sc_long_word (fun vs H Q E h => ?_) (fun cdv Ar outer s H vs Q E hr h => ?_)
  · obtain ⟨p, ws, i, rfl, _⟩ := h
    rfl
  · obtain ⟨p, ws, wd, rfl, hS, hz, h1, h2⟩ := h
    refine ⟨_, (pss_cons (ps_expr (pe_call (ok_check_width T) (hr.mono (by decide)) rfl T.g_check_width T.F_check_width.kp T.b_check_width .nil (L2N.passes_call (L2N.takes_of rfl rfl rfl rfl) (fun _ _ _ _ h => h)) (pa_cons (pv 1) pa_nil)))
  (pss_cons (ps_for PassesOwn.leaving rfl (pi_enum (by rfl) T.m_enumerate (pa_cons (pv 0) pa_nil)) (pg_tup rfl (pgs_cons (pg_name (i := 2) sc_long_word.nd rfl (.inl rfl)) (pgs_cons (pg_name (i := 3) sc_long_word.nd rfl (.inl rfl)) pgs_nil)))
  (pss_one (ps_if (pt_cmpR op_gt (pe_callB call_len_str (by rfl) T.m_len PySem.boot_len (pa_cons (pv 3) pa_nil)) (pv 1) (nomark _))
  (pss_one (ps_ret (pv 2)))
  pss_nil)))
  (pss_one (ps_ret pe_non)))), ?_⟩
    refine q_dropA (ea_cons (ev_var rfl) ea_nil) fun H1 e1 => ⟨wd, rfl, fun hw H' e' => h1 hw H' (e1.trans e'), fun hw H2 e2 => ?_⟩
    have k := h2 hw
    refine q_forE (ea_cons (ev_var rfl) ea_nil) (ex_l (e1.trans e2) hS) (fun i σ' H' => ∃ x1 x2, σ' = [some (.ref p), some (.int wd), x1, x2] ∧ Ex H H' ∧ ∀ z ∈ ws.take i, ¬ wd < (z.length : Int))
      (fun H3 e3 => ⟨none, none, rfl, (e1.trans e2).trans e3, fun z hz' => absurd hz' (List.not_mem_nil)⟩) (fun i σ' H' _ ⟨_, _, _, e, _⟩ => ex_l e hS) ?_ ?_
    · rintro i x σ' H' H3 hi ⟨x1, x2, rfl, e, hn⟩ e3
      obtain ⟨y, hy, rfl⟩ : ∃ y, ws[i]? = some y ∧ V.str y = x := by
        rw [List.getElem?_map] at hi
        exact Option.map_eq_some_iff.mp hi
      have hyl := hz y (List.mem_of_getElem? hy)
      refine s_when (b := decide (wd < (y.length : Int))) (et_test (ev_op (ev_cb (ea_cons (ev_var rfl) ea_nil) (rc_lenS (by omega))) (ev_var rfl) rv_I0)) (fun hb H4 e4 => ?_) (fun hb H4 e4 => ?_)
      · rw [fl_some hn hy (of_decide_eq_true hb)] at k
        exact s_ret (ev_var rfl) fun H5 e5 => k H5 (((e.trans e3).trans e4).trans e5)
      · refine ⟨_, _, rfl, (e.trans e3).trans e4, fun z hz' => ?_⟩
        rw [List.take_add_one, hy] at hz'
        rcases List.mem_append.mp hz' with q | q
        · exact hn z q
        · rw [List.mem_singleton.mp q]
          exact of_decide_eq_false hb
    · rintro σ' H' ⟨x1, x2, rfl, e, hn⟩
      rw [List.length_map, List.take_length] at hn
      rw [fl_none hn] at k
      exact s_ret (v := .non) ev_c fun H5 e5 => k H5 (e.trans e5)

/-! ### _law_refused, _law_first_long -/
theorem kinds_NoWidth (T : Txt K mg A) : ∀ i C, (kinds A)[i]? = some C → PySem.W.kitOne K (.ref A.c_NoWidth) (.ref C) = some (decide (i = 0)) := fun i C h => by
  have hi : i < 10 := (List.getElem?_eq_some_iff.mp h).1
  have hc : i = 0 ∨ i = 1 ∨ i = 2 ∨ i = 3 ∨ i = 4 ∨ i = 5 ∨ i = 6 ∨ i = 7 ∨ i = 8 ∨ i = 9 := by omega
  rcases hc with q | q | q | q | q | q | q | q | q | q <;> subst q <;> cases h
  · exact kit_ref T.hd_NoWidth T.ty_NoWidth T.sb_NoWidth_NoWidth fun _ => rfl
  · exact kit_ref T.hd_LongWord T.ty_LongWord T.sb_NoWidth_LongWord fun q => absurd q T.ne_NoWidth_LongWord
  · exact kit_ref T.hd_NoStarts T.ty_NoStarts T.sb_NoWidth_NoStarts fun q => absurd q T.ne_NoWidth_NoStarts
  · exact kit_ref T.hd_TooWide T.ty_TooWide T.sb_NoWidth_TooWide fun q => absurd q T.ne_NoWidth_TooWide
  · exact kit_ref T.hd_TooFew T.ty_TooFew T.sb_NoWidth_TooFew fun q => absurd q T.ne_NoWidth_TooFew
  · exact kit_ref T.hd_TooMany T.ty_TooMany T.sb_NoWidth_TooMany fun q => absurd q T.ne_NoWidth_TooMany
  · exact kit_ref T.hd_NoPlace T.ty_NoPlace T.sb_NoWidth_NoPlace fun q => absurd q T.ne_NoWidth_NoPlace
  · exact kit_ref T.hd_NoWord T.ty_NoWord T.sb_NoWidth_NoWord fun q => absurd q T.ne_NoWidth_NoWord
  · exact kit_ref T.hd_Full T.ty_Full T.sb_NoWidth_Full fun q => absurd q T.ne_NoWidth_Full
  · exact kit_ref T.hd_NoWayBack T.ty_NoWayBack T.sb_NoWidth_NoWayBack fun q => absurd q T.ne_NoWidth_NoWayBack
theorem ve_meta : PySem.W.kitMeta "ValueError" = true := by decide +kernel
def sp_refused (K : PySem.W.Frag) : Sp := fun vs H Q _ => ∃ (p : Addr) (ws : List Str) (w : Int), vs = [.ref p, .int w] ∧ SqL K H p (ws.map V.str) ∧ (∀ z ∈ ws, z.length ≤ 300) ∧ w < 1 ∧ RetV (.bl true) H Q
theorem ok_l_refused (T : Txt K mg A) : FnOk P w K mg base CX0 3 A.f_l_refused A.d_l_refused ["_law_row", "_law_width"] (sp_refused K) := by
  refine T.F_l_refused.ok sc_l_refused (fun vs H Q E h => ?_) (fun cdv Ar outer s H vs Q E hr h => ?_)
  · obtain ⟨p, ws, i, rfl, _⟩ := h
    rfl
  · obtain ⟨p, ws, wd, rfl, hS, hz, hw, k⟩ := h
    refine ⟨_, (pss_cons (L2N.ps_try_as (i := 2) (Wout := fun _ _ _ _ => False) rfl rfl sc_l_refused.nd rfl rfl ⟨rfl, by decide, .inl T.gc_WrapError⟩ takesN0 (fun W pn xe tk pw => (pss_one (ps_expr (pe_callS (ok_long_word T) (hr.mono (by decide)) rfl T.g_long_word T.F_long_word.kp T.b_long_word (fun σ => L2N.passAt tk σ) (pa_cons (pv 0) (pa_cons (pv 1) pa_nil)))))) (fun a oe cls d pn hz hf => (pss_one (ps_ret (pe_and (pe_cmpR op_eq (pe_callP (a := a) (oe := oe) (ok_l_kind T) (roomH_suite (k := 1) (hr.mono (by decide))) (hot_suite hz hf) (List.mem_cons_self ..) hz.zc rfl T.g_l_kind T.F_l_kind.kp T.b_l_kind (pa_cons (pv 2) pa_nil)) pe_int (nomark _)) (pe_one (pe_callB (call_isP (K := K) (a := a) rfl (List.mem_cons_self ..) hz.zc hf) (by rfl) T.m_isinstance (by decide +kernel) (pa_cons (pv 2) (pa_cons (pe_bltn (v := .ty "ValueError") (by rfl) T.m_ValueError (by decide +kernel) rfl) pa_nil)))))))))
  (pss_one (ps_ret pe_bl))), ?_⟩
    refine s_dropS (ea_cons (ev_var rfl) (ea_cons (ev_var rfl) ea_nil)) fun H1 e1 => ⟨p, ws, wd, rfl, ex_l e1 hS, hz, fun _ H' e' => ?_, fun q => absurd q (by omega)⟩
    refine ⟨true, PySem.W.exm_ref T.bw T.hd_WrapError T.ty_WrapError T.sb_NoWidth_WrapError, fun _ a ha => ?_, fun q => nomatch q⟩
    refine s_ret (v := .bl true) (ev_is (ev_andV (ev_op (ev_call (ea_cons (ev_var rfl) ea_nil) fun H5 e5 Q' q E' => ⟨A.c_NoWidth, 0, rfl, rfl, rfl, T.ex_NoWidth.e, by decide, kinds_NoWidth T, q⟩) ev_c (rv_eq rfl)) fun _ => ev_cb (ea_cons (ev_var rfl) (ea_cons ev_c ea_nil)) (rc_isPT rfl rfl T.ex_NoWidth.e (kit_bt ve_meta T.sv_NoWidth))) rfl) fun H2 e2 => k H2 ((e1.trans e').trans e2)
def sp_first_long (K : PySem.W.Frag) : Sp := fun vs H Q _ => ∃ (p : Addr) (ws : List Str) (w : Int), vs = [.ref p, .int w] ∧ SqL K H p (ws.map V.str) ∧ (∀ z ∈ ws, z.length ≤ 300) ∧ ws.length ≤ 2000 ∧ RetV (optV (firstLong ws w)) H Q
theorem ok_l_first_long (T : Txt K mg A) : FnOk P w K mg base CX0 1 A.f_l_first_long A.d_l_first_long ["_law_row", "_law_width"] (sp_first_long K) := by
  refine T.F_l_first_long.ok sc_l_first_long (fun vs H Q E h => ?_) (fun cdv Ar outer s H vs Q E hr h => ?_)
  · obtain ⟨p, ws, i, rfl, _⟩ := h
    rfl
  · obtain ⟨p, ws, wd, rfl, hS, hz, hl, k⟩ := h
    refine ⟨_, (pss_cons (ps_for PassesOwn.never rfl (pi_range1 (by rfl) T.m_range (pa_cons (pe_callB call_len_seq (by rfl) T.m_len PySem.boot_len (pa_cons (pv 0) pa_nil)) pa_nil)) (pg_name (i := 2) sc_l_first_long.nd rfl (.inl rfl))
  (pss_one (ps_if (pt_cmpR op_gt (pe_callB call_len_str (by rfl) T.m_len PySem.boot_len (pa_cons (pe_ix (ixL (K := K) rfl) (pv 0) (pv 2) (fun _ _ => rfl)) pa_nil)) (pv 1) (nomark _))
  (pss_one (ps_ret (pv 2)))
  pss_nil)))
  (pss_one (ps_ret pe_non))), ?_⟩
    have nl : (ws.map V.str).length = ws.length := List.length_map ..
    refine q_forR1 (n := (ws.map V.str).length) (ea_cons (ev_cb (ea_cons (ev_var rfl) ea_nil) (rc_lenL hS)) ea_nil) (by omega) (fun i σ' H' => ∃ x, σ' = [some (.ref p), some (.int wd), x] ∧ Ex H H' ∧ ∀ z ∈ ws.take i, ¬ wd < (z.length : Int))
      (fun H3 e3 => ⟨none, rfl, e3, fun z hz' => absurd hz' (List.not_mem_nil)⟩) ?_ ?_
    · rintro i σ' H' hi ⟨x, rfl, e, hn⟩
      have hi' : i < ws.length := by omega
      have hy : ws[i]? = some ws[i] := List.getElem?_eq_getElem hi'
      have hyl := hz ws[i] (List.getElem_mem hi')
      have g : (ws.map V.str)[i]? = some (.str ws[i]) := by
        rw [List.getElem?_map, hy] <;> rfl
      refine s_when (b := decide (wd < (ws[i].length : Int))) (et_test (ev_op (ev_cb (ea_cons (ev_op (ev_var rfl) (ev_var rfl) (rv_ixL (ex_l e hS) (atI_nat g))) ea_nil) (rc_lenS (by omega))) (ev_var rfl) rv_I0)) (fun hb H4 e4 => ?_) (fun hb H4 e4 => ?_)
      · rw [fl_some hn hy (of_decide_eq_true hb)] at k
        exact s_ret (ev_var rfl) fun H5 e5 => k H5 ((e.trans e4).trans e5)
      · refine ⟨_, rfl, e.trans e4, fun z hz' => ?_⟩
        rw [List.take_add_one, hy] at hz'
        rcases List.mem_append.mp hz' with q | q
        · exact hn z q
        · rw [List.mem_singleton.mp q]
          exact of_decide_eq_false hb
    · rintro σ' H' ⟨x, rfl, e, hn⟩
      have e1 : ((ws.map V.str).length : Int).toNat = ws.length := by omega
      rw [e1, List.take_length] at hn
      rw [fl_none hn] at k
      exact s_ret (v := .non) ev_c fun H5 e5 => k H5 (e.trans e5)
/-! ### the law -/
def sp_law (K : PySem.W.Frag) : Sp := fun vs H Q _ => ∃ (a : Addr) (ns : List Int), vs = [.ref a] ∧ SqL K H a (ns.map V.int) ∧ ns.length ≤ 63 ∧ ∀ H', Q (.bl true) H'
theorem cut_ints (ns : List Int) (k : Nat) : cutV (ns.map V.int) (some (k : Int)) none = (ns.drop k).map V.int := by
  unfold cutV
  rw [HT.sIx_none, HT.sIx_nat, ← List.map_drop, ← List.map_take, List.length_map]
  congr 1
  rcases Nat.le_total k ns.length with h | h
  · rw [Nat.min_eq_left h, List.take_of_length_le (by rw [List.length_drop]; omega)]
  · rw [Nat.min_eq_right h, Nat.sub_self, List.take_zero, List.drop_of_length_le h]
theorem longest_nn (ws : List Str) : 0 ≤ longest ws := by
  have go : ∀ (l : List Str) (m : Int), 0 ≤ m → 0 ≤ l.foldl (fun (m : Int) z => max m (z.length : Int)) m := by
    intro l
    induction l with
    | nil => exact fun m h => h
    | cons a r ih => exact fun m h => ih (max m (a.length : Int)) (by omega)
  exact go ws 0 (by decide)
theorem ok_law (T : Txt K mg A) : FnOk P w K mg base CX0 4 A.f_law A.d_law ["_law_script"] (sp_law K) := by
  refine T.F_law.ok sc_law (fun vs H Q E h => ?_) (fun cdv Ar outer s H vs Q E hr h => ?_)
  · obtain ⟨a, ns, rfl, _⟩ := h
    rfl
  · obtain ⟨a, ns, rfl, hS, hlen, k⟩ := h
    refine ⟨_, (pss_cons (ps_set (i := 1) sc_law.nd rfl (.inl rfl) (pe_call (ok_l_words_by T) (hr.mono (by decide)) rfl T.g_l_words_by T.F_l_words_by.kp T.b_l_words_by .nil pass0 (pa_cons (pe_slice sl_list (pv 0) (po_some pe_int) po_none) (pa_cons (pe_call (ok_l_cell_at T) (hr.mono (by decide)) rfl T.g_l_cell_at T.F_l_cell_at.kp T.b_l_cell_at .nil pass0 (pa_cons (pv 0) (pa_cons pe_int pa_nil))) pa_nil))))
  (pss_cons (ps_set (i := 2) sc_law.nd rfl (.inl rfl) (pe_op op_mod (pe_call (ok_l_cell_at T) (hr.mono (by decide)) rfl T.g_l_cell_at T.F_l_cell_at.kp T.b_l_cell_at .nil pass0 (pa_cons (pv 0) (pa_cons pe_int pa_nil))) (pe_op op_add (pe_callB call_len_seq (by rfl) T.m_len PySem.boot_len (pa_cons (pv 1) pa_nil)) pe_int)))
  (pss_cons (ps_set (i := 3) sc_law.nd rfl (.inl rfl) (pe_op op_add (pv 2) (pe_op op_mod (pe_call (ok_l_cell_at T) (hr.mono (by decide)) rfl T.g_l_cell_at T.F_l_cell_at.kp T.b_l_cell_at .nil pass0 (pa_cons (pv 0) (pa_cons pe_int pa_nil))) (pe_op op_sub (pe_op op_add (pe_callB call_len_seq (by rfl) T.m_len PySem.boot_len (pa_cons (pv 1) pa_nil)) pe_int) (pv 2)))))
  (pss_cons (ps_set (i := 4) sc_law.nd rfl (.inl rfl) (pe_op op_sub (pe_op op_mod (pe_call (ok_l_cell_at T) (hr.mono (by decide)) rfl T.g_l_cell_at T.F_l_cell_at.kp T.b_l_cell_at .nil pass0 (pa_cons (pv 0) (pa_cons pe_int pa_nil))) (pe_op op_add (pe_call (ok_l_longest T) (hr.mono (by decide)) rfl T.g_l_longest T.F_l_longest.kp T.b_l_longest .nil pass0 (pa_cons (pv 1) pa_nil)) pe_int)) pe_int))
  (pss_cons (ps_if (pt_cmpR op_eq (pe_op op_mod (pe_op op_fdiv (pe_call (ok_l_cell_at T) (hr.mono (by decide)) rfl T.g_l_cell_at T.F_l_cell_at.kp T.b_l_cell_at .nil pass0 (pa_cons (pv 0) (pa_cons pe_int pa_nil))) pe_int) pe_int) pe_int (nomark _))
  (pss_one (ps_set (i := 4) sc_law.nd rfl (.inl rfl) (pe_op op_pow pe_int pe_int)))
  pss_nil)
  (pss_cons (ps_if (pt_cmpR op_eq (pe_op op_mod (pe_op op_fdiv (pe_call (ok_l_cell_at T) (hr.mono (by decide)) rfl T.g_l_cell_at T.F_l_cell_at.kp T.b_l_cell_at .nil pass0 (pa_cons (pv 0) (pa_cons pe_int pa_nil))) pe_int) pe_int) pe_int (nomark _))
  (pss_one (ps_set (i := 4) sc_law.nd rfl (.inl rfl) (pe_un un_neg (pe_op op_mod (pe_call (ok_l_cell_at T) (hr.mono (by decide)) rfl T.g_l_cell_at T.F_l_cell_at.kp T.b_l_cell_at .nil pass0 (pa_cons (pv 0) (pa_cons pe_int pa_nil))) (pe_op op_pow pe_int pe_int)))))
  pss_nil)
  (pss_cons (ps_set (i := 5) sc_law.nd rfl (.inl rfl) (pe_callTy call_list_of (by rfl) T.m_list (by decide +kernel) (pa_cons (pv 1) pa_nil)))
  (pss_cons (ps_for PassesOwn.never rfl (pi_list (pe_lst (pa_cons (pe_tup (pa_cons (pv 2) (pa_cons (pv 3) pa_nil))) (pa_cons (pe_tup (pa_cons (pv 2) (pa_cons (pv 2) pa_nil))) (pa_cons (pe_tup (pa_cons pe_int (pa_cons (pe_callB call_len_seq (by rfl) T.m_len PySem.boot_len (pa_cons (pv 1) pa_nil)) pa_nil))) pa_nil))))) (pg_name (i := 6) sc_law.nd rfl (.inl rfl))
  (pss_cons (ps_set (i := 7) sc_law.nd rfl (.inl rfl) (pe_call (ok_size_of T) (hr.mono (by decide)) rfl T.g_size_of T.F_size_of.kp T.b_size_of .nil pass0 (pa_cons (pv 5) (pa_cons (pe_ix ix_tup (pv 6) pe_int (fun _ _ => rfl)) (pa_cons (pe_ix ix_tup (pv 6) pe_int (fun _ _ => rfl)) pa_nil)))))
  (pss_one (ps_if (PW.pt (pw_or (pt_not (pt_val (pe_call (ok_l_whole T) (hr.mono (by decide)) rfl T.g_l_whole T.F_l_whole.kp T.b_l_whole .nil pass0 (pa_cons (pv 7) pa_nil)))) (pw_or1 (pt_cmpR op_ne (pv 7) (pe_call (ok_l_size T) (hr.mono (by decide)) rfl T.g_l_size T.F_l_size.kp T.b_l_size .nil pass0 (pa_cons (pv 1) (pa_cons (pe_ix ix_tup (pv 6) pe_int (fun _ _ => rfl)) (pa_cons (pe_ix ix_tup (pv 6) pe_int (fun _ _ => rfl)) pa_nil)))) (nomark _)))))
  (pss_one (ps_ret pe_bl))
  pss_nil))))
  (pss_cons (ps_if (pt_cmpR op_lt (pv 4) pe_int (nomark _))
  (pss_one (ps_ret (pe_and (pe_call (ok_l_refused T) (hr.mono (by decide)) rfl T.g_l_refused T.F_l_refused.kp T.b_l_refused .nil pass0 (pa_cons (pv 5) (pa_cons (pv 4) pa_nil))) (pe_one (pe_cmpR (op_eqD hr.units) (pv 5) (pv 1) (nomark _))))))
  pss_nil)
  (pss_cons (ps_set (i := 8) sc_law.nd rfl (.inl rfl) (pe_call (ok_l_first_long T) (hr.mono (by decide)) rfl T.g_l_first_long T.F_l_first_long.kp T.b_l_first_long .nil pass0 (pa_cons (pv 1) (pa_cons (pv 4) pa_nil))))
  (pss_cons (ps_set (i := 7) sc_law.nd rfl (.inl rfl) (pe_call (ok_long_word T) (hr.mono (by decide)) rfl T.g_long_word T.F_long_word.kp T.b_long_word .nil passN (pa_cons (pv 5) (pa_cons (pv 4) pa_nil))))
  (pss_cons (ps_if (pt_cmpR op_isN1 (pv 8) pe_non (nomark _))
  (pss_one (ps_ret (pe_and (pe_cmpR op_isN1 (pv 7) pe_non (nomark _)) (pe_one (pe_cmpR (op_eqD hr.units) (pv 5) (pv 1) (nomark _))))))
  pss_nil)
  (pss_one (ps_ret (pe_and (pe_call (ok_l_whole T) (hr.mono (by decide)) rfl T.g_l_whole T.F_l_whole.kp T.b_l_whole .nil pass0 (pa_cons (pv 7) pa_nil)) (pe_and (pe_cmpR op_eq (pv 7) (pv 8) (nomark _)) (pe_one (pe_cmpR (op_eqD hr.units) (pv 5) (pv 1) (nomark _))))))))))))))))))), ?_⟩
    have cj : ∀ (j : Nat) {σ : L2.St} {H' : Hp}, Ex H H' → σ[0]? = some (some (.ref a)) → Ev (tCall (sp_cell_at K) [] E0 (tCons (tVar 0) (tCons (tC (.int (j : Int))) tNil))) σ H' (.int (ns.getD j 0)) := fun j σ H' e h => ev_call (ea_cons (ev_var h) (ea_cons ev_c ea_nil)) fun H3 e3 Q' q E' => ⟨a, ns, j, rfl, ex_l (e.trans e3) hS, q⟩
    obtain ⟨ws, hws⟩ : ∃ ws, wordsOf (ns.drop 4) (ns.getD 0 0) = ws := ⟨_, rfl⟩
    have hwd := words_wd (ns.drop 4) (ns.getD 0 0)
    have hwl := words_len (ns.drop 4) (ns.getD 0 0) (by rw [List.length_drop]; omega)
    rw [hws] at hwd hwl
    have hz : ∀ z ∈ ws, z.length ≤ 300 := fun z h => (hwd z h).2.2
    have hlt : ∀ z ∈ ws, ∀ c ∈ TL.tl z, c < 1114112 := fun z h => (hwd z h).lt
    refine q_asgL (xs := ws.map V.str) (el_callA (ap_consL (el_is (el_sl (ev_var rfl) (eo_some ev_c) eo_none hS) (cut_ints ns 4)) (ap_cons (cj 0 (Ex.refl H) rfl) ap_nil) fun _ _ _ => trivial) ?_) fun row H1 row0 e1 h1 => ?_
    · rintro vs H5 e5 ⟨p1, r, rfl, h5, r2, rfl, rfl⟩ Q' q
      exact ⟨p1, ns.drop 4, _, rfl, sq_of h5, by rw [List.length_drop]; omega, by rw [hws]; exact q⟩
    have nl : (ws.map V.str).length = ws.length := List.length_map ..
    generalize hc1 : ns.getD 1 0 = c1 at *
    generalize hc2 : ns.getD 2 0 = c2 at *
    generalize hc3 : ns.getD 3 0 = c3 at *
    have E1 := @cj 1
    have E2 := @cj 2
    have E3 := @cj 3
    rw [hc1] at E1
    rw [hc2] at E2
    rw [hc3] at E3
    have b0 : 0 ≤ c1 % ((ws.length : Int) + 1) := Int.emod_nonneg _ (by omega)
    have b1 : c1 % ((ws.length : Int) + 1) < (ws.length : Int) + 1 := Int.emod_lt_of_pos _ (by omega)
    obtain ⟨b, hb⟩ : ∃ b : Nat, c1 % ((ws.length : Int) + 1) = (b : Int) := ⟨(c1 % ((ws.length : Int) + 1)).toNat, by omega⟩
    refine q_asg (v := .int (b : Int)) (ev_is (ev_op (E1 e1 rfl) (ev_op (ev_cb (ea_cons (ev_var rfl) ea_nil) (rc_lenL (sq_of h1))) ev_c rv_I0) (rv_I (by omega))) (by rw [nl, hb])) fun H2 e2 => ?_
    have d0 : 0 ≤ c2 % ((ws.length : Int) + 1 - (b : Int)) := Int.emod_nonneg _ (by omega)
    have d1 : c2 % ((ws.length : Int) + 1 - (b : Int)) < (ws.length : Int) + 1 - (b : Int) := Int.emod_lt_of_pos _ (by omega)
    obtain ⟨en, hen⟩ : ∃ en : Nat, (b : Int) + c2 % ((ws.length : Int) + 1 - (b : Int)) = (en : Int) := ⟨((b : Int) + c2 % ((ws.length : Int) + 1 - (b : Int))).toNat, by omega⟩
    have e12 := e1.trans e2
    refine q_asg (v := .int (en : Int)) (ev_is (ev_op (ev_var rfl) (ev_op (E2 e12 rfl) (ev_op (ev_op (ev_cb (ea_cons (ev_var rfl) ea_nil) (rc_lenL (sq_of (e2 _ _ h1)))) ev_c rv_I0) (ev_var rfl) rv_I0) (rv_I (by omega))) rv_I0) (by rw [nl, hen])) fun H3 e3 => ?_
    have e13 := e12.trans e3
    have hln := longest_nn ws
    refine q_asg (ev_op (ev_op (E3 e13 rfl) (ev_op (ev_call (ea_cons (ev_var rfl) ea_nil) fun H5 e5 Q' q E' => ⟨row, ws, rfl, sq_of (e5 _ _ (e3 _ _ (e2 _ _ h1))), hz, q⟩) ev_c rv_I0) (rv_I (by omega))) ev_c rv_I0) fun H4 e4 => ?_
    have e14 := e13.trans e4
    generalize c3 % (longest ws + 5) - 2 = w1
    refine q_ifAsg (i := 4) (b := decide (V.int (c3 / 90 % 4) = V.int 1)) (v := .int (if c3 / 90 % 4 = 1 then 10 ^ (30 : Int).toNat else w1)) (et_test (ev_op (ev_op (ev_op (E3 e14 rfl) ev_c (rv_I ⟨by decide, by decide⟩)) ev_c (rv_I (by decide))) ev_c (rv_eq rfl))) (fun hb => ?_) (fun hb => ?_) fun H5 e5 => ?_
    · have h := of_decide_eq_true hb
      rw [if_pos (by injection h)]
      exact ev_op ev_c ev_c (rv_I ⟨by decide, by decide, by decide⟩)
    · have h := of_decide_eq_false hb
      rw [if_neg (fun q => h (by rw [q]))]
      rfl
    generalize (if c3 / 90 % 4 = 1 then (10 : Int) ^ (30 : Int).toNat else w1) = w2
    have e15 := e14.trans e5
    refine q_ifAsg (i := 4) (b := decide (V.int (c3 / 90 % 4) = V.int 2)) (v := .int (if c3 / 90 % 4 = 2 then -(c3 % 10 ^ (9 : Int).toNat) else w2)) (et_test (ev_op (ev_op (ev_op (E3 e15 rfl) ev_c (rv_I ⟨by decide, by decide⟩)) ev_c (rv_I (by decide))) ev_c (rv_eq rfl))) (fun hb => ?_) (fun hb => ?_) fun H6 e6 => ?_
    · have h := of_decide_eq_true hb
      rw [if_pos (by injection h)]
      exact ev_un (ev_op (E3 e15 rfl) (ev_op ev_c ev_c (rv_I ⟨by decide, by decide, by decide⟩)) (rv_I (by decide))) ru_neg
    · have h := of_decide_eq_false hb
      rw [if_neg (fun q => h (by rw [q]))]
      rfl
    generalize (if c3 / 90 % 4 = 2 then -(c3 % 10 ^ (9 : Int).toNat) else w2) = wd
    have e16 := e15.trans e6
    have r6 : H6 row = some (.lst (ws.map V.str)) := e6 _ _ (e5 _ _ (e4 _ _ (e3 _ _ (e2 _ _ h1))))
    refine q_asgL (xs := ws.map V.str) (el_listOf (ev_var rfl) (sq_of r6)) fun hd H7 hd0 e7 h7 => ?_
    have r7 := e7 _ _ r6
    have e17 := e16.trans e7
    have hble : b ≤ en := by omega
    have henl : en ≤ ws.length := by omega
    refine q_forTs (pss := [[.int (b : Int), .int (en : Int)], [.int (b : Int), .int (b : Int)], [.int (0 : Nat), .int (ws.length : Nat)]])
      (at_cons (eu_tup (ea_cons (ev_var rfl) (ea_cons (ev_var rfl) ea_nil)) (show 2 ≤ 100000 by decide)) (at_cons (eu_tup (ea_cons (ev_var rfl) (ea_cons (ev_var rfl) ea_nil)) (show 2 ≤ 100000 by decide)) (at_cons (eu_tup (ea_cons ev_c (ea_cons (ev_is (ev_cb (ea_cons (ev_var rfl) ea_nil) (rc_lenL (sq_of r7))) (by rw [nl])) ea_nil)) (show 2 ≤ 100000 by decide)) at_nil))) (show 3 ≤ 100 by decide)
      (fun B i σ' H' => ∃ x1 x2 x3, σ' = [some (.ref a), some (.ref row), some (.int b), some (.int en), some (.int wd), some (.ref hd), x1, x2, x3] ∧ Ex B H' ∧ Ex H7 B)
      (fun B i σ' H' ⟨_, _, _, _, e, _⟩ => e) (fun B eB => ⟨none, none, none, rfl, Ex.refl B, eB⟩) ?_ ?_
    · rintro B i t xs σ' H' hi ⟨x1, x2, x3, rfl, eB, e7B⟩ ht
      obtain ⟨u, v, rfl, huv, hvl⟩ : ∃ u v : Nat, xs = [.int (u : Int), .int (v : Int)] ∧ u ≤ v ∧ v ≤ ws.length := by
        have hi3 : i < 3 := (List.getElem?_eq_some_iff.mp hi).1
        have hc : i = 0 ∨ i = 1 ∨ i = 2 := by omega
        rcases hc with q | q | q <;> subst q <;> cases hi
        · exact ⟨b, en, rfl, hble, henl⟩
        · exact ⟨b, b, rfl, Nat.le_refl _, by omega⟩
        · exact ⟨0, ws.length, rfl, Nat.zero_le _, Nat.le_refl _⟩
      have e7H := e7B.trans eB
      refine q_asg (v := .int (sizeN ws u v)) (ev_call (ea_cons (ev_var rfl) (ea_cons (ev_op (ev_var rfl) ev_c (rv_ixT (st_of ht) (atI_nat (j := 0) rfl))) (ea_cons (ev_op (ev_var rfl) ev_c (rv_ixT (st_of ht) (atI_nat (j := 1) rfl))) ea_nil))) fun H8 e8 Q' q E' => ⟨hd, ws, u, v, rfl, sq_of (e8 _ _ (e7H _ _ h7)), hz, by omega, huv, hvl, q⟩) fun H8 e8 => ?_
      have ht8 := e8 _ _ ht
      have r8 := e8 _ _ (e7H _ _ r7)
      refine s_when (b := false) (et_is (et_or (et_not (et_B (ev_call (ea_cons (ev_var rfl) ea_nil) fun H9 e9 Q' q E' => ⟨_, rfl, q⟩))) fun _ => et_test (ev_op (ev_var rfl) (ev_call (ea_cons (ev_var rfl) (ea_cons (ev_op (ev_var rfl) ev_c (rv_ixT (st_of ht8) (atI_nat (j := 0) rfl))) (ea_cons (ev_op (ev_var rfl) ev_c (rv_ixT (st_of ht8) (atI_nat (j := 1) rfl))) ea_nil))) fun H9 e9 Q' q E' => ⟨row, ws, u, v, rfl, sq_of (e9 _ _ r8), hz, by omega, huv, hvl, q⟩) (rv_ne rfl))) (by simp)) (fun hb => nomatch hb) (fun _ H9 e9 => ?_)
      exact ⟨_, _, _, rfl, (eB.trans e8).trans e9, e7B⟩
    · rintro B σ' H' ⟨x1, x2, x3, rfl, eB, e7B⟩
      have e7H := e7B.trans eB
      have hdH := e7H _ _ h7
      have rowH := e7H _ _ r7
      refine q_when (b := decide (wd < 1)) (by walk_at "et") (fun hb H8 e8 => ?_) (fun hb H8 e8 => ?_)
      · refine s_ret (v := .bl true) (ev_is (ev_andV (ev_call (ea_cons (ev_var rfl) (ea_cons (ev_var rfl) ea_nil)) fun H9 e9 Q' q E' => ⟨hd, ws, wd, rfl, sq_of (e9 _ _ (e8 _ _ hdH)), hz, of_decide_eq_true hb, q⟩) fun _ => ev_op (ev_var rfl) (ev_var rfl) (rv_eqS (sq_of (e8 _ _ hdH)) (sq_of (e8 _ _ rowH)) hlt hlt)) (by simp)) fun H9 e9 => k H9
      · have hw1 : 1 ≤ wd := by
          have := of_decide_eq_false hb
          omega
        refine q_asg (v := optV (firstLong ws wd)) (ev_call (ea_cons (ev_var rfl) (ea_cons (ev_var rfl) ea_nil)) fun H9 e9 Q' q E' => ⟨row, ws, wd, rfl, sq_of (e9 _ _ (e8 _ _ rowH)), hz, by omega, q⟩) fun H9 e9 => ?_
        refine q_asg (v := optV (firstLong ws wd)) (ev_call (ea_cons (ev_var rfl) (ea_cons (ev_var rfl) ea_nil)) fun H10 e10 Q' q E' => ⟨hd, ws, wd, rfl, sq_of (e10 _ _ (e9 _ _ (e8 _ _ hdH))), hz, fun q => absurd q (by omega), fun _ => q⟩) fun H10 e10 => ?_
        have hdJ := e10 _ _ (e9 _ _ (e8 _ _ hdH))
        have rowJ := e10 _ _ (e9 _ _ (e8 _ _ rowH))
        cases firstLong ws wd with
        | none =>
          refine q_when (b := true) (et_is (et_test (ev_op (ev_var rfl) ev_c rv_isN)) rfl) (fun _ H11 e11 => ?_) (fun hb => nomatch hb)
          exact s_ret (v := .bl true) (ev_is (ev_andV (ev_op (ev_var rfl) ev_c rv_isN) fun _ => ev_op (ev_var rfl) (ev_var rfl) (rv_eqS (sq_of (e11 _ _ hdJ)) (sq_of (e11 _ _ rowJ)) hlt hlt)) (by simp [optV])) fun H12 e12 => k H12
        | some i =>
          refine q_when (b := false) (et_is (et_test (ev_op (ev_var rfl) ev_c rv_isN)) rfl) (fun hb => nomatch hb) (fun _ H11 e11 => ?_)
          exact s_ret (v := .bl true) (ev_is (ev_andV (ev_call (ea_cons (ev_var rfl) ea_nil) fun H12 e12 Q' q E' => ⟨_, rfl, q⟩) fun _ => ev_andV (ev_op (ev_var rfl) (ev_var rfl) (rv_eq rfl)) fun _ => ev_op (ev_var rfl) (ev_var rfl) (rv_eqS (sq_of (e11 _ _ hdJ)) (sq_of (e11 _ _ rowJ)) hlt hlt)) (by simp)) fun H12 e12 => k H12
end
theorem all_mk {l : PySem.W.OpenLaw} {w : World} {K : PySem.W.Frag} {h : Heap} {mg : Str → Option Value} {fa : Addr} (X : K.In h) (G : h.Ns mainGlobals mg) (hfa : mg "law" = some (.ref fa))
    {f0 : Addr} {od0 an0 : Option Addr} {sl0 : Array (Option Value)} {oc0 kV0 dc0 pm0 cd0 ct0 : Value}
    (a0 : PySem.W.nsIn K mainGlobals "line_of" = some (some (.ref f0))) (l0 : K.lookup f0 = some ⟨oc0, od0, .func (PySem.W.fnOf "line_of" "line_of" (defArgs s_line_of) (defBody s_line_of) (defScope s_line_of) .none kV0 dc0 pm0 an0 cd0 ct0), sl0⟩) (c0 : PySem.W.codeIn K cd0 "line_of" = true) (k0 : PySem.W.keepIn K (.ref f0) = true)
    {f1 : Addr} {od1 an1 : Option Addr} {sl1 : Array (Option Value)} {oc1 kV1 dc1 pm1 cd1 ct1 : Value}
    (a1 : PySem.W.nsIn K mainGlobals "size_of" = some (some (.ref f1))) (l1 : K.lookup f1 = some ⟨oc1, od1, .func (PySem.W.fnOf "size_of" "size_of" (defArgs s_size_of) (defBody s_size_of) (defScope s_size_of) .none kV1 dc1 pm1 an1 cd1 ct1), sl1⟩) (c1 : PySem.W.codeIn K cd1 "size_of" = true) (k1 : PySem.W.keepIn K (.ref f1) = true)
    {f2 : Addr} {od2 an2 : Option Addr} {sl2 : Array (Option Value)} {oc2 kV2 dc2 pm2 cd2 ct2 : Value}
    (a2 : PySem.W.nsIn K mainGlobals "long_word" = some (some (.ref f2))) (l2 : K.lookup f2 = some ⟨oc2, od2, .func (PySem.W.fnOf "long_word" "long_word" (defArgs s_long_word) (defBody s_long_word) (defScope s_long_word) .none kV2 dc2 pm2 an2 cd2 ct2), sl2⟩) (c2 : PySem.W.codeIn K cd2 "long_word" = true) (k2 : PySem.W.keepIn K (.ref f2) = true)
    {f3 : Addr} {od3 an3 : Option Addr} {sl3 : Array (Option Value)} {oc3 kV3 dc3 pm3 cd3 ct3 : Value}
    (a3 : PySem.W.nsIn K mainGlobals "check_width" = some (some (.ref f3))) (l3 : K.lookup f3 = some ⟨oc3, od3, .func (PySem.W.fnOf "check_width" "check_width" (defArgs s_check_width) (defBody s_check_width) (defScope s_check_width) .none kV3 dc3 pm3 an3 cd3 ct3), sl3⟩) (c3 : PySem.W.codeIn K cd3 "check_width" = true) (k3 : PySem.W.keepIn K (.ref f3) = true)
    {f4 : Addr} {od4 an4 : Option Addr} {sl4 : Array (Option Value)} {oc4 kV4 dc4 pm4 cd4 ct4 : Value}
    (a4 : PySem.W.nsIn K mainGlobals "_law_cell_at" = some (some (.ref f4))) (l4 : K.lookup f4 = some ⟨oc4, od4, .func (PySem.W.fnOf "_law_cell_at" "_law_cell_at" (defArgs s_l_cell_at) (defBody s_l_cell_at) (defScope s_l_cell_at) .none kV4 dc4 pm4 an4 cd4 ct4), sl4⟩) (c4 : PySem.W.codeIn K cd4 "_law_cell_at" = true) (k4 : PySem.W.keepIn K (.ref f4) = true)
    {f5 : Addr} {od5 an5 : Option Addr} {sl5 : Array (Option Value)} {oc5 kV5 dc5 pm5 cd5 ct5 : Value}
    (a5 : PySem.W.nsIn K mainGlobals "_law_sign_by" = some (some (.ref f5))) (l5 : K.lookup f5 = some ⟨oc5, od5, .func (PySem.W.fnOf "_law_sign_by" "_law_sign_by" (defArgs s_l_sign_by) (defBody s_l_sign_by) (defScope s_l_sign_by) .none kV5 dc5 pm5 an5 cd5 ct5), sl5⟩) (c5 : PySem.W.codeIn K cd5 "_law_sign_by" = true) (k5 : PySem.W.keepIn K (.ref f5) = true)
    {f6 : Addr} {od6 an6 : Option Addr} {sl6 : Array (Option Value)} {oc6 kV6 dc6 pm6 cd6 ct6 : Value}
    (a6 : PySem.W.nsIn K mainGlobals "_law_word_by" = some (some (.ref f6))) (l6 : K.lookup f6 = some ⟨oc6, od6, .func (PySem.W.fnOf "_law_word_by" "_law_word_by" (defArgs s_l_word_by) (defBody s_l_word_by) (defScope s_l_word_by) .none kV6 dc6 pm6 an6 cd6 ct6), sl6⟩) (c6 : PySem.W.codeIn K cd6 "_law_word_by" = true) (k6 : PySem.W.keepIn K (.ref f6) = true)
    {f7 : Addr} {od7 an7 : Option Addr} {sl7 : Array (Option Value)} {oc7 kV7 dc7 pm7 cd7 ct7 : Value}
    (a7 : PySem.W.nsIn K mainGlobals "_law_whole" = some (some (.ref f7))) (l7 : K.lookup f7 = some ⟨oc7, od7, .func (PySem.W.fnOf "_law_whole" "_law_whole" (defArgs s_l_whole) (defBody s_l_whole) (defScope s_l_whole) .none kV7 dc7 pm7 an7 cd7 ct7), sl7⟩) (c7 : PySem.W.codeIn K cd7 "_law_whole" = true) (k7 : PySem.W.keepIn K (.ref f7) = true)
    {f8 : Addr} {od8 an8 : Option Addr} {sl8 : Array (Option Value)} {oc8 kV8 dc8 pm8 cd8 ct8 : Value}
    (a8 : PySem.W.nsIn K mainGlobals "_law_longest" = some (some (.ref f8))) (l8 : K.lookup f8 = some ⟨oc8, od8, .func (PySem.W.fnOf "_law_longest" "_law_longest" (defArgs s_l_longest) (defBody s_l_longest) (defScope s_l_longest) .none kV8 dc8 pm8 an8 cd8 ct8), sl8⟩) (c8 : PySem.W.codeIn K cd8 "_law_longest" = true) (k8 : PySem.W.keepIn K (.ref f8) = true)
    {f9 : Addr} {od9 an9 : Option Addr} {sl9 : Array (Option Value)} {oc9 kV9 dc9 pm9 cd9 ct9 : Value}
    (a9 : PySem.W.nsIn K mainGlobals "_law_size" = some (some (.ref f9))) (l9 : K.lookup f9 = some ⟨oc9, od9, .func (PySem.W.fnOf "_law_size" "_law_size" (defArgs s_l_size) (defBody s_l_size) (defScope s_l_size) .none kV9 dc9 pm9 an9 cd9 ct9), sl9⟩) (c9 : PySem.W.codeIn K cd9 "_law_size" = true) (k9 : PySem.W.keepIn K (.ref f9) = true)
    {f10 : Addr} {od10 an10 : Option Addr} {sl10 : Array (Option Value)} {oc10 kV10 dc10 pm10 cd10 ct10 : Value}
    (a10 : PySem.W.nsIn K mainGlobals "_law_alike_by" = some (some (.ref f10))) (l10 : K.lookup f10 = some ⟨oc10, od10, .func (PySem.W.fnOf "_law_alike_by" "_law_alike_by" (defArgs s_l_alike_by) (defBody s_l_alike_by) (defScope s_l_alike_by) .none kV10 dc10 pm10 an10 cd10 ct10), sl10⟩) (c10 : PySem.W.codeIn K cd10 "_law_alike_by" = true) (k10 : PySem.W.keepIn K (.ref f10) = true)
    {f11 : Addr} {od11 an11 : Option Addr} {sl11 : Array (Option Value)} {oc11 kV11 dc11 pm11 cd11 ct11 : Value}
    (a11 : PySem.W.nsIn K mainGlobals "_law_wide_by" = some (some (.ref f11))) (l11 : K.lookup f11 = some ⟨oc11, od11, .func (PySem.W.fnOf "_law_wide_by" "_law_wide_by" (defArgs s_l_wide_by) (defBody s_l_wide_by) (defScope s_l_wide_by) .none kV11 dc11 pm11 an11 cd11 ct11), sl11⟩) (c11 : PySem.W.codeIn K cd11 "_law_wide_by" = true) (k11 : PySem.W.keepIn K (.ref f11) = true)
    {f12 : Addr} {od12 an12 : Option Addr} {sl12 : Array (Option Value)} {oc12 kV12 dc12 pm12 cd12 ct12 : Value}
    (a12 : PySem.W.nsIn K mainGlobals "_law_words_by" = some (some (.ref f12))) (l12 : K.lookup f12 = some ⟨oc12, od12, .func (PySem.W.fnOf "_law_words_by" "_law_words_by" (defArgs s_l_words_by) (defBody s_l_words_by) (defScope s_l_words_by) .none kV12 dc12 pm12 an12 cd12 ct12), sl12⟩) (c12 : PySem.W.codeIn K cd12 "_law_words_by" = true) (k12 : PySem.W.keepIn K (.ref f12) = true)
    {f13 : Addr} {od13 an13 : Option Addr} {sl13 : Array (Option Value)} {oc13 kV13 dc13 pm13 cd13 ct13 : Value}
    (a13 : PySem.W.nsIn K mainGlobals "_law_kind" = some (some (.ref f13))) (l13 : K.lookup f13 = some ⟨oc13, od13, .func (PySem.W.fnOf "_law_kind" "_law_kind" (defArgs s_l_kind) (defBody s_l_kind) (defScope s_l_kind) .none kV13 dc13 pm13 an13 cd13 ct13), sl13⟩) (c13 : PySem.W.codeIn K cd13 "_law_kind" = true) (k13 : PySem.W.keepIn K (.ref f13) = true)
    {f14 : Addr} {od14 an14 : Option Addr} {sl14 : Array (Option Value)} {oc14 kV14 dc14 pm14 cd14 ct14 : Value}
    (a14 : PySem.W.nsIn K mainGlobals "_law_refused" = some (some (.ref f14))) (l14 : K.lookup f14 = some ⟨oc14, od14, .func (PySem.W.fnOf "_law_refused" "_law_refused" (defArgs s_l_refused) (defBody s_l_refused) (defScope s_l_refused) .none kV14 dc14 pm14 an14 cd14 ct14), sl14⟩) (c14 : PySem.W.codeIn K cd14 "_law_refused" = true) (k14 : PySem.W.keepIn K (.ref f14) = true)
    {f15 : Addr} {od15 an15 : Option Addr} {sl15 : Array (Option Value)} {oc15 kV15 dc15 pm15 cd15 ct15 : Value}
    (a15 : PySem.W.nsIn K mainGlobals "_law_first_long" = some (some (.ref f15))) (l15 : K.lookup f15 = some ⟨oc15, od15, .func (PySem.W.fnOf "_law_first_long" "_law_first_long" (defArgs s_l_first_long) (defBody s_l_first_long) (defScope s_l_first_long) .none kV15 dc15 pm15 an15 cd15 ct15), sl15⟩) (c15 : PySem.W.codeIn K cd15 "_law_first_long" = true) (k15 : PySem.W.keepIn K (.ref f15) = true)
    {f16 : Addr} {od16 an16 : Option Addr} {sl16 : Array (Option Value)} {oc16 kV16 dc16 pm16 cd16 ct16 : Value}
    (a16 : PySem.W.nsIn K mainGlobals "law" = some (some (.ref f16))) (l16 : K.lookup f16 = some ⟨oc16, od16, .func (PySem.W.fnOf "law" "law" (defArgs s_law) (defBody s_law) (defScope s_law) .none kV16 dc16 pm16 an16 cd16 ct16), sl16⟩) (c16 : PySem.W.codeIn K cd16 "law" = true) (k16 : PySem.W.keepIn K (.ref f16) = true)
    (z0 : PySem.W.nsIn K mainGlobals "ValueError" = some none)
    (z1 : PySem.W.nsIn K mainGlobals "bool" = some none)
    (z2 : PySem.W.nsIn K mainGlobals "enumerate" = some none)
    (z3 : PySem.W.nsIn K mainGlobals "int" = some none)
    (z4 : PySem.W.nsIn K mainGlobals "isinstance" = some none)
    (z5 : PySem.W.nsIn K mainGlobals "len" = some none)
    (z6 : PySem.W.nsIn K mainGlobals "list" = some none)
    (z7 : PySem.W.nsIn K mainGlobals "max" = some none)
    (z8 : PySem.W.nsIn K mainGlobals "range" = some none)
    (z9 : PySem.W.nsIn K mainGlobals "sum" = some none)
    {C0 : Addr} (y0 : PySem.W.nsIn K mainGlobals "WrapError" = some (some (.ref C0)))
    {C1 : Addr} (y1 : PySem.W.nsIn K mainGlobals "NoWidth" = some (some (.ref C1)))
    {C2 : Addr} (y2 : PySem.W.nsIn K mainGlobals "LongWord" = some (some (.ref C2)))
    {C3 : Addr} (y3 : PySem.W.nsIn K mainGlobals "NoStarts" = some (some (.ref C3)))
    {C4 : Addr} (y4 : PySem.W.nsIn K mainGlobals "TooWide" = some (some (.ref C4)))
    {C5 : Addr} (y5 : PySem.W.nsIn K mainGlobals "TooFew" = some (some (.ref C5)))
    {C6 : Addr} (y6 : PySem.W.nsIn K mainGlobals "TooMany" = some (some (.ref C6)))
    {C7 : Addr} (y7 : PySem.W.nsIn K mainGlobals "NoPlace" = some (some (.ref C7)))
    {C8 : Addr} (y8 : PySem.W.nsIn K mainGlobals "NoWord" = some (some (.ref C8)))
    {C9 : Addr} (y9 : PySem.W.nsIn K mainGlobals "Full" = some (some (.ref C9)))
    {C10 : Addr} (y10 : PySem.W.nsIn K mainGlobals "NoWayBack" = some (some (.ref C10)))
    (hd_WrapError : PySem.W.hasDictIn K C0 = true)
    (ty_WrapError : PySem.W.typeIn K (.ref C0) = some (.type "type"))
    (hd_NoWidth : PySem.W.hasDictIn K C1 = true)
    (ty_NoWidth : PySem.W.typeIn K (.ref C1) = some (.type "type"))
    (hd_LongWord : PySem.W.hasDictIn K C2 = true)
    (ty_LongWord : PySem.W.typeIn K (.ref C2) = some (.type "type"))
    (hd_NoStarts : PySem.W.hasDictIn K C3 = true)
    (ty_NoStarts : PySem.W.typeIn K (.ref C3) = some (.type "type"))
    (hd_TooWide : PySem.W.hasDictIn K C4 = true)
    (ty_TooWide : PySem.W.typeIn K (.ref C4) = some (.type "type"))
    (hd_TooFew : PySem.W.hasDictIn K C5 = true)
    (ty_TooFew : PySem.W.typeIn K (.ref C5) = some (.type "type"))
    (hd_TooMany : PySem.W.hasDictIn K C6 = true)
    (ty_TooMany : PySem.W.typeIn K (.ref C6) = some (.type "type"))
    (hd_NoPlace : PySem.W.hasDictIn K C7 = true)
    (ty_NoPlace : PySem.W.typeIn K (.ref C7) = some (.type "type"))
    (hd_NoWord : PySem.W.hasDictIn K C8 = true)
    (ty_NoWord : PySem.W.typeIn K (.ref C8) = some (.type "type"))
    (hd_Full : PySem.W.hasDictIn K C9 = true)
    (ty_Full : PySem.W.typeIn K (.ref C9) = some (.type "type"))
    (hd_NoWayBack : PySem.W.hasDictIn K C10 = true)
    (ty_NoWayBack : PySem.W.typeIn K (.ref C10) = some (.type "type"))
    (bw : PySem.W.subIn K (.ref C0) (.type "BaseException") = some true)
    (x1_NoWidth : PySem.W.excIn K C1 [.type "ValueError", .type "Exception", .type "BaseException", .type "object"] "ValueError.__new__" = true)
    (x2_NoWidth : PySem.W.keepIn K (.ref C1) = true)
    (x3_NoWidth : PySem.W.findIn K (.ref C1) "__getattribute__" = some (some (.builtin "BaseException.__getattribute__")))
    (x4_NoWidth : PySem.W.findIn K (.ref C1) "__getattr__" = some none)
    (x5_NoWidth : PySem.W.subIn K (.ref C1) (.type "BaseException") = some true)
    (x6_NoWidth : PySem.W.findIn K (.ref C1) "__class__" = some (some (.builtin "object.__class__")))
    (x7_NoWidth : PySem.W.specialIn K (.builtin "object.__class__") "__get__" = some (some (.builtin "getset_descriptor.__get__")))
    (x8_NoWidth : PySem.W.takesIn K (.builtin "object.__class__") = some true)
    (x9_NoWidth : PySem.W.mroIn K C1 (.type "object") = some true)
    (sv_NoWidth : PySem.W.subIn K (.ref C1) (.type "ValueError") = some true)
    (sb_NoWidth_WrapError : PySem.W.subIn K (.ref C1) (.ref C0) = some true)
    (sb_NoWidth_NoWidth : PySem.W.subIn K (.ref C1) (.ref C1) = some true)
    (sb_NoWidth_LongWord : PySem.W.subIn K (.ref C1) (.ref C2) = some false)
    (ne_NoWidth_LongWord : C1 ≠ C2)
    (sb_NoWidth_NoStarts : PySem.W.subIn K (.ref C1) (.ref C3) = some false)
    (ne_NoWidth_NoStarts : C1 ≠ C3)
    (sb_NoWidth_TooWide : PySem.W.subIn K (.ref C1) (.ref C4) = some false)
    (ne_NoWidth_TooWide : C1 ≠ C4)
    (sb_NoWidth_TooFew : PySem.W.subIn K (.ref C1) (.ref C5) = some false)
    (ne_NoWidth_TooFew : C1 ≠ C5)
    (sb_NoWidth_TooMany : PySem.W.subIn K (.ref C1) (.ref C6) = some false)
    (ne_NoWidth_TooMany : C1 ≠ C6)
    (sb_NoWidth_NoPlace : PySem.W.subIn K (.ref C1) (.ref C7) = some false)
    (ne_NoWidth_NoPlace : C1 ≠ C7)
    (sb_NoWidth_NoWord : PySem.W.subIn K (.ref C1) (.ref C8) = some false)
    (ne_NoWidth_NoWord : C1 ≠ C8)
    (sb_NoWidth_Full : PySem.W.subIn K (.ref C1) (.ref C9) = some false)
    (ne_NoWidth_Full : C1 ≠ C9)
    (sb_NoWidth_NoWayBack : PySem.W.subIn K (.ref C1) (.ref C10) = some false)
    (ne_NoWidth_NoWayBack : C1 ≠ C10)
    : ∃ fd : FuncData, (∀ (s : Shared) (v : Value), BindsTo s fd ⟨[v], []⟩ [("_law_script", v)]) ∧ ∀ base : Heap, K.In base → base.Ns mainGlobals mg → FnOk l.prog w K mg base CX0 4 fa fd ["_law_script"] (sp_law K) := by
  have e := hfa.symm.trans (PySem.W.mg_of X G a16)
  cases e
  have F0 := fun_mk (st := s_line_of) l0 c0 k0
  have b0 := F0.binds (ps := ["words", "begin", "end"]) fun _ _ _ _ _ _ us hl => match us, hl with | [_, _, _], _ => rfl
  have F1 := fun_mk (st := s_size_of) l1 c1 k1
  have b1 := F1.binds (ps := ["words", "begin", "end"]) fun _ _ _ _ _ _ us hl => match us, hl with | [_, _, _], _ => rfl
  have F2 := fun_mk (st := s_long_word) l2 c2 k2
  have b2 := F2.binds (ps := ["words", "width"]) fun _ _ _ _ _ _ us hl => match us, hl with | [_, _], _ => rfl
  have F3 := fun_mk (st := s_check_width) l3 c3 k3
  have b3 := F3.binds (ps := ["width"]) fun _ _ _ _ _ _ us hl => match us, hl with | [_], _ => rfl
  have F4 := fun_mk (st := s_l_cell_at) l4 c4 k4
  have b4 := F4.binds (ps := ["_law_script", "_law_k"]) fun _ _ _ _ _ _ us hl => match us, hl with | [_, _], _ => rfl
  have F5 := fun_mk (st := s_l_sign_by) l5 c5 k5
  have b5 := F5.binds (ps := ["_law_cell"]) fun _ _ _ _ _ _ us hl => match us, hl with | [_], _ => rfl
  have F6 := fun_mk (st := s_l_word_by) l6 c6 k6
  have b6 := F6.binds (ps := ["_law_cell"]) fun _ _ _ _ _ _ us hl => match us, hl with | [_], _ => rfl
  have F7 := fun_mk (st := s_l_whole) l7 c7 k7
  have b7 := F7.binds (ps := ["_law_found"]) fun _ _ _ _ _ _ us hl => match us, hl with | [_], _ => rfl
  have F8 := fun_mk (st := s_l_longest) l8 c8 k8
  have b8 := F8.binds (ps := ["_law_row"]) fun _ _ _ _ _ _ us hl => match us, hl with | [_], _ => rfl
  have F9 := fun_mk (st := s_l_size) l9 c9 k9
  have b9 := F9.binds (ps := ["_law_row", "_law_begin", "_law_end"]) fun _ _ _ _ _ _ us hl => match us, hl with | [_, _, _], _ => rfl
  have F10 := fun_mk (st := s_l_alike_by) l10 c10 k10
  have b10 := F10.binds (ps := ["_law_cell", "_law_size_here"]) fun _ _ _ _ _ _ us hl => match us, hl with | [_, _], _ => rfl
  have F11 := fun_mk (st := s_l_wide_by) l11 c11 k11
  have b11 := F11.binds (ps := ["_law_more", "_law_k"]) fun _ _ _ _ _ _ us hl => match us, hl with | [_, _], _ => rfl
  have F12 := fun_mk (st := s_l_words_by) l12 c12 k12
  have b12 := F12.binds (ps := ["_law_cells", "_law_more"]) fun _ _ _ _ _ _ us hl => match us, hl with | [_, _], _ => rfl
  have F13 := fun_mk (st := s_l_kind) l13 c13 k13
  have b13 := F13.binds (ps := ["_law_e"]) fun _ _ _ _ _ _ us hl => match us, hl with | [_], _ => rfl
  have F14 := fun_mk (st := s_l_refused) l14 c14 k14
  have b14 := F14.binds (ps := ["_law_row", "_law_width"]) fun _ _ _ _ _ _ us hl => match us, hl with | [_, _], _ => rfl
  have F15 := fun_mk (st := s_l_first_long) l15 c15 k15
  have b15 := F15.binds (ps := ["_law_row", "_law_width"]) fun _ _ _ _ _ _ us hl => match us, hl with | [_, _], _ => rfl
  have F16 := fun_mk (st := s_law) l16 c16 k16
  have b16 := F16.binds (ps := ["_law_script"]) fun _ _ _ _ _ _ us hl => match us, hl with | [_], _ => rfl
  have T : Txt K mg { f_line_of := f0, d_line_of := _, f_size_of := f1, d_size_of := _, f_long_word := f2, d_long_word := _, f_check_width := f3, d_check_width := _, f_l_cell_at := f4, d_l_cell_at := _, f_l_sign_by := f5, d_l_sign_by := _, f_l_word_by := f6, d_l_word_by := _, f_l_whole := f7, d_l_whole := _, f_l_longest := f8, d_l_longest := _, f_l_size := f9, d_l_size := _, f_l_alike_by := f10, d_l_alike_by := _, f_l_wide_by := f11, d_l_wide_by := _, f_l_words_by := f12, d_l_words_by := _, f_l_kind := f13, d_l_kind := _, f_l_refused := f14, d_l_refused := _, f_l_first_long := f15, d_l_first_long := _, f_law := fa, d_law := _, c_WrapError := C0, c_NoWidth := C1, c_LongWord := C2, c_NoStarts := C3, c_TooWide := C4, c_TooFew := C5, c_TooMany := C6, c_NoPlace := C7, c_NoWord := C8, c_Full := C9, c_NoWayBack := C10 } := {
    F_line_of := F0, g_line_of := PySem.W.mg_of X G a0, b_line_of := b0,
    F_size_of := F1, g_size_of := PySem.W.mg_of X G a1, b_size_of := b1,
    F_long_word := F2, g_long_word := PySem.W.mg_of X G a2, b_long_word := b2,
    F_check_width := F3, g_check_width := PySem.W.mg_of X G a3, b_check_width := b3,
    F_l_cell_at := F4, g_l_cell_at := PySem.W.mg_of X G a4, b_l_cell_at := b4,
    F_l_sign_by := F5, g_l_sign_by := PySem.W.mg_of X G a5, b_l_sign_by := b5,
    F_l_word_by := F6, g_l_word_by := PySem.W.mg_of X G a6, b_l_word_by := b6,
    F_l_whole := F7, g_l_whole := PySem.W.mg_of X G a7, b_l_whole := b7,
    F_l_longest := F8, g_l_longest := PySem.W.mg_of X G a8, b_l_longest := b8,
    F_l_size := F9, g_l_size := PySem.W.mg_of X G a9, b_l_size := b9,
    F_l_alike_by := F10, g_l_alike_by := PySem.W.mg_of X G a10, b_l_alike_by := b10,
    F_l_wide_by := F11, g_l_wide_by := PySem.W.mg_of X G a11, b_l_wide_by := b11,
    F_l_words_by := F12, g_l_words_by := PySem.W.mg_of X G a12, b_l_words_by := b12,
    F_l_kind := F13, g_l_kind := PySem.W.mg_of X G a13, b_l_kind := b13,
    F_l_refused := F14, g_l_refused := PySem.W.mg_of X G a14, b_l_refused := b14,
    F_l_first_long := F15, g_l_first_long := PySem.W.mg_of X G a15, b_l_first_long := b15,
    F_law := F16, g_law := PySem.W.mg_of X G a16, b_law := b16,
    m_ValueError := PySem.W.mg_none_of X G z0,
    m_bool := PySem.W.mg_none_of X G z1,
    m_enumerate := PySem.W.mg_none_of X G z2,
    m_int := PySem.W.mg_none_of X G z3,
    m_isinstance := PySem.W.mg_none_of X G z4,
    m_len := PySem.W.mg_none_of X G z5,
    m_list := PySem.W.mg_none_of X G z6,
    m_max := PySem.W.mg_none_of X G z7,
    m_range := PySem.W.mg_none_of X G z8,
    m_sum := PySem.W.mg_none_of X G z9,
    gc_WrapError := PySem.W.mg_of X G y0,
    gc_NoWidth := PySem.W.mg_of X G y1,
    gc_LongWord := PySem.W.mg_of X G y2,
    gc_NoStarts := PySem.W.mg_of X G y3,
    gc_TooWide := PySem.W.mg_of X G y4,
    gc_TooFew := PySem.W.mg_of X G y5,
    gc_TooMany := PySem.W.mg_of X G y6,
    gc_NoPlace := PySem.W.mg_of X G y7,
    gc_NoWord := PySem.W.mg_of X G y8,
    gc_Full := PySem.W.mg_of X G y9,
    gc_NoWayBack := PySem.W.mg_of X G y10,
    hd_WrapError := hd_WrapError, ty_WrapError := ty_WrapError,
    hd_NoWidth := hd_NoWidth, ty_NoWidth := ty_NoWidth,
    hd_LongWord := hd_LongWord, ty_LongWord := ty_LongWord,
    hd_NoStarts := hd_NoStarts, ty_NoStarts := ty_NoStarts,
    hd_TooWide := hd_TooWide, ty_TooWide := ty_TooWide,
    hd_TooFew := hd_TooFew, ty_TooFew := ty_TooFew,
    hd_TooMany := hd_TooMany, ty_TooMany := ty_TooMany,
    hd_NoPlace := hd_NoPlace, ty_NoPlace := ty_NoPlace,
    hd_NoWord := hd_NoWord, ty_NoWord := ty_NoWord,
    hd_Full := hd_Full, ty_Full := ty_Full,
    hd_NoWayBack := hd_NoWayBack, ty_NoWayBack := ty_NoWayBack,
    bw := bw,
    ex_NoWidth := ⟨x1_NoWidth, x2_NoWidth, ty_NoWidth, ⟨x3_NoWidth, x4_NoWidth, x5_NoWidth, hd_NoWidth, x6_NoWidth, x7_NoWidth, x8_NoWidth, x9_NoWidth⟩⟩, sv_NoWidth := sv_NoWidth,
    sb_NoWidth_WrapError := sb_NoWidth_WrapError,
    sb_NoWidth_NoWidth := sb_NoWidth_NoWidth,
    sb_NoWidth_LongWord := sb_NoWidth_LongWord,
    ne_NoWidth_LongWord := ne_NoWidth_LongWord,
    sb_NoWidth_NoStarts := sb_NoWidth_NoStarts,
    ne_NoWidth_NoStarts := ne_NoWidth_NoStarts,
    sb_NoWidth_TooWide := sb_NoWidth_TooWide,
    ne_NoWidth_TooWide := ne_NoWidth_TooWide,
    sb_NoWidth_TooFew := sb_NoWidth_TooFew,
    ne_NoWidth_TooFew := ne_NoWidth_TooFew,
    sb_NoWidth_TooMany := sb_NoWidth_TooMany,
    ne_NoWidth_TooMany := ne_NoWidth_TooMany,
    sb_NoWidth_NoPlace := sb_NoWidth_NoPlace,
    ne_NoWidth_NoPlace := ne_NoWidth_NoPlace,
    sb_NoWidth_NoWord := sb_NoWidth_NoWord,
    ne_NoWidth_NoWord := ne_NoWidth_NoWord,
    sb_NoWidth_Full := sb_NoWidth_Full,
    ne_NoWidth_Full := ne_NoWidth_Full,
    sb_NoWidth_NoWayBack := sb_NoWidth_NoWayBack,
    ne_NoWidth_NoWayBack := ne_NoWidth_NoWayBack }
  exact ⟨_, fun s v => .of_eq rfl, fun base _ _ => ok_law T⟩
end Pf
open PySem PySem.W PyProof.Rows
set_option maxHeartbeats 0 in
theorem PySem.Challenge.cw_textwrapper_k03_lines_measured_holds : PySem.Challenge.rw_textwrapper_k03_lines_measured.Holds := by
  w_on; o_law; k_head; (case hw => w_witness2)
  k_fill
  refine L2.walk_of (l := PySem.Challenge.rw_textwrapper_k03_lines_measured) (n := 63) (k := 4) (x := "_law_script") (CX := fun _ => L2.CX0) (sp := fun w => Pf.sp_law _) rfl (by decide) rfl ⟨rfl, by decide, by decide⟩ (fun w h Y => PySem.W.kIn_of Y) ?F (fun _ _ a ns hl _ hS => ⟨a, ns, rfl, hS, hl, fun _ => rfl⟩) (fun _ _ _ _ _ h => h)
  case F =>
    intro w mg fa h KX G hmg
    refine' Pf.all_mk KX G hmg ?a0 ?l0 ?c0 ?k0 ?a1 ?l1 ?c1 ?k1 ?a2 ?l2 ?c2 ?k2 ?a3 ?l3 ?c3 ?k3 ?a4 ?l4 ?c4 ?k4 ?a5 ?l5 ?c5 ?k5 ?a6 ?l6 ?c6 ?k6 ?a7 ?l7 ?c7 ?k7 ?a8 ?l8 ?c8 ?k8 ?a9 ?l9 ?c9 ?k9 ?a10 ?l10 ?c10 ?k10 ?a11 ?l11 ?c11 ?k11 ?a12 ?l12 ?c12 ?k12 ?a13 ?l13 ?c13 ?k13 ?a14 ?l14 ?c14 ?k14 ?a15 ?l15 ?c15 ?k15 ?a16 ?l16 ?c16 ?k16 ?z0 ?z1 ?z2 ?z3 ?z4 ?z5 ?z6 ?z7 ?z8 ?z9 ?y0 ?y1 ?y2 ?y3 ?y4 ?y5 ?y6 ?y7 ?y8 ?y9 ?y10 ?hd_WrapError ?ty_WrapError ?hd_NoWidth ?ty_NoWidth ?hd_LongWord ?ty_LongWord ?hd_NoStarts ?ty_NoStarts ?hd_TooWide ?ty_TooWide ?hd_TooFew ?ty_TooFew ?hd_TooMany ?ty_TooMany ?hd_NoPlace ?ty_NoPlace ?hd_NoWord ?ty_NoWord ?hd_Full ?ty_Full ?hd_NoWayBack ?ty_NoWayBack ?bw ?x1_NoWidth ?x2_NoWidth ?x3_NoWidth ?x4_NoWidth ?x5_NoWidth ?x6_NoWidth ?x7_NoWidth ?x8_NoWidth ?x9_NoWidth ?sv_NoWidth ?sb_NoWidth_WrapError ?sb_NoWidth_NoWidth ?sb_NoWidth_LongWord ?ne_NoWidth_LongWord ?sb_NoWidth_NoStarts ?ne_NoWidth_NoStarts ?sb_NoWidth_TooWide ?ne_NoWidth_TooWide ?sb_NoWidth_TooFew ?ne_NoWidth_TooFew ?sb_NoWidth_TooMany ?ne_NoWidth_TooMany ?sb_NoWidth_NoPlace ?ne_NoWidth_NoPlace ?sb_NoWidth_NoWord ?ne_NoWidth_NoWord ?sb_NoWidth_Full ?ne_NoWidth_Full ?sb_NoWidth_NoWayBack ?ne_NoWidth_NoWayBack
    (case a0 => k_is); (case l0 => k_is); (case c0 => k_is); (case k0 => k_is); (case a1 => k_is); (case l1 => k_is); (case c1 => k_is); (case k1 => k_is)
    (case a2 => k_is); (case l2 => k_is); (case c2 => k_is); (case k2 => k_is); (case a3 => k_is); (case l3 => k_is); (case c3 => k_is); (case k3 => k_is)
    (case a4 => k_is); (case l4 => k_is); (case c4 => k_is); (case k4 => k_is); (case a5 => k_is); (case l5 => k_is); (case c5 => k_is); (case k5 => k_is)
    (case a6 => k_is); (case l6 => k_is); (case c6 => k_is); (case k6 => k_is); (case a7 => k_is); (case l7 => k_is); (case c7 => k_is); (case k7 => k_is)
    (case a8 => k_is); (case l8 => k_is); (case c8 => k_is); (case k8 => k_is); (case a9 => k_is); (case l9 => k_is); (case c9 => k_is); (case k9 => k_is)
    (case a10 => k_is); (case l10 => k_is); (case c10 => k_is); (case k10 => k_is); (case a11 => k_is); (case l11 => k_is); (case c11 => k_is); (case k11 => k_is)
    (case a12 => k_is); (case l12 => k_is); (case c12 => k_is); (case k12 => k_is); (case a13 => k_is); (case l13 => k_is); (case c13 => k_is); (case k13 => k_is)
    (case a14 => k_is); (case l14 => k_is); (case c14 => k_is); (case k14 => k_is); (case a15 => k_is); (case l15 => k_is); (case c15 => k_is); (case k15 => k_is)
    (case a16 => k_is); (case l16 => k_is); (case c16 => k_is); (case k16 => k_is); (case z0 => k_is); (case z1 => k_is); (case z2 => k_is); (case z3 => k_is)
    (case z4 => k_is); (case z5 => k_is); (case z6 => k_is); (case z7 => k_is); (case z8 => k_is); (case z9 => k_is); (case y0 => k_is); (case y1 => k_is)
    (case y2 => k_is); (case y3 => k_is); (case y4 => k_is); (case y5 => k_is); (case y6 => k_is); (case y7 => k_is); (case y8 => k_is); (case y9 => k_is)
    (case y10 => k_is); (case hd_WrapError => k_is); (case ty_WrapError => k_is); (case hd_NoWidth => k_is); (case ty_NoWidth => k_is); (case hd_LongWord => k_is); (case ty_LongWord => k_is); (case hd_NoStarts => k_is)
    (case ty_NoStarts => k_is); (case hd_TooWide => k_is); (case ty_TooWide => k_is); (case hd_TooFew => k_is); (case ty_TooFew => k_is); (case hd_TooMany => k_is); (case ty_TooMany => k_is); (case hd_NoPlace => k_is)
    (case ty_NoPlace => k_is); (case hd_NoWord => k_is); (case ty_NoWord => k_is); (case hd_Full => k_is); (case ty_Full => k_is); (case hd_NoWayBack => k_is); (case ty_NoWayBack => k_is); (case bw => k_is)
    (case x1_NoWidth => k_exc); (case x2_NoWidth => k_is); (case x3_NoWidth => k_is); (case x4_NoWidth => k_is); (case x5_NoWidth => k_is); (case x6_NoWidth => k_is); (case x7_NoWidth => k_is); (case x8_NoWidth => k_is)
    (case x9_NoWidth => k_is); (case sv_NoWidth => k_is); (case sb_NoWidth_WrapError => k_is); (case sb_NoWidth_NoWidth => k_is); (case sb_NoWidth_LongWord => k_is); (case ne_NoWidth_LongWord => decide); (case sb_NoWidth_NoStarts => k_is); (case ne_NoWidth_NoStarts => decide)
    (case sb_NoWidth_TooWide => k_is); (case ne_NoWidth_TooWide => decide); (case sb_NoWidth_TooFew => k_is); (case ne_NoWidth_TooFew => decide); (case sb_NoWidth_TooMany => k_is); (case ne_NoWidth_TooMany => decide); (case sb_NoWidth_NoPlace => k_is); (case ne_NoWidth_NoPlace => decide)
    (case sb_NoWidth_NoWord => k_is); (case ne_NoWidth_NoWord => decide); (case sb_NoWidth_Full => k_is); (case ne_NoWidth_Full => decide); (case sb_NoWidth_NoWayBack => k_is); (case ne_NoWidth_NoWayBack => decide)
