
import PyProof.Rows.All
import Wide.All
import OpenK.AllK
import Wide.FinOn
import HandS.ForMost
import HandS.Evl
import HandS.Steps
import HandS.IsInst
import HandS.Style
import HandS.Walk
import HandS.Flow
import HandS.HotCalls
import HandS.ExcIs
import KE.GoesEnumKw
import HandS.RevRange
import HandS.Rev
import HandS.AnyAll
import HandS.EndTab
import HandS.Sort
import HandS.Zip
import HandS.Wide
import PyProof.SumAny
import PyProof.WalksMore
import PyProof.ZipIter
import PyProof.ListNew
import PySem.Challenge.RW_textwrapper_k13_whole_text_squared
set_option Elab.async false
set_option linter.all false
set_option maxRecDepth 100000
namespace Tw
open PySem PySem.Spec PyProof.Rows L2 Evl
/-! ### rules of our own -/
/-- text * int -/
def rMulS : R2 := fun x y H Q => ∃ (z : Str) (k : Int) (L N : Nat), x = .str z ∧ y = .int k ∧ (z.length ≤ L ∧ k ≤ (N : Int) ∧ -(2 ^ 63 : Int) ≤ k ∧ N ≤ 16777216 ∧ L * N ≤ 16777216) ∧ Q (.str (Txt.mul z k)) H
theorem op_mulS {X : Cx} : OpR X (binaryOp .Mult) rMulS := by
  intro pins s σ H x y v u Q I rx ry h
  obtain ⟨z, k, L, N, rfl, rfl, ⟨h1, h2, h3, h4, h5⟩, q⟩ := h
  obtain ⟨t, rfl⟩ := rx
  obtain ⟨t', rfl⟩ := ry
  exact PySem.SB.mul (mulOk_of L N h1 h2 h3 h4 h5) fun t' k' => ⟨.str (Txt.mul z k), H, I.tok _, ⟨_, rfl⟩, q⟩
/-! ### what evaluates to what -/
section
variable {K : PySem.W.Frag} {σ : L2.St} {H H' : Hp} {ta tb te tx : TE} {t u : TT} {x y z v : V} {r : R2}
theorem rv_addS {a b : Str} (h : a.length + b.length ≤ 100000) : RV (fun x y H Q => ∃ i j, x = .str i ∧ y = .str j ∧ i.length + j.length ≤ sizeLine ∧ Q (.str (i ++ j)) H) (.str a) (.str b) H (.str (a ++ b)) :=
  fun H1 _ _ q => ⟨a, b, rfl, rfl, sz_of h, q H1 (Ex.refl H1)⟩
theorem rv_mulS {a : Str} {k : Int} {L N : Nat} (h : a.length ≤ L) (hk : k ≤ (N : Int)) (h0 : 0 ≤ k) (hN : N ≤ 100000) (hL : L * N ≤ 100000) : RV rMulS (.str a) (.int k) H (.str (Txt.mul a k)) :=
  fun H1 _ _ q => ⟨a, k, L, N, rfl, rfl, ⟨h, hk, by omega, by omega, by omega⟩, q H1 (Ex.refl H1)⟩
def rLenStr : List V → Hp → VK → Prop := fun xs H Q => ∃ z, xs = [.str z] ∧ z.length ≤ sizeLine ∧ Q (.int z.length) H
theorem rc_lenS {a : Str} (h : a.length ≤ 16000000) : RC (fun xs H Q => ∃ z, xs = [.str z] ∧ z.length ≤ sizeLine ∧ Q (.int z.length) H) [.str a] H (.int a.length) := fun H1 _ _ q => ⟨a, rfl, Nat.le_trans h (by rw [sizeLine_eq]; decide), q H1 (Ex.refl H1)⟩
theorem rc_intB {b : Bool} : RC (fun xs H Q => (∃ i, xs = [.int i] ∧ Q (.int i) H) ∨ ∃ k, xs = [.bl k] ∧ Q (.int (if k then 1 else 0)) H) [.bl b] H (.int (if b = true then 1 else 0)) := fun H1 _ _ q => .inr ⟨b, rfl, q H1 (Ex.refl H1)⟩
theorem rc_lenL {p : Addr} {xs : List V} (h : SqL K H p xs) : RC (fun xs H Q => ∃ p ys, xs = [.ref p] ∧ (SqL K H p ys ∨ SqT K H p ys) ∧ Q (.int ys.length) H) [.ref p] H (.int xs.length) := fun H1 e _ q => ⟨p, xs, rfl, .inl (ex_l e h), q H1 (Ex.refl H1)⟩
theorem rc_isi {x c : V} {t u : Value} {b : Bool} (hc : ClsV c u) (ty : ∀ H1, Ex H H1 → TyX K H1 x t) (k : PySem.W.kitOne K t u = some b) : RC (rIsi K) [x, c] H (.bl b) := fun H1 e _ q => ⟨x, c, t, u, b, rfl, hc, ty H1 e, k, q H1 (Ex.refl H1)⟩
theorem rc_isStr {a : Str} : RC (rIsi K) [.str a, .ty "str"] H (.bl true) := rc_isi (.ty _) (fun _ _ => .base (.str a)) (kit_ty (by decide +kernel))
theorem tyx_list {p : Addr} {xs : List V} (h : SqL K H p xs) : TyX K H (.ref p) (.type "list") := by
  rcases h with (h | ⟨o, h⟩) | ⟨o, vs, n, hk, hc, _⟩
  · exact .base (.lst h)
  · exact .base (.frz h)
  · exact .kList hk hc
theorem rc_isList {p : Addr} {xs : List V} (h : SqL K H p xs) : RC (rIsi K) [.ref p, .ty "list"] H (.bl true) := rc_isi (.ty _) (fun _ e => tyx_list (ex_l e h)) (kit_ty (by decide +kernel))
theorem rv_isB {a b : Bool} : RV rIsB (.bl a) (.bl b) H (.bl (decide (a = b))) := fun H1 _ _ q => ⟨a, b, rfl, rfl, q H1 (Ex.refl H1)⟩
theorem rv_isN : RV rIsN x .non H (.bl (decide (x = .non))) := fun H1 _ _ q => ⟨rfl, q H1 (Ex.refl H1)⟩
theorem rv_notN : RV rNotN x .non H (.bl (!decide (x = .non))) := fun H1 _ _ q => ⟨rfl, q H1 (Ex.refl H1)⟩
theorem rv_add {i j : Int} : RV (rI0 fun i j => .int (i + j)) (.int i) (.int j) H (.int (i + j)) := rv_I0
/-- data equal, by values -/
theorem rv_eqD {d e : PyData} (hd : ∀ H1, Ex H H1 → Dp K H1 x d) (he : ∀ H1, Ex H H1 → Dp K H1 y e) (sd : SeqAt.shaped d = true) (se : SeqAt.shaped e = true) : RV (rEqD K) x y H (.bl (PyData.eqv d e)) :=
  fun H1 e1 _ q => ⟨d, e, hd H1 e1, he H1 e1, sd, se, q H1 (Ex.refl H1)⟩
theorem rv_neD {d e : PyData} (hd : ∀ H1, Ex H H1 → Dp K H1 x d) (he : ∀ H1, Ex H H1 → Dp K H1 y e) (sd : SeqAt.shaped d = true) (se : SeqAt.shaped e = true) : RV (rNeD K) x y H (.bl (!PyData.eqv d e)) :=
  fun H1 e1 _ q => ⟨d, e, hd H1 e1, he H1 e1, sd, se, q H1 (Ex.refl H1)⟩
theorem dpAll_strs : ∀ l : List Str, DpAll K H (l.map V.str) (l.map PyData.str)
  | [] => .nil
  | a :: r => .cons (.str a) (dpAll_strs r)
theorem dpAll_ints : ∀ l : List Int, DpAll K H (l.map V.int) (l.map PyData.int)
  | [] => .nil
  | a :: r => .cons (.int a) (dpAll_ints r)
theorem dp_strs {p : Addr} {l : List Str} (h : SqL K H p (l.map V.str)) : Dp K H (.ref p) (.list (l.map PyData.str)) := .lst h (dpAll_strs l)
theorem dp_ints {p : Addr} {l : List Int} (h : SqL K H p (l.map V.int)) : Dp K H (.ref p) (.list (l.map PyData.int)) := .lst h (dpAll_ints l)
/-- split() -/
theorem el_words {a : Str} (h : Ev te σ H (.str a)) (hl : a.length ≤ 90000) : EvL (tM0 (fun x xs H Q => ∃ a, x = .str a ∧ xs = [] ∧ a.length + 2 ≤ sizeLine ∧ rNewStrs (Txt.words a) H Q) te) σ H ((Txt.words a).map V.str) :=
  fun H1 e Q q => h H1 e _ fun H2 e2 => ⟨⟨a, rfl⟩, a, rfl, rfl, sz_of (by omega), fun p hp => q p _ (fresh_back e2 hp) (e2.trans (Ex.new hp)) upd_same⟩
/-- join -/
theorem ev_join {a : Str} {p : Addr} {ys : List Str} (h : Ev ta σ H (.str a)) (hb : Ev tb σ H (.ref p)) (hp : SqL K H p (ys.map V.str)) (hz : (ys.map (·.length)).sum + ys.length * a.length ≤ 16777216) :
    Ev (tM1 (fun x xs H Q => ∃ a p, ∃ ys : List Str, x = .str a ∧ xs = [.ref p] ∧ (SqL K H p (ys.map V.str) ∨ SqT K H p (ys.map V.str)) ∧ (ys.map (·.length)).sum + ys.length * a.length ≤ 16777216 ∧ Q (.str (Txt.join a ys)) H) ta tb) σ H (.str (Txt.join a ys)) :=
  fun H1 e Q q => h H1 e _ fun H2 e2 => ⟨⟨a, rfl⟩, hb H2 (e.trans e2) _ fun H3 e3 => ⟨a, p, ys, rfl, rfl, .inl (ex_l ((e.trans e2).trans e3) hp), hz, q H3 (e2.trans e3)⟩⟩
theorem ev_joinL {a : Str} {ys : List Str} (h : Ev ta σ H (.str a)) (hb : EvL tb σ H (ys.map V.str)) (hz : (ys.map (·.length)).sum + ys.length * a.length ≤ 16777216) :
    Ev (tM1 (fun x xs H Q => ∃ a p, ∃ ys : List Str, x = .str a ∧ xs = [.ref p] ∧ (SqL K H p (ys.map V.str) ∨ SqT K H p (ys.map V.str)) ∧ (ys.map (·.length)).sum + ys.length * a.length ≤ 16777216 ∧ Q (.str (Txt.join a ys)) H) ta tb) σ H (.str (Txt.join a ys)) :=
  fun H1 e Q q => h H1 e _ fun H2 e2 => ⟨⟨a, rfl⟩, hb H2 (e.trans e2) _ fun p H3 _ e3 hp => ⟨a, p, ys, rfl, rfl, .inl (sq_of hp), hz, q H3 (e2.trans e3)⟩⟩
/-- a slice of a new list -/
theorem el_slN {tl th : TO} {xs : List V} {lo hi : Option Int} (h : EvL te σ H xs) (h1 : EvO tl σ H lo) (h2 : EvO th σ H hi) : EvL (tSl (rSlL K) te tl th) σ H (cutV xs lo hi) := fun H1 e _ q =>
  h H1 e _ fun p H2 _ e2 hp => h1 H2 (e.trans e2) _ fun H3 e3 => h2 H3 ((e.trans e2).trans e3) _ fun H4 e4 =>
    ⟨p, xs, rfl, sq_of (e4 _ _ (e3 _ _ hp)), fun q' hq => q q' _ (fresh_back ((e2.trans e3).trans e4) hq) (((e2.trans e3).trans e4).trans (Ex.new hq)) upd_same⟩
/-- a call whose arguments are told by what they give: any promise -/
theorem ev_callA {sp : Sp} {dvs : List V} {E : XK} {ta : TA} {P : List V → Hp → Prop} (h : ∀ H1, Ex H H1 → ∀ Q : List V → Hp → Prop, (∀ vs H2, Ex H1 H2 → P vs H2 → Q vs H2) → ta σ H1 Q)
    (hs : ∀ vs H1, Ex H H1 → P vs H1 → ∀ Q : VK, (∀ H2, Ex H1 H2 → Q z H2) → sp (vs ++ dvs) H1 Q E) : Ev (tCall sp dvs E ta) σ H z := fun H1 e Q q =>
  h H1 e _ fun vs H2 e2 hP => hs vs H2 (e.trans e2) hP Q fun H3 e3 => q H3 (e2.trans e3)
theorem el_callA {sp : Sp} {dvs xs : List V} {E : XK} {ta : TA} {P : List V → Hp → Prop} (h : ∀ H1, Ex H H1 → ∀ Q : List V → Hp → Prop, (∀ vs H2, Ex H1 H2 → P vs H2 → Q vs H2) → ta σ H1 Q)
    (hs : ∀ vs H1, Ex H H1 → P vs H1 → ∀ Q : VK, (∀ p H2, H1 p = none → Ex H1 H2 → H2 p = some (.lst xs) → Q (.ref p) H2) → sp (vs ++ dvs) H1 Q E) : EvL (tCall sp dvs E ta) σ H xs := fun H1 e Q q =>
  h H1 e _ fun vs H2 e2 hP => hs vs H2 (e.trans e2) hP Q fun p H3 hp e3 h3 => q p H3 (fresh_back e2 hp) (e2.trans e3) h3
/-- argument lists told by what they give -/
def ArgP (ta : TA) (σ : L2.St) (H : Hp) (P : List V → Hp → Prop) : Prop := ∀ H1, Ex H H1 → ∀ Q : List V → Hp → Prop, (∀ vs H2, Ex H1 H2 → P vs H2 → Q vs H2) → ta σ H1 Q
theorem ap_nil : ArgP tNil σ H (fun vs _ => vs = []) := fun H1 _ Q q => q [] H1 (Ex.refl H1) rfl
theorem ap_cons {tr : TA} {P : List V → Hp → Prop} (h : Ev te σ H v) (hr : ArgP tr σ H P) : ArgP (tCons te tr) σ H (fun vs H' => ∃ r, vs = v :: r ∧ P r H') := fun H1 e Q q =>
  h H1 e _ fun H2 e2 => hr H2 (e.trans e2) _ fun vs H3 e3 hP => q _ H3 (e2.trans e3) ⟨vs, rfl, hP⟩
theorem ap_consL {tr : TA} {P : List V → Hp → Prop} {xs : List V} (h : EvL te σ H xs) (hr : ArgP tr σ H P) (hmono : ∀ (vs : List V) (H1 H2 : Hp), True) : ArgP (tCons te tr) σ H (fun vs H' => ∃ p r, vs = .ref p :: r ∧ H' p = some (.lst xs) ∧ P r H') := fun H1 e Q q =>
  h H1 e _ fun p H2 _ e2 hp => hr H2 (e.trans e2) _ fun vs H3 e3 hP => q _ H3 (e2.trans e3) ⟨p, vs, rfl, e3 _ _ hp, hP⟩
end
/-! ### loops over a text -/
section
variable {K : PySem.W.Frag} {σ : L2.St} {H H' : Hp} {te : TE} {D : Ends} {tu tz : TS}
theorem s_forS {z : Str} {j : Nat} (h : Ev te σ H (.str z)) (Pv : Nat → L2.St → Hp → Prop) (h0 : ∀ H1, Ex H H1 → Pv 0 σ H1)
    (hs : ∀ (i c : Nat) σ' H', (TL.tl z)[i]? = some c → Pv i σ' H' → tu { D with nx := Pv (i + 1), ct := Pv (i + 1), bk := D.nx } (σ'.set j (some (.str ⟨#[c]⟩))) H')
    (hd : ∀ σ' H', Pv (TL.tl z).length σ' H' → D.nx σ' H') : tFor (iStr te) (gName j) tu D σ H :=
  h H (Ex.refl H) _ fun H1 e => ⟨z, rfl, for_it walk_str Pv (h0 H1 e) (fun _ _ _ _ _ => trivial) (fun i x σ' H' H'' hi p y => by
    obtain ⟨rfl, c, hc, rfl⟩ := y
    exact hs i c σ' _ (by rw [show (TL.tl z)[i]? = z.cps[i]? from Array.getElem?_toList]; exact hc) p) (fun σ' H' p => hd σ' H' (by
    have e : (TL.tl z).length = z.cps.size := Array.length_toList
    rw [e]
    exact p))⟩
theorem q_forS {z : Str} {j : Nat} (h : Ev te σ H (.str z)) (Pv : Nat → L2.St → Hp → Prop) (h0 : ∀ H1, Ex H H1 → Pv 0 σ H1)
    (hs : ∀ (i c : Nat) σ' H', (TL.tl z)[i]? = some c → Pv i σ' H' → tu { D with nx := Pv (i + 1), ct := Pv (i + 1), bk := tz D } (σ'.set j (some (.str ⟨#[c]⟩))) H')
    (hd : ∀ σ' H', Pv (TL.tl z).length σ' H' → tz D σ' H') : tSeq (tFor (iStr te) (gName j) tu) tz D σ H := s_forS (D := { D with nx := tz D }) h Pv h0 hs hd
end
/-! ### the signs of words -/
/-- from ! to ~, but the percent sign -/
def sgnL : List Nat := List.range' 33 4 ++ List.range' 38 89
theorem sgnL_len : sgnL.length = 93 := by decide +kernel
/-- a sign of a word -/
def Ws (c : Nat) : Prop := 33 ≤ c ∧ c ≤ 126
instance (c : Nat) : Decidable (Ws c) := inferInstanceAs (Decidable (_ ∧ _))
theorem sgnL_ws : ∀ c ∈ sgnL, Ws c := by decide +kernel
/-- a sign of a text -/
def Ts (c : Nat) : Prop := c = 32 ∨ c = 10 ∨ Ws c
instance (c : Nat) : Decidable (Ts c) := inferInstanceAs (Decidable (_ ∨ _))
def sgn (c : Int) : Nat := sgnL.getD (c % 93).toNat 33
theorem sgn_ws (c : Int) : Ws (sgn c) := by
  unfold sgn
  rw [List.getD_eq_getElem?_getD]
  cases h : sgnL[(c % 93).toNat]? with
  | none => exact ⟨by decide, by decide⟩
  | some x => exact sgnL_ws x (List.mem_of_getElem? h)
theorem at_sgn (c : Int) : atI sgnL (c % 93) = some (sgn c) := by
  have h0 : 0 ≤ c % 93 := Int.emod_nonneg c (by decide)
  have h1 : c % 93 < 93 := Int.emod_lt_of_pos c (by decide)
  have hl : (c % 93).toNat < sgnL.length := by rw [sgnL_len]; omega
  have e : c % 93 = ((c % 93).toNat : Int) := by omega
  rw [e]
  refine atI_nat ?_
  unfold sgn
  rw [List.getD_eq_getElem?_getD, List.getElem?_eq_getElem hl] <;> rfl
theorem space_ws : ∀ c, Ws c → Unicode.isSpace c = false := by
  have h : ∀ c < 127, 33 ≤ c → Unicode.isSpace c = false := by decide +kernel
  exact fun c hc => h c (by have := hc.2; omega) hc.1
theorem space_32 : Unicode.isSpace 32 = true := by decide +kernel
theorem space_10 : Unicode.isSpace 10 = true := by decide +kernel
/-! ### lists of texts, of ints, compared -/
theorem strOk_of {z : Str} (h : ∀ c ∈ TL.tl z, c < 1114112) : PyData.strOk z = true := by
  unfold PyData.strOk
  rw [← Array.all_toList, List.all_eq_true]
  exact fun c hc => decide_eq_true (h c hc)
theorem canLay_strs : ∀ {l : List Str}, (∀ z ∈ l, ∀ c ∈ TL.tl z, c < 1114112) → PyData.canLayAll0 (l.map PyData.str) = true
  | [], _ => by simp [PyData.canLayAll0]
  | z :: r, h => by
    rw [List.map_cons, PyData.canLayAll0, PyData.canLay0, strOk_of (h z (List.mem_cons_self ..)), canLay_strs fun y hy => h y (List.mem_cons_of_mem _ hy)] <;> rfl
theorem depth_strs : ∀ l : List Str, PyData.depthAll (l.map PyData.str) = 0
  | [] => by simp [PyData.depthAll]
  | z :: r => by
    rw [List.map_cons, PyData.depthAll, depth_strs r, PyData.depth] <;> rfl
theorem shaped_strs {l : List Str} (h : ∀ z ∈ l, ∀ c ∈ TL.tl z, c < 1114112) : SeqAt.shaped (.list (l.map PyData.str)) = true := by
  unfold SeqAt.shaped
  rw [PyData.canLay0, canLay_strs h, PyData.depth, depth_strs] <;> rfl
theorem eqv_strs : ∀ l m : List Str, PyData.eqvAll (l.map PyData.str) (m.map PyData.str) = decide (l = m)
  | [], [] => by simp [PyData.eqvAll]
  | [], _ :: _ => by simp [PyData.eqvAll]
  | _ :: _, [] => by simp [PyData.eqvAll]
  | x :: l, y :: m => by
    rw [List.map_cons, List.map_cons, PyData.eqvAll, PyData.eqv, eqv_strs l m]
    rw [Bool.eq_iff_iff]
    simp
theorem eqv_lstrs (l m : List Str) : PyData.eqv (.list (l.map PyData.str)) (.list (m.map PyData.str)) = decide (l = m) := by
  rw [PyData.eqv]
  exact eqv_strs l m
theorem canLay_ints : ∀ l : List Int, PyData.canLayAll0 (l.map PyData.int) = true
  | [] => by simp [PyData.canLayAll0]
  | z :: r => by
    rw [List.map_cons, PyData.canLayAll0, PyData.canLay0, canLay_ints r] <;> rfl
theorem depth_ints : ∀ l : List Int, PyData.depthAll (l.map PyData.int) = 0
  | [] => by simp [PyData.depthAll]
  | z :: r => by
    rw [List.map_cons, PyData.depthAll, depth_ints r, PyData.depth] <;> rfl
theorem shaped_ints (l : List Int) : SeqAt.shaped (.list (l.map PyData.int)) = true := by
  unfold SeqAt.shaped
  rw [PyData.canLay0, canLay_ints, PyData.depth, depth_ints] <;> rfl
theorem eqv_ints : ∀ l m : List Int, PyData.eqvAll (l.map PyData.int) (m.map PyData.int) = decide (l = m)
  | [], [] => by simp [PyData.eqvAll]
  | [], _ :: _ => by simp [PyData.eqvAll]
  | _ :: _, [] => by simp [PyData.eqvAll]
  | x :: l, y :: m => by
    rw [List.map_cons, List.map_cons, PyData.eqvAll, PyData.eqv, eqv_ints l m]
    rw [Bool.eq_iff_iff]
    simp
theorem eqv_lints (l m : List Int) : PyData.eqv (.list (l.map PyData.int)) (.list (m.map PyData.int)) = decide (l = m) := by
  rw [PyData.eqv]
  exact eqv_ints l m
section
variable {K : PySem.W.Frag} {σ : L2.St} {H H' : Hp} {ta tb te tx : TE}
theorem rv_eqS {p q : Addr} {l m : List Str} (hp : SqL K H p (l.map V.str)) (hq : SqL K H q (m.map V.str)) (hl : ∀ z ∈ l, ∀ c ∈ TL.tl z, c < 1114112) (hm : ∀ z ∈ m, ∀ c ∈ TL.tl z, c < 1114112) : RV (rEqD K) (.ref p) (.ref q) H (.bl (decide (l = m))) := by
  rw [← eqv_lstrs]
  exact rv_eqD (fun H1 e => dp_strs (ex_l e hp)) (fun H1 e => dp_strs (ex_l e hq)) (shaped_strs hl) (shaped_strs hm)
theorem rv_neS {p q : Addr} {l m : List Str} (hp : SqL K H p (l.map V.str)) (hq : SqL K H q (m.map V.str)) (hl : ∀ z ∈ l, ∀ c ∈ TL.tl z, c < 1114112) (hm : ∀ z ∈ m, ∀ c ∈ TL.tl z, c < 1114112) : RV (rNeD K) (.ref p) (.ref q) H (.bl (!decide (l = m))) := by
  rw [← eqv_lstrs]
  exact rv_neD (fun H1 e => dp_strs (ex_l e hp)) (fun H1 e => dp_strs (ex_l e hq)) (shaped_strs hl) (shaped_strs hm)
theorem rv_eqI {p q : Addr} {l m : List Int} (hp : SqL K H p (l.map V.int)) (hq : SqL K H q (m.map V.int)) : RV (rEqD K) (.ref p) (.ref q) H (.bl (decide (l = m))) := by
  rw [← eqv_lints]
  exact rv_eqD (fun H1 e => dp_ints (ex_l e hp)) (fun H1 e => dp_ints (ex_l e hq)) (shaped_ints _) (shaped_ints _)
theorem rv_neI {p q : Addr} {l m : List Int} (hp : SqL K H p (l.map V.int)) (hq : SqL K H q (m.map V.int)) : RV (rNeD K) (.ref p) (.ref q) H (.bl (!decide (l = m))) := by
  rw [← eqv_lints]
  exact rv_neD (fun H1 e => dp_ints (ex_l e hp)) (fun H1 e => dp_ints (ex_l e hq)) (shaped_ints _) (shaped_ints _)
end
/-- the texts of the law -/
def Txs (z : Str) : Prop := ∀ c ∈ TL.tl z, Ts c
theorem Ts.lt {c : Nat} (h : Ts c) : c < 1114112 := by
  rcases h with h | h | ⟨h, h2⟩ <;> omega
theorem Txs.lt {z : Str} (h : Txs z) : ∀ c ∈ TL.tl z, c < 1114112 := fun c hc => (h c hc).lt
theorem Txs.app {x y : Str} (h : Txs x) (k : Txs y) : Txs (x ++ y) := fun c hc => by
  rw [TL.tl_append] at hc
  rcases List.mem_append.mp hc with hc | hc
  · exact h c hc
  · exact k c hc
theorem len_app (x y : Str) : (x ++ y).length = x.length + y.length := by
  rw [TL.len_tl, TL.len_tl, TL.len_tl, TL.tl_append, List.length_append]
theorem tl_one (c : Nat) : TL.tl ⟨#[c]⟩ = [c] := rfl
theorem txs_one {c : Nat} (h : Ts c) : Txs ⟨#[c]⟩ := fun d hd => by
  rw [tl_one] at hd
  rw [List.mem_singleton.mp hd]
  exact h
theorem blank_eq : Str.ofString " " = ⟨#[32]⟩ := by decide +kernel
theorem lf_eq : Str.ofString "\n" = ⟨#[10]⟩ := by decide +kernel
theorem none_eq : Str.ofString "" = Str.empty := by decide +kernel
section
variable {σ : L2.St} {H : Hp}
theorem ev_blank : Ev (tC (.str (Str.ofString " "))) σ H (.str ⟨#[32]⟩) := ev_is ev_c (congrArg V.str blank_eq)
theorem ev_lf : Ev (tC (.str (Str.ofString "\n"))) σ H (.str ⟨#[10]⟩) := ev_is ev_c (congrArg V.str lf_eq)
theorem ev_none : Ev (tC (.str (Str.ofString ""))) σ H (.str Str.empty) := ev_is ev_c (congrArg V.str none_eq)
end
/-! ### the words of a text -/
theorem step_fst {ws : List Str} {u : Str} {c : Nat} : (KWd.step (ws, u) c).1.length ≤ ws.length + 1 ∧ (KWd.step (ws, u) c).2.length ≤ u.length + 1 := by
  unfold KWd.step
  split
  · split
    · exact ⟨Nat.le_succ _, Nat.le_succ _⟩
    · exact ⟨by rw [List.length_append] <;> exact Nat.le_refl _, Nat.zero_le _⟩
  · exact ⟨Nat.le_succ _, by rw [len_app] <;> exact Nat.le_refl _⟩
/-- what the fold keeps of words: no more signs than were read, each a sign of the text that is no blank -/
structure Cut (n : Nat) (S : Nat → Prop) (st : KWd.St) : Prop where
  few : st.1.length ≤ n
  short : st.2.length ≤ n
  all : (st.1.map (·.length)).sum + st.2.length ≤ n
  ws : ∀ z ∈ st.1, z.length ≠ 0 ∧ ∀ c ∈ TL.tl z, S c ∧ Unicode.isSpace c = false
  us : ∀ c ∈ TL.tl st.2, S c ∧ Unicode.isSpace c = false
theorem Cut.zero {S : Nat → Prop} : Cut 0 S ([], Str.empty) := ⟨Nat.le_refl _, Nat.le_refl _, Nat.le_refl _, fun _ h => by simp at h, fun _ h => by simp [TL.tl, Str.empty] at h⟩
theorem Cut.step {n : Nat} {S : Nat → Prop} {st : KWd.St} (h : Cut n S st) {c : Nat} (hc : S c) : Cut (n + 1) S (KWd.step st c) := by
  obtain ⟨ws, u⟩ := st
  obtain ⟨h1, h2, h3, h4, h5⟩ := h
  simp only at h1 h2 h3 h4 h5
  unfold KWd.step
  split
  · split
    · exact ⟨by simp only; omega, by simp only; omega, by simp only; omega, h4, h5⟩
    · rename_i hs hu
      refine ⟨by simp only [List.length_append, List.length_singleton]; omega, Nat.zero_le _, ?_, fun z hz => ?_, fun d hd => by simp [TL.tl, Str.empty] at hd⟩
      · simp only [List.map_append, List.map_cons, List.map_nil, List.sum_append, List.sum_cons, List.sum_nil]
        show _ + (u.length + 0) + 0 ≤ _
        omega
      · rcases List.mem_append.mp hz with hz | hz
        · exact h4 z hz
        · rw [List.mem_singleton.mp hz]
          exact ⟨hu, h5⟩
  · rename_i hs
    refine ⟨by simp only; omega, ?_, ?_, h4, fun d hd => ?_⟩
    · simp only [len_app]
      show u.length + 1 ≤ n + 1
      omega
    · simp only [len_app]
      show _ + (u.length + 1) ≤ n + 1
      omega
    · simp only at hd
      rw [TL.tl_append, tl_one] at hd
      rcases List.mem_append.mp hd with hd | hd
      · exact h5 d hd
      · rw [List.mem_singleton.mp hd]
        exact ⟨hc, by cases e : Unicode.isSpace c <;> simp_all⟩
theorem cut_fold {S : Nat → Prop} : ∀ (l : List Nat) (n : Nat) (st : KWd.St), Cut n S st → (∀ c ∈ l, S c) → Cut (n + l.length) S (l.foldl KWd.step st)
  | [], _, _, h, _ => h
  | c :: r, n, st, h, hs => by
    rw [List.foldl_cons, List.length_cons, show n + (r.length + 1) = n + 1 + r.length by omega]
    exact cut_fold r (n + 1) _ (h.step (hs c (List.mem_cons_self ..))) fun d hd => hs d (List.mem_cons_of_mem _ hd)
/-- words of a text of the law: none empty, of signs of words alone, no more of them than signs -/
theorem words_ok {z : Str} (h : Txs z) : (Txt.words z).length ≤ z.length ∧ ((Txt.words z).map (·.length)).sum ≤ z.length ∧ ∀ y ∈ Txt.words z, y.length ≠ 0 ∧ ∀ c ∈ TL.tl y, Ws c := by
  have q := cut_fold (S := Ts) (TL.tl z) 0 ([], Str.empty) Cut.zero h
  rw [Nat.zero_add, ← TL.len_tl] at q
  rw [KWd.words_scan]
  have hw : ∀ y : Str, (∀ c ∈ TL.tl y, Ts c ∧ Unicode.isSpace c = false) → ∀ c ∈ TL.tl y, Ws c := fun y hy c hc => by
    obtain ⟨t, s⟩ := hy c hc
    rcases t with t | t | t
    · rw [t, space_32] at s; cases s
    · rw [t, space_10] at s; cases s
    · exact t
  unfold KWd.fin KWd.scan
  revert q
  generalize z.cps.toList.foldl KWd.step ([], Str.empty) = st
  intro q
  split
  · exact ⟨q.few, by have := q.all; omega, fun y hy => ⟨(q.ws y hy).1, hw y (q.ws y hy).2⟩⟩
  · rename_i hu
    refine ⟨?_, ?_, fun y hy => ?_⟩
    · rw [List.length_append]
      have h1 := q.all
      have h2 : st.1.length ≤ (st.1.map (·.length)).sum := by
        have h4 := q.ws
        revert h4
        generalize st.1 = l
        intro h4
        induction l with
        | nil => exact Nat.le_refl _
        | cons a r ih =>
          have ha := (h4 a (List.mem_cons_self ..)).1
          have hr := ih fun y hy => h4 y (List.mem_cons_of_mem _ hy)
          rw [List.map_cons, List.sum_cons, List.length_cons]
          omega
      show st.1.length + 1 ≤ _
      omega
    · rw [List.map_append, List.sum_append]
      have h1 := q.all
      show _ + (st.2.length + 0) ≤ _
      omega
    · rcases List.mem_append.mp hy with hy | hy
      · exact ⟨(q.ws y hy).1, hw y (q.ws y hy).2⟩
      · rw [List.mem_singleton.mp hy]
        exact ⟨hu, hw _ q.us⟩
theorem mul_txs {z : Str} (h : Txs z) (k : Int) : Txs (Txt.mul z k) := fun c hc => by
  unfold Txt.mul at hc
  split at hc
  · simp [TL.tl, Str.empty] at hc
  · split at hc
    · exact h c hc
    · have go : ∀ (n : Nat) (acc : Array Nat), (∀ d ∈ acc.toList, Ts d) → ∀ d ∈ ((List.replicate n z.cps).foldl (· ++ ·) acc).toList, Ts d := by
        intro n
        induction n with
        | zero => exact fun acc ha => ha
        | succ n ih =>
          intro acc ha
          rw [List.replicate_succ, List.foldl_cons]
          refine ih _ fun d hd => ?_
          rw [Array.toList_append] at hd
          rcases List.mem_append.mp hd with hd | hd
          · exact ha d hd
          · exact h d hd
      exact go _ _ (fun d hd => by simp at hd) c hc
/-! ### a list of lists of texts, made behind H0 -/
def LLs (H0 H : Hp) (l : Addr) (ex : List Addr) (pss : List (List Str)) : Prop := H0 l = none ∧ ∃ ps : List (Addr × List Str), pss = ps.map (·.2) ∧ H l = some (.lst (ps.map fun x => V.ref x.1)) ∧ (l :: ps.map (·.1)).Nodup ∧
  (∀ x ∈ ps, H0 x.1 = none ∧ H x.1 = some (.lst (x.2.map V.str))) ∧ ∀ b ∈ ex, b ≠ l ∧ ∀ x ∈ ps, b ≠ x.1
theorem LLs.mono {H0 H H' : Hp} {l : Addr} {ex : List Addr} {pss : List (List Str)} (h : LLs H0 H l ex pss) (e : Ex H H') : LLs H0 H' l ex pss := by
  obtain ⟨h0, ps, h1, h2, h3, h4, h5⟩ := h
  exact ⟨h0, ps, h1, e _ _ h2, h3, fun x hx => ⟨(h4 x hx).1, e _ _ (h4 x hx).2⟩, h5⟩
/-- an address of ex is written -/
theorem LLs.other {H0 H : Hp} {l b : Addr} {ex : List Addr} {pss : List (List Str)} {o : HO} (h : LLs H0 H l ex pss) (hb : b ∈ ex) : LLs H0 (upd H b o) l ex pss := by
  obtain ⟨h0, ps, h1, h2, h3, h4, h5⟩ := h
  refine ⟨h0, ps, h1, ?_, h3, fun x hx => ⟨(h4 x hx).1, ?_⟩, h5⟩
  · rw [upd_ne (h5 b hb).1.symm]
    exact h2
  · rw [upd_ne ((h5 b hb).2 x hx).symm]
    exact (h4 x hx).2
/-- a new list q, laid behind Hb, is put behind -/
theorem LLs.push {H0 Hb H : Hp} {l q : Addr} {ex : List Addr} {pss : List (List Str)} {w : List Str} (h : LLs H0 Hb l ex pss) (hq : Hb q = none) (e : Ex Hb H) (e0 : Ex H0 Hb) (hw : H q = some (.lst (w.map V.str))) (hex : ∀ b ∈ ex, Hb b ≠ none) :
    ∃ vs, H l = some (.lst vs) ∧ vs.length = pss.length ∧ LLs H0 (upd H l (.lst (vs ++ [V.ref q]))) l ex (pss ++ [w]) := by
  obtain ⟨h0, ps, h1, h2, h3, h4, h5⟩ := h
  have nql : q ≠ l := fun z => by rw [z, h2] at hq; cases hq
  have nqp : ∀ x ∈ ps, x.1 ≠ q := fun x hx z => by rw [← z, (h4 x hx).2] at hq; cases hq
  have nlp : ∀ x ∈ ps, x.1 ≠ l := fun x hx z => (List.nodup_cons.mp h3).1 (by rw [← z]; exact List.mem_map_of_mem hx)
  refine ⟨_, e _ _ h2, by rw [h1, List.length_map, List.length_map], h0, ps ++ [(q, w)], by rw [h1, List.map_append] <;> rfl, by rw [upd_same, List.map_append] <;> rfl, ?_, fun x hx => ?_, fun b hb => ⟨(h5 b hb).1, fun x hx => ?_⟩⟩
  · rw [List.map_append, ← List.cons_append]
    refine List.nodup_append.mpr ⟨h3, by simp, fun a ha b hb => ?_⟩
    rw [List.map_cons, List.map_nil, List.mem_singleton] at hb
    rw [hb]
    rcases List.mem_cons.mp ha with ha | ha
    · rw [ha]
      exact nql.symm
    · obtain ⟨x, hx, rfl⟩ := List.mem_map.mp ha
      exact nqp x hx
  · rcases List.mem_append.mp hx with hx | hx
    · rw [upd_ne (nlp x hx)]
      exact ⟨(h4 x hx).1, e _ _ (h4 x hx).2⟩
    · rw [List.mem_singleton.mp hx, upd_ne nql]
      exact ⟨fresh_back e0 hq, hw⟩
  · rcases List.mem_append.mp hx with hx | hx
    · exact (h5 b hb).2 x hx
    · rw [List.mem_singleton.mp hx]
      exact fun z => hex b hb (by rw [z]; exact hq)
/-- the last one -/
theorem LLs.last {H0 H : Hp} {l : Addr} {ex : List Addr} {pss : List (List Str)} (h : LLs H0 H l ex pss) (hn : pss ≠ []) :
    ∃ vs p xs, H l = some (.lst vs) ∧ atI vs (-1) = some (.ref p) ∧ H p = some (.lst (xs.map V.str)) ∧ pss = pss.dropLast ++ [xs] ∧ H0 p = none ∧ (∀ b ∈ ex, b ≠ p) ∧
      ∀ H' ys, Ex H H' → LLs H0 (upd H' p (.lst (xs.map V.str ++ ys.map V.str))) l ex (pss.dropLast ++ [xs ++ ys]) := by
  obtain ⟨h0, ps, h1, h2, h3, h4, h5⟩ := h
  have hps : ps ≠ [] := fun z => hn (by rw [h1, z] <;> rfl)
  obtain ⟨r, x, rfl⟩ : ∃ r x, ps = r ++ [x] := ⟨_, _, (List.dropLast_concat_getLast hps).symm⟩
  have hx := h4 x (List.mem_append_right _ (List.mem_singleton.mpr rfl))
  have hdl : pss.dropLast = r.map (·.2) := by
    rw [h1, List.map_append]
    exact List.dropLast_concat
  have nxl : x.1 ≠ l := fun z => (List.nodup_cons.mp h3).1 (by rw [← z]; exact List.mem_map_of_mem (List.mem_append_right _ (List.mem_singleton.mpr rfl)))
  have nrx : ∀ y ∈ r, y.1 ≠ x.1 := fun y hy z => by
    have q := (List.nodup_cons.mp h3).2
    rw [List.map_append] at q
    exact (List.nodup_append.mp q).2.2 y.1 (List.mem_map_of_mem hy) x.1 (List.mem_singleton.mpr rfl) z
  refine ⟨_, x.1, x.2, h2, by rw [List.map_append]; exact atI_last _ _, hx.2, by rw [hdl, h1, List.map_append] <;> rfl, hx.1, fun b hb => (h5 b hb).2 x (List.mem_append_right _ (List.mem_singleton.mpr rfl)), fun H' ys e => ⟨h0, r ++ [(x.1, x.2 ++ ys)], ?_, ?_, ?_, fun y hy => ?_, fun b hb => ⟨(h5 b hb).1, fun y hy => ?_⟩⟩⟩
  · rw [hdl, List.map_append] <;> rfl
  · rw [upd_ne nxl.symm, e _ _ h2, List.map_append, List.map_append] <;> rfl
  · rw [List.map_append] at h3 ⊢
    exact h3
  · rcases List.mem_append.mp hy with hy | hy
    · rw [upd_ne (nrx y hy)]
      exact ⟨(h4 y (List.mem_append_left _ hy)).1, e _ _ (h4 y (List.mem_append_left _ hy)).2⟩
    · rw [List.mem_singleton.mp hy]
      refine ⟨hx.1, ?_⟩
      rw [upd_same, List.map_append]
  · rcases List.mem_append.mp hy with hy | hy
    · exact (h5 b hb).2 y (List.mem_append_left _ hy)
    · rw [List.mem_singleton.mp hy]
      exact (h5 b hb).2 x (List.mem_append_right _ (List.mem_singleton.mpr rfl))
/-- the k-th one -/
theorem LLs.at {H0 H : Hp} {l : Addr} {ex : List Addr} {pss : List (List Str)} (h : LLs H0 H l ex pss) {k : Nat} {xs : List Str} (hk : pss[k]? = some xs) :
    ∃ vs p, H l = some (.lst vs) ∧ vs.length = pss.length ∧ vs[k]? = some (.ref p) ∧ H p = some (.lst (xs.map V.str)) := by
  obtain ⟨h0, ps, h1, h2, h3, h4, h5⟩ := h
  rw [h1, List.getElem?_map] at hk
  obtain ⟨x, hx, rfl⟩ := Option.map_eq_some_iff.mp hk
  exact ⟨_, x.1, h2, by rw [h1, List.length_map, List.length_map], by rw [List.getElem?_map, hx] <;> rfl, (h4 x (List.mem_of_getElem? hx)).2⟩
theorem LLs.lst {H0 H : Hp} {l : Addr} {ex : List Addr} {pss : List (List Str)} (h : LLs H0 H l ex pss) : ∃ vs, H l = some (.lst vs) ∧ vs.length = pss.length := by
  obtain ⟨h0, ps, h1, h2, h3, h4, h5⟩ := h
  exact ⟨_, h2, by rw [h1, List.length_map, List.length_map]⟩
section
variable {K : PySem.W.Frag} {σ : L2.St} {H H' : Hp} {ta tb te tx : TE} {D : Ends} {tz : TS} {v : V}
theorem et_tru {p : Addr} {xs : List V} (h : Ev te σ H (.ref p)) (hs : SqL K H p xs) : EvT (fun σ H Q => te σ H fun x H' => ∃ k, TruV K x H' k ∧ Q k H') σ H (!xs.isEmpty) := fun H1 e _ q => h H1 e _ fun H2 e2 => ⟨_, .inl ⟨xs, ex_l (e.trans e2) hs, rfl⟩, q H2 e2⟩
theorem ev_notT {p : Addr} {xs : List V} (h : Ev te σ H (.ref p)) (hs : SqL K H p xs) : Ev (tNotT K te) σ H (.bl (!!xs.isEmpty)) := fun H1 e _ q => h H1 e _ fun H2 e2 => ⟨_, .inl ⟨xs, ex_l (e.trans e2) hs, rfl⟩, q H2 e2⟩
/-- xs.extend(ys) -/
theorem s_ext {l b : Addr} {xs zs : List V} (hl : H l = some (.lst xs)) (hb : H b = some (.lst zs)) (ha : Ev ta σ H (.ref l)) (h : Ev te σ H (.ref b)) (hz : xs.length + zs.length ≤ 100000) (k : ∀ H1, Ex H H1 → D.nx σ (upd H1 l (.lst (xs ++ zs)))) :
    tDrop (tBM K "list" rExtend ta (tCons te tNil)) D σ H := ha H (Ex.refl H) _ fun H1 e1 =>
  ⟨Or.inl ⟨rfl, xs, sq_of (e1 l _ hl)⟩, h H1 e1 _ fun H2 e2 => ⟨l, b, xs, zs, rfl, rfl, e2 l _ (e1 l _ hl), e2 b _ (e1 b _ hb), sz_of hz, k H2 (e1.trans e2)⟩⟩
/-- a text cut -/
theorem el_split {a b : Str} (ha : Ev ta σ H (.str a)) (hb : Ev tb σ H (.str b)) (h0 : (b.length == 0) = false) (hl : a.length ≤ 90000) :
    EvL (tM1 (fun x xs H Q => ∃ a b, x = .str a ∧ xs = [.str b] ∧ (b.length == 0) = false ∧ a.length + 2 ≤ sizeLine ∧ rNewStrs (Txt.split a b) H Q) ta tb) σ H ((Txt.split a b).map V.str) :=
  fun H1 e Q q => ha H1 e _ fun H2 e2 => ⟨⟨a, rfl⟩, hb H2 (e.trans e2) _ fun H3 e3 => ⟨a, b, rfl, rfl, h0, sz_of (by omega), fun p hp => q p _ (fresh_back (e2.trans e3) hp) ((e2.trans e3).trans (Ex.new hp)) upd_same⟩⟩
end
/-! ### joined, cut: signs and sizes -/
theorem joinL_mem (S : List Nat) : ∀ (ps : List (List Nat)) (c : Nat), c ∈ TL.joinL S ps → c ∈ S ∨ ∃ p ∈ ps, c ∈ p
  | [], _, h => absurd h (List.not_mem_nil)
  | [p], _, h => .inr ⟨p, List.mem_cons_self .., h⟩
  | p :: q :: r, c, h => by
    have h' : c ∈ p ++ (S ++ TL.joinL S (q :: r)) := h
    rcases List.mem_append.mp h' with h1 | h1
    · exact .inr ⟨p, List.mem_cons_self .., h1⟩
    · rcases List.mem_append.mp h1 with h2 | h2
      · exact .inl h2
      · rcases joinL_mem S (q :: r) c h2 with h3 | ⟨x, hx, h3⟩
        · exact .inl h3
        · exact .inr ⟨x, List.mem_cons_of_mem _ hx, h3⟩
theorem joinL_len (S : List Nat) : ∀ ps : List (List Nat), (TL.joinL S ps).length + (if ps = [] then 0 else S.length) = (ps.map List.length).sum + ps.length * S.length
  | [] => by simp [TL.joinL]
  | [p] => by simp [TL.joinL]
  | p :: q :: r => by
    have ih := joinL_len S (q :: r)
    rw [if_neg (by simp)] at ih
    show (p ++ (S ++ TL.joinL S (q :: r))).length + _ = _
    rw [if_neg (by simp), List.length_append, List.length_append, List.map_cons, List.sum_cons, List.length_cons, Nat.succ_mul]
    omega
theorem txs_join {y : Str} {ps : List Str} (hy : Txs y) (hp : ∀ p ∈ ps, Txs p) : Txs (Txt.join y ps) := fun c hc => by
  rw [TL.join_eq, TL.tl_join] at hc
  rcases joinL_mem _ _ c hc with h | ⟨p, h, h2⟩
  · exact hy c h
  · obtain ⟨z, hz, rfl⟩ := List.mem_map.mp h
    exact hp z hz c h2
theorem len_join (y : Str) (ps : List Str) : (Txt.join y ps).length + (if ps = [] then 0 else y.length) = (ps.map (·.length)).sum + ps.length * y.length := by
  have h := joinL_len (TL.tl y) (ps.map TL.tl)
  rw [← TL.tl_join, ← TL.join_eq, ← TL.len_tl, ← TL.len_tl, List.length_map, List.map_map] at h
  have e : (List.length ∘ TL.tl) = fun z : Str => z.length := by
    funext z
    exact (TL.len_tl z).symm
  rw [e] at h
  rw [← h]
  cases ps <;> simp
theorem len_join0 (ps : List Str) : (Txt.join Str.empty ps).length = (ps.map (·.length)).sum := by
  have h := len_join Str.empty ps
  rw [show Str.empty.length = 0 from rfl, Nat.mul_zero] at h
  cases ps <;> simp at h ⊢ <;> omega
theorem txs_empty : Txs Str.empty := fun c hc => by simp [TL.tl, Str.empty] at hc
/-- a text cut at the line ends -/
theorem spl_len : ∀ (l acc : List Nat), ((TL.spl [10] 0 acc l).map List.length).sum + (TL.spl [10] 0 acc l).length = acc.length + l.length + 1
  | [], acc => by rw [TL.spl_nil]; simp
  | c :: l, acc => by
    by_cases hc : c = 10
    · have e : TL.spl [10] 0 acc (c :: l) = acc :: TL.spl [10] 0 [] l := TL.spl_hit (by rw [hc]; rfl)
      rw [e, List.map_cons, List.sum_cons, List.length_cons]
      have ih := spl_len l []
      rw [List.length_nil] at ih
      rw [List.length_cons]
      omega
    · rw [TL.spl_miss (by
        show (([c] : List Nat) == [10]) = false
        rw [beq_eq_false_iff_ne]
        exact fun q => hc (List.cons.inj q).1)]
      have ih := spl_len l (acc ++ [c])
      rw [List.length_append, List.length_singleton] at ih
      rw [List.length_cons]
      omega
theorem spl_mem : ∀ (l acc y : List Nat) (c : Nat), y ∈ TL.spl [10] 0 acc l → c ∈ y → c ∈ acc ∨ c ∈ l
  | [], acc, y, c, h, hc => by
    rw [TL.spl_nil] at h
    rw [List.mem_singleton.mp h] at hc
    exact .inl hc
  | d :: l, acc, y, c, h, hc => by
    by_cases hd : d = 10
    · rw [TL.spl_hit (by rw [hd]; rfl)] at h
      rcases List.mem_cons.mp h with h | h
      · rw [h] at hc
        exact .inl hc
      · rcases spl_mem l [] y c h hc with q | q
        · exact absurd q (List.not_mem_nil)
        · exact .inr (List.mem_cons_of_mem _ q)
    · rw [TL.spl_miss (by
        show (([d] : List Nat) == [10]) = false
        rw [beq_eq_false_iff_ne]
        exact fun q => hd (List.cons.inj q).1)] at h
      rcases spl_mem l (acc ++ [d]) y c h hc with q | q
      · rcases List.mem_append.mp q with q | q
        · exact .inl q
        · rw [List.mem_singleton.mp q]
          exact .inr (List.mem_cons_self ..)
      · exact .inr (List.mem_cons_of_mem _ q)
def lfS : Str := ⟨#[10]⟩
theorem split_rows (z : Str) : (Txt.split z lfS).map TL.tl = TL.spl [10] 0 [] (TL.tl z) := TL.split_spl z lfS (by decide) (TL.kind_ok (by decide +kernel))
theorem rows_len (z : Str) : ((Txt.split z lfS).map (·.length)).sum + (Txt.split z lfS).length = z.length + 1 := by
  have h := spl_len (TL.tl z) []
  rw [← split_rows, List.length_map, List.map_map] at h
  have e : (List.length ∘ TL.tl) = fun z : Str => z.length := by
    funext z
    exact (TL.len_tl z).symm
  rw [e, ← TL.len_tl, List.length_nil, Nat.zero_add] at h
  exact h
theorem rows_txs {z : Str} (h : Txs z) : ∀ y ∈ Txt.split z lfS, Txs y := fun y hy c hc => by
  have hm : TL.tl y ∈ TL.spl [10] 0 [] (TL.tl z) := by
    rw [← split_rows]
    exact List.mem_map_of_mem hy
  rcases spl_mem _ _ _ c hm hc with q | q
  · exact absurd q (List.not_mem_nil)
  · exact h c q
section
variable {K : PySem.W.Frag} {σ : L2.St} {H H' : Hp} {ta tb te tx : TE} {D : Ends} {tz : TS} {v : V}
theorem el_is {xs ys : List V} (h : EvL te σ H xs) (e : xs = ys) : EvL te σ H ys := by
  rw [← e]
  exact h
theorem given_all (n : Nat) (v : Nat → V) : given n (fun _ => true) v = (List.range n).map v := by
  unfold given
  rw [List.filter_eq_self.mpr fun _ _ => rfl]
theorem et_yes : EvT tYes σ H true := fun H1 _ _ q => q H1 (Ex.refl H1)
/-- [e for k in range(n)] -/
theorem el_lcR {ta : TA} {j : Nat} {vs : List Nat} {n : Int} (v : Nat → V) (h : EvA ta σ H [.int n]) (hn : 0 ≤ n ∧ n ≤ 40000) (hw : ∀ x, wipe ((wipe σ vs).set j (some x)) vs = wipe σ vs)
    (he : ∀ (i : Nat) H1, Ex H H1 → (i : Int) < n → Ev te ((wipe σ vs).set j (some (.int (i : Int)))) H1 (v i)) : EvL (tLc (iRng1 ta) (gName j) tYes te vs) σ H ((List.range n.toNat).map v) :=
  el_is (el_lcR1 (fun _ => true) v h hn hw (fun _ _ _ _ => et_yes) fun i H1 e hi _ => he i H1 e hi) (given_all _ _)
/-- [e for x in l] -/
theorem el_lcX {a : Addr} {xs : List V} {tl : TE} {j : Nat} {vs : List Nat} (v : Nat → V) (h : Ev tl σ H (.ref a)) (hx : SqL K H a xs) (hz : xs.length ≤ 40000) (hw : ∀ x, wipe ((wipe σ vs).set j (some x)) vs = wipe σ vs)
    (he : ∀ (i : Nat) (x : V) H1, Ex H H1 → xs[i]? = some x → Ev te ((wipe σ vs).set j (some x)) H1 (v i)) : EvL (tLc (iList K tl) (gName j) tYes te vs) σ H ((List.range xs.length).map v) :=
  el_is (el_lcL (fun _ => true) v h hx hz hw (fun _ _ _ _ _ => et_yes) fun i x H1 e hi _ => he i x H1 e hi) (given_all _ _)
end
section
variable {σ : L2.St} {H : Hp} {D : Ends} {tz : TS}
/-- x = f(..), the arguments told by what they give -/
theorem q_asgP {ta : TA} {sp : Sp} {dvs : List V} {E : XK} {i : Nat} {P : List V → Hp → Prop} (h : ArgP ta σ H P) (k : ∀ vs H1, Ex H H1 → P vs H1 → sp (vs ++ dvs) H1 (fun v H2 => tz D (σ.set i (some v)) H2) E) : tSeq (tAsg (tCall sp dvs E ta) (gName i)) tz D σ H := h H (Ex.refl H) _ k
/-- x = f(..), told by f's own promise -/
theorem q_asgA {ta : TA} {sp : Sp} {dvs vs : List V} {E : XK} {i : Nat} (h : EvA ta σ H vs) (k : ∀ H1, Ex H H1 → sp (vs ++ dvs) H1 (fun v H2 => tz D (σ.set i (some v)) H2) E) : tSeq (tAsg (tCall sp dvs E ta) (gName i)) tz D σ H := h H (Ex.refl H) _ k
end
theorem LLs.drop {H0 H : Hp} {l : Addr} {ex : List Addr} {pss : List (List Str)} (h : LLs H0 H l ex pss) : LLs H0 H l [] pss := by
  obtain ⟨h0, ps, h1, h2, h3, h4, h5⟩ := h
  exact ⟨h0, ps, h1, h2, h3, h4, fun b hb => absurd hb (List.not_mem_nil)⟩
theorem LLs.zero {H0 H : Hp} {l : Addr} {ex : List Addr} (h0 : H0 l = none) (h : H l = some (.lst [])) (hex : ∀ b ∈ ex, b ≠ l) : LLs H0 H l ex [] :=
  ⟨h0, [], rfl, h, by simp, fun x hx => absurd hx (List.not_mem_nil), fun b hb => ⟨hex b hb, fun x hx => absurd hx (List.not_mem_nil)⟩⟩
/-! ### enumerate, tuples, sums -/
section
variable {K : PySem.W.Frag} {σ : L2.St} {H H' : Hp} {ta tb te tx : TE} {D : Ends} {tu tz : TS} {v : V}
theorem s_forE {ta : TA} {a : Addr} {xs : List V} {j1 j2 : Nat} (h : EvA ta σ H [.ref a]) (hx : SqL K H a xs) (Pv : Nat → L2.St → Hp → Prop) (h0 : ∀ H1, Ex H H1 → Pv 0 σ H1) (hl : ∀ i σ' H', i ≤ xs.length → Pv i σ' H' → SqL K H' a xs)
    (hs : ∀ i x σ' H' H2, xs[i]? = some x → Pv i σ' H' → Ex H' H2 → tu { D with nx := Pv (i + 1), ct := Pv (i + 1), bk := D.nx } ((σ'.set j1 (some (.int (i : Int)))).set j2 (some x)) H2) (hd : ∀ σ' H', Pv xs.length σ' H' → D.nx σ' H') :
    tFor (iEnum K ta) (gTup K 2 (gCons (gName j1) (gCons (gName j2) gNil))) tu D σ H :=
  h H (Ex.refl H) _ fun H1 e => ⟨a, xs, rfl, ex_l e hx, for_it walk_enum Pv (h0 H1 e) hl (fun i x σ' H' H'' hi p y => by
    obtain ⟨T, x1, x2, rfl, hT, rfl, hx1, hx2⟩ := y
    cases hx1
    exact ⟨T, _, rfl, .inl (.inl upd_same), rfl, _, _, rfl, _, _, rfl, rfl, hs i x2 σ' H' _ hx2 p (Ex.new hT)⟩) hd⟩
theorem q_forE {ta : TA} {a : Addr} {xs : List V} {j1 j2 : Nat} (h : EvA ta σ H [.ref a]) (hx : SqL K H a xs) (Pv : Nat → L2.St → Hp → Prop) (h0 : ∀ H1, Ex H H1 → Pv 0 σ H1) (hl : ∀ i σ' H', i ≤ xs.length → Pv i σ' H' → SqL K H' a xs)
    (hs : ∀ i x σ' H' H2, xs[i]? = some x → Pv i σ' H' → Ex H' H2 → tu { D with nx := Pv (i + 1), ct := Pv (i + 1), bk := tz D } ((σ'.set j1 (some (.int (i : Int)))).set j2 (some x)) H2) (hd : ∀ σ' H', Pv xs.length σ' H' → tz D σ' H') :
    tSeq (tFor (iEnum K ta) (gTup K 2 (gCons (gName j1) (gCons (gName j2) gNil))) tu) tz D σ H := s_forE (D := { D with nx := tz D }) h hx Pv h0 hl hs hd
theorem el_cat {l : Addr} {xs ys : List V} (ha : Ev ta σ H (.ref l)) (hl : H l = some (.lst xs)) (hb : EvL tb σ H ys) (hz : xs.length + ys.length ≤ 100000) : EvL (tOp rCat ta tb) σ H (xs ++ ys) := fun H1 e Q q =>
  ha H1 e _ fun H2 e2 => hb H2 (e.trans e2) _ fun p H3 _ e3 hp => ⟨l, p, xs, ys, rfl, rfl, e3 _ _ (e2 _ _ (e _ _ hl)), hp, sz_of hz, fun r hr => q r _ (fresh_back (e2.trans e3) hr) ((e2.trans e3).trans (Ex.new hr)) upd_same⟩
theorem el_catN {xs ys : List V} (ha : EvL ta σ H xs) (hb : EvL tb σ H ys) (hz : xs.length + ys.length ≤ 100000) : EvL (tOp rCat ta tb) σ H (xs ++ ys) := fun H1 e Q q =>
  ha H1 e _ fun l H2 _ e2 hl => hb H2 (e.trans e2) _ fun p H3 _ e3 hp => ⟨l, p, xs, ys, rfl, rfl, e3 _ _ hl, hp, sz_of hz, fun r hr => q r _ (fresh_back (e2.trans e3) hr) ((e2.trans e3).trans (Ex.new hr)) upd_same⟩
theorem ev_sumN {ns : List Int} (h : EvL te σ H (ns.map V.int)) : Ev (tCB (rSum K) (tCons te tNil)) σ H (.int ns.sum) := fun H1 e Q q =>
  h H1 e _ fun p H2 _ e2 hp => ⟨p, ns, rfl, sq_of hp, q H2 e2⟩
theorem ev_maxx {i j : Int} (ha : Ev ta σ H (.int i)) (hb : Ev tb σ H (.int j)) : Ev (tCB (fun xs H Q => ∃ i j, xs = [.int i, .int j] ∧ Q (.int (if j > i then j else i)) H) (tCons ta (tCons tb tNil))) σ H (.int (max i j)) := by
  have e : max i j = if j > i then j else i := by
    by_cases h : j > i
    · rw [if_pos h]; omega
    · rw [if_neg h]; omega
  rw [e]
  exact ev_max2 ha hb
theorem rc_isInt {i : Int} : RC (rIsi K) [.int i, .ty "int"] H (.bl true) := rc_isi (.ty _) (fun _ _ => .base (.int i)) (kit_ty (by decide +kernel))
theorem rc_isIntB {i : Int} : RC (rIsi K) [.int i, .ty "bool"] H (.bl false) := rc_isi (.ty _) (fun _ _ => .base (.int i)) (kit_ty (by decide +kernel))
/-- f(..) alone, told by f's own promise -/
theorem q_dropA {ta : TA} {sp : Sp} {dvs vs : List V} {E : XK} (h : EvA ta σ H vs) (k : ∀ H1, Ex H H1 → sp (vs ++ dvs) H1 (fun _ H2 => tz D σ H2) E) : tSeq (tDrop (tCall sp dvs E ta)) tz D σ H := h H (Ex.refl H) _ k
theorem s_dropA {ta : TA} {sp : Sp} {dvs vs : List V} {E : XK} (h : EvA ta σ H vs) (k : ∀ H1, Ex H H1 → sp (vs ++ dvs) H1 (fun _ H2 => D.nx σ H2) E) : tDrop (tCall sp dvs E ta) D σ H := h H (Ex.refl H) _ k
/-- a list made anew of another -/
theorem el_listOf {p : Addr} {xs : List V} (ha : Ev ta σ H (.ref p)) (h : SqL K H p xs) : EvL (tCB (fun xs H Q => ∃ p ys, xs = [.ref p] ∧ (SqL K H p ys ∨ SqT K H p ys) ∧ ∀ l, H l = none → Q (.ref l) (upd H l (.lst ys))) (tCons ta tNil)) σ H xs := el_list ha h
end
/-! ### tuples made in a display, walked -/
section
variable {K : PySem.W.Frag} {σ : L2.St} {H H' : Hp} {D : Ends} {tu tz : TS}
/-- arguments that give new tuples -/
def ArgT (ta : TA) (σ : L2.St) (H : Hp) (pss : List (List V)) : Prop := ∀ H1, Ex H H1 → ∀ Q : List V → Hp → Prop, (∀ (as : List Addr) H2, Ex H1 H2 → as.length = pss.length → (∀ (i : Nat) (a : Addr) (xs : List V), as[i]? = some a → pss[i]? = some xs → H2 a = some (.tup xs)) → Q (as.map V.ref) H2) → ta σ H1 Q
theorem at_nil : ArgT tNil σ H [] := fun H1 _ Q q => q [] H1 (Ex.refl H1) rfl (fun i a xs h => by simp at h)
theorem at_cons {te : TE} {tr : TA} {xs : List V} {pss : List (List V)} (h : EvU te σ H xs) (hr : ArgT tr σ H pss) : ArgT (tCons te tr) σ H (xs :: pss) := fun H1 e Q q =>
  h H1 e _ fun p H2 _ e2 hp => hr H2 (e.trans e2) _ fun as H3 e3 hl ha => q (p :: as) H3 (e2.trans e3) (by rw [List.length_cons, List.length_cons, hl]) (fun i a ys h1 h2 => by
    cases i with
    | zero =>
      cases h1
      cases h2
      exact e3 _ _ hp
    | succ i => exact ha i a ys h1 h2)
theorem q_forTs {ta : TA} {j : Nat} {pss : List (List V)} (h : ArgT ta σ H pss) (hz : pss.length ≤ 100) (Pv : Hp → Nat → L2.St → Hp → Prop) (hE : ∀ B i σ' H', Pv B i σ' H' → Ex B H') (h0 : ∀ B, Ex H B → Pv B 0 σ B)
    (hs : ∀ B i a xs σ' H', pss[i]? = some xs → Pv B i σ' H' → H' a = some (.tup xs) → tu { D with nx := Pv B (i + 1), ct := Pv B (i + 1), bk := tz D } (σ'.set j (some (.ref a))) H') (hd : ∀ B σ' H', Pv B pss.length σ' H' → tz D σ' H') :
    tSeq (tFor (iList K (tLst ta)) (gName j) tu) tz D σ H := h H (Ex.refl H) _ fun as H1 e1 hl ha => by
  have hn : (as.map V.ref).length = pss.length := by rw [List.length_map, hl]
  refine ⟨by rw [hn]; exact sz_of (by omega), fun p hp => ⟨p, rfl, ⟨_, sq_of upd_same⟩, ?_⟩⟩
  have eB : Ex H (upd H1 p (.lst (as.map V.ref))) := e1.trans (Ex.new hp)
  refine for_list (K := K) (a := p) (xs := as.map V.ref) (D := { D with nx := tz D }) (Pv (upd H1 p (.lst (as.map V.ref)))) (h0 _ eB) (fun i σ' H' _ q => sq_of (hE _ _ _ _ q _ _ upd_same)) (fun i x σ' H' hi q => ?_) (fun σ' H' q => ?_)
  · rw [List.getElem?_map] at hi
    obtain ⟨a, hai, rfl⟩ := Option.map_eq_some_iff.mp hi
    have hil : i < pss.length := by
      have := (List.getElem?_eq_some_iff.mp hai).1
      omega
    have hxs : pss[i]? = some pss[i] := List.getElem?_eq_getElem hil
    have hta := ha i a _ hai hxs
    have nap : a ≠ p := fun z => by rw [z, hp] at hta; cases hta
    exact hs _ i a _ σ' H' hxs q (hE _ _ _ _ q _ _ (by rw [upd_ne nap]; exact hta))
  · rw [hn] at q
    exact hd _ σ' H' q
end
end Tw
set_option Elab.async false
set_option linter.all false
set_option maxRecDepth 100000
set_option maxHeartbeats 4000000
namespace Tw
open PySem PySem.Spec PyProof.Rows L2 L2H
/-! ### a list comprehension where an exception is handled -/
abbrev blkH (X : Cx) (s : Shared) (H : Hp) (scope : Scope) (cenv : Env) (fp : List Addr) : Cx := { X with s_0 := s, H_0 := H, env := cenv, outer := X.stack, ex := fp, fn := fun x => scope.names.lookup x == some .cell, xe := fun _ _ => False }
section
variable {X : Cx} {pins : List (Addr × Obj)} {σ : L2.St} {H : Hp} {s : Shared}
theorem inv_blkH {scope : Scope} {ce : Env} {fp : List Addr} {s3 s4 : Shared} {H3 : Hp} {σ4 : L2.St} (I3 : Inv X pins σ H3 s3) (hL : s3.heap.objs.size ≤ ce.locals) (hk : ∀ b o, s3.heap.get? b = some o → s4.heap.get? b = some o)
    (I4 : Inv (X.blk s3 H3 scope ce fp) [] σ4 H3 s4) : Inv (blkH X s3 H3 scope ce fp) [] σ4 H3 s4 := by
  have ok := I4.ok
  refine ⟨⟨ok.mod, ok.kind, ok.glob, ok.blt, ok.above, ok.inj, ok.has, ok.cab, ok.hd, ok.frames, ok.stk, ok.exf, ok.bs, ok.bsz, ok.noex, ok.exfs, ok.funs, ok.frf⟩, I4.os, I4.bare, I4.base, I4.loc, I4.cell, I4.free, I4.freeC, fun p hp => ?_, I4.hok, I4.len⟩
  have hp' : p ∈ X.pn := by
    rcases List.mem_append.mp hp with z | z
    · exact z
    · exact absurd z (List.not_mem_nil)
  obtain ⟨h1, h2, h3, h4, h5⟩ := I3.pin p (List.mem_append_left _ hp')
  refine ⟨hk _ _ h1, h2, Nat.ne_of_lt (Nat.lt_of_lt_of_le (Heap.lt_size h1) hL), fun z => ?_, h5⟩
  have z' : p.1 ∈ frs X.stack := z
  rcases I3.ok.stk with e | ⟨e, ef⟩
  · rw [e] at z'
    exact h4 z'
  · rw [e] at z'
    obtain ⟨q, hq, hf⟩ := List.mem_filterMap.mp z'
    rcases List.mem_cons.mp hq with hq | hq
    · rw [hq, ef] at hf
      exact h3 (Option.some.inj hf).symm
    · exact h4 (List.mem_filterMap.mpr ⟨q, hq, hf⟩)
theorem lcH_core {Q : VK} {elt tg iter : Expr} {ifs : List Expr} {scope : Scope} {own : List (Str × Nat)} {pos pos' : Pos} {wi : TI} {g : TG} {tt : TT} {te : TE} {use : Option (Value → Sem Unit)} {Qf : Value → Shared → Prop}
    (hc : HotC X) (hN : X.N.Nodup) (I : Inv X pins σ H s) (hi : PIH X tg iter wi) (ok : BlkOk X.N X.env.scope scope own)
    (hg : ∀ (s : Shared) (H : Hp) (C : Addr) (cl : List (Str × Addr)) (fp : List Addr), PG (blkH X s H scope (compEnvC scope cl C X.env) fp) tg g) (ht : ∀ (s : Shared) (H : Hp) (C : Addr) (cl : List (Str × Addr)) (fp : List Addr), PTs (blkH X s H scope (compEnvC scope cl C X.env) fp) ifs tt)
    (he : ∀ (s : Shared) (H : Hp) (C : Addr) (cl : List (Str × Addr)) (fp : List Addr), PE (blkH X s H scope (compEnvC scope cl C X.env) fp) elt te) (hs : ∀ x, foldedSetIterable iter X.env x = pure x)
    (h : tLc wi g tt te (own.map (·.2)) σ H Q)
    (hRR : ∀ D C s' m H', Inv X pins σ H' s' → Q (.ref D) H' → s'.heap.Ns C m → FpOk X pins H' C → compPost (model X.prog X.w) X.A X.xe use Qf (.ref D) C (.ok .next) s') :
    wpAny (model X.prog X.w) X.A (comprehension (.ListComp elt [⟨tg, iter, ifs, 0⟩] scope pos) scope X.env pos' (newList []) false (eval iter X.env) use) Qf X.xe s := by
  have hfree : ∀ y ∈ scope.names, y.2 = .free → ∃ c, X.env.cells.lookup y.1 = some c := fun y hy e => by
    rcases ok.free y hy e with k | k
    · exact I.ok.has _ (.inl k)
    · exact I.ok.has _ (.inr k)
  refine wpAny_comprehension_free (use := use) rfl hs (closure_ok hfree) ok.kind (fun y hy e => by rw [ok.uniq y hy, e])
    (thn (hi.run pins s σ H _ I h) fun xv s1 hx => thn hx fun itv s2 h2 => ?_)
  obtain ⟨it, fp, tn, J, H2, e, I2, T, st2, f2, q⟩ := h2
  subst e
  refine wpAny_newObj_type (newEnv_comp ?_) (by show 0 ≤ sizeLine; decide)
  generalize hD : s2.heap.objs.size = D
  have hDn : H2 D = none := I2.hok.fresh (Nat.le_of_eq hD)
  obtain ⟨W, ⟨m0, w0⟩, turn⟩ := q D hDn
  generalize hs3 : ({ s2 with heap := s2.heap.push { cls := .type "list", data := .seq ([] : List Value).toArray } } : Shared) = s3
  have I3 : Inv X pins σ (upd H2 D (.lst [])) s3 := by
    rw [← hs3]
    refine I2.laid (t' := s2.toks) (fun b o e => Heap.get?_push_of_some _ e) (Nat.le_of_eq hD) ⟨Nat.zero_le _, [], 0, .nil, ?_⟩
    rw [← hD]
    exact Heap.get?_push_size _ rfl
  have h3 : s3.heap = s2.heap.push { cls := .type "list", data := .seq ([] : List Value).toArray } := by rw [← hs3]
  have sz : ∀ b ∈ fp, b < s2.heap.objs.size := fun b hb => by
    obtain ⟨o, e, _⟩ := T.obj _ _ st2 b hb
    exact Heap.lt_size e
  have f3 : ∀ b ∈ fp, FpOk X pins (upd H2 D (.lst [])) b ∧ b < s3.heap.objs.size := fun b hb => by
    have hlt := sz b hb
    refine ⟨⟨?_, (f2 b hb).2⟩, by rw [h3, Heap.size_push]; exact Nat.lt_succ_of_lt hlt⟩
    rw [upd_ne (by rw [← hD]; exact Nat.ne_of_lt hlt)]
    exact (f2 b hb).1
  have st3 : tn 0 s3.heap := T.keep _ _ _ st2 fun b _ o e => by rw [h3]; exact Heap.get?_push_of_some _ e
  have I4 := block_start I3 ok hN f3
  have pg := hg s3 (upd H2 D (.lst [])) s3.heap.objs.size (cellsFrom (s3.heap.objs.size + 1) scope.names (cloFrom X.env.cells scope.names [])) fp
  have pt := ht s3 (upd H2 D (.lst [])) s3.heap.objs.size (cellsFrom (s3.heap.objs.size + 1) scope.names (cloFrom X.env.cells scope.names [])) fp
  have pe := he s3 (upd H2 D (.lst [])) s3.heap.objs.size (cellsFrom (s3.heap.objs.size + 1) scope.names (cloFrom X.env.cells scope.names [])) fp
  show codeAny _ _ (.compStart (.ListComp elt [⟨tg, iter, ifs, 0⟩] scope pos) 0 (.ref it) (.ref D) (compEnvC scope (cellsFrom (s3.heap.objs.size + 1) scope.names (cloFrom X.env.cells scope.names [])) s3.heap.objs.size X.env)) (compPost (model X.prog X.w) X.A X.xe use Qf (.ref D) s3.heap.objs.size) { s3 with heap := pushCells (s3.heap.push { cls := .type "dict", data := .dict #[] }) scope.names }
  have nfp : ∀ b ∈ fp, (upd H2 D (.lst [])) b = none := fun b hb => (f3 b hb).1.1
  have I4' := inv_blkH I3 (ce := compEnvC scope (cellsFrom (s3.heap.objs.size + 1) scope.names (cloFrom X.env.cells scope.names [])) s3.heap.objs.size X.env) (Nat.le_refl _) (fun b o e => pushCells_keeps _ _ _ _ (Heap.get?_push_of_some _ e)) I4
  clear I4
  have I4 := I4'
  clear I4'
  generalize hce : compEnvC scope (cellsFrom (s3.heap.objs.size + 1) scope.names (cloFrom X.env.cells scope.names [])) s3.heap.objs.size X.env = ce at I4 pg pt pe ⊢
  have cL : ce.locals = s3.heap.objs.size := by subst hce; rfl
  generalize hH3 : upd H2 D (.lst []) = H3 at I3 I4 pg pt pe w0 nfp f3
  generalize hs4 : ({ s3 with heap := pushCells (s3.heap.push { cls := .type "dict", data := .dict #[] }) scope.names } : Shared) = s4 at I4 ⊢
  have st4 : tn 0 s4.heap := T.keep _ _ _ st3 fun b _ o e => by rw [← hs4]; exact pushCells_keeps _ _ _ _ (Heap.get?_push_of_some _ e)
  have hcB : HotC (blkH X s3 H3 scope ce fp) := hc
  have stat : ∀ {σ' : L2.St} {H' : Hp} {s' : Shared}, Inv (blkH X s3 H3 scope ce fp) [] σ' H' s' → (∀ b ∈ fp, H' b = none) → ∀ b ∈ fp, FpOk (blkH X s3 H3 scope ce fp) [] H' b := fun {σ' H' s'} I' hn b hb =>
    ⟨hn b hb, (I'.ok.exf b hb).1, I'.ok.exfs b hb, .inl hb, fun x c e => (I'.ok.exf b hb).2 x c e, fun p hp => (f3 b hb).1.2.2.2.2.2 p (by
      rcases List.mem_append.mp hp with z | z
      · exact List.mem_append_left _ z
      · exact absurd z (List.not_mem_nil))⟩
  have loop : codeAny (model X.prog X.w) X.A (.compLoop (.ListComp elt [⟨tg, iter, ifs, 0⟩] scope pos) 0 (.ref it) (.ref D) ce) (compPost (model X.prog X.w) X.A X.xe use Qf (.ref D) s3.heap.objs.size) s4 := by
    refine compLoop_any (fun n s' => ∃ i H', Inv (blkH X s3 H3 scope ce fp) [] (wipe σ (own.map (·.2))) H' s' ∧ tn i s'.heap ∧ (∀ b ∈ fp, H' b = none) ∧ W i n H') ?_ m0 ⟨0, H3, I4, st4, nfp, w0⟩
    rintro n s5 ⟨i, H5, I5, st5, n5, w5⟩
    rcases turn i n H5 w5 with ⟨stop, qq⟩ | ⟨go, Nx, hNx, step⟩
    · have td := T.done (blkH X s3 H3 scope ce fp) rfl rfl rfl hcB i [] s5 _ H5 (fun _ _ => False) I5 (stat I5 n5) st5 stop
      refine thnF td fun r s6 ⟨hr, I6⟩ => ?_
      subst hr
      have I7 : Inv X pins σ H5 s6 := I3.call' (ch := fp) I6.os I6.base I6.hok I6.bare fun b hb => ⟨(f3 b hb).1.2.2.2.1, (f3 b hb).1.2.1, (f3 b hb).1.2.2.2.2.1, (f3 b hb).1.2.2.2.2.2⟩
      have nC : H5 s3.heap.objs.size = none := by
        have z : H5 ce.locals = none := I6.free
        rw [cL] at z
        exact z
      obtain ⟨m, hn, _⟩ := I6.loc
      have hn : s6.heap.Ns ce.locals m := hn
      rw [cL] at hn
      exact hRR D s3.heap.objs.size s6 m H5 I7 qq hn (I3.fpOk (Nat.le_refl _) nC)
    · have ti := T.item (blkH X s3 H3 scope ce fp) rfl rfl rfl hcB i [] s5 _ H5 (fun _ _ => False) I5 (stat I5 n5) st5 go
      refine thnF ti fun r s6 ⟨u, hr, h6⟩ => ?_
      subst hr
      refine thnF h6 fun _ s7 ⟨x, H7, I7, r7, y7, st7, n7⟩ => ?_
      have I7' := I7.pinned (stat I7 n7) (T.obj _ _ st7)
      refine thnF (pg.run _ s7 _ H7 x u _ I7' r7 (step x H7 y7)) fun _ s8 ⟨σ8, H8, I8, hw8, q8⟩ => ?_
      refine thnF (pt.run _ s8 σ8 H8 _ I8 q8) fun b s9 ⟨H9, I9, q9⟩ => ?_
      have fin : ∀ {s' : Shared} {H' : Hp}, Inv (blkH X s3 H3 scope ce fp) ([] ++ pinsAt fp s7.heap) σ8 H' s' → Nx H' → ∃ m, m < n ∧ ∃ i H', Inv (blkH X s3 H3 scope ce fp) [] (wipe σ (own.map (·.2))) H' s' ∧ tn i s'.heap ∧ (∀ b ∈ fp, H' b = none) ∧ W i m H' := fun {s' H'} I' nx => by
        obtain ⟨m', hm, w'⟩ := hNx H' nx
        have pin' : ∀ b ∈ fp, ∀ o, s7.heap.get? b = some o → s'.heap.get? b = some o ∧ H' b = none := fun b hb o e =>
          let z := I'.pin (b, o) (List.mem_append_right _ (List.mem_append_right _ (mem_pinsAt hb e)))
          ⟨z.1, z.2.1⟩
        have hl : (wipe σ (own.map (·.2))).length = σ8.length := by rw [← hw8, wipe_length]
        refine ⟨m', hm, i + 1, H', (I'.unpinned (pins := [])).weak hl (fun j v e => ?_), T.keep _ _ _ st7 fun b hb o e => (pin' b hb o e).1, fun b hb => ?_, w'⟩
        · rw [← hw8] at e
          exact (wipe_some e).1
        · obtain ⟨o, e, _⟩ := T.obj _ _ st7 b hb
          exact (pin' b hb o e).2
      cases b with
      | false =>
        simp only [Bool.false_eq_true, if_false] at q9 ⊢
        exact fin I9 q9
      | true =>
        simp only [if_true] at q9 ⊢
        refine thnF (pe.run _ s9 σ8 H9 _ I9 q9) fun z s10 ⟨yv, H10, I10, r10, acc, hD10, hz10, nx⟩ => ?_
        exact app_ok (X := blkH X s3 H3 scope ce fp) I10 hD10 hz10 r10 fun s11 I11 => fin I11 nx
  exact codeAny_compStart_list loop (T.self X.A 0 _ _ _ st4 loop)
theorem pe_lcH {elt tg iter : Expr} {ifs : List Expr} {scope : Scope} {own : List (Str × Nat)} {pos : Pos} {wi : TI} {g : TG} {tt : TT} {te : TE} (hc : HotC X) (hN : X.N.Nodup) (hi : PIH X tg iter wi) (ok : BlkOk X.N X.env.scope scope own)
    (hg : ∀ (s : Shared) (H : Hp) (C : Addr) (cl : List (Str × Addr)) (fp : List Addr), PG (blkH X s H scope (compEnvC scope cl C X.env) fp) tg g) (ht : ∀ (s : Shared) (H : Hp) (C : Addr) (cl : List (Str × Addr)) (fp : List Addr), PTs (blkH X s H scope (compEnvC scope cl C X.env) fp) ifs tt)
    (he : ∀ (s : Shared) (H : Hp) (C : Addr) (cl : List (Str × Addr)) (fp : List Addr), PE (blkH X s H scope (compEnvC scope cl C X.env) fp) elt te) (hs : ∀ x, foldedSetIterable iter X.env x = pure x := by intro _; rfl) :
    PE X (.ListComp elt [⟨tg, iter, ifs, 0⟩] scope pos) (tLc wi g tt te (own.map (·.2))) := by
  refine ⟨fun pins s σ H Q I h => ?_⟩
  rw [eval_ListComp]
  refine lcH_core hc hN I hi ok hg ht he hs h fun D C s' m H' I' q hn f => ⟨m, hn, fun h'' sb => ?_⟩
  obtain ⟨f0, f1, f2, f3, f4, f5⟩ := f
  exact ⟨.ref D, H', I'.turned (t' := s'.toks) (fun b o hb e => (sb.2 b hb).trans e) f0 f1 f3 f4 f5, rfl, q⟩
/-! ### isinstance of the handled exception, where it is a pin -/
def rIsP (K : PySem.W.Frag) (cls : Value) (d : Option Addr) (a : Addr) : List V → Hp → VK → Prop := fun xs H Q => ∃ (D : Addr) (c : V) (cv : Value) (b : Bool), cls = .ref D ∧ d = none ∧ ExcC K D ∧ xs = [.ref a, c] ∧ (∀ u, RelV c u → u = cv) ∧ PySem.W.kitOne K (.ref D) cv = some b ∧ Q (.bl b) H
theorem call_isP {K : PySem.W.Frag} {a : Addr} {cls : Value} {d : Option Addr} {oe : Obj} (hK : X.K = K) (hp : (a, oe) ∈ X.pn) (hz : Zc cls d oe) (hf : ∃ vs, oe.data = .fields vs) : CallR X (.builtin "isinstance") (rIsP K cls d a) := by
  subst hK
  intro pins s σ H xs us Q I r h
  obtain ⟨D, c, cv, b, rfl, rfl, C, rfl, hcv, e, q⟩ := h
  cases r with
  | cons rx rr =>
    cases rr with
    | cons rt rr =>
      cases rr
      cases rx
      have ec := hcv _ rt
      subst ec
      obtain ⟨hget, _⟩ := I.pin (a, oe) (List.mem_append_left _ hp)
      obtain ⟨vs, hv⟩ := hf
      have J : PySem.W.InstAt s.heap a oe D none := by
        obtain ⟨oc, od, oda, osl⟩ := oe
        obtain ⟨h1, h2⟩ := hz
        dsimp only at h1 h2 hv
        subst h1 h2 hv
        exact ⟨hget, rfl, rfl, trivial⟩
      exact PySem.W.kia_one (PySem.W.handS_kitx_exc C.hg C.hk C.hs C.hd C.ha C.hn C.ht C.hm) I.kIn J e (fun z => nomatch z) fun tk => ⟨.bl b, H, I.kept (t' := tk) fun _ _ z => z, rfl, q⟩
end
end Tw
namespace Tw
open PySem PySem.Spec PyProof.Rows L2 L2H
/-! ### a def that is handed the handled exception -/
structure FnP (P : Program) (w : World) (K : PySem.W.Frag) (mg : Str → Option Value) (base : Heap) (CX : CXT) (k : Nat) (f : Addr) (fd : FuncData) (ps : List Str) (sp : Addr → Value → Option Addr → Sp) : Prop where
  len : ∀ a c d vs H Q E, sp a c d vs H Q E → vs.length = ps.length
  run : ∀ (A : Around) (outer : List Env) (s : Shared) (H : Hp) (args : Args) (us : List Value) (vs : List V) (Q : VK) (E : XK) (p : Addr × Obj) (c : Value) (d : Option Addr), Zc c d p.2 → RoomH k A → Hot1 A p → PinOk outer H s p → Env0 P w K mg base A outer s H → BindsTo s fd args (ps.zip us) → Vals vs us → sp p.1 c d vs H Q E →
    codeAny (model P w) A (.call (.ref f) args) (CR CX outer P w H s Q E) s
theorem fn_ofP {CX : CXT} {P : Program} {w : World} {K : PySem.W.Frag} {mg : Str → Option Value} {base : Heap} {k : Nat} {f : Addr} {name qual : Str} {params : Arguments} {body : List Stmt} {scope : Scope} {dV kV doc pm cdv ct oc : Value} {an od : Option Addr}
    {osl : Array (Option Value)} {N ps : List Str} {sp : Addr → Value → Option Addr → Sp} (lk : K.lookup f = some ⟨oc, od, .func (PySem.W.fnOf name qual params body scope dV kV doc pm an cdv ct), osl⟩) (hcd : PySem.W.codeIn K cdv qual = true) (S : FnScope N ps scope)
    (len : ∀ a c d vs H Q E, sp a c d vs H Q E → vs.length = ps.length)
    (hbody : ∀ (A : Around) (outer : List Env) (s : Shared) (H : Hp) (vs : List V) (Q : VK) (E : XK) (p : Addr × Obj) (c : Value) (d : Option Addr), Zc c d p.2 → Hot1 A p → RoomH k (A.deeper (envOfC qual scope s.heap.objs.size f cdv)) → sp p.1 c d vs H Q E →
      ∃ t, PSs (cxH CX P w K mg base N qual scope f cdv A outer s H E p) body t ∧ t { nx := fun _ H' => Q .non H', rt := Q } (L2.start N vs) H) :
    FnP P w K mg base CX (k + 1) f (PySem.W.fnOf name qual params body scope dV kV doc pm an cdv ct) ps sp := by
  refine ⟨len, fun A outer s H args us vs Q E p c d hz hr hot hpin e0 hb r hsp => ?_⟩
  have hl := len _ _ _ _ _ _ _ hsp
  have KX : K.In s.heap := e0.mod.kin.keeps fun b o e => (e0.bs b o e).1
  have lim : s.heap.NoLimit := e0.mod.nolimit.keeps fun b o e => (e0.bs b o e).1
  have hkind : ∀ y ∈ ps.zip us, scope.names.lookup y.1 = some .local ∨ (scope.names.lookup y.1 = some .cell ∧ ((cellsFrom (s.heap.objs.size + 1) scope.names []).lookup y.1).isSome = true) := fun ⟨n, v⟩ hy => by
    rcases S.par n (List.of_mem_zip hy).1 with q | q
    · exact .inl q
    · exact .inr ⟨q, PySem.W.cellsFrom_some _ _ _ (.inl q)⟩
  refine codeAny_call_function hr.depth (KX _ _ lk) rfl S.co S.gen rfl (PySem.W.codeRec_of KX hcd) (hb _ _ _ _ ?_)
  refine wpAny_newFunctionEnv_cells S.kind hkind fun env he s1 x => ?_
  subst he
  refine ⟨lim.keeps x.toInCall.keep, codeAny_func ?_⟩
  obtain ⟨t, ht, hq⟩ := hbody A outer s H vs Q E p c d hz hot (hr.deeper _) hsp
  have I : Inv (cxH CX P w K mg base N qual scope f cdv A outer s H E p) [] (L2.start N vs) H s1 := inv_startH S hpin e0 hl r x
  refine wpAny_mono (ht.run [] s1 (L2.start N vs) H _ I hq) (fun fl s' hs => ?_) fun e s' hs => hs
  have fin : ∀ {σ' : L2.St} {H' : Hp} {v : V} {u : Value}, Inv (cxH CX P w K mg base N qual scope f cdv A outer s H E p) [] σ' H' s' → RelV v u → Q v H' → CE outer P w H s Q u s' :=
    fun {σ' H' v u} J rv q => ⟨v, H', J.os, J.bare, J.base, J.hok, rv, q⟩
  cases fl with
  | ret u =>
    obtain ⟨v, σ', H', J, rv, q⟩ := hs
    exact fin J rv q
  | next =>
    obtain ⟨σ', H', J, q⟩ := hs
    exact fin (v := V.non) (u := Value.none) J rfl q
  | brk =>
    obtain ⟨_, _, _, q⟩ := hs
    exact False.elim q
  | cont =>
    obtain ⟨_, _, _, q⟩ := hs
    exact False.elim q
section
variable {P : Program} {w : World} {K : PySem.W.Frag} {mg : Str → Option Value} {base : Heap}
theorem Fun.okP {x qual : Str} {st : Stmt} {f : Addr} {fd : FuncData} {N ps : List Str} {k : Nat} {sp : Addr → Value → Option Addr → Sp} (F : Fun K x qual st f fd) (S : FnScope N ps (defScope st)) (len : ∀ a c d vs H Q E, sp a c d vs H Q E → vs.length = ps.length)
    (hbody : ∀ (cdv : Value) (A : Around) (outer : List Env) (s : Shared) (H : Hp) (vs : List V) (Q : VK) (E : XK) (p : Addr × Obj) (c : Value) (d : Option Addr), Zc c d p.2 → Hot1 A p → sp p.1 c d vs H Q E →
      ∃ t, PSs (cxH CX0 P w K mg base N qual (defScope st) f cdv A outer s H E p) (defBody st) t ∧ t { nx := fun _ H' => Q .non H', rt := Q } (L2.start N vs) H) : FnP P w K mg base CX0 (k + 1) f fd ps sp := by
  obtain ⟨oc, od, kV, doc, pm, an, cdv, ct, osl, rfl, lk, hcd⟩ := F.ex
  exact fn_ofP lk hcd S len fun A outer s H vs Q E p c d hz hot hr hsp => hbody cdv A outer s H vs Q E p c d hz hot hsp
/-- a def that may raise, nothing being handled -/
theorem Fun.okN {x qual : Str} {st : Stmt} {f : Addr} {fd : FuncData} {N ps : List Str} {k : Nat} {sp : Sp} (F : Fun K x qual st f fd) (S : FnScope N ps (defScope st)) (len : ∀ vs H Q E, sp vs H Q E → vs.length = ps.length)
    (hbody : ∀ (cdv : Value) (A : Around) (outer : List Env) (s : Shared) (H : Hp) (vs : List V) (Q : VK) (E : XK), Room k (A.deeper (envOfC qual (defScope st) s.heap.objs.size f cdv)) → sp vs H Q E →
      ∃ t, PSs (cxOf (L2N.CX P w) P w K mg base N qual (defScope st) f cdv A outer s H E) (defBody st) t ∧ t { nx := fun _ H' => Q .non H', rt := Q } (L2.start N vs) H) : FnOk P w K mg base (L2N.CX P w) (k + 1) f fd ps sp := by
  obtain ⟨oc, od, kV, doc, pm, an, cdv, ct, osl, rfl, lk, hcd⟩ := F.ex
  exact fn_of lk hcd S len fun A outer s H vs Q E hr hsp => hbody cdv A outer s H vs Q E hr hsp
end
section
variable {X : Cx} {CX : CXT} {k : Nat} {f C : Addr} {fd : FuncData} {ps : List Str} {sp : Addr → Value → Option Addr → Sp} {x : Str} {q pos : Pos} {e : Expr} {es : List Expr} {t : TA}
theorem pe_callP {a : Addr} {oe : Obj} {c : Value} {d : Option Addr} (F : FnP X.prog X.w X.K X.mg X.base CX0 k f fd ps sp) (hr : RoomH k X.A) (hot : Hot1 X.A (a, oe)) (hp : (a, oe) ∈ X.pn) (hz : Zc c d oe) (hg : Gl X x) (hm : X.mg x = some (.ref f)) (hk : PySem.W.keepIn X.K (.ref f) = true) (hb : Binds X.K fd ps [])
    (ha : PA X (e :: es) t) (hdb : (x == ("__debug__" : Str)) = false := by decide) (he : starEach (e :: es) X.env = (false, eval e X.env) :: starEach es X.env := by rfl) (hpl : (backTo pos (starEach es X.env)).any (·.1) = false := by rfl) :
    PE X (.Call (.Name x q) (e :: es) [] pos) (tCall (sp a c d) [] E0 t) := by
  refine ⟨fun pins s σ H Q I h => ?_⟩
  refine wpAny_Call_Name_kw (ld_glob I hg hm ?_ hdb)
  refine PySem.W.callWith_K (h₀ := X.base) I.ok.mod.kin hk (thn (ha.run pos pins s σ H _ I h) fun us s1 ⟨vs, H1, I1, r, q⟩ => ⟨I1.kIn, ?_⟩) he hpl
  have q : sp a c d (vs ++ []) H1 Q E0 := q
  rw [List.append_nil] at q
  have hl : us.length = ps.length := by rw [← r.length]; exact F.len _ _ _ _ _ _ _ q
  have b := hb s1 us I1.kIn (by rw [List.append_nil]; exact hl)
  rw [List.append_nil] at b
  have P1 := I1.pin (a, oe) (List.mem_append_left _ hp)
  have hpin : PinOk X.stack H1 s1 (a, oe) := ⟨P1.1, P1.2.1, fun hm => (List.mem_cons.mp (I1.stkSub a hm)).elim P1.2.2.1 P1.2.2.2.1, P1.2.2.2.2⟩
  refine wpAny_call (codeAny_mono (F.run X.A X.stack s1 H1 ⟨us, []⟩ us vs Q E0 (a, oe) c d hz hr hot hpin I1.env0 b r q) fun r s' hq => ?_)
  cases r with
  | error e => exact False.elim hq
  | ok fl =>
    cases fl with
    | ret u => exact I1.after hq
    | next => exact False.elim hq
    | brk => exact False.elim hq
    | cont => exact False.elim hq
/-- nothing is let out around -/
theorem takesN0 : L2N.Takes X (fun _ _ _ _ => False) := fun _ _ x => by
  obtain ⟨_, _, _, _, _, _, _, _, _, _, _, _, _, _, _, _, z⟩ := x
  exact z.elim
end
/-! ### what the written part says of an own exception class -/
structure ExF (K : PySem.W.Frag) (C : Addr) : Prop where
  x : PySem.W.excIn K C [.type "ValueError", .type "Exception", .type "BaseException", .type "object"] "ValueError.__new__" = true
  k : PySem.W.keepIn K (.ref C) = true
  t : PySem.W.typeIn K (.ref C) = some (.type "type")
  e : ExcC K C
theorem kit_ref {K : PySem.W.Frag} {D C : Addr} {b : Bool} (hd : PySem.W.hasDictIn K C = true) (ht : PySem.W.typeIn K (.ref C) = some (.type "type")) (hs : PySem.W.subIn K (.ref D) (.ref C) = some b) (hb : D = C → b = true) : PySem.W.kitOne K (.ref D) (.ref C) = some b := by
  unfold PySem.W.kitOne
  split
  · rename_i h
    have e : Value.ref D = Value.ref C := eq_of_beq h
    injection e with e
    rw [hb e]
  · obtain ⟨cd, hc, _⟩ := PySem.W.any_some hd
    show PySem.W.kitCls K (.ref D) (.ref C) = some b
    unfold PySem.W.kitCls
    show (if ((PySem.W.clsIn K C).isSome && PySem.W.typeIn K (.ref C) == some (.type "type")) = true then PySem.W.subIn K (.ref D) (.ref C) else none) = some b
    rw [if_pos (by rw [hc, ht] <;> rfl)]
    exact hs
theorem kit_bt {K : PySem.W.Frag} {D : Addr} {T : String} {b : Bool} (ht : PySem.W.kitMeta T = true) (hs : PySem.W.subIn K (.ref D) (.type T) = some b) : PySem.W.kitOne K (.ref D) (.type T) = some b := by
  unfold PySem.W.kitOne
  rw [if_neg (fun h => by have e := eq_of_beq h; cases e)]
  show PySem.W.kitCls K (.ref D) (.type T) = some b
  unfold PySem.W.kitCls
  show (if PySem.W.kitMeta T = true then PySem.W.subIn K (.ref D) (.type T) else none) = some b
  rw [if_pos ht]
  exact hs
section
variable {X : Cx}
/-- a call that lets nothing out after all -/
theorem passN : Passes (L2N.CX X.prog X.w) X E0 := fun _ _ _ _ _ _ _ h => by
  obtain ⟨_, _, _, _, _, _, _, _, _, _, _, _, z⟩ := h
  exact z.elim
theorem roomH_suite {k : Nat} {A : Around} {v : Option Value} (r : Room k A) : RoomH k (A.mark v) := ⟨r.dp, r.un⟩
/-- the handled exception of a suite -/
theorem hot_suite {A : Around} {a : Addr} {oe : Obj} {cls : Value} {d : Option Addr} (hz : L2N.Zn cls d oe) (hf : ∃ vs, oe.data = .fields vs) : Hot1 (A.mark (some (.ref a))) (a, oe) := by
  obtain ⟨vs, hv⟩ := hf
  exact ⟨rfl, vs, hv, hz.2.2 vs hv⟩
end
section
variable {K : PySem.W.Frag} {σ : L2.St} {H : Hp} {D : Ends}
open Evl
theorem s_dropS {ta : TA} {sp : Sp} {vs : List V} {E : L2.St → XK} (h : EvA ta σ H vs) (k : ∀ H1, Ex H H1 → sp vs H1 (fun _ H2 => D.nx σ H2) (E σ)) : tDrop (tCallS sp E ta) D σ H := h H (Ex.refl H) _ k
/-- if f(..) is not None, told by f's own promise -/
theorem s_ifNotN {ta : TA} {sp : Sp} {dvs vs : List V} {E : XK} {tu tw : TS} (h : EvA ta σ H vs) (k : ∀ H1, Ex H H1 → sp (vs ++ dvs) H1 (fun x H2 => rNotN x .non H2 fun z H' => ∃ c, z = .bl c ∧ (if c = true then tu D σ H' else tw D σ H')) E) :
    tIfS (tTest (tOp rNotN (tCall sp dvs E ta) (tC .non))) tu tw D σ H := h H (Ex.refl H) _ k
theorem rc_isP {a C Dd : Addr} {cls : Value} {d : Option Addr} {b : Bool} (h1 : cls = .ref Dd) (h2 : d = none) (ec : ExcC K Dd) (hk : PySem.W.kitOne K (.ref Dd) (.ref C) = some b) : RC (rIsP K cls d a) [.ref a, .ref C] H (.bl b) :=
  fun H1 _ _ q => ⟨Dd, .ref C, .ref C, b, h1, h2, ec, rfl, fun _ r => r, hk, q H1 (Ex.refl H1)⟩
theorem rc_isPT {a Dd : Addr} {T : String} {cls : Value} {d : Option Addr} {b : Bool} (h1 : cls = .ref Dd) (h2 : d = none) (ec : ExcC K Dd) (hk : PySem.W.kitOne K (.ref Dd) (.type T) = some b) : RC (rIsP K cls d a) [.ref a, .ty T] H (.bl b) :=
  fun H1 _ _ q => ⟨Dd, .ty T, .type T, b, h1, h2, ec, rfl, fun _ r => r, hk, q H1 (Ex.refl H1)⟩
/-- the refusal by its number -/
def sp_kind (K : PySem.W.Frag) (L : List Addr) : Addr → Value → Option Addr → Sp := fun a cls d vs H Q _ => ∃ (Dd : Addr) (j : Nat), cls = .ref Dd ∧ d = none ∧ vs = [.ref a] ∧ ExcC K Dd ∧ j < 10 ∧ (∀ i C, L[i]? = some C → PySem.W.kitOne K (.ref Dd) (.ref C) = some (decide (i = j))) ∧ RetV (.int (11 + (j : Int))) H Q
end
/-! ### the end of a list's walk, and sum, where an exception is handled -/
section
open PySem PySem.Calls HotX
variable {prog : Program} {w : World} {A : Around} {E : Value → Shared → Prop} {s : Shared}
def HotObj (x1 : Addr) (h : Heap) : Prop := ∃ (o : Obj) (vs : Array Value), h.get? x1 = some o ∧ o.data = .fields vs ∧ vs[2]? = some .none
theorem pyNext_list_end_hot {it l x1 : Addr} {i : Nat} {items : Array Value} {Q : Option Value → Shared → Prop} (hh : A.handled = some (.ref x1)) (hot : HotObj x1 s.heap)
    (hit : s.heap.IsListIter it l i) (hl : s.heap.IsList l items) (hx : items[i]? = none)
    (hQ : ∀ h', Heap.ExtBut it s.heap h' → Q none { s with heap := h' }) : wpAny (model prog w) A (pyNext (.ref it)) Q E s := by
  obtain ⟨o, ho, hc, hd⟩ := id hit
  obtain ⟨ol, hol, _, nl, hdl⟩ := hl
  obtain ⟨o1, vs1, h1, d1, c1⟩ := hot
  have nx : x1 ≠ it := fun z => by
    rw [z, ho] at h1
    cases h1
    rw [hd] at d1
    cases d1
    cases c1
  unfold pyNext
  refine wpAny_bind (wpAny_attempt (wpAny_callSpecial?_slot (name := Str.ofString "__next__") hit.typeIs slot_listiter_next
    (wpAny_call_entry slot_listiter_next hit.typeIs entry_listiter_next ?_ (args_listiter_next _))))
  show wpAny _ _ (field (.ref it) 0 >>= _) _ _ s
  refine wpAny_bind (wpAny_field ho hd (x := .ref l) rfl ?_)
  show wpAny _ _ (if (Value.ref l == Value.none) = true then _ else _) _ _ s
  rw [if_neg (show ¬ ((Value.ref l == Value.none) = true) from Bool.false_ne_true)]
  show wpAny _ _ (field (.ref it) 1 >>= _) _ _ s
  refine wpAny_bind (wpAny_field ho hd (x := .int i 0) rfl ?_)
  show wpAny _ _ (seqItems? (.ref l) >>= _) _ _ s
  refine wpAny_bind (wpAny_seqItems hol hdl ?_)
  simp only [Int.toNat_natCast, hx]
  refine wpAny_bind (wpAny_rule (wpAny_bind (wpAny_setField ho hd (by simp) ?_)))
  show wpAny _ _ (newExc (.type "StopIteration") [] >>= _) _ _ _
  refine wpAny_bind ?_
  simp only [newExc, newTuple]
  refine wpAny_bind (wpAny_newObj_type ?_ (by size_fits))
  refine wpAny_bind (m := firstArgMember _ _) (wpAny_of_eq (a := Value.none) (by first | rfl | (simp only [firstArgMember]; rfl)) ?_)
  refine wpAny_newObj_type ?_ (by size_fits)
  have h1' := (Heap.get?_update_other s.heap (Obj.mapFields (·.setIfInBounds 0 .none)) (Ne.symm nx)).trans h1
  refine raiseNew_hot ⟨hh, o1, vs1, Heap.get?_push_of_some _ (Heap.get?_push_of_some _ h1'), d1, c1⟩ (Nat.ne_of_lt (Heap.lt_size (Heap.get?_push_of_some _ h1'))) (Heap.get?_push_size _ rfl) rfl (by first | (simp; done) | (simp; omega) | (simp only [Array.size_append]; simp; omega)) ?_
  refine wpAny_bind (wpAny_isInstance (T := "StopIteration") (b := true) ⟨_, Heap.get?_update_self _ (Heap.get?_push_size _ rfl) rfl, rfl⟩ isSubtype_stop ?_)
  refine wpAny_pure (hQ _ fun b o hb e => ?_)
  have e1 := (Heap.get?_update_other s.heap (Obj.mapFields (·.setIfInBounds 0 .none)) (Ne.symm hb)).trans e
  rw [Heap.get?_update_other _ _ (Nat.ne_of_gt (Heap.lt_size (Heap.get?_push_of_some _ e1)))]
  exact Heap.get?_push_of_some _ (Heap.get?_push_of_some _ e1)
theorem walksH {I ax x1 : Addr} (hh : A.handled = some (.ref x1)) (hne : ax ≠ I) (hx : x1 ≠ I) (items : Array Value) :
    Walks prog w A I [I, ax, x1] [I] items.size (fun i v => items[i]? = some v) (fun i h => (h.IsListIter I ax i ∧ h.IsList ax items) ∧ HotObj x1 h) where
  sub := fun b hb => by simp at hb; simp [hb]
  frame := fun _ _ _ st hk => ⟨⟨st.1.1.at fun o e => hk I (by simp) o e, st.1.2.at fun o e => hk ax (by simp) o e⟩, by
    obtain ⟨o, vs, h1, h2⟩ := st.2
    exact ⟨o, vs, hk x1 (by simp) o h1, h2⟩⟩
  item := fun i s Q E hi st hQ => by
    refine wpAny_pyNext_list_item st.1.1 st.1.2 (x := items[i]) (by simp [hi]) fun h' hit' hs' => ?_
    refine hQ _ h' s.toks (by simp [hi]) ⟨⟨hit', st.1.2.extBut hs'.extBut hne⟩, ?_⟩ fun b o hb e => hs'.extBut b o (fun h => hb (by simp [h])) e
    obtain ⟨o, vs, h1, h2⟩ := st.2
    exact ⟨o, vs, hs'.extBut x1 o hx h1, h2⟩
  done := fun s Q E st hQ => pyNext_list_end_hot hh st.2 st.1.1 st.1.2 (by simp) fun h' he' => hQ h' s.toks fun b o hb e => he' b o (fun h => hb (by simp [h])) e
  self := fun _ _ _ _ st hQ => wpAny_pyIter_listiter st.1.1 hQ
theorem sum_hot {l x1 : Addr} {xs : Array (Int × Tok)} {Q : Value → Shared → Prop} (hh : A.handled = some (.ref x1)) (hot : HotObj x1 s.heap) (hl : s.heap.IsList l (intItems xs))
    (h : ∀ h' tk t', (∀ b o, s.heap.get? b = some o → h'.get? b = some o) → Q (.int (preSum (numAt xs) xs.size) t') { s with heap := h', toks := tk }) :
    wpAny (model prog w) A (call (.builtin "sum") [.ref l]) Q E s := by
  refine call_sum_walkG (iter_intList hl fun s₂ e st hfp hlI => ?_)
  subst e
  obtain ⟨o, vs, h1, h2, h3⟩ := hot
  have hlt := Heap.lt_size h1
  refine ⟨_, _, _, _, _, _, numAt xs, rfl, walksH (A := A.in1) (x1 := x1) hh hlI (Nat.ne_of_lt hlt) (intItems xs), ⟨st, o, vs, Heap.get?_push_of_some _ h1, h2, h3⟩, fun b hb => ?_, (fun _ _ => intItems_at), fun h' tk t' hk => ?_⟩
  · rcases List.mem_cons.mp hb with z | z
    · exact hfp b (by rw [z]; exact List.mem_cons_self ..)
    · rcases List.mem_cons.mp z with z | z
      · exact hfp b (by rw [z]; simp)
      · rw [List.mem_singleton.mp z]
        show x1 < (s.heap.push _).objs.size
        rw [Heap.size_push]
        exact Nat.lt_succ_of_lt hlt
  · have := h h' tk t' (old_kept hk)
    simpa [intItems] using this
end
section
variable {X : Cx}
open PyProof.Rows L2 L2H
theorem cr_sumH (hc : HotC X) : CallR X (.builtin "sum") (rSum X.K) := by
  intro pins s σ H vs us Q I r h
  obtain ⟨a, ns, rfl, hs, q⟩ := h
  obtain ⟨its, rv, hl, _⟩ := I.list hs
  rw [Vals.ref1 r]
  obtain ⟨p, ⟨hh, v1, e1, c1⟩, hp⟩ := hc
  have P1 := (I.pin p (List.mem_append_left _ hp)).1
  obtain ⟨xs, e⟩ := rv.ints.allInts.items
  have hn : numsOf (intItems xs).toList = ns := by rw [← e]; exact rv.ints.numsOf
  rw [nums_intItems] at hn
  have hl' := hl.isList
  rw [e] at hl'
  refine sum_hot hh ⟨p.2, v1, P1, e1, c1⟩ hl' fun h' tk t' hk => ?_
  rw [preSum_eq, List.take_of_length_le (by simp), hn]
  exact ⟨.int _, H, I.kept hk, ⟨_, rfl⟩, q⟩
/-- an item of a list, the written part named -/
theorem ixL {K : PySem.W.Frag} (h : X.K = K) : IxR X (rIxL K) := by
  rw [← h]
  exact ix_list
end
end Tw
set_option Elab.async false
set_option linter.all false
set_option maxRecDepth 100000
set_option maxHeartbeats 2000000
/-! enumerate(l, start=c); a tuple's parts given to names; reversed(range(n)). -/
namespace TwE
open PySem PySem.Spec PyProof.Rows L2 Evl Tw
open PySem.Sem (wp)
/-! ### a class called with keywords -/
section
variable {M : Model} {A : Around} {E : Value → Shared → Prop} {s : Shared} {env : Env}
theorem cw_typeKw {pos : Pos} {T : String} {e : Expr} {es : List Expr} {kws : List Keyword} {Q : Value → Shared → Prop}
    (hall : (backToKw pos (keywordEach kws env)).all (·.1.isSome) = true)
    (h : wpAny M A (spliced (backTo pos (starEach (e :: es) env))) (fun vs s1 => wpAny M A (evalAll ((backToKw pos (keywordEach kws env)).map (·.2)))
      (fun ks s2 => wpAny M A (call (.type T) vs (((backToKw pos (keywordEach kws env)).filterMap (·.1)).zip ks)) Q E s2) E s1) E s)
    (ha : starEach (e :: es) env = (false, eval e env) :: starEach es env) (hp : (backTo pos (starEach es env)).any (·.1) = false)
    (hk : (backToKw pos (keywordEach kws env)).any (·.1.isNone) = false) :
    wpAny M A (callWith pos (.type T) [] (backTo pos (starEach (e :: es) env)) (backToKw pos (keywordEach kws env))) Q E s := by
  have hp1 : (backTo pos (starEach (e :: es) env)).any (·.1) = false := by
    rw [ha]
    show (false || (backTo pos (starEach es env)).any (·.1)) = false
    rw [hp] <;> rfl
  unfold callWith
  refine wpAny_bind (wpAny_holding (wpAny_mono (evalArgs_kw2 (Q := fun a s1 => wpAny M A (call (.type T) ([] ++ a.pos) a.kw) Q E s1) hall h ha) (fun a s1 h1 => wpAny_bind (wpAny_standAt ?_)) fun _ _ x => x))
  simp only [hp1, hk, Bool.or_false]
  refine wpAny_bind (wpAny_pure ?_)
  exact wpAny_bind (wpAny_mono h1 (fun r s2 hr => wpAny_bind (wpAny_holding (wpAny_point (wpAny_pure hr)))) fun _ _ x => x)
end
/-! ### enumerate from a count on -/
/-- pairs of a number from c on and what the list at l has there -/
def ItC (K : PySem.W.Frag) (l : Addr) (c : Int) : It where
  go := fun i H => ∃ (ys : List V) (y : V), SqL K H l ys ∧ ys[i]? = some y
  yld := fun i H v H' => ∃ (T : Addr) (y : V), v = .ref T ∧ H T = none ∧ H' = upd H T (.tup [.int (c + (i : Int)), y]) ∧ ∀ ys, SqL K H l ys → ys[i]? = some y
  stop := fun i H => ∃ ys : List V, SqL K H l ys ∧ ys.length ≤ i
/-- what stands between two turns -/
def TnC (l : Addr) (c : Int) (e j : Addr) (i : Nat) (h : Heap) : Prop := (∃ old, IsEnum h e j (c + (i : Int)) old) ∧ h.IsListIter j l i ∧ e ≠ j
theorem apart_li {h : Heap} {l j : Addr} {i : Nat} {its : Array Value} (h1 : h.IsList l its) (h2 : h.IsListIter j l i) : l ≠ j := fun z => by
  obtain ⟨o, g, c, _⟩ := h1
  obtain ⟨o2, g2, c2, _⟩ := h2
  rw [z, g2] at g
  cases g
  rw [c2] at c
  exact absurd c (by decide)
theorem apart_le {h : Heap} {l e j : Addr} {i : Int} {old : Value} {its : Array Value} (h1 : h.IsList l its) (h2 : IsEnum h e j i old) : e ≠ l := fun z => by
  obtain ⟨o, g, c, _⟩ := h1
  rw [← z, h2] at g
  cases g
  exact absurd (Value.type.inj c : ("enumerate" : String) = "list") (by decide)
theorem end_of {prog : Program} {w : World} {A : Around} {E : Value → Shared → Prop} {s : Shared} {e j l : Addr} {i : Nat} {c : Int} {its : Array Value} {old : Value} {Q : Option Value → Shared → Prop} (hh : A.in1.handled = none) (he : IsEnum s.heap e j c old) (hj : s.heap.IsListIter j l i) (hl : s.heap.IsList l its) (hx : its[i]? = none) (hQ : ∀ h1, Heap.ExtBut j s.heap h1 → Q none { s with heap := h1 }) : wpAny (model prog w) A (pyNext (.ref e)) Q E s := by
  have hT : s.TypeIs (.ref e) "enumerate" := ⟨_, he, rfl⟩
  unfold pyNext
  refine wpAny_bind (wpAny_attempt (wpAny_callSpecial?_slot (name := Str.ofString "__next__") hT F.slot_enumerate_next (wpAny_call_entry F.slot_enumerate_next hT F.entry_enumerate_next ?_ (F.args_enumerate_next_1 _))))
  show wpAny _ _ (field (.ref e) 2 >>= fun _ => _) _ _ _
  refine wpAny_bind (wpAny_field he rfl (x := .ref j) rfl (wpAny_bind (wpAny_nextOf_list_end hh hj hl hx fun h1 x hb hx1 => ?_)))
  obtain ⟨o, ho, hc⟩ := hx1
  exact wpAny_bind (wpAny_isInstance (T := "StopIteration") (b := true) ⟨o, ho, hc⟩ isSubtype_stop (wpAny_pure (hQ _ hb)))
theorem turnC {P : Program} {w : World} {K : PySem.W.Frag} {es : List Expr} {nn : Nat} {tp : Pos} (l e j : Addr) (c : Int) : Turn P w K (.Tuple es nn tp) (ItC K l c) [e, j] e (TnC l c e j) where
  mem := List.mem_cons_self ..
  obj := fun i h st b hb => by
    obtain ⟨⟨old, he⟩, ⟨o, ho, hc, hd⟩, _⟩ := st
    rcases List.mem_cons.mp hb with rfl | hb
    · exact ⟨_, he, fun v q => nomatch q⟩
    · rw [List.mem_singleton.mp hb]
      exact ⟨o, ho, fun v q => by rw [hd] at q; cases q⟩
  keep := fun i h h' st k => ⟨st.1.imp fun _ he => k e (List.mem_cons_self ..) _ he, st.2.1.at fun o q => k j (List.mem_cons_of_mem _ (List.mem_singleton.mpr rfl)) o q, st.2.2⟩
  item := fun X hP hw hK hcalm i pins s σ H E I hf st hg => by
    subst hP hw hK
    obtain ⟨⟨old, he⟩, hj, ne⟩ := st
    obtain ⟨ys, y, hS, hy⟩ := hg
    obtain ⟨its, rv, pl, hz⟩ := I.list hS
    obtain ⟨u, hu, ru⟩ := rv.get hy
    have hiu : i < its.length := (List.getElem?_eq_some_iff.mp hu).1
    have es : e < s.heap.objs.size := Heap.lt_size he
    have js : j < s.heap.objs.size := by
      obtain ⟨_, q, _⟩ := hj
      exact Heap.lt_size q
    have nlj := apart_li pl.isList hj
    have nel := apart_le pl.isList he
    have hh : X.A.in1.handled = none := I.ok.hd hcalm
    refine wpAny_pyNext_enum_itemC (Draws.list (prog := X.prog) (w := X.w) hh j l nlj its.toArray) he ⟨hj, pl.isList⟩ (by simpa using hiu) ne (fun q => ?_) fun x h1 tk hx ho hst hT hsz hk => ?_
    · rcases List.mem_cons.mp q with q | q
      · exact ne q
      · exact nel (List.mem_singleton.mp q)
    have hxu : x = u := by
      have a1 : its[i]? = some x := by simpa using hx
      rw [hu] at a1
      exact (Option.some.inj a1).symm
    subst hxu
    refine ⟨.ref s.heap.objs.size, rfl, ?_⟩
    refine wpAny_letOwnedTupleGo_enum (s := { s with heap := h1, toks := tk + 1 }) ho fun h2 he2 sb => ?_
    have tup2 : h2.get? s.heap.objs.size = some { cls := .type "tuple", data := .seq #[.int (c + (i : Int)) tk, x] } := (sb.2 _ (Nat.ne_of_gt es)).trans hT
    have okT : ObjOk X.prog X.w (upd H s.heap.objs.size (.tup [.int (c + (i : Int)), y])) h2 s.heap.objs.size (.tup [.int (c + (i : Int)), y]) :=
      ⟨show 2 ≤ sizeLine by decide, [.int (c + (i : Int)) tk, x], .cons ⟨tk, rfl⟩ (.cons ru .nil), _, tup2, rfl, _, rfl⟩
    have I2 : Inv X pins σ (upd H s.heap.objs.size (.tup [.int (c + (i : Int)), y])) { s with heap := h2, toks := tk + 1 } :=
      I.turnedNew (ch := [e, j]) (fun b ob hb q => (sb.2 b fun z => hb (by rw [z]; exact List.mem_cons_self ..)).trans (hk b ob (fun z => hb (by rw [z]; exact List.mem_cons_self ..)) (fun z => hb (by rw [z]; exact List.mem_cons_of_mem _ (List.mem_singleton.mpr rfl))) q)) hf (Nat.le_refl _) okT
    refine ⟨.ref s.heap.objs.size, _, I2, rfl, ⟨s.heap.objs.size, y, rfl, I.hok.fresh (Nat.le_refl _), rfl, fun zs hzs => ?_⟩, ⟨⟨x, ?_⟩, hst.1.at fun o q => (sb.2 j ne.symm).trans q, ne⟩, fun b hb => ?_⟩
    · rw [I.list_inj hzs hS]
      exact hy
    · have e1 : c + ((i + 1 : Nat) : Int) = c + (i : Int) + 1 := by omega
      rw [e1]
      exact he2
    · have bs : b < s.heap.objs.size := by
        rcases List.mem_cons.mp hb with z | z
        · rw [z]; exact es
        · rw [List.mem_singleton.mp z]; exact js
      rw [upd_ne (Nat.ne_of_lt bs)]
      exact (hf b hb).1
  done := fun X hP hw hK hcalm i pins s σ H E I hf st hg => by
    subst hP hw hK
    obtain ⟨⟨old, he⟩, hj, ne⟩ := st
    obtain ⟨ys, hS, hy⟩ := hg
    obtain ⟨its, rv, pl, hz⟩ := I.list hS
    have hlen := rv.length
    obtain ⟨f0, f1, f2, f3, f4, f5⟩ := hf j (List.mem_cons_of_mem _ (List.mem_singleton.mpr rfl))
    have hh : X.A.in1.handled = none := I.ok.hd hcalm
    exact end_of hh he hj pl.isList (Array.getElem?_eq_none (by rw [List.size_toArray]; omega)) fun h1 eb => ⟨rfl, I.turned (t' := s.toks) (fun b o hb q => eb b o hb q) f0 f1 f3 f4 f5⟩
  self := fun A i s Q E st h => by
    obtain ⟨⟨_, he⟩, _⟩ := st
    exact wpAny_pyIter_enum he h
/-- what is walked: enumerate(l, start=c) -/
def iEnC (K : PySem.W.Frag) (ta tk : TA) : TI := fun σ H R => ta σ H fun vs H1 => tk σ H1 fun ks H2 => ∃ (l : Addr) (ys : List V) (c : Int), vs = [.ref l] ∧ ks = [.int c] ∧ -(2 ^ 62) ≤ c ∧ c < 2 ^ 62 ∧ SqL K H2 l ys ∧ R (ItC K l c) H2
theorem pi_enumC {X : Cx} {e e2 : Expr} {ta tk : TA} {np pos tp kp : Pos} {es : List Expr} {nn : Nat} (hg : Gl X "enumerate") (hm : X.mg "enumerate" = none) (ha : PA X [e] ta) (hk : PK X [⟨some "start", e2, kp⟩] tk)
    (hs : starEach [e] X.env = (false, eval e X.env) :: starEach [] X.env := by rfl) (hall : (backToKw pos (keywordEach [⟨some "start", e2, kp⟩] X.env)).all (·.1.isSome) = true := by rfl)
    (hks : (backToKw pos (keywordEach [⟨some "start", e2, kp⟩] X.env)).filterMap (·.1) = [("start" : Str)] := by rfl) (hp : (backTo pos (starEach [] X.env)).any (·.1) = false := by rfl)
    (hn : (backToKw pos (keywordEach [⟨some "start", e2, kp⟩] X.env)).any (·.1.isNone) = false := by rfl) :
    PI X (.Tuple es nn tp) (.Call (.Name "enumerate" np) [e] [⟨some "start", e2, kp⟩] pos) (iEnC X.K ta tk) := by
  refine ⟨fun pins s σ H R I h => ?_⟩
  refine wpAny_Call_Name_kw (ld_blt I hg hm boot_enumerate (cw_typeKw hall (thn (ha.run pos pins s σ H _ I h) fun us s1 ⟨vs, H1, I1, r1, q1⟩ => thn (hk.run pos pins s1 σ H1 _ I1 q1) fun ws s2 ⟨ks, H2, I2, r2, q2⟩ => ?_) hs hp hn))
  rw [hks]
  obtain ⟨l, ys, c, rfl, rfl, c0, c1, hS, q⟩ := q2
  cases r1 with
  | cons ra rb =>
    cases rb
    cases ra
    cases r2 with
    | cons rc rd =>
      cases rd
      obtain ⟨t, rfl⟩ := rc
      obtain ⟨its, rv, pl, hz⟩ := I2.list hS
      refine enum_begins_start (s := s2) (k := c) (t := t) (begins_list l its.toArray) pl.isList (by omega) (by omega) fun h1 he hit hsz keep => ?_
      refine wpAny_pyIter_enum he ?_
      have hj : h1.IsListIter s2.heap.objs.size l 0 := ⟨_, hit, rfl, rfl⟩
      have e0 : c + ((0 : Nat) : Int) = c := by omega
      refine ⟨s2.heap.objs.size + 1, [s2.heap.objs.size + 1, s2.heap.objs.size], _, ItC X.K l c, H2, rfl, I2.kept (t' := s2.toks) keep, turnC l (s2.heap.objs.size + 1) s2.heap.objs.size c, ⟨⟨.none, by rw [e0]; exact he⟩, hj, Nat.succ_ne_self _⟩, fun b hb => ?_, q⟩
      have le : s2.heap.objs.size ≤ b := by
        rcases List.mem_cons.mp hb with z | z
        · rw [z]; exact Nat.le_add_right _ _
        · rw [List.mem_singleton.mp z]; exact Nat.le_refl _
      exact I2.fpOk le (I2.hok.fresh le)
theorem walkC {K : PySem.W.Frag} {l : Addr} {xs : List V} {c : Int} : Walk (ItC K l c) xs.length (fun H => SqL K H l xs) (YPair (fun i => some (.int (c + (i : Int)))) (fun i => xs[i]?)) :=
  ⟨fun i _ hi q => ⟨xs, xs[i], q, List.getElem?_eq_getElem hi⟩, fun _ q => ⟨xs, q, Nat.le_refl _⟩, fun i H v H' _ q y => by
    obtain ⟨T, x, h1, h2, h3, h4⟩ := y
    exact ⟨T, _, x, h1, h2, h3, rfl, h4 xs q⟩⟩
section
variable {K : PySem.W.Frag} {σ : L2.St} {H H' : Hp} {ta tb te tx : TE} {D : Ends} {tu tz : TS} {v : V}
theorem s_forC {ta tk : TA} {a : Addr} {xs : List V} {c : Int} {j1 j2 : Nat} (h : EvA ta σ H [.ref a]) (hc : EvA tk σ H [.int c]) (b0 : -100000 ≤ c) (b1 : c ≤ 100000) (hx : SqL K H a xs) (Pv : Nat → L2.St → Hp → Prop) (h0 : ∀ H1, Ex H H1 → Pv 0 σ H1)
    (hl : ∀ i σ' H', i ≤ xs.length → Pv i σ' H' → SqL K H' a xs)
    (hs : ∀ i x σ' H' H2, xs[i]? = some x → Pv i σ' H' → Ex H' H2 → tu { D with nx := Pv (i + 1), ct := Pv (i + 1), bk := D.nx } ((σ'.set j1 (some (.int (c + (i : Int))))).set j2 (some x)) H2) (hd : ∀ σ' H', Pv xs.length σ' H' → D.nx σ' H') :
    tFor (iEnC K ta tk) (gTup K 2 (gCons (gName j1) (gCons (gName j2) gNil))) tu D σ H :=
  h H (Ex.refl H) _ fun H1 e1 => hc H1 e1 _ fun H2 e2 => ⟨a, xs, c, rfl, rfl, by omega, by omega, ex_l (e1.trans e2) hx, for_it walkC Pv (h0 H2 (e1.trans e2)) hl (fun i x σ' H' H'' hi p y => by
    obtain ⟨T, x1, x2, rfl, hT, rfl, hx1, hx2⟩ := y
    cases hx1
    exact ⟨T, _, rfl, .inl (.inl upd_same), rfl, _, _, rfl, _, _, rfl, rfl, hs i x2 σ' H' _ hx2 p (Ex.new hT)⟩) hd⟩
theorem q_forC {ta tk : TA} {a : Addr} {xs : List V} {c : Int} {j1 j2 : Nat} (h : EvA ta σ H [.ref a]) (hc : EvA tk σ H [.int c]) (b0 : -100000 ≤ c) (b1 : c ≤ 100000) (hx : SqL K H a xs) (Pv : Nat → L2.St → Hp → Prop) (h0 : ∀ H1, Ex H H1 → Pv 0 σ H1)
    (hl : ∀ i σ' H', i ≤ xs.length → Pv i σ' H' → SqL K H' a xs)
    (hs : ∀ i x σ' H' H2, xs[i]? = some x → Pv i σ' H' → Ex H' H2 → tu { D with nx := Pv (i + 1), ct := Pv (i + 1), bk := tz D } ((σ'.set j1 (some (.int (c + (i : Int))))).set j2 (some x)) H2) (hd : ∀ σ' H', Pv xs.length σ' H' → tz D σ' H') :
    tSeq (tFor (iEnC K ta tk) (gTup K 2 (gCons (gName j1) (gCons (gName j2) gNil))) tu) tz D σ H := s_forC (D := { D with nx := tz D }) h hc b0 b1 hx Pv h0 hl hs hd
/-- for j in reversed(range(n)) -/
theorem s_forRv {j : Nat} {n : Int} (h : Ev ta σ H (.int n)) (h0n : 0 ≤ n) (hn : n ≤ 100000) (Pv : Nat → L2.St → Hp → Prop) (h0 : ∀ H1, Ex H H1 → Pv 0 σ H1)
    (hs : ∀ (i : Nat) σ' H', (i : Int) < n → Pv i σ' H' → tu { D with nx := Pv (i + 1), ct := Pv (i + 1), bk := D.nx } (σ'.set j (some (.int (n - 1 - (i : Int))))) H') (hd : ∀ σ' H', Pv n.toNat σ' H' → D.nx σ' H') :
    tFor (iRevR (tRg1 ta)) (gName j) tu D σ H := h H (Ex.refl H) _ fun H1 e => by
  refine ⟨n, rfl, by omega, by omega, by omega, by omega, ?_⟩
  have en : (n - 0).toNat = n.toNat := by omega
  rw [en]
  refine for_it walk_rangeC Pv (h0 H1 e) (fun _ _ _ _ _ => trivial) (fun i x σ' H' H'' hi p y => ?_) hd
  obtain ⟨rfl, rfl⟩ := y
  have ei : (0 : Int) + ((n.toNat : Nat) : Int) - 1 + ((i : Nat) : Int) * (-1) = n - 1 - (i : Int) := by omega
  show tu _ (σ'.set j (some (.int _))) _
  rw [ei]
  exact hs i σ' _ (by omega) p
theorem q_forRv {j : Nat} {n : Int} (h : Ev ta σ H (.int n)) (h0n : 0 ≤ n) (hn : n ≤ 100000) (Pv : Nat → L2.St → Hp → Prop) (h0 : ∀ H1, Ex H H1 → Pv 0 σ H1)
    (hs : ∀ (i : Nat) σ' H', (i : Int) < n → Pv i σ' H' → tu { D with nx := Pv (i + 1), ct := Pv (i + 1), bk := tz D } (σ'.set j (some (.int (n - 1 - (i : Int))))) H') (hd : ∀ σ' H', Pv n.toNat σ' H' → tz D σ' H') :
    tSeq (tFor (iRevR (tRg1 ta)) (gName j) tu) tz D σ H := s_forRv (D := { D with nx := tz D }) h h0n hn Pv h0 hs hd
/-- a tuple's two parts given to names -/
theorem g2 {p : Addr} {x y : V} {i j : Nat} {Q : L2.St → Hp → Prop} (hp : SqT K H p [x, y]) (k : Q ((σ.set i (some x)).set j (some y)) H) : gTup K 2 (gCons (gName i) (gCons (gName j) gNil)) (.ref p) σ H Q :=
  ⟨p, _, rfl, hp, rfl, _, _, rfl, _, _, rfl, rfl, k⟩
/-- i, j = f(..), told by f's own promise -/
theorem q_un2A {ta : TA} {sp : Sp} {dvs vs : List V} {E : XK} {g : TG} (h : EvA ta σ H vs) (k : ∀ H1, Ex H H1 → sp (vs ++ dvs) H1 (fun v H2 => g v σ H2 (tz D)) E) : tSeq (tAsg (tCall sp dvs E ta) g) tz D σ H := h H (Ex.refl H) _ k
theorem s_un2A {ta : TA} {sp : Sp} {dvs vs : List V} {E : XK} {g : TG} (h : EvA ta σ H vs) (k : ∀ H1, Ex H H1 → sp (vs ++ dvs) H1 (fun v H2 => g v σ H2 D.nx) E) : tAsg (tCall sp dvs E ta) g D σ H := h H (Ex.refl H) _ k
/-- i, j = a new tuple -/
theorem q_un2 {x y : V} {i j : Nat} (h : EvU te σ H [x, y]) (k : ∀ H1, Ex H H1 → tz D ((σ.set i (some x)).set j (some y)) H1) : tSeq (tAsg te (gTup K 2 (gCons (gName i) (gCons (gName j) gNil)))) tz D σ H :=
  h H (Ex.refl H) _ fun p H1 _ e1 hp => g2 (st_of hp) (k H1 e1)
theorem s_un2 {x y : V} {i j : Nat} (h : EvU te σ H [x, y]) (k : ∀ H1, Ex H H1 → D.nx ((σ.set i (some x)).set j (some y)) H1) : tAsg te (gTup K 2 (gCons (gName i) (gCons (gName j) gNil))) D σ H :=
  h H (Ex.refl H) _ fun p H1 _ e1 hp => g2 (st_of hp) (k H1 e1)
end
/-- x ** y of any whole numbers whose power stays within bounds -/
def CPowE (i j : Int) : Prop := 0 ≤ j ∧ (Builtin.Int.intBits i : Int) * j ≤ 2 ^ 27
theorem op_powE {X : Cx} : OpR X (binaryOp .Pow) (rI CPowE fun i j => .int (i ^ j.toNat)) := opI fun _ _ _ _ _ _ _ hc q => pow_int hc.1 hc.2 q
theorem slE {X : Cx} {K : PySem.W.Frag} (h : X.K = K) : SlR X (rSlL K) := by
  subst h
  exact sl_list
theorem pe_joinE {X : Cx} {K : PySem.W.Frag} {o e : Expr} {to te : TE} {ap pos : Pos} (h : X.K = K) (ho : PE X o to) (he : PE X e te) (hs : starEach [e] X.env = [(false, eval e X.env)] := by rfl) (hbase : attributeBase o "join" X.env (eval o X.env) = eval o X.env := by rfl) (hline : (ap.endLine == pos.line) = true := by rfl) :
    PE X (.Call (.Attribute o "join" ap) [e] [] pos) (tM1 (fun x xs H Q => ∃ a p, ∃ ys : List Str, x = .str a ∧ xs = [.ref p] ∧ (SqL K H p (ys.map V.str) ∨ SqT K H p (ys.map V.str)) ∧ (ys.map (·.length)).sum + ys.length * a.length ≤ 16777216 ∧ Q (.str (Txt.join a ys)) H) to te) := by
  subst h
  exact pe_join ho he hs hbase hline
/-- a new tuple is told -/
def RetU (xs : List V) (H : Hp) (Q : VK) : Prop := ∀ p H2, H p = none → Ex H H2 → H2 p = some (.tup xs) → Q (.ref p) H2
end TwE
set_option Elab.async false
set_option linter.all false
set_option maxRecDepth 100000
set_option maxHeartbeats 2000000
/-! generator expressions over lists and ranges of ints, in any, all, sum. -/
namespace TwG
open PySem PySem.Spec PyProof.Rows L2 GxR

section
variable {X : Cx} {pins : List (Addr × Obj)} {σ : L2.St} {H H1 : Hp} {s s1 : Shared}

/-- the generator g of n items, the i-th one F i, in the state s5; H1: what was held before -/
def ReadyG (X : Cx) (pins : List (Addr × Obj)) (σ : L2.St) (H1 : Hp) (P : Addr) (n : Nat) (F : Nat → Value → Prop) (g : Addr) (s5 : Shared) : Prop :=
  ∃ (fp wr : List Addr) (G : Array GenState → Array GenState → Prop) (St : Nat → Shared → Prop),
    WalksS X.prog X.w X.A.in1 g fp wr G n (fun j y => ∃ i, (List.range n)[j]? = some i ∧ F i y) St ∧ St 0 s5 ∧ (∀ b ∈ fp, b < s5.heap.objs.size) ∧
    ∀ s', Moved wr G s5 s' → ∃ H2, Tabbed P H1 H2 ∧ Inv X pins σ H2 s'

/-- the element of the i-th item, over all that stood at s1 but the table at P -/
def EltG (X : Cx) (scope : Scope) (P : Addr) (x : Str) (elt : Expr) (s1 : Shared) (val F : Nat → Value → Prop) : Prop :=
  ∀ (cenv : Env) (A' : Around) (E' : Value → Shared → Prop) (i : Nat) (v : Value) (s₂ : Shared) (m₂ : Str → Option Value), A'.handled = none → cenv.scope = scope →
    cenv.cells = cloFrom X.env.cells scope.names [] → val i v → s₂.heap.Ns cenv.locals m₂ → m₂ x = some v →
    (∀ b o, b ≠ P → s1.heap.get? b = some o → s₂.heap.get? b = some o) →
    wpAny (model X.prog X.w) A' (eval elt cenv) (fun y s₃ => F i y ∧ Keeps s₂ s₃) E' s₂

theorem gen_core {c P : Addr} {elt : Expr} {x : Str} {gpos : Pos} {scope : Scope} {k : Nat} {Q' : Value → Shared → Prop} {o : Obj} {n : Nat} {val F : Nat → Value → Prop} {fp : List Addr} {St : Nat → Heap → Prop}
    (hr : Room k X.A) (TB : TabB X.base X.mg c P) (hcode : X.env.code = .ref c) (I1 : Inv X pins σ H1 s1) (hT : TabG H1 P)
    (W : ∀ A' : Around, A'.handled = none → Walks X.prog X.w A' s1.heap.objs.size fp [s1.heap.objs.size] n val St) (hfp : ∀ b ∈ fp, b ≤ s1.heap.objs.size)
    (hst : ∀ h3 : Heap, (∀ b u, b ≠ P → (s1.heap.push o).get? b = some u → h3.get? b = some u) → St 0 h3)
    (hel : EltG X scope P x elt s1 val F) (hQ : ∀ g s5, ReadyG X pins σ H1 P n F g s5 → Q' (.ref g) s5) :
    (s1.heap.push o).NoLimit ∧ wpAny (model X.prog X.w) X.A (genexprCode X.env gpos (X.env.qual ++ "<genexpr>") scope) (fun code s₃ =>
      wpAny (model X.prog X.w) X.A (builtinsFor X.env.globals X.env.builtins) (fun bi s₄ =>
        ∃ Ia fp wr n₀ Pf St₀ pz F, Value.ref s1.heap.objs.size = .ref Ia ∧ (∀ A' : Around, A'.handled = none → Walks X.prog X.w A' Ia fp wr n₀ Pf St₀) ∧ St₀ 0 s₄.heap ∧ (∀ b ∈ fp, b < s₄.heap.objs.size) ∧ s₄.heap.NoLimit ∧ cStatics ∉ wr ∧
          (∀ href : Heap, (∀ b o, s₄.heap.get? b = some o → href.get? b = some o) →
            QuietGen X.prog X.w (genEnv scope (cloFrom X.env.cells scope.names []) s₄.heap.objs.size code bi X.env) x [] elt (List.range s₄.heap.objs.size) wr Pf pz F href) ∧
          (∀ a h₅ tk gs, gs.bare = true → s₄.heap.objs.size < a → h₅.objs.size = a + 1 → (∀ b o, s₄.heap.get? b = some o → h₅.get? b = some o) →
            WalksS X.prog X.w X.A.in4 a (a :: s₄.heap.objs.size :: List.range s₄.heap.objs.size) (s₄.heap.objs.size :: wr) (GenOnlyQ s₄.gens.size) (passing pz n₀ 0).length
              (fun j y => ∃ i, (passing pz n₀ 0)[j]? = some i ∧ F i y) (GenAt X.prog X.w X.A.in4 a s₄.gens.size s₄.heap.objs.size (List.range s₄.heap.objs.size) wr pz n₀ F) →
            GenAt X.prog X.w X.A.in4 a s₄.gens.size s₄.heap.objs.size (List.range s₄.heap.objs.size) wr pz n₀ F 0 { s₄ with gens := s₄.gens.push gs, toks := tk, heap := h₅ } →
            Q' (.ref a) { s₄ with gens := s₄.gens.push gs, toks := tk, heap := h₅ })) X.xe s₃) X.xe { s1 with heap := s1.heap.push o } := by
  obtain ⟨ps, hP, ht⟩ := hT
  have hPs : s1.heap.get? P = some { cls := .none, data := .fields ps } := I1.hok P _ hP
  have hPlt : P < s1.heap.objs.size := Heap.lt_size hPs
  have hP2 : (s1.heap.push o).get? P = some { cls := .none, data := .fields ps } := Heap.get?_push_of_some _ hPs
  have cd : PySem.W.CodeHd (s1.heap.push o) c P := TB.code.keeps fun b u e => Heap.get?_push_of_some _ (I1.bk b u e)
  have lim2 : (s1.heap.push o).NoLimit := I1.nolimit.push o
  have sz2 : (s1.heap.push o).objs.size = s1.heap.objs.size + 1 := Heap.size_push ..
  have cont : ∀ (code : Value) (h3 : Heap) (tk : Nat) (ps' : Array Value), Heap.ExtBut P (s1.heap.push o) h3 → (s1.heap.push o).objs.size ≤ h3.objs.size → h3.get? P = some { cls := .none, data := .fields ps' } → (∃ more, ps' = ps ++ more) → TriplesOk ps'.toList →
      wpAny (model X.prog X.w) X.A (builtinsFor X.env.globals X.env.builtins) (fun bi s₄ =>
        ∃ Ia fp wr n₀ Pf St₀ pz F, Value.ref s1.heap.objs.size = .ref Ia ∧ (∀ A' : Around, A'.handled = none → Walks X.prog X.w A' Ia fp wr n₀ Pf St₀) ∧ St₀ 0 s₄.heap ∧ (∀ b ∈ fp, b < s₄.heap.objs.size) ∧ s₄.heap.NoLimit ∧ cStatics ∉ wr ∧
          (∀ href : Heap, (∀ b o, s₄.heap.get? b = some o → href.get? b = some o) →
            QuietGen X.prog X.w (genEnv scope (cloFrom X.env.cells scope.names []) s₄.heap.objs.size code bi X.env) x [] elt (List.range s₄.heap.objs.size) wr Pf pz F href) ∧
          (∀ a h₅ tk gs, gs.bare = true → s₄.heap.objs.size < a → h₅.objs.size = a + 1 → (∀ b o, s₄.heap.get? b = some o → h₅.get? b = some o) →
            WalksS X.prog X.w X.A.in4 a (a :: s₄.heap.objs.size :: List.range s₄.heap.objs.size) (s₄.heap.objs.size :: wr) (GenOnlyQ s₄.gens.size) (passing pz n₀ 0).length
              (fun j y => ∃ i, (passing pz n₀ 0)[j]? = some i ∧ F i y) (GenAt X.prog X.w X.A.in4 a s₄.gens.size s₄.heap.objs.size (List.range s₄.heap.objs.size) wr pz n₀ F) →
            GenAt X.prog X.w X.A.in4 a s₄.gens.size s₄.heap.objs.size (List.range s₄.heap.objs.size) wr pz n₀ F 0 { s₄ with gens := s₄.gens.push gs, toks := tk, heap := h₅ } →
            Q' (.ref a) { s₄ with gens := s₄.gens.push gs, toks := tk, heap := h₅ })) X.xe { s1 with heap := h3, toks := tk } := by
    intro code h3 tk ps' hx hsz hP3 hmore ht3
    obtain ⟨bm, ob, e1, e2, e3, e4, e5, e6, e7, e8⟩ := TB.bm
    have hcP : cStatics ≠ P := fun e => by
      obtain ⟨_, hns, _⟩ := I1.nolimit
      obtain ⟨o', es, ep, ho, hd, _⟩ := hns
      rw [e, hPs] at ho
      cases ho
      cases hd
    have hcl : cStatics < s1.heap.objs.size := let ⟨_, hns, _⟩ := I1.nolimit; hns.lt
    have keep3 : ∀ b u, b ≠ P → s1.heap.get? b = some u → h3.get? b = some u := fun b u hb e => hx b u hb (Heap.get?_push_of_some _ e)
    refine wpAny_builtinsFor (m := X.mg) (by rw [I1.ok.glob]; exact ((I1.mod.glob.keeps I1.bk).push o).extBut hx TB.gP) e1 e2 (keep3 _ _ e4 (I1.bk _ _ e5)) e6 e7 e8 ?_
    refine ⟨s1.heap.objs.size, fp, [s1.heap.objs.size], n, val, St, (fun _ => true), F, rfl, W, hst h3 hx, ?_, lim2.extBut hx hcP, ?_, ?_, ?_⟩
    · intro b hb
      have q := hfp b hb
      have q2 : s1.heap.objs.size < h3.objs.size := by omega
      exact Nat.lt_of_le_of_lt q q2
    · intro z
      rcases List.mem_cons.mp z with z | z
      · exact Nat.ne_of_lt hcl z
      · cases z
    · intro href hhref
      refine ⟨fun A' E' i v s₂ m₂ hA hPv hn hm hk => ?_, fun A' E' i v s₂ m₂ hA hPv hp hn hm hk => ?_⟩
      · simp only [List.forIn_nil]
        exact wpAny_pure ⟨rfl, keeps_refl _⟩
      · refine hel _ A' E' i v s₂ m₂ hA rfl rfl hPv hn hm fun b u hb e => ?_
        have hl := Heap.lt_size e
        refine hk b (List.mem_range.mpr ?_) (fun z => ?_) u (hhref b u (keep3 b u hb e))
        · show b < h3.objs.size
          exact Nat.lt_of_lt_of_le hl (by omega)
        · rcases List.mem_cons.mp z with z | z
          · rw [z] at hl
            exact Nat.lt_irrefl _ hl
          · cases z
    · intro g h5 tk5 gs hgb hag hsz5 hk5 W5 hat
      simp only [GxR.passing_true] at W5
      rw [List.length_range] at W5
      refine hQ g _ ⟨_, _, _, _, W5.in4_1, hat, ?_, fun s' hm => ?_⟩
      · intro b hb
        show b < h5.objs.size
        have e5 : h5.objs.size = g + 1 := hsz5
        have h8 : h3.objs.size < g := hag
        rw [e5]
        rcases List.mem_cons.mp hb with z | z
        · rw [z]
          exact Nat.lt_succ_self g
        · rcases List.mem_cons.mp z with z | z
          · rw [z]
            exact Nat.lt_succ_of_lt h8
          · have z2 := List.mem_range.mp z
            have h7 : b < h3.objs.size := z2
            exact Nat.lt_succ_of_lt (Nat.lt_trans h7 h8)
      · obtain ⟨more, em⟩ := hmore
        have nwr : ∀ b u, s1.heap.get? b = some u → b ∉ h3.objs.size :: [s1.heap.objs.size] := fun b u e hb => by
          have hl := Heap.lt_size e
          rcases List.mem_cons.mp hb with z | z
          · rw [z] at hl
            have h9 : (h3.objs.size : Nat) < s1.heap.objs.size := hl
            omega
          · rcases List.mem_cons.mp z with z | z
            · rw [z] at hl
              exact Nat.lt_irrefl _ hl
            · cases z
        have J := inv_tab (more := more) (h' := s'.heap) (g' := s'.gens) (d' := s'.drawn) (t' := s'.toks) I1 hP (fun b u hb e => hm.heap b u (nwr b u e) (hk5 b u (keep3 b u hb e)))
          (by rw [← em]; exact hm.heap P _ (nwr P _ hPs) (hk5 P _ hP3)) (AllBare.movedS (I1.bare.push hgb) hm)
        rw [sh_eta s1 s' hm.os] at J
        refine ⟨upd H1 P (.tbl (ps ++ more)), ⟨⟨ps ++ more, upd_same, by rw [← em]; exact ht3⟩, fun b hb => upd_ne hb⟩, J⟩
  refine ⟨lim2, ?_⟩
  cases hf : codeAmong gpos ps.toList with
  | none =>
    refine wpAny_genexprCodeX hcode (cd.code hP2 ht) (cd.tab hP2) hf fun c' h' tk hx hge hlt hco' _ htab' _ => ?_
    obtain ⟨o1, vs, f1, tf, fl, tg, inF, tx, tt, op, _, _, _, _, _, _, _, _, _, htr, _⟩ := hco'
    exact cont _ h' tk _ hx (Nat.le_trans hge (Nat.le_of_lt hlt)) htab'.2 ⟨_, rfl⟩ htr
  | some cv =>
    refine wpAny_genexprCode_hit hcode (cd.code hP2 ht) hf ?_
    exact cont cv (s1.heap.push o) s1.toks ps (Heap.ExtBut.refl _ _) (Nat.le_refl _) hP2 ⟨#[], by simp⟩ ht

theorem range_get {n j i : Nat} (h : (List.range n)[j]? = some i) : j = i ∧ j < n := by
  obtain ⟨hj, ej⟩ := List.getElem?_eq_some_iff.mp h
  rw [List.getElem_range] at ej
  rw [List.length_range] at hj
  exact ⟨ej, hj⟩

/-- an element that reads its own name alone: of an int z with Pz what Fz tells -/
def EltI (prog : Program) (w : World) (scope : Scope) (x : Str) (elt : Expr) (Pz : Int → Prop) (Fz : Int → Value → Prop) : Prop :=
  ∀ (cenv : Env) (A' : Around) (E' : Value → Shared → Prop) (z : Int) (t : Tok) (s₂ : Shared) (m₂ : Str → Option Value), cenv.scope = scope → Pz z → s₂.heap.Ns cenv.locals m₂ → m₂ x = some (.int z t) →
    wpAny (model prog w) A' (eval elt cenv) (fun y s₃ => Fz z y ∧ Keeps s₂ s₃) E' s₂

theorem gen_ints {c P : Addr} {elt iter : Expr} {x : Str} {px gpos : Pos} {scope : Scope} {te : TE} {k : Nat} {Pz : Int → Prop} {Fz : Int → Value → Prop} {Q' : Value → Shared → Prop} {R : List Int → Hp → Prop}
    (hr : Room k X.A) (TB : TabB X.base X.mg c P) (hcode : X.env.code = .ref c) (S : GenS X.env scope x) (hi : PE X iter te) (hel : EltI X.prog X.w scope x elt Pz Fz)
    (hs : ∀ v, genFold iter X.env v = pure v) (I : Inv X pins σ H s)
    {T0 : VK} (h : te σ H T0) (h0 : ∀ v H1, T0 v H1 → ∃ (a : Addr) (zs : List Int), v = .ref a ∧ SqL X.K H1 a (zs.map V.int) ∧ (∀ z ∈ zs, Pz z) ∧ TabG H1 P ∧ R zs H1)
    (hQ : ∀ zs H1 g s5, R zs H1 → ReadyG X pins σ H1 P zs.length (fun i y => ∃ z, zs[i]? = some z ∧ Fz z y) g s5 → Q' (.ref g) s5) :
    wpAny (model X.prog X.w) X.A (eval (.GeneratorExp elt [⟨.Name x px, iter, [], 0⟩] scope gpos) X.env) Q' X.xe s := by
  refine wpAny_GeneratorExp_walksQ hr.hd S.co (closure_ok S.free) S.cell S.dot S.loc S.kind (by have := hr.dp; omega) ?_ hs
  refine thn (hi.run pins s σ H _ I h) fun xv s1 ⟨v, H1, I1, r1, q1⟩ => ?_
  obtain ⟨yl, zs, rfl, hyl, hPz, hT, q1⟩ := h0 _ _ q1
  obtain rfl : xv = Value.ref yl := r1
  obtain ⟨its, rv, hl, hz⟩ := I1.list hyl
  have hIL := hl.isList
  have hlen : its.length = zs.length := by rw [← rv.length, List.length_map]
  have hat : ∀ (i : Nat) (v : Value), its.toArray[i]? = some v → ∃ (z : Int) (u : Tok), zs[i]? = some z ∧ v = .int z u := fun i v hv => by
    have hv2 : its[i]? = some v := by simpa using hv
    have hi2 : i < its.length := (List.getElem?_eq_some_iff.mp hv2).1
    obtain ⟨a, ha⟩ : ∃ a, zs[i]? = some a := ⟨zs[i]'(by omega), List.getElem?_eq_getElem _⟩
    have hb : (zs.map V.int)[i]? = some (V.int a) := by rw [List.getElem?_map, ha] <;> rfl
    obtain ⟨u, hu, ru⟩ := rv.get hb
    rw [hv2] at hu
    cases hu
    obtain ⟨t, e⟩ := (show ∃ t, v = Value.int a t from ru)
    exact ⟨a, t, ha, e⟩
  have hylt : yl < s1.heap.objs.size := by
    obtain ⟨_, e, _⟩ := _root_.id hIL
    exact Heap.lt_size e
  have hylP : yl ≠ P := fun z => by
    obtain ⟨ps, hP, _⟩ := hT
    have hPs : s1.heap.get? P = some { cls := .none, data := .fields ps } := I1.hok P _ hP
    obtain ⟨_, e, hc1, _, hd1⟩ := _root_.id hIL
    rw [z, hPs] at e
    cases e
    cases hd1
  refine wpAny_pyIter_list hIL ?_
  have hn5 : its.toArray.size = zs.length := by rw [List.size_toArray, hlen]
  refine gen_core (n := zs.length) (val := fun i v => its.toArray[i]? = some v) (F := fun i y => ∃ z, zs[i]? = some z ∧ Fz z y) (fp := [s1.heap.objs.size, yl])
    (St := fun i h => h.IsListIter s1.heap.objs.size yl i ∧ h.IsList yl its.toArray) hr TB hcode I1 hT (fun A' hA => ?_) (fun b hb => ?_) (fun h3 hx => ?_) ?_ fun g s5 hG => hQ zs H1 g s5 q1 hG
  · rw [← hn5]
    exact Walks.list hA _ _ (Nat.ne_of_lt hylt) _
  · rcases List.mem_cons.mp hb with z | z
    · exact Nat.le_of_eq z
    · rcases List.mem_cons.mp z with z | z
      · rw [z]
        exact Nat.le_of_lt hylt
      · cases z
  · have hPlt : P < s1.heap.objs.size := by
      obtain ⟨ps, hP, _⟩ := hT
      exact Heap.lt_size (I1.hok P _ hP)
    constructor
    · exact Heap.IsListIter.at (h := s1.heap.push _) ⟨_, Heap.get?_push_size _ rfl, rfl, rfl⟩ fun u e => hx _ u (Nat.ne_of_gt hPlt) e
    · obtain ⟨ob, e, r⟩ := _root_.id hIL
      exact ⟨ob, hx _ _ hylP (Heap.get?_push_of_some _ e), r⟩
  · intro cenv A' E' i v s₂ m₂ hA hsc hce hv hn hm hk
    obtain ⟨z, u, hzz, rfl⟩ := hat i v hv
    exact wpAny_mono (hel cenv A' E' z u s₂ m₂ hsc (hPz z (List.mem_of_getElem? hzz)) hn hm) (fun y s3 r => ⟨⟨z, hzz, r.1⟩, r.2⟩) fun _ _ e => e

theorem gen_rngP {Y : Type} {c P : Addr} {elt iter : Expr} {x : Str} {px gpos : Pos} {scope : Scope} {te : TE} {k : Nat} {F : Int → Int → Y → Nat → Value → Prop} {Q' : Value → Shared → Prop} {R : Int → Int → Y → Hp → Prop}
    (hr : Room k X.A) (TB : TabB X.base X.mg c P) (hcode : X.env.code = .ref c) (S : GenS X.env scope x) (hi : PE X iter te)
    (hel : ∀ lo hi y0 H1 s1, Inv X pins σ H1 s1 → TabG H1 P → R lo hi y0 H1 → EltG X scope P x elt s1 (fun i v => i < (hi - lo).toNat ∧ ∃ t, v = .int (lo + (i : Nat)) t) (F lo hi y0))
    (hs : ∀ v, genFold iter X.env v = pure v) (I : Inv X pins σ H s)
    {T0 : VK} (h : te σ H T0) (h0 : ∀ v H1, T0 v H1 → ∃ (r : Addr) (lo hi : Int) (y0 : Y), v = .ref r ∧ H1 r = some (.rng lo hi) ∧ (-(2 ^ 62) ≤ lo ∧ lo < 2 ^ 62 ∧ -(2 ^ 62) ≤ hi ∧ hi < 2 ^ 62) ∧ TabG H1 P ∧ R lo hi y0 H1)
    (hQ : ∀ lo hi y0 H1 g s5, R lo hi y0 H1 → ReadyG X pins σ H1 P (hi - lo).toNat (F lo hi y0) g s5 → Q' (.ref g) s5) :
    wpAny (model X.prog X.w) X.A (eval (.GeneratorExp elt [⟨.Name x px, iter, [], 0⟩] scope gpos) X.env) Q' X.xe s := by
  refine wpAny_GeneratorExp_walksQ hr.hd S.co (closure_ok S.free) S.cell S.dot S.loc S.kind (by have := hr.dp; omega) ?_ hs
  refine thn (hi.run pins s σ H _ I h) fun xv s1 ⟨v, H1, I1, r1, q1⟩ => ?_
  obtain ⟨r, lo, hh, y0, rfl, hrr, ⟨b1, b2, b3, b4⟩, hT, q1⟩ := h0 _ _ q1
  obtain rfl : xv = Value.ref r := r1
  obtain ⟨t, u, v, hro⟩ : ∃ t u v, s1.heap.get? r = some { cls := .type "range", data := .fields #[.int lo t, .int hh u, .int 1 v] } := I1.hok r _ hrr
  refine wpAny_pyIter_range (a := lo) (b := hh) (c := 1) (t := t) (u := u) (v := v) hro (small_one b1 b2 b3 b4) ?_
  have hPlt : P < s1.heap.objs.size := by
    obtain ⟨ps, hP, _⟩ := hT
    exact Heap.lt_size (I1.hok P _ hP)
  refine gen_core (n := (hh - lo).toNat) (val := fun i v => i < (hh - lo).toNat ∧ ∃ t, v = .int (lo + (i : Nat)) t) (F := F lo hh y0) (fp := [s1.heap.objs.size])
    (St := fun i h => IsRangeIter h s1.heap.objs.size (lo + (i : Nat) * 1) (((hh - lo).toNat : Int) - (i : Nat)) 1) hr TB hcode I1 hT (fun A' hA => ?_) (fun b hb => ?_) (fun h3 hx => ?_) (hel lo hh y0 H1 s1 I1 hT q1) fun g s5 hG => hQ lo hh y0 H1 g s5 q1 hG
  · have W := (Walks.range (prog := X.prog) (w := X.w) hA s1.heap.objs.size lo 1 (hh - lo).toNat).bound
    exact W.weaken fun i v ⟨h1, t, e⟩ => ⟨h1, t, by rw [e, Int.mul_one]⟩
  · rcases List.mem_cons.mp hb with z | z
    · exact Nat.le_of_eq z
    · cases z
  · have e1 : lo + ((0 : Nat) : Int) * 1 = lo := by simp
    have e2 : (((hh - lo).toNat : Nat) : Int) - ((0 : Nat) : Int) = Builtin.Range.rangeSize lo hh 1 := by rw [rangeSize_one]; split <;> omega
    show IsRangeIter _ _ (lo + ((0 : Nat) : Int) * 1) ((((hh - lo).toNat : Nat) : Int) - ((0 : Nat) : Int)) 1
    rw [e1, e2]
    exact hx _ _ (Nat.ne_of_gt hPlt) (Heap.get?_push_size _ rfl)

/-! ### any, sum over a list of ints; all over a range -/
theorem truth_of {n : Nat} {F : Nat → Value → Prop} {tr : Nat → Bool} (h : ∀ i y, i < n → F i y → y = .bool (tr i)) : TruthOf X.prog X.w X.A.in1 (fun j y => ∃ i, (List.range n)[j]? = some i ∧ F i y) tr := by
  intro j y sj Qj Ej hy hQj
  obtain ⟨i, hij, hF⟩ := hy
  obtain ⟨rfl, hj⟩ := range_get hij
  rw [h _ y hj hF]
  exact wpAny_truthy_bool hQj

def trI (pb : Int → Bool) (zs : List Int) (j : Nat) : Bool := match zs[j]? with
  | some z => pb z
  | none => false
theorem any_trI (zs : List Int) (pb : Int → Bool) : (List.range zs.length).any (trI pb zs) = zs.any pb := by
  have tr_some : ∀ {j z}, zs[j]? = some z → trI pb zs j = pb z := fun h => by unfold trI; rw [h]
  rw [Bool.eq_iff_iff, List.any_eq_true, List.any_eq_true]
  constructor
  · intro ⟨j, hj, h⟩
    have hj' := List.mem_range.mp hj
    rw [tr_some (List.getElem?_eq_getElem hj')] at h
    exact ⟨zs[j], List.getElem_mem hj', h⟩
  · intro ⟨b, hb, h⟩
    obtain ⟨j, hj, e⟩ := List.getElem_of_mem hb
    refine ⟨j, List.mem_range.mpr hj, ?_⟩
    rw [tr_some (List.getElem?_eq_getElem hj), e]
    exact h
/-- any(test for x in e), e a list of ints -/
def tAnyI (K : PySem.W.Frag) (P : Addr) (pb : Int → Bool) (te : TE) : TE := fun σ H Q => te σ H fun v H1 => ∃ (a : Addr) (zs : List Int), v = .ref a ∧ SqL K H1 a (zs.map V.int) ∧ TabG H1 P ∧ ∀ H2, Tabbed P H1 H2 → Q (.bl (zs.any pb)) H2
theorem pe_anyI {c P : Addr} {elt iter : Expr} {x : Str} {px p pos gpos : Pos} {scope : Scope} {pb : Int → Bool} {te : TE} {k : Nat}
    (hr : Room k X.A) (hg : Gl X "any") (hm : X.mg "any" = none) (TB : TabB X.base X.mg c P) (hcode : X.env.code = .ref c) (S : GenS X.env scope x) (hi : PE X iter te) (hel : EltI X.prog X.w scope x elt (fun _ => True) fun z y => y = .bool (pb z))
    (hs : ∀ v, genFold iter X.env v = pure v)
    (he : starEach [.GeneratorExp elt [⟨.Name x px, iter, [], 0⟩] scope gpos] X.env = (false, eval (.GeneratorExp elt [⟨.Name x px, iter, [], 0⟩] scope gpos) X.env) :: starEach [] X.env := by rfl) :
    PE X (.Call (.Name "any" p) [.GeneratorExp elt [⟨.Name x px, iter, [], 0⟩] scope gpos] [] pos) (tAnyI X.K P pb te) := by
  refine ⟨fun pins s σ H Q I h => ?_⟩
  refine wpAny_Call_Name_kw (ld_blt I hg hm boot_any ?_)
  refine PyProof.Rows.callWith_builtin1 ?_ he (by rfl)
  rw [he]
  show wpAny _ _ (spliced ((false, eval (.GeneratorExp elt [⟨.Name x px, iter, [], 0⟩] scope gpos) X.env) :: backTo pos (starEach [] X.env))) _ _ s
  refine Calls.spliced_cons (gen_ints (R := fun zs H1 => ∀ H2, Tabbed P H1 H2 → Q (.bl (zs.any pb)) H2) hr TB hcode S hi hel hs I h (fun v H1 q => ?_) fun zs H1 g s5 hR hG => ?_)
  · obtain ⟨a, zs, e, hq, hT, q⟩ := q
    exact ⟨a, zs, e, hq, fun _ _ => trivial, hT, q⟩
  obtain ⟨fp, wr, G, St, W, hst, hfp, hI⟩ := hG
  refine Calls.spliced_nil ?_
  refine call_any_walkS (W.self 0 _ _ _ hst ⟨g, fp, wr, G, _, _, St, trI pb zs, rfl, W, hst, truth_of fun i y hi ⟨z, e, hy⟩ => ?_, fun s' hmv => ?_⟩)
  · rw [hy]
    unfold trI
    rw [e]
  obtain ⟨H2, hT, J⟩ := hI s' hmv
  refine ⟨.bl _, H2, J, rfl, ?_⟩
  rw [any_trI zs pb]
  exact hR H2 hT
theorem preSum_get (f : Int → Int) (zs : List Int) (val : Nat → Int) (h : ∀ i z, zs[i]? = some z → val i = f z) : ∀ n, n ≤ zs.length → preSum val n = ((zs.take n).map f).sum
  | 0, _ => rfl
  | n + 1, hn => by
    have hx : zs[n]? = some zs[n] := List.getElem?_eq_getElem hn
    show preSum val n + val n = _
    rw [preSum_get f zs val h n (Nat.le_of_succ_le hn), h n _ hx, List.take_succ, hx, List.map_append, List.sum_append]
    simp
/-- sum(f x for x in e), e a list of ints with Pz -/
def tSumI (K : PySem.W.Frag) (P : Addr) (Pz : Int → Prop) (f : Int → Int) (te : TE) : TE := fun σ H Q => te σ H fun v H1 => ∃ (a : Addr) (zs : List Int), v = .ref a ∧ SqL K H1 a (zs.map V.int) ∧ (∀ z ∈ zs, Pz z) ∧ TabG H1 P ∧ ∀ H2, Tabbed P H1 H2 → Q (.int (zs.map f).sum) H2
theorem pe_sumI {c P : Addr} {elt iter : Expr} {x : Str} {px p pos gpos : Pos} {scope : Scope} {Pz : Int → Prop} {f : Int → Int} {te : TE} {k : Nat}
    (hr : Room k X.A) (hg : Gl X "sum") (hm : X.mg "sum" = none) (hb : bootBuiltins "sum" = some (.builtin "sum")) (TB : TabB X.base X.mg c P) (hcode : X.env.code = .ref c) (S : GenS X.env scope x) (hi : PE X iter te)
    (hel : EltI X.prog X.w scope x elt Pz fun z y => ∃ t, y = .int (f z) t)
    (hs : ∀ v, genFold iter X.env v = pure v)
    (he : starEach [.GeneratorExp elt [⟨.Name x px, iter, [], 0⟩] scope gpos] X.env = (false, eval (.GeneratorExp elt [⟨.Name x px, iter, [], 0⟩] scope gpos) X.env) :: starEach [] X.env := by rfl) :
    PE X (.Call (.Name "sum" p) [.GeneratorExp elt [⟨.Name x px, iter, [], 0⟩] scope gpos] [] pos) (tSumI X.K P Pz f te) := by
  refine ⟨fun pins s σ H Q I h => ?_⟩
  refine wpAny_Call_Name_kw (ld_blt I hg hm hb ?_)
  refine PyProof.Rows.callWith_builtin1 ?_ he (by rfl)
  rw [he]
  show wpAny _ _ (spliced ((false, eval (.GeneratorExp elt [⟨.Name x px, iter, [], 0⟩] scope gpos) X.env) :: backTo pos (starEach [] X.env))) _ _ s
  refine Calls.spliced_cons (gen_ints (R := fun zs H1 => ∀ H2, Tabbed P H1 H2 → Q (.int (zs.map f).sum) H2) hr TB hcode S hi hel hs I h (fun _ _ q => q) fun zs H1 g s5 hR hG => ?_)
  obtain ⟨fp, wr, G, St, W, hst, hfp, hI⟩ := hG
  refine Calls.spliced_nil ?_
  refine call_sum_walkAnyS (W.self 0 _ _ _ hst ⟨g, fp, wr, G, _, _, St, fun j => (zs[j]?.map f).getD 0, rfl, W, hst, hfp, fun j y hy => ?_, fun s' t' hmv => ?_⟩)
  · obtain ⟨i, hij, z, e, t, ey⟩ := hy
    obtain ⟨rfl, hj⟩ := range_get hij
    exact ⟨t, by rw [ey]; show _ = Value.int ((zs[j]?.map f).getD 0) t; rw [e]; rfl⟩
  obtain ⟨H2, hT, J⟩ := hI s' hmv
  refine ⟨.int _, H2, J, ⟨t', rfl⟩, ?_⟩
  rw [preSum_get f zs _ (fun i z e => by rw [e]; rfl) zs.length (Nat.le_refl _), List.take_length]
  exact hR H2 hT
/-- all(test for x in range) -/
def tAllR (P : Addr) (C : L2.St → Hp → Int → Int → (Int → Bool) → Prop) (te : TE) : TE := fun σ H Q => te σ H fun v H1 => ∃ (r : Addr) (lo hi : Int) (pb : Int → Bool), v = .ref r ∧ H1 r = some (.rng lo hi) ∧ (-(2 ^ 62) ≤ lo ∧ lo < 2 ^ 62 ∧ -(2 ^ 62) ≤ hi ∧ hi < 2 ^ 62) ∧ TabG H1 P ∧ C σ H1 lo hi pb ∧
  ∀ H2, Tabbed P H1 H2 → Q (.bl ((List.range (hi - lo).toNat).all fun i => pb (lo + (i : Nat)))) H2
theorem pe_allR {c P : Addr} {elt iter : Expr} {x : Str} {px p pos gpos : Pos} {scope : Scope} {C : L2.St → Hp → Int → Int → (Int → Bool) → Prop} {te : TE} {k : Nat}
    (hr : Room k X.A) (hg : Gl X "all") (hm : X.mg "all" = none) (hb : bootBuiltins "all" = some (.builtin "all")) (TB : TabB X.base X.mg c P) (hcode : X.env.code = .ref c) (S : GenS X.env scope x) (hi : PE X iter te)
    (hel : ∀ pins σ lo hi pb H1 s1, Inv X pins σ H1 s1 → TabG H1 P → C σ H1 lo hi pb → EltG X scope P x elt s1 (fun i v => i < (hi - lo).toNat ∧ ∃ t, v = .int (lo + (i : Nat)) t) fun i y => y = .bool (pb (lo + (i : Nat))))
    (hs : ∀ v, genFold iter X.env v = pure v)
    (he : starEach [.GeneratorExp elt [⟨.Name x px, iter, [], 0⟩] scope gpos] X.env = (false, eval (.GeneratorExp elt [⟨.Name x px, iter, [], 0⟩] scope gpos) X.env) :: starEach [] X.env := by rfl) :
    PE X (.Call (.Name "all" p) [.GeneratorExp elt [⟨.Name x px, iter, [], 0⟩] scope gpos] [] pos) (tAllR P C te) := by
  refine ⟨fun pins s σ H Q I h => ?_⟩
  refine wpAny_Call_Name_kw (ld_blt I hg hm hb ?_)
  refine PyProof.Rows.callWith_builtin1 ?_ he (by rfl)
  rw [he]
  show wpAny _ _ (spliced ((false, eval (.GeneratorExp elt [⟨.Name x px, iter, [], 0⟩] scope gpos) X.env) :: backTo pos (starEach [] X.env))) _ _ s
  refine Calls.spliced_cons (gen_rngP (Y := Int → Bool) (F := fun lo hi pb i y => y = .bool (pb (lo + (i : Nat)))) (R := fun lo hi pb H1 => C σ H1 lo hi pb ∧ ∀ H2, Tabbed P H1 H2 → Q (.bl ((List.range (hi - lo).toNat).all fun i => pb (lo + (i : Nat)))) H2)
    hr TB hcode S hi (fun lo hi pb H1 s1 I1 hT hR => hel pins σ lo hi pb H1 s1 I1 hT hR.1) hs I h (fun _ _ q => q) fun lo hi pb H1 g s5 hR hG => ?_)
  obtain ⟨fp, wr, G, St, W, hst, hfp, hI⟩ := hG
  refine Calls.spliced_nil ?_
  refine call_all_walkS (W.self 0 _ _ _ hst ⟨g, fp, wr, G, _, _, St, fun i => pb (lo + (i : Nat)), rfl, W, hst, truth_of fun i y hi hy => hy, fun s' hmv => ?_⟩)
  obtain ⟨H2, hT, J⟩ := hI s' hmv
  exact ⟨.bl _, H2, J, rfl, hR.2 H2 hT⟩
end

/-! ### elements -/
/-- x < 0 -/
theorem elt_neg {prog : Program} {w : World} {scope : Scope} {x : Str} {j : Nat} {p1 p2 p3 : Pos} (hk : scope.kind = .function) (hl : scope.names.lookup x = some .local) (hd : (x == ("__debug__" : Str)) = false := by decide) :
    EltI prog w scope x (.Compare (.Name x p1) [.Lt] [.Constant (.int 0) j p2] p3) (fun _ => True) fun z y => y = .bool (decide (z < 0)) := by
  intro cenv A' E' z t s₂ m₂ hs _ hn hm
  refine wpAny_Compare1 ?_
  refine wpAny_Name (wpAny_loadName_local (by rw [hs]; exact hk) (show cenv.scope.names.lookup x = some .local by rw [hs]; exact hl) hn hm ?_) hd
  refine wpAny_Constant_int ?_
  exact PySem.P.lt_int ⟨rfl, keeps_tok _ _⟩
/-- x * x -/
theorem elt_sq {prog : Program} {w : World} {scope : Scope} {x : Str} {p1 p2 p3 : Pos} (hk : scope.kind = .function) (hl : scope.names.lookup x = some .local) (hd : (x == ("__debug__" : Str)) = false := by decide) :
    EltI prog w scope x (.BinOp (.Name x p1) .Mult (.Name x p2) p3) (fun z => CMulW z z) fun z y => ∃ t, y = .int (z * z) t := by
  intro cenv A' E' z t s₂ m₂ hs hz hn hm
  have ld : ∀ {p : Pos} {Q : Value → Shared → Prop}, Q (.int z t) s₂ → wpAny (model prog w) A' (eval (.Name x p) cenv) Q E' s₂ := fun h =>
    wpAny_Name (wpAny_loadName_local (by rw [hs]; exact hk) (show cenv.scope.names.lookup x = some .local by rw [hs]; exact hl) hn hm h) hd
  refine wpAny_BinOp (ld (ld ?_))
  exact PySem.P.mul_int ⟨⟨_, rfl⟩, keeps_tok _ _⟩ hz.ok

/-- what is known where x[k] > x[k - 1] is asked -/
def upC (K : PySem.W.Frag) (i : Nat) : L2.St → Hp → Int → Int → (Int → Bool) → Prop := fun σ H lo hi pb => ∃ (a : Addr) (zs : List Int), σ[i]? = some (some (.ref a)) ∧ SqL K H a (zs.map V.int) ∧ zs.length < 2 ^ 62 ∧ 1 ≤ lo ∧ hi ≤ zs.length ∧
  pb = fun k => decide (zs.getD (k - 1).toNat 0 < zs.getD k.toNat 0)
theorem cell_read {X : Cx} {pins : List (Addr × Obj)} {σ : L2.St} {H1 : Hp} {s1 : Shared} {P : Addr} {i : Nat} {x : Str} {v : V} {scope : Scope} (I1 : Inv X pins σ H1 s1) (hT : TabG H1 P) (hN : X.N[i]? = some x) (hv : X.env.scope.names.lookup x = some .cell) (hl : scope.names.lookup x = some .free) (hσ : σ[i]? = some (some v)) :
    ∃ c u, RelV v u ∧ (cloFrom X.env.cells scope.names []).lookup x = some c ∧ c ≠ P ∧ s1.heap.IsCell c (some u) := by
  obtain ⟨m, hn, hlo⟩ := I1.loc
  obtain ⟨u, r, l⟩ := hlo i x v hN hσ (.inr (.inl hv))
  rcases l with ⟨hk, _⟩ | ⟨_, c, hc, hcell⟩
  · have hk : X.env.scope.names.lookup x = some .local := hk
    rw [hv] at hk
    cases hk
  · have hy : (x, NameKind.free) ∈ scope.names := PySem.mem_of_lookup hl
    obtain ⟨c', e'⟩ := mem_lookup (cloFrom_has (cells := X.env.cells) (acc := []) hy)
    have ec : c' = c := by
      rcases cloFrom_mem (PySem.mem_of_lookup e') with hm | ⟨_, e⟩
      · cases hm
      · rw [hc] at e
        exact e
    rw [ec] at e'
    refine ⟨c, u, r, e', fun z => ?_, hcell⟩
    obtain ⟨ps, hP, _⟩ := hT
    have hPs : s1.heap.get? P = some { cls := .none, data := .fields ps } := I1.hok P _ hP
    obtain ⟨o, ho, hd⟩ := hcell
    rw [z, hPs] at ho
    cases ho
    cases hd
theorem elt_up {X : Cx} {P : Addr} {scope : Scope} {x k : Str} {i j : Nat} {p1 p2 p3 p4 p5 p6 p7 p8 p9 : Pos} (hk : scope.kind = .function) (hkl : scope.names.lookup k = some .local) (hl : scope.names.lookup x = some .free)
    (hN : X.N[i]? = some x) (hv : X.env.scope.names.lookup x = some .cell) (hd : (k == ("__debug__" : Str)) = false := by decide) (hdx : (x == ("__debug__" : Str)) = false := by decide) (hcd : (x == ("__classdict__" : Str)) = false := by decide)
    (pins : List (Addr × Obj)) (σ : L2.St) (lo hi : Int) (pb : Int → Bool) (H1 : Hp) (s1 : Shared) (I1 : Inv X pins σ H1 s1) (hT : TabG H1 P) (hC : upC X.K i σ H1 lo hi pb) :
    EltG X scope P k (.Compare (.Subscript (.Name x p1) (.Name k p2) p3) [.Gt] [.Subscript (.Name x p4) (.BinOp (.Name k p5) .Sub (.Constant (.int 1) j p6) p7) p8] p9) s1
      (fun i v => i < (hi - lo).toNat ∧ ∃ t, v = .int (lo + (i : Nat)) t) fun i y => y = .bool (pb (lo + (i : Nat))) := by
  obtain ⟨a, zs, hσ, hq, hzl, hlo, hhi, hpb⟩ := hC
  obtain ⟨c, u, r, hc, hcP, hcell⟩ := cell_read I1 hT hN hv hl hσ
  obtain rfl : u = Value.ref a := r
  obtain ⟨its, rv, hpl, hz⟩ := I1.list hq
  have hIL := hpl.isList
  have haP : a ≠ P := fun z => by
    obtain ⟨ps, hP, _⟩ := hT
    have hPs : s1.heap.get? P = some { cls := .none, data := .fields ps } := I1.hok P _ hP
    obtain ⟨_, e, hc1, _, hd1⟩ := _root_.id hIL
    rw [z, hPs] at e
    cases e
    cases hd1
  have hat : ∀ (n : Nat), n < zs.length → ∃ t, its.toArray[n]? = some (.int (zs.getD n 0) t) := fun n hn => by
    have hb : (zs.map V.int)[n]? = some (V.int (zs.getD n 0)) := by
      rw [List.getElem?_map, List.getElem?_eq_getElem hn, List.getD_eq_getElem?_getD, List.getElem?_eq_getElem hn]
      rfl
    obtain ⟨u, hu, t, e⟩ := rv.get hb
    exact ⟨t, by rw [← e]; simpa using hu⟩
  intro cenv A' E' n v s₂ m₂ hA hsc hce hval hn hm hkeep
  obtain ⟨hnl, t, rfl⟩ := hval
  have kk : cenv.scope.kind = .function := by rw [hsc]; exact hk
  have kl : cenv.kindOf k = some .local := (show cenv.scope.names.lookup k = some .local by rw [hsc]; exact hkl)
  have kx : cenv.kindOf x = some .free := (show cenv.scope.names.lookup x = some .free by rw [hsc]; exact hl)
  have hcc : cenv.cells.lookup x = some c := by rw [hce]; exact hc
  have ldk : ∀ {p : Pos} {Q : Value → Shared → Prop} {tk : Nat}, Q (.int (lo + (n : Nat)) t) { s₂ with toks := tk } → wpAny (model X.prog X.w) A' (eval (.Name k p) cenv) Q E' { s₂ with toks := tk } := fun h =>
    wpAny_Name (wpAny_loadName_local kk kl (show Heap.Ns s₂.heap cenv.locals m₂ from hn) hm h) hd
  have hcell2 : s₂.heap.IsCell c (some (.ref a)) := by
    obtain ⟨o, ho, hd⟩ := hcell
    exact ⟨o, hkeep _ _ hcP ho, hd⟩
  have ldx : ∀ {p : Pos} {Q : Value → Shared → Prop} {tk : Nat}, Q (.ref a) { s₂ with toks := tk } → wpAny (model X.prog X.w) A' (eval (.Name x p) cenv) Q E' { s₂ with toks := tk } := fun h =>
    wpAny_Name (wpAny_loadName_free kk kx hcc (show Heap.IsCell s₂.heap c (some (.ref a)) from hcell2) h hcd) hdx
  have hIL2 : s₂.heap.IsList a its.toArray := by
    obtain ⟨ob, e, r⟩ := _root_.id hIL
    exact ⟨ob, hkeep _ _ haP e, r⟩
  have e0 : ({ s₂ with toks := s₂.toks } : Shared) = s₂ := rfl
  have i1 : (lo + (n : Nat)).toNat < zs.length := by omega
  have i2 : (lo + (n : Nat) - 1).toNat < zs.length := by omega
  obtain ⟨t1, g1⟩ := hat _ i1
  obtain ⟨t2, g2⟩ := hat _ i2
  rw [← e0]
  refine wpAny_Compare1 (Subscript_Name (ldx (ldk ⟨"list", _, slot_list_getitem.lookup, Heap.IsList.typeIs (s := { s₂ with toks := s₂.toks }) hIL2, wpAny_getItem_list (s := { s₂ with toks := s₂.toks }) hIL2 (by omega) (by omega) g1 ?_⟩)))
  refine Subscript_BinOp (ldx (wpAny_BinOp (ldk (wpAny_Constant_int (PySem.P.sub_int ?_)))))
  refine ⟨"list", _, slot_list_getitem.lookup, Heap.IsList.typeIs (s := { s₂ with toks := _ }) hIL2, wpAny_getItem_list (s := { s₂ with toks := _ }) hIL2 (by omega) (by omega) g2 ?_⟩
  refine PySem.P.gt_int ⟨?_, keeps_tok _ _⟩
  rw [hpb]
end TwG
set_option Elab.async false
set_option linter.all false
set_option maxRecDepth 100000
set_option maxHeartbeats 2000000
/-! list(zip(a, b)) of two lists, as a value. -/
namespace TwZ
open PySem PySem.Spec PyProof.Rows L2
open PySem.Sem (wp)
theorem wpAny_loadIfAlive {M : Model} {A : Around} {E : Value → Shared → Prop} {s : Shared} {a : Addr} {Q : Option Obj → Shared → Prop} (h : Q (s.heap.get? a) s) : wpAny M A (loadIfAlive a) Q E s := fun Γ p _ => h

/-- a zip whose last tuple T is still held -/
abbrev IsZipA (h : Heap) (z TI TO T : Addr) (b : Bool) : Prop :=
  h.get? z = some { cls := .type "zip", dict := none, data := .fields #[rawInt T, .bool b, .bool false, .ref TI, .ref TO], slots := #[] }

section
variable {prog : Program} {w : World} {A : Around} {E : Value → Shared → Prop} {s : Shared}
theorem not_free {z TI TO T : Addr} {b : Bool} {Q : Bool → Shared → Prop} (hz : IsZipA s.heap z TI TO T b) (hT : (s.heap.get? T).isSome = true) (hQ : ∀ h', IsZipA h' z TI TO T true → Heap.SameBut z s.heap h' → Q false { s with heap := h' }) :
    wpAny (model prog w) A (Builtin.SmallTypes.ownedTupleIsFree (.ref z)) Q E s := by
  unfold Builtin.SmallTypes.ownedTupleIsFree
  refine wpAny_bind (wpAny_field hz rfl (x := rawInt T) rfl ?_)
  show wpAny _ _ (loadIfAlive (Int.toNat (T : Int)) >>= _) _ _ _
  refine wpAny_bind (wpAny_loadIfAlive ?_)
  have e : Int.toNat (T : Int) = T := rfl
  rw [e]
  obtain ⟨o, ho⟩ := Option.isSome_iff_exists.mp hT
  rw [ho]
  simp only [Option.isNone_some, Bool.false_eq_true, if_false]
  cases b with
  | false =>
    refine wpAny_bind (wpAny_field hz rfl (x := .bool false) rfl ?_)
    rw [if_pos (by decide)]
    refine wpAny_bind (wpAny_setField_rec hz (by simp) fun h1 hz1 hs1 => wpAny_pure (hQ h1 hz1 hs1))
  | true =>
    refine wpAny_bind (wpAny_field hz rfl (x := .bool true) rfl ?_)
    rw [if_neg (by decide)]
    first
      | exact wpAny_pure (hQ s.heap hz (Heap.SameBut.refl _ _))
      | exact wpAny_bind (wpAny_pure (wpAny_pure (hQ s.heap hz (Heap.SameBut.refl _ _))))

theorem zipA_next_item {z TI TO T i1 i2 l1 l2 : Addr} {k1 k2 : Nat} {b : Bool} {xs ys : Array Value} {x y : Value} {Q : Value → Shared → Prop} (D : ZipApart z TI TO i1 i2 l1 l2)
    (hz : IsZipA s.heap z TI TO T b) (hT : (s.heap.get? T).isSome = true) (hTI : IsPair s.heap TI (.ref i1) (.ref i2))
    (h1 : s.heap.IsListIter i1 l1 k1) (h2 : s.heap.IsListIter i2 l2 k2) (hl1 : s.heap.IsList l1 xs) (hl2 : s.heap.IsList l2 ys) (hx : xs[k1]? = some x) (hy : ys[k2]? = some y)
    (hQ : ∀ h', IsZipA h' z TI TO T true → h'.IsListIter i1 l1 (k1 + 1) → h'.IsListIter i2 l2 (k2 + 1) → IsPair h' s.heap.objs.size x y → h'.objs.size = s.heap.objs.size + 1 →
      (∀ c o, c ≠ z → c ≠ i1 → c ≠ i2 → s.heap.get? c = some o → h'.get? c = some o) → Q (.ref s.heap.objs.size) { s with heap := h' }) :
    wpAny (model prog w) A (Builtin.«zip.__next__» ⟨[.ref z], []⟩) (fun fin s' => ∃ v, fin = .done (.ret v) ∧ Q v s') E s := by
  show wpAny _ _ (field (.ref z) 2 >>= _) _ _ _
  refine wpAny_bind (wpAny_field hz rfl (x := .bool false) rfl ?_)
  show wpAny _ _ (field (.ref z) 3 >>= _) _ _ _
  refine wpAny_bind (wpAny_field hz rfl (x := .ref TI) rfl ?_)
  refine wpAny_bind (wpAny_seqItems hTI rfl ?_)
  show wpAny _ _ (Builtin.SmallTypes.ownedTupleIsFree (.ref z) >>= _) _ _ _
  refine wpAny_bind (not_free hz hT fun h₁ hz₁ hs₁ => ?_)
  simp only [Bool.false_eq_true, if_false]
  have hk₁ : ∀ c o, c ≠ z → s.heap.get? c = some o → h₁.get? c = some o := fun c o c1 e => hs₁.extBut _ _ c1 e
  have hsz₁ : h₁.objs.size = s.heap.objs.size := hs₁.1
  refine wpAny_bind ?_
  simp only [← Array.forIn_toList, List.forIn_cons, List.forIn_nil]
  refine wpAny_bind (wpAny_bind (wpAny_holding ?_))
  show wpAny _ _ (Builtin.SmallTypes.nextOf (.ref i1) >>= _) _ _ _
  refine wpAny_bind (wpAny_nextOf_list_item (h1.extBut hs₁.extBut D.i1z) (hl1.extBut hs₁.extBut D.l1z) hx fun h₂ h1₂ hs₂ => wpAny_pure ?_)
  refine wpAny_pure ?_
  refine wpAny_bind (wpAny_bind (wpAny_holding ?_))
  show wpAny _ _ (Builtin.SmallTypes.nextOf (.ref i2) >>= _) _ _ _
  refine wpAny_bind (wpAny_nextOf_list_item ((h2.extBut hs₁.extBut D.i2z).extBut hs₂.extBut D.i12.symm) ((hl2.extBut hs₁.extBut D.l2z).extBut hs₂.extBut D.l2i1) hy fun h₃ h2₃ hs₃ => wpAny_pure ?_)
  refine wpAny_pure (wpAny_pure ?_)
  have sz : h₃.objs.size = s.heap.objs.size := by rw [hs₃.1, hs₂.1, hs₁.1]
  have hz₃ : IsZipA h₃ z TI TO T true := hs₃.extBut _ _ D.i2z.symm (hs₂.extBut _ _ D.i1z.symm hz₁)
  show wpAny _ _ (newTuple [x, y] >>= _) _ _ _
  refine wpAny_bind (wpAny_newTuple ?_)
  refine wpAny_pure ⟨_, rfl, ?_⟩
  show Q (.ref h₃.objs.size) _
  rw [sz]
  refine hQ _ (Heap.get?_push_of_some _ hz₃) ((h1₂.extBut hs₃.extBut D.i12).at fun o e => Heap.get?_push_of_some _ e) (h2₃.at fun o e => Heap.get?_push_of_some _ e) ?_ (by rw [Heap.size_push, sz]) fun c o c1 c2 c3 e => Heap.get?_push_of_some _ (hs₃.extBut _ _ c3 (hs₂.extBut _ _ c2 (hk₁ c o c1 e)))
  rw [← sz]
  exact Heap.get?_push_size _ rfl

theorem zipA_next_end {z TI TO T i1 i2 l1 l2 : Addr} {k1 k2 : Nat} {b : Bool} {xs ys : Array Value} {Q : Fin → Shared → Prop} (hh : A.handled = none) (D : ZipApart z TI TO i1 i2 l1 l2)
    (hz : IsZipA s.heap z TI TO T b) (hT : (s.heap.get? T).isSome = true) (hTI : IsPair s.heap TI (.ref i1) (.ref i2))
    (h1 : s.heap.IsListIter i1 l1 k1) (h2 : s.heap.IsListIter i2 l2 k2) (hl1 : s.heap.IsList l1 xs) (hl2 : s.heap.IsList l2 ys) (hend : xs[k1]? = none ∨ ys[k2]? = none)
    (hE : ∀ h' e, (∀ c o, c ≠ z → c ≠ i1 → c ≠ i2 → s.heap.get? c = some o → h'.get? c = some o) → (∃ o, h'.get? e = some o ∧ o.cls = .type "StopIteration") → E (.ref e) { s with heap := h' }) :
    wpAny (model prog w) A (Builtin.«zip.__next__» ⟨[.ref z], []⟩) Q E s := by
  show wpAny _ _ (field (.ref z) 2 >>= _) _ _ _
  refine wpAny_bind (wpAny_field hz rfl (x := .bool false) rfl ?_)
  show wpAny _ _ (field (.ref z) 3 >>= _) _ _ _
  refine wpAny_bind (wpAny_field hz rfl (x := .ref TI) rfl ?_)
  refine wpAny_bind (wpAny_seqItems hTI rfl ?_)
  show wpAny _ _ (Builtin.SmallTypes.ownedTupleIsFree (.ref z) >>= _) _ _ _
  refine wpAny_bind (not_free hz hT fun h₁ hz₁ hs₁ => ?_)
  simp only [Bool.false_eq_true, if_false]
  have hk₁ : ∀ c o, c ≠ z → s.heap.get? c = some o → h₁.get? c = some o := fun c o c1 e => hs₁.extBut _ _ c1 e
  refine wpAny_bind ?_
  simp only [← Array.forIn_toList, List.forIn_cons, List.forIn_nil]
  refine wpAny_bind (wpAny_bind (wpAny_holding ?_))
  show wpAny _ _ (Builtin.SmallTypes.nextOf (.ref i1) >>= _) _ _ _
  cases hx : xs[k1]? with
  | none =>
    refine wpAny_bind (wpAny_nextOf_list_end hh (h1.extBut hs₁.extBut D.i1z) (hl1.extBut hs₁.extBut D.l1z) hx fun h₂ e hs₂ he => ?_)
    exact hE h₂ e (fun c o c1 c2 _ x => hs₂ _ _ c2 (hk₁ c o c1 x)) he
  | some x =>
    have hy : ys[k2]? = none := by rcases hend with h | h; rw [hx] at h; cases h; exact h
    refine wpAny_bind (wpAny_nextOf_list_item (h1.extBut hs₁.extBut D.i1z) (hl1.extBut hs₁.extBut D.l1z) hx fun h₂ h1₂ hs₂ => wpAny_pure ?_)
    refine wpAny_pure ?_
    refine wpAny_bind (wpAny_bind (wpAny_holding ?_))
    show wpAny _ _ (Builtin.SmallTypes.nextOf (.ref i2) >>= _) _ _ _
    refine wpAny_bind (wpAny_nextOf_list_end hh ((h2.extBut hs₁.extBut D.i2z).extBut hs₂.extBut D.i12.symm) ((hl2.extBut hs₁.extBut D.l2z).extBut hs₂.extBut D.l2i1) hy fun h₃ e hs₃ he => ?_)
    exact hE h₃ e (fun c o c1 c2 c3 x => hs₃ _ _ c3 (hs₂.extBut _ _ c2 (hk₁ c o c1 x))) he

theorem pyNext_zipA_item {z TI TO T i1 i2 l1 l2 : Addr} {k1 k2 : Nat} {b : Bool} {xs ys : Array Value} {x y : Value} {Q : Option Value → Shared → Prop} (D : ZipApart z TI TO i1 i2 l1 l2)
    (hz : IsZipA s.heap z TI TO T b) (hT : (s.heap.get? T).isSome = true) (hTI : IsPair s.heap TI (.ref i1) (.ref i2))
    (h1 : s.heap.IsListIter i1 l1 k1) (h2 : s.heap.IsListIter i2 l2 k2) (hl1 : s.heap.IsList l1 xs) (hl2 : s.heap.IsList l2 ys) (hx : xs[k1]? = some x) (hy : ys[k2]? = some y)
    (hQ : ∀ h', IsZipA h' z TI TO T true → h'.IsListIter i1 l1 (k1 + 1) → h'.IsListIter i2 l2 (k2 + 1) → IsPair h' s.heap.objs.size x y → h'.objs.size = s.heap.objs.size + 1 →
      (∀ c o, c ≠ z → c ≠ i1 → c ≠ i2 → s.heap.get? c = some o → h'.get? c = some o) → Q (some (.ref s.heap.objs.size)) { s with heap := h' }) :
    wpAny (model prog w) A (pyNext (.ref z)) Q E s := by
  have hT2 : s.TypeIs (.ref z) "zip" := ⟨_, hz, rfl⟩
  unfold pyNext
  exact wpAny_bind (wpAny_attempt (wpAny_callSpecial?_slot (name := Str.ofString "__next__") hT2 F.slot_zip_next
    (wpAny_call_entry F.slot_zip_next hT2 F.entry_zip_next
      (zipA_next_item D hz hT hTI h1 h2 hl1 hl2 hx hy fun h' a1 a3 a4 a5 a6 a7 => wpAny_pure (hQ h' a1 a3 a4 a5 a6 a7)) (F.args_zip_next_1 _))))
theorem pyNext_zipA_end {z TI TO T i1 i2 l1 l2 : Addr} {k1 k2 : Nat} {b : Bool} {xs ys : Array Value} {Q : Option Value → Shared → Prop} (hh : A.handled = none) (D : ZipApart z TI TO i1 i2 l1 l2)
    (hz : IsZipA s.heap z TI TO T b) (hT : (s.heap.get? T).isSome = true) (hTI : IsPair s.heap TI (.ref i1) (.ref i2))
    (h1 : s.heap.IsListIter i1 l1 k1) (h2 : s.heap.IsListIter i2 l2 k2) (hl1 : s.heap.IsList l1 xs) (hl2 : s.heap.IsList l2 ys) (hend : xs[k1]? = none ∨ ys[k2]? = none)
    (hQ : ∀ h', (∀ c o, c ≠ z → c ≠ i1 → c ≠ i2 → s.heap.get? c = some o → h'.get? c = some o) → Q none { s with heap := h' }) : wpAny (model prog w) A (pyNext (.ref z)) Q E s := by
  have hT2 : s.TypeIs (.ref z) "zip" := ⟨_, hz, rfl⟩
  unfold pyNext
  refine wpAny_bind (wpAny_attempt (wpAny_callSpecial?_slot (name := Str.ofString "__next__") hT2 F.slot_zip_next
    (wpAny_call_entry F.slot_zip_next hT2 F.entry_zip_next (zipA_next_end hh D hz hT hTI h1 h2 hl1 hl2 hend fun h' e hk he => ?_) (F.args_zip_next_1 _))))
  obtain ⟨o, ho, hc⟩ := he
  refine wpAny_bind (wpAny_isInstance (T := "StopIteration") (b := true) ⟨o, ho, hc⟩ isSubtype_stop ?_)
  exact wpAny_pure (hQ _ hk)

/-- the zip at z at its i-th turn, fresh or with a tuple held -/
structure ZS (z TI TO i1 i2 l1 l2 : Addr) (xs ys : Array Value) (i : Nat) (h : Heap) : Prop where
  ti : IsPair h TI (.ref i1) (.ref i2)
  a1 : h.IsListIter i1 l1 i
  a2 : h.IsListIter i2 l2 i
  b1 : h.IsList l1 xs
  b2 : h.IsList l2 ys
  to : ∃ a b, IsPair h TO a b
  st : IsZip h z TI TO .none ∨ ∃ T b, IsZipA h z TI TO T b ∧ (h.get? T).isSome = true
theorem ZS.keeps {z TI TO i1 i2 l1 l2 : Addr} {xs ys : Array Value} {i : Nat} {h h' : Heap} {S : Addr} (x : ZS z TI TO i1 i2 l1 l2 xs ys i h) (hk : ∀ b o, b ≠ S → h.get? b = some o → h'.get? b = some o) (hS : ∃ o, h'.get? S = some o)
    (nS : S ≠ z ∧ S ≠ TI ∧ S ≠ TO ∧ S ≠ i1 ∧ S ≠ i2 ∧ S ≠ l1 ∧ S ≠ l2) : ZS z TI TO i1 i2 l1 l2 xs ys i h' := by
  obtain ⟨n1, n2, n3, n4, n5, n6, n7⟩ := nS
  refine ⟨hk _ _ (Ne.symm n2) x.ti, x.a1.at fun o e => hk _ o (Ne.symm n4) e, x.a2.at fun o e => hk _ o (Ne.symm n5) e, x.b1.at fun o e => hk _ o (Ne.symm n6) e, x.b2.at fun o e => hk _ o (Ne.symm n7) e, (let ⟨a, b, ho⟩ := x.to; ⟨a, b, hk _ _ (Ne.symm n3) ho⟩), ?_⟩
  rcases x.st with hz | ⟨T, b, hz, hT⟩
  · exact .inl (hk _ _ (Ne.symm n1) hz)
  · refine .inr ⟨T, b, hk _ _ (Ne.symm n1) hz, ?_⟩
    by_cases e : T = S
    · rw [e]
      exact Option.isSome_iff_exists.mpr hS
    · obtain ⟨o, ho⟩ := Option.isSome_iff_exists.mp hT
      exact Option.isSome_iff_exists.mpr ⟨o, hk _ _ e ho⟩
theorem ZS.item {z TI TO i1 i2 l1 l2 : Addr} {xs ys : Array Value} {i : Nat} {x y : Value} {Q : Option Value → Shared → Prop} (D : ZipApart z TI TO i1 i2 l1 l2) (Z : ZS z TI TO i1 i2 l1 l2 xs ys i s.heap) (hx : xs[i]? = some x) (hy : ys[i]? = some y)
    (hQ : ∀ h', ZS z TI TO i1 i2 l1 l2 xs ys (i + 1) h' → IsPair h' s.heap.objs.size x y → (∀ c o, c ≠ z → c ≠ TO → c ≠ i1 → c ≠ i2 → s.heap.get? c = some o → h'.get? c = some o) → Q (some (.ref s.heap.objs.size)) { s with heap := h' }) :
    wpAny (model prog w) A (pyNext (.ref z)) Q E s := by
  have lt : ∀ {c o}, s.heap.get? c = some o → c ≠ s.heap.objs.size := fun e => Nat.ne_of_lt (Heap.lt_size e)
  obtain ⟨a, b0, ho⟩ := Z.to
  rcases Z.st with hz | ⟨T, b, hz, hT⟩
  · refine wpAny_pyNext_zip_item D hz Z.ti ho Z.a1 Z.a2 Z.b1 Z.b2 hx hy fun h' c1 c2 c3 c4 c5 c6 hk => hQ h' ⟨hk _ _ D.TIz D.TITO D.TIi1 D.TIi2 Z.ti, c3, c4, Z.b1.at fun o e => hk _ o D.l1z D.l1TO D.l1i1 D.l1i2 e, Z.b2.at fun o e => hk _ o D.l2z D.l2TO D.l2i1 D.l2i2 e, ⟨_, _, c2⟩, .inr ⟨s.heap.objs.size, false, c1, ?_⟩⟩ c5 hk
    rw [c5]
    rfl
  · refine pyNext_zipA_item D hz hT Z.ti Z.a1 Z.a2 Z.b1 Z.b2 hx hy fun h' c1 c3 c4 c5 c6 hk => hQ h' ⟨hk _ _ D.TIz D.TIi1 D.TIi2 Z.ti, c3, c4, Z.b1.at fun o e => hk _ o D.l1z D.l1i1 D.l1i2 e, Z.b2.at fun o e => hk _ o D.l2z D.l2i1 D.l2i2 e, ⟨_, _, hk _ _ D.TOz D.TOi1 D.TOi2 ho⟩, .inr ⟨T, true, c1, ?_⟩⟩ c5 (fun c o e1 _ e3 e4 e => hk c o e1 e3 e4 e)
    obtain ⟨oT, hoT⟩ := Option.isSome_iff_exists.mp hT
    by_cases e1 : T = z
    · rw [e1, c1]; rfl
    · by_cases e2 : T = i1
      · obtain ⟨o', ho', _⟩ := c3
        rw [e2, ho']; rfl
      · by_cases e3 : T = i2
        · obtain ⟨o', ho', _⟩ := c4
          rw [e3, ho']; rfl
        · rw [hk _ _ e1 e2 e3 hoT]; rfl
theorem ZS.done {z TI TO i1 i2 l1 l2 : Addr} {xs ys : Array Value} {i : Nat} {Q : Option Value → Shared → Prop} (hh : A.handled = none) (D : ZipApart z TI TO i1 i2 l1 l2) (Z : ZS z TI TO i1 i2 l1 l2 xs ys i s.heap) (hend : xs[i]? = none ∨ ys[i]? = none)
    (hQ : ∀ h', (∀ c o, c ≠ z → c ≠ TO → c ≠ i1 → c ≠ i2 → s.heap.get? c = some o → h'.get? c = some o) → Q none { s with heap := h' }) : wpAny (model prog w) A (pyNext (.ref z)) Q E s := by
  obtain ⟨a, b0, ho⟩ := Z.to
  rcases Z.st with hz | ⟨T, b, hz, hT⟩
  · exact wpAny_pyNext_zip_end hh D hz Z.ti ho Z.a1 Z.a2 Z.b1 Z.b2 hend hQ
  · exact pyNext_zipA_end hh D hz hT Z.ti Z.a1 Z.a2 Z.b1 Z.b2 hend fun h' hk => hQ h' fun c o e1 _ e3 e4 e => hk c o e1 e3 e4 e
end

/-- the tuples ts made so far -/
def Made (xs ys : Array Value) (bad : Addr → Prop) (ts : List Addr) (h : Heap) : Prop := ∀ (j : Nat) (t : Addr), ts[j]? = some t → ∃ x y, xs[j]? = some x ∧ ys[j]? = some y ∧ IsPair h t x y ∧ ¬ bad t
section
variable {prog : Program} {w : World} {A : Around} {R : Result → Shared → Prop}
theorem extend_zip {z TI TO i1 i2 l1 l2 S : Addr} {xs ys : Array Value} (hh : A.handled = none) (D : ZipApart z TI TO i1 i2 l1 l2) (nS : S ≠ z ∧ S ≠ TI ∧ S ≠ TO ∧ S ≠ i1 ∧ S ≠ i2 ∧ S ≠ l1 ∧ S ≠ l2) (n : Nat) (hn : n ≤ sizeLine) (hnx : n = min xs.size ys.size) (res : Value) (h0 : Heap) :
    ∀ (k i : Nat) (s : Shared) (ts : List Addr) (c : Nat), n - i = k → i ≤ n → ZS z TI TO i1 i2 l1 l2 xs ys i s.heap → s.heap.get? S = some { cls := .type "list", dict := none, data := .seq (ts.map Value.ref).toArray c, slots := #[] } → ts.length = i →
    Made xs ys (fun t => t < h0.objs.size ∨ t = z ∨ t = TO ∨ t = i1 ∨ t = i2 ∨ t = S) ts s.heap → (∀ b o, b ≠ z → b ≠ TO → b ≠ i1 → b ≠ i2 → b ≠ S → h0.get? b = some o → s.heap.get? b = some o) → h0.objs.size ≤ s.heap.objs.size →
    (∀ h' ts' c', (∀ b o, b ≠ z → b ≠ TO → b ≠ i1 → b ≠ i2 → b ≠ S → h0.get? b = some o → h'.get? b = some o) → h'.get? S = some { cls := .type "list", dict := none, data := .seq (ts'.map Value.ref).toArray c', slots := #[] } → ts'.length = n →
      Made xs ys (fun t => t < h0.objs.size ∨ t = z ∨ t = TO ∨ t = i1 ∨ t = i2 ∨ t = S) ts' h' → ts'.Nodup → R (.ok (.ret res)) { s with heap := h' }) → ts.Nodup →
    codeAny (model prog w) A (.builtin "list.extend.loop" ⟨[.ref S, .ref z, res], []⟩) R s := by
  obtain ⟨n1, n2, n3, n4, n5, n6, n7⟩ := nS
  intro k
  induction k with
  | zero =>
    intro i s ts c hk hi Z hS hl hM hkeep hsz hR hnd
    have hin : i = n := by omega
    refine codeAny_builtin F.entry_extend_loop ?_
    rw [Around.under_plainId F.plain_extend_loop _]
    show wpAny _ A.in1 (pyNext (.ref z) >>= _) _ _ s
    refine wpAny_bind (ZS.done (A := A.in1) hh D Z ?_ fun h' hk' => ?_)
    · rw [hin, hnx]
      rcases Nat.le_total xs.size ys.size with q | q
      · left
        rw [Nat.min_eq_left q]
        simp
      · right
        rw [Nat.min_eq_right q]
        simp
    refine wpAny_pure (hR h' ts c (fun b o e1 e2 e3 e4 e5 e => hk' b o e1 e2 e3 e4 (hkeep b o e1 e2 e3 e4 e5 e)) (hk' _ _ n1 n3 n4 n5 hS) (by omega) (fun j t hj => ?_) hnd)
    obtain ⟨x, y, ex, ey, hp, hb⟩ := hM j t hj
    have hb2 : ¬ (t < h0.objs.size ∨ t = z ∨ t = TO ∨ t = i1 ∨ t = i2 ∨ t = S) := hb
    exact ⟨x, y, ex, ey, hk' _ _ (fun q => hb2 (by simp [q])) (fun q => hb2 (by simp [q])) (fun q => hb2 (by simp [q])) (fun q => hb2 (by simp [q])) hp, hb⟩
  | succ k ih =>
    intro i s ts c hk hi Z hS hl hM hkeep hsz hR hnd
    have hlt : i < n := by omega
    have hix : i < xs.size := by omega
    have hiy : i < ys.size := by omega
    refine codeAny_builtin F.entry_extend_loop ?_
    rw [Around.under_plainId F.plain_extend_loop _]
    show wpAny _ A.in1 (pyNext (.ref z) >>= _) _ _ s
    refine wpAny_bind (ZS.item (A := A.in1) D Z (Array.getElem?_eq_getElem hix) (Array.getElem?_eq_getElem hiy) fun h' Z' hp hk' => ?_)
    have hS' := hk' _ _ n1 n3 n4 n5 hS
    show wpAny _ A.in1 (updateSeq S (·.push (.ref s.heap.objs.size)) >>= _) _ _ _
    refine wpAny_bind ?_
    have szS : ((ts.map Value.ref).toArray : Array Value).size = i := by simp [hl]
    have ne : ∀ {b o}, s.heap.get? b = some o → s.heap.objs.size ≠ b := fun e => Nat.ne_of_gt (Heap.lt_size e)
    have hTs : s.heap.objs.size ≠ S := ne hS
    have upd : ∀ b o, b ≠ S → h'.get? b = some o → (h'.update S (Obj.mapSeq (·.push (.ref s.heap.objs.size)))).get? b = some o := fun b o hb e => (Heap.get?_update_other _ _ (Ne.symm hb)).trans e
    have hS2 := Heap.get?_update_self (Obj.mapSeq (·.push (Value.ref s.heap.objs.size))) hS' rfl
    have hz0 : s.heap.objs.size ≠ z := by
      rcases Z.st with hz | ⟨_, _, hz, _⟩
      · exact ne hz
      · exact ne hz
    have hzTO : s.heap.objs.size ≠ TO := let ⟨_, _, ho⟩ := Z.to; ne ho
    have hz1 : s.heap.objs.size ≠ i1 := let ⟨_, e, _⟩ := Z.a1; ne e
    have hz2 : s.heap.objs.size ≠ i2 := let ⟨_, e, _⟩ := Z.a2; ne e
    have hM1 : Made xs ys (fun t => t < h0.objs.size ∨ t = z ∨ t = TO ∨ t = i1 ∨ t = i2 ∨ t = S) (ts ++ [s.heap.objs.size]) (h'.update S (Obj.mapSeq (·.push (.ref s.heap.objs.size)))) := fun j t hj => by
      rw [List.getElem?_append] at hj
      split at hj
      · obtain ⟨x, y, ex, ey, hp, hb⟩ := hM j t hj
        have hb2 : ¬ (t < h0.objs.size ∨ t = z ∨ t = TO ∨ t = i1 ∨ t = i2 ∨ t = S) := hb
        exact ⟨x, y, ex, ey, upd _ _ (fun q => hb2 (by simp [q])) (hk' _ _ (fun q => hb2 (by simp [q])) (fun q => hb2 (by simp [q])) (fun q => hb2 (by simp [q])) (fun q => hb2 (by simp [q])) hp), hb⟩
      · rename_i hji
        have e1 : j - ts.length = 0 := by
          have := (List.getElem?_eq_some_iff.mp hj).1
          simp at this
          omega
        have e2 : j = i := by omega
        rw [e1] at hj
        simp at hj
        subst hj e2
        refine ⟨_, _, Array.getElem?_eq_getElem hix, Array.getElem?_eq_getElem hiy, upd _ _ hTs hp, ?_⟩
        intro q
        rcases q with q | q | q | q | q | q
        · exact absurd (show s.heap.objs.size < h0.objs.size from q) (by omega)
        · exact hz0 q
        · exact hzTO q
        · exact hz1 q
        · exact hz2 q
        · exact hTs q
    have hnd1 : (ts ++ [s.heap.objs.size]).Nodup := by
      refine List.nodup_append.mpr ⟨hnd, by simp, fun a ha b hb => ?_⟩
      obtain ⟨j, hj⟩ := List.getElem?_of_mem ha
      obtain ⟨x, y, _, _, hp, _⟩ := hM j a hj
      rw [List.mem_singleton.mp hb]
      exact Nat.ne_of_lt (Heap.lt_size hp)
    have hsz1 : h0.objs.size ≤ (h'.update S (Obj.mapSeq (·.push (.ref s.heap.objs.size)))).objs.size := by
      have q := Heap.lt_size (upd _ _ hTs hp)
      have q2 : s.heap.objs.size < (h'.update S (Obj.mapSeq (·.push (.ref s.heap.objs.size)))).objs.size := q
      omega
    have hS3 : (h'.update S (Obj.mapSeq (·.push (.ref s.heap.objs.size)))).get? S = some { cls := .type "list", dict := none, data := .seq ((ts ++ [s.heap.objs.size]).map Value.ref).toArray (c + 1), slots := #[] } := by
      rw [hS2]
      simp [Obj.mapSeq]
    refine wpAny_updateSeq hS' rfl (wpAny_pure ⟨plainId_quiet F.plain_extend_loop _, ih (i + 1) _ (ts ++ [s.heap.objs.size]) _ (by omega) hlt (Z'.keeps (fun b o hb e => upd b o hb e) ⟨_, hS2⟩ ⟨n1, n2, n3, n4, n5, n6, n7⟩) hS3 (by simp [hl]) hM1
      (fun b o e1 e2 e3 e4 e5 e => upd _ _ e5 (hk' _ _ e1 e2 e3 e4 (hkeep b o e1 e2 e3 e4 e5 e))) hsz1 hR hnd1⟩) (by rw [szS]; omega) (by show (Array.push _ _).size ≤ sizeLine + 1; rw [Array.size_push, szS]; omega)
end

theorem zip_no_len : typeLookup (.type "zip") "__len__" = pure none := by rw [typeLookup_type, builtinLookup_eq_fast]; kernel_rfl
theorem zip_no_hint : typeLookup (.type "zip") "__length_hint__" = pure none := by rw [typeLookup_type, builtinLookup_eq_fast]; kernel_rfl
section
variable {prog : Program} {w : World} {A : Around} {E : Value → Shared → Prop} {s : Shared}
theorem ZS.type {z TI TO i1 i2 l1 l2 : Addr} {xs ys : Array Value} {i : Nat} (Z : ZS z TI TO i1 i2 l1 l2 xs ys i s.heap) : s.TypeIs (.ref z) "zip" := by
  rcases Z.st with hz | ⟨_, _, hz, _⟩
  · exact ⟨_, hz, rfl⟩
  · exact ⟨_, hz, rfl⟩
theorem call_list_zip {z TI TO i1 i2 l1 l2 : Addr} {xs ys : Array Value} {Q : Value → Shared → Prop} (hh : A.handled = none) (D : ZipApart z TI TO i1 i2 l1 l2) (h0 : Heap) (Z : ZS z TI TO i1 i2 l1 l2 xs ys 0 s.heap) (hz : IsZip s.heap z TI TO .none) (n : Nat) (hn : n ≤ sizeLine) (hnx : n = min xs.size ys.size)
    (hk0 : ∀ b o, h0.get? b = some o → s.heap.get? b = some o) (hs0 : h0.objs.size ≤ s.heap.objs.size)
    (hQ : ∀ h' ts c, (∀ b o, b ≠ z → b ≠ TO → b ≠ i1 → b ≠ i2 → b ≠ s.heap.objs.size → h0.get? b = some o → h'.get? b = some o) → h'.get? s.heap.objs.size = some { cls := .type "list", dict := none, data := .seq (ts.map Value.ref).toArray c, slots := #[] } → ts.length = n →
      Made xs ys (fun t => t < h0.objs.size ∨ t = z ∨ t = TO ∨ t = i1 ∨ t = i2 ∨ t = s.heap.objs.size) ts h' → ts.Nodup → Q (.ref s.heap.objs.size) { s with heap := h' }) :
    wpAny (model prog w) A (call (.type "list") [.ref z]) Q E s := by
  have ne : ∀ {b o}, s.heap.get? b = some o → s.heap.objs.size ≠ b := fun e => Nat.ne_of_gt (Heap.lt_size e)
  have nS : s.heap.objs.size ≠ z ∧ s.heap.objs.size ≠ TI ∧ s.heap.objs.size ≠ TO ∧ s.heap.objs.size ≠ i1 ∧ s.heap.objs.size ≠ i2 ∧ s.heap.objs.size ≠ l1 ∧ s.heap.objs.size ≠ l2 := by
    obtain ⟨_, _, hTO⟩ := Z.to
    obtain ⟨_, e1, _⟩ := Z.a1
    obtain ⟨_, e2, _⟩ := Z.a2
    obtain ⟨_, e3, _⟩ := Z.b1
    obtain ⟨_, e4, _⟩ := Z.b2
    exact ⟨ne hz, ne Z.ti, ne hTO, ne e1, ne e2, ne e3, ne e4⟩
  refine callType_codes (Q₁ := fun obj s₁ => obj = .ref s.heap.objs.size ∧ s₁ = { s with heap := s.heap.push { cls := .type "list", data := .seq #[] } }) PySem.F.called_list (PySem.F.typeCall_list_1 _) PySem.F.entry_list_init
    (code_list_new _ ⟨rfl, rfl⟩) fun obj s₁ h₁ => ?_
  obtain ⟨rfl, rfl⟩ := h₁
  have hS : (s.heap.push { cls := .type "list", data := .seq #[] }).get? s.heap.objs.size = some { cls := .type "list", data := .seq #[] } := Heap.get?_push_size _ rfl
  refine ⟨⟨_, hS, rfl⟩, PySem.F.args_list_init_2 _ _, ?_⟩
  generalize hSe : s.heap.objs.size = S at *
  have push : ∀ b o, s.heap.get? b = some o → (s.heap.push { cls := .type "list", data := .seq #[] }).get? b = some o := fun b o e => Heap.get?_push_of_some _ e
  have Z1 : ZS z TI TO i1 i2 l1 l2 xs ys 0 (s.heap.push { cls := .type "list", data := .seq #[] }) := Z.keeps (S := S) (fun b o _ e => push b o e) ⟨_, hS⟩ nS
  generalize hh1 : s.heap.push { cls := .type "list", data := .seq #[] } = h1 at *
  show wpAny _ A.in1.in1 (do let old ← Builtin.List.listItems (.ref S); Builtin.List.listUpdate (.ref S) (fun _ => #[]); letGo old.toList.reverse; Builtin.List.listExtendWith (.ref S) (.ref z) .none) _ _ _
  refine wpAny_bind ?_
  unfold Builtin.List.listItems
  refine wpAny_bind (wpAny_seqItems hS rfl (wpAny_pure ?_))
  show wpAny _ A.in1.in1 (updateSeq S (fun _ => #[]) >>= fun _ => letGo (#[] : Array Value).toList.reverse >>= fun _ => Builtin.List.listExtendWith (.ref S) (.ref z) .none) _ _ _
  refine wpAny_bind (wpAny_updateSeq hS rfl ?_)
  have hS₂ := Heap.get?_update_self (Obj.mapSeq (fun _ => (#[] : Array Value))) hS rfl
  have oth : ∀ b o, b ≠ S → h1.get? b = some o → (h1.update S (Obj.mapSeq (fun _ => (#[] : Array Value)))).get? b = some o :=
    fun b o hb e => (Heap.get?_update_other _ _ (Ne.symm hb)).trans e
  have Z2 := Z1.keeps (S := S) oth ⟨_, hS₂⟩ nS
  generalize hh2 : h1.update S (Obj.mapSeq (fun _ => (#[] : Array Value))) = h2 at *
  refine wpAny_bind (wpAny_letGo ?_)
  unfold Builtin.List.listExtendWith
  refine wpAny_bind (wpAny_typeOf (ZS.type (s := { s with heap := h2 }) Z2) ?_)
  have q1 : Builtin.List.listSameRef (.ref S) (.ref z) = false := by simp [Builtin.List.listSameRef, nS.1]
  have q2 : (Value.type "zip" == Value.type "list") = false := by decide
  have q3 : (Value.type "zip" == Value.type "tuple") = false := by decide
  simp only [q1, q2, q3, Bool.or_false, Bool.false_eq_true, if_false]
  have hz2 : ∃ f0, IsZip h2 z TI TO f0 := by
    subst hh2
    exact ⟨_, oth _ _ (Ne.symm nS.1) (push _ _ hz)⟩
  obtain ⟨f0, hz2⟩ := hz2
  refine wpAny_bind (wpAny_pyIter_zip (s := { s with heap := h2 }) hz2 ?_)
  refine wpAny_bind (wpAny_holding ?_)
  unfold Builtin.List.listLengthHint
  refine wpAny_bind (wpAny_specialOf (ZS.type (s := { s with heap := h2 }) Z2) zip_no_len ?_)
  show wpAny _ A.in1.in1 (specialOf (Value.ref z) (Str.ofString "__length_hint__") >>= _) _ _ _
  refine wpAny_bind (wpAny_specialOf (ZS.type (s := { s with heap := h2 }) Z2) zip_no_hint ?_)
  refine wpAny_pure ?_
  show wpAny _ A.in1.in1 (rule "list.extend.makes-room" >>= fun _ => Builtin.List.listTouch (.ref S) >>= fun _ =>
    again (.builtin "list.extend.loop" ⟨[.ref S, .ref z, .none], []⟩)) _ _ _
  refine wpAny_bind (wpAny_rule ?_)
  refine wpAny_bind ?_
  show wpAny _ A.in1.in1 (updateSeq S (·.push .none) >>= fun _ => updateSeq S (·.pop)) _ _ _
  refine wpAny_bind (wpAny_updateSeq hS₂ rfl ?_)
  have hS₃ := Heap.get?_update_self (Obj.mapSeq (·.push Value.none)) hS₂ rfl
  refine wpAny_updateSeq (hz := by seq_fits) hS₃ rfl ?_
  have hS₄ := Heap.get?_update_self (Obj.mapSeq (·.pop)) hS₃ rfl
  have oth2 : ∀ b o, b ≠ S → h2.get? b = some o → ((h2.update S (Obj.mapSeq (·.push Value.none))).update S (Obj.mapSeq (·.pop))).get? b = some o :=
    fun b o hb e => (Heap.get?_update_other _ _ (Ne.symm hb)).trans ((Heap.get?_update_other _ _ (Ne.symm hb)).trans e)
  have Z3 := Z2.keeps (S := S) oth2 ⟨_, hS₄⟩ nS
  generalize hh3 : (h2.update S (Obj.mapSeq (·.push Value.none))).update S (Obj.mapSeq (·.pop)) = h3 at *
  have up : ∀ b o, s.heap.get? b = some o → b ≠ S → h3.get? b = some o := fun b o e hb => oth2 b o hb (oth b o hb (push b o e))
  refine wpAny_pure ⟨plainId_quiet PySem.F.plain_extend_loop _, extend_zip (A := A.in1) hh D nS n hn hnx .none h0 n 0 { s with heap := h3 } [] _ (Nat.sub_zero _) (Nat.zero_le _) Z3 hS₄ rfl (fun j t hj => by simp at hj) (fun b o e1 e2 e3 e4 e5 e => up b o (hk0 b o e) e5) ?_ (fun h' ts c a1 a2 a3 a4 a5 => ⟨rfl, hQ h' ts c a1 a2 a3 a4 a5⟩) List.nodup_nil⟩
  have e1 : s.heap.objs.size ≤ h3.objs.size := by
    rw [← hh3, ← hh2, ← hh1]
    simp only [Heap.size_update, Heap.size_push]
    omega
  exact Nat.le_trans (by rw [hSe]; exact hs0) e1
end

section
variable {X : Cx} {pins : List (Addr × Obj)} {σ : L2.St} {H H' : Hp} {s : Shared}
/-- new objects laid, many at once -/
theorem inv_many {h' : Heap} {t' : Nat} (I : Inv X pins σ H s) (k : ∀ b u, s.heap.get? b = some u → h'.get? b = some u) (hH : ∀ b u, H b = some u → H' b = some u) (hn : ∀ b, H b = none → H' b ≠ none → s.heap.objs.size ≤ b) (hok : HOk X.prog X.w H' h') :
    Inv X pins σ H' { s with heap := h', toks := t' } := by
  refine I.step (g' := s.gens) (d' := s.drawn) (ch := []) (fun b hb => absurd hb (by simp)) (fun b o _ _ _ e _ => k b o e) (fun b o _ _ _ e _ => ⟨o.slots, k b o e⟩) (fun b o _ e n => ?_)
    (fun b o _ e => ⟨o, k b o e⟩) (fun b xs e => hH b _ e) (fun b o u e => hH b _ e) (fun b ps e => ⟨#[], by rw [hH b _ e]; simp⟩) (fun m hn => hn.keeps k) hok I.bare
  cases q : H' b with
  | none => rfl
  | some u => exact absurd (Nat.lt_of_lt_of_le (Heap.lt_size e) (hn b n (by rw [q]; simp))) (Nat.lt_irrefl _)
/-- H and the pairs ps told in a list -/
def more (H : Hp) : List (Addr × HO) → Hp
  | [] => H
  | p :: r => upd (more H r) p.1 p.2
theorem more_out {H : Hp} {b : Addr} : ∀ {ps : List (Addr × HO)}, b ∉ ps.map (·.1) → more H ps b = H b
  | [], _ => rfl
  | p :: r, h => by
    have h2 : ¬ b ∈ p.1 :: r.map (·.1) := h
    show upd (more H r) p.1 p.2 b = _
    rw [upd_ne fun e => h2 (by rw [e]; exact List.mem_cons_self)]
    exact more_out fun e => h2 (List.mem_cons_of_mem _ e)
theorem more_in {H : Hp} {b : Addr} {o : HO} : ∀ {ps : List (Addr × HO)}, (ps.map (·.1)).Nodup → (b, o) ∈ ps → more H ps b = some o
  | p :: r, hn, h => by
    have hn2 := List.nodup_cons.mp (show (p.1 :: r.map (·.1)).Nodup from hn)
    show upd (more H r) p.1 p.2 b = _
    rcases List.mem_cons.mp h with e | e
    · rw [← e]
      exact upd_same
    · rw [upd_ne (fun q => hn2.1 (by rw [← q]; exact List.mem_map.mpr ⟨_, e, rfl⟩))]
      exact more_in hn2.2 e
theorem more_some {H : Hp} {b : Addr} {u : HO} : ∀ {ps : List (Addr × HO)}, more H ps b = some u → (b, u) ∈ ps ∨ H b = some u
  | [], h => .inr h
  | p :: r, h => by
    have h : upd (more H r) p.1 p.2 b = some u := h
    by_cases e : b = p.1
    · rw [e, upd_same] at h
      cases h
      rw [e]
      exact .inl List.mem_cons_self
    · rw [upd_ne e] at h
      rcases more_some h with q | q
      · exact .inl (List.mem_cons_of_mem _ q)
      · exact .inr q
theorem vals_refs : ∀ ts : List Addr, Vals (ts.map V.ref) (ts.map Value.ref)
  | [] => .nil
  | _ :: r => .cons rfl (vals_refs r)

/-- what list(zip(..)) leaves: the new list l of new pairs ts -/
structure Zipped (H H2 : Hp) (xs ys : List V) (l : Addr) (ts : List Addr) : Prop where
  len : ts.length = min xs.length ys.length
  nodup : ts.Nodup
  out : l ∉ ts
  keep : ∀ b u, H b = some u → H2 b = some u
  new : H l = none
  news : ∀ t ∈ ts, H t = none
  lst : H2 l = some (.lst (ts.map V.ref))
  pair : ∀ (j : Nat) (t : Addr), ts[j]? = some t → ∃ x y, xs[j]? = some x ∧ ys[j]? = some y ∧ H2 t = some (.tup [x, y])
  rest : ∀ b, H b = none → b ≠ l → b ∉ ts → H2 b = none
/-- list(zip(a, b)) of two lists -/
def tListZip (K : PySem.W.Frag) (ta : TA) : TE := fun σ H Q => ta σ H fun vs H1 => ∃ a b xs ys, vs = [.ref a, .ref b] ∧ SqL K H1 a xs ∧ SqL K H1 b ys ∧ ∀ l ts H2, Zipped H1 H2 xs ys l ts → Q (.ref l) H2
theorem pe_listZip {e e2 : Expr} {ta : TA} {p p2 q pos : Pos} (hh : X.A.handled = none) (hgl : Gl X "list") (hml : X.mg "list" = none) (hg : Gl X "zip") (hm : X.mg "zip" = none) (ha : PA X [e, e2] ta)
    (hs : starEach [e, e2] X.env = (false, eval e X.env) :: starEach [e2] X.env := by rfl) (hpl : (backTo q (starEach [e2] X.env)).any (·.1) = false := by rfl)
    (hs2 : starEach [.Call (.Name "zip" p2) [e, e2] [] q] X.env = (false, eval (.Call (.Name "zip" p2) [e, e2] [] q) X.env) :: starEach [] X.env := by rfl) :
    PE X (.Call (.Name "list" p) [.Call (.Name "zip" p2) [e, e2] [] q] [] pos) (tListZip X.K ta) := by
  refine ⟨fun pins s σ H Q I h => ?_⟩
  refine wpAny_Call_Name_kw (ld_blt I hgl hml PyProof.Rows.boot_list ?_)
  refine PyProof.Rows.callWith_type1 ?_ hs2 (by rfl)
  rw [hs2]
  show wpAny _ _ (spliced ((false, eval (.Call (.Name "zip" p2) [e, e2] [] q) X.env) :: backTo pos (starEach [] X.env))) _ _ s
  refine Calls.spliced_cons (Call_ (ld_blt I hg hm PyProof.Rows.boot_zip (PyProof.Rows.callWith_type1 (thn (ha.run q pins s σ H _ I h) fun us s1 ⟨vs, H1, I1, r1, q1⟩ => ?_) hs hpl)))
  obtain ⟨a, b, xs, ys, ex, hqx, hqy, q1⟩ := q1
  subst ex
  obtain ⟨ua, ub, rfl, ra, rb⟩ := vals2 r1
  obtain rfl : ua = Value.ref a := ra
  obtain rfl : ub = Value.ref b := rb
  obtain ⟨its, rv, p1, hx1⟩ := I1.list hqx
  obtain ⟨its2, rv2, p2', hx2⟩ := I1.list hqy
  refine call_zip_2 p1.isList p2'.isList fun h' hz hTI hTO h1 h2 hsz hk => ?_
  refine Calls.spliced_nil ?_
  have lx := rv.length
  have ly := rv2.length
  refine call_list_zip (s := { s1 with heap := h' }) (xs := its.toArray) (ys := its2.toArray) (i1 := s1.heap.objs.size) (i2 := s1.heap.objs.size + 1) (TI := s1.heap.objs.size + 2) (TO := s1.heap.objs.size + 3) hh (PySem.W.ktu_apart s1.heap.objs.size a b p1.lt p2'.lt) s1.heap
    ⟨hTI, h1, h2, p1.isList.at fun o e => hk _ o e, p2'.isList.at fun o e => hk _ o e, ⟨_, _, hTO⟩, .inl hz⟩ hz (min xs.length ys.length) (by omega) (by rw [List.size_toArray, List.size_toArray, lx, ly]) (fun b o e => hk b o e) (by show s1.heap.objs.size ≤ h'.objs.size; omega)
    fun h3 ts c hkeep hl hlen hM hnd => ?_
  have hl : h3.get? h'.objs.size = some { cls := .type "list", dict := none, data := .seq (ts.map Value.ref).toArray c, slots := #[] } := hl
  show EP X pins σ Q (.ref h'.objs.size) { s1 with heap := h3, toks := s1.toks }
  have hM : Made its.toArray its2.toArray (fun t => t < s1.heap.objs.size ∨ t = s1.heap.objs.size + 4 ∨ t = s1.heap.objs.size + 3 ∨ t = s1.heap.objs.size ∨ t = s1.heap.objs.size + 1 ∨ t = h'.objs.size) ts h3 := hM
  have hge : ∀ t ∈ ts, s1.heap.objs.size ≤ t ∧ t ≠ h'.objs.size := fun t ht => by
    obtain ⟨j, hj⟩ := List.getElem?_of_mem ht
    obtain ⟨_, _, _, _, _, hb⟩ := hM j t hj
    have hb : ¬ (t < s1.heap.objs.size ∨ t = s1.heap.objs.size + 4 ∨ t = s1.heap.objs.size + 3 ∨ t = s1.heap.objs.size ∨ t = s1.heap.objs.size + 1 ∨ t = h'.objs.size) := hb
    exact ⟨Nat.le_of_not_lt fun q => hb (.inl q), fun q => hb (by simp [q])⟩
  have hlge : s1.heap.objs.size ≤ h'.objs.size := by omega
  have kp : ∀ b o, s1.heap.get? b = some o → h3.get? b = some o := fun b o e => by
    have q := Heap.lt_size e
    have q : (b : Nat) < s1.heap.objs.size := q
    have hsz : h'.objs.size = s1.heap.objs.size + 5 := hsz
    refine hkeep b o ?_ ?_ ?_ ?_ ?_ e
    · exact Nat.ne_of_lt (Nat.lt_of_lt_of_le q (Nat.le_add_right _ _))
    · exact Nat.ne_of_lt (Nat.lt_of_lt_of_le q (Nat.le_add_right _ _))
    · exact Nat.ne_of_lt q
    · exact Nat.ne_of_lt (Nat.lt_of_lt_of_le q (Nat.le_add_right _ _))
    · exact Nat.ne_of_lt (Nat.lt_of_lt_of_le q hlge)
  generalize hps : ts.zip ((xs.zip ys).map fun p => HO.tup [p.1, p.2]) = ps
  have hkeys : ps.map (·.1) = ts := by
    rw [← hps]
    refine List.map_fst_zip ?_
    rw [List.length_map, List.length_zip, hlen]
    exact Nat.le_refl _
  have hlts : h'.objs.size ∉ ts := fun q => (hge _ q).2 rfl
  have hnd2 : (((h'.objs.size, HO.lst (ts.map V.ref)) :: ps).map (·.1)).Nodup := by
    show (h'.objs.size :: ps.map (·.1)).Nodup
    rw [hkeys]
    exact List.nodup_cons.mpr ⟨hlts, hnd⟩
  have hat : ∀ (j : Nat) (t : Addr), ts[j]? = some t → ∃ x y, xs[j]? = some x ∧ ys[j]? = some y ∧ (t, HO.tup [x, y]) ∈ ps := fun j t hj => by
    have hjl : j < ts.length := (List.getElem?_eq_some_iff.mp hj).1
    have jx : j < xs.length := by omega
    have jy : j < ys.length := by omega
    refine ⟨xs[j], ys[j], List.getElem?_eq_getElem jx, List.getElem?_eq_getElem jy, ?_⟩
    rw [← hps]
    refine List.mem_of_getElem? (i := j) ?_
    rw [List.getElem?_zip_eq_some]
    refine ⟨hj, ?_⟩
    have e : (xs.zip ys)[j]? = some (xs[j], ys[j]) := List.getElem?_zip_eq_some.mpr ⟨List.getElem?_eq_getElem jx, List.getElem?_eq_getElem jy⟩
    rw [List.getElem?_map, e]
    rfl
  have hof : ∀ (t : Addr) (u : HO), (t, u) ∈ ps → ∃ (j : Nat) (x y : V), ts[j]? = some t ∧ xs[j]? = some x ∧ ys[j]? = some y ∧ u = .tup [x, y] := fun t u hm => by
    rw [← hps] at hm
    obtain ⟨j, hj⟩ := List.getElem?_of_mem hm
    rw [List.getElem?_zip_eq_some] at hj
    obtain ⟨j1, j2⟩ := hj
    rw [List.getElem?_map] at j2
    obtain ⟨p, hp, e⟩ := Option.map_eq_some_iff.mp j2
    obtain ⟨g1, g2⟩ := List.getElem?_zip_eq_some.mp hp
    exact ⟨j, p.1, p.2, j1, g1, g2, e.symm⟩
  have fresh : ∀ b, s1.heap.objs.size ≤ b → H1 b = none := fun b e => I1.hok.fresh e
  have hold : ∀ b u, H1 b = some u → more H1 ((h'.objs.size, HO.lst (ts.map V.ref)) :: ps) b = some u := fun b u e => by
    rw [more_out, e]
    show b ∉ h'.objs.size :: ps.map (·.1)
    rw [hkeys]
    intro q
    rcases List.mem_cons.mp q with q | q
    · rw [q, fresh _ hlge] at e
      cases e
    · rw [fresh _ (hge _ q).1] at e
      cases e
  have Z : Zipped H1 (more H1 ((h'.objs.size, HO.lst (ts.map V.ref)) :: ps)) xs ys h'.objs.size ts :=
    ⟨hlen, hnd, hlts, hold, fresh _ hlge, fun t ht => fresh _ (hge t ht).1, more_in hnd2 List.mem_cons_self,
      fun j t hj => let ⟨x, y, ex, ey, hm⟩ := hat j t hj; ⟨x, y, ex, ey, more_in hnd2 (List.mem_cons_of_mem _ hm)⟩,
      fun b e1 e2 e3 => by
        rw [more_out, e1]
        show b ∉ h'.objs.size :: ps.map (·.1)
        rw [hkeys]
        intro q
        rcases List.mem_cons.mp q with q | q
        · exact e2 q
        · exact e3 q⟩
  refine ⟨.ref h'.objs.size, _, inv_many (t' := s1.toks) I1 kp hold (fun b e1 e2 => ?_) (fun b u e => ?_), rfl, q1 _ _ _ Z⟩
  · cases q : more H1 ((h'.objs.size, HO.lst (ts.map V.ref)) :: ps) b with
    | none => exact absurd q e2
    | some u =>
      rcases more_some q with q | q
      · rcases List.mem_cons.mp q with q | q
        · cases q
          exact hlge
        · obtain ⟨j, _, _, hj, _⟩ := hof b u q
          exact (hge b (List.mem_of_getElem? hj)).1
      · rw [e1] at q
        cases q
  · rcases more_some e with q | q
    · rcases List.mem_cons.mp q with q | q
      · cases q
        exact ⟨by rw [List.length_map]; omega, ts.map Value.ref, c, vals_refs ts, hl⟩
      · obtain ⟨j, x, y, hj, hx, hy, eu⟩ := hof b u q
        subst eu
        obtain ⟨x', y', ex', ey', hp, _⟩ := hM j b hj
        obtain ⟨u1, hu1, r1'⟩ := rv.get hx
        obtain ⟨u2, hu2, r2'⟩ := rv2.get hy
        have e1 : x' = u1 := by
          have : its[j]? = some x' := by simpa using ex'
          rw [hu1] at this
          exact (Option.some.inj this).symm
        have e2 : y' = u2 := by
          have : its2[j]? = some y' := by simpa using ey'
          rw [hu2] at this
          exact (Option.some.inj this).symm
        subst e1 e2
        exact ⟨by show 2 ≤ sizeLine; decide, [x', y'], .cons r1' (.cons r2' .nil), _, hp, rfl, _, rfl⟩
    · exact (I1.hok b u q).stay (fun d v _ e => kp d v e) (fun d e => hold d _ e) fun d xs e => hold d _ e
end
end TwZ
set_option Elab.async false
set_option linter.all false
set_option maxRecDepth 100000
set_option maxHeartbeats 2000000
namespace Pf
open PySem PySem.Spec PyProof.Rows L2 Evl Tw L2H
def topS (i : Nat) : Stmt := PySem.Challenge.pw_textwrapper_k13_whole_text_squared.main.body.getD i (.Pass ⟨0, 0, 0, 0⟩)
abbrev s_line_of : Stmt := topS 13
abbrev N_line_of : List Str := ["words", "begin", "end"]
theorem sc_line_of : FnScope N_line_of ["words", "begin", "end"] (defScope s_line_of) := ⟨rfl, rfl, rfl, by decide +kernel, rfl, by decide +kernel, by decide +kernel⟩
abbrev s_size_of : Stmt := topS 14
abbrev N_size_of : List Str := ["words", "begin", "end"]
theorem sc_size_of : FnScope N_size_of ["words", "begin", "end"] (defScope s_size_of) := ⟨rfl, rfl, rfl, by decide +kernel, rfl, by decide +kernel, by decide +kernel⟩
abbrev s_sizes_from : Stmt := topS 15
abbrev N_sizes_from : List Str := ["words", "width", "begin", "sizes", "size", "place"]
theorem sc_sizes_from : FnScope N_sizes_from ["words", "width", "begin"] (defScope s_sizes_from) := ⟨rfl, rfl, rfl, by decide +kernel, rfl, by decide +kernel, by decide +kernel⟩
abbrev s_long_word : Stmt := topS 16
abbrev N_long_word : List Str := ["words", "width", "place", "word"]
theorem sc_long_word : FnScope N_long_word ["words", "width"] (defScope s_long_word) := ⟨rfl, rfl, rfl, by decide +kernel, rfl, by decide +kernel, by decide +kernel⟩
abbrev s_check_width : Stmt := topS 17
abbrev N_check_width : List Str := ["width"]
theorem sc_check_width : FnScope N_check_width ["width"] (defScope s_check_width) := ⟨rfl, rfl, rfl, by decide +kernel, rfl, by decide +kernel, by decide +kernel⟩
abbrev s_check_words : Stmt := topS 18
abbrev N_check_words : List Str := ["words", "width"]
theorem sc_check_words : FnScope N_check_words ["words", "width"] (defScope s_check_words) := ⟨rfl, rfl, rfl, by decide +kernel, rfl, by decide +kernel, by decide +kernel⟩
abbrev s_bounds_of : Stmt := topS 20
abbrev N_bounds_of : List Str := ["words", "starts", "ends"]
theorem sc_bounds_of : FnScope N_bounds_of ["words", "starts"] (defScope s_bounds_of) := ⟨rfl, rfl, rfl, by decide +kernel, rfl, by decide +kernel, by decide +kernel⟩
abbrev s_table_of : Stmt := topS 22
abbrev N_table_of : List Str := ["words", "width", "table", "begin", "least", "_"]
theorem sc_table_of : FnScope N_table_of ["words", "width"] (defScope s_table_of) := ⟨rfl, rfl, rfl, by decide +kernel, rfl, by decide +kernel, by decide +kernel⟩
abbrev s_best_starts : Stmt := topS 23
abbrev N_best_starts : List Str := ["words", "width", "table", "starts", "begin", "_"]
theorem sc_best_starts : FnScope N_best_starts ["words", "width"] (defScope s_best_starts) := ⟨rfl, rfl, rfl, by decide +kernel, rfl, by decide +kernel, by decide +kernel⟩
abbrev s_first_line : Stmt := topS 24
abbrev N_first_line : List Str := ["words", "width", "begin", "table", "sizes"]
theorem sc_first_line : FnScope N_first_line ["words", "width", "begin", "table"] (defScope s_first_line) := ⟨rfl, rfl, rfl, by decide +kernel, rfl, by decide +kernel, by decide +kernel⟩
abbrev s_best_line : Stmt := topS 25
abbrev N_best_line : List Str := ["counts", "begin", "rest", "least", "best", "end", "count", "total"]
theorem sc_best_line : FnScope N_best_line ["counts", "begin", "rest"] (defScope s_best_line) := ⟨rfl, rfl, rfl, by decide +kernel, rfl, by decide +kernel, by decide +kernel⟩
abbrev s_squares_of : Stmt := topS 26
abbrev N_squares_of : List Str := ["width", "sizes", "size"]
theorem sc_squares_of : FnScope N_squares_of ["width", "sizes"] (defScope s_squares_of) := ⟨rfl, rfl, rfl, by decide +kernel, rfl, by decide +kernel, by decide +kernel⟩
abbrev s_words_of : Stmt := topS 28
abbrev N_words_of : List Str := ["text"]
theorem sc_words_of : FnScope N_words_of ["text"] (defScope s_words_of) := ⟨rfl, rfl, rfl, by decide +kernel, rfl, by decide +kernel, by decide +kernel⟩
abbrev s_paragraphs_of : Stmt := topS 29
abbrev N_paragraphs_of : List Str := ["text", "paragraphs", "parted", "row", "words"]
theorem sc_paragraphs_of : FnScope N_paragraphs_of ["text"] (defScope s_paragraphs_of) := ⟨rfl, rfl, rfl, by decide +kernel, rfl, by decide +kernel, by decide +kernel⟩
abbrev s_squared : Stmt := topS 31
abbrev N_squared : List Str := ["text", "width", "words"]
theorem sc_squared : FnScope N_squared ["text", "width"] (defScope s_squared) := ⟨rfl, rfl, rfl, by decide +kernel, rfl, by decide +kernel, by decide +kernel⟩
abbrev s_spread_line : Stmt := topS 32
abbrev N_spread_line : List Str := ["words", "width", "signs", "blanks", "more", "line", "place"]
theorem sc_spread_line : FnScope N_spread_line ["words", "width"] (defScope s_spread_line) := ⟨rfl, rfl, rfl, by decide +kernel, rfl, by decide +kernel, by decide +kernel⟩
abbrev s_squared_lines : Stmt := topS 33
abbrev N_squared_lines : List Str := ["words", "width", "rows", "lines", "begin", "end", "row"]
theorem sc_squared_lines : FnScope N_squared_lines ["words", "width"] (defScope s_squared_lines) := ⟨rfl, rfl, rfl, by decide +kernel, rfl, by decide +kernel, by decide +kernel⟩
abbrev s_joined : Stmt := topS 34
abbrev N_joined : List Str := ["paragraphs", "lines"]
theorem sc_joined : FnScope N_joined ["paragraphs"] (defScope s_joined) := ⟨rfl, rfl, rfl, by decide +kernel, rfl, by decide +kernel, by decide +kernel⟩
abbrev s_l_cell_at : Stmt := topS 36
abbrev N_l_cell_at : List Str := ["_law_script", "_law_k"]
theorem sc_l_cell_at : FnScope N_l_cell_at ["_law_script", "_law_k"] (defScope s_l_cell_at) := ⟨rfl, rfl, rfl, by decide +kernel, rfl, by decide +kernel, by decide +kernel⟩
abbrev s_l_sign_by : Stmt := topS 37
abbrev N_l_sign_by : List Str := ["_law_cell", "_law_some"]
theorem sc_l_sign_by : FnScope N_l_sign_by ["_law_cell"] (defScope s_l_sign_by) := ⟨rfl, rfl, rfl, by decide +kernel, rfl, by decide +kernel, by decide +kernel⟩
abbrev s_l_text_by : Stmt := topS 38
abbrev N_l_text_by : List Str := ["_law_cells", "_law_flowing", "_law_signs", "_law_cell", "_law_size_here", "_law_k"]
theorem sc_l_text_by : FnScope N_l_text_by ["_law_cells", "_law_flowing"] (defScope s_l_text_by) := ⟨rfl, rfl, rfl, by decide +kernel, rfl, by decide +kernel, by decide +kernel⟩
abbrev s_l_parts : Stmt := topS 39
abbrev N_l_parts : List Str := ["_law_signs", "_law_parts_here", "_law_held", "_law_last", "_law_sign"]
theorem sc_l_parts : FnScope N_l_parts ["_law_signs"] (defScope s_l_parts) := ⟨rfl, rfl, rfl, by decide +kernel, rfl, by decide +kernel, by decide +kernel⟩
abbrev s_l_whole : Stmt := topS 40
abbrev N_l_whole : List Str := ["_law_found"]
theorem sc_l_whole : FnScope N_l_whole ["_law_found"] (defScope s_l_whole) := ⟨rfl, rfl, rfl, by decide +kernel, rfl, by decide +kernel, by decide +kernel⟩
abbrev s_l_wholes : Stmt := topS 41
abbrev N_l_wholes : List Str := ["_law_found", "_law_one"]
theorem sc_l_wholes : FnScope N_l_wholes ["_law_found"] (defScope s_l_wholes) := ⟨rfl, rfl, rfl, by decide +kernel, rfl, by decide +kernel, by decide +kernel⟩
abbrev s_l_size : Stmt := topS 42
abbrev N_l_size : List Str := ["_law_row", "_law_begin", "_law_end"]
theorem sc_l_size : FnScope N_l_size ["_law_row", "_law_begin", "_law_end"] (defScope s_l_size) := ⟨rfl, rfl, rfl, by decide +kernel, rfl, by decide +kernel, by decide +kernel⟩
abbrev s_l_are_starts : Stmt := topS 43
abbrev N_l_are_starts : List Str := ["_law_row", "_law_width", "_law_found", "_law_ends", "_law_k"]
theorem sc_l_are_starts : FnScope N_l_are_starts ["_law_row", "_law_width", "_law_found"] (defScope s_l_are_starts) := ⟨rfl, rfl, rfl, by decide +kernel, rfl, by decide +kernel, by decide +kernel⟩
abbrev s_l_spread : Stmt := topS 44
abbrev N_l_spread : List Str := ["_law_row", "_law_width", "_law_blanks", "_law_line", "_law_k", "_law_word"]
theorem sc_l_spread : FnScope N_l_spread ["_law_row", "_law_width"] (defScope s_l_spread) := ⟨rfl, rfl, rfl, by decide +kernel, rfl, by decide +kernel, by decide +kernel⟩
abbrev s_l_kind : Stmt := topS 45
abbrev N_l_kind : List Str := ["_law_e", "_law_flags", "_law_k"]
theorem sc_l_kind : FnScope N_l_kind ["_law_e"] (defScope s_l_kind) := ⟨rfl, rfl, rfl, by decide +kernel, rfl, by decide +kernel, by decide +kernel⟩
abbrev s_l_refusal : Stmt := topS 46
abbrev N_l_refusal : List Str := ["_law_signs", "_law_width", "_law_e"]
theorem sc_l_refusal : FnScope N_l_refusal ["_law_signs", "_law_width"] (defScope s_l_refusal) := ⟨rfl, rfl, rfl, by decide +kernel, rfl, by decide +kernel, by decide +kernel⟩
abbrev s_l_longest : Stmt := topS 47
abbrev N_l_longest : List Str := ["_law_parts_here", "_law_most", "_law_held", "_law_word"]
theorem sc_l_longest : FnScope N_l_longest ["_law_parts_here"] (defScope s_l_longest) := ⟨rfl, rfl, rfl, by decide +kernel, rfl, by decide +kernel, by decide +kernel⟩
abbrev s_l_squared : Stmt := topS 48
abbrev N_l_squared : List Str := ["_law_parts_here", "_law_width", "_law_blocks", "_law_held", "_law_told", "_law_ends", "_law_rows", "_law_k"]
theorem sc_l_squared : FnScope N_l_squared ["_law_parts_here", "_law_width"] (defScope s_l_squared) := ⟨rfl, rfl, rfl, by decide +kernel, rfl, by decide +kernel, by decide +kernel⟩
abbrev s_law : Stmt := topS 49
abbrev N_law : List Str := ["_law_script", "_law_signs", "_law_parts_here", "_law_width", "_law_due", "_law_found"]
theorem sc_law : FnScope N_law ["_law_script"] (defScope s_law) := ⟨rfl, rfl, rfl, by decide +kernel, rfl, by decide +kernel, by decide +kernel⟩
/-- where the defs and classes stand -/
structure Ad where
  f_line_of : Addr
  d_line_of : FuncData
  f_size_of : Addr
  d_size_of : FuncData
  f_sizes_from : Addr
  d_sizes_from : FuncData
  f_long_word : Addr
  d_long_word : FuncData
  f_check_width : Addr
  d_check_width : FuncData
  f_check_words : Addr
  d_check_words : FuncData
  f_bounds_of : Addr
  d_bounds_of : FuncData
  f_table_of : Addr
  d_table_of : FuncData
  f_best_starts : Addr
  d_best_starts : FuncData
  f_first_line : Addr
  d_first_line : FuncData
  f_best_line : Addr
  d_best_line : FuncData
  f_squares_of : Addr
  d_squares_of : FuncData
  f_words_of : Addr
  d_words_of : FuncData
  f_paragraphs_of : Addr
  d_paragraphs_of : FuncData
  f_squared : Addr
  d_squared : FuncData
  f_spread_line : Addr
  d_spread_line : FuncData
  f_squared_lines : Addr
  d_squared_lines : FuncData
  f_joined : Addr
  d_joined : FuncData
  f_l_cell_at : Addr
  d_l_cell_at : FuncData
  f_l_sign_by : Addr
  d_l_sign_by : FuncData
  f_l_text_by : Addr
  d_l_text_by : FuncData
  f_l_parts : Addr
  d_l_parts : FuncData
  f_l_whole : Addr
  d_l_whole : FuncData
  f_l_wholes : Addr
  d_l_wholes : FuncData
  f_l_size : Addr
  d_l_size : FuncData
  f_l_are_starts : Addr
  d_l_are_starts : FuncData
  f_l_spread : Addr
  d_l_spread : FuncData
  f_l_kind : Addr
  d_l_kind : FuncData
  f_l_refusal : Addr
  d_l_refusal : FuncData
  f_l_longest : Addr
  d_l_longest : FuncData
  f_l_squared : Addr
  d_l_squared : FuncData
  f_law : Addr
  d_law : FuncData
  c_WrapError : Addr
  c_NoWidth : Addr
  c_LongWord : Addr
  c_NoStarts : Addr
  c_TooWide : Addr
  c_TooFew : Addr
  c_TooMany : Addr
  c_NoPlace : Addr
  c_NoWord : Addr
  c_Full : Addr
  c_NoWayBack : Addr
/-- what the top has left -/
structure Txt (K : PySem.W.Frag) (mg : Str → Option Value) (A : Ad) : Prop where
  F_line_of : Fun K "line_of" "line_of" s_line_of A.f_line_of A.d_line_of
  g_line_of : mg "line_of" = some (.ref A.f_line_of)
  b_line_of : Binds K A.d_line_of ["words", "begin", "end"] []
  F_size_of : Fun K "size_of" "size_of" s_size_of A.f_size_of A.d_size_of
  g_size_of : mg "size_of" = some (.ref A.f_size_of)
  b_size_of : Binds K A.d_size_of ["words", "begin", "end"] []
  F_sizes_from : Fun K "sizes_from" "sizes_from" s_sizes_from A.f_sizes_from A.d_sizes_from
  g_sizes_from : mg "sizes_from" = some (.ref A.f_sizes_from)
  b_sizes_from : Binds K A.d_sizes_from ["words", "width", "begin"] []
  F_long_word : Fun K "long_word" "long_word" s_long_word A.f_long_word A.d_long_word
  g_long_word : mg "long_word" = some (.ref A.f_long_word)
  b_long_word : Binds K A.d_long_word ["words", "width"] []
  F_check_width : Fun K "check_width" "check_width" s_check_width A.f_check_width A.d_check_width
  g_check_width : mg "check_width" = some (.ref A.f_check_width)
  b_check_width : Binds K A.d_check_width ["width"] []
  F_check_words : Fun K "check_words" "check_words" s_check_words A.f_check_words A.d_check_words
  g_check_words : mg "check_words" = some (.ref A.f_check_words)
  b_check_words : Binds K A.d_check_words ["words", "width"] []
  F_bounds_of : Fun K "bounds_of" "bounds_of" s_bounds_of A.f_bounds_of A.d_bounds_of
  g_bounds_of : mg "bounds_of" = some (.ref A.f_bounds_of)
  b_bounds_of : Binds K A.d_bounds_of ["words", "starts"] []
  F_table_of : Fun K "table_of" "table_of" s_table_of A.f_table_of A.d_table_of
  g_table_of : mg "table_of" = some (.ref A.f_table_of)
  b_table_of : Binds K A.d_table_of ["words", "width"] []
  F_best_starts : Fun K "best_starts" "best_starts" s_best_starts A.f_best_starts A.d_best_starts
  g_best_starts : mg "best_starts" = some (.ref A.f_best_starts)
  b_best_starts : Binds K A.d_best_starts ["words", "width"] []
  F_first_line : Fun K "first_line" "first_line" s_first_line A.f_first_line A.d_first_line
  g_first_line : mg "first_line" = some (.ref A.f_first_line)
  b_first_line : Binds K A.d_first_line ["words", "width", "begin", "table"] []
  F_best_line : Fun K "best_line" "best_line" s_best_line A.f_best_line A.d_best_line
  g_best_line : mg "best_line" = some (.ref A.f_best_line)
  b_best_line : Binds K A.d_best_line ["counts", "begin", "rest"] []
  F_squares_of : Fun K "squares_of" "squares_of" s_squares_of A.f_squares_of A.d_squares_of
  g_squares_of : mg "squares_of" = some (.ref A.f_squares_of)
  b_squares_of : Binds K A.d_squares_of ["width", "sizes"] []
  F_words_of : Fun K "words_of" "words_of" s_words_of A.f_words_of A.d_words_of
  g_words_of : mg "words_of" = some (.ref A.f_words_of)
  b_words_of : Binds K A.d_words_of ["text"] []
  F_paragraphs_of : Fun K "paragraphs_of" "paragraphs_of" s_paragraphs_of A.f_paragraphs_of A.d_paragraphs_of
  g_paragraphs_of : mg "paragraphs_of" = some (.ref A.f_paragraphs_of)
  b_paragraphs_of : Binds K A.d_paragraphs_of ["text"] []
  F_squared : Fun K "squared" "squared" s_squared A.f_squared A.d_squared
  g_squared : mg "squared" = some (.ref A.f_squared)
  b_squared : Binds K A.d_squared ["text", "width"] []
  F_spread_line : Fun K "spread_line" "spread_line" s_spread_line A.f_spread_line A.d_spread_line
  g_spread_line : mg "spread_line" = some (.ref A.f_spread_line)
  b_spread_line : Binds K A.d_spread_line ["words", "width"] []
  F_squared_lines : Fun K "squared_lines" "squared_lines" s_squared_lines A.f_squared_lines A.d_squared_lines
  g_squared_lines : mg "squared_lines" = some (.ref A.f_squared_lines)
  b_squared_lines : Binds K A.d_squared_lines ["words", "width"] []
  F_joined : Fun K "joined" "joined" s_joined A.f_joined A.d_joined
  g_joined : mg "joined" = some (.ref A.f_joined)
  b_joined : Binds K A.d_joined ["paragraphs"] []
  F_l_cell_at : Fun K "_law_cell_at" "_law_cell_at" s_l_cell_at A.f_l_cell_at A.d_l_cell_at
  g_l_cell_at : mg "_law_cell_at" = some (.ref A.f_l_cell_at)
  b_l_cell_at : Binds K A.d_l_cell_at ["_law_script", "_law_k"] []
  F_l_sign_by : Fun K "_law_sign_by" "_law_sign_by" s_l_sign_by A.f_l_sign_by A.d_l_sign_by
  g_l_sign_by : mg "_law_sign_by" = some (.ref A.f_l_sign_by)
  b_l_sign_by : Binds K A.d_l_sign_by ["_law_cell"] []
  F_l_text_by : Fun K "_law_text_by" "_law_text_by" s_l_text_by A.f_l_text_by A.d_l_text_by
  g_l_text_by : mg "_law_text_by" = some (.ref A.f_l_text_by)
  b_l_text_by : Binds K A.d_l_text_by ["_law_cells", "_law_flowing"] []
  F_l_parts : Fun K "_law_parts" "_law_parts" s_l_parts A.f_l_parts A.d_l_parts
  g_l_parts : mg "_law_parts" = some (.ref A.f_l_parts)
  b_l_parts : Binds K A.d_l_parts ["_law_signs"] []
  F_l_whole : Fun K "_law_whole" "_law_whole" s_l_whole A.f_l_whole A.d_l_whole
  g_l_whole : mg "_law_whole" = some (.ref A.f_l_whole)
  b_l_whole : Binds K A.d_l_whole ["_law_found"] []
  F_l_wholes : Fun K "_law_wholes" "_law_wholes" s_l_wholes A.f_l_wholes A.d_l_wholes
  g_l_wholes : mg "_law_wholes" = some (.ref A.f_l_wholes)
  b_l_wholes : Binds K A.d_l_wholes ["_law_found"] []
  F_l_size : Fun K "_law_size" "_law_size" s_l_size A.f_l_size A.d_l_size
  g_l_size : mg "_law_size" = some (.ref A.f_l_size)
  b_l_size : Binds K A.d_l_size ["_law_row", "_law_begin", "_law_end"] []
  F_l_are_starts : Fun K "_law_are_starts" "_law_are_starts" s_l_are_starts A.f_l_are_starts A.d_l_are_starts
  g_l_are_starts : mg "_law_are_starts" = some (.ref A.f_l_are_starts)
  b_l_are_starts : Binds K A.d_l_are_starts ["_law_row", "_law_width", "_law_found"] []
  F_l_spread : Fun K "_law_spread" "_law_spread" s_l_spread A.f_l_spread A.d_l_spread
  g_l_spread : mg "_law_spread" = some (.ref A.f_l_spread)
  b_l_spread : Binds K A.d_l_spread ["_law_row", "_law_width"] []
  F_l_kind : Fun K "_law_kind" "_law_kind" s_l_kind A.f_l_kind A.d_l_kind
  g_l_kind : mg "_law_kind" = some (.ref A.f_l_kind)
  b_l_kind : Binds K A.d_l_kind ["_law_e"] []
  F_l_refusal : Fun K "_law_refusal" "_law_refusal" s_l_refusal A.f_l_refusal A.d_l_refusal
  g_l_refusal : mg "_law_refusal" = some (.ref A.f_l_refusal)
  b_l_refusal : Binds K A.d_l_refusal ["_law_signs", "_law_width"] []
  F_l_longest : Fun K "_law_longest" "_law_longest" s_l_longest A.f_l_longest A.d_l_longest
  g_l_longest : mg "_law_longest" = some (.ref A.f_l_longest)
  b_l_longest : Binds K A.d_l_longest ["_law_parts_here"] []
  F_l_squared : Fun K "_law_squared" "_law_squared" s_l_squared A.f_l_squared A.d_l_squared
  g_l_squared : mg "_law_squared" = some (.ref A.f_l_squared)
  b_l_squared : Binds K A.d_l_squared ["_law_parts_here", "_law_width"] []
  F_law : Fun K "law" "law" s_law A.f_law A.d_law
  g_law : mg "law" = some (.ref A.f_law)
  b_law : Binds K A.d_law ["_law_script"] []
  m_ValueError : mg "ValueError" = none
  m_bool : mg "bool" = none
  m_divmod : mg "divmod" = none
  m_enumerate : mg "enumerate" = none
  m_int : mg "int" = none
  m_isinstance : mg "isinstance" = none
  m_len : mg "len" = none
  m_list : mg "list" = none
  m_max : mg "max" = none
  m_range : mg "range" = none
  m_reversed : mg "reversed" = none
  m_str : mg "str" = none
  m_sum : mg "sum" = none
  m_zip : mg "zip" = none
  gc_WrapError : mg "WrapError" = some (.ref A.c_WrapError)
  gc_NoWidth : mg "NoWidth" = some (.ref A.c_NoWidth)
  gc_LongWord : mg "LongWord" = some (.ref A.c_LongWord)
  gc_NoStarts : mg "NoStarts" = some (.ref A.c_NoStarts)
  gc_TooWide : mg "TooWide" = some (.ref A.c_TooWide)
  gc_TooFew : mg "TooFew" = some (.ref A.c_TooFew)
  gc_TooMany : mg "TooMany" = some (.ref A.c_TooMany)
  gc_NoPlace : mg "NoPlace" = some (.ref A.c_NoPlace)
  gc_NoWord : mg "NoWord" = some (.ref A.c_NoWord)
  gc_Full : mg "Full" = some (.ref A.c_Full)
  gc_NoWayBack : mg "NoWayBack" = some (.ref A.c_NoWayBack)
  hd_WrapError : PySem.W.hasDictIn K A.c_WrapError = true
  ty_WrapError : PySem.W.typeIn K (.ref A.c_WrapError) = some (.type "type")
  hd_NoWidth : PySem.W.hasDictIn K A.c_NoWidth = true
  ty_NoWidth : PySem.W.typeIn K (.ref A.c_NoWidth) = some (.type "type")
  hd_LongWord : PySem.W.hasDictIn K A.c_LongWord = true
  ty_LongWord : PySem.W.typeIn K (.ref A.c_LongWord) = some (.type "type")
  hd_NoStarts : PySem.W.hasDictIn K A.c_NoStarts = true
  ty_NoStarts : PySem.W.typeIn K (.ref A.c_NoStarts) = some (.type "type")
  hd_TooWide : PySem.W.hasDictIn K A.c_TooWide = true
  ty_TooWide : PySem.W.typeIn K (.ref A.c_TooWide) = some (.type "type")
  hd_TooFew : PySem.W.hasDictIn K A.c_TooFew = true
  ty_TooFew : PySem.W.typeIn K (.ref A.c_TooFew) = some (.type "type")
  hd_TooMany : PySem.W.hasDictIn K A.c_TooMany = true
  ty_TooMany : PySem.W.typeIn K (.ref A.c_TooMany) = some (.type "type")
  hd_NoPlace : PySem.W.hasDictIn K A.c_NoPlace = true
  ty_NoPlace : PySem.W.typeIn K (.ref A.c_NoPlace) = some (.type "type")
  hd_NoWord : PySem.W.hasDictIn K A.c_NoWord = true
  ty_NoWord : PySem.W.typeIn K (.ref A.c_NoWord) = some (.type "type")
  hd_Full : PySem.W.hasDictIn K A.c_Full = true
  ty_Full : PySem.W.typeIn K (.ref A.c_Full) = some (.type "type")
  hd_NoWayBack : PySem.W.hasDictIn K A.c_NoWayBack = true
  ty_NoWayBack : PySem.W.typeIn K (.ref A.c_NoWayBack) = some (.type "type")
  bw : PySem.W.subIn K (.ref A.c_WrapError) (.type "BaseException") = some true
  ex_NoWidth : ExF K A.c_NoWidth
  sv_NoWidth : PySem.W.subIn K (.ref A.c_NoWidth) (.type "ValueError") = some true
  sb_NoWidth_WrapError : PySem.W.subIn K (.ref A.c_NoWidth) (.ref A.c_WrapError) = some true
  sb_NoWidth_NoWidth : PySem.W.subIn K (.ref A.c_NoWidth) (.ref A.c_NoWidth) = some true
  sb_NoWidth_LongWord : PySem.W.subIn K (.ref A.c_NoWidth) (.ref A.c_LongWord) = some false
  ne_NoWidth_LongWord : A.c_NoWidth ≠ A.c_LongWord
  sb_NoWidth_NoStarts : PySem.W.subIn K (.ref A.c_NoWidth) (.ref A.c_NoStarts) = some false
  ne_NoWidth_NoStarts : A.c_NoWidth ≠ A.c_NoStarts
  sb_NoWidth_TooWide : PySem.W.subIn K (.ref A.c_NoWidth) (.ref A.c_TooWide) = some false
  ne_NoWidth_TooWide : A.c_NoWidth ≠ A.c_TooWide
  sb_NoWidth_TooFew : PySem.W.subIn K (.ref A.c_NoWidth) (.ref A.c_TooFew) = some false
  ne_NoWidth_TooFew : A.c_NoWidth ≠ A.c_TooFew
  sb_NoWidth_TooMany : PySem.W.subIn K (.ref A.c_NoWidth) (.ref A.c_TooMany) = some false
  ne_NoWidth_TooMany : A.c_NoWidth ≠ A.c_TooMany
  sb_NoWidth_NoPlace : PySem.W.subIn K (.ref A.c_NoWidth) (.ref A.c_NoPlace) = some false
  ne_NoWidth_NoPlace : A.c_NoWidth ≠ A.c_NoPlace
  sb_NoWidth_NoWord : PySem.W.subIn K (.ref A.c_NoWidth) (.ref A.c_NoWord) = some false
  ne_NoWidth_NoWord : A.c_NoWidth ≠ A.c_NoWord
  sb_NoWidth_Full : PySem.W.subIn K (.ref A.c_NoWidth) (.ref A.c_Full) = some false
  ne_NoWidth_Full : A.c_NoWidth ≠ A.c_Full
  sb_NoWidth_NoWayBack : PySem.W.subIn K (.ref A.c_NoWidth) (.ref A.c_NoWayBack) = some false
  ne_NoWidth_NoWayBack : A.c_NoWidth ≠ A.c_NoWayBack
  ex_LongWord : ExF K A.c_LongWord
  sv_LongWord : PySem.W.subIn K (.ref A.c_LongWord) (.type "ValueError") = some true
  sb_LongWord_WrapError : PySem.W.subIn K (.ref A.c_LongWord) (.ref A.c_WrapError) = some true
  sb_LongWord_NoWidth : PySem.W.subIn K (.ref A.c_LongWord) (.ref A.c_NoWidth) = some false
  ne_LongWord_NoWidth : A.c_LongWord ≠ A.c_NoWidth
  sb_LongWord_LongWord : PySem.W.subIn K (.ref A.c_LongWord) (.ref A.c_LongWord) = some true
  sb_LongWord_NoStarts : PySem.W.subIn K (.ref A.c_LongWord) (.ref A.c_NoStarts) = some false
  ne_LongWord_NoStarts : A.c_LongWord ≠ A.c_NoStarts
  sb_LongWord_TooWide : PySem.W.subIn K (.ref A.c_LongWord) (.ref A.c_TooWide) = some false
  ne_LongWord_TooWide : A.c_LongWord ≠ A.c_TooWide
  sb_LongWord_TooFew : PySem.W.subIn K (.ref A.c_LongWord) (.ref A.c_TooFew) = some false
  ne_LongWord_TooFew : A.c_LongWord ≠ A.c_TooFew
  sb_LongWord_TooMany : PySem.W.subIn K (.ref A.c_LongWord) (.ref A.c_TooMany) = some false
  ne_LongWord_TooMany : A.c_LongWord ≠ A.c_TooMany
  sb_LongWord_NoPlace : PySem.W.subIn K (.ref A.c_LongWord) (.ref A.c_NoPlace) = some false
  ne_LongWord_NoPlace : A.c_LongWord ≠ A.c_NoPlace
  sb_LongWord_NoWord : PySem.W.subIn K (.ref A.c_LongWord) (.ref A.c_NoWord) = some false
  ne_LongWord_NoWord : A.c_LongWord ≠ A.c_NoWord
  sb_LongWord_Full : PySem.W.subIn K (.ref A.c_LongWord) (.ref A.c_Full) = some false
  ne_LongWord_Full : A.c_LongWord ≠ A.c_Full
  sb_LongWord_NoWayBack : PySem.W.subIn K (.ref A.c_LongWord) (.ref A.c_NoWayBack) = some false
  ne_LongWord_NoWayBack : A.c_LongWord ≠ A.c_NoWayBack
  ex_TooWide : ExF K A.c_TooWide
  sv_TooWide : PySem.W.subIn K (.ref A.c_TooWide) (.type "ValueError") = some true
  sb_TooWide_WrapError : PySem.W.subIn K (.ref A.c_TooWide) (.ref A.c_WrapError) = some true
  sb_TooWide_NoWidth : PySem.W.subIn K (.ref A.c_TooWide) (.ref A.c_NoWidth) = some false
  ne_TooWide_NoWidth : A.c_TooWide ≠ A.c_NoWidth
  sb_TooWide_LongWord : PySem.W.subIn K (.ref A.c_TooWide) (.ref A.c_LongWord) = some false
  ne_TooWide_LongWord : A.c_TooWide ≠ A.c_LongWord
  sb_TooWide_NoStarts : PySem.W.subIn K (.ref A.c_TooWide) (.ref A.c_NoStarts) = some false
  ne_TooWide_NoStarts : A.c_TooWide ≠ A.c_NoStarts
  sb_TooWide_TooWide : PySem.W.subIn K (.ref A.c_TooWide) (.ref A.c_TooWide) = some true
  sb_TooWide_TooFew : PySem.W.subIn K (.ref A.c_TooWide) (.ref A.c_TooFew) = some false
  ne_TooWide_TooFew : A.c_TooWide ≠ A.c_TooFew
  sb_TooWide_TooMany : PySem.W.subIn K (.ref A.c_TooWide) (.ref A.c_TooMany) = some false
  ne_TooWide_TooMany : A.c_TooWide ≠ A.c_TooMany
  sb_TooWide_NoPlace : PySem.W.subIn K (.ref A.c_TooWide) (.ref A.c_NoPlace) = some false
  ne_TooWide_NoPlace : A.c_TooWide ≠ A.c_NoPlace
  sb_TooWide_NoWord : PySem.W.subIn K (.ref A.c_TooWide) (.ref A.c_NoWord) = some false
  ne_TooWide_NoWord : A.c_TooWide ≠ A.c_NoWord
  sb_TooWide_Full : PySem.W.subIn K (.ref A.c_TooWide) (.ref A.c_Full) = some false
  ne_TooWide_Full : A.c_TooWide ≠ A.c_Full
  sb_TooWide_NoWayBack : PySem.W.subIn K (.ref A.c_TooWide) (.ref A.c_NoWayBack) = some false
  ne_TooWide_NoWayBack : A.c_TooWide ≠ A.c_NoWayBack
/-! ### lines -/
def blankS : Str := ⟨#[32]⟩
def lineOf (ws : List Str) (b e : Nat) : Str := Txt.join blankS ((ws.drop b).take (e - b))
def sizeN (ws : List Str) (b e : Nat) : Nat := (lineOf ws b e).length
theorem ev_blk {σ : L2.St} {H : Hp} : Ev (tC (.str (Str.ofString " "))) σ H (.str blankS) := ev_blank
theorem cut_words {ws : List Str} {b e : Nat} (h1 : b ≤ e) (h2 : e ≤ ws.length) : cutV (ws.map V.str) (some (b : Int)) (some (e : Int)) = ((ws.drop b).take (e - b)).map V.str := by
  unfold cutV
  rw [HT.sIx_nat, HT.sIx_nat, List.length_map, Nat.min_eq_left h2, Nat.min_eq_left (by omega), ← List.map_drop, ← List.map_take]
/-- words of so many signs together -/
structure Tot (ws : List Str) : Prop where
  sum : (ws.map fun z => z.length + 1).sum ≤ 80000
theorem Tot.mem {ws : List Str} (h : Tot ws) : ∀ z ∈ ws, z.length ≤ 80000 := fun z hz => by
  have go : ∀ (l : List Str), z ∈ l → z.length + 1 ≤ (l.map fun z => z.length + 1).sum := by
    intro l
    induction l with
    | nil => exact fun q => absurd q (List.not_mem_nil)
    | cons a r ih =>
      intro q
      rw [List.map_cons, List.sum_cons]
      rcases List.mem_cons.mp q with q | q
      · rw [q]; omega
      · have := ih q
        omega
  have := go ws hz
  have := h.sum
  omega
instance {ws : List Str} : CoeFun (Tot ws) (fun _ => ∀ z ∈ ws, z.length ≤ 80000) := ⟨Tot.mem⟩
theorem sub_sum (f : Str → Nat) : ∀ (ws : List Str) (b k : Nat), (((ws.drop b).take k).map f).sum ≤ (ws.map f).sum
  | ws, 0, 0 => by
    rw [List.drop_zero, List.take_zero]
    exact Nat.zero_le _
  | [], b + 1, k => by
    rw [List.drop_nil, List.take_nil]
    exact Nat.le_refl _
  | [], 0, k + 1 => by
    rw [List.drop_nil, List.take_nil]
    exact Nat.le_refl _
  | a :: r, b + 1, k => by
    have := sub_sum f r b k
    rw [List.drop_succ_cons, List.map_cons, List.sum_cons]
    omega
  | a :: r, 0, k + 1 => by
    have := sub_sum f r 0 k
    rw [List.drop_zero] at *
    rw [List.take_succ_cons, List.map_cons, List.sum_cons, List.map_cons, List.sum_cons]
    omega
theorem line_fits {ws : List Str} (hz : Tot ws) (hl : ws.length ≤ 40000) (b e : Nat) : (((ws.drop b).take (e - b)).map (·.length)).sum + ((ws.drop b).take (e - b)).length * blankS.length ≤ 80000 := by
  have h1 := sub_sum (fun z => z.length + 1) ws b (e - b)
  have h2 := hz.sum
  have h3 : ∀ l : List Str, (l.map fun z => z.length + 1).sum = (l.map (·.length)).sum + l.length := by
    intro l
    induction l with
    | nil => rfl
    | cons a r ih =>
      rw [List.map_cons, List.sum_cons, ih, List.map_cons, List.sum_cons, List.length_cons]
      omega
  rw [h3 ((ws.drop b).take (e - b))] at h1
  rw [show blankS.length = 1 from rfl]
  omega
theorem sizeN_le {ws : List Str} (hz : Tot ws) (hl : ws.length ≤ 40000) (b e : Nat) : sizeN ws b e ≤ 1000000 := by
  have h := line_fits hz hl b e
  have h2 := len_join blankS ((ws.drop b).take (e - b))
  unfold sizeN lineOf
  omega
def sp_size (K : PySem.W.Frag) : Sp := fun vs H Q _ => ∃ (p : Addr) (ws : List Str) (b e : Nat), vs = [.ref p, .int b, .int e] ∧ SqL K H p (ws.map V.str) ∧ Tot ws ∧ ws.length ≤ 40000 ∧ b ≤ e ∧ e ≤ ws.length ∧ RetV (.int (sizeN ws b e)) H Q

/-! ### sizes by sums, starts that fit, the quick starts -/
def pre (ws : List Str) (i : Nat) : Nat := ((ws.take i).map fun z => z.length + 1).sum
theorem sum_succ : ∀ l : List Str, (l.map fun z => z.length + 1).sum = (l.map (·.length)).sum + l.length
  | [] => rfl
  | a :: r => by
    rw [List.map_cons, List.sum_cons, sum_succ r, List.map_cons, List.sum_cons, List.length_cons]
    omega
theorem pre_split {ws : List Str} {b e : Nat} (h : b ≤ e) : pre ws e = pre ws b + (((ws.drop b).take (e - b)).map fun z => z.length + 1).sum := by
  unfold pre
  have q : ws.take e = ws.take b ++ (ws.drop b).take (e - b) := by
    have q2 := List.take_add (l := ws) (i := b) (j := e - b)
    rw [show b + (e - b) = e by omega] at q2
    exact q2
  rw [q, List.map_append, List.sum_append]
theorem size_pre {ws : List Str} {b e : Nat} (h : b < e) (he : e ≤ ws.length) : sizeN ws b e + 1 + pre ws b = pre ws e := by
  have h1 := pre_split (ws := ws) (b := b) (e := e) (by omega)
  have h2 := len_join blankS ((ws.drop b).take (e - b))
  have h3 : ¬ (ws.drop b).take (e - b) = [] := fun q => by
    have q2 := congrArg List.length q
    rw [List.length_take, List.length_drop, List.length_nil] at q2
    omega
  rw [if_neg h3, show blankS.length = 1 from rfl, Nat.mul_one] at h2
  rw [sum_succ] at h1
  unfold sizeN lineOf
  omega
theorem pre_mono {ws : List Str} {b e : Nat} (h : b ≤ e) : pre ws b ≤ pre ws e := by
  rw [pre_split h]
  exact Nat.le_add_right _ _
theorem size_mono {ws : List Str} {b e b' e' : Nat} (h : b < e) (hb : b' ≤ b) (he : e ≤ e') (hn : e' ≤ ws.length) : sizeN ws b e ≤ sizeN ws b' e' := by
  have h1 := size_pre h (Nat.le_trans he hn)
  have h2 := size_pre (show b' < e' by omega) hn
  have h3 := pre_mono (ws := ws) hb
  have h4 := pre_mono (ws := ws) he
  omega
theorem pre_succ {ws : List Str} {i : Nat} {z : Str} (h : ws[i]? = some z) : pre ws (i + 1) = pre ws i + z.length + 1 := by
  unfold pre
  rw [List.take_add_one, h, List.map_append, List.sum_append]
  show _ + (z.length + 1 + 0) = _
  omega
theorem size_one {ws : List Str} {i : Nat} {z : Str} (h : ws[i]? = some z) : sizeN ws i (i + 1) = z.length := by
  have hi := (List.getElem?_eq_some_iff.mp h).1
  have h1 := size_pre (ws := ws) (show i < i + 1 by omega) (by omega)
  rw [pre_succ h] at h1
  omega
theorem size_succ {ws : List Str} {b i : Nat} {z : Str} (hb : b < i) (h : ws[i]? = some z) : sizeN ws b (i + 1) = sizeN ws b i + 1 + z.length := by
  have hi := (List.getElem?_eq_some_iff.mp h).1
  have h1 := size_pre (ws := ws) (show b < i + 1 by omega) (by omega)
  have h2 := size_pre (ws := ws) hb (by omega)
  rw [pre_succ h] at h1
  omega
/-- behind the k-th of the starts -/
def ends (S : List Nat) (n : Nat) : List Nat := S.drop 1 ++ [n]
theorem ends_at {S : List Nat} {n k : Nat} (hk : k < S.length) : (ends S n)[k]? = some (if h : k + 1 < S.length then S[k + 1] else n) := by
  unfold ends
  by_cases h : k + 1 < S.length
  · rw [dif_pos h, List.getElem?_append_left (by rw [List.length_drop]; omega), List.getElem?_drop, Nat.add_comm, List.getElem?_eq_getElem h]
  · rw [dif_neg h, List.getElem?_append_right (by rw [List.length_drop]; omega), List.length_drop]
    rw [show k - (S.length - 1) = 0 by omega] <;> rfl
/-- starts of lines that fit -/
structure FitS (ws : List Str) (w : Int) (S : List Nat) : Prop where
  nil : S = [] → ws = []
  zero : ∀ s : Nat, S[0]? = some s → s = 0
  fit : ∀ (k s e : Nat), S[k]? = some s → (ends S ws.length)[k]? = some e → s < e ∧ e ≤ ws.length ∧ (sizeN ws s e : Int) ≤ w
theorem FitS.next {ws : List Str} {w : Int} {S : List Nat} (f : FitS ws w S) {k : Nat} (hk : k + 1 < S.length) : S[k] < S[k + 1] ∧ S[k + 1] < ws.length ∧ (sizeN ws S[k] S[k + 1] : Int) ≤ w := by
  have h1 := f.fit k S[k] S[k + 1] (List.getElem?_eq_getElem (by omega)) (by rw [ends_at (by omega), dif_pos hk])
  have h2 := f.fit (k + 1) S[k + 1] (if h : k + 1 + 1 < S.length then S[k + 1 + 1] else ws.length) (List.getElem?_eq_getElem hk) (ends_at hk)
  exact ⟨h1.1, by omega, h1.2.2⟩
theorem FitS.last {ws : List Str} {w : Int} {S : List Nat} (f : FitS ws w S) {k : Nat} (hk : k + 1 = S.length) : S[k] < ws.length ∧ (sizeN ws S[k] ws.length : Int) ≤ w := by
  have h1 := f.fit k S[k] ws.length (List.getElem?_eq_getElem (by omega)) (by rw [ends_at (by omega), dif_neg (by omega)])
  exact ⟨h1.1, h1.2.2⟩
/-- each takes as many words as fit -/
def Full (ws : List Str) (w : Int) (S : List Nat) : Prop := ∀ (k : Nat) (h : k + 1 < S.length), w < (sizeN ws S[k] (S[k + 1] + 1) : Int)
theorem full_ahead {ws : List Str} {w : Int} {S O : List Nat} (fs : FitS ws w S) (hS : Full ws w S) (fo : FitS ws w O) : ∀ (k : Nat) (h1 : k < S.length) (h2 : k < O.length), O[k] ≤ S[k]
  | 0, h1, h2 => by
    rw [fs.zero S[0] (List.getElem?_eq_getElem h1), fo.zero O[0] (List.getElem?_eq_getElem h2)]
    exact Nat.le_refl _
  | k + 1, h1, h2 => by
    have ih := full_ahead fs hS fo k (by omega) (by omega)
    have a := fs.next (k := k) h1
    have b := fo.next (k := k) h2
    have c := hS k h1
    refine Nat.le_of_not_lt fun q => ?_
    have m := size_mono (ws := ws) (b := S[k]) (e := S[k + 1] + 1) (b' := O[k]) (e' := O[k + 1]) (by omega) ih (by omega) (by omega)
    omega
theorem full_few {ws : List Str} {w : Int} {S O : List Nat} (fs : FitS ws w S) (hS : Full ws w S) (fo : FitS ws w O) : S.length ≤ O.length := by
  refine Nat.le_of_not_lt fun q => ?_
  rcases Nat.eq_zero_or_pos O.length with h0 | h0
  · have e := fo.nil (List.length_eq_zero_iff.mp h0)
    have a := fs.fit 0 S[0] (if h : 0 + 1 < S.length then S[0 + 1] else ws.length) (List.getElem?_eq_getElem (by omega)) (ends_at (by omega))
    rw [e] at a
    have : ([] : List Str).length = 0 := rfl
    omega
  · obtain ⟨m, hm⟩ : ∃ m, O.length = m + 1 := ⟨O.length - 1, by omega⟩
    have ih := full_ahead fs hS fo m (by omega) (by omega)
    have a := fs.next (k := m) (by omega)
    have b := fo.last (k := m) (by omega)
    have c := hS m (by omega)
    have mo := size_mono (ws := ws) (b := S[m]) (e := S[m + 1] + 1) (b' := O[m]) (e' := ws.length) (by omega) ih (by omega) (Nat.le_refl _)
    omega
/-- the quick starts of the first i words: built from the left -/
structure Part (ws : List Str) (w : Int) (i : Nat) (S : List Nat) : Prop where
  nil : S = [] → i = 0
  zero : ∀ s : Nat, S[0]? = some s → s = 0
  le : i ≤ ws.length
  next : ∀ (k : Nat) (h : k + 1 < S.length), S[k] < S[k + 1] ∧ (sizeN ws S[k] S[k + 1] : Int) ≤ w ∧ w < (sizeN ws S[k] (S[k + 1] + 1) : Int)
  last : ∀ (k : Nat) (h : k + 1 = S.length), S[k] < i ∧ (sizeN ws S[k] i : Int) ≤ w
theorem Part.fit {ws : List Str} {w : Int} {S : List Nat} (p : Part ws w ws.length S) : FitS ws w S ∧ Full ws w S := by
  have below : ∀ d k (h : k + 1 + d = S.length), S[k] < ws.length := by
    intro d
    induction d with
    | zero => exact fun k h => (p.last k h).1
    | succ d ih =>
      intro k h
      have a := (p.next k (by omega)).1
      have b := ih (k + 1) (by omega)
      omega
  refine ⟨⟨fun h => List.length_eq_zero_iff.mp (p.nil h), p.zero, fun k s e hs he => ?_⟩, fun k h => (p.next k h).2.2⟩
  obtain ⟨hk, rfl⟩ := List.getElem?_eq_some_iff.mp hs
  rw [ends_at hk] at he
  by_cases h : k + 1 < S.length
  · rw [dif_pos h] at he
    cases he
    have a := p.next k h
    have b := below (S.length - (k + 2)) (k + 1) (by omega)
    exact ⟨a.1, by omega, a.2.1⟩
  · rw [dif_neg h] at he
    cases he
    have a := p.last k (by omega)
    exact ⟨a.1, Nat.le_refl _, a.2⟩
theorem Part.zero0 {ws : List Str} {w : Int} : Part ws w 0 [] := ⟨fun _ => rfl, fun s h => by simp at h, Nat.zero_le _, fun k h => absurd h (by simp), fun k h => absurd h (by simp)⟩
/-- one more word on the last line -/
theorem Part.more {ws : List Str} {w : Int} {i : Nat} {S : List Nat} (p : Part ws w i S) (hi : i < ws.length) (hS : S ≠ []) (h : ∀ (k : Nat) (hk : k + 1 = S.length), (sizeN ws S[k] (i + 1) : Int) ≤ w) : Part ws w (i + 1) S :=
  ⟨fun q => absurd q hS, p.zero, hi, p.next, fun k hk => ⟨by have := (p.last k hk).1; omega, h k hk⟩⟩
/-- a new line -/
theorem Part.new {ws : List Str} {w : Int} {i : Nat} {S : List Nat} {z : Str} (p : Part ws w i S) (hi : ws[i]? = some z) (hz : (z.length : Int) ≤ w) (h : ∀ (k : Nat) (hk : k + 1 = S.length), w < (sizeN ws S[k] (i + 1) : Int)) : Part ws w (i + 1) (S ++ [i]) := by
  have hil := (List.getElem?_eq_some_iff.mp hi).1
  refine ⟨fun q => by simp at q, fun s hs => ?_, hil, fun k hk => ?_, fun k hk => ?_⟩
  · rcases Nat.eq_zero_or_pos S.length with h0 | h0
    · have e := List.length_eq_zero_iff.mp h0
      rw [e] at hs
      have := p.nil e
      cases hs
      exact this
    · rw [List.getElem?_append_left h0] at hs
      exact p.zero s hs
  · rw [List.length_append, List.length_singleton] at hk
    have e1 : (S ++ [i])[k]'(by rw [List.length_append, List.length_singleton]; omega) = S[k] := List.getElem_append_left (by omega)
    by_cases h2 : k + 1 < S.length
    · have e2 : (S ++ [i])[k + 1]'(by rw [List.length_append, List.length_singleton]; omega) = S[k + 1] := List.getElem_append_left h2
      rw [e1, e2]
      exact p.next k h2
    · have h3 : k + 1 = S.length := by omega
      have e2 : (S ++ [i])[k + 1]'(by rw [List.length_append, List.length_singleton]; omega) = i := by
        rw [List.getElem_append_right (by omega)]
        simp [h3]
      rw [e1, e2]
      have a := p.last k h3
      exact ⟨a.1, a.2, h k h3⟩
  · rw [List.length_append, List.length_singleton] at hk
    have e2 : (S ++ [i])[k]'(by rw [List.length_append, List.length_singleton]; omega) = i := by
      have h3 : k = S.length := by omega
      subst h3
      simp
    rw [e2, size_one hi]
    exact ⟨by omega, hz⟩

/-! ### the least sum -/
def WidB (w : Int) : Prop := w.natAbs < 2 ^ 120
/-- m words from b on are as many as fit -/
structure IsCnt (ws : List Str) (w : Int) (b m : Nat) : Prop where
  le : b + m ≤ ws.length
  fit : ∀ i, i < m → (sizeN ws b (b + 1 + i) : Int) ≤ w
  most : b + m < ws.length → w < (sizeN ws b (b + m + 1) : Int)
theorem IsCnt.uniq {ws : List Str} {w : Int} {b m m' : Nat} (h : IsCnt ws w b m) (h' : IsCnt ws w b m') : m = m' := by
  rcases Nat.lt_trichotomy m m' with q | q | q
  · have a1 := h.most (by have := h'.le; omega)
    have a2 := h'.fit m q
    rw [show b + 1 + m = b + m + 1 by omega] at a2
    omega
  · exact q
  · have a1 := h'.most (by have := h.le; omega)
    have a2 := h.fit m' q
    rw [show b + 1 + m' = b + m' + 1 by omega] at a2
    omega
theorem IsCnt.in_ {ws : List Str} {w : Int} {b m e : Nat} (h : IsCnt ws w b m) (hb : b < e) (he : e ≤ ws.length) (hf : (sizeN ws b e : Int) ≤ w) : e ≤ b + m := by
  refine Nat.le_of_not_lt fun q => ?_
  have a1 := h.most (by omega)
  have a2 := size_mono (ws := ws) (b := b) (e := b + m + 1) (b' := b) (e' := e) (by omega) (Nat.le_refl _) (by omega) he
  omega
theorem IsCnt.out {ws : List Str} {w : Int} {b m e : Nat} (h : IsCnt ws w b m) (hb : b < e) (he : e ≤ b + m) : (sizeN ws b e : Int) ≤ w := by
  have := h.fit (e - b - 1) (by omega)
  rw [show b + 1 + (e - b - 1) = e by omega] at this
  exact this
def sizesL (ws : List Str) (b m : Nat) : List Int := (List.range m).map fun i => (sizeN ws b (b + 1 + i) : Int)
def countsL (ws : List Str) (w : Int) (b m : Nat) : List Int := (List.range m).map fun i => (w - (sizeN ws b (b + 1 + i) : Int)) ^ (2 : Int).toNat
/-- what a line counts -/
def price (ws : List Str) (w : Int) (b e : Nat) : Int := if e = ws.length then 0 else (w - (sizeN ws b e : Int)) ^ (2 : Int).toNat
theorem sq_nn (x : Int) : 0 ≤ x ^ (2 : Int).toNat := by
  show 0 ≤ x ^ 2
  rw [show x ^ 2 = x * x by rw [Int.pow_succ, Int.pow_succ, Int.pow_zero, Int.one_mul]]
  rw [← Int.natAbs_mul_self]
  exact Int.natCast_nonneg _
theorem price_nn (ws : List Str) (w : Int) (b e : Nat) : 0 ≤ price ws w b e := by
  unfold price
  split
  · exact Int.le_refl _
  · exact sq_nn _
/-- the best line of the first i: its sum, its end -/
def bestN (c : Nat → Int) (r : Nat → Option Int) (b : Nat) : Nat → Option (Int × Nat)
  | 0 => none
  | i + 1 => match r (b + 1 + i) with
    | none => bestN c r b i
    | some t => match bestN c r b i with
      | none => some (c i + t, b + 1 + i)
      | some (l, e) => if c i + t ≤ l then some (c i + t, b + 1 + i) else some (l, e)
theorem bestN_none {c : Nat → Int} {r : Nat → Option Int} {b : Nat} : ∀ {i : Nat}, bestN c r b i = none → ∀ j, j < i → r (b + 1 + j) = none
  | 0, _, j, hj => absurd hj (Nat.not_lt_zero _)
  | i + 1, h, j, hj => by
    unfold bestN at h
    cases hr : r (b + 1 + i) with
    | none =>
      rw [hr] at h
      rcases Nat.lt_or_ge j i with q | q
      · exact bestN_none h j q
      · rw [show j = i by omega]
        exact hr
    | some t =>
      rw [hr] at h
      exfalso
      revert h
      cases bestN c r b i with
      | none => exact fun h => nomatch h
      | some p =>
        show (if _ then _ else _) = none → False
        split <;> exact fun h => nomatch h
theorem bestN_some {c : Nat → Int} {r : Nat → Option Int} {b : Nat} : ∀ {i : Nat} {l : Int} {e : Nat}, bestN c r b i = some (l, e) → (∃ j t, j < i ∧ e = b + 1 + j ∧ r e = some t ∧ l = c j + t) ∧
    ∀ j, j < i → ∀ t, r (b + 1 + j) = some t → l ≤ c j + t ∧ (e < b + 1 + j → l < c j + t)
  | 0, _, _, h => nomatch h
  | i + 1, l, e, h => by
    unfold bestN at h
    cases hr : r (b + 1 + i) with
    | none =>
      rw [hr] at h
      obtain ⟨⟨j, t, h1, h2, h3, h4⟩, h5⟩ := bestN_some h
      refine ⟨⟨j, t, by omega, h2, h3, h4⟩, fun j' hj' t' ht' => ?_⟩
      rcases Nat.lt_or_ge j' i with q | q
      · exact h5 j' q t' ht'
      · rw [show j' = i by omega, hr] at ht'
        cases ht'
    | some t =>
      rw [hr] at h
      cases hb : bestN c r b i with
      | none =>
        rw [hb] at h
        cases h
        refine ⟨⟨i, t, Nat.lt_succ_self _, rfl, hr, rfl⟩, fun j' hj' t' ht' => ?_⟩
        rcases Nat.lt_or_ge j' i with q | q
        · rw [bestN_none hb j' q] at ht'
          cases ht'
        · have ej : j' = i := by omega
          subst ej
          rw [hr] at ht'
          cases ht'
          exact ⟨Int.le_refl _, fun q => absurd q (Nat.lt_irrefl _)⟩
      | some p =>
        obtain ⟨l0, e0⟩ := p
        rw [hb] at h
        obtain ⟨⟨j, t0, h1, h2, h3, h4⟩, h5⟩ := bestN_some hb
        by_cases hle : c i + t ≤ l0
        · have h' : some (c i + t, b + 1 + i) = some (l, e) := by
            rw [← h]
            exact (if_pos hle).symm
          cases h'
          refine ⟨⟨i, t, Nat.lt_succ_self _, rfl, hr, rfl⟩, fun j' hj' t' ht' => ?_⟩
          rcases Nat.lt_or_ge j' i with q | q
          · have := (h5 j' q t' ht').1
            exact ⟨by omega, fun q2 => by omega⟩
          · have ej : j' = i := by omega
            subst ej
            rw [hr] at ht'
            cases ht'
            exact ⟨Int.le_refl _, fun q => absurd q (Nat.lt_irrefl _)⟩
        · have h' : some (l0, e0) = some (l, e) := by
            rw [← h]
            exact (if_neg hle).symm
          cases h'
          refine ⟨⟨j, t0, by omega, h2, h3, h4⟩, fun j' hj' t' ht' => ?_⟩
          rcases Nat.lt_or_ge j' i with q | q
          · exact h5 j' q t' ht'
          · have ej : j' = i := by omega
            subst ej
            rw [hr] at ht'
            cases ht'
            exact ⟨by omega, fun _ => by omega⟩
/-- a line from k to e that fits -/
def Fits (ws : List Str) (w : Int) (k e : Nat) : Prop := k < e ∧ e ≤ ws.length ∧ (sizeN ws k e : Int) ≤ w
/-- t is the table from i on -/
structure TabFrom (ws : List Str) (w : Int) (t : Nat → Int) (i : Nat) : Prop where
  last : t ws.length = 0
  nn : ∀ k, i ≤ k → k ≤ ws.length → 0 ≤ t k
  le : ∀ k e, i ≤ k → Fits ws w k e → t k ≤ price ws w k e + t e
  eq : ∀ k, i ≤ k → k < ws.length → ∃ e, Fits ws w k e ∧ t k = price ws w k e + t e
abbrev IsTab (ws : List Str) (w : Int) (t : Nat → Int) : Prop := TabFrom ws w t 0
theorem TabFrom.uniq {ws : List Str} {w : Int} {t t' : Nat → Int} {i : Nat} (h : TabFrom ws w t i) (h' : TabFrom ws w t' i) : ∀ d k, k + d = ws.length → i ≤ k → t k = t' k := by
  intro d
  induction d using Nat.strongRecOn with
  | ind d ih =>
    intro k hk hi
    rcases Nat.eq_zero_or_pos d with h0 | h0
    · rw [show k = ws.length by omega, h.last, h'.last]
    · obtain ⟨e, f, q⟩ := h.eq k hi (by omega)
      obtain ⟨e', f', q'⟩ := h'.eq k hi (by omega)
      have a1 := h.le k e' hi f'
      have a2 := h'.le k e hi f
      have b1 := ih (ws.length - e) (by have := f.1; omega) e (by have := f.2.1; omega) (by have := f.1; omega)
      have b2 := ih (ws.length - e') (by have := f'.1; omega) e' (by have := f'.2.1; omega) (by have := f'.1; omega)
      omega
/-- the first of the best lines: the longest of the least -/
structure IsGoal (ws : List Str) (w : Int) (t : Nat → Int) (k e : Nat) : Prop where
  fit : Fits ws w k e
  eq : t k = price ws w k e + t e
  most : ∀ e', e < e' → Fits ws w k e' → t k < price ws w k e' + t e'
theorem IsGoal.uniq {ws : List Str} {w : Int} {t : Nat → Int} {k e e' : Nat} (h : IsGoal ws w t k e) (h' : IsGoal ws w t k e') : e = e' := by
  rcases Nat.lt_trichotomy e e' with q | q | q
  · have a1 := h.most e' q h'.fit
    have a2 := h'.eq
    omega
  · exact q
  · have a1 := h'.most e q h.fit
    have a2 := h.eq
    omega
/-- what first_line tells of a place -/
structure IsFirst (ws : List Str) (w : Int) (t : Nat → Int) (k : Nat) (l : Int) (e : Nat) : Prop where
  fit : Fits ws w k e
  nn : 0 ≤ l
  eq : l = price ws w k e + t e
  le : ∀ e', Fits ws w k e' → l ≤ price ws w k e' + t e'
  most : ∀ e', e < e' → Fits ws w k e' → l < price ws w k e' + t e'
theorem first_all {ws : List Str} {w : Int} {t : Nat → Int} {k m : Nat} (hc : IsCnt ws w k m) (hk : k < ws.length) (hm : k + m = ws.length) (h0 : t ws.length = 0) (hnn : ∀ e, k < e → e ≤ ws.length → 0 ≤ t e) : IsFirst ws w t k 0 ws.length :=
  ⟨⟨hk, Nat.le_refl _, hc.out hk (by omega)⟩, Int.le_refl _, by rw [h0, price, if_pos rfl] <;> rfl, fun e' f => by have := price_nn ws w k e'; have := hnn e' f.1 f.2.1; omega, fun e' q f => by have := f.2.1; omega⟩
theorem first_best {ws : List Str} {w : Int} {t : Nat → Int} {k m : Nat} (hc : IsCnt ws w k m) (hk : k < ws.length) (hm : k + m ≠ ws.length) (hone : (sizeN ws k (k + 1) : Int) ≤ w) (hnn : ∀ e, k < e → e ≤ ws.length → 0 ≤ t e) :
    ∃ l e, bestN (fun i => (w - (sizeN ws k (k + 1 + i) : Int)) ^ (2 : Int).toNat) (fun e => some (t e)) k m = some (l, e) ∧ IsFirst ws w t k l e := by
  have hle := hc.le
  cases hb : bestN (fun i => (w - (sizeN ws k (k + 1 + i) : Int)) ^ (2 : Int).toNat) (fun e => some (t e)) k m with
  | none =>
    have h1 := hc.in_ (Nat.lt_succ_self k) hk hone
    exact nomatch bestN_none hb 0 (by omega)
  | some p =>
    obtain ⟨l, e⟩ := p
    obtain ⟨⟨j, tt, h1, h2, h3, h4⟩, h5⟩ := bestN_some hb
    cases h3
    subst h2
    have hp : ∀ e', k < e' → e' ≤ k + m → price ws w k e' = (w - (sizeN ws k e' : Int)) ^ (2 : Int).toNat := fun e' _ q => if_neg (by omega)
    refine ⟨l, _, rfl, ⟨by omega, by omega, hc.fit j h1⟩, ?_, ?_, fun e' f => ?_, fun e' q f => ?_⟩
    · have a1 := sq_nn (w - (sizeN ws k (k + 1 + j) : Int))
      have a2 := hnn (k + 1 + j) (by omega) (by omega)
      omega
    · rw [hp _ (by omega) (by omega)]
      exact h4
    · have q := hc.in_ f.1 f.2.1 f.2.2
      have f1 := f.1
      rw [hp e' f1 q]
      have := (h5 (e' - k - 1) (by omega) (t e') (by rw [show k + 1 + (e' - k - 1) = e' by omega])).1
      rw [show k + 1 + (e' - k - 1) = e' by omega] at this
      exact this
    · have q2 := hc.in_ f.1 f.2.1 f.2.2
      have f1 := f.1
      rw [hp e' f1 q2]
      have := (h5 (e' - k - 1) (by omega) (t e') (by rw [show k + 1 + (e' - k - 1) = e' by omega])).2 (by omega)
      rw [show k + 1 + (e' - k - 1) = e' by omega] at this
      exact this
/-- the table's last place alone -/
theorem TabFrom.zero {ws : List Str} {w : Int} : TabFrom ws w (fun _ => 0) ws.length :=
  ⟨rfl, fun _ _ _ => Int.le_refl _, fun k e h f => by have := f.1; have := f.2.1; omega, fun k h h2 => by omega⟩
/-- one place more -/
theorem TabFrom.more {ws : List Str} {w : Int} {t : Nat → Int} {k : Nat} {l : Int} {e : Nat} (h : TabFrom ws w t (k + 1)) (hk : k < ws.length) (f : IsFirst ws w t k l e) : TabFrom ws w (fun j => if j = k then l else t j) k := by
  refine ⟨?_, fun j hj hj2 => ?_, fun j e' hj fe => ?_, fun j hj hj2 => ?_⟩
  · show (if ws.length = k then l else t ws.length) = 0
    rw [if_neg (by omega)]
    exact h.last
  · show 0 ≤ if j = k then l else t j
    split
    · exact f.nn
    · exact h.nn j (by omega) hj2
  · have := fe.1
    show (if j = k then l else t j) ≤ price ws w j e' + (if e' = k then l else t e')
    rw [if_neg (show ¬ e' = k by omega)]
    by_cases q : j = k
    · subst q
      rw [if_pos rfl]
      exact f.le e' fe
    · rw [if_neg q]
      exact h.le j e' (by omega) fe
  · by_cases q : j = k
    · subst q
      refine ⟨e, f.fit, ?_⟩
      have := f.fit.1
      show (if j = j then l else t j) = price ws w j e + (if e = j then l else t e)
      rw [if_pos rfl, if_neg (by omega)]
      exact f.eq
    · obtain ⟨e', fe, he⟩ := h.eq j (by omega) hj2
      refine ⟨e', fe, ?_⟩
      have := fe.1
      show (if j = k then l else t j) = price ws w j e' + (if e' = k then l else t e')
      rw [if_neg q, if_neg (by omega)]
      exact he
def tabL (t : Nat → Int) (n : Nat) : List Int := (List.range (n + 1)).map t
theorem tabL_len (t : Nat → Int) (n : Nat) : (tabL t n).length = n + 1 := by
  unfold tabL
  rw [List.length_map, List.length_range]
theorem tabL_at {t : Nat → Int} {n k : Nat} (h : k ≤ n) : (tabL t n)[k]? = some (t k) := by
  unfold tabL
  rw [List.getElem?_map, List.getElem?_range (by omega)] <;> rfl
theorem tab_at {t : Nat → Int} {n k : Nat} (h : k ≤ n) : ((tabL t n).map V.int)[k]? = some (.int (t k)) := by
  rw [List.getElem?_map, tabL_at h] <;> rfl
theorem tabL_congr {t t' : Nat → Int} {n : Nat} (h : ∀ k, k ≤ n → t k = t' k) : tabL t n = tabL t' n := by
  unfold tabL
  exact List.map_congr_left fun k hk => h k (by have := List.mem_range.mp hk; omega)
theorem tab_uniq {ws : List Str} {w : Int} {t t' : Nat → Int} (h : IsTab ws w t) (h' : IsTab ws w t') : ∀ k, k ≤ ws.length → t k = t' k := fun k hk => h.uniq h' (ws.length - k) k (by omega) (Nat.zero_le _)
/-- from a to b, by lines that G allows, begun at S -/
inductive WalkTo (G : Nat → Nat → Prop) : Nat → List Nat → Nat → Prop
  | nil (a : Nat) : WalkTo G a [] a
  | cons {a e b : Nat} {S : List Nat} : G a e → WalkTo G e S b → WalkTo G a (a :: S) b
theorem WalkTo.snoc {G : Nat → Nat → Prop} {a b e : Nat} {S : List Nat} (h : WalkTo G a S b) (g : G b e) : WalkTo G a (S ++ [b]) e := by
  induction h with
  | nil a => exact .cons g (.nil _)
  | cons g1 _ ih => exact .cons g1 (ih g)
theorem WalkTo.uniq {G : Nat → Nat → Prop} (hu : ∀ a e e', G a e → G a e' → e = e') (hlt : ∀ a e, G a e → a < e) {b : Nat} {S S' : List Nat} {a : Nat} (h : WalkTo G a S b) : WalkTo G a S' b → S = S' := by
  have up : ∀ {x y : Nat} {T : List Nat}, WalkTo G x T y → x ≤ y := fun hw => by
    induction hw with
    | nil => exact Nat.le_refl _
    | cons g _ ih =>
      have := hlt _ _ g
      omega
  induction h generalizing S' with
  | nil a =>
    intro h'
    cases h' with
    | nil => rfl
    | cons g hw =>
      have := hlt _ _ g
      have := up hw
      omega
  | cons g hw ih =>
    intro h'
    cases h' with
    | nil =>
      have := hlt _ _ g
      have := up hw
      omega
    | cons g' hw' =>
      have e1 := hu _ _ _ g g'
      subst e1
      rw [ih hw']
theorem IsFirst.goal {ws : List Str} {w : Int} {t : Nat → Int} {k : Nat} {l : Int} {e : Nat} (h : IsFirst ws w t k l e) (ht : IsTab ws w t) : IsGoal ws w t k e := by
  have hk : k < ws.length := Nat.lt_of_lt_of_le h.fit.1 h.fit.2.1
  obtain ⟨e', f', q'⟩ := ht.eq k (Nat.zero_le _) hk
  have a1 := ht.le k e (Nat.zero_le _) h.fit
  have a2 := h.le e' f'
  have a3 := h.eq
  refine ⟨h.fit, by omega, fun e2 q f => ?_⟩
  have := h.most e2 q f
  omega
/-- the starts that the table leads to -/
abbrev BestW (ws : List Str) (w : Int) (t : Nat → Int) (S : List Nat) : Prop := WalkTo (IsGoal ws w t) 0 S ws.length
theorem goal_uniq {ws : List Str} {w : Int} {t : Nat → Int} {S S' : List Nat} (h : BestW ws w t S) (h' : BestW ws w t S') : S = S' := h.uniq (fun _ _ _ a b => a.uniq b) (fun _ _ a => a.fit.1) h'
theorem walk_len {G : Nat → Nat → Prop} (hlt : ∀ a e, G a e → a < e) {a b : Nat} {S : List Nat} (h : WalkTo G a S b) : a + S.length ≤ b := by
  induction h with
  | nil => exact Nat.le_refl _
  | cons g _ ih =>
    have := hlt _ _ g
    rw [List.length_cons]
    omega
def tabZ (t : Nat → Int) (n j : Nat) : List Int := (List.range (n + 1)).map fun k => if j ≤ k then t k else 0
theorem tabZ_len (t : Nat → Int) (n j : Nat) : (tabZ t n j).length = n + 1 := by
  unfold tabZ
  rw [List.length_map, List.length_range]
theorem tabZ_at {t : Nat → Int} {n j k : Nat} (h : k ≤ n) (hj : j ≤ k) : (tabZ t n j)[k]? = some (t k) := by
  unfold tabZ
  rw [List.getElem?_map, List.getElem?_range (by omega)]
  show some (if j ≤ k then t k else 0) = _
  rw [if_pos hj]
theorem tabZ_zero (t : Nat → Int) (n : Nat) : tabZ t n 0 = tabL t n := by
  unfold tabZ tabL
  exact List.map_congr_left fun k _ => if_pos (Nat.zero_le _)
theorem tabZ_start (n : Nat) : (List.replicate ((n : Int) + 1).toNat [V.int 0]).flatten = (tabZ (fun _ => 0) n n).map V.int := by
  rw [show ((n : Int) + 1).toNat = n + 1 by omega]
  unfold tabZ
  rw [List.map_map]
  refine List.ext_getElem? fun j => ?_
  have hl : (List.replicate (n + 1) [V.int 0]).flatten = List.replicate (n + 1) (V.int 0) := by
    induction n + 1 with
    | zero => rfl
    | succ m ih => rw [List.replicate_succ, List.flatten_cons, ih] <;> rfl
  rw [hl, List.getElem?_map, List.getElem?_replicate]
  by_cases hj : j < n + 1
  · rw [if_pos hj, List.getElem?_range hj]
    show some (V.int 0) = some (V.int (if n ≤ j then 0 else 0))
    split <;> rfl
  · rw [if_neg hj, List.getElem?_eq_none (by rw [List.length_range]; omega)] <;> rfl
theorem tabZ_set {t : Nat → Int} {n k : Nat} {l : Int} (hk : k < n) : ((tabZ t n (k + 1)).map V.int).set k (.int l) = (tabZ (fun j => if j = k then l else t j) n k).map V.int := by
  refine List.ext_getElem? fun j => ?_
  rw [List.getElem?_set, List.length_map, tabZ_len]
  by_cases hj : k = j
  · subst hj
    rw [if_pos rfl, if_pos (by omega), List.getElem?_map, tabZ_at (by omega) (Nat.le_refl _)]
    show some (V.int l) = some (V.int (if k = k then l else t k))
    rw [if_pos rfl]
  · rw [if_neg hj, List.getElem?_map, List.getElem?_map]
    unfold tabZ
    rw [List.getElem?_map, List.getElem?_map]
    by_cases h2 : j < n + 1
    · rw [List.getElem?_range h2]
      show some (V.int (if k + 1 ≤ j then t j else 0)) = some (V.int (if k ≤ j then (if j = k then l else t j) else 0))
      rw [if_neg (show ¬ j = k by omega)]
      by_cases h3 : k ≤ j
      · rw [if_pos h3, if_pos (by omega)]
      · rw [if_neg h3, if_neg (by omega)]
    · rw [List.getElem?_eq_none (by rw [List.length_range]; omega)] <;> rfl

/-! ### walks -/
/-- the place behind the first line -/
def nextOf (S : List Nat) (n : Nat) : Nat := (S ++ [n]).getD 0 0
theorem ends_cons (a : Nat) (S : List Nat) (n : Nat) : ends (a :: S) n = S ++ [n] := rfl
theorem ends_shift (a : Nat) (S : List Nat) (n k : Nat) (hk : k < S.length) : (ends (a :: S) n).getD (k + 1) 0 = (ends S n).getD k 0 := by
  rw [ends_cons]
  match S, hk with
  | b :: r, _ => rfl
theorem walk_next {G : Nat → Nat → Prop} {e n : Nat} {S : List Nat} (h : WalkTo G e S n) : nextOf S n = e := by
  cases h with
  | nil => rfl
  | cons _ _ => rfl
theorem WalkTo.mono {G G' : Nat → Nat → Prop} (hg : ∀ a e, G a e → G' a e) {a b : Nat} {S : List Nat} (h : WalkTo G a S b) : WalkTo G' a S b := by
  induction h with
  | nil => exact .nil _
  | cons g _ ih => exact .cons (hg _ _ g) ih
/-- starts that fit, as a walk -/
theorem walk_of_fit {ws : List Str} {w : Int} : ∀ {S : List Nat} {a : Nat}, (S = [] → a = ws.length) → (∀ s, S[0]? = some s → s = a) → (∀ (k s e : Nat), S[k]? = some s → (ends S ws.length)[k]? = some e → Fits ws w s e) → WalkTo (Fits ws w) a S ws.length
  | [], a, h1, _, _ => by
    rw [h1 rfl]
    exact .nil _
  | b :: S, a, _, h2, h3 => by
    have hb := h2 b rfl
    subst hb
    have hf := h3 0 b (nextOf S ws.length) rfl (by
      rw [ends_cons]
      cases S <;> rfl)
    refine .cons hf (walk_of_fit (fun q => ?_) (fun s hs => ?_) fun k s e hs he => ?_)
    · rw [q] <;> rfl
    · cases S with
      | nil => cases hs
      | cons c r =>
        cases hs
        rfl
    · refine h3 (k + 1) s e hs ?_
      rw [ends_cons]
      cases S with
      | nil => cases hs
      | cons c r => exact he
theorem FitS.walk {ws : List Str} {w : Int} {S : List Nat} (f : FitS ws w S) : WalkTo (Fits ws w) 0 S ws.length :=
  walk_of_fit (fun q => by rw [f.nil q] <;> rfl) f.zero fun k s e h1 h2 => f.fit k s e h1 h2
theorem walk_fitS {ws : List Str} {w : Int} {S : List Nat} (h : WalkTo (Fits ws w) 0 S ws.length) : FitS ws w S := by
  have go : ∀ {a n : Nat} {S : List Nat}, WalkTo (Fits ws w) a S n → n = ws.length → ∀ (k s e : Nat), S[k]? = some s → (ends S n)[k]? = some e → s < e ∧ e ≤ ws.length ∧ (sizeN ws s e : Int) ≤ w := fun hw => by
    induction hw with
    | nil => exact fun _ k s e hs => by simp at hs
    | cons g hw ih =>
      rename_i a e0 b S'
      intro hn k s e hs he
      rw [ends_cons] at he
      cases k with
      | zero =>
        cases hs
        have : e = e0 := by
          cases hw with
          | nil =>
            cases he
            rfl
          | cons _ _ =>
            cases he
            rfl
        subst this
        exact g
      | succ k =>
        refine ih hn k s e hs ?_
        cases hw with
        | nil => cases hs
        | cons _ _ => exact he
  refine ⟨fun q => ?_, fun s hs => ?_, fun k s e hs he => go h rfl k s e hs he⟩
  · rw [q] at h
    generalize hn : ws.length = n at h
    cases h
    exact List.length_eq_zero_iff.mp hn
  · revert hs
    generalize hn : ws.length = n at h
    cases h with
    | nil =>
      intro hs
      simp at hs
    | cons _ _ =>
      intro hs
      cases hs
      rfl

/-! ### the paragraphs of a text: by rows, and sign by sign -/
def rowstep (s : List (List Str) × Bool) (w : List Str) : List (List Str) × Bool := if w = [] then (s.1, false) else if s.2 = true then (s.1.dropLast ++ [s.1.getLastD [] ++ w], true) else (s.1 ++ [w], true)
def paras (z : Str) : List (List Str) := ((Txt.split z lfS).foldl (fun s y => rowstep s (Txt.words y)) ([], false)).1
structure LSt where
  p : List (List Str)
  h : Str
  w : Bool
  r : Bool
def lstep1 (s : LSt) (c : Nat) : LSt :=
  if Unicode.isSpace c = false then ⟨if s.h.length = 0 ∧ s.r = false then s.p ++ [[]] else s.p, s.h ++ ⟨#[c]⟩, true, true⟩
  else if s.h.length = 0 then s else ⟨s.p.dropLast ++ [s.p.getLastD [] ++ [s.h]], Str.empty, s.w, s.r⟩
def lstep (s : LSt) (c : Nat) : LSt := if c = 10 then ⟨(lstep1 s c).p, (lstep1 s c).h, false, if (lstep1 s c).w = true then (lstep1 s c).r else false⟩ else lstep1 s c
theorem getLastD_snoc {α : Type} (l : List α) (x d : α) : (l ++ [x]).getLastD d = x := by
  rw [List.getLastD_eq_getLast?, List.getLast?_concat] <;> rfl
theorem snoc_last {α : Type} {l : List α} (h : l ≠ []) (d : α) : l.dropLast ++ [l.getLastD d] = l := by
  obtain ⟨r, x, rfl⟩ : ∃ r x, l = r ++ [x] := ⟨_, _, (List.dropLast_concat_getLast h).symm⟩
  rw [getLastD_snoc, List.dropLast_concat]
/-- within a row: the words so far, the run -/
def mid (p : List (List Str)) (r : Bool) (st : KWd.St) : LSt :=
  if st.1 = [] ∧ st.2.length = 0 then ⟨p, Str.empty, false, r⟩
  else ⟨(if r = true then p.dropLast else p) ++ [(if r = true then p.getLastD [] else []) ++ st.1], st.2, true, true⟩
theorem mid_step {p : List (List Str)} {r : Bool} (hp : r = true → p ≠ []) (st : KWd.St) {c : Nat} (hc : c ≠ 10) : lstep (mid p r st) c = mid p r (KWd.step st c) := by
  obtain ⟨ws, u⟩ := st
  rw [lstep, if_neg hc]
  by_cases hs : Unicode.isSpace c = false
  · have e1 : KWd.step (ws, u) c = (ws, u ++ ⟨#[c]⟩) := if_neg (by rw [hs]; exact Bool.false_ne_true)
    have hl : ¬ (u ++ (⟨#[c]⟩ : Str)).length = 0 := by
      rw [len_app]
      show ¬ u.length + 1 = 0
      omega
    rw [e1, lstep1, if_pos hs]
    have e2 : mid p r (ws, u ++ ⟨#[c]⟩) = ⟨(if r = true then p.dropLast else p) ++ [(if r = true then p.getLastD [] else []) ++ ws], u ++ ⟨#[c]⟩, true, true⟩ := if_neg fun q => hl q.2
    rw [e2]
    by_cases h0 : ws = [] ∧ u.length = 0
    · have e3 : mid p r (ws, u) = ⟨p, Str.empty, false, r⟩ := if_pos h0
      rw [e3, h0.1, KWd.len0 h0.2]
      cases r with
      | true =>
        rw [if_neg (by simp), if_pos rfl, if_pos rfl, List.append_nil, snoc_last (hp rfl)]
      | false => simp [Str.empty, Str.length]
    · have e3 : mid p r (ws, u) = ⟨(if r = true then p.dropLast else p) ++ [(if r = true then p.getLastD [] else []) ++ ws], u, true, true⟩ := if_neg h0
      rw [e3, if_neg (by simp)]
  · have hs' : Unicode.isSpace c = true := by cases e : Unicode.isSpace c <;> simp_all
    rw [lstep1, if_neg hs]
    by_cases hu : u.length = 0
    · have e1 : KWd.step (ws, u) c = (ws, u) := (if_pos hs').trans (if_pos hu)
      rw [e1]
      by_cases h0 : ws = [] ∧ u.length = 0
      · have e3 : mid p r (ws, u) = ⟨p, Str.empty, false, r⟩ := if_pos h0
        rw [e3, if_pos (show Str.empty.length = 0 from rfl)]
      · have e3 : mid p r (ws, u) = ⟨(if r = true then p.dropLast else p) ++ [(if r = true then p.getLastD [] else []) ++ ws], u, true, true⟩ := if_neg h0
        rw [e3, if_pos hu]
    · have e1 : KWd.step (ws, u) c = (ws ++ [u], Str.empty) := (if_pos hs').trans (if_neg hu)
      have e3 : mid p r (ws, u) = ⟨(if r = true then p.dropLast else p) ++ [(if r = true then p.getLastD [] else []) ++ ws], u, true, true⟩ := if_neg fun q => hu q.2
      have e4 : mid p r (ws ++ [u], Str.empty) = ⟨(if r = true then p.dropLast else p) ++ [(if r = true then p.getLastD [] else []) ++ (ws ++ [u])], Str.empty, true, true⟩ := if_neg fun q => by simp at q
      rw [e1, e3, e4, if_neg hu, getLastD_snoc, List.dropLast_concat, List.append_assoc]
theorem mid_fold {p : List (List Str)} {r : Bool} (hp : r = true → p ≠ []) : ∀ (l : List Nat) (st : KWd.St), 10 ∉ l → l.foldl lstep (mid p r st) = mid p r (l.foldl KWd.step st)
  | [], _, _ => rfl
  | c :: l, st, h => by
    have h1 : c ≠ 10 := fun e => h (by rw [e]; exact List.mem_cons_self ..)
    rw [List.foldl_cons, List.foldl_cons, mid_step hp st h1, mid_fold hp l _ fun q => h (List.mem_cons_of_mem _ q)]
theorem mid_end {p : List (List Str)} {r : Bool} (st : KWd.St) : lstep (mid p r st) 10 = ⟨(rowstep (p, r) (KWd.fin st)).1, Str.empty, false, (rowstep (p, r) (KWd.fin st)).2⟩ := by
  obtain ⟨ws, u⟩ := st
  have h10 : ¬ Unicode.isSpace 10 = false := by rw [space_10]; decide
  rw [lstep, if_pos rfl, lstep1, if_neg h10]
  by_cases hu : u.length = 0
  · have ef : KWd.fin (ws, u) = ws := if_pos hu
    rw [ef]
    by_cases h0 : ws = []
    · have e3 : mid p r (ws, u) = ⟨p, Str.empty, false, r⟩ := if_pos ⟨h0, hu⟩
      rw [e3, h0, if_pos (show Str.empty.length = 0 from rfl), rowstep, if_pos rfl] <;> rfl
    · have e3 : mid p r (ws, u) = ⟨(if r = true then p.dropLast else p) ++ [(if r = true then p.getLastD [] else []) ++ ws], u, true, true⟩ := if_neg fun q => h0 q.1
      rw [e3, if_pos hu, rowstep, if_neg h0, KWd.len0 hu]
      cases r with
      | true => rw [if_pos rfl] <;> rfl
      | false => rw [if_neg (by simp)] <;> rfl
  · have ef : KWd.fin (ws, u) = ws ++ [u] := if_neg hu
    have e3 : mid p r (ws, u) = ⟨(if r = true then p.dropLast else p) ++ [(if r = true then p.getLastD [] else []) ++ ws], u, true, true⟩ := if_neg fun q => hu q.2
    have hw : ¬ (ws ++ [u] = []) := by simp
    rw [ef, e3, if_neg hu]
    cases r with
    | true =>
      have e5 : rowstep (p, true) (ws ++ [u]) = (p.dropLast ++ [p.getLastD [] ++ (ws ++ [u])], true) := (if_neg hw).trans (if_pos rfl)
      rw [e5]
      simp only [getLastD_snoc, List.dropLast_concat, List.append_assoc, if_true]
    | false =>
      have e5 : rowstep (p, false) (ws ++ [u]) = (p ++ [ws ++ [u]], true) := (if_neg hw).trans (if_neg (by simp))
      rw [e5]
      simp only [getLastD_snoc, List.dropLast_concat, List.append_assoc, List.nil_append, if_true, Bool.false_eq_true, if_false]
theorem rowstep_ne {s : List (List Str) × Bool} {w : List Str} : (rowstep s w).2 = true → (rowstep s w).1 ≠ [] := by
  unfold rowstep
  split
  · intro h; cases h
  · split <;> (intro _; simp)
/-- sign by sign over l and a line end, acc already read since the last one -/
theorem rows_fold : ∀ (l acc : List Nat) (p : List (List Str)) (r : Bool), (r = true → p ≠ []) → 10 ∉ acc →
    (l ++ [10]).foldl lstep (acc.foldl lstep ⟨p, Str.empty, false, r⟩) =
      (let e := (TL.spl [10] 0 acc l).foldl (fun s y => rowstep s (KWd.fin (y.foldl KWd.step ([], Str.empty)))) (p, r); ⟨e.1, Str.empty, false, e.2⟩)
  | [], acc, p, r, hp, ha => by
    have e0 : (⟨p, Str.empty, false, r⟩ : LSt) = mid p r ([], Str.empty) := (if_pos ⟨rfl, rfl⟩).symm
    rw [TL.spl_nil, List.nil_append, e0, mid_fold hp acc _ ha]
    exact mid_end _
  | c :: l, acc, p, r, hp, ha => by
    by_cases hc : c = 10
    · have e0 : (⟨p, Str.empty, false, r⟩ : LSt) = mid p r ([], Str.empty) := (if_pos ⟨rfl, rfl⟩).symm
      have hh : TL.pre [10] (c :: l) = true := by rw [hc]; rfl
      rw [TL.spl_hit hh, List.cons_append, List.foldl_cons, e0, mid_fold hp acc _ ha, hc, mid_end]
      have ih := rows_fold l [] (rowstep (p, r) (KWd.fin (acc.foldl KWd.step ([], Str.empty)))).1 (rowstep (p, r) (KWd.fin (acc.foldl KWd.step ([], Str.empty)))).2 rowstep_ne (by simp)
      exact ih
    · have hh : TL.pre [10] (c :: l) = false := by
        show (([c] : List Nat) == [10]) = false
        rw [beq_eq_false_iff_ne]
        exact fun q => hc (List.cons.inj q).1
      rw [TL.spl_miss hh, List.cons_append, List.foldl_cons]
      have ih := rows_fold l (acc ++ [c]) p r hp (fun q => by
        rcases List.mem_append.mp q with q | q
        · exact ha q
        · exact hc (List.mem_singleton.mp q).symm)
      have e6 : (acc ++ [c]).foldl lstep ⟨p, Str.empty, false, r⟩ = lstep (acc.foldl lstep ⟨p, Str.empty, false, r⟩) c := by
        rw [List.foldl_append] <;> rfl
      rw [e6] at ih
      exact ih
theorem paras_signs (z : Str) : ((TL.tl z ++ [10]).foldl lstep ⟨[], Str.empty, false, false⟩).p = paras z := by
  have h := rows_fold (TL.tl z) [] [] false (fun q => by cases q) (by simp)
  have h2 : (TL.tl z ++ [10]).foldl lstep ⟨[], Str.empty, false, false⟩ = _ := h
  rw [h2, ← split_rows, List.foldl_map]
  unfold paras
  show (List.foldl (fun s y => rowstep s (KWd.fin ((TL.tl y).foldl KWd.step ([], Str.empty)))) ([], false) (Txt.split z lfS)).1 = _
  congr 1
  congr 1
  funext s y
  rw [KWd.words_scan] <;> rfl

/-! ### words, paragraphs and texts of rows -/
def Wz (z : Str) : Prop := z.length ≠ 0 ∧ ∀ c ∈ TL.tl z, Ws c
theorem Wz.lt {z : Str} (h : Wz z) : ∀ c ∈ TL.tl z, c < 1114112 := fun c hc => by
  have := (h.2 c hc).2
  omega
theorem step_tot (st : KWd.St) (c : Nat) : ((KWd.step st c).1.map fun z => z.length + 1).sum + (KWd.step st c).2.length ≤ (st.1.map fun z => z.length + 1).sum + st.2.length + 1 := by
  obtain ⟨ws, u⟩ := st
  unfold KWd.step
  split
  · split
    · exact Nat.le_succ _
    · simp only [List.map_append, List.map_cons, List.map_nil, List.sum_append, List.sum_cons, List.sum_nil]
      show _ + (u.length + 1 + 0) + 0 ≤ _
      omega
  · simp only [len_app]
    show _ + (u.length + 1) ≤ _
    omega
theorem fold_tot : ∀ (l : List Nat) (st : KWd.St), ((l.foldl KWd.step st).1.map fun z => z.length + 1).sum + (l.foldl KWd.step st).2.length ≤ (st.1.map fun z => z.length + 1).sum + st.2.length + l.length
  | [], _ => Nat.le_refl _
  | c :: l, st => by
    have h1 := fold_tot l (KWd.step st c)
    have h2 := step_tot st c
    rw [List.foldl_cons, List.length_cons]
    omega
theorem words_tot (y : Str) : ((Txt.words y).map fun z => z.length + 1).sum ≤ y.length + 1 := by
  have h := fold_tot (TL.tl y) ([], Str.empty)
  rw [← TL.len_tl] at h
  have e0 : ((([] : List Str), Str.empty).1.map fun z => z.length + 1).sum + (([] : List Str), Str.empty).2.length = 0 := rfl
  rw [e0] at h
  rw [KWd.words_scan]
  unfold KWd.fin KWd.scan
  revert h
  show _ → ((if (List.foldl KWd.step ([], Str.empty) (TL.tl y)).2.length = 0 then _ else _ : List Str).map _).sum ≤ _
  generalize (TL.tl y).foldl KWd.step ([], Str.empty) = st
  intro h
  split
  · omega
  · rw [List.map_append, List.sum_append]
    show _ + (st.2.length + 1 + 0) ≤ _
    omega
/-! ### the words of a text are those of its paragraphs -/
theorem step_pre (X : List Str) (st : KWd.St) (c : Nat) : KWd.step (X ++ st.1, st.2) c = (X ++ (KWd.step st c).1, (KWd.step st c).2) := by
  obtain ⟨ws, u⟩ := st
  unfold KWd.step
  split
  · split
    · rfl
    · simp only [List.append_assoc]
  · rfl
theorem fold_pre (X : List Str) : ∀ (l : List Nat) (st : KWd.St), l.foldl KWd.step (X ++ st.1, st.2) = (X ++ (l.foldl KWd.step st).1, (l.foldl KWd.step st).2)
  | [], _ => rfl
  | c :: l, st => by
    rw [List.foldl_cons, step_pre, List.foldl_cons]
    exact fold_pre X l (KWd.step st c)
theorem fin_pre (X : List Str) (st : KWd.St) : KWd.fin (X ++ st.1, st.2) = X ++ KWd.fin st := by
  unfold KWd.fin
  split
  · rfl
  · simp only [List.append_assoc]
theorem step_lf (st : KWd.St) : KWd.step st 10 = (KWd.fin st, Str.empty) := by
  obtain ⟨ws, u⟩ := st
  unfold KWd.step KWd.fin
  rw [if_pos space_10]
  by_cases h : u.length = 0
  · rw [if_pos h, if_pos h, KWd.len0 h]
  · rw [if_neg h, if_neg h]
theorem spl_words : ∀ (l acc : List Nat), ((TL.spl [10] 0 acc l).map fun r => KWd.fin (r.foldl KWd.step ([], Str.empty))).flatten = KWd.fin ((acc ++ l).foldl KWd.step ([], Str.empty))
  | [], acc => by
    rw [TL.spl_nil, List.append_nil, List.map_cons, List.map_nil, List.flatten_cons, List.flatten_nil, List.append_nil]
  | c :: l, acc => by
    by_cases hc : c = 10
    · have eh : TL.spl [10] 0 acc (c :: l) = acc :: TL.spl [10] 0 [] l := TL.spl_hit (by rw [hc]; rfl)
      rw [eh, List.map_cons, List.flatten_cons, spl_words l [], List.nil_append, List.foldl_append, List.foldl_cons, hc, step_lf]
      have h := fold_pre (KWd.fin (acc.foldl KWd.step ([], Str.empty))) l ([], Str.empty)
      rw [List.append_nil] at h
      rw [h, fin_pre]
    · rw [TL.spl_miss (by
        show (([c] : List Nat) == [10]) = false
        rw [beq_eq_false_iff_ne]
        exact fun q => hc (List.cons.inj q).1), spl_words l (acc ++ [c]), List.append_assoc] <;> rfl
theorem rowstep_flat (s : List (List Str) × Bool) (w : List Str) (h : s.2 = true → s.1 ≠ []) : (rowstep s w).1.flatten = s.1.flatten ++ w := by
  unfold rowstep
  split
  · rename_i q
    rw [q, List.append_nil]
  · split
    · rename_i h1 h2
      have e := congrArg List.flatten (snoc_last (h h2) ([] : List Str))
      rw [List.flatten_append, List.flatten_cons, List.flatten_nil, List.append_nil] at e
      rw [List.flatten_append, List.flatten_cons, List.flatten_nil, List.append_nil, ← List.append_assoc, e]
    · rw [List.flatten_append, List.flatten_cons, List.flatten_nil, List.append_nil]
theorem rows_flat : ∀ (rows : List (List Str)) (s : List (List Str) × Bool), (s.2 = true → s.1 ≠ []) → (rows.foldl rowstep s).1.flatten = s.1.flatten ++ rows.flatten
  | [], s, _ => by rw [List.flatten_nil, List.append_nil] <;> rfl
  | w :: rows, s, h => by
    rw [List.foldl_cons, rows_flat rows (rowstep s w) rowstep_ne, rowstep_flat s w h, List.flatten_cons, List.append_assoc]
theorem paras_fold (y : Str) : paras y = (((Txt.split y lfS).map Txt.words).foldl rowstep ([], false)).1 := by
  unfold paras
  rw [List.foldl_map]
theorem paras_flat (y : Str) : (paras y).flatten = Txt.words y := by
  rw [paras_fold, rows_flat _ _ (fun q => by cases q), List.flatten_nil, List.nil_append]
  have h := spl_words (TL.tl y) []
  rw [List.nil_append, ← split_rows, List.map_map] at h
  have e1 : ((fun r : List Nat => KWd.fin (r.foldl KWd.step ([], Str.empty))) ∘ TL.tl) = Txt.words := by
    funext z
    rw [KWd.words_scan] <;> rfl
  rw [e1] at h
  rw [h, KWd.words_scan] <;> rfl
theorem rows_ne : ∀ (rows : List (List Str)) (s : List (List Str) × Bool), (s.2 = true → s.1 ≠ []) → (∀ p ∈ s.1, p ≠ []) → ∀ p ∈ (rows.foldl rowstep s).1, p ≠ []
  | [], _, _, h => h
  | w :: rows, s, h0, h => by
    rw [List.foldl_cons]
    refine rows_ne rows (rowstep s w) rowstep_ne fun p hp => ?_
    unfold rowstep at hp
    split at hp
    · exact h p hp
    · rename_i hw
      split at hp
      · rcases List.mem_append.mp hp with q | q
        · exact h p (List.dropLast_subset _ q)
        · rw [List.mem_singleton.mp q]
          exact fun q2 => hw (List.append_eq_nil_iff.mp q2).2
      · rcases List.mem_append.mp hp with q | q
        · exact h p q
        · rw [List.mem_singleton.mp q]
          exact hw
theorem paras_ne (y : Str) : ∀ p ∈ paras y, p ≠ [] := by
  rw [paras_fold]
  exact rows_ne _ _ (fun q => by cases q) (fun p hp => absurd hp (List.not_mem_nil))
/-- what is known of a paragraph -/
structure Par (ws : List Str) : Prop where
  ne : ws ≠ []
  wz : ∀ z ∈ ws, Wz z
  tot : Tot ws
theorem Par.lt {ws : List Str} (h : Par ws) : ∀ z ∈ ws, ∀ c ∈ TL.tl z, c < 1114112 := fun z hz => (h.wz z hz).lt
theorem two_len : ∀ {ws : List Str}, (∀ z ∈ ws, Wz z) → 2 * ws.length ≤ (ws.map fun z => z.length + 1).sum
  | [], _ => Nat.le_refl _
  | a :: r, h => by
    have h1 := two_len fun z hz => h z (List.mem_cons_of_mem _ hz)
    have h2 := (h a (List.mem_cons_self ..)).1
    rw [List.map_cons, List.sum_cons, List.length_cons]
    omega
theorem len_of {ws : List Str} (h : ∀ z ∈ ws, Wz z) (ht : Tot ws) : ws.length ≤ 40000 := by
  have := two_len h
  have := ht.sum
  omega
theorem words_wz {y : Str} (h : Txs y) : ∀ z ∈ Txt.words y, Wz z := (words_ok h).2.2
theorem words_T {y : Str} (hl : y.length ≤ 75000) : Tot (Txt.words y) := ⟨by have := words_tot y; omega⟩
theorem sum_flat (f : Str → Nat) : ∀ pss : List (List Str), (pss.flatten.map f).sum = (pss.map fun p => (p.map f).sum).sum
  | [] => rfl
  | p :: r => by
    rw [List.flatten_cons, List.map_append, List.sum_append, sum_flat f r, List.map_cons, List.sum_cons]
theorem paras_tot (y : Str) : ((paras y).map fun p => (p.map fun z => z.length + 1).sum).sum ≤ y.length + 1 := by
  rw [← sum_flat, paras_flat]
  exact words_tot y
theorem mem_sum (f : List Str → Nat) {p : List Str} : ∀ {l : List (List Str)}, p ∈ l → f p ≤ (l.map f).sum
  | [], h => absurd h (List.not_mem_nil)
  | a :: r, h => by
    rw [List.map_cons, List.sum_cons]
    rcases List.mem_cons.mp h with q | q
    · rw [q]; omega
    · have := mem_sum f q
      omega
theorem paras_par {y : Str} (h : Txs y) (hl : y.length ≤ 75000) : ∀ p ∈ paras y, Par p := fun p hp =>
  ⟨paras_ne y p hp, fun z hz => words_wz h z (by rw [← paras_flat]; exact List.mem_flatten.mpr ⟨p, hp, hz⟩), ⟨by
    have h1 := mem_sum (fun p => (p.map fun z => z.length + 1).sum) hp
    have h2 := paras_tot y
    have h3 : (p.map fun z => z.length + 1).sum ≤ ((paras y).map fun p => (p.map fun z => z.length + 1).sum).sum := h1
    omega⟩⟩
theorem len_sum : ∀ {l : List (List Str)} (f : List Str → Nat), (∀ p ∈ l, 2 ≤ f p) → 2 * l.length ≤ (l.map f).sum
  | [], _, _ => Nat.le_refl _
  | a :: r, f, h => by
    have h1 := len_sum (l := r) f fun p hp => h p (List.mem_cons_of_mem _ hp)
    have h2 := h a (List.mem_cons_self ..)
    rw [List.map_cons, List.sum_cons, List.length_cons]
    omega
theorem par_two {p : List Str} (h : Par p) : 2 ≤ (p.map fun z => z.length + 1).sum := by
  have := two_len h.wz
  have := List.length_pos_iff.mpr h.ne
  omega
theorem paras_len {y : Str} (h : Txs y) (hl : y.length ≤ 75000) : 2 * (paras y).length ≤ y.length + 1 := by
  have h1 := len_sum (l := paras y) (fun p => (p.map fun z => z.length + 1).sum) fun p hp => par_two (paras_par h hl p hp)
  have h2 := paras_tot y
  omega
/-! ### rows made of words, read again -/
def lineL (ws : List Str) : List Nat := TL.joinL [32] (ws.map TL.tl)
theorem fold_run (A : List Str) : ∀ (l : List Nat) (u : Str), (∀ c ∈ l, Unicode.isSpace c = false) → ∃ u', l.foldl KWd.step (A, u) = (A, u') ∧ TL.tl u' = TL.tl u ++ l
  | [], u, _ => ⟨u, rfl, by rw [List.append_nil]⟩
  | c :: l, u, h => by
    have e1 : KWd.step (A, u) c = (A, u ++ ⟨#[c]⟩) := if_neg (by rw [h c (List.mem_cons_self ..)]; exact Bool.false_ne_true)
    obtain ⟨u', h1, h2⟩ := fold_run A l (u ++ ⟨#[c]⟩) fun d hd => h d (List.mem_cons_of_mem _ hd)
    refine ⟨u', by rw [List.foldl_cons, e1]; exact h1, ?_⟩
    rw [h2, TL.tl_append, tl_one, List.append_assoc] <;> rfl
theorem fold_word (A : List Str) {z : Str} (h : Wz z) : (TL.tl z).foldl KWd.step (A, Str.empty) = (A, z) := by
  obtain ⟨u, h1, h2⟩ := fold_run A (TL.tl z) Str.empty fun c hc => space_ws c (h.2 c hc)
  rw [h1]
  congr 1
  apply TL.ext_tl
  rw [h2] <;> rfl
theorem step_32 (A : List Str) {z : Str} (h : z.length ≠ 0) : KWd.step (A, z) 32 = (A ++ [z], Str.empty) := by
  unfold KWd.step
  rw [if_pos space_32, if_neg h]
theorem fold_line : ∀ (ws A : List Str), (∀ z ∈ ws, Wz z) → KWd.fin ((lineL ws).foldl KWd.step (A, Str.empty)) = A ++ ws
  | [], A, _ => by
    show KWd.fin (A, Str.empty) = _
    rw [List.append_nil] <;> rfl
  | [z], A, h => by
    have hz := h z (List.mem_cons_self ..)
    show KWd.fin ((TL.tl z).foldl KWd.step (A, Str.empty)) = _
    rw [fold_word A hz]
    exact if_neg hz.1
  | z :: y :: r, A, h => by
    have hz := h z (List.mem_cons_self ..)
    have e : lineL (z :: y :: r) = TL.tl z ++ ([32] ++ lineL (y :: r)) := rfl
    rw [e, List.foldl_append, fold_word A hz, List.foldl_append, List.foldl_cons, List.foldl_nil, step_32 A hz.1, fold_line (y :: r) (A ++ [z]) fun x hx => h x (List.mem_cons_of_mem _ hx), List.append_assoc] <;> rfl
theorem line_no10 {ws : List Str} (h : ∀ z ∈ ws, Wz z) : 10 ∉ lineL ws := fun q => by
  rcases joinL_mem _ _ _ q with q | ⟨p, hp, q⟩
  · exact absurd (List.mem_singleton.mp q) (by decide)
  · obtain ⟨z, hz, rfl⟩ := List.mem_map.mp hp
    have := ((h z hz).2 10 q).1
    omega
theorem fold_row {p : List (List Str)} {r : Bool} (hp : r = true → p ≠ []) {ws : List Str} (h : ∀ z ∈ ws, Wz z) : (lineL ws ++ [10]).foldl lstep ⟨p, Str.empty, false, r⟩ = ⟨(rowstep (p, r) ws).1, Str.empty, false, (rowstep (p, r) ws).2⟩ := by
  have e0 : (⟨p, Str.empty, false, r⟩ : LSt) = mid p r ([], Str.empty) := (if_pos ⟨rfl, rfl⟩).symm
  rw [List.foldl_append, e0, mid_fold hp _ _ (line_no10 h), List.foldl_cons, List.foldl_nil, mid_end, fold_line ws [] h, List.nil_append]
theorem fold_more {p : List (List Str)} : ∀ (Ls : List (List Str)) (B : List Str), (∀ l ∈ Ls, l ≠ [] ∧ ∀ z ∈ l, Wz z) → ((Ls.map fun l => lineL l ++ [10]).flatten).foldl lstep ⟨p ++ [B], Str.empty, false, true⟩ = ⟨p ++ [B ++ Ls.flatten], Str.empty, false, true⟩
  | [], B, _ => by rw [List.flatten_nil, List.append_nil] <;> rfl
  | l :: Ls, B, h => by
    have hl := h l (List.mem_cons_self ..)
    have e : rowstep (p ++ [B], true) l = (p ++ [B ++ l], true) := by
      unfold rowstep
      rw [if_neg hl.1, if_pos rfl, getLastD_snoc, List.dropLast_concat]
    rw [List.map_cons, List.flatten_cons, List.foldl_append, fold_row (fun _ => by simp) hl.2, e, fold_more Ls (B ++ l) fun x hx => h x (List.mem_cons_of_mem _ hx), List.flatten_cons, List.append_assoc]
theorem joinL_flat (s : List Nat) : ∀ (x : List Nat) (xs : List (List Nat)), TL.joinL s (x :: xs) ++ s = ((x :: xs).map fun l => l ++ s).flatten
  | x, [] => by
    show x ++ s = _
    rw [List.map_cons, List.map_nil, List.flatten_cons, List.flatten_nil, List.append_nil]
  | x, y :: r => by
    have ih := joinL_flat s y r
    show (x ++ (s ++ TL.joinL s (y :: r))) ++ s = _
    rw [List.map_cons, List.flatten_cons, ← ih, List.append_assoc, List.append_assoc, List.append_assoc]
/-- the rows of a paragraph, a line end behind each -/
theorem fold_block {p : List (List Str)} {Ls : List (List Str)} (hne : Ls ≠ []) (h : ∀ l ∈ Ls, l ≠ [] ∧ ∀ z ∈ l, Wz z) : (TL.joinL [10] (Ls.map lineL) ++ [10]).foldl lstep ⟨p, Str.empty, false, false⟩ = ⟨p ++ [Ls.flatten], Str.empty, false, true⟩ := by
  match Ls, hne with
  | l :: Ls, _ =>
    have hl := h l (List.mem_cons_self ..)
    have e : rowstep (p, false) l = (p ++ [l], true) := by
      unfold rowstep
      rw [if_neg hl.1, if_neg (by simp)]
    rw [List.map_cons, joinL_flat, List.map_cons, List.flatten_cons, List.foldl_append, fold_row (fun q => by cases q) hl.2, e, List.map_map]
    have hm := fold_more (p := p) Ls l fun x hx => h x (List.mem_cons_of_mem _ hx)
    exact hm
theorem lstep_gap (p : List (List Str)) : lstep ⟨p, Str.empty, false, true⟩ 10 = ⟨p, Str.empty, false, false⟩ := by
  have h := fold_row (p := p) (r := false) (ws := []) (fun q => by cases q) (fun z hz => absurd hz (List.not_mem_nil))
  have h10 : ¬ Unicode.isSpace 10 = false := by rw [space_10]; decide
  rw [lstep, if_pos rfl, lstep1, if_neg h10, if_pos (show Str.empty.length = 0 from rfl)] <;> rfl
theorem fold_text : ∀ (Pp : List (List (List Str))) (p : List (List Str)), (∀ Ls ∈ Pp, Ls ≠ [] ∧ ∀ l ∈ Ls, l ≠ [] ∧ ∀ z ∈ l, Wz z) → ((TL.joinL [10, 10] (Pp.map fun (Ls : List (List Str)) => TL.joinL [10] (Ls.map lineL)) ++ [10]).foldl lstep ⟨p, Str.empty, false, false⟩).p = p ++ Pp.map List.flatten
  | [], p, _ => by
    have h := fold_row (p := p) (r := false) (ws := []) (fun q => by cases q) (fun z hz => absurd hz (List.not_mem_nil))
    show (([] ++ [10] : List Nat).foldl lstep ⟨p, Str.empty, false, false⟩).p = _
    have e : (lineL [] ++ [10] : List Nat) = [] ++ [10] := rfl
    rw [e] at h
    rw [h, List.map_nil, List.append_nil] <;> rfl
  | [Ls], p, h => by
    have hL := h Ls (List.mem_cons_self ..)
    show ((TL.joinL [10] (Ls.map lineL) ++ [10]).foldl lstep ⟨p, Str.empty, false, false⟩).p = _
    rw [fold_block hL.1 hL.2] <;> rfl
  | Ls :: Ms :: r, p, h => by
    have hL := h Ls (List.mem_cons_self ..)
    have ih := fold_text (Ms :: r) (p ++ [Ls.flatten]) fun x hx => h x (List.mem_cons_of_mem _ hx)
    have e : TL.joinL [10, 10] ((Ls :: Ms :: r).map fun (Ls : List (List Str)) => TL.joinL [10] (Ls.map lineL)) ++ [10] = (TL.joinL [10] (Ls.map lineL) ++ [10]) ++ ([10] ++ (TL.joinL [10, 10] ((Ms :: r).map fun (Ls : List (List Str)) => TL.joinL [10] (Ls.map lineL)) ++ [10])) := by
      show (TL.joinL [10] (Ls.map lineL) ++ ([10, 10] ++ TL.joinL [10, 10] ((Ms :: r).map fun (Ls : List (List Str)) => TL.joinL [10] (Ls.map lineL)))) ++ [10] = _
      rw [List.append_assoc, List.append_assoc, List.append_assoc] <;> rfl
    rw [e, List.foldl_append, fold_block hL.1 hL.2, List.foldl_append, List.foldl_cons, List.foldl_nil, lstep_gap, ih, List.append_assoc] <;> rfl
/-! ### a text wrapped -/
def lf2S : Str := ⟨#[10, 10]⟩
def segsN (ws : List Str) (S : List Nat) : List (List Str) := (List.range S.length).map fun i => (ws.drop (S.getD i 0)).take ((ends S ws.length).getD i 0 - S.getD i 0)
def linesN (ws : List Str) (S : List Nat) : List Str := (List.range S.length).map fun i => lineOf ws (S.getD i 0) ((ends S ws.length).getD i 0)
theorem linesN_segs (ws : List Str) (S : List Nat) : linesN ws S = (segsN ws S).map (Txt.join blankS) := by
  unfold linesN segsN
  rw [List.map_map] <;> rfl
theorem segs_cons (ws : List Str) (a : Nat) (S : List Nat) : segsN ws (a :: S) = (ws.drop a).take (nextOf S ws.length - a) :: segsN ws S := by
  unfold segsN
  rw [List.length_cons, List.range_succ_eq_map, List.map_cons, List.map_map]
  congr 1
  refine List.map_congr_left fun k hk => ?_
  have hk' := List.mem_range.mp hk
  show (ws.drop ((a :: S).getD (k + 1) 0)).take ((ends (a :: S) ws.length).getD (k + 1) 0 - (a :: S).getD (k + 1) 0) = _
  rw [ends_shift a S ws.length k hk'] <;> rfl
theorem segs_flat {ws : List Str} {w : Int} {a n : Nat} {S : List Nat} (h : WalkTo (Fits ws w) a S n) : n = ws.length → (segsN ws S).flatten = ws.drop a := by
  induction h with
  | nil a =>
    intro hn
    rw [hn, List.drop_length] <;> rfl
  | cons g hw ih =>
    rename_i a e b S'
    intro hn
    rw [segs_cons, List.flatten_cons, ih hn, ← hn, walk_next hw]
    have := g.1
    have e1 : ws.drop e = (ws.drop a).drop (e - a) := by
      rw [List.drop_drop, show a + (e - a) = e by omega]
    rw [e1, List.take_append_drop]
theorem segs_ne {ws : List Str} {w : Int} {a n : Nat} {S : List Nat} (h : WalkTo (Fits ws w) a S n) : n = ws.length → ∀ l ∈ segsN ws S, l ≠ [] := by
  induction h with
  | nil a => exact fun _ l hl => absurd hl (List.not_mem_nil)
  | cons g hw ih =>
    rename_i a e b S'
    intro hn l hl
    rw [segs_cons, ← hn, walk_next hw] at hl
    rcases List.mem_cons.mp hl with q | q
    · rw [q]
      have g1 := g.1
      have g2 := g.2.1
      intro q2
      have q3 := congrArg List.length q2
      rw [List.length_take, List.length_drop, List.length_nil] at q3
      omega
    · exact ih hn l q
theorem segs_mem {ws : List Str} {S : List Nat} : ∀ l ∈ segsN ws S, ∀ z ∈ l, z ∈ ws := fun l hl z hz => by
  obtain ⟨i, _, rfl⟩ := List.mem_map.mp hl
  exact List.mem_of_mem_drop (List.mem_of_mem_take hz)
open Classical in
/-- the best starts, by whatever table -/
noncomputable def bestOf (ws : List Str) (w : Int) : List Nat := if h : ∃ S, ∃ t, IsTab ws w t ∧ BestW ws w t S then h.choose else []
theorem walk_congr {ws : List Str} {w : Int} {t t' : Nat → Int} (h' : IsTab ws w t') (h : IsTab ws w t) {a b : Nat} {S : List Nat} (hw : WalkTo (IsGoal ws w t') a S b) : WalkTo (IsGoal ws w t) a S b := by
  have hcong := tab_uniq h' h
  induction hw with
  | nil => exact .nil _
  | cons g _ ih =>
    refine .cons ⟨g.fit, ?_, fun e' he f => ?_⟩ ih
    · rw [← hcong _ (Nat.le_of_lt (Nat.lt_of_lt_of_le g.fit.1 g.fit.2.1)), ← hcong _ g.fit.2.1]
      exact g.eq
    · rw [← hcong _ (Nat.le_of_lt (Nat.lt_of_lt_of_le g.fit.1 g.fit.2.1)), ← hcong _ f.2.1]
      exact g.most e' he f
theorem bestOf_eq {ws : List Str} {w : Int} {t : Nat → Int} {S : List Nat} (hT : IsTab ws w t) (hB : BestW ws w t S) : bestOf ws w = S := by
  have h : ∃ S, ∃ t, IsTab ws w t ∧ BestW ws w t S := ⟨S, t, hT, hB⟩
  unfold bestOf
  rw [dif_pos h]
  obtain ⟨t', h1, h2⟩ := h.choose_spec
  exact goal_uniq (walk_congr h1 hT h2) hB
/-- what best_starts has told of a paragraph -/
def Told (ws : List Str) (w : Int) : Prop := WalkTo (Fits ws w) 0 (bestOf ws w) ws.length
theorem told_of {ws : List Str} {w : Int} {t : Nat → Int} {S : List Nat} (hT : IsTab ws w t) (hB : BestW ws w t S) : Told ws w := by
  unfold Told
  rw [bestOf_eq hT hB]
  exact hB.mono fun _ _ g => g.fit
noncomputable def blockOf (w : Int) (ws : List Str) : Str := Txt.join lfS (linesN ws (bestOf ws w))
noncomputable def wrapT (ps : List (List Str)) (w : Int) : Str := Txt.join lf2S (ps.map (blockOf w))
theorem tl_block (w : Int) (ws : List Str) : TL.tl (blockOf w ws) = TL.joinL [10] ((segsN ws (bestOf ws w)).map lineL) := by
  unfold blockOf
  rw [TL.join_eq, TL.tl_join, linesN_segs, List.map_map]
  have e : (TL.tl ∘ Txt.join blankS) = lineL := by
    funext l
    show TL.tl (Txt.join blankS l) = _
    rw [TL.join_eq, TL.tl_join] <;> rfl
  rw [e] <;> rfl
theorem paras_wrap {ps : List (List Str)} {w : Int} (hp : ∀ p ∈ ps, Par p) (ht : ∀ p ∈ ps, Told p w) : paras (wrapT ps w) = ps := by
  have hf : ∀ p ∈ ps, (segsN p (bestOf p w)).flatten = p := fun p h => segs_flat (ht p h) rfl
  have h := fold_text (ps.map fun p => segsN p (bestOf p w)) [] fun Ls hL => by
    obtain ⟨p, hpm, rfl⟩ := List.mem_map.mp hL
    refine ⟨fun q => (hp p hpm).ne ?_, fun l hl => ⟨segs_ne (ht p hpm) rfl l hl, fun z hz => (hp p hpm).wz z (segs_mem l hl z hz)⟩⟩
    have := hf p hpm
    rw [q] at this
    exact this.symm
  rw [List.nil_append, List.map_map, List.map_map] at h
  have e1 : TL.tl (wrapT ps w) = TL.joinL [10, 10] (ps.map ((fun (Ls : List (List Str)) => TL.joinL [10] (Ls.map lineL)) ∘ fun p => segsN p (bestOf p w))) := by
    unfold wrapT
    rw [TL.join_eq, TL.tl_join, List.map_map]
    congr 1
    refine List.map_congr_left fun p _ => ?_
    exact tl_block w p
  rw [← paras_signs, e1, h]
  have e2 : ps.map (List.flatten ∘ fun p => segsN p (bestOf p w)) = ps.map id := List.map_congr_left fun p hpm => hf p hpm
  rw [e2, List.map_id]
theorem line_ts {l : List Str} (h : ∀ z ∈ l, Wz z) : ∀ c ∈ lineL l, Ts c := fun c hc => by
  rcases joinL_mem _ _ c hc with q | ⟨p, hp, q⟩
  · exact .inl (List.mem_singleton.mp q)
  · obtain ⟨z, hz, rfl⟩ := List.mem_map.mp hp
    exact .inr (.inr ((h z hz).2 c q))
theorem wrap_txs {ps : List (List Str)} {w : Int} (hp : ∀ p ∈ ps, Par p) : Txs (wrapT ps w) := fun c hc => by
  unfold wrapT at hc
  rw [TL.join_eq, TL.tl_join, List.map_map] at hc
  rcases joinL_mem _ _ c hc with q | ⟨x, hx, q⟩
  · rcases List.mem_cons.mp q with q | q
    · exact .inr (.inl q)
    · exact .inr (.inl (List.mem_singleton.mp q))
  · obtain ⟨p, hpm, rfl⟩ := List.mem_map.mp hx
    have q' : c ∈ TL.tl (blockOf w p) := q
    rw [tl_block] at q'
    rcases joinL_mem _ _ c q' with q | ⟨y, hy, q⟩
    · exact .inr (.inl (List.mem_singleton.mp q))
    · obtain ⟨l, hl, rfl⟩ := List.mem_map.mp hy
      exact line_ts (fun z hz => (hp p hpm).wz z (segs_mem l hl z hz)) c q
theorem len_joinL1 (s : List Nat) : ∀ ps : List (List Nat), (TL.joinL s ps).length ≤ (ps.map fun p => p.length + s.length).sum
  | [] => Nat.zero_le _
  | [p] => by
    show p.length ≤ _
    rw [List.map_cons, List.sum_cons]
    omega
  | p :: q :: r => by
    have ih := len_joinL1 s (q :: r)
    show (p ++ (s ++ TL.joinL s (q :: r))).length ≤ _
    rw [List.map_cons, List.sum_cons, List.length_append, List.length_append]
    omega
theorem sum_flatN (f : Str → Nat) (pss : List (List Str)) : (pss.map fun p => (p.map f).sum).sum = (pss.flatten.map f).sum := (sum_flat f pss).symm
theorem line_len : ∀ (l : List Str), l ≠ [] → (lineL l).length + 1 = (l.map fun z => z.length + 1).sum
  | [], h => absurd rfl h
  | [z], _ => by
    show (TL.tl z).length + 1 = _
    rw [← TL.len_tl] <;> rfl
  | z :: y :: r, _ => by
    have ih := line_len (y :: r) (by simp)
    show (TL.tl z ++ ([32] ++ lineL (y :: r))).length + 1 = _
    rw [List.map_cons, List.sum_cons, ← ih, List.length_append, List.length_append, ← TL.len_tl]
    show _ + (1 + _) + 1 = _
    omega
theorem jl1 : ∀ ps : List (List Nat), ps ≠ [] → (TL.joinL [10] ps).length + 1 = (ps.map fun p => p.length + 1).sum
  | [], h => absurd rfl h
  | [p], _ => rfl
  | p :: q :: r, _ => by
    have ih := jl1 (q :: r) (by simp)
    show (p ++ ([10] ++ TL.joinL [10] (q :: r))).length + 1 = _
    rw [List.map_cons, List.sum_cons, ← ih, List.length_append, List.length_append]
    show _ + (1 + _) + 1 = _
    omega
theorem block_len {p : List Str} {w : Int} (hp : Par p) (ht : Told p w) : (blockOf w p).length + 1 ≤ (p.map fun z => z.length + 1).sum := by
  have hf : (segsN p (bestOf p w)).flatten = p := segs_flat ht rfl
  have h1 := jl1 ((segsN p (bestOf p w)).map lineL) fun q => hp.ne (by
    rw [List.map_eq_nil_iff.mp q] at hf
    exact hf.symm)
  rw [TL.len_tl, tl_block]
  have e : ((segsN p (bestOf p w)).map lineL).map (fun x => x.length + 1) = (segsN p (bestOf p w)).map fun l => (l.map fun z => z.length + 1).sum := by
    rw [List.map_map]
    exact List.map_congr_left fun l hl => line_len l (segs_ne ht rfl l hl)
  rw [e, sum_flatN, hf] at h1
  exact Nat.le_of_eq h1
theorem wrap_len {ps : List (List Str)} {w : Int} (hp : ∀ p ∈ ps, Par p) (ht : ∀ p ∈ ps, Told p w) : (wrapT ps w).length ≤ (ps.map fun p => (p.map fun z => z.length + 1).sum).sum + ps.length := by
  unfold wrapT
  rw [TL.len_tl, TL.join_eq, TL.tl_join, List.map_map]
  refine Nat.le_trans (len_joinL1 _ _) ?_
  rw [List.map_map]
  have go : ∀ l : List (List Str), (∀ p ∈ l, Par p ∧ Told p w) → (l.map ((fun p : List Nat => p.length + (TL.tl lf2S).length) ∘ (TL.tl ∘ blockOf w))).sum ≤ (l.map fun p => (p.map fun z => z.length + 1).sum).sum + l.length := by
    intro l
    induction l with
    | nil => exact fun _ => Nat.zero_le _
    | cons p r ih =>
      intro h
      have h1 := ih fun x hx => h x (List.mem_cons_of_mem _ hx)
      have h2 := block_len (h p (List.mem_cons_self ..)).1 (h p (List.mem_cons_self ..)).2
      rw [TL.len_tl] at h2
      rw [List.map_cons, List.sum_cons, List.map_cons, List.sum_cons, List.length_cons]
      show ((TL.tl (blockOf w p)).length + 2) + _ ≤ _
      omega
  exact go ps fun p h => ⟨hp p h, ht p h⟩

def zsOf (S : List Nat) : List Int := S.map fun (k : Nat) => (k : Int)

theorem len_mul1 {z : Str} (hz : z.length = 1) {k : Int} (hk : 0 ≤ k) : ((Txt.mul z k).length : Int) = k := by
  have e := len_mul z k
  rw [hz, if_neg (by simp; omega)] at e
  omega

/-! ### a line spread -/
def sgnsOf (ws : List Str) : Nat := (ws.map (·.length)).sum
/-- the blanks behind the k-th word -/
def gapK (ws : List Str) (wd : Int) (k : Nat) : Int := (wd - (sgnsOf ws : Int) - (k : Int) + (ws.length : Int) - 2) / ((ws.length : Int) - 1)
def sprP (ws : List Str) (wd : Int) : Nat → Str
  | 0 => ws.getD 0 Str.empty
  | k + 1 => sprP ws wd k ++ Txt.mul blankS (gapK ws wd k) ++ ws.getD (k + 1) Str.empty
def spreadOf (ws : List Str) (wd : Int) : Str := if ws = [] then Str.empty else sprP ws wd (ws.length - 1)
theorem gap_is {B m k : Int} (hm : 0 < m) (hk : 0 ≤ k) (hk2 : k < m) : (if decide (k + 1 ≤ B % m) = true then B / m + 1 else B / m) = (B - k + (m + 1) - 2) / m := by
  have h1 := Int.emod_nonneg B (show m ≠ 0 by omega)
  have h2 := Int.emod_lt_of_pos B hm
  have h3 := Int.emod_add_mul_ediv B m
  generalize B % m = r at *
  generalize hq : B / m = q at *
  have e1 : B - k + (m + 1) - 2 = (r - k + m - 1) + m * q := by omega
  rw [e1, Int.add_mul_ediv_left _ _ (by omega)]
  by_cases h : k + 1 ≤ r
  · rw [if_pos (decide_eq_true h)]
    have e2 : r - k + m - 1 = (r - k - 1) + m * 1 := by omega
    rw [e2, Int.add_mul_ediv_left _ _ (by omega), Int.ediv_eq_zero_of_lt (by omega) (by omega)]
    omega
  · rw [if_neg (by simpa using h), Int.ediv_eq_zero_of_lt (by omega) (by omega)]
    omega
theorem size_signs {ws : List Str} (h : ws ≠ []) : sizeN ws 0 ws.length + 1 = sgnsOf ws + ws.length := by
  have h2 := len_join blankS ((ws.drop 0).take (ws.length - 0))
  rw [Nat.sub_zero, List.drop_zero, List.take_length, if_neg h, show blankS.length = 1 from rfl, Nat.mul_one] at h2
  unfold sizeN lineOf sgnsOf
  rw [Nat.sub_zero, List.drop_zero, List.take_length]
  exact h2
/-- blanks for each place, and how many places have one more -/
def qG (ws : List Str) (wd : Int) : Nat := ((wd - (sgnsOf ws : Int)) / ((ws.length : Int) - 1)).toNat
def rG (ws : List Str) (wd : Int) : Nat := ((wd - (sgnsOf ws : Int)) % ((ws.length : Int) - 1)).toNat
theorem gap_val {ws : List Str} {wd : Int} {k : Nat} (h : k + 1 < ws.length) (hf : (sizeN ws 0 ws.length : Int) ≤ wd) : gapK ws wd k = ((qG ws wd + (if k + 1 ≤ rG ws wd then 1 else 0) : Nat) : Int) := by
  have hs := size_signs (ws := ws) (fun q => by rw [q] at h; exact absurd h (Nat.not_lt_zero _))
  have hm : (0 : Int) < (ws.length : Int) - 1 := by omega
  have hg := gap_is (B := wd - (sgnsOf ws : Int)) (k := (k : Int)) hm (by omega) (by omega)
  rw [show (ws.length : Int) - 1 + 1 = ws.length by omega] at hg
  have e : gapK ws wd k = _ := hg.symm
  have q0 : 0 ≤ (wd - (sgnsOf ws : Int)) / ((ws.length : Int) - 1) := Int.ediv_nonneg (by omega) (by omega)
  have r0 := Int.emod_nonneg (wd - (sgnsOf ws : Int)) (show (ws.length : Int) - 1 ≠ 0 by omega)
  rw [e]
  unfold qG rG
  generalize (wd - (sgnsOf ws : Int)) / ((ws.length : Int) - 1) = qq at *
  generalize (wd - (sgnsOf ws : Int)) % ((ws.length : Int) - 1) = rr at *
  by_cases c : (k : Int) + 1 ≤ rr
  · rw [if_pos (decide_eq_true c), if_pos (by omega)]
    omega
  · rw [if_neg (by simpa using c), if_neg (by omega)]
    omega
theorem all_gaps {ws : List Str} {wd : Int} (h : 1 < ws.length) (hf : (sizeN ws 0 ws.length : Int) ≤ wd) : ((ws.length - 1) * qG ws wd + rG ws wd + sgnsOf ws : Nat) = wd := by
  have hs := size_signs (ws := ws) (fun q => by rw [q] at h; exact absurd h (Nat.not_lt_zero _))
  have q0 : 0 ≤ (wd - (sgnsOf ws : Int)) / ((ws.length : Int) - 1) := Int.ediv_nonneg (by omega) (by omega)
  have r0 := Int.emod_nonneg (wd - (sgnsOf ws : Int)) (show (ws.length : Int) - 1 ≠ 0 by omega)
  have e := Int.emod_add_mul_ediv (wd - (sgnsOf ws : Int)) ((ws.length : Int) - 1)
  have e1 : ((ws.length - 1 : Nat) : Int) = (ws.length : Int) - 1 := by omega
  have e2 : ((qG ws wd : Nat) : Int) = (wd - (sgnsOf ws : Int)) / ((ws.length : Int) - 1) := Int.toNat_of_nonneg q0
  have e3 : ((rG ws wd : Nat) : Int) = (wd - (sgnsOf ws : Int)) % ((ws.length : Int) - 1) := Int.toNat_of_nonneg r0
  rw [Int.natCast_add, Int.natCast_add, Int.natCast_mul, e1, e2, e3]
  omega
theorem gap_in {ws : List Str} {wd : Int} {k : Nat} (h : k + 1 < ws.length) (hf : (sizeN ws 0 ws.length : Int) ≤ wd) : 0 ≤ gapK ws wd k := by
  rw [gap_val h hf]
  exact Int.natCast_nonneg _
theorem take_sgns {ws : List Str} {k : Nat} (h : k < ws.length) : sgnsOf (ws.take (k + 1)) = sgnsOf (ws.take k) + (ws.getD k Str.empty).length := by
  unfold sgnsOf
  rw [List.take_add_one, List.getElem?_eq_getElem h, List.map_append, List.sum_append, List.getD_eq_getElem?_getD, List.getElem?_eq_getElem h]
  show _ + (_ + 0) = _
  rw [Nat.add_zero] <;> rfl
theorem len_blanks {g : Int} (h : 0 ≤ g) : ((Txt.mul blankS g).length : Int) = g := len_mul1 rfl h
theorem sgns_le {ws : List Str} (k : Nat) : sgnsOf (ws.take k) ≤ sgnsOf ws := by
  have e : sgnsOf ws = sgnsOf (ws.take k) + sgnsOf (ws.drop k) := by
    unfold sgnsOf
    rw [← List.sum_append, ← List.map_append, List.take_append_drop]
  omega
theorem spr_len {ws : List Str} {wd : Int} (hf : (sizeN ws 0 ws.length : Int) ≤ wd) : ∀ k, k < ws.length → (sprP ws wd k).length = sgnsOf (ws.take (k + 1)) + k * qG ws wd + min k (rG ws wd)
  | 0, h => by
    rw [take_sgns h]
    show (ws.getD 0 Str.empty).length = 0 + (ws.getD 0 Str.empty).length + 0 * _ + _
    omega
  | k + 1, h => by
    have ih := spr_len hf k (by omega)
    have g := gap_val h hf
    have l := len_blanks (gap_in h hf)
    have l2 : (Txt.mul blankS (gapK ws wd k)).length = qG ws wd + (if k + 1 ≤ rG ws wd then 1 else 0) := by omega
    rw [take_sgns h]
    show (sprP ws wd k ++ Txt.mul blankS (gapK ws wd k) ++ ws.getD (k + 1) Str.empty).length = _
    rw [len_app, len_app, Nat.succ_mul, ih, l2]
    by_cases c : k + 1 ≤ rG ws wd
    · rw [if_pos c]
      omega
    · rw [if_neg c]
      omega
theorem spr_le {ws : List Str} {wd : Int} (h : 1 < ws.length) (hf : (sizeN ws 0 ws.length : Int) ≤ wd) {k : Nat} (hk : k < ws.length) : ((sprP ws wd k).length : Int) ≤ wd := by
  have a := spr_len hf k hk
  have b := all_gaps h hf
  have c : k * qG ws wd ≤ (ws.length - 1) * qG ws wd := Nat.mul_le_mul_right _ (by omega)
  have d := sgns_le (ws := ws) (k + 1)
  omega
theorem spr_next {ws : List Str} {wd : Int} {k : Nat} (h : k + 1 < ws.length) (hf : (sizeN ws 0 ws.length : Int) ≤ wd) : ((sprP ws wd k).length : Int) + gapK ws wd k + ((ws.getD (k + 1) Str.empty).length : Int) ≤ wd := by
  have a := spr_le (by omega) hf h
  have l := len_blanks (gap_in h hf)
  have e : (sprP ws wd (k + 1)).length = (sprP ws wd k).length + (Txt.mul blankS (gapK ws wd k)).length + (ws.getD (k + 1) Str.empty).length := by
    show (sprP ws wd k ++ Txt.mul blankS (gapK ws wd k) ++ ws.getD (k + 1) Str.empty).length = _
    rw [len_app, len_app]
  omega
theorem join_one (y z : Str) : Txt.join y [z] = z := by
  apply TL.ext_tl
  rw [TL.join_eq, TL.tl_join] <;> rfl
theorem spread_one {ws : List Str} (wd : Int) (h : ws.length < 2) : spreadOf ws wd = lineOf ws 0 ws.length := by
  unfold spreadOf lineOf
  rw [Nat.sub_zero, List.drop_zero, List.take_length]
  match ws, h with
  | [], _ => rfl
  | [z], _ =>
    rw [if_neg (by simp), join_one] <;> rfl
theorem empty_app (z : Str) : Str.empty ++ z = z := by
  apply TL.ext_tl
  rw [TL.tl_append] <;> rfl

/-! ### texts squared -/
def segAt (ws : List Str) (S : List Nat) (k : Nat) : List Str := (ws.drop (S.getD k 0)).take ((ends S ws.length).getD k 0 - S.getD k 0)
/-- the lines of a paragraph, all but the last spread -/
def sqLines (ws : List Str) (S : List Nat) (w : Int) : List Str := (List.range (S.length - 1)).map (fun k => spreadOf (segAt ws S k) w) ++ [Txt.join blankS (ws.drop (S.getD (S.length - 1) 0))]
theorem bestOf_len (ws : List Str) (w : Int) : (bestOf ws w).length ≤ ws.length := by
  unfold bestOf
  split
  · rename_i h
    obtain ⟨t, h1, h2⟩ := h.choose_spec
    have := walk_len (fun _ _ g => g.fit.1) h2
    omega
  · exact Nat.zero_le _
/-- what best_starts has told of a paragraph, with its table -/
def ToldG (ws : List Str) (w : Int) : Prop := ∃ t, IsTab ws w t ∧ BestW ws w t (bestOf ws w)
theorem toldG_of {ws : List Str} {w : Int} {t : Nat → Int} {S : List Nat} (hT : IsTab ws w t) (hB : BestW ws w t S) : ToldG ws w := ⟨t, hT, by rw [bestOf_eq hT hB]; exact hB⟩
theorem ToldG.told {ws : List Str} {w : Int} (h : ToldG ws w) : Told ws w := by
  obtain ⟨t, hT, hB⟩ := h
  exact hB.mono fun _ _ g => g.fit
theorem sq_lt {w a b : Int} (ha : 0 ≤ w - b) (hab : a < b) : (w - b) ^ (2 : Int).toNat < (w - a) ^ (2 : Int).toNat := by
  show (w - b) ^ 2 < (w - a) ^ 2
  have e : ∀ x : Int, x ^ 2 = x * x := fun x => by rw [Int.pow_succ, Int.pow_succ, Int.pow_zero, Int.one_mul]
  rw [e, e]
  exact Int.mul_self_lt_mul_self ha (by omega)
/-- two best lines side by side do not fit as one -/
theorem goal_pair {ws : List Str} {w : Int} {t : Nat → Int} (hT : IsTab ws w t) {a e f : Nat} (g1 : IsGoal ws w t a e) (g2 : IsGoal ws w t e f) : w < (sizeN ws a f : Int) := by
  refine Int.not_le.mp fun q => ?_
  have h1 := g1.fit
  have h2 := g2.fit
  have a1 := h1.1
  have a2 := h2.1
  have a3 := h2.2.1
  have ff : Fits ws w a f := ⟨by omega, h2.2.1, q⟩
  have m := g1.most f h2.1 ff
  have q1 := g1.eq
  have q2 := g2.eq
  have p1 := price_nn ws w a e
  have p2 := price_nn ws w e f
  by_cases hn : f = ws.length
  · have : price ws w a f = 0 := if_pos hn
    omega
  · have e1 : price ws w a f = (w - (sizeN ws a f : Int)) ^ (2 : Int).toNat := if_neg hn
    have e2 : price ws w a e = (w - (sizeN ws a e : Int)) ^ (2 : Int).toNat := if_neg (by omega)
    have s1 := size_pre (ws := ws) (show a < e by omega) (by omega)
    have s2 := size_pre (ws := ws) (show a < f by omega) (by omega)
    have s3 := size_pre (ws := ws) (show e < f by omega) (by omega)
    have lt := sq_lt (w := w) (a := (sizeN ws a e : Int)) (b := (sizeN ws a f : Int)) (by omega) (by omega)
    have le := hT.le a f (Nat.zero_le _) ff
    omega
/-- so the lines but the last, as wide as told, are not much more than the words -/
theorem walk_wide {ws : List Str} {w : Int} {t : Nat → Int} (hT : IsTab ws w t) (hw : 0 ≤ w) {a n : Nat} {S : List Nat} (h : WalkTo (IsGoal ws w t) a S n) : n = ws.length → S ≠ [] → ((S.length - 1 : Nat) : Int) * w ≤ ((pre ws n : Int) - (pre ws a : Int)) + ((pre ws n : Int) - (pre ws ((ends S n).getD 0 0) : Int)) := by
  induction h with
  | nil => exact fun _ q => absurd rfl q
  | cons g hw2 ih =>
    rename_i a e b S'
    intro hn _
    have e0 : (ends (a :: S') b).getD 0 0 = e := by
      rw [ends_cons]
      exact walk_next hw2
    rw [e0]
    have ae := g.fit.1
    have en := g.fit.2.1
    have m1 := pre_mono (ws := ws) (b := a) (e := e) (by omega)
    have m2 := pre_mono (ws := ws) (b := e) (e := b) (by omega)
    cases hw2 with
    | nil =>
      show ((0 : Nat) : Int) * w ≤ _
      rw [Int.natCast_zero, Int.zero_mul]
      omega
    | @cons _ f _ S'' g2 hw3 =>
      have ih1 := ih hn (by simp)
      have e1 : (ends (e :: S'') b).getD 0 0 = f := by
        rw [ends_cons]
        exact walk_next hw3
      rw [e1] at ih1
      have gp := goal_pair hT g g2
      have f1 := g2.fit.1
      have f2 := g2.fit.2.1
      have sp := size_pre (ws := ws) (show a < f by omega) f2
      have l1 : (a :: e :: S'').length - 1 = (e :: S'').length - 1 + 1 := by
        rw [List.length_cons, List.length_cons]
        omega
      rw [l1, Int.natCast_add, Int.add_mul]
      show _ + 1 * w ≤ _
      omega
theorem pre_all {ws : List Str} (h : Tot ws) (i : Nat) : pre ws i ≤ 80000 := by
  have h1 := sub_sum (fun z => z.length + 1) ws 0 i
  have h2 := h.sum
  unfold pre
  rw [List.drop_zero] at h1
  omega
/-- more lines than one: the width is none of the great ones -/
theorem two_lines {ws : List Str} {w : Int} (hp : Par ws) (hw : 1 ≤ w) (h : ToldG ws w) (h2 : 1 < (bestOf ws w).length) : w ≤ 90000 := by
  obtain ⟨t, hT, hB⟩ := h
  revert hB h2
  generalize bestOf ws w = S
  intro h2 hB
  unfold BestW at hB
  generalize ws.length = n at hB
  cases hB with
  | nil => exact absurd h2 (by decide)
  | @cons _ e _ S1 g hw1 =>
    cases hw1 with
    | nil => exact absurd h2 (by simp)
    | @cons _ f _ S2 g2 hw2 =>
      have gp := goal_pair hT g g2
      have f1 := g.fit.1
      have f2 := g2.fit.1
      have f3 := g2.fit.2.1
      have sp := size_pre (ws := ws) (show 0 < f by omega) f3
      have pa := pre_all hp.tot f
      omega
theorem seg_tot {ws : List Str} (h : Tot ws) (b k : Nat) : Tot ((ws.drop b).take k) := ⟨by
  have := sub_sum (fun z => z.length + 1) ws b k
  have := h.sum
  omega⟩
theorem seg_size {ws : List Str} (b e : Nat) : sizeN ((ws.drop b).take (e - b)) 0 ((ws.drop b).take (e - b)).length = sizeN ws b e := by
  unfold sizeN lineOf
  rw [Nat.sub_zero, List.drop_zero, List.take_length]
theorem spread_le {ws : List Str} {w : Int} (hf : (sizeN ws 0 ws.length : Int) ≤ w) (hw : 0 ≤ w) : ((spreadOf ws w).length : Int) ≤ w := by
  rcases Nat.lt_or_ge 1 ws.length with h | h
  · have e : spreadOf ws w = sprP ws w (ws.length - 1) := if_neg fun q => by rw [q] at h; exact absurd h (Nat.not_lt_zero _)
    rw [e]
    exact spr_le h hf (by omega)
  · rw [spread_one w (by omega)]
    exact hf
/-- the signs of the lines together -/
theorem sq_sum {ws : List Str} {w : Int} (hp : Par ws) (hw : 1 ≤ w) (h : ToldG ws w) : ((sqLines ws (bestOf ws w) w).map (·.length)).sum + (sqLines ws (bestOf ws w) w).length ≤ 4 * (ws.map fun z => z.length + 1).sum ∧ (sqLines ws (bestOf ws w) w) ≠ [] := by
  have hold := h.told
  obtain ⟨t, hT, hB⟩ := h
  have hfS := walk_fitS hold
  have hSl := walk_len (fun _ _ g => g.fit.1) hB
  have hn := len_of hp.wz hp.tot
  have hne : bestOf ws w ≠ [] := fun q => hp.ne (hfS.nil q)
  have hwide := walk_wide hT (by omega) hB rfl hne
  have p1 : pre ws ws.length = (ws.map fun z => z.length + 1).sum := by
    unfold pre
    rw [List.take_length]
  have tl2 := two_len hp.wz
  revert hwide hfS hSl hne
  generalize bestOf ws w = S
  intro hfS hSl hne hwide
  have hb : ∀ n, n ≤ S.length - 1 → (((((List.range n).map fun k => spreadOf (segAt ws S k) w).map (·.length)).sum : Nat) : Int) ≤ (n : Int) * w := by
    intro n
    induction n with
    | zero =>
      intro _
      rw [Int.natCast_zero, Int.zero_mul]
      exact Int.le_refl _
    | succ n ih =>
      intro hn
      have i1 := ih (by omega)
      have nx := hfS.next (k := n) (by omega)
      have e1 : S.getD n 0 = S[n] := by rw [List.getD_eq_getElem?_getD, List.getElem?_eq_getElem (by omega)] <;> rfl
      have e2 : (ends S ws.length).getD n 0 = S[n + 1] := by
        rw [List.getD_eq_getElem?_getD, ends_at (by omega), dif_pos (by omega)] <;> rfl
      have hs : (sizeN (segAt ws S n) 0 (segAt ws S n).length : Int) ≤ w := by
        unfold segAt
        rw [seg_size, e1, e2]
        exact nx.2.2
      have sl := spread_le hs (by omega)
      rw [List.range_succ, List.map_append, List.map_append, List.sum_append, Int.natCast_add, Int.natCast_add, Int.add_mul]
      show _ + ((((spreadOf (segAt ws S n) w).length + 0 : Nat)) : Int) ≤ _ + 1 * w
      omega
  have h1 := hb (S.length - 1) (Nat.le_refl _)
  have h2 : (Txt.join blankS (ws.drop (S.getD (S.length - 1) 0))).length ≤ (ws.map fun z => z.length + 1).sum := by
    have l1 := len_join blankS (ws.drop (S.getD (S.length - 1) 0))
    have l2 := sub_sum (fun z => z.length + 1) ws (S.getD (S.length - 1) 0) ws.length
    rw [List.take_of_length_le (by rw [List.length_drop]; omega), sum_succ] at l2
    rw [show blankS.length = 1 from rfl, Nat.mul_one] at l1
    omega
  have c1 : (sqLines ws S w).length = S.length - 1 + 1 := by
    unfold sqLines
    rw [List.length_append, List.length_map, List.length_range] <;> rfl
  have c2 : ((sqLines ws S w).map (·.length)).sum = (((List.range (S.length - 1)).map fun k => spreadOf (segAt ws S k) w).map (·.length)).sum + ((Txt.join blankS (ws.drop (S.getD (S.length - 1) 0))).length + 0) := by
    unfold sqLines
    rw [List.map_append, List.sum_append] <;> rfl
  have hpos := List.length_pos_iff.mpr hne
  exact ⟨by omega, fun q => by rw [q] at c1; cases c1⟩
noncomputable def sqBlock (w : Int) (ws : List Str) : Str := Txt.join lfS (sqLines ws (bestOf ws w) w)
noncomputable def sqT (ps : List (List Str)) (w : Int) : Str := Txt.join lf2S (ps.map (sqBlock w))

local macro_rules | `(tactic| walk_at "rv") => `(tactic| (first
  | exact rv_I0
  | exact rv_I (by decide)
  | exact rv_I ⟨by omega, by omega⟩
  | exact rv_I (.inl ⟨by omega, by omega⟩)
  | exact rv_I (.inr ⟨by omega, by omega⟩)
  | exact rv_eq rfl
  | exact rv_ne rfl
  | exact rv_isB
  | exact rv_isN
  | exact rv_notN))
local macro_rules | `(tactic| walk_at "ev") => `(tactic| (first
  | exact ev_c
  | exact ev_var rfl
  | (apply ev_op; (walk_at "ev"); (walk_at "ev"); (walk_at "rv"))
  | (apply ev_un; (walk_at "ev"); (exact ru_neg))
  | (apply ev_cb; (walk_at "ea"); (walk_at "rc"))
  | (apply ev_call; (walk_at "ea"); (walk_at "sp"))))
local macro_rules | `(tactic| walk_at "ea") => `(tactic| (first
  | exact ea_nil
  | (apply ea_cons; (walk_at "ev"); (walk_at "ea"))))
local macro_rules | `(tactic| walk_at "rc") => `(tactic| (first
  | exact rc_lenL (by assumption)
  | exact rc_lenS (by omega)
  | exact rc_isStr
  | exact rc_isList (by assumption)))
local macro_rules | `(tactic| walk_at "et") => `(tactic| (first
  | (apply et_test; (walk_at "ev"))
  | (apply et_B; (walk_at "ev"))
  | (apply et_not; (walk_at "et"))))

section
variable {P : Program} {w : World} {K : PySem.W.Frag} {mg : Str → Option Value} {base : Heap} {A : Ad}
/-! ### _law_cell_at -/
def sp_cell_at (K : PySem.W.Frag) : Sp := fun vs H Q _ => ∃ (a : Addr) (ns : List Int) (j : Nat), vs = [.ref a, .int j] ∧ SqL K H a (ns.map V.int) ∧ RetV (.int (ns.getD j 0)) H Q
theorem ok_l_cell_at (T : Txt K mg A) : FnOk P w K mg base CX0 1 A.f_l_cell_at A.d_l_cell_at ["_law_script", "_law_k"] (sp_cell_at K) := by
  refine T.F_l_cell_at.ok sc_l_cell_at (fun vs H Q E h => ?_) (fun cdv Ar outer s H vs Q E hr h => ?_)
  · obtain ⟨a, ns, j, rfl, _⟩ := h
    rfl
  · obtain ⟨a, ns, j, rfl, hS, k⟩ := h
    refine ⟨_, (pss_cons (ps_if (pt_cmpR op_lt (pv 1) (pe_callB call_len_seq (by rfl) T.m_len PySem.boot_len (pa_cons (pv 0) pa_nil)) (nomark _))
  (pss_one (ps_ret (pe_ix (ixL (K := K) rfl) (pv 0) (pv 1) (fun _ _ => rfl))))
  pss_nil)
  (pss_one (ps_ret pe_int))), ?_⟩
    refine q_when (b := decide ((j : Int) < ((ns.map V.int).length : Nat))) (by walk_at "et") (fun hb H1 e1 => ?_) (fun hb H1 e1 => ?_)
    · have hj : j < ns.length := by
        have q := of_decide_eq_true hb
        rw [List.length_map] at q
        omega
      have hS1 := ex_l e1 hS
      refine s_ret (v := .int (ns.getD j 0)) (ev_op (ev_var rfl) (ev_var rfl) (rv_ixL hS1 (atI_nat ?_))) fun H2 e2 => k H2 (e1.trans e2)
      rw [List.getElem?_map, List.getD_eq_getElem?_getD, List.getElem?_eq_getElem hj] <;> rfl
    · have hj : ns.length ≤ j := by
        have q := of_decide_eq_false hb
        rw [List.length_map] at q
        omega
      refine s_ret ev_c fun H2 e2 => ?_
      have e : ns.getD j 0 = 0 := by
        rw [List.getD_eq_getElem?_getD, List.getElem?_eq_none hj] <;> rfl
      rw [e] at k
      exact k H2 (e1.trans e2)
/-! ### _law_sign_by -/
def sp_sign_by (K : PySem.W.Frag) : Sp := fun vs H Q _ => ∃ (c : Int), vs = [.int c] ∧ RetV (.str ⟨#[sgn c]⟩) H Q
def alphA : Str := "!\"#$&'()*+,-./0123456789:;<=>?@ABCDEFGHIJKLMNOPQRSTUVWXYZ[\\]^_`"
def alphB : Str := "abcdefghijklmnopqrstuvwxyz{|}~"
theorem alph_tl : (alphA ++ alphB).cps.toList = sgnL := by decide +kernel
theorem alph_len : alphA.length + alphB.length ≤ 100000 := by decide +kernel
theorem alph_len2 : (alphA ++ alphB).length ≤ 100000 := by decide +kernel
theorem ok_l_sign_by (T : Txt K mg A) : FnOk P w K mg base CX0 1 A.f_l_sign_by A.d_l_sign_by ["_law_cell"] (sp_sign_by K) := by
  refine T.F_l_sign_by.ok sc_l_sign_by (fun vs H Q E h => ?_) (fun cdv Ar outer s H vs Q E hr h => ?_)
  · obtain ⟨c, rfl, _⟩ := h
    rfl
  · obtain ⟨c, rfl, k⟩ := h
    refine ⟨_, (pss_cons (ps_set (i := 1) sc_l_sign_by.nd rfl (.inl rfl) pe_str)
  (pss_cons (ps_set (i := 1) sc_l_sign_by.nd rfl (.inl rfl) (pe_op op_add_str (pv 1) pe_str))
  (pss_one (ps_ret (pe_ix ix_str (pv 1) (pe_op op_mod (pv 0) pe_int) (fun _ _ => rfl)))))), ?_⟩
    refine q_asg (v := .str alphA) ev_c fun H1 e1 => ?_
    refine q_asg (v := .str (alphA ++ alphB)) (ev_op (ev_var rfl) ev_c (rv_addS alph_len)) fun H2 e2 => ?_
    refine s_ret (v := .str ⟨#[sgn c]⟩) (ev_op (ev_var rfl) (ev_op (ev_var rfl) ev_c (rv_I (by decide))) (rv_ixS alph_len2 ?_)) fun H3 e3 => k H3 ((e1.trans e2).trans e3)
    rw [alph_tl]
    exact at_sgn c
/-! ### _law_kind: the refusal by its number -/
def kinds (A : Ad) : List Addr := [A.c_NoWidth, A.c_LongWord, A.c_NoStarts, A.c_TooWide, A.c_TooFew, A.c_TooMany, A.c_NoPlace, A.c_NoWord, A.c_Full, A.c_NoWayBack]
theorem kind_sum (j : Nat) (hj : j < 10) : ((List.range 10).map fun k : Nat => (11 + (k : Int)) * (if decide (k = j) = true then 1 else 0)).sum = 11 + (j : Int) := by
  have h : j = 0 ∨ j = 1 ∨ j = 2 ∨ j = 3 ∨ j = 4 ∨ j = 5 ∨ j = 6 ∨ j = 7 ∨ j = 8 ∨ j = 9 := by omega
  rcases h with h | h | h | h | h | h | h | h | h | h <;> rw [h] <;> decide
theorem ok_l_kind (T : Txt K mg A) : FnP P w K mg base CX0 1 A.f_l_kind A.d_l_kind ["_law_e"] (sp_kind K (kinds A)) := by
  refine Fun.okP T.F_l_kind sc_l_kind (fun a c d vs H Q E h => ?_) (fun cdv Ar outer s H vs Q E p c d hz hot h => ?_)
  · obtain ⟨Dd, j, _, _, rfl, _⟩ := h
    rfl
  · obtain ⟨Dd, j, hc, hd, rfl, hec, hj, hk, k⟩ := h
    have hfp : ∃ vs, p.2.data = .fields vs := ⟨hot.2.choose, hot.2.choose_spec.1⟩
    have hcx : HotC (cxH CX0 P w K mg base N_l_kind "_law_kind" (defScope s_l_kind) A.f_l_kind cdv Ar outer s H E p) := ⟨p, hot, List.mem_singleton.mpr rfl⟩
    have hcx := hcx
    refine ⟨_, (pss_cons (ps_set (i := 1) sc_l_kind.nd rfl (.inr rfl) (pe_lst (pa_cons (pe_callB (call_isP (K := K) rfl (List.mem_singleton.mpr rfl) hz hfp) (by rfl) T.m_isinstance (by decide +kernel) (pa_cons (pv 0) (pa_cons (pe_glob (v := .ref A.c_NoWidth) rfl T.gc_NoWidth rfl) pa_nil))) (pa_cons (pe_callB (call_isP (K := K) rfl (List.mem_singleton.mpr rfl) hz hfp) (by rfl) T.m_isinstance (by decide +kernel) (pa_cons (pv 0) (pa_cons (pe_glob (v := .ref A.c_LongWord) rfl T.gc_LongWord rfl) pa_nil))) (pa_cons (pe_callB (call_isP (K := K) rfl (List.mem_singleton.mpr rfl) hz hfp) (by rfl) T.m_isinstance (by decide +kernel) (pa_cons (pv 0) (pa_cons (pe_glob (v := .ref A.c_NoStarts) rfl T.gc_NoStarts rfl) pa_nil))) (pa_cons (pe_callB (call_isP (K := K) rfl (List.mem_singleton.mpr rfl) hz hfp) (by rfl) T.m_isinstance (by decide +kernel) (pa_cons (pv 0) (pa_cons (pe_glob (v := .ref A.c_TooWide) rfl T.gc_TooWide rfl) pa_nil))) pa_nil))))))
  (pss_cons (ps_set (i := 1) sc_l_kind.nd rfl (.inr rfl) (pe_op op_cat (pv 1) (pe_lst (pa_cons (pe_callB (call_isP (K := K) rfl (List.mem_singleton.mpr rfl) hz hfp) (by rfl) T.m_isinstance (by decide +kernel) (pa_cons (pv 0) (pa_cons (pe_glob (v := .ref A.c_TooFew) rfl T.gc_TooFew rfl) pa_nil))) (pa_cons (pe_callB (call_isP (K := K) rfl (List.mem_singleton.mpr rfl) hz hfp) (by rfl) T.m_isinstance (by decide +kernel) (pa_cons (pv 0) (pa_cons (pe_glob (v := .ref A.c_TooMany) rfl T.gc_TooMany rfl) pa_nil))) (pa_cons (pe_callB (call_isP (K := K) rfl (List.mem_singleton.mpr rfl) hz hfp) (by rfl) T.m_isinstance (by decide +kernel) (pa_cons (pv 0) (pa_cons (pe_glob (v := .ref A.c_NoPlace) rfl T.gc_NoPlace rfl) pa_nil))) (pa_cons (pe_callB (call_isP (K := K) rfl (List.mem_singleton.mpr rfl) hz hfp) (by rfl) T.m_isinstance (by decide +kernel) (pa_cons (pv 0) (pa_cons (pe_glob (v := .ref A.c_NoWord) rfl T.gc_NoWord rfl) pa_nil))) pa_nil)))))))
  (pss_cons (ps_set (i := 1) sc_l_kind.nd rfl (.inr rfl) (pe_op op_cat (pv 1) (pe_lst (pa_cons (pe_callB (call_isP (K := K) rfl (List.mem_singleton.mpr rfl) hz hfp) (by rfl) T.m_isinstance (by decide +kernel) (pa_cons (pv 0) (pa_cons (pe_glob (v := .ref A.c_Full) rfl T.gc_Full rfl) pa_nil))) (pa_cons (pe_callB (call_isP (K := K) rfl (List.mem_singleton.mpr rfl) hz hfp) (by rfl) T.m_isinstance (by decide +kernel) (pa_cons (pv 0) (pa_cons (pe_glob (v := .ref A.c_NoWayBack) rfl T.gc_NoWayBack rfl) pa_nil))) pa_nil)))))
  (pss_one (ps_ret (pe_callB (cr_sumH hcx) (by rfl) T.m_sum (by decide +kernel) (pa_cons (pe_lcH (own := [("_law_k", 2)]) (tt := tYes) hcx sc_l_kind.nd (pi_range1H (by rfl) T.m_range (pa_cons pe_int pa_nil)) (blkOk_by (N := N_l_kind) (sc := defScope s_l_kind) (by decide +kernel)) (fun _ _ _ _ _ => (pg_name (i := 2) sc_l_kind.nd rfl (.inl rfl))) (fun _ _ _ _ _ => pts_nil) (fun _ _ _ _ _ => (pe_op op_mul (pe_op op_add pe_int (pv 2)) (pe_callTy call_int1 (by rfl) T.m_int (by decide +kernel) (pa_cons (pe_ix (ixL (K := K) rfl) (pv 1) (pv 2) (fun _ _ => rfl)) pa_nil))))) pa_nil))))))), ?_⟩
    have one_ : ∀ (i : Nat) (C : Addr) {σ : L2.St} {H' : Hp}, (kinds A)[i]? = some C → σ[0]? = some (some (.ref p.1)) → Ev (tCB (rIsP K c d p.1) (tCons (tVar 0) (tCons (tC (.ref C)) tNil))) σ H' (.bl (decide (i = j))) := fun i C σ H' hi h0 =>
      ev_cb (ea_cons (ev_var h0) (ea_cons ev_c ea_nil)) (rc_isP hc hd hec (hk i C hi))
    refine q_asgL (xs := [.bl (decide (0 = j)), .bl (decide (1 = j)), .bl (decide (2 = j)), .bl (decide (3 = j))]) (el_lst (ea_cons (one_ 0 _ rfl rfl) (ea_cons (one_ 1 _ rfl rfl) (ea_cons (one_ 2 _ rfl rfl) (ea_cons (one_ 3 _ rfl rfl) ea_nil)))) (show 4 ≤ 100000 by decide)) fun l1 H1 p1 e1 h1 => ?_
    refine q_asgL (el_cat (ev_var rfl) h1 (el_lst (ea_cons (one_ 4 _ rfl rfl) (ea_cons (one_ 5 _ rfl rfl) (ea_cons (one_ 6 _ rfl rfl) (ea_cons (one_ 7 _ rfl rfl) ea_nil)))) (show 4 ≤ 100000 by decide)) (show 4 + 4 ≤ 100000 by decide)) fun l2 H2 p2 e2 h2 => ?_
    refine q_asgL (el_cat (ev_var rfl) h2 (el_lst (ea_cons (one_ 8 _ rfl rfl) (ea_cons (one_ 9 _ rfl rfl) ea_nil)) (show 2 ≤ 100000 by decide)) (show 8 + 2 ≤ 100000 by decide)) fun l3 H3 p3 e3 h3 => ?_
    have hfl : ∀ i : Nat, i < 10 → ([V.bl (decide (0 = j)), .bl (decide (1 = j)), .bl (decide (2 = j)), .bl (decide (3 = j))] ++ [V.bl (decide (4 = j)), .bl (decide (5 = j)), .bl (decide (6 = j)), .bl (decide (7 = j))] ++ [V.bl (decide (8 = j)), .bl (decide (9 = j))])[i]? = some (.bl (decide (i = j))) := fun i hi => by
      have h : i = 0 ∨ i = 1 ∨ i = 2 ∨ i = 3 ∨ i = 4 ∨ i = 5 ∨ i = 6 ∨ i = 7 ∨ i = 8 ∨ i = 9 := by omega
      rcases h with h | h | h | h | h | h | h | h | h | h <;> rw [h] <;> rfl
    have ks := kind_sum j hj
    refine s_ret (v := .int (11 + (j : Int))) (ev_is (ev_sumN (ns := (List.range 10).map fun k : Nat => (11 + (k : Int)) * (if decide (k = j) = true then 1 else 0)) (el_is (el_lcR (n := 10) (fun k : Nat => V.int ((11 + (k : Int)) * (if decide (k = j) = true then 1 else 0))) (ea_cons ev_c ea_nil) (by decide) (fun _ => rfl) fun i H4 e4 hi => ?_) (by rw [List.map_map] <;> rfl))) (by rw [ks])) fun H4 e4 => k H4 (((e1.trans e2).trans e3).trans e4)
    refine ev_op (ev_op ev_c (ev_var rfl) rv_I0) (ev_cb (ea_cons (ev_op (ev_var rfl) (ev_var rfl) (rv_ixL (sq_of (e4 _ _ h3)) (atI_nat (hfl i (by omega))))) ea_nil) rc_intB) (rv_I (.inl ⟨by omega, by omega⟩))

def sp_whole (K : PySem.W.Frag) : Sp := fun vs H Q _ => ∃ i : Int, vs = [.int i] ∧ RetV (.bl true) H Q
theorem ok_l_whole (T : Txt K mg A) : FnOk P w K mg base CX0 1 A.f_l_whole A.d_l_whole ["_law_found"] (sp_whole K) := by
  refine T.F_l_whole.ok sc_l_whole (fun vs H Q E h => ?_) (fun cdv Ar outer s H vs Q E hr h => ?_)
  · obtain ⟨i, rfl, _⟩ := h
    rfl
  · obtain ⟨i, rfl, k⟩ := h
    refine ⟨_, (pss_one (ps_ret (pe_and (pe_callB call_isi (by rfl) T.m_isinstance (by decide +kernel) (pa_cons (pv 0) (pa_cons (pe_bltn (v := .ty "int") (by rfl) T.m_int (by decide +kernel) rfl) pa_nil))) (pe_one (pe_not (pe_callB call_isi (by rfl) T.m_isinstance (by decide +kernel) (pa_cons (pv 0) (pa_cons (pe_bltn (v := .ty "bool") (by rfl) T.m_bool (by decide +kernel) rfl) pa_nil)))))))), ?_⟩
    exact s_ret (v := .bl true) (ev_is (ev_andV (ev_cb (ea_cons (ev_var rfl) (ea_cons ev_c ea_nil)) rc_isInt) fun _ => ev_notV (ev_cb (ea_cons (ev_var rfl) (ea_cons ev_c ea_nil)) rc_isIntB)) rfl) fun H1 e1 => k H1 e1

def nats (S : List Nat) : List V := S.map fun (k : Nat) => V.int (k : Int)
theorem nats_len (S : List Nat) : (nats S).length = S.length := List.length_map ..
theorem nats_at {S : List Nat} {k s : Nat} (h : S[k]? = some s) : (nats S)[k]? = some (.int (s : Int)) := by
  unfold nats
  rw [List.getElem?_map, h] <;> rfl
theorem nats_snoc (S : List Nat) (i : Nat) : nats S ++ [.int (i : Int)] = nats (S ++ [i]) := by
  unfold nats
  rw [List.map_append] <;> rfl

def sp_wholes (K : PySem.W.Frag) : Sp := fun vs H Q _ => ∃ (p : Addr) (S : List Nat), vs = [.ref p] ∧ SqL K H p (nats S) ∧ RetV (.bl true) H Q
theorem ok_l_wholes (T : Txt K mg A) : FnOk P w K mg base CX0 2 A.f_l_wholes A.d_l_wholes ["_law_found"] (sp_wholes K) := by
  refine T.F_l_wholes.ok sc_l_wholes (fun vs H Q E h => ?_) (fun cdv Ar outer s H vs Q E hr h => ?_)
  · obtain ⟨p, S, rfl, _⟩ := h
    rfl
  · obtain ⟨p, S, rfl, hS, k⟩ := h
    refine ⟨_, (pss_cons (ps_if (pt_not (pt_val (pe_callB call_isi (by rfl) T.m_isinstance (by decide +kernel) (pa_cons (pv 0) (pa_cons (pe_bltn (v := .ty "list") (by rfl) T.m_list (by decide +kernel) rfl) pa_nil)))))
  (pss_one (ps_ret pe_bl))
  pss_nil)
  (pss_cons (ps_for PassesOwn.never rfl (pi_list (pv 0)) (pg_name (i := 1) sc_l_wholes.nd rfl (.inl rfl))
  (pss_one (ps_if (pt_not (pt_val (pe_call (ok_l_whole T) (hr.mono (by decide)) rfl T.g_l_whole T.F_l_whole.kp T.b_l_whole .nil pass0 (pa_cons (pv 1) pa_nil))))
  (pss_one (ps_ret pe_bl))
  pss_nil)))
  (pss_one (ps_ret pe_bl)))), ?_⟩
    refine q_when (b := false) (et_is (a := !true) (et_not (et_B (ev_cb (ea_cons (ev_var rfl) (ea_cons ev_c ea_nil)) (rc_isList hS)))) rfl) (fun hb => nomatch hb) (fun _ H1 e1 => ?_)
    refine q_forLn (ev_var rfl) (ex_l e1 hS) (fun i σ' H' => ∃ x, σ' = [some (.ref p), x] ∧ Ex H H') (fun H2 e2 => ⟨none, rfl, e1.trans e2⟩) (fun i σ' H' _ ⟨_, _, e⟩ => ex_l e hS) ?_ ?_
    · rintro i x σ' H' hi ⟨x', rfl, e⟩
      obtain ⟨c, rfl⟩ : ∃ c : Nat, x = V.int (c : Int) := by
        unfold nats at hi
        rw [List.getElem?_map] at hi
        obtain ⟨c, _, hc⟩ := Option.map_eq_some_iff.mp hi
        exact ⟨c, hc.symm⟩
      refine s_when (b := false) (et_is (a := !true) (et_not (et_B (ev_call (ea_cons (ev_var rfl) ea_nil) fun H3 e3 Q' q E' => ⟨_, rfl, q⟩))) rfl) (fun hb => nomatch hb) (fun _ H2 e2 => ⟨_, rfl, e.trans e2⟩)
    · rintro σ' H' ⟨x, rfl, e⟩
      exact s_ret (v := .bl true) ev_c fun H2 e2 => k H2 (e.trans e2)

theorem ok_l_size (T : Txt K mg A) : FnOk P w K mg base CX0 1 A.f_l_size A.d_l_size ["_law_row", "_law_begin", "_law_end"] (sp_size K) := by
  refine T.F_l_size.ok sc_l_size (fun vs H Q E h => ?_) (fun cdv Ar outer s H vs Q E hr h => ?_)
  · obtain ⟨p, ws, b, e, rfl, _⟩ := h
    rfl
  · obtain ⟨p, ws, b, e, rfl, hS, hz, hl, h1, h2, k⟩ := h
    refine ⟨_, (pss_one (ps_ret (pe_callB call_len_str (by rfl) T.m_len PySem.boot_len (pa_cons (TwE.pe_joinE (K := K) rfl pe_str (pe_slice (TwE.slE (K := K) rfl) (pv 0) (po_some (pv 1)) (po_some (pv 2)))) pa_nil)))), ?_⟩
    have hs := sizeN_le hz hl b e
    refine s_ret (v := .int (sizeN ws b e)) (ev_cb (ea_cons (ev_joinL ev_blk (el_is (el_sl (ev_var rfl) (eo_some (ev_var rfl)) (eo_some (ev_var rfl)) hS) (cut_words h1 h2)) ?_) ea_nil) (rc_lenS ?_)) fun H1 e1 => k H1 e1
    · have := line_fits hz hl b e
      omega
    · have : (lineOf ws b e).length ≤ 1000000 := hs
      exact Nat.le_trans this (by decide)

/-- starts that fit: the law's own look says so -/
def sp_l_are_starts (K : PySem.W.Frag) : Sp := fun vs H Q _ => ∃ (p l : Addr) (ws : List Str) (wd : Int) (S : List Nat), vs = [.ref p, .int wd, .ref l] ∧ SqL K H p (ws.map V.str) ∧ SqL K H l (nats S) ∧ Tot ws ∧ (∀ z ∈ ws, ∀ c ∈ TL.tl z, c < 1114112) ∧ ws.length ≤ 40000 ∧ S.length ≤ 50000 ∧ FitS ws wd S ∧ RetV (.bl true) H Q
theorem nats_ints (S : List Nat) : nats S = (S.map fun (k : Nat) => (k : Int)).map V.int := by
  unfold nats
  rw [List.map_map] <;> rfl
theorem cutV_from {xs : List V} (k : Nat) : cutV xs (some (k : Int)) none = xs.drop k := by
  unfold cutV
  rw [HT.sIx_none, HT.sIx_nat]
  rcases Nat.le_total k xs.length with h | h
  · rw [Nat.min_eq_left h, List.take_of_length_le (by rw [List.length_drop]; omega)]
  · rw [Nat.min_eq_right h, Nat.sub_self, List.take_zero, List.drop_of_length_le h]
theorem nats_ends (S : List Nat) (n : Nat) : cutV (nats S) (some 1) none ++ [V.int (n : Int)] = nats (ends S n) := by
  have e : cutV (nats S) (some 1) none = (nats S).drop 1 := cutV_from 1
  rw [e]
  unfold nats ends
  rw [← List.map_drop, List.map_append] <;> rfl
theorem ok_l_are_starts (T : Txt K mg A) : FnOk P w K mg base CX0 3 A.f_l_are_starts A.d_l_are_starts ["_law_row", "_law_width", "_law_found"] (sp_l_are_starts K) := by
  refine T.F_l_are_starts.ok sc_l_are_starts (fun vs H Q E h => ?_) (fun cdv Ar outer s H vs Q E hr h => ?_)
  · obtain ⟨p, l, ws, wd, S, rfl, _⟩ := h
    rfl
  · obtain ⟨p, l, ws, wd, S, rfl, hp, hS, hz, hlt, hl, hSl, hf, k⟩ := h
    refine ⟨_, (pss_cons (ps_if (pt_not (pt_val (pe_call (ok_l_wholes T) (hr.mono (by decide)) rfl T.g_l_wholes T.F_l_wholes.kp T.b_l_wholes .nil pass0 (pa_cons (pv 2) pa_nil))))
  (pss_one (ps_ret pe_bl))
  pss_nil)
  (pss_cons (ps_set (i := 3) sc_l_are_starts.nd rfl (.inl rfl) (pe_op op_cat (pe_slice (TwE.slE (K := K) rfl) (pv 2) (po_some pe_int) po_none) (pe_lst (pa_cons (pe_callB call_len_seq (by rfl) T.m_len PySem.boot_len (pa_cons (pv 0) pa_nil)) pa_nil))))
  (pss_cons (ps_if (pt_cmpR (op_eqD hr.units) (pv 2) (pe_lst pa_nil) (nomark _))
  (pss_one (ps_ret (pe_cmpR (op_eqD hr.units) (pv 0) (pe_lst pa_nil) (nomark _))))
  pss_nil)
  (pss_cons (ps_if (pt_cmpR op_ne (pe_ix (ixL (K := K) rfl) (pv 2) pe_int (fun _ _ => rfl)) pe_int (nomark _))
  (pss_one (ps_ret pe_bl))
  pss_nil)
  (pss_cons (ps_for PassesOwn.never rfl (pi_range1 (by rfl) T.m_range (pa_cons (pe_callB call_len_seq (by rfl) T.m_len PySem.boot_len (pa_cons (pv 2) pa_nil)) pa_nil)) (pg_name (i := 4) sc_l_are_starts.nd rfl (.inl rfl))
  (pss_one (ps_if (PW.pt (pw_or (pt_not (pt_cmpR op_lt (pe_ix (ixL (K := K) rfl) (pv 2) (pv 4) (fun _ _ => rfl)) (pe_ix (ixL (K := K) rfl) (pv 3) (pv 4) (fun _ _ => rfl)) (nomark _))) (pw_or1 (pt_cmpR op_gt (pe_call (ok_l_size T) (hr.mono (by decide)) rfl T.g_l_size T.F_l_size.kp T.b_l_size .nil pass0 (pa_cons (pv 0) (pa_cons (pe_ix (ixL (K := K) rfl) (pv 2) (pv 4) (fun _ _ => rfl)) (pa_cons (pe_ix (ixL (K := K) rfl) (pv 3) (pv 4) (fun _ _ => rfl)) pa_nil)))) (pv 1) (nomark _)))))
  (pss_one (ps_ret pe_bl))
  pss_nil)))
  (pss_one (ps_ret pe_bl))))))), ?_⟩
    have hSi := hS
    rw [nats_ints] at hSi
    have nl : (ws.map V.str).length = ws.length := List.length_map ..
    refine q_when (b := false) (et_is (a := !true) (et_not (et_B (ev_call (ea_cons (ev_var rfl) ea_nil) fun H3 e3 Q' q E' => ⟨l, S, rfl, ex_l e3 hS, q⟩))) rfl) (fun hb => nomatch hb) (fun _ H1 e1 => ?_)
    refine q_asgL (xs := nats (ends S ws.length)) (el_is (el_catN (el_sl (ev_var rfl) (eo_some ev_c) eo_none (ex_l e1 hS)) (el_lst (ea_cons (ev_cb (ea_cons (ev_var rfl) ea_nil) (rc_lenL (ex_l e1 hp))) ea_nil) (show 1 ≤ 100000 by decide)) ?_) (by rw [nl]; exact nats_ends S ws.length)) fun en H2 en0 e2 h2 => ?_
    · have e : cutV (nats S) (some 1) none = (nats S).drop 1 := cutV_from 1
      rw [e, List.length_drop, nats_len]
      show _ + 1 ≤ _
      omega
    have e12 := e1.trans e2
    by_cases hn : S = []
    · refine q_when (b := true) (et_is (et_test (ev_opL (xs := ([] : List Int).map V.int) (ev_var rfl) (el_lst ea_nil (Nat.zero_le _)) fun q H5 hq e5 => rv_eqI (l := S.map fun (k : Nat) => (k : Int)) (ex_l (e12.trans e5) hSi) (sq_of hq))) (by rw [hn]; rfl)) (fun _ H3 e3 => ?_) (fun hb => nomatch hb)
      refine s_ret (v := .bl true) (ev_is (ev_opL (xs := ([] : List Str).map V.str) (ev_var rfl) (el_lst ea_nil (Nat.zero_le _)) fun q H5 hq e5 => rv_eqS (l := ws) (ex_l ((e12.trans e3).trans e5) hp) (sq_of hq) hlt (fun z h => absurd h (List.not_mem_nil))) ?_) fun H4 e4 => k H4 ((e12.trans e3).trans e4)
      rw [hf.nil hn]
      rfl
    · have hb0 : decide ((S.map fun (k : Nat) => (k : Int)) = []) = false := decide_eq_false fun q => hn (List.map_eq_nil_iff.mp q)
      refine q_when (b := false) (et_is (et_test (ev_opL (xs := ([] : List Int).map V.int) (ev_var rfl) (el_lst ea_nil (Nat.zero_le _)) fun q H5 hq e5 => rv_eqI (l := S.map fun (k : Nat) => (k : Int)) (ex_l (e12.trans e5) hSi) (sq_of hq))) hb0) (fun hb => nomatch hb) (fun _ H3 e3 => ?_)
      have hSpos : 0 < S.length := List.length_pos_iff.mpr hn
      have hs0 : S[0]? = some 0 := by
        have q := hf.zero S[0] (List.getElem?_eq_getElem hSpos)
        rw [List.getElem?_eq_getElem hSpos, q]
      refine q_when (b := false) (et_is (et_test (ev_op (ev_op (ev_var rfl) ev_c (rv_ixL (ex_l (e12.trans e3) hS) (atI_nat (j := 0) (nats_at hs0)))) ev_c (rv_ne rfl))) (by simp)) (fun hb => nomatch hb) (fun _ H4 e4 => ?_)
      have e14 := (e12.trans e3).trans e4
      have hn2 : (nats S).length = S.length := nats_len S
      refine q_forR1 (n := (nats S).length) (ea_cons (ev_cb (ea_cons (ev_var rfl) ea_nil) (rc_lenL (ex_l e14 hS))) ea_nil) (by omega) (fun i σ' H' => ∃ x, σ' = [some (.ref p), some (.int wd), some (.ref l), some (.ref en), x] ∧ Ex H4 H') (fun H5 e5 => ⟨none, rfl, e5⟩) ?_ ?_
      · rintro i σ' H' hi ⟨x, rfl, e⟩
        have hiS : i < S.length := by omega
        have g1 := List.getElem?_eq_getElem hiS
        have g2 := ends_at (n := ws.length) hiS
        generalize S[i] = s0 at g1
        generalize (if h : i + 1 < S.length then S[i + 1] else ws.length) = en0' at g2
        obtain ⟨f1, f2, f3⟩ := hf.fit i s0 en0' g1 g2
        have en4 := e _ _ (e4 _ _ (e3 _ _ h2))
        have ix1 : ∀ {H5 : Hp} {σ : L2.St}, Ex H' H5 → σ = [some (.ref p), some (.int wd), some (.ref l), some (.ref en), some (.int (i : Int))] → Ev (tOp (rIxL K) (tVar 2) (tVar 4)) σ H5 (.int (s0 : Int)) := fun e5 hσ => by
          subst hσ
          exact ev_op (ev_var rfl) (ev_var rfl) (rv_ixL (ex_l ((e14.trans e).trans e5) hS) (atI_nat (nats_at g1)))
        have ix2 : ∀ {H5 : Hp} {σ : L2.St}, Ex H' H5 → σ = [some (.ref p), some (.int wd), some (.ref l), some (.ref en), some (.int (i : Int))] → Ev (tOp (rIxL K) (tVar 3) (tVar 4)) σ H5 (.int (en0' : Int)) := fun e5 hσ => by
          subst hσ
          exact ev_op (ev_var rfl) (ev_var rfl) (rv_ixL (sq_of (e5 _ _ en4)) (atI_nat (nats_at g2)))
        refine s_when (b := false) (et_is (et_or (et_not (et_test (ev_op (ix1 (Ex.refl H') rfl) (ix2 (Ex.refl H') rfl) rv_I0))) fun _ => et_test (ev_op (ev_call (ea_cons (ev_var rfl) (ea_cons (ix1 (Ex.refl H') rfl) (ea_cons (ix2 (Ex.refl H') rfl) ea_nil))) fun H5 e5 Q' q E' => ⟨p, ws, s0, en0', rfl, ex_l ((e14.trans e).trans e5) hp, hz, hl, by omega, f2, q⟩) (ev_var rfl) rv_I0)) ?_) (fun hb => nomatch hb) (fun _ H5 e5 => ⟨_, rfl, e.trans e5⟩)
        rw [decide_eq_true (by omega), decide_eq_false (by omega)]
        rfl
      · rintro σ' H' ⟨x, rfl, e⟩
        exact s_ret (v := .bl true) ev_c fun H5 e5 => k H5 ((e14.trans e).trans e5)

def sp_words_of (K : PySem.W.Frag) : Sp := fun vs H Q _ => ∃ (z : Str), vs = [.str z] ∧ z.length ≤ 75000 ∧ RetL ((Txt.words z).map V.str) H Q
theorem ok_words_of (T : Txt K mg A) : FnOk P w K mg base CX0 1 A.f_words_of A.d_words_of ["text"] (sp_words_of K) := by
  refine T.F_words_of.ok sc_words_of (fun vs H Q E h => ?_) (fun cdv Ar outer s H vs Q E hr h => ?_)
  · obtain ⟨z, rfl, _⟩ := h
    rfl
  · obtain ⟨z, rfl, hlen, k⟩ := h
    refine ⟨_, (pss_one (ps_ret (pe_words (pv 0)))), ?_⟩
    exact s_retL (el_words (a := z) (ev_var rfl) (by omega)) fun p H2 hp e2 h2 => k p H2 hp e2 h2
/-! ### _law_text_by, of pieces -/
def sp_text_by (K : PySem.W.Frag) : Sp := fun vs H Q _ => ∃ (a : Addr) (ns : List Int) (fl : Bool), vs = [.ref a, .bl fl] ∧ SqL K H a (ns.map V.int) ∧ ns.length ≤ 100 ∧ ∀ z, Txs z → z.length ≤ 40 * ns.length → RetV (.str z) H Q
theorem ok_l_text_by (T : Txt K mg A) : FnOk P w K mg base CX0 2 A.f_l_text_by A.d_l_text_by ["_law_cells", "_law_flowing"] (sp_text_by K) := by
  refine T.F_l_text_by.ok sc_l_text_by (fun vs H Q E h => ?_) (fun cdv Ar outer s H vs Q E hr h => ?_)
  · obtain ⟨a, ns, fl, rfl, _⟩ := h
    rfl
  · obtain ⟨a, ns, fl, rfl, hS, hlen, k⟩ := h
    refine ⟨_, (pss_cons (ps_set (i := 2) sc_l_text_by.nd rfl (.inl rfl) pe_str)
  (pss_cons (ps_for PassesOwn.never rfl (pi_list (pv 0)) (pg_name (i := 3) sc_l_text_by.nd rfl (.inr rfl))
  (pss_one (ps_if (pt_cmpR op_eq (pe_op op_mod (pv 3) pe_int) pe_int (nomark _))
  (pss_one (ps_set (i := 2) sc_l_text_by.nd rfl (.inl rfl) (pe_op op_add_str (pv 2) (pe_op op_mulS pe_str (pe_op op_add pe_int (pe_op op_mod (pe_op op_fdiv (pv 3) pe_int) pe_int))))))
  (pss_one (ps_if (pt_cmpR op_eq (pe_op op_mod (pv 3) pe_int) pe_int (nomark _))
  (pss_one (ps_set (i := 2) sc_l_text_by.nd rfl (.inl rfl) (pe_op op_add_str (pv 2) (pe_op op_mulS pe_str (pe_op op_add pe_int (pe_op op_mul (pe_op op_mod (pe_op op_fdiv (pv 3) pe_int) pe_int) (pe_callTy call_int1 (by rfl) T.m_int (by decide +kernel) (pa_cons (pe_not (pv 1)) pa_nil))))))))
  (pss_cons (ps_set (i := 4) sc_l_text_by.nd rfl (.inl rfl) (pe_op op_add (pe_op op_add pe_int (pe_op op_mod (pe_op op_fdiv (pv 3) pe_int) pe_int)) (pe_op op_mul (pe_op op_fdiv (pe_op op_mod (pe_op op_fdiv (pv 3) pe_int) pe_int) pe_int) (pe_op op_mod (pe_op op_fdiv (pv 3) pe_int) pe_int))))
  (pss_one (ps_set (i := 2) sc_l_text_by.nd rfl (.inl rfl) (pe_op op_add_str (pv 2) (TwE.pe_joinE (K := K) rfl pe_str (pe_lc (own := [("_law_k", 5)]) (tt := tYes) rfl sc_l_text_by.nd (pi_range1 (by rfl) T.m_range (pa_cons (pv 4) pa_nil)) (blkOk_by (N := N_l_text_by) (sc := defScope s_l_text_by) (by decide +kernel)) (fun _ _ _ _ _ => (pg_name (i := 5) sc_l_text_by.nd rfl (.inl rfl))) (fun _ _ _ _ _ => pts_nil) (fun _ _ _ _ _ => (pe_call (ok_l_sign_by T) (hr.mono (by decide)) rfl T.g_l_sign_by T.F_l_sign_by.kp T.b_l_sign_by .nil pass0 (pa_cons (pe_op op_add (pe_op op_fdiv (pv 3) pe_int) (pe_op op_mul (pv 5) (pe_op op_mod (pe_op op_fdiv (pv 3) pe_int) pe_int))) pa_nil))))))))))))))
  (pss_one (ps_ret (pv 2))))), ?_⟩
    refine q_asg (v := .str Str.empty) ev_none fun H1 e1 => ?_
    refine q_forLn (ev_var rfl) (ex_l e1 hS) (fun i σ' H' => ∃ z x x2 x3, σ' = [some (.ref a), some (.bl fl), some (.str z), x, x2, x3] ∧ Ex H H' ∧ Txs z ∧ z.length ≤ 40 * i)
      (fun H2 e2 => ⟨Str.empty, none, none, none, rfl, e1.trans e2, txs_empty, Nat.zero_le _⟩)
      (fun i σ' H' _ ⟨_, _, _, _, _, e, _⟩ => ex_l e hS) ?_ ?_
    · rintro i x σ' H' hi ⟨z, x', x2, x3, rfl, e, hz, hl⟩
      have hi100 : i < 100 := by
        have q := (List.getElem?_eq_some_iff.mp hi).1
        rw [List.length_map] at q
        omega
      obtain ⟨c, rfl⟩ : ∃ c, x = V.int c := by
        rw [List.getElem?_map] at hi
        obtain ⟨c, _, hc⟩ := Option.map_eq_some_iff.mp hi
        exact ⟨c, hc.symm⟩
      have next : ∀ (y : Str) (x2 x3 : Option V), Txs y → y.length ≤ 40 → ∀ H2, Ex H' H2 → ∃ z' x x2' x3', ([some (V.ref a), some (.bl fl), some (.str (z ++ y)), some (.int c), x2, x3] : L2.St) = [some (.ref a), some (.bl fl), some (.str z'), x, x2', x3'] ∧ Ex H H2 ∧ Txs z' ∧ z'.length ≤ 40 * (i + 1) := fun y x2 x3 hy hyl H2 e2 =>
        ⟨_, _, _, _, rfl, e.trans e2, hz.app hy, by rw [len_app]; omega⟩
      have hk : 0 ≤ 1 + c / 3 % 3 ∧ 1 + c / 3 % 3 ≤ 3 := by omega
      have mlen : ∀ d : Nat, (Txt.mul (⟨#[d]⟩ : Str) (1 + c / 3 % 3)).length ≤ 3 := fun d => len_mul_leN (L := 1) (N := 3) (Nat.le_refl 1) hk.2
      refine s_if (b := decide (V.int (c % 3) = V.int 0)) (by walk_at "et") (fun hb H1 e1 => ?_) (fun hb H1 e1 => ?_)
      · have m := mlen 32
        exact s_asg (v := .str (z ++ Txt.mul (⟨#[32]⟩ : Str) (1 + c / 3 % 3))) (ev_op (ev_var rfl) (ev_op ev_blank (by walk_at "ev") (rv_mulS (L := 1) (N := 3) (Nat.le_refl 1) hk.2 hk.1 (by decide) (by decide))) (rv_addS (by omega))) fun H2 e2 => next _ _ _ (mul_txs (txs_one (.inl rfl)) _) (by omega) H2 (e1.trans e2)
      · refine s_if (b := decide (V.int (c % 3) = V.int 1)) (by walk_at "et") (fun hb H2 e2 => ?_) (fun hb H2 e2 => ?_)
        · obtain ⟨mm, hmm, hm1, hm2⟩ : ∃ mm : Int, 1 + c / 3 % 3 * (if (!fl) = true then 1 else 0) = mm ∧ 0 ≤ mm ∧ mm ≤ 3 := ⟨_, rfl, by split <;> omega, by split <;> omega⟩
          have m : (Txt.mul (⟨#[10]⟩ : Str) mm).length ≤ 3 := len_mul_leN (L := 1) (N := 3) (Nat.le_refl 1) hm2
          exact s_asg (v := .str (z ++ Txt.mul (⟨#[10]⟩ : Str) mm)) (ev_op (ev_var rfl) (ev_op (y := .int mm) ev_lf (ev_is (ev_op ev_c (ev_op (ev_op (ev_op (ev_var rfl) ev_c (rv_I ⟨by decide, by decide⟩)) ev_c (rv_I (by decide))) (ev_cb (ea_cons (ev_notV (ev_var rfl)) ea_nil) rc_intB) (rv_I (.inl ⟨by omega, by omega⟩))) rv_I0) (by rw [hmm])) (rv_mulS (L := 1) (N := 3) (Nat.le_refl 1) hm2 hm1 (by decide) (by decide))) (rv_addS (by omega))) fun H3 e3 => next _ _ _ (mul_txs (txs_one (.inr (.inl rfl))) _) (by omega) H3 ((e1.trans e2).trans e3)
        · have hn : 0 ≤ 1 + c / 3 % 5 + c / 45 % 8 / 7 * (c / 360 % 36) ∧ 1 + c / 3 % 5 + c / 45 % 8 / 7 * (c / 360 % 36) ≤ 40 := by
            have h1 : c / 45 % 8 / 7 = 0 ∨ c / 45 % 8 / 7 = 1 := by omega
            rcases h1 with h1 | h1 <;> rw [h1] <;> omega
          refine q_asg (v := .int (1 + c / 3 % 5 + c / 45 % 8 / 7 * (c / 360 % 36))) (by walk_at "ev") fun H3 e3 => ?_
          generalize hnn : 1 + c / 3 % 5 + c / 45 % 8 / 7 * (c / 360 % 36) = n at hn
          have hys : ((List.range n.toNat).map fun i : Nat => V.str ⟨#[sgn (c / 15 + (i : Int) * (c / 11 % 7))]⟩) = ((List.range n.toNat).map fun i : Nat => (⟨#[sgn (c / 15 + (i : Int) * (c / 11 % 7))]⟩ : Str)).map V.str := by
            rw [List.map_map] <;> rfl
          have hsum : (((List.range n.toNat).map fun i : Nat => (⟨#[sgn (c / 15 + (i : Int) * (c / 11 % 7))]⟩ : Str)).map (·.length)).sum = n.toNat := by
            rw [List.map_map]
            generalize n.toNat = m
            induction m with
            | zero => rfl
            | succ m ih =>
              rw [List.range_succ, List.map_append, List.sum_append, ih] <;> rfl
          have hj := len_join0 ((List.range n.toNat).map fun i : Nat => (⟨#[sgn (c / 15 + (i : Int) * (c / 11 % 7))]⟩ : Str))
          rw [hsum] at hj
          refine s_asg (v := .str (z ++ Txt.join Str.empty ((List.range n.toNat).map fun i : Nat => (⟨#[sgn (c / 15 + (i : Int) * (c / 11 % 7))]⟩ : Str)))) (ev_op (ev_var rfl) (ev_joinL ev_none (el_is (el_lcR (fun i : Nat => V.str ⟨#[sgn (c / 15 + (i : Int) * (c / 11 % 7))]⟩) (ea_cons (ev_var rfl) ea_nil) (by omega) (fun _ => rfl) fun i H4 e4 hi => ?_) hys) ?_) (rv_addS (by omega))) fun H4 e4 => next _ _ _ (txs_join txs_empty fun p hp => ?_) (by omega) H4 (((e1.trans e2).trans e3).trans e4)
          · exact ev_call (ea_cons (x := .int (c / 15 + (i : Int) * (c / 11 % 7))) (by walk_at "ev") ea_nil) fun H5 e5 Q q E => ⟨_, rfl, q⟩
          · rw [hsum]
            show n.toNat + _ * 0 ≤ _
            omega
          · obtain ⟨i, _, rfl⟩ := List.mem_map.mp hp
            exact txs_one (.inr (.inr (sgn_ws _)))
    · rintro σ' H' ⟨z, x', x2, x3, rfl, e, hz, hl⟩
      rw [List.length_map] at hl
      exact s_ret (ev_var rfl) fun H2 e2 => k z hz hl H2 (e.trans e2)
/-! ### paragraphs_of -/
def sp_paragraphs_of (K : PySem.W.Frag) : Sp := fun vs H Q _ => ∃ (z : Str), vs = [.str z] ∧ Txs z ∧ z.length ≤ 75000 ∧ ∀ l H2, Ex H H2 → LLs H H2 l [] (paras z) → Q (.ref l) H2
theorem rowstep_sum (s : List (List Str) × Bool) (w : List Str) (h : s.2 = true → s.1 ≠ []) : ((rowstep s w).1.map List.length).sum ≤ (s.1.map List.length).sum + w.length ∧ (rowstep s w).1.length ≤ s.1.length + 1 := by
  unfold rowstep
  split
  · exact ⟨Nat.le_add_right _ _, Nat.le_succ _⟩
  · split
    · rename_i h1 h2
      have e := snoc_last (h h2) ([] : List Str)
      have e1 := congrArg (fun l : List (List Str) => (l.map List.length).sum) e
      have e2 := congrArg (fun l : List (List Str) => l.length) e
      simp only [List.map_append, List.sum_append, List.map_cons, List.map_nil, List.sum_cons, List.sum_nil, List.length_append, List.length_singleton] at e1 e2 ⊢
      exact ⟨by omega, by omega⟩
    · simp only [List.map_append, List.sum_append, List.map_cons, List.map_nil, List.sum_cons, List.sum_nil, List.length_append, List.length_singleton]
      exact ⟨by omega, by omega⟩
theorem mem_sum_le : ∀ {l : List Nat} {x : Nat}, x ∈ l → x ≤ l.sum
  | [], _, h => absurd h (List.not_mem_nil)
  | a :: r, x, h => by
    rw [List.sum_cons]
    rcases List.mem_cons.mp h with h | h
    · omega
    · have := mem_sum_le h
      omega
theorem paras_sizes {z : Str} (hz : Txs z) : ∀ p ∈ paras z, p.length ≤ z.length := by
  have h1 := rows_len z
  have go : ∀ (rows : List Str) (s : List (List Str) × Bool), (s.2 = true → s.1 ≠ []) → (∀ r ∈ rows, Txs r) → ((rows.foldl (fun s y => rowstep s (Txt.words y)) s).1.map List.length).sum ≤ (s.1.map List.length).sum + (rows.map (·.length)).sum := by
    intro rows
    induction rows with
    | nil => exact fun s _ _ => Nat.le_refl _
    | cons r rs ih =>
      intro s hs ht
      have h2 := ih (rowstep s (Txt.words r)) rowstep_ne fun x hx => ht x (List.mem_cons_of_mem _ hx)
      have h3 := (rowstep_sum s (Txt.words r) hs).1
      have h4 := (words_ok (ht r (List.mem_cons_self ..))).1
      rw [List.foldl_cons, List.map_cons, List.sum_cons]
      omega
  intro p hp
  have h2 := go (Txt.split z lfS) ([], false) (fun q => by cases q) (rows_txs hz)
  have h3 := mem_sum_le (List.mem_map_of_mem (f := List.length) hp)
  unfold paras at h3
  have h4 : ((([] : List (List Str)), false).1.map List.length).sum = 0 := rfl
  rw [h4] at h2
  have h5 : 1 ≤ (Txt.split z lfS).length := by
    have h6 := congrArg List.length (split_rows z)
    rw [List.length_map] at h6
    rw [h6]
    cases h7 : TL.spl [10] 0 [] (TL.tl z) with
    | nil =>
      have h8 := spl_len (TL.tl z) []
      rw [h7] at h8
      simp at h8
    | cons a r => simp
  omega
theorem ok_paragraphs_of (T : Txt K mg A) : FnOk P w K mg base CX0 2 A.f_paragraphs_of A.d_paragraphs_of ["text"] (sp_paragraphs_of K) := by
  refine T.F_paragraphs_of.ok sc_paragraphs_of (fun vs H Q E h => ?_) (fun cdv Ar outer s H vs Q E hr h => ?_)
  · obtain ⟨z, rfl, _⟩ := h
    rfl
  · obtain ⟨z, rfl, hz, hlen, k⟩ := h
    refine ⟨_, (pss_cons (ps_set (i := 1) sc_paragraphs_of.nd rfl (.inl rfl) (pe_lst pa_nil))
  (pss_cons (ps_set (i := 2) sc_paragraphs_of.nd rfl (.inl rfl) pe_bl)
  (pss_cons (ps_for PassesOwn.never rfl (pi_list (pe_split (pv 0) pe_str)) (pg_name (i := 3) sc_paragraphs_of.nd rfl (.inl rfl))
  (pss_cons (ps_set (i := 4) sc_paragraphs_of.nd rfl (.inl rfl) (pe_call (ok_words_of T) (hr.mono (by decide)) rfl T.g_words_of T.F_words_of.kp T.b_words_of .nil pass0 (pa_cons (pv 3) pa_nil)))
  (Evl.pss_cut (ps_if (PW.pt (pw_and (pt_truth (pv 4) (fun _ => rfl)) (pw_and1 (pt_val (pv 2)))))
  (pss_one (ps_expr (pe_bm PySem.F.plainAttrs_list PySem.F.slot_list_append PySem.F.type_list_append mt_append (pv 1) (pa_cons (pv 4) pa_nil))))
  (pss_one (ps_if (pt_truth (pv 4) (fun _ => rfl))
  (pss_one (ps_expr (pe_bm PySem.F.plainAttrs_list PySem.F.slot_list_extend PySem.F.type_list_extend mt_extend (pe_ix (ixL (K := K) rfl) (pv 1) (pe_un un_neg pe_int) (fun _ _ => rfl)) (pa_cons (pv 4) pa_nil))))
  pss_nil)))
  (pss_one (ps_set (i := 2) sc_paragraphs_of.nd rfl (.inl rfl) (pe_notT (pv 4)))))))
  (pss_one (ps_ret (pv 1)))))), ?_⟩
    refine q_asgL (xs := []) (el_lst ea_nil (Nat.zero_le _)) fun l H1 l0 e1 hl1 => ?_
    refine q_asg (v := .bl true) ev_c fun H2 e2 => ?_
    have hrl := rows_len z
    have hrt := rows_txs hz
    generalize hrows : Txt.split z lfS = rows at hrl hrt
    refine q_forNLn (xs := rows.map V.str) (el_is (el_split (a := z) (b := lfS) (ev_var rfl) ev_lf rfl (by omega)) (by rw [hrows]))
      (fun p0 i σ' H' => ∃ s xr xw, σ' = [some (.str z), some (.ref l), some (.bl (!s.2)), xr, xw] ∧ Ex H H' ∧ LLs H H' l [p0] s.1 ∧ H' p0 = some (.lst (rows.map V.str)) ∧ (s.2 = true → s.1 ≠ []) ∧
        (rows.take i).foldl (fun s y => rowstep s (Txt.words y)) ([], false) = s ∧ (s.1.map List.length).sum ≤ ((rows.take i).map (·.length)).sum ∧ s.1.length ≤ i)
      (fun p0 H3 hp e3 h3 => ⟨([], false), none, none, rfl, (e1.trans e2).trans e3, LLs.zero l0 (e3 _ _ (e2 _ _ hl1)) (fun b hb => by
        rw [List.mem_singleton.mp hb]
        exact fun q => by rw [q, e2 _ _ hl1] at hp; cases hp), h3, (fun q => by cases q), rfl, Nat.le_refl _, Nat.le_refl _⟩)
      (fun p0 i σ' H' _ ⟨_, _, _, _, _, _, h3, _⟩ => sq_of h3) ?_ ?_
    · rintro p0 i x σ' H' hi ⟨s, xr, xw, rfl, e, hL, hp0, hne, hf, hsum, hcnt⟩
      obtain ⟨y, hy, rfl⟩ : ∃ y, rows[i]? = some y ∧ V.str y = x := by
        rw [List.getElem?_map] at hi
        exact Option.map_eq_some_iff.mp hi
      have hil : i < rows.length := (List.getElem?_eq_some_iff.mp hy).1
      have hyt : Txs y := hrt y (List.mem_of_getElem? hy)
      have hyl : y.length ≤ 75000 := by
        have := mem_sum_le (List.mem_map_of_mem (f := fun z : Str => z.length) (List.mem_of_getElem? hy))
        omega
      have hwo := words_ok hyt
      have hnext : (rows.take (i + 1)).foldl (fun s y => rowstep s (Txt.words y)) ([], false) = rowstep s (Txt.words y) := by
        rw [List.take_add_one, hy, List.foldl_append, hf] <;> rfl
      have hts : ((rows.take (i + 1)).map (·.length)).sum = ((rows.take i).map (·.length)).sum + y.length := by
        rw [List.take_add_one, hy, List.map_append, List.sum_append]
        show _ + (y.length + 0) = _
        omega
      have hle : ((rows.take (i + 1)).map (·.length)).sum ≤ (rows.map (·.length)).sum := by
        have q := congrArg (fun l : List Str => (l.map (·.length)).sum) (List.take_append_drop (i + 1) rows)
        simp only [List.map_append, List.sum_append] at q
        omega
      have hrs := rowstep_sum s (Txt.words y) hne
      refine q_asgL (xs := (Txt.words y).map V.str) (el_call (ea_cons (ev_var rfl) ea_nil) fun H5 e5 Q' q E' => ⟨y, rfl, hyl, q⟩) fun p H1 hp e1 h1 => ?_
      have hLb : LLs H H1 l [p0] s.1 := hL.mono e1
      refine q_cut (M := fun σ2 H2 => σ2 = [some (.str z), some (.ref l), some (.bl (!s.2)), some (.str y), some (.ref p)] ∧ Ex H H2 ∧ LLs H H2 l [p0] (rowstep s (Txt.words y)).1 ∧ H2 p0 = some (.lst (rows.map V.str)) ∧ H2 p = some (.lst ((Txt.words y).map V.str))) ?_ ?_
      · by_cases hw : Txt.words y = []
        · have er : rowstep s (Txt.words y) = (s.1, false) := if_pos hw
          refine s_if (b := false) (et_is (et_and (b := !s.2) (et_tru (ev_var rfl) (sq_of h1)) fun _ => et_B (ev_var rfl)) (by rw [hw]; rfl)) (fun hb => nomatch hb) (fun _ H3 e3 => ?_)
          refine s_when (b := false) (et_is (et_tru (ev_var rfl) (sq_of (e3 _ _ h1))) (by rw [hw]; rfl)) (fun hb => nomatch hb) (fun _ H4 e4 => ?_)
          exact ⟨rfl, (e.trans e1).trans (e3.trans e4), by rw [er]; exact hLb.mono (e3.trans e4), e4 _ _ (e3 _ _ (e1 _ _ hp0)), e4 _ _ (e3 _ _ h1)⟩
        · have hwe : (!((Txt.words y).map V.str).isEmpty) = true := by
            cases hh : Txt.words y with
            | nil => exact absurd hh hw
            | cons a r => rfl
          cases hs2 : s.2 with
          | false =>
            have er : rowstep s (Txt.words y) = (s.1 ++ [Txt.words y], true) := (if_neg hw).trans (if_neg (by rw [hs2]; exact Bool.false_ne_true))
            refine s_if (b := true) (et_is (et_and (b := !false) (et_tru (ev_var rfl) (sq_of h1)) fun _ => et_B (ev_var rfl)) (by rw [hwe]; rfl)) (fun _ H3 e3 => ?_) (fun hb => nomatch hb)
            obtain ⟨vs, hv, hvl, _⟩ := hL.push hp (e1.trans e3) e (e3 _ _ h1) (fun b hb => by
              rw [List.mem_singleton.mp hb, hp0]
              exact fun q => nomatch q)
            refine s_app hv (ev_var rfl) (ev_var rfl) (by rw [hvl]; omega) fun H4 e4 => ?_
            obtain ⟨vs', hv', hvl', hL'⟩ := hL.push hp ((e1.trans e3).trans e4) e (e4 _ _ (e3 _ _ h1)) (fun b hb => by
              rw [List.mem_singleton.mp hb, hp0]
              exact fun q => nomatch q)
            have ev : vs' = vs := by
              rw [e4 _ _ hv] at hv'
              injection hv' with q
              injection q with q
              exact q.symm
            rw [ev] at hL'
            have np0 : p0 ≠ l := fun q => by
              rw [q] at hp0
              obtain ⟨vs2, h6, h7⟩ := hL.lst
              obtain ⟨_, ps, _, _, _, _, h8⟩ := hL
              exact (h8 p0 (List.mem_singleton.mpr rfl)).1 q
            have npl : p ≠ l := fun q => by
              obtain ⟨vs2, h6, h7⟩ := hL.lst
              rw [q, h6] at hp
              cases hp
            refine ⟨rfl, Ex.mut (((e.trans e1).trans e3).trans e4) l0, by rw [er]; exact hL', ?_, ?_⟩
            · rw [upd_ne np0]
              exact e4 _ _ (e3 _ _ (e1 _ _ hp0))
            · rw [upd_ne npl]
              exact e4 _ _ (e3 _ _ h1)
          | true =>
            have er : rowstep s (Txt.words y) = (s.1.dropLast ++ [s.1.getLastD [] ++ Txt.words y], true) := (if_neg hw).trans (if_pos hs2)
            refine s_if (b := false) (et_is (et_and (b := !true) (et_tru (ev_var rfl) (sq_of h1)) fun _ => et_B (ev_var rfl)) (by rw [hwe]; rfl)) (fun hb => nomatch hb) (fun _ H3 e3 => ?_)
            refine s_when (b := true) (et_is (et_tru (ev_var rfl) (sq_of (e3 _ _ h1))) hwe) (fun _ H4 e4 => ?_) (fun hb => nomatch hb)
            have e134 := (e1.trans e3).trans e4
            obtain ⟨vs, p2, xs, hv, hat, hp2, hdl, hp20, hexp, hup⟩ := (hL.mono e134).last (hne hs2)
            have egl : s.1.getLastD [] = xs := by
              rw [hdl, getLastD_snoc]
            have hxs : xs.length ≤ (s.1.map List.length).sum := by
              have h9 : xs ∈ s.1 := by
                rw [hdl]
                exact List.mem_append_right _ (List.mem_singleton.mpr rfl)
              exact mem_sum_le (List.mem_map_of_mem (f := List.length) h9)
            have np2 : p ≠ p2 := fun q => by
              obtain ⟨vs3, p3, xs3, _, _, hp3, hdl3, _⟩ := hL.last (hne hs2)
              obtain ⟨vs4, p4, xs4, hv4, hat4, hp4, _⟩ := hL.last (hne hs2)
              have e5 : vs4 = vs := by
                have q2 := e134 _ _ hv4
                rw [hv] at q2
                injection q2 with q2
                injection q2 with q2
                exact q2.symm
              rw [e5, hat] at hat4
              injection hat4 with q3
              injection q3 with q3
              rw [q, q3] at hp
              rw [hp] at hp4
              cases hp4
            refine s_ext (l := p2) (b := p) hp2 (e4 _ _ (e3 _ _ h1)) (ev_op (ev_var rfl) (ev_un ev_c ru_neg) (rv_ixL (sq_of hv) hat)) (ev_var rfl) (by rw [List.length_map, List.length_map]; omega) fun H5 e5 => ?_
            have hL' := hup H5 (Txt.words y) e5
            refine ⟨rfl, Ex.mut (((e.trans e1).trans (e3.trans e4)).trans e5) hp20, by rw [er, egl]; exact hL', ?_, ?_⟩
            · rw [upd_ne (hexp p0 (List.mem_singleton.mpr rfl))]
              exact e5 _ _ (e134 _ _ hp0)
            · rw [upd_ne np2]
              exact e5 _ _ (e4 _ _ (e3 _ _ h1))
      · rintro σ2 H2 ⟨rfl, e2, hL2, hp2, hw2⟩
        refine s_asg (v := .bl (!(rowstep s (Txt.words y)).2)) (ev_is (ev_notT (ev_var rfl) (sq_of hw2)) ?_) fun H3 e3 => ?_
        · have : (rowstep s (Txt.words y)).2 = !((Txt.words y).map V.str).isEmpty := by
            unfold rowstep
            cases Txt.words y with
            | nil => rfl
            | cons a r =>
              rw [if_neg (by simp)]
              split <;> rfl
          rw [this]
        · exact ⟨rowstep s (Txt.words y), _, _, rfl, e2.trans e3, hL2.mono e3, e3 _ _ hp2, rowstep_ne, hnext, by omega, by omega⟩
    · rintro p0 σ' H' ⟨s, xr, xw, rfl, e, hL, hp0, hne, hf, hsum, hcnt⟩
      rw [List.length_map, List.take_length] at hf
      have hpz : paras z = s.1 := by
        rw [paras, hrows, hf]
      refine s_ret (v := .ref l) (ev_var rfl) fun H2 e2 => k l H2 (e.trans e2) ?_
      rw [hpz]
      exact (hL.mono e2).drop

/-! ### _law_parts -/
def wS (b : Bool) : Str := if b = true then Str.ofString "word" else Str.empty
def rS (b : Bool) : Str := if b = true then Str.ofString "row" else Str.empty
structure GoodL (n : Nat) (s : LSt) : Prop where
  ne : s.h.length ≠ 0 ∨ s.r = true → s.p ≠ []
  hl : s.h.length ≤ n
  pl : s.p.length ≤ n
  xl : ∀ x ∈ s.p, x.length ≤ n
theorem GoodL.step1 {n : Nat} {s : LSt} (g : GoodL n s) (c : Nat) : GoodL (n + 1) (lstep1 s c) := by
  obtain ⟨g1, g2, g3, g4⟩ := g
  unfold lstep1
  split
  · refine ⟨fun _ => ?_, by simp only [len_app]; show s.h.length + 1 ≤ n + 1; omega, ?_, ?_⟩
    · simp only
      split
      · simp
      · rename_i hh
        refine g1 ?_
        by_cases h0 : s.h.length = 0
        · right
          cases hr : s.r with
          | true => rfl
          | false => exact absurd ⟨h0, hr⟩ hh
        · exact .inl h0
    · simp only
      split
      · rw [List.length_append, List.length_singleton]; omega
      · omega
    · intro x hx
      simp only at hx
      split at hx
      · rcases List.mem_append.mp hx with hx | hx
        · have := g4 x hx; omega
        · rw [List.mem_singleton.mp hx]; exact Nat.zero_le _
      · have := g4 x hx; omega
  · split
    · exact ⟨g1, by omega, by omega, fun x hx => by have := g4 x hx; omega⟩
    · rename_i _ h0
      have hn := g1 (.inl h0)
      have hl := snoc_last hn ([] : List Str)
      have hll := congrArg List.length hl
      rw [List.length_append, List.length_singleton] at hll
      have hm : s.p.getLastD [] ∈ s.p := by
        have q : s.p.getLastD [] ∈ s.p.dropLast ++ [s.p.getLastD []] := List.mem_append_right _ (List.mem_singleton.mpr rfl)
        rw [hl] at q
        exact q
      refine ⟨fun _ => by simp, Nat.zero_le _, ?_, fun x hx => ?_⟩
      · simp only
        rw [List.length_append, List.length_singleton]
        omega
      · simp only at hx
        rcases List.mem_append.mp hx with hx | hx
        · have := g4 x ((List.dropLast_sublist _).subset hx); omega
        · rw [List.mem_singleton.mp hx, List.length_append, List.length_singleton]
          have := g4 _ hm
          omega
theorem GoodL.step {n : Nat} {s : LSt} (g : GoodL n s) (c : Nat) : GoodL (n + 1) (lstep s c) := by
  have g' := g.step1 c
  unfold lstep
  split
  · refine ⟨fun h => g'.ne ?_, g'.hl, g'.pl, g'.xl⟩
    rcases h with h | h
    · exact .inl h
    · simp only at h
      split at h
      · exact .inr h
      · cases h
  · exact g'
theorem sign_eq (c d : Nat) : (V.str (⟨#[c]⟩ : Str) = V.str (⟨#[d]⟩ : Str)) ↔ c = d := ⟨fun q => by injection q with q; injection q with q; injection q with q; injection q with q, fun q => by rw [q]⟩
theorem wS_ne (b : Bool) : (!decide (V.str (wS b) = V.str (Str.ofString "word"))) = !b := by
  have h : ¬ Str.empty = Str.ofString "word" := by decide +kernel
  cases b with
  | true => rw [show wS true = Str.ofString "word" from if_pos rfl, decide_eq_true rfl]
  | false =>
    rw [show wS false = Str.empty from if_neg (by simp), decide_eq_false fun q => h (by injection q)]
theorem rS_ne (b : Bool) : (!decide (V.str (rS b) = V.str (Str.ofString "row"))) = !b := by
  have h : ¬ Str.empty = Str.ofString "row" := by decide +kernel
  cases b with
  | true => rw [show rS true = Str.ofString "row" from if_pos rfl, decide_eq_true rfl]
  | false =>
    rw [show rS false = Str.empty from if_neg (by simp), decide_eq_false fun q => h (by injection q)]
theorem good0 : GoodL 0 ⟨[], Str.empty, false, false⟩ := ⟨fun h => h.elim (fun h => absurd rfl h) (fun h => nomatch h), Nat.zero_le _, Nat.zero_le _, fun x hx => absurd hx (List.not_mem_nil)⟩
def sp_parts (K : PySem.W.Frag) : Sp := fun vs H Q _ => ∃ (z : Str), vs = [.str z] ∧ Txs z ∧ z.length ≤ 75000 ∧ ∀ l H2, Ex H H2 → LLs H H2 l [] (paras z) → Q (.ref l) H2
theorem ok_l_parts (T : Txt K mg A) : FnOk P w K mg base CX0 1 A.f_l_parts A.d_l_parts ["_law_signs"] (sp_parts K) := by
  refine T.F_l_parts.ok sc_l_parts (fun vs H Q E h => ?_) (fun cdv Ar outer s H vs Q E hr h => ?_)
  · obtain ⟨z, rfl, _⟩ := h
    rfl
  · obtain ⟨z, rfl, hz, hlen, k⟩ := h
    refine ⟨_, (pss_cons (ps_set (i := 1) sc_l_parts.nd rfl (.inl rfl) (pe_lst pa_nil))
  (pss_cons (ps_set (i := 2) sc_l_parts.nd rfl (.inl rfl) pe_str)
  (pss_cons (ps_set (i := 3) sc_l_parts.nd rfl (.inl rfl) (pe_lst (pa_cons pe_str (pa_cons pe_str pa_nil))))
  (pss_cons (ps_for PassesOwn.never rfl (pi_str (pe_op op_add_str (pv 0) pe_str)) (pg_name (i := 4) sc_l_parts.nd rfl (.inl rfl))
  (Evl.pss_cut (ps_if (PW.pt (pw_and (pt_cmpR op_ne (pv 4) pe_str (nomark _)) (pw_and1 (pt_cmpR op_ne (pv 4) pe_str (nomark _)))))
  (Evl.pss_cut (ps_if (PW.pt (pw_and (pt_cmpR op_eq (pv 2) pe_str (nomark _)) (pw_and1 (pt_cmpR op_ne (pe_ix (ixL (K := K) rfl) (pv 3) pe_int (fun _ _ => rfl)) pe_str (nomark _)))))
  (pss_one (ps_expr (pe_bm PySem.F.plainAttrs_list PySem.F.slot_list_append PySem.F.type_list_append mt_append (pv 1) (pa_cons (pe_lst pa_nil) pa_nil))))
  pss_nil)
  (pss_cons (ps_set (i := 2) sc_l_parts.nd rfl (.inl rfl) (pe_op op_add_str (pv 2) (pv 4)))
  (pss_cons (ps_asg pe_str (pg_sub (pv 3) pe_int set_list))
  (pss_one (ps_asg pe_str (pg_sub (pv 3) pe_int set_list))))))
  (pss_one (ps_if (pt_cmpR op_ne (pv 2) pe_str (nomark _))
  (pss_cons (ps_expr (pe_bm PySem.F.plainAttrs_list PySem.F.slot_list_append PySem.F.type_list_append mt_append (pe_ix (ixL (K := K) rfl) (pv 1) (pe_un un_neg pe_int) (fun _ _ => rfl)) (pa_cons (pv 2) pa_nil)))
  (pss_one (ps_set (i := 2) sc_l_parts.nd rfl (.inl rfl) pe_str)))
  pss_nil)))
  (pss_one (ps_if (pt_cmpR op_eq (pv 4) pe_str (nomark _))
  (Evl.pss_cut (ps_if (pt_cmpR op_ne (pe_ix (ixL (K := K) rfl) (pv 3) pe_int (fun _ _ => rfl)) pe_str (nomark _))
  (pss_one (ps_asg pe_str (pg_sub (pv 3) pe_int set_list)))
  pss_nil)
  (pss_one (ps_asg pe_str (pg_sub (pv 3) pe_int set_list))))
  pss_nil))))
  (pss_one (ps_ret (pv 1))))))), ?_⟩
    refine q_asgL (xs := []) (el_lst ea_nil (Nat.zero_le _)) fun l H1 l0 e1 hl1 => ?_
    refine q_asg (v := .str Str.empty) ev_none fun H2 e2 => ?_
    refine q_asgL (xs := [.str Str.empty, .str Str.empty]) (el_lst (ea_cons ev_none (ea_cons ev_none ea_nil)) (Nat.le_of_ble_eq_true rfl)) fun b H3 b0 e3 hb3 => ?_
    have nbl : b ≠ l := fun q => by
      rw [q, e2 _ _ hl1] at b0
      cases b0
    have b00 : H b = none := fresh_back (e1.trans e2) b0
    have hzz : Txs (z ++ lfS) := hz.app (txs_one (.inr (.inl rfl)))
    refine q_forS (z := z ++ lfS) (ev_op (ev_var rfl) ev_lf (rv_addS (show z.length + 1 ≤ 100000 by omega)))
      (fun i σ' H' => ∃ s x, σ' = [some (.str z), some (.ref l), some (.str s.h), some (.ref b), x] ∧ Ex H H' ∧ LLs H H' l [b] s.p ∧ H' b = some (.lst [.str (wS s.w), .str (rS s.r)]) ∧
        ((TL.tl (z ++ lfS)).take i).foldl lstep ⟨[], Str.empty, false, false⟩ = s ∧ GoodL i s)
      (fun H4 e4 => ⟨⟨[], Str.empty, false, false⟩, none, rfl, ((e1.trans e2).trans e3).trans e4, LLs.zero l0 (e4 _ _ (e3 _ _ (e2 _ _ hl1))) (fun b' hb' => by
        rw [List.mem_singleton.mp hb']
        exact nbl), (show H4 b = some (.lst [.str (wS false), .str (rS false)]) from e4 _ _ hb3), rfl, good0⟩) ?_ ?_
    · rintro i c σ' H' hi ⟨s, x, rfl, e, hL, hb, hf, hg⟩
      have hi1 : i < 75001 := by
        have q := (List.getElem?_eq_some_iff.mp hi).1
        rw [← TL.len_tl, len_app] at q
        have q2 : i < z.length + 1 := q
        omega
      have hc : Ts c := hzz c (List.mem_of_getElem? hi)
      have hnext : ((TL.tl (z ++ lfS)).take (i + 1)).foldl lstep ⟨[], Str.empty, false, false⟩ = lstep s c := by
        rw [List.take_add_one, hi, List.foldl_append, hf] <;> rfl
      have hg1 := hg.step1 c
      have hg2 := hg.step c
      have nb : ∀ {vs : List V} {H5 : Hp}, H5 l = some (.lst vs) → b ≠ l := fun _ => nbl
      refine q_cut (M := fun σ2 H2 => σ2 = [some (.str z), some (.ref l), some (.str (lstep1 s c).h), some (.ref b), some (.str ⟨#[c]⟩)] ∧ Ex H H2 ∧ LLs H H2 l [b] (lstep1 s c).p ∧ H2 b = some (.lst [.str (wS (lstep1 s c).w), .str (rS (lstep1 s c).r)])) ?_ ?_
      · refine s_if (b := decide (c ≠ 32 ∧ c ≠ 10)) ?_ (fun hb1 H4 e4 => ?_) (fun hb1 H4 e4 => ?_)
        · refine et_is (et_and (et_test (ev_op (ev_var rfl) ev_blank (rv_ne rfl))) fun _ => et_test (ev_op (ev_var rfl) ev_lf (rv_ne rfl))) ?_
          rw [Bool.eq_iff_iff]
          have j1 := sign_eq c 32
          have j2 := sign_eq c 10
          simp only [Bool.and_eq_true, Bool.not_eq_true', decide_eq_false_iff_not, decide_eq_true_eq, j1, j2]
        · obtain ⟨h32, h10⟩ := of_decide_eq_true hb1
          have hsp : Unicode.isSpace c = false := by
            rcases hc with q | q | q
            · exact absurd q h32
            · exact absurd q h10
            · exact space_ws c q
          have es : lstep1 s c = ⟨if s.h.length = 0 ∧ s.r = false then s.p ++ [[]] else s.p, s.h ++ ⟨#[c]⟩, true, true⟩ := if_pos hsp
          -- a new paragraph, where none is open
          refine q_cut (M := fun σ2 H2 => σ2 = [some (.str z), some (.ref l), some (.str s.h), some (.ref b), some (.str ⟨#[c]⟩)] ∧ Ex H H2 ∧ LLs H H2 l [b] (lstep1 s c).p ∧ H2 b = some (.lst [.str (wS s.w), .str (rS s.r)])) ?_ ?_
          · have hL4 := hL.mono e4
            refine s_when (b := decide (V.str s.h = V.str Str.empty) && !s.r) (et_and (et_test (ev_op (ev_var rfl) ev_none (rv_eq rfl))) fun _ => et_test (ev_is (ev_op (ev_op (ev_var rfl) ev_c (rv_ixL (sq_of (e4 _ _ hb)) (atI_nat (j := 1) rfl))) ev_c (rv_ne rfl)) (by rw [rS_ne]))) (fun hb2 H5 e5 => ?_) (fun hb2 H5 e5 => ?_)
            · simp only [Bool.and_eq_true, decide_eq_true_eq, Bool.not_eq_true'] at hb2
              have h0 : s.h.length = 0 := by
                have q := hb2.1
                injection q with q
                rw [q]
                rfl
              have ep : (lstep1 s c).p = s.p ++ [[]] := by
                rw [es]
                exact if_pos ⟨h0, hb2.2⟩
              obtain ⟨vs, hv, hvl⟩ := (hL4.mono e5).lst
              refine s_appL (xs := vs) (ys := []) hv (ev_var rfl) (el_lst ea_nil (Nat.zero_le _)) (by rw [hvl]; have := hg.pl; omega) fun p H6 hp e6 h6 => ?_
              obtain ⟨vs', hv', _, hL'⟩ := (hL4.mono e5).push (w := []) hp e6 ((e.trans e4).trans e5) h6 (fun b' hb' => by
                rw [List.mem_singleton.mp hb', e5 _ _ (e4 _ _ hb)]
                exact fun q => nomatch q)
              have ev : vs' = vs := by
                rw [e6 _ _ hv] at hv'
                injection hv' with q
                injection q with q
                exact q.symm
              rw [ev] at hL'
              refine ⟨rfl, Ex.mut (((e.trans e4).trans e5).trans e6) l0, by rw [ep]; exact hL', ?_⟩
              rw [upd_ne nbl]
              exact e6 _ _ (e5 _ _ (e4 _ _ hb))
            · have ep : (lstep1 s c).p = s.p := by
                rw [es]
                refine if_neg fun q => ?_
                rw [KWd.len0 q.1, q.2] at hb2
                simp at hb2
              exact ⟨rfl, (e.trans e4).trans e5, by rw [ep]; exact hL4.mono e5, e5 _ _ (e4 _ _ hb)⟩
          · rintro σ2 H2 ⟨rfl, e2, hL2, hb2⟩
            have eh : (lstep1 s c).h = s.h ++ ⟨#[c]⟩ := by rw [es]
            refine q_asg (v := .str (s.h ++ (⟨#[c]⟩ : Str))) (ev_op (ev_var rfl) (ev_var rfl) (rv_addS (show s.h.length + 1 ≤ 100000 by have := hg.hl; omega))) fun H5 e5 => ?_
            refine q_setL (l := b) (xs := [.str (wS s.w), .str (rS s.r)]) (j := 1) (v := .str (Str.ofString "row")) (e5 _ _ hb2) ev_c (ev_var rfl) ev_c (show 1 < 2 by decide) fun H6 e6 => ?_
            refine s_setL (l := b) (xs := [.str (wS s.w), .str (Str.ofString "row")]) (j := 0) (v := .str (Str.ofString "word")) upd_same ev_c (ev_var rfl) ev_c (show 0 < 2 by decide) fun H7 e7 => ?_
            refine ⟨by rw [eh] <;> rfl, Ex.mut ((Ex.mut ((e2.trans e5).trans e6) b00).trans e7) b00, ((((hL2.mono e5).mono e6).other (List.mem_singleton.mpr rfl)).mono e7).other (List.mem_singleton.mpr rfl), ?_⟩
            rw [upd_same, es]
            rfl
        · have hcc : c = 32 ∨ c = 10 := by
            have q := of_decide_eq_false hb1
            omega
          have hsp : ¬ Unicode.isSpace c = false := by
            rcases hcc with q | q <;> rw [q]
            · rw [space_32]; decide
            · rw [space_10]; decide
          refine s_when (b := !decide (V.str s.h = V.str Str.empty)) (et_test (ev_op (ev_var rfl) ev_none (rv_ne rfl))) (fun hb2 H5 e5 => ?_) (fun hb2 H5 e5 => ?_)
          · have h0 : ¬ s.h.length = 0 := fun q => by
              rw [KWd.len0 q] at hb2
              simp at hb2
            have es : lstep1 s c = ⟨s.p.dropLast ++ [s.p.getLastD [] ++ [s.h]], Str.empty, s.w, s.r⟩ := (if_neg hsp).trans (if_neg h0)
            have e45 := e4.trans e5
            obtain ⟨vs, p, xs, hv, hat, hp, hdl, hp0, hexp, hup⟩ := (hL.mono e45).last (hg.ne (.inl h0))
            have egl : s.p.getLastD [] = xs := by
              rw [hdl, getLastD_snoc]
            have hxm : xs ∈ s.p := by
              rw [hdl]
              exact List.mem_append_right _ (List.mem_singleton.mpr rfl)
            refine q_app (l := p) (xs := xs.map V.str) (v := .str s.h) hp (ev_op (ev_var rfl) (ev_un ev_c ru_neg) (rv_ixL (sq_of hv) hat)) (ev_var rfl) (by rw [List.length_map]; have := hg.xl xs hxm; omega) fun H6 e6 => ?_
            have hL' := hup H6 [s.h] e6
            refine s_asg (v := .str Str.empty) ev_none fun H7 e7 => ?_
            refine ⟨by rw [es] <;> rfl, (Ex.mut ((e.trans e45).trans e6) hp0).trans e7, by rw [es]; rw [egl]; exact hL'.mono e7, ?_⟩
            rw [es]
            refine e7 _ _ ?_
            rw [upd_ne (hexp b (List.mem_singleton.mpr rfl))]
            exact e6 _ _ (e45 _ _ hb)
          · have h0 : s.h.length = 0 := by
              simp only [Bool.not_eq_false', decide_eq_true_eq] at hb2
              injection hb2 with q
              rw [q]
              rfl
            have es : lstep1 s c = s := (if_neg hsp).trans (if_pos h0)
            rw [es]
            exact ⟨rfl, (e.trans e4).trans e5, (hL.mono e4).mono e5, e5 _ _ (e4 _ _ hb)⟩
      · rintro σ2 H2 ⟨rfl, e2, hL2, hb2⟩
        refine s_when (b := decide (c = 10)) (et_test (ev_is (ev_op (ev_var rfl) ev_lf (rv_eq rfl)) ?_)) (fun hb1 H4 e4 => ?_) (fun hb1 H4 e4 => ?_)
        · have j := sign_eq c 10
          congr 1
          rw [Bool.eq_iff_iff]
          simp only [decide_eq_true_eq, j]
        · have hc10 := of_decide_eq_true hb1
          have es : lstep s c = ⟨(lstep1 s c).p, (lstep1 s c).h, false, if (lstep1 s c).w = true then (lstep1 s c).r else false⟩ := if_pos hc10
          refine q_cut (M := fun σ3 H3 => σ3 = [some (.str z), some (.ref l), some (.str (lstep1 s c).h), some (.ref b), some (.str ⟨#[c]⟩)] ∧ Ex H H3 ∧ LLs H H3 l [b] (lstep1 s c).p ∧ H3 b = some (.lst [.str (wS (lstep1 s c).w), .str (rS (lstep s c).r)])) ?_ ?_
          · refine s_when (b := !(lstep1 s c).w) (et_test (ev_is (ev_op (ev_op (ev_var rfl) ev_c (rv_ixL (sq_of (e4 _ _ hb2)) (atI_nat (j := 0) rfl))) ev_c (rv_ne rfl)) (by rw [wS_ne]))) (fun hb3 H5 e5 => ?_) (fun hb3 H5 e5 => ?_)
            · have ew : (lstep1 s c).w = false := by simpa using hb3
              have er : (lstep s c).r = false := by
                rw [es, ew]
                rfl
              refine s_setL (l := b) (xs := [.str (wS (lstep1 s c).w), .str (rS (lstep1 s c).r)]) (j := 1) (v := .str Str.empty) (e5 _ _ (e4 _ _ hb2)) ev_none (ev_var rfl) ev_c (show 1 < 2 by decide) fun H6 e6 => ?_
              refine ⟨rfl, Ex.mut (((e2.trans e4).trans e5).trans e6) b00, (((hL2.mono e4).mono e5).mono e6).other (List.mem_singleton.mpr rfl), ?_⟩
              rw [upd_same, er]
              rfl
            · have ew : (lstep1 s c).w = true := by simpa using hb3
              have er : (lstep s c).r = (lstep1 s c).r := by
                rw [es]
                exact if_pos ew
              rw [er]
              exact ⟨rfl, (e2.trans e4).trans e5, (hL2.mono e4).mono e5, e5 _ _ (e4 _ _ hb2)⟩
          · rintro σ3 H3 ⟨rfl, e3, hL3, hb3⟩
            refine s_setL (l := b) (xs := [.str (wS (lstep1 s c).w), .str (rS (lstep s c).r)]) (j := 0) (v := .str Str.empty) hb3 ev_none (ev_var rfl) ev_c (show 0 < 2 by decide) fun H6 e6 => ?_
            have eh : (lstep s c).h = (lstep1 s c).h := by rw [es]
            have ep : (lstep s c).p = (lstep1 s c).p := by rw [es]
            have ew : (lstep s c).w = false := by rw [es]
            refine ⟨lstep s c, _, by rw [eh], Ex.mut (e3.trans e6) b00, by rw [ep]; exact (hL3.mono e6).other (List.mem_singleton.mpr rfl), ?_, hnext, hg2⟩
            rw [upd_same, ew]
            rfl
        · have es : lstep s c = lstep1 s c := if_neg (of_decide_eq_false hb1)
          refine ⟨lstep s c, _, by rw [es], e2.trans e4, by rw [es]; exact hL2.mono e4, by rw [es]; exact e4 _ _ hb2, hnext, hg2⟩
    · rintro σ' H' ⟨s, x, rfl, e, hL, hb, hf, hg⟩
      rw [List.take_length, TL.tl_append] at hf
      have hpz : paras z = s.p := by
        rw [← paras_signs, ← hf]
        rfl
      refine s_ret (v := .ref l) (ev_var rfl) fun H2 e2 => k l H2 (e.trans e2) ?_
      rw [hpz]
      exact (hL.mono e2).drop

/-! ### textwrapper.measure: widths -/
def sp_check_width (A : Ad) : Sp := fun vs H Q E => ∃ w : Int, vs = [.int w] ∧ (w < 1 → ∀ H', Ex H H' → E (.ref A.c_NoWidth) none H') ∧ (1 ≤ w → RetV .non H Q)
theorem ok_check_width (T : Txt K mg A) : FnOk P w K mg base (L2N.CX P w) 1 A.f_check_width A.d_check_width ["width"] (sp_check_width A) := by
  refine Fun.okN T.F_check_width sc_check_width (fun vs H Q E h => ?_) (fun cdv Ar outer s H vs Q E hr h => ?_)
  · obtain ⟨i, rfl, _⟩ := h
    rfl
  · obtain ⟨i, rfl, h1, h2⟩ := h
    refine ⟨_, (pss_one (ps_if (pt_cmpR op_lt (pv 0) pe_int (nomark _))
  (pss_one (L2N.ps_raise rfl (L2N.takes_of rfl rfl rfl rfl) (L2N.pmk_own PySem.F.excBase_ValueError T.ex_NoWidth.x T.gc_NoWidth T.ex_NoWidth.k (raises_own T.ex_NoWidth.e.hs T.ex_NoWidth.t) rfl)))
  pss_nil)), ?_⟩
    refine s_when (b := decide (i < 1)) (by walk_at "et") (fun hb H1 e1 => ?_) (fun hb H1 e1 => ?_)
    · exact h1 (of_decide_eq_true hb) H1 e1
    · have := of_decide_eq_false hb
      exact h2 (by omega) H1 e1
def firstLong (ws : List Str) (w : Int) : Option Nat := ws.findIdx? fun z => decide (w < (z.length : Int))
def optV : Option Nat → V
  | none => .non
  | some k => .int (k : Int)
theorem fl_some {ws : List Str} {w : Int} {i : Nat} {y : Str} (h : ∀ z ∈ ws.take i, ¬ w < (z.length : Int)) (hy : ws[i]? = some y) (hl : w < (y.length : Int)) : firstLong ws w = some i := by
  unfold firstLong
  rw [List.findIdx?_eq_some_iff_getElem]
  obtain ⟨hi, e⟩ := List.getElem?_eq_some_iff.mp hy
  refine ⟨hi, by rw [e]; exact decide_eq_true hl, fun j hj => ?_⟩
  have hm : ws[j] ∈ ws.take i := by
    rw [List.mem_take_iff_getElem]
    exact ⟨j, by omega, rfl⟩
  simp only [decide_eq_true_eq]
  exact h _ hm
theorem fl_none {ws : List Str} {w : Int} (h : ∀ z ∈ ws, ¬ w < (z.length : Int)) : firstLong ws w = none := by
  unfold firstLong
  rw [List.findIdx?_eq_none_iff]
  exact fun z hz => decide_eq_false (h z hz)
def sp_long_word (K : PySem.W.Frag) (A : Ad) : Sp := fun vs H Q E => ∃ (p : Addr) (ws : List Str) (w : Int), vs = [.ref p, .int w] ∧ SqL K H p (ws.map V.str) ∧ Tot ws ∧ (w < 1 → ∀ H', Ex H H' → E (.ref A.c_NoWidth) none H') ∧ (1 ≤ w → RetV (optV (firstLong ws w)) H Q)
theorem ok_long_word (T : Txt K mg A) : FnOk P w K mg base (L2N.CX P w) 2 A.f_long_word A.d_long_word ["words", "width"] (sp_long_word K A) := by
  refine Fun.okN T.F_long_word sc_long_word (fun vs H Q E h => ?_) (fun cdv Ar outer s H vs Q E hr h => ?_)
  · obtain ⟨p, ws, i, rfl, _⟩ := h
    rfl
  · obtain ⟨p, ws, wd, rfl, hS, hz, h1, h2⟩ := h
    refine ⟨_, (pss_cons (ps_expr (pe_call (ok_check_width T) (hr.mono (by decide)) rfl T.g_check_width T.F_check_width.kp T.b_check_width .nil (L2N.passes_call (L2N.takes_of rfl rfl rfl rfl) (fun _ _ _ _ h => h)) (pa_cons (pv 1) pa_nil)))
  (pss_cons (ps_for PassesOwn.leaving rfl (pi_enum (by rfl) T.m_enumerate (pa_cons (pv 0) pa_nil)) (pg_tup rfl (pgs_cons (pg_name (i := 2) sc_long_word.nd rfl (.inl rfl)) (pgs_cons (pg_name (i := 3) sc_long_word.nd rfl (.inl rfl)) pgs_nil)))
  (pss_one (ps_if (pt_cmpR op_gt (pe_callB call_len_str (by rfl) T.m_len PySem.boot_len (pa_cons (pv 3) pa_nil)) (pv 1) (nomark _))
  (pss_one (ps_ret (pv 2)))
  pss_nil)))
  (pss_one (ps_ret pe_non)))), ?_⟩
    refine q_dropA (ea_cons (ev_var rfl) ea_nil) fun H1 e1 => ⟨wd, rfl, fun hw H' e' => h1 hw H' (e1.trans e'), fun hw H2 e2 => ?_⟩
    have k := h2 hw
    refine q_forE (ea_cons (ev_var rfl) ea_nil) (ex_l (e1.trans e2) hS) (fun i σ' H' => ∃ x1 x2, σ' = [some (.ref p), some (.int wd), x1, x2] ∧ Ex H H' ∧ ∀ z ∈ ws.take i, ¬ wd < (z.length : Int))
      (fun H3 e3 => ⟨none, none, rfl, (e1.trans e2).trans e3, fun z hz' => absurd hz' (List.not_mem_nil)⟩) (fun i σ' H' _ ⟨_, _, _, e, _⟩ => ex_l e hS) ?_ ?_
    · rintro i x σ' H' H3 hi ⟨x1, x2, rfl, e, hn⟩ e3
      obtain ⟨y, hy, rfl⟩ : ∃ y, ws[i]? = some y ∧ V.str y = x := by
        rw [List.getElem?_map] at hi
        exact Option.map_eq_some_iff.mp hi
      have hyl := hz y (List.mem_of_getElem? hy)
      refine s_when (b := decide (wd < (y.length : Int))) (et_test (ev_op (ev_cb (ea_cons (ev_var rfl) ea_nil) (rc_lenS (by omega))) (ev_var rfl) rv_I0)) (fun hb H4 e4 => ?_) (fun hb H4 e4 => ?_)
      · rw [fl_some hn hy (of_decide_eq_true hb)] at k
        exact s_ret (ev_var rfl) fun H5 e5 => k H5 (((e.trans e3).trans e4).trans e5)
      · refine ⟨_, _, rfl, (e.trans e3).trans e4, fun z hz' => ?_⟩
        rw [List.take_add_one, hy] at hz'
        rcases List.mem_append.mp hz' with q | q
        · exact hn z q
        · rw [List.mem_singleton.mp q]
          exact of_decide_eq_false hb
    · rintro σ' H' ⟨x1, x2, rfl, e, hn⟩
      rw [List.length_map, List.take_length] at hn
      rw [fl_none hn] at k
      exact s_ret (v := .non) ev_c fun H5 e5 => k H5 (e.trans e5)

/-! ### check_words, quick_starts -/
def sp_check_words (K : PySem.W.Frag) (A : Ad) : Sp := fun vs H Q E => ∃ (p : Addr) (ws : List Str) (w : Int), vs = [.ref p, .int w] ∧ SqL K H p (ws.map V.str) ∧ Tot ws ∧ (w < 1 → ∀ H', Ex H H' → E (.ref A.c_NoWidth) none H') ∧
  (1 ≤ w → (∃ z ∈ ws, w < (z.length : Int)) → ∀ H', Ex H H' → E (.ref A.c_LongWord) none H') ∧ (1 ≤ w → (∀ z ∈ ws, (z.length : Int) ≤ w) → RetV .non H Q)
theorem fl_has {ws : List Str} {w : Int} {i : Nat} (h : firstLong ws w = some i) : ∃ z ∈ ws, w < (z.length : Int) := by
  unfold firstLong at h
  rw [List.findIdx?_eq_some_iff_getElem] at h
  obtain ⟨hi, e, _⟩ := h
  exact ⟨ws[i], List.getElem_mem hi, of_decide_eq_true e⟩
theorem fl_hasnt {ws : List Str} {w : Int} (h : firstLong ws w = none) : ∀ z ∈ ws, (z.length : Int) ≤ w := fun z hz => by
  unfold firstLong at h
  rw [List.findIdx?_eq_none_iff] at h
  have q := of_decide_eq_false (h z hz)
  omega
theorem ok_check_words (T : Txt K mg A) : FnOk P w K mg base (L2N.CX P w) 3 A.f_check_words A.d_check_words ["words", "width"] (sp_check_words K A) := by
  refine Fun.okN T.F_check_words sc_check_words (fun vs H Q E h => ?_) (fun cdv Ar outer s H vs Q E hr h => ?_)
  · obtain ⟨p, ws, i, rfl, _⟩ := h
    rfl
  · obtain ⟨p, ws, wd, rfl, hS, hz, h1, h2, h3⟩ := h
    refine ⟨_, (pss_one (ps_if (pt_cmpR op_notN1 (pe_call (ok_long_word T) (hr.mono (by decide)) rfl T.g_long_word T.F_long_word.kp T.b_long_word .nil (L2N.passes_call (L2N.takes_of rfl rfl rfl rfl) (fun _ _ _ _ h => h)) (pa_cons (pv 0) (pa_cons (pv 1) pa_nil))) pe_non (nomark _))
  (pss_one (L2N.ps_raise rfl (L2N.takes_of rfl rfl rfl rfl) (L2N.pmk_own PySem.F.excBase_ValueError T.ex_LongWord.x T.gc_LongWord T.ex_LongWord.k (raises_own T.ex_LongWord.e.hs T.ex_LongWord.t) rfl)))
  pss_nil)), ?_⟩
    refine s_ifNotN (ea_cons (ev_var rfl) (ea_cons (ev_var rfl) ea_nil)) fun H1 e1 => ⟨p, ws, wd, rfl, ex_l e1 hS, hz, fun hw H' e' => h1 hw H' (e1.trans e'), fun hw H2 e2 => ?_⟩
    cases hf : firstLong ws wd with
    | none => exact ⟨rfl, false, rfl, h3 hw (fl_hasnt hf) H2 (e1.trans e2)⟩
    | some i => exact ⟨rfl, true, rfl, h2 hw (fl_has hf) H2 (e1.trans e2)⟩

/-! ### textwrapper.measure, textwrapper.least: the table -/
theorem s_retP {ta : TA} {sp : Sp} {dvs : List V} {E : XK} {P : List V → Hp → Prop} {σ : L2.St} {H : Hp} {D : Ends} (h : ArgP ta σ H P) (k : ∀ vs H1, Ex H H1 → P vs H1 → sp (vs ++ dvs) H1 (fun v H2 => D.rt v H2) E) : tRet (tCall sp dvs E ta) D σ H := h H (Ex.refl H) _ k
theorem el_repZ {ta tb : TE} {σ : L2.St} {H : Hp} {n : Nat} (h : EvL ta σ H [.int 0]) (hb : Ev tb σ H (.int ((n : Int) + 1))) (hn : n ≤ 40000) : EvL (tOp rRep ta tb) σ H ((tabZ (fun _ => 0) n n).map V.int) := fun H1 e Q q =>
  h H1 e _ fun p H2 _ e2 hp => hb H2 (e.trans e2) _ fun H3 e3 => ⟨p, _, _, rfl, rfl, e3 _ _ hp, by omega, by omega, sz_of (by show 1 * _ ≤ _; omega), fun r hr => by
    rw [tabZ_start n]
    exact q r _ (fresh_back (e2.trans e3) hr) ((e2.trans e3).trans (Ex.new hr)) upd_same⟩
def sp_sizes_from (K : PySem.W.Frag) : Sp := fun vs H Q _ => ∃ (p : Addr) (ws : List Str) (w : Int) (b : Nat), vs = [.ref p, .int w, .int b] ∧ SqL K H p (ws.map V.str) ∧ Tot ws ∧ ws.length ≤ 40000 ∧ b ≤ ws.length ∧ ∀ m, IsCnt ws w b m → RetL ((sizesL ws b m).map V.int) H Q
theorem sizesL_succ (ws : List Str) (b i : Nat) : (sizesL ws b i).map V.int ++ [V.int (sizeN ws b (b + 1 + i) : Int)] = (sizesL ws b (i + 1)).map V.int := by
  unfold sizesL
  rw [List.range_succ, List.map_append, List.map_append] <;> rfl
theorem sizesL_len (ws : List Str) (b i : Nat) : (sizesL ws b i).length = i := by
  unfold sizesL
  rw [List.length_map, List.length_range]
def szA (ws : List Str) (b i : Nat) : Int := if i = 0 then -1 else (sizeN ws b (b + i) : Int)
theorem szA_succ {ws : List Str} {b i : Nat} {z : Str} (h : ws[b + i]? = some z) : szA ws b i + 1 + (z.length : Int) = (sizeN ws b (b + 1 + i) : Int) := by
  unfold szA
  by_cases q : i = 0
  · subst q
    rw [if_pos rfl, show b + 1 + 0 = b + 0 + 1 by omega]
    have h' := size_one h
    rw [show b + 0 = b by omega] at *
    omega
  · rw [if_neg q, show b + 1 + i = b + i + 1 by omega, size_succ (show b < b + i by omega) h]
    omega
theorem ok_sizes_from (T : Txt K mg A) : FnOk P w K mg base CX0 1 A.f_sizes_from A.d_sizes_from ["words", "width", "begin"] (sp_sizes_from K) := by
  refine T.F_sizes_from.ok sc_sizes_from (fun vs H Q E h => ?_) (fun cdv Ar outer s H vs Q E hr h => ?_)
  · obtain ⟨p, ws, wd, b, rfl, _⟩ := h
    rfl
  · obtain ⟨p, ws, wd, b, rfl, hS, hz, hl, hb, k⟩ := h
    refine ⟨_, (pss_cons (ps_set (i := 3) sc_sizes_from.nd rfl (.inl rfl) (pe_lst pa_nil))
  (pss_cons (ps_set (i := 4) sc_sizes_from.nd rfl (.inl rfl) (pe_un un_neg pe_int))
  (pss_cons (ps_for PassesOwn.never rfl (pi_range2 (by rfl) T.m_range (pa_cons (pv 2) (pa_cons (pe_callB call_len_seq (by rfl) T.m_len PySem.boot_len (pa_cons (pv 0) pa_nil)) pa_nil))) (pg_name (i := 5) sc_sizes_from.nd rfl (.inl rfl))
  (pss_cons (ps_set (i := 4) sc_sizes_from.nd rfl (.inl rfl) (pe_op op_add (pe_op op_add (pv 4) pe_int) (pe_callB call_len_str (by rfl) T.m_len PySem.boot_len (pa_cons (pe_ix (ixL (K := K) rfl) (pv 0) (pv 5) (fun _ _ => rfl)) pa_nil))))
  (pss_cons (ps_if (pt_cmpR op_gt (pv 4) (pv 1) (nomark _))
  (pss_one (ps_ret (pv 3)))
  pss_nil)
  (pss_one (ps_expr (pe_bm PySem.F.plainAttrs_list PySem.F.slot_list_append PySem.F.type_list_append mt_append (pv 3) (pa_cons (pv 4) pa_nil)))))))
  (pss_one (ps_ret (pv 3)))))), ?_⟩
    have nl : (ws.map V.str).length = ws.length := List.length_map ..
    refine q_asgL (xs := []) (el_lst ea_nil (Nat.zero_le _)) fun l H1 l0 e1 hl1 => ?_
    refine q_asg (v := .int (-1)) (ev_un ev_c ru_neg) fun H2 e2 => ?_
    have e12 := e1.trans e2
    refine q_forR2 (lo := b) (n := (ws.map V.str).length) (ea_cons (ev_var rfl) (ea_cons (ev_cb (ea_cons (ev_var rfl) ea_nil) (rc_lenL (ex_l e12 hS))) ea_nil)) ⟨by omega, by omega, by omega, by omega⟩
      (fun i σ' H' => ∃ x, σ' = [some (.ref p), some (.int wd), some (.int b), some (.ref l), some (.int (szA ws b i)), x] ∧ Ex H H' ∧ H' l = some (.lst ((sizesL ws b i).map V.int)) ∧ ∀ j, j < i → (sizeN ws b (b + 1 + j) : Int) ≤ wd)
      (fun H3 e3 => ⟨none, rfl, e12.trans e3, e3 _ _ (e2 _ _ hl1), fun j hj => absurd hj (Nat.not_lt_zero _)⟩) ?_ ?_
    · rintro i σ' H' hi ⟨x, rfl, e, hlS, hf⟩
      have hbi : b + i < ws.length := by omega
      have hy : ws[b + i]? = some ws[b + i] := List.getElem?_eq_getElem hbi
      have hyl := hz ws[b + i] (List.getElem_mem hbi)
      have g : (ws.map V.str)[b + i]? = some (.str ws[b + i]) := by
        rw [List.getElem?_map, hy] <;> rfl
      refine q_asg (v := .int (sizeN ws b (b + 1 + i) : Int)) (ev_is (ev_op (ev_op (ev_var rfl) ev_c rv_I0) (ev_cb (ea_cons (ev_op (ev_var rfl) (ev_var rfl) (rv_ixL (ex_l e hS) (by rw [show (b : Int) + (i : Int) = ((b + i : Nat) : Int) by omega]; exact atI_nat g))) ea_nil) (rc_lenS (by omega))) rv_I0) (by rw [szA_succ hy])) fun H3 e3 => ?_
      refine q_when (b := decide (wd < (sizeN ws b (b + 1 + i) : Int))) (et_test (ev_op (ev_var rfl) (ev_var rfl) rv_I0)) (fun hb2 H4 e4 => ?_) (fun hb2 H4 e4 => ?_)
      · have e34 := (e.trans e3).trans e4
        exact s_ret (v := .ref l) (ev_var rfl) fun H5 e5 => k i ⟨by omega, hf, fun _ => by have := of_decide_eq_true hb2; rw [show b + i + 1 = b + 1 + i by omega]; exact this⟩ l H5 l0 (e34.trans e5) (e5 _ _ (e4 _ _ (e3 _ _ hlS)))
      · have hle : (sizeN ws b (b + 1 + i) : Int) ≤ wd := by
          have := of_decide_eq_false hb2
          omega
        refine s_app (e4 _ _ (e3 _ _ hlS)) (ev_var rfl) (ev_var rfl) (by rw [List.length_map, sizesL_len]; omega) fun H5 e5 => ?_
        refine ⟨some (.int ((b : Int) + (i : Int))), ?_, Ex.mut (((e.trans e3).trans e4).trans e5) l0, ?_, fun j hj => ?_⟩
        · rw [show szA ws b (i + 1) = (sizeN ws b (b + 1 + i) : Int) by unfold szA; rw [if_neg (by omega), show b + (i + 1) = b + 1 + i by omega]] <;> rfl
        · rw [sizesL_succ]
          exact upd_same
        · rcases Nat.lt_or_ge j i with q | q
          · exact hf j q
          · rw [show j = i by omega]
            exact hle
    · rintro σ' H' ⟨x, rfl, e, hlS, hf⟩
      rw [show (((ws.map V.str).length : Int) - (b : Int)).toNat = ws.length - b by omega] at hlS hf
      exact s_ret (v := .ref l) (ev_var rfl) fun H5 e5 => k (ws.length - b) ⟨by omega, hf, fun q => by omega⟩ l H5 l0 (e.trans e5) (e5 _ _ hlS)
def sp_squares (K : PySem.W.Frag) : Sp := fun vs H Q _ => ∃ (q : Addr) (zs : List Int) (w : Int), vs = [.int w, .ref q] ∧ SqL K H q (zs.map V.int) ∧ (∀ z ∈ zs, z.natAbs ≤ 1000000) ∧ zs.length ≤ 40000 ∧ WidB w ∧ RetL ((zs.map fun z => (w - z) ^ (2 : Int).toNat).map V.int) H Q
theorem ok_squares_of (T : Txt K mg A) : FnOk P w K mg base CX0 1 A.f_squares_of A.d_squares_of ["width", "sizes"] (sp_squares K) := by
  refine T.F_squares_of.ok sc_squares_of (fun vs H Q E h => ?_) (fun cdv Ar outer s H vs Q E hr h => ?_)
  · obtain ⟨q, zs, wd, rfl, _⟩ := h
    rfl
  · obtain ⟨q, zs, wd, rfl, hS, hz, hl, hw, k⟩ := h
    refine ⟨_, (pss_one (ps_ret (pe_lc (own := [("size", 2)]) (tt := tYes) rfl sc_squares_of.nd (pi_list (pv 1)) (blkOk_by (N := N_squares_of) (sc := defScope s_squares_of) (by decide +kernel)) (fun _ _ _ _ _ => (pg_name (i := 2) sc_squares_of.nd rfl (.inl rfl))) (fun _ _ _ _ _ => pts_nil) (fun _ _ _ _ _ => (pe_op TwE.op_powE (pe_op op_sub (pv 0) (pv 2)) pe_int))))), ?_⟩
    have nz : (zs.map V.int).length = zs.length := List.length_map ..
    have el : (List.range (zs.map V.int).length).map (fun i => V.int ((wd - zs.getD i 0) ^ (2 : Int).toNat)) = (zs.map fun z => (wd - z) ^ (2 : Int).toNat).map V.int := by
      rw [nz, List.map_map]
      refine List.ext_getElem? fun j => ?_
      rw [List.getElem?_map, List.getElem?_map]
      by_cases hj : j < zs.length
      · rw [List.getElem?_range hj, List.getElem?_eq_getElem hj]
        show some (V.int ((wd - zs.getD j 0) ^ (2 : Int).toNat)) = _
        rw [List.getD_eq_getElem?_getD, List.getElem?_eq_getElem hj] <;> rfl
      · rw [List.getElem?_eq_none (by rw [List.length_range]; omega), List.getElem?_eq_none (by omega)] <;> rfl
    refine s_retL (xs := (zs.map fun z => (wd - z) ^ (2 : Int).toNat).map V.int) (el_is (el_lcX (fun i => V.int ((wd - zs.getD i 0) ^ (2 : Int).toNat)) (ev_var rfl) hS (by omega) (fun _ => rfl) fun i x H1 e1 hi => ?_) el) fun l H1 l0 e1 h1 => k l H1 l0 e1 h1
    rw [List.getElem?_map] at hi
    obtain ⟨z, hzi, rfl⟩ := Option.map_eq_some_iff.mp hi
    have ez : zs.getD i 0 = z := by
      rw [List.getD_eq_getElem?_getD, hzi] <;> rfl
    rw [ez]
    have hzb := hz z (List.mem_of_getElem? hzi)
    have hb2 : (wd - z).natAbs < 2 ^ 121 := by
      unfold WidB at hw
      omega
    have hbits := PyProof.Rows.intBits_le hb2
    exact ev_op (ev_op (ev_var rfl) (ev_var rfl) rv_I0) ev_c (rv_I ⟨by decide, by omega⟩)
def optI : Option Int → V
  | none => .non
  | some x => .int x
def pairV : Option (Int × Nat) → List V
  | none => [.non, .non]
  | some (l, e) => [.int l, .int (e : Int)]
def lstV : Option (Int × Nat) → V
  | none => .non
  | some (l, _) => .int l
def endV : Option (Int × Nat) → V
  | none => .non
  | some (_, e) => .int (e : Int)
def sp_best_line (K : PySem.W.Frag) : Sp := fun vs H Q _ => ∃ (c r : Addr) (cs : List Int) (rs : List (Option Int)) (b : Nat), vs = [.ref c, .int b, .ref r] ∧ SqL K H c (cs.map V.int) ∧ SqL K H r (rs.map optI) ∧ cs.length ≤ 40000 ∧ b + cs.length < rs.length ∧ rs.length ≤ 50000 ∧
  TwE.RetU (pairV (bestN (fun i => cs.getD i 0) (fun e => rs.getD e none) b cs.length)) H Q
theorem ok_best_line (T : Txt K mg A) : FnOk P w K mg base CX0 1 A.f_best_line A.d_best_line ["counts", "begin", "rest"] (sp_best_line K) := by
  refine T.F_best_line.ok sc_best_line (fun vs H Q E h => ?_) (fun cdv Ar outer s H vs Q E hr h => ?_)
  · obtain ⟨c, r, cs, rs, b, rfl, _⟩ := h
    rfl
  · obtain ⟨c, r, cs, rs, b, rfl, hc, hR, hcl, hbr, hrl, k⟩ := h
    refine ⟨_, (pss_cons (ps_set (i := 3) sc_best_line.nd rfl (.inl rfl) pe_non)
  (pss_cons (ps_set (i := 4) sc_best_line.nd rfl (.inl rfl) pe_non)
  (pss_cons (ps_for PassesOwn.never rfl (TwE.pi_enumC (by rfl) T.m_enumerate (pa_cons (pv 0) pa_nil) (pk_cons (pe_op op_add (pv 1) pe_int) pk_nil)) (pg_tup rfl (pgs_cons (pg_name (i := 5) sc_best_line.nd rfl (.inl rfl)) (pgs_cons (pg_name (i := 6) sc_best_line.nd rfl (.inl rfl)) pgs_nil)))
  (pss_cons (ps_if (pt_cmpR op_isN1 (pe_ix (ixL (K := K) rfl) (pv 2) (pv 5) (fun _ _ => rfl)) pe_non (nomark _))
  (pss_one ps_continue)
  pss_nil)
  (pss_cons (ps_set (i := 7) sc_best_line.nd rfl (.inl rfl) (pe_op op_add (pv 6) (pe_ix (ixL (K := K) rfl) (pv 2) (pv 5) (fun _ _ => rfl))))
  (pss_one (ps_if (PW.pt (pw_or (pt_cmpR op_isN1 (pv 3) pe_non (nomark _)) (pw_or1 (pt_cmpR op_le (pv 7) (pv 3) (nomark _)))))
  (pss_cons (ps_set (i := 3) sc_best_line.nd rfl (.inl rfl) (pv 7))
  (pss_one (ps_set (i := 4) sc_best_line.nd rfl (.inl rfl) (pv 5))))
  pss_nil)))))
  (pss_one (ps_ret (pe_tup (pa_cons (pv 3) (pa_cons (pv 4) pa_nil)))))))), ?_⟩
    have nc : (cs.map V.int).length = cs.length := List.length_map ..
    refine q_asg (v := .non) ev_c fun H1 e1 => ?_
    refine q_asg (v := .non) ev_c fun H2 e2 => ?_
    have e12 := e1.trans e2
    refine TwE.q_forC (c := (b : Int) + 1) (ea_cons (ev_var rfl) ea_nil) (ea_cons (ev_op (ev_var rfl) ev_c rv_I0) ea_nil) (by omega) (by omega) (ex_l e12 hc)
      (fun i σ' H' => ∃ x5 x6 x7, σ' = [some (.ref c), some (.int b), some (.ref r), some (lstV (bestN (fun i => cs.getD i 0) (fun e => rs.getD e none) b i)), some (endV (bestN (fun i => cs.getD i 0) (fun e => rs.getD e none) b i)), x5, x6, x7] ∧ Ex H H')
      (fun H3 e3 => ⟨none, none, none, rfl, e12.trans e3⟩) (fun i σ' H' _ ⟨_, _, _, _, e⟩ => ex_l e hc) ?_ ?_
    · rintro i x σ' H' H3 hi ⟨x5, x6, x7, rfl, e⟩ e3
      have hil : i < cs.length := by
        have := (List.getElem?_eq_some_iff.mp hi).1
        omega
      have hx : x = .int (cs.getD i 0) := by
        rw [List.getElem?_map, List.getElem?_eq_getElem hil] at hi
        rw [List.getD_eq_getElem?_getD, List.getElem?_eq_getElem hil]
        exact (Option.some.inj hi).symm
      subst hx
      have hri : b + 1 + i < rs.length := by omega
      have g : (rs.map optI)[b + 1 + i]? = some (optI (rs.getD (b + 1 + i) none)) := by
        rw [List.getElem?_map, List.getElem?_eq_getElem hri, List.getD_eq_getElem?_getD, List.getElem?_eq_getElem hri] <;> rfl
      have ei : (b : Int) + 1 + (i : Int) = ((b + 1 + i : Nat) : Int) := by omega
      have rd : ∀ {σ : L2.St} {H' : Hp}, Ex H H' → σ[2]? = some (some (.ref r)) → σ[5]? = some (some (.int ((b : Int) + 1 + (i : Int)))) → Ev (tOp (rIxL K) (tVar 2) (tVar 5)) σ H' (optI (rs.getD (b + 1 + i) none)) := fun e h2 h5 => ev_op (ev_var h2) (ev_var h5) (rv_ixL (ex_l e hR) (by rw [ei]; exact atI_nat g))
      have e03 := e.trans e3
      have hs : bestN (fun i => cs.getD i 0) (fun e => rs.getD e none) b (i + 1) = match rs.getD (b + 1 + i) none with
        | none => bestN (fun i => cs.getD i 0) (fun e => rs.getD e none) b i
        | some t => match bestN (fun i => cs.getD i 0) (fun e => rs.getD e none) b i with
          | none => some (cs.getD i 0 + t, b + 1 + i)
          | some (l, e) => if cs.getD i 0 + t ≤ l then some (cs.getD i 0 + t, b + 1 + i) else some (l, e) := rfl
      rw [hs]
      revert rd
      generalize bestN (fun i => cs.getD i 0) (fun e => rs.getD e none) b i = st
      cases rs.getD (b + 1 + i) none with
      | none =>
        intro rd
        exact q_when (b := true) (et_is (et_test (ev_op (rd e03 rfl rfl) ev_c rv_isN)) rfl) (fun _ H4 e4 => ⟨_, _, _, rfl, e03.trans e4⟩) (fun hb => nomatch hb)
      | some t =>
        intro rd
        refine q_when (b := false) (et_is (et_test (ev_op (rd e03 rfl rfl) ev_c rv_isN)) rfl) (fun hb => nomatch hb) (fun _ H4 e4 => ?_)
        refine q_asg (v := .int (cs.getD i 0 + t)) (ev_op (ev_var rfl) (rd (e03.trans e4) rfl rfl) rv_I0) fun H5 e5 => ?_
        have e05 := (e03.trans e4).trans e5
        cases st with
        | none =>
          refine s_when (b := true) (et_is (et_or (a := true) (b := true) (et_is (et_test (ev_op (ev_var rfl) ev_c rv_isN)) rfl) fun q => nomatch q) rfl) (fun _ H6 e6 => ?_) (fun hb => nomatch hb)
          refine q_asg (ev_var rfl) fun H7 e7 => ?_
          refine s_asg (ev_var rfl) fun H8 e8 => ⟨some (.int ((b : Int) + 1 + (i : Int))), some (.int (cs.getD i 0)), some (.int (cs.getD i 0 + t)), ?_, ((e05.trans e6).trans e7).trans e8⟩
          show _ = [_, _, _, some (V.int (cs.getD i 0 + t)), some (V.int ((b + 1 + i : Nat) : Int)), _, _, _]
          rw [← ei]
          rfl
        | some pr =>
          obtain ⟨l, en⟩ := pr
          refine s_when (b := decide (cs.getD i 0 + t ≤ l)) (et_is (et_or (a := false) (et_is (et_test (ev_op (ev_var rfl) ev_c rv_isN)) rfl) fun _ => et_test (ev_op (ev_var rfl) (ev_var rfl) rv_I0)) (Bool.false_or _)) (fun hb H6 e6 => ?_) (fun hb H6 e6 => ?_)
          · have hle := of_decide_eq_true hb
            refine q_asg (ev_var rfl) fun H7 e7 => ?_
            refine s_asg (ev_var rfl) fun H8 e8 => ⟨some (.int ((b : Int) + 1 + (i : Int))), some (.int (cs.getD i 0)), some (.int (cs.getD i 0 + t)), ?_, ((e05.trans e6).trans e7).trans e8⟩
            show _ = [_, _, _, some (lstV (if cs.getD i 0 + t ≤ l then some (cs.getD i 0 + t, b + 1 + i) else some (l, en))), some (endV (if cs.getD i 0 + t ≤ l then some (cs.getD i 0 + t, b + 1 + i) else some (l, en))), _, _, _]
            rw [if_pos hle]
            show _ = [_, _, _, some (V.int (cs.getD i 0 + t)), some (V.int ((b + 1 + i : Nat) : Int)), _, _, _]
            rw [← ei]
            rfl
          · have hle := of_decide_eq_false hb
            refine ⟨some (.int ((b : Int) + 1 + (i : Int))), some (.int (cs.getD i 0)), some (.int (cs.getD i 0 + t)), ?_, e05.trans e6⟩
            show _ = [_, _, _, some (lstV (if cs.getD i 0 + t ≤ l then some (cs.getD i 0 + t, b + 1 + i) else some (l, en))), some (endV (if cs.getD i 0 + t ≤ l then some (cs.getD i 0 + t, b + 1 + i) else some (l, en))), _, _, _]
            rw [if_neg hle]
            rfl
    · rintro σ' H' ⟨x5, x6, x7, rfl, e⟩
      rw [nc]
      generalize hst : bestN (fun i => cs.getD i 0) (fun e => rs.getD e none) b cs.length = st at k
      refine s_retU (xs := pairV st) ?_ fun p H5 p0 e5 h5 => k p H5 (fresh_back e p0) (e.trans e5) h5
      have hp : pairV st = [lstV st, endV st] := by
        cases st with
        | none => rfl
        | some pr => rfl
      rw [hp]
      exact eu_tup (ea_cons (ev_var rfl) (ea_cons (ev_var rfl) ea_nil)) (show 2 ≤ 100000 by decide)

def sp_first_line (K : PySem.W.Frag) : Sp := fun vs H Q _ => ∃ (p q : Addr) (ws : List Str) (T : List Int) (w : Int) (b : Nat) (t : Nat → Int), vs = [.ref p, .int w, .int b, .ref q] ∧ SqL K H p (ws.map V.str) ∧ SqL K H q (T.map V.int) ∧ Tot ws ∧ ws.length ≤ 40000 ∧ WidB w ∧ b < ws.length ∧ T.length = ws.length + 1 ∧
  (∀ e, b < e → e ≤ ws.length → T[e]? = some (t e) ∧ 0 ≤ t e) ∧ t ws.length = 0 ∧ (sizeN ws b (b + 1) : Int) ≤ w ∧ ∀ l e, IsFirst ws w t b l e → TwE.RetU [.int l, .int (e : Int)] H Q
theorem bestN_congr {c c' : Nat → Int} {r r' : Nat → Option Int} {b : Nat} : ∀ {i : Nat}, (∀ j, j < i → c j = c' j ∧ r (b + 1 + j) = r' (b + 1 + j)) → bestN c r b i = bestN c' r' b i
  | 0, _ => rfl
  | i + 1, h => by
    have ih := bestN_congr (i := i) fun j hj => h j (by omega)
    obtain ⟨h1, h2⟩ := h i (Nat.lt_succ_self i)
    unfold bestN
    rw [ih, h1, h2]
theorem squaresL (ws : List Str) (w : Int) (b m : Nat) : (sizesL ws b m).map (fun z => (w - z) ^ (2 : Int).toNat) = countsL ws w b m := by
  unfold sizesL countsL
  rw [List.map_map] <;> rfl
theorem countsL_at {ws : List Str} {w : Int} {b m j : Nat} (h : j < m) : (countsL ws w b m).getD j 0 = (w - (sizeN ws b (b + 1 + j) : Int)) ^ (2 : Int).toNat := by
  unfold countsL
  rw [List.getD_eq_getElem?_getD, List.getElem?_map, List.getElem?_range h] <;> rfl
theorem countsL_len (ws : List Str) (w : Int) (b m : Nat) : (countsL ws w b m).length = m := by
  unfold countsL
  rw [List.length_map, List.length_range]
theorem sizesL_in {ws : List Str} (hz : Tot ws) (hl : ws.length ≤ 40000) (b m : Nat) : ∀ z ∈ sizesL ws b m, z.natAbs ≤ 1000000 := fun z h => by
  obtain ⟨i, _, rfl⟩ := List.mem_map.mp h
  have := sizeN_le hz hl b (b + 1 + i)
  omega
theorem ok_first_line (T : Txt K mg A) : FnOk P w K mg base CX0 2 A.f_first_line A.d_first_line ["words", "width", "begin", "table"] (sp_first_line K) := by
  refine T.F_first_line.ok sc_first_line (fun vs H Q E h => ?_) (fun cdv Ar outer s H vs Q E hr h => ?_)
  · obtain ⟨p, q, ws, tt, wd, b, t, rfl, _⟩ := h
    rfl
  · obtain ⟨p, q, ws, tt, wd, b, t, rfl, hS, hT, hz, hl, hw, hb, hTl, hTt, ht0, hone, k⟩ := h
    refine ⟨_, (pss_cons (ps_set (i := 4) sc_first_line.nd rfl (.inl rfl) (pe_call (ok_sizes_from T) (hr.mono (by decide)) rfl T.g_sizes_from T.F_sizes_from.kp T.b_sizes_from .nil pass0 (pa_cons (pv 0) (pa_cons (pv 1) (pa_cons (pv 2) pa_nil)))))
  (pss_cons (ps_if (pt_cmpR op_eq (pe_op op_add (pv 2) (pe_callB call_len_seq (by rfl) T.m_len PySem.boot_len (pa_cons (pv 4) pa_nil))) (pe_callB call_len_seq (by rfl) T.m_len PySem.boot_len (pa_cons (pv 0) pa_nil)) (nomark _))
  (pss_one (ps_ret (pe_tup (pa_cons pe_int (pa_cons (pe_callB call_len_seq (by rfl) T.m_len PySem.boot_len (pa_cons (pv 0) pa_nil)) pa_nil)))))
  pss_nil)
  (pss_one (ps_ret (pe_call (ok_best_line T) (hr.mono (by decide)) rfl T.g_best_line T.F_best_line.kp T.b_best_line .nil pass0 (pa_cons (pe_call (ok_squares_of T) (hr.mono (by decide)) rfl T.g_squares_of T.F_squares_of.kp T.b_squares_of .nil pass0 (pa_cons (pv 1) (pa_cons (pv 4) pa_nil))) (pa_cons (pv 2) (pa_cons (pv 3) pa_nil)))))))), ?_⟩
    have nl : (ws.map V.str).length = ws.length := List.length_map ..
    refine q_asgA (ea_cons (ev_var rfl) (ea_cons (ev_var rfl) (ea_cons (ev_var rfl) ea_nil))) fun H1 e1 => ⟨p, ws, wd, b, rfl, ex_l e1 hS, hz, hl, by omega, fun m hm l H2 l0 e2 hl2 => ?_⟩
    have e12 := e1.trans e2
    have ml : ((sizesL ws b m).map V.int).length = m := by rw [List.length_map, sizesL_len]
    refine q_when (b := decide (V.int ((b : Int) + (m : Int)) = V.int (ws.length : Int))) (et_test (ev_op (ev_is (ev_op (ev_var rfl) (ev_cb (ea_cons (ev_var rfl) ea_nil) (rc_lenL (sq_of hl2))) rv_I0) (by rw [ml])) (ev_is (ev_cb (ea_cons (ev_var rfl) ea_nil) (rc_lenL (ex_l e12 hS))) (by rw [nl])) (rv_eq rfl))) (fun hb2 H3 e3 => ?_) (fun hb2 H3 e3 => ?_)
    · have hmn : b + m = ws.length := by
        have h := of_decide_eq_true hb2
        injection h with h
        omega
      have hf := first_all hm hb hmn ht0 fun e h1 h2 => (hTt e h1 h2).2
      exact s_retU (eu_tup (ea_cons ev_c (ea_cons (ev_is (ev_cb (ea_cons (ev_var rfl) ea_nil) (rc_lenL (ex_l (e12.trans e3) hS))) (by rw [nl])) ea_nil)) (show 2 ≤ 100000 by decide)) fun p2 H4 p0 e4 h4 => k 0 ws.length hf p2 H4 (fresh_back (e12.trans e3) p0) ((e12.trans e3).trans e4) h4
    · have hmn : b + m ≠ ws.length := fun q => of_decide_eq_false hb2 (by congr 1; omega)
      have hml := hm.le
      obtain ⟨ll, e, hbest, hf⟩ := first_best hm hb hmn hone fun e h1 h2 => (hTt e h1 h2).2
      refine s_retP (ap_consL (xs := (countsL ws wd b m).map V.int) (el_call (ea_cons (ev_var rfl) (ea_cons (ev_var rfl) ea_nil)) fun H4 e4 Q' qq E' => ⟨l, sizesL ws b m, wd, rfl, sq_of (e4 _ _ (e3 _ _ hl2)), sizesL_in hz hl b m, by rw [sizesL_len]; omega, hw, by rw [squaresL]; exact qq⟩) (ap_cons (ev_var rfl) (ap_cons (ev_var rfl) ap_nil)) fun _ _ _ => trivial) ?_
      rintro vs H4 e4 ⟨c, r, rfl, hc, r2, rfl, r3, rfl, rfl⟩
      have hrs : (tt.map some).map optI = tt.map V.int := by
        rw [List.map_map] <;> rfl
      refine ⟨c, q, countsL ws wd b m, tt.map some, b, rfl, sq_of hc, by rw [hrs]; exact ex_l ((e12.trans e3).trans e4) hT, by rw [countsL_len]; omega, by rw [countsL_len, List.length_map]; omega, by rw [List.length_map]; omega, ?_⟩
      have hbn : bestN (fun i => (countsL ws wd b m).getD i 0) (fun e => (tt.map some).getD e none) b (countsL ws wd b m).length = some (ll, e) := by
        rw [countsL_len, ← hbest]
        refine bestN_congr fun j hj => ⟨countsL_at hj, ?_⟩
        show (tt.map some).getD (b + 1 + j) none = some (t (b + 1 + j))
        rw [List.getD_eq_getElem?_getD, List.getElem?_map, (hTt (b + 1 + j) (by omega) (by omega)).1] <;> rfl
      rw [hbn]
      exact fun p2 H5 p0 e5 h5 => k ll e hf p2 H5 (fresh_back ((e12.trans e3).trans e4) p0) (((e12.trans e3).trans e4).trans e5) h5
def sp_table_of (K : PySem.W.Frag) (A : Ad) : Sp := fun vs H Q E => ∃ (p : Addr) (ws : List Str) (w : Int), vs = [.ref p, .int w] ∧ SqL K H p (ws.map V.str) ∧ Tot ws ∧ ws.length ≤ 40000 ∧ WidB w ∧ (w < 1 → ∀ H', Ex H H' → E (.ref A.c_NoWidth) none H') ∧
  (1 ≤ w → (∃ z ∈ ws, w < (z.length : Int)) → ∀ H', Ex H H' → E (.ref A.c_LongWord) none H') ∧ (1 ≤ w → (∀ z ∈ ws, (z.length : Int) ≤ w) → ∀ t, IsTab ws w t → RetL ((tabL t ws.length).map V.int) H Q)
theorem one_fits {ws : List Str} {w : Int} (h : ∀ z ∈ ws, (z.length : Int) ≤ w) {b : Nat} (hb : b < ws.length) : (sizeN ws b (b + 1) : Int) ≤ w := by
  rw [size_one (List.getElem?_eq_getElem hb)]
  exact h _ (List.getElem_mem hb)
theorem ok_table_of (T : Txt K mg A) : FnOk P w K mg base (L2N.CX P w) 4 A.f_table_of A.d_table_of ["words", "width"] (sp_table_of K A) := by
  refine Fun.okN T.F_table_of sc_table_of (fun vs H Q E h => ?_) (fun cdv Ar outer s H vs Q E hr h => ?_)
  · obtain ⟨p, ws, i, rfl, _⟩ := h
    rfl
  · obtain ⟨p, ws, wd, rfl, hS, hz, hl, hwB, h1, h2, h3⟩ := h
    refine ⟨_, (pss_cons (ps_expr (pe_call (ok_check_words T) (hr.mono (by decide)) rfl T.g_check_words T.F_check_words.kp T.b_check_words .nil (L2N.passes_call (L2N.takes_of rfl rfl rfl rfl) (fun _ _ _ _ h => h)) (pa_cons (pv 0) (pa_cons (pv 1) pa_nil))))
  (pss_cons (ps_set (i := 2) sc_table_of.nd rfl (.inl rfl) (pe_op op_rep (pe_lst (pa_cons pe_int pa_nil)) (pe_op op_add (pe_callB call_len_seq (by rfl) T.m_len PySem.boot_len (pa_cons (pv 0) pa_nil)) pe_int)))
  (pss_cons (ps_for PassesOwn.leaving rfl (pi_revR (by rfl) T.m_reversed (prg_1 (by rfl) T.m_range (pe_callB call_len_seq (by rfl) T.m_len PySem.boot_len (pa_cons (pv 0) pa_nil)))) (pg_name (i := 3) sc_table_of.nd rfl (.inl rfl))
  (pss_cons (ps_asg (pe_call (ok_first_line T) (hr.mono (by decide)) rfl T.g_first_line T.F_first_line.kp T.b_first_line .nil pass0 (pa_cons (pv 0) (pa_cons (pv 1) (pa_cons (pv 3) (pa_cons (pv 2) pa_nil))))) (pg_tup rfl (pgs_cons (pg_name (i := 4) sc_table_of.nd rfl (.inl rfl)) (pgs_cons (pg_name (i := 5) sc_table_of.nd rfl (.inl rfl)) pgs_nil))))
  (pss_one (ps_asg (pv 4) (pg_sub (pv 2) (pv 3) set_list)))))
  (pss_one (ps_ret (pv 2)))))), ?_⟩
    have nl : (ws.map V.str).length = ws.length := List.length_map ..
    refine q_dropA (ea_cons (ev_var rfl) (ea_cons (ev_var rfl) ea_nil)) fun H1 e1 => ⟨p, ws, wd, rfl, ex_l e1 hS, hz, fun hw H' e' => h1 hw H' (e1.trans e'), fun hw hx H' e' => h2 hw hx H' (e1.trans e'), fun hw hx H2 e2 => ?_⟩
    have k := h3 hw hx
    have e12 := e1.trans e2
    refine q_asgL (xs := (tabZ (fun _ => 0) ws.length ws.length).map V.int) (el_repZ (el_lst (ea_cons ev_c ea_nil) (show 1 ≤ 100000 by decide)) (ev_is (ev_op (ev_cb (ea_cons (ev_var rfl) ea_nil) (rc_lenL (ex_l e12 hS))) ev_c rv_I0) (by rw [nl])) hl) fun l H3 l0 e3 hl3 => ?_
    have e13 := e12.trans e3
    have l00 := fresh_back e12 l0
    refine TwE.q_forRv (n := (ws.length : Int)) (ev_is (ev_cb (ea_cons (ev_var rfl) ea_nil) (rc_lenL (ex_l e13 hS))) (by rw [nl])) (by omega) (by omega)
      (fun i σ' H' => ∃ t x3 x4 x5, σ' = [some (.ref p), some (.int wd), some (.ref l), x3, x4, x5] ∧ Ex H H' ∧ H' l = some (.lst ((tabZ t ws.length (ws.length - i)).map V.int)) ∧ TabFrom ws wd t (ws.length - i)) (fun H4 e4 => ⟨fun _ => 0, none, none, none, rfl, e13.trans e4, e4 _ _ hl3, TabFrom.zero⟩) ?_ ?_
    · rintro i σ' H' hi ⟨t, x3, x4, x5, rfl, e, hlT, hT⟩
      obtain ⟨b, hb⟩ : ∃ b, ws.length - i = b + 1 := ⟨ws.length - i - 1, by omega⟩
      have eb : (ws.length : Int) - 1 - (i : Int) = (b : Int) := by omega
      have hbn : b < ws.length := by omega
      rw [hb] at hlT hT
      rw [eb]
      refine TwE.q_un2A (ea_cons (ev_var rfl) (ea_cons (ev_var rfl) (ea_cons (ev_var rfl) (ea_cons (ev_var rfl) ea_nil)))) fun H4 e4 => ⟨p, l, ws, _, wd, b, t, rfl, ex_l (e.trans e4) hS, sq_of (e4 _ _ hlT), hz, hl, hwB, hbn, tabZ_len .., fun e' f1 f2 => ⟨tabZ_at f2 f1, hT.nn e' f1 f2⟩, hT.last, one_fits hx hbn, fun ll en hf u H5 _ e5 hu => TwE.g2 (st_of hu) ?_⟩
      refine s_setL (j := b) (v := .int ll) (e5 _ _ (e4 _ _ hlT)) (ev_var rfl) (ev_var rfl) (ev_var rfl) (by rw [List.length_map, tabZ_len]; omega) fun H6 e6 => ⟨fun j => if j = b then ll else t j, _, _, _, rfl, Ex.mut (((e.trans e4).trans e5).trans e6) l00, ?_, ?_⟩
      · rw [show ws.length - (i + 1) = b by omega, ← tabZ_set hbn]
        exact upd_same
      · rw [show ws.length - (i + 1) = b by omega]
        exact hT.more hbn hf
    · rintro σ' H' ⟨t, x3, x4, x5, rfl, e, hlT, hT⟩
      rw [Int.toNat_natCast, Nat.sub_self] at hlT hT
      rw [tabZ_zero] at hlT
      exact s_ret (v := .ref l) (ev_var rfl) fun H5 e5 => k t hT l H5 l00 (e.trans e5) (e5 _ _ hlT)

/-! ### best_starts -/
def sp_best (K : PySem.W.Frag) (A : Ad) : Sp := fun vs H Q E => ∃ (p : Addr) (ws : List Str) (w : Int), vs = [.ref p, .int w] ∧ SqL K H p (ws.map V.str) ∧ Tot ws ∧ ws.length ≤ 40000 ∧ WidB w ∧ (w < 1 → ∀ H', Ex H H' → E (.ref A.c_NoWidth) none H') ∧
  (1 ≤ w → (∃ z ∈ ws, w < (z.length : Int)) → ∀ H', Ex H H' → E (.ref A.c_LongWord) none H') ∧ (1 ≤ w → (∀ z ∈ ws, (z.length : Int) ≤ w) → ∀ t S, IsTab ws w t → BestW ws w t S → RetL (nats S) H Q)
theorem ok_best_starts (T : Txt K mg A) : FnOk P w K mg base (L2N.CX P w) 5 A.f_best_starts A.d_best_starts ["words", "width"] (sp_best K A) := by
  refine Fun.okN T.F_best_starts sc_best_starts (fun vs H Q E h => ?_) (fun cdv Ar outer s H vs Q E hr h => ?_)
  · obtain ⟨p, ws, i, rfl, _⟩ := h
    rfl
  · obtain ⟨p, ws, wd, rfl, hS, hz, hl, hwB, h1, h2, h3⟩ := h
    refine ⟨_, (pss_cons (ps_set (i := 2) sc_best_starts.nd rfl (.inl rfl) (pe_call (ok_table_of T) (hr.mono (by decide)) rfl T.g_table_of T.F_table_of.kp T.b_table_of .nil (L2N.passes_call (L2N.takes_of rfl rfl rfl rfl) (fun _ _ _ _ h => h)) (pa_cons (pv 0) (pa_cons (pv 1) pa_nil))))
  (pss_cons (ps_set (i := 3) sc_best_starts.nd rfl (.inl rfl) (pe_lst pa_nil))
  (pss_cons (ps_set (i := 4) sc_best_starts.nd rfl (.inl rfl) pe_int)
  (pss_cons (ps_while PassesOwn.leaving (pt_cmpR op_lt (pv 4) (pe_callB call_len_seq (by rfl) T.m_len PySem.boot_len (pa_cons (pv 0) pa_nil)) (nomark _))
  (pss_cons (ps_expr (pe_bm PySem.F.plainAttrs_list PySem.F.slot_list_append PySem.F.type_list_append mt_append (pv 3) (pa_cons (pv 4) pa_nil)))
  (pss_one (ps_asg (pe_call (ok_first_line T) (hr.mono (by decide)) rfl T.g_first_line T.F_first_line.kp T.b_first_line .nil pass0 (pa_cons (pv 0) (pa_cons (pv 1) (pa_cons (pv 4) (pa_cons (pv 2) pa_nil))))) (pg_tup rfl (pgs_cons (pg_name (i := 5) sc_best_starts.nd rfl (.inl rfl)) (pgs_cons (pg_name (i := 4) sc_best_starts.nd rfl (.inl rfl)) pgs_nil)))))))
  (pss_one (ps_ret (pv 3))))))), ?_⟩
    have nl : (ws.map V.str).length = ws.length := List.length_map ..
    refine q_asgA (ea_cons (ev_var rfl) (ea_cons (ev_var rfl) ea_nil)) fun H1 e1 => ⟨p, ws, wd, rfl, ex_l e1 hS, hz, hl, hwB, fun hw H' e' => h1 hw H' (e1.trans e'), fun hw hx H' e' => h2 hw hx H' (e1.trans e'), fun hw hx t hT tb H2 tb0 e2 htb => ?_⟩
    have k := h3 hw hx t
    have e12 := e1.trans e2
    refine q_asgL (xs := []) (el_lst ea_nil (Nat.zero_le _)) fun l H3 l0 e3 hl3 => ?_
    have l00 := fresh_back e12 l0
    have tl : tb ≠ l := fun q => by
      rw [q, l0] at htb
      cases htb
    refine q_asg (v := .int ((0 : Nat) : Int)) ev_c fun H4 e4 => ?_
    have e14 := (e12.trans e3).trans e4
    refine q_while (fun m σ' H' => ∃ S at_ x, σ' = [some (.ref p), some (.int wd), some (.ref tb), some (.ref l), some (.int ((at_ : Nat) : Int)), x] ∧ Ex H H' ∧ H' tb = some (.lst ((tabL t ws.length).map V.int)) ∧ H' l = some (.lst (nats S)) ∧ WalkTo (IsGoal ws wd t) 0 S at_ ∧ at_ ≤ ws.length ∧ m = ws.length - at_) ws.length
      ⟨[], 0, none, rfl, e14, e4 _ _ (e3 _ _ htb), e4 _ _ hl3, .nil 0, Nat.zero_le _, rfl⟩ ?_
    rintro m σ' H' ⟨S, at_, x, rfl, e, htb', hlS, hW, hle, rfl⟩
    refine ⟨decide (((at_ : Nat) : Int) < (ws.length : Int)), et_test (ev_op (ev_var rfl) (ev_is (ev_cb (ea_cons (ev_var rfl) ea_nil) (rc_lenL (ex_l e hS))) (by rw [nl])) rv_I0), fun hb H5 e5 => ?_, fun hb H5 e5 => ?_⟩
    · have hat : at_ < ws.length := by
        have := of_decide_eq_true hb
        omega
      have hSl := walk_len (fun _ _ g => g.fit.1) hW
      refine ⟨fun σ2 H2 => ∃ S' a' x, σ2 = [some (.ref p), some (.int wd), some (.ref tb), some (.ref l), some (.int ((a' : Nat) : Int)), x] ∧ Ex H H2 ∧ H2 tb = some (.lst ((tabL t ws.length).map V.int)) ∧ H2 l = some (.lst (nats S')) ∧ WalkTo (IsGoal ws wd t) 0 S' a' ∧ a' ≤ ws.length ∧ at_ < a', fun σ2 H2 ⟨S', a', x, q1, q2, q3, q4, q5, q6, q7⟩ => ⟨ws.length - a', by omega, S', a', x, q1, q2, q3, q4, q5, q6, rfl⟩, ?_⟩
      refine q_app (xs := nats S) (v := .int (at_ : Int)) (e5 _ _ hlS) (ev_var rfl) (ev_var rfl) (by rw [nats_len]; omega) fun H6 e6 => ?_
      have hl7 : upd H6 l (.lst (nats S ++ [.int (at_ : Int)])) l = some (.lst (nats S ++ [.int (at_ : Int)])) := upd_same
      have ht7 : upd H6 l (.lst (nats S ++ [.int (at_ : Int)])) tb = some (.lst ((tabL t ws.length).map V.int)) := by
        rw [upd_ne tl]
        exact e6 _ _ (e5 _ _ htb')
      have e07 : Ex H (upd H6 l (.lst (nats S ++ [.int (at_ : Int)]))) := Ex.mut ((e.trans e5).trans e6) l00
      revert hl7 ht7 e07
      generalize upd H6 l (.lst (nats S ++ [.int (at_ : Int)])) = H7
      intro hl7 ht7 e07
      refine TwE.s_un2A (ea_cons (ev_var rfl) (ea_cons (ev_var rfl) (ea_cons (ev_var rfl) (ea_cons (ev_var rfl) ea_nil)))) fun H8 e8 => ⟨p, tb, ws, tabL t ws.length, wd, at_, t, rfl, ex_l (e07.trans e8) hS, sq_of (e8 _ _ ht7), hz, hl, hwB, hat, tabL_len .., fun e' f1 f2 => ⟨tabL_at f2, hT.nn e' (Nat.zero_le _) f2⟩, hT.last, one_fits hx hat, fun ll en hf u H9 _ e9 hu => TwE.g2 (st_of hu) ⟨S ++ [at_], en, _, rfl, (e07.trans e8).trans e9, e9 _ _ (e8 _ _ ht7), ?_, hW.snoc (hf.goal hT), hf.fit.2.1, hf.fit.1⟩⟩
      rw [← nats_snoc]
      exact e9 _ _ (e8 _ _ hl7)
    · have hat : at_ = ws.length := by
        have := of_decide_eq_false hb
        omega
      subst hat
      exact s_ret (v := .ref l) (ev_var rfl) fun H6 e6 => k S hT hW l H6 l00 ((e.trans e5).trans e6) (e6 _ _ (e5 _ _ hlS))

/-! ### pairs -/
def Pairs (H : Hp) (l : Addr) (xs ys : List V) : Prop := ∃ ts : List Addr, H l = some (.lst (ts.map V.ref)) ∧ ts.length = min xs.length ys.length ∧ ∀ (j : Nat) (t : Addr), ts[j]? = some t → ∃ x y, xs[j]? = some x ∧ ys[j]? = some y ∧ H t = some (.tup [x, y])
def EvP (te : TE) (σ : L2.St) (H : Hp) (xs ys : List V) : Prop := ∀ H1, Ex H H1 → ∀ Q : VK, (∀ l H2, Ex H1 H2 → Pairs H2 l xs ys → Q (.ref l) H2) → te σ H1 Q
theorem s_retZip {ta : TA} {a b : Addr} {xs ys : List V} {σ : L2.St} {H : Hp} {D : Ends} (h : EvA ta σ H [.ref a, .ref b]) (ha : SqL K H a xs) (hb : SqL K H b ys) (k : ∀ l H1, Ex H H1 → Pairs H1 l xs ys → D.rt (.ref l) H1) : tRet (TwZ.tListZip K ta) D σ H :=
  h H (Ex.refl H) _ fun H1 e1 => ⟨a, b, xs, ys, rfl, ex_l e1 ha, ex_l e1 hb, fun l ts H2 z => k l H2 (e1.trans z.keep) ⟨ts, z.lst, z.len, z.pair⟩⟩
theorem el_lcP {xs ys : List V} {tl : TE} {te : TE} {j1 j2 : Nat} {vs : List Nat} {σ : L2.St} {H : Hp} (v : Nat → V) (h : EvP tl σ H xs ys) (hz : xs.length ≤ 40000) (hw : ∀ x y, wipe (((wipe σ vs).set j1 (some x)).set j2 (some y)) vs = wipe σ vs)
    (he : ∀ (i : Nat) (x y : V) H1, Ex H H1 → xs[i]? = some x → ys[i]? = some y → Ev te (((wipe σ vs).set j1 (some x)).set j2 (some y)) H1 (v i)) :
    EvL (tLc (iList K tl) (gTup K 2 (gCons (gName j1) (gCons (gName j2) gNil))) tYes te vs) σ H ((List.range (min xs.length ys.length)).map v) := fun H0 e Q q => h H0 e _ fun a H1 e1 hP => by
  obtain ⟨ts, hx, hlen, hp⟩ := hP
  refine ⟨a, rfl, ⟨_, sq_of hx⟩, fun Dl hD => ?_⟩
  rw [← hlen, ← given_all] at q
  refine lc_list (xs := ts.map V.ref) (Cw H1 (fun _ => true) v Dl) ⟨hD, Ex.new hD, upd_same⟩ (fun i H' _ p => sq_of (p.2.1 a _ hx)) (fun i x H' hi p => ?_) (fun H' p => q Dl H' (fresh_back e1 p.1) (e1.trans p.2.1) (by rw [List.length_map] at p; exact p.2.2))
  rw [List.getElem?_map] at hi
  obtain ⟨t, ht, rfl⟩ := Option.map_eq_some_iff.mp hi
  obtain ⟨x, y, h1, h2, h3⟩ := hp i t ht
  have hil := (List.getElem?_eq_some_iff.mp ht).1
  exact ⟨t, [x, y], rfl, st_of (p.2.1 t _ h3), rfl, x, [y], rfl, y, [], rfl, rfl, hw x y, cw_turn p (by omega) (et_yes) fun _ => he i x y H1 (e.trans e1) h1 h2⟩
/-! ### bounds, lines -/
def endsOf (n : Nat) (zs : List Int) : List Int := zs.drop 1 ++ [(n : Int)]
def sp_bounds (K : PySem.W.Frag) : Sp := fun vs H Q _ => ∃ (p q : Addr) (ws : List Str) (zs : List Int), vs = [.ref p, .ref q] ∧ SqL K H p (ws.map V.str) ∧ SqL K H q (zs.map V.int) ∧ zs.length ≤ 40000 ∧ ∀ l H', Ex H H' → Pairs H' l (zs.map V.int) ((endsOf ws.length zs).map V.int) → Q (.ref l) H'
theorem cut_tail (zs : List Int) : cutV (zs.map V.int) (some 1) none = (zs.drop 1).map V.int := by
  have q : HT.sIx (zs.map V.int).length 0 (some 1) = min 1 (zs.map V.int).length := HT.sIx_nat (zs.map V.int).length 0 1
  unfold cutV
  rw [q]
  show List.take ((zs.map V.int).length - min 1 (zs.map V.int).length) _ = _
  rw [List.length_map, List.map_drop]
  cases zs with
  | nil => rfl
  | cons z r =>
    have e : min 1 (z :: r).length = 1 := by rw [List.length_cons]; omega
    rw [e]
    show List.take (r.length + 1 - 1) (r.map V.int) = r.map V.int
    rw [Nat.add_sub_cancel]
    exact List.take_of_length_le (by rw [List.length_map]; exact Nat.le_refl _)
theorem ok_bounds_of (T : Txt K mg A) : FnOk P w K mg base CX0 1 A.f_bounds_of A.d_bounds_of ["words", "starts"] (sp_bounds K) := by
  refine T.F_bounds_of.ok sc_bounds_of (fun vs H Q E h => ?_) (fun cdv Ar outer s H vs Q E hr h => ?_)
  · obtain ⟨p, q, ws, zs, rfl, _⟩ := h
    rfl
  · obtain ⟨p, q, ws, zs, rfl, hp, hq, hlen, k⟩ := h
    refine ⟨_, (pss_cons (ps_set (i := 2) sc_bounds_of.nd rfl (.inl rfl) (pe_op op_cat (pe_slice (TwE.slE (K := K) rfl) (pv 1) (po_some pe_int) po_none) (pe_lst (pa_cons (pe_callB call_len_seq (by rfl) T.m_len PySem.boot_len (pa_cons (pv 0) pa_nil)) pa_nil))))
  (pss_one (ps_ret (TwZ.pe_listZip hr.hd (by rfl) T.m_list (by rfl) T.m_zip (pa_cons (pv 1) (pa_cons (pv 2) pa_nil)))))), ?_⟩
    have nlw : (ws.map V.str).length = ws.length := List.length_map ..
    refine q_asgL (xs := (endsOf ws.length zs).map V.int) (el_is (el_catN (el_sl (ev_var rfl) (eo_some ev_c) eo_none hq) (el_lst (ea_cons (ev_cb (ea_cons (ev_var rfl) ea_nil) (rc_lenL hp)) ea_nil) (show 1 ≤ 100000 by decide)) ?_) ?_) fun l H1 l0 e1 h1 => ?_
    · rw [cut_tail, List.length_map, List.length_drop]
      show _ + 1 ≤ 100000
      omega
    · rw [cut_tail]
      unfold endsOf
      rw [List.map_append, nlw]
      rfl
    · exact s_retZip (ea_cons (ev_var rfl) (ea_cons (ev_var rfl) ea_nil)) (ex_l e1 hq) (sq_of h1) fun l2 H2 e2 hP => k l2 H2 (e1.trans e2) hP

/-! ### textwrapper.measure -/
def sp_line_of (K : PySem.W.Frag) : Sp := fun vs H Q _ => ∃ (p : Addr) (ws : List Str) (b e : Nat), vs = [.ref p, .int b, .int e] ∧ SqL K H p (ws.map V.str) ∧ Tot ws ∧ ws.length ≤ 40000 ∧ b ≤ e ∧ e ≤ ws.length ∧ RetV (.str (lineOf ws b e)) H Q
theorem ok_line_of (T : Txt K mg A) : FnOk P w K mg base CX0 1 A.f_line_of A.d_line_of ["words", "begin", "end"] (sp_line_of K) := by
  refine T.F_line_of.ok sc_line_of (fun vs H Q E h => ?_) (fun cdv Ar outer s H vs Q E hr h => ?_)
  · obtain ⟨p, ws, b, e, rfl, _⟩ := h
    rfl
  · obtain ⟨p, ws, b, e, rfl, hS, hz, hl, h1, h2, k⟩ := h
    refine ⟨_, (pss_one (ps_ret (TwE.pe_joinE (K := K) rfl pe_str (pe_slice (TwE.slE (K := K) rfl) (pv 0) (po_some (pv 1)) (po_some (pv 2)))))), ?_⟩
    refine s_ret (v := .str (lineOf ws b e)) (ev_joinL ev_blk (el_is (el_sl (ev_var rfl) (eo_some (ev_var rfl)) (eo_some (ev_var rfl)) hS) (cut_words h1 h2)) ?_) fun H1 e1 => k H1 e1
    have := line_fits hz hl b e
    omega

theorem ok_size_of (T : Txt K mg A) : FnOk P w K mg base CX0 2 A.f_size_of A.d_size_of ["words", "begin", "end"] (sp_size K) := by
  refine T.F_size_of.ok sc_size_of (fun vs H Q E h => ?_) (fun cdv Ar outer s H vs Q E hr h => ?_)
  · obtain ⟨p, ws, b, e, rfl, _⟩ := h
    rfl
  · obtain ⟨p, ws, b, e, rfl, hS, hz, hl, h1, h2, k⟩ := h
    refine ⟨_, (pss_one (ps_ret (pe_callB call_len_str (by rfl) T.m_len PySem.boot_len (pa_cons (pe_call (ok_line_of T) (hr.mono (by decide)) rfl T.g_line_of T.F_line_of.kp T.b_line_of .nil pass0 (pa_cons (pv 0) (pa_cons (pv 1) (pa_cons (pv 2) pa_nil)))) pa_nil)))), ?_⟩
    have hs := sizeN_le hz hl b e
    refine s_ret (v := .int (sizeN ws b e)) (ev_cb (ea_cons (ev_call (ea_cons (ev_var rfl) (ea_cons (ev_var rfl) (ea_cons (ev_var rfl) ea_nil))) fun H1 e1 Q' q E' => ⟨p, ws, b, e, rfl, ex_l e1 hS, hz, hl, h1, h2, q⟩) ea_nil) (rc_lenS ?_)) fun H1 e1 => k H1 e1
    have : (lineOf ws b e).length ≤ 1000000 := hs
    exact Nat.le_trans this (by decide)

/-! ### textwrapper.layout: spread_line -/
theorem eu_div {σ : L2.St} {H : Hp} {ta : TA} {i j : Int} (h : EvA ta σ H [.int i, .int j]) (hc : CDiv i j) : EvU (tCB (fun xs H Q => ∃ i j, xs = [V.int i, V.int j] ∧ CDiv i j ∧ ∀ p, H p = none → Q (V.ref p) (upd H p (.tup [.int (i / j), .int (i % j)]))) ta) σ H [.int (i / j), .int (i % j)] :=
  fun H1 e Q q => h H1 e _ fun H2 e2 => ⟨i, j, rfl, hc, fun p hp => q p _ (fresh_back e2 hp) (e2.trans (Ex.new hp)) upd_same⟩
def sp_spread (K : PySem.W.Frag) (A : Ad) : Sp := fun vs H Q E => ∃ (p : Addr) (ws : List Str) (wd : Int), vs = [.ref p, .int wd] ∧ SqL K H p (ws.map V.str) ∧ Tot ws ∧ ws.length ≤ 40000 ∧ (1 < ws.length → wd ≤ 90000) ∧ (wd < 1 → ∀ H', Ex H H' → E (.ref A.c_NoWidth) none H') ∧
  (1 ≤ wd → wd < (sizeN ws 0 ws.length : Int) → ∀ H', Ex H H' → E (.ref A.c_TooWide) none H') ∧ (1 ≤ wd → (sizeN ws 0 ws.length : Int) ≤ wd → RetV (.str (spreadOf ws wd)) H Q)
theorem str_at {ws : List Str} {k : Nat} (h : k < ws.length) : (ws.map V.str)[k]? = some (.str (ws.getD k Str.empty)) := by
  rw [List.getElem?_map, List.getElem?_eq_getElem h, List.getD_eq_getElem?_getD, List.getElem?_eq_getElem h] <;> rfl
theorem len_at {ws : List Str} (hz : Tot ws) (k : Nat) : (ws.getD k Str.empty).length ≤ 80000 := by
  rw [List.getD_eq_getElem?_getD]
  cases h : ws[k]? with
  | none => exact Nat.zero_le _
  | some z => exact hz z (List.mem_of_getElem? h)
theorem ok_spread_line (T : Txt K mg A) : FnOk P w K mg base (L2N.CX P w) 3 A.f_spread_line A.d_spread_line ["words", "width"] (sp_spread K A) := by
  refine Fun.okN T.F_spread_line sc_spread_line (fun vs H Q E h => ?_) (fun cdv Ar outer s H vs Q E hr h => ?_)
  · obtain ⟨p, ws, i, rfl, _⟩ := h
    rfl
  · obtain ⟨p, ws, wd, rfl, hS, hz, hl, hw4, h1, h2, h3⟩ := h
    refine ⟨_, (pss_cons (ps_expr (pe_call (ok_check_width T) (hr.mono (by decide)) rfl T.g_check_width T.F_check_width.kp T.b_check_width .nil (L2N.passes_call (L2N.takes_of rfl rfl rfl rfl) (fun _ _ _ _ h => h)) (pa_cons (pv 1) pa_nil)))
  (pss_cons (ps_if (pt_cmpR op_gt (pe_call (ok_size_of T) (hr.mono (by decide)) rfl T.g_size_of T.F_size_of.kp T.b_size_of .nil pass0 (pa_cons (pv 0) (pa_cons pe_int (pa_cons (pe_callB call_len_seq (by rfl) T.m_len PySem.boot_len (pa_cons (pv 0) pa_nil)) pa_nil)))) (pv 1) (nomark _))
  (pss_one (L2N.ps_raise rfl (L2N.takes_of rfl rfl rfl rfl) (L2N.pmk_own PySem.F.excBase_ValueError T.ex_TooWide.x T.gc_TooWide T.ex_TooWide.k (raises_own T.ex_TooWide.e.hs T.ex_TooWide.t) rfl)))
  pss_nil)
  (pss_cons (ps_if (pt_cmpR op_lt (pe_callB call_len_seq (by rfl) T.m_len PySem.boot_len (pa_cons (pv 0) pa_nil)) pe_int (nomark _))
  (pss_one (ps_ret (pe_call (ok_line_of T) (hr.mono (by decide)) rfl T.g_line_of T.F_line_of.kp T.b_line_of .nil pass0 (pa_cons (pv 0) (pa_cons pe_int (pa_cons (pe_callB call_len_seq (by rfl) T.m_len PySem.boot_len (pa_cons (pv 0) pa_nil)) pa_nil))))))
  pss_nil)
  (pss_cons (ps_set (i := 2) sc_spread_line.nd rfl (.inl rfl) (pe_callB call_len_str (by rfl) T.m_len PySem.boot_len (pa_cons (TwE.pe_joinE (K := K) rfl pe_str (pv 0)) pa_nil)))
  (pss_cons (ps_asg (pe_callB call_divmod (by rfl) T.m_divmod (by decide +kernel) (pa_cons (pe_op op_sub (pv 1) (pv 2)) (pa_cons (pe_op op_sub (pe_callB call_len_seq (by rfl) T.m_len PySem.boot_len (pa_cons (pv 0) pa_nil)) pe_int) pa_nil))) (pg_tup rfl (pgs_cons (pg_name (i := 3) sc_spread_line.nd rfl (.inl rfl)) (pgs_cons (pg_name (i := 4) sc_spread_line.nd rfl (.inl rfl)) pgs_nil))))
  (pss_cons (ps_set (i := 5) sc_spread_line.nd rfl (.inl rfl) (pe_ix (ixL (K := K) rfl) (pv 0) pe_int (fun _ _ => rfl)))
  (pss_cons (ps_for PassesOwn.leaving rfl (pi_range2 (by rfl) T.m_range (pa_cons pe_int (pa_cons (pe_callB call_len_seq (by rfl) T.m_len PySem.boot_len (pa_cons (pv 0) pa_nil)) pa_nil))) (pg_name (i := 6) sc_spread_line.nd rfl (.inl rfl))
  (pss_one (ps_set (i := 5) sc_spread_line.nd rfl (.inl rfl) (pe_op op_add_str (pe_op op_add_str (pv 5) (pe_op op_mulS pe_str (pe_ifExp (pt_cmpR op_le (pv 6) (pv 4) (nomark _)) (pe_op op_add (pv 3) pe_int) (pv 3)))) (pe_ix (ixL (K := K) rfl) (pv 0) (pv 6) (fun _ _ => rfl))))))
  (pss_one (ps_ret (pv 5)))))))))), ?_⟩
    have nl : (ws.map V.str).length = ws.length := List.length_map ..
    refine q_dropA (ea_cons (ev_var rfl) ea_nil) fun H1 e1 => ⟨wd, rfl, fun hw H' e' => h1 hw H' (e1.trans e'), fun hw H2 e2 => ?_⟩
    have e02 := e1.trans e2
    refine q_when (b := decide (wd < (sizeN ws 0 ws.length : Int))) (et_test (ev_op (ev_call (ea_cons (ev_var rfl) (ea_cons (x := .int ((0 : Nat) : Int)) ev_c (ea_cons (ev_is (ev_cb (ea_cons (ev_var rfl) ea_nil) (rc_lenL (ex_l e02 hS))) (by rw [nl])) ea_nil))) fun H3 e3 Q' q E' => ⟨p, ws, 0, ws.length, rfl, ex_l (e02.trans e3) hS, hz, hl, Nat.zero_le _, Nat.le_refl _, q⟩) (ev_var rfl) rv_I0)) (fun hb H3 e3 => h2 hw (of_decide_eq_true hb) H3 (e02.trans e3)) (fun hb H3 e3 => ?_)
    have hf : (sizeN ws 0 ws.length : Int) ≤ wd := by
      have := of_decide_eq_false hb
      omega
    have k := h3 hw hf
    have e03 := e02.trans e3
    refine q_when (b := decide (((ws.map V.str).length : Int) < 2)) (et_test (ev_op (ev_cb (ea_cons (ev_var rfl) ea_nil) (rc_lenL (ex_l e03 hS))) ev_c rv_I0)) (fun hb H4 e4 => ?_) (fun hb H4 e4 => ?_)
    · have h4 : ws.length < 2 := by
        have := of_decide_eq_true hb
        omega
      refine s_ret (v := .str (spreadOf ws wd)) (ev_call (ea_cons (ev_var rfl) (ea_cons (x := .int ((0 : Nat) : Int)) ev_c (ea_cons (ev_is (ev_cb (ea_cons (ev_var rfl) ea_nil) (rc_lenL (ex_l (e03.trans e4) hS))) (by rw [nl])) ea_nil))) fun H5 e5 Q' q E' => ⟨p, ws, 0, ws.length, rfl, ex_l ((e03.trans e4).trans e5) hS, hz, hl, Nat.zero_le _, Nat.le_refl _, by rw [← spread_one wd h4]; exact q⟩) fun H5 e5 => k H5 ((e03.trans e4).trans e5)
    · have h4 : 1 < ws.length := by
        have := of_decide_eq_false hb
        omega
      have hwd := hw4 h4
      have hsl := size_signs (ws := ws) (fun q => by rw [q] at h4; exact absurd h4 (Nat.not_lt_zero _))
      have e04 := e03.trans e4
      have hm : (0 : Int) < (ws.length : Int) - 1 := by omega
      refine q_asg (v := .int (sgnsOf ws)) (ev_is (ev_cb (ea_cons (ev_join ev_none (ev_var rfl) (ex_l e04 hS) (by show (ws.map (·.length)).sum + ws.length * 0 ≤ _; have : sgnsOf ws = (ws.map (·.length)).sum := rfl; omega)) ea_nil) (rc_lenS (by rw [len_join0]; show sgnsOf ws ≤ _; omega))) (by rw [len_join0] <;> rfl)) fun H5 e5 => ?_
      have e05 := e04.trans e5
      refine TwE.q_un2 (x := .int ((wd - (sgnsOf ws : Int)) / ((ws.length : Int) - 1))) (y := .int ((wd - (sgnsOf ws : Int)) % ((ws.length : Int) - 1))) (eu_div (ea_cons (ev_op (ev_var rfl) (ev_var rfl) rv_I0) (ea_cons (ev_is (ev_op (ev_cb (ea_cons (ev_var rfl) ea_nil) (rc_lenL (ex_l e05 hS))) ev_c rv_I0) (by rw [nl])) ea_nil)) ⟨hm, by omega⟩) fun H6 e6 => ?_
      have e06 := e05.trans e6
      refine q_asg (v := .str (sprP ws wd 0)) (ev_op (ev_var rfl) ev_c (rv_ixL (ex_l e06 hS) (atI_nat (j := 0) (str_at (by omega))))) fun H7 e7 => ?_
      have e07 := e06.trans e7
      have big := fun k (hk : k < ws.length) => spr_le h4 hf hk
      refine q_forR2 (lo := 1) (n := (ws.map V.str).length) (ea_cons ev_c (ea_cons (ev_cb (ea_cons (ev_var rfl) ea_nil) (rc_lenL (ex_l e07 hS))) ea_nil)) ⟨by decide, by decide, by omega, by omega⟩
        (fun i σ' H' => ∃ x, σ' = [some (.ref p), some (.int wd), some (.int (sgnsOf ws)), some (.int ((wd - (sgnsOf ws : Int)) / ((ws.length : Int) - 1))), some (.int ((wd - (sgnsOf ws : Int)) % ((ws.length : Int) - 1))), some (.str (sprP ws wd i)), x] ∧ Ex H H') (fun H8 e8 => ⟨none, rfl, e07.trans e8⟩) ?_ ?_
      · rintro i σ' H' hi ⟨x, rfl, e⟩
        have hi' : i + 1 < ws.length := by omega
        have b1 := big i (by omega)
        have b2 := spr_next hi' hf
        have g := gap_in hi' hf
        have gl := len_blanks g
        have eg : (if decide ((i : Int) + 1 ≤ (wd - (sgnsOf ws : Int)) % ((ws.length : Int) - 1)) = true then (wd - (sgnsOf ws : Int)) / ((ws.length : Int) - 1) + 1 else (wd - (sgnsOf ws : Int)) / ((ws.length : Int) - 1)) = gapK ws wd i := by
          rw [gap_is hm (by omega) (by omega)]
          unfold gapK
          rw [show (ws.length : Int) - 1 + 1 = ws.length by omega]
        refine s_asg (v := .str (sprP ws wd (i + 1))) (ev_op (ev_op (ev_var rfl) (ev_op ev_blk (y := .int (gapK ws wd i)) (ev_is (ev_if (b := decide ((i : Int) + 1 ≤ (wd - (sgnsOf ws : Int)) % ((ws.length : Int) - 1))) (v := .int (gapK ws wd i)) (et_is (et_test (ev_op (ev_var rfl) (ev_var rfl) rv_I0)) (by rw [show (1 : Int) + (i : Int) = (i : Int) + 1 by omega])) (fun hb => ?_) (fun hb => ?_)) rfl) (rv_mulS (L := 1) (N := wd.toNat) (Nat.le_refl 1) (by omega) g (by omega) (by omega))) (rv_addS (by omega))) (ev_op (ev_var rfl) (ev_var rfl) (rv_ixL (ex_l e hS) (by rw [show (1 : Int) + (i : Int) = ((i + 1 : Nat) : Int) by omega]; exact atI_nat (str_at hi')))) (rv_addS (by rw [len_app]; omega))) fun H8 e8 => ⟨_, rfl, e.trans e8⟩
        · rw [← eg, if_pos hb]
          exact ev_op (ev_var rfl) ev_c rv_I0
        · rw [← eg, if_neg (by rw [hb]; decide)]
          exact ev_var rfl
      · rintro σ' H' ⟨x, rfl, e⟩
        have e9 : spreadOf ws wd = sprP ws wd ((((ws.map V.str).length : Int) - 1).toNat) := by
          unfold spreadOf
          rw [if_neg (fun q => by rw [q] at h4; exact absurd h4 (Nat.not_lt_zero _)), nl, show ((ws.length : Int) - 1).toNat = ws.length - 1 by omega]
        rw [e9] at k
        exact s_ret (ev_var rfl) fun H8 e8 => k H8 (e.trans e8)

/-! ### textwrapper.layout: joined, wrapped -/
/-- a list of lists of texts, to be read -/
def Rows (H : Hp) (l : Addr) (pss : List (List Str)) : Prop := ∃ ts : List Addr, H l = some (.lst (ts.map V.ref)) ∧ ts.length = pss.length ∧ ∀ (j : Nat) (t : Addr) (p : List Str), ts[j]? = some t → pss[j]? = some p → H t = some (.lst (p.map V.str))
theorem Rows.ex {H H' : Hp} {l : Addr} {pss : List (List Str)} (h : Rows H l pss) (e : Ex H H') : Rows H' l pss := by
  obtain ⟨ts, h1, h2, h3⟩ := h
  exact ⟨ts, e _ _ h1, h2, fun j t p a b => e _ _ (h3 j t p a b)⟩
theorem rows_LLs {H0 H : Hp} {l : Addr} {ex : List Addr} {pss : List (List Str)} (h : LLs H0 H l ex pss) : Rows H l pss := by
  obtain ⟨h0, ps, rfl, hl, nd, hx, _⟩ := h
  refine ⟨ps.map (·.1), by rw [hl, List.map_map] <;> rfl, by rw [List.length_map, List.length_map], fun j t p a b => ?_⟩
  rw [List.getElem?_map] at a b
  obtain ⟨x, hxj, rfl⟩ := Option.map_eq_some_iff.mp a
  rw [hxj] at b
  cases b
  exact (hx x (List.mem_of_getElem? hxj)).2
theorem lf2_eq : Str.ofString "\n\n" = lf2S := by decide +kernel
theorem ev_lf2 {σ : L2.St} {H : Hp} : Ev (tC (.str (Str.ofString "\n\n"))) σ H (.str lf2S) := ev_is ev_c (congrArg V.str lf2_eq)
theorem ev_lf1 {σ : L2.St} {H : Hp} : Ev (tC (.str (Str.ofString "\n"))) σ H (.str lfS) := ev_lf
theorem q_dropP {ta : TA} {sp : Sp} {dvs : List V} {E : XK} {P : List V → Hp → Prop} {σ : L2.St} {H : Hp} {D : Ends} {tz : TS} (h : ArgP ta σ H P) (k : ∀ vs H1, Ex H H1 → P vs H1 → sp (vs ++ dvs) H1 (fun _ H2 => tz D σ H2) E) : tSeq (tDrop (tCall sp dvs E ta)) tz D σ H := h H (Ex.refl H) _ k
def sp_joined (K : PySem.W.Frag) : Sp := fun vs H Q _ => ∃ (l : Addr) (pss : List (List Str)), vs = [.ref l] ∧ Rows H l pss ∧ pss.length ≤ 40000 ∧ (∀ p ∈ pss, (p.map (·.length)).sum + p.length ≤ 10000000) ∧ ((pss.map (Txt.join lfS)).map (·.length)).sum + 2 * pss.length ≤ 10000000 ∧ RetV (.str (Txt.join lf2S (pss.map (Txt.join lfS)))) H Q
theorem ok_joined (T : Txt K mg A) : FnOk P w K mg base CX0 1 A.f_joined A.d_joined ["paragraphs"] (sp_joined K) := by
  refine T.F_joined.ok sc_joined (fun vs H Q E h => ?_) (fun cdv Ar outer s H vs Q E hr h => ?_)
  · obtain ⟨l, pss, rfl, _⟩ := h
    rfl
  · obtain ⟨l, pss, rfl, hR, hl, hb1, hb2, k⟩ := h
    refine ⟨_, (pss_one (ps_ret (TwE.pe_joinE (K := K) rfl pe_str (pe_lc (own := [("lines", 1)]) (tt := tYes) rfl sc_joined.nd (pi_list (pv 0)) (blkOk_by (N := N_joined) (sc := defScope s_joined) (by decide +kernel)) (fun _ _ _ _ _ => (pg_name (i := 1) sc_joined.nd rfl (.inl rfl))) (fun _ _ _ _ _ => pts_nil) (fun _ _ _ _ _ => (TwE.pe_joinE (K := K) rfl pe_str (pv 1))))))), ?_⟩
    obtain ⟨ts, h1, h2, h3⟩ := hR
    have nt : (ts.map V.ref).length = pss.length := by rw [List.length_map, h2]
    refine s_ret (v := .str (Txt.join lf2S (pss.map (Txt.join lfS)))) (ev_joinL ev_lf2 (el_is (el_lcX (fun i => V.str (Txt.join lfS (pss.getD i []))) (ev_var rfl) (sq_of h1) (by omega) (fun _ => rfl) fun i x H2 e2 hi => ?_) ?_) ?_) fun H2 e2 => k H2 e2
    · rw [List.getElem?_map] at hi
      obtain ⟨t, ht, rfl⟩ := Option.map_eq_some_iff.mp hi
      have hil : i < pss.length := by
        have := (List.getElem?_eq_some_iff.mp ht).1
        omega
      have hp : pss[i]? = some (pss.getD i []) := by rw [List.getD_eq_getElem?_getD, List.getElem?_eq_getElem hil] <;> rfl
      have hb := hb1 (pss.getD i []) (List.mem_of_getElem? hp)
      refine ev_join ev_lf1 (ev_var rfl) (sq_of (e2 _ _ (h3 i t _ ht hp))) ?_
      show _ + _ * 1 ≤ _
      omega
    · rw [nt, List.map_map]
      refine List.ext_getElem? fun j => ?_
      rw [List.getElem?_map, List.getElem?_map]
      by_cases hj : j < pss.length
      · rw [List.getElem?_range hj, List.getElem?_eq_getElem hj]
        show some (V.str (Txt.join lfS (pss.getD j []))) = some (V.str (Txt.join lfS pss[j]))
        rw [List.getD_eq_getElem?_getD, List.getElem?_eq_getElem hj] <;> rfl
      · rw [List.getElem?_eq_none (by rw [List.length_range]; omega), List.getElem?_eq_none (by omega)] <;> rfl
    · rw [List.length_map]
      show _ + _ * 2 ≤ _
      omega

/-! ### lists of lists made by comprehensions -/
def RowsN (H : Hp) (l : Addr) (n : Nat) (v : Nat → List Str) : Prop := ∃ ts : List Addr, H l = some (.lst (ts.map V.ref)) ∧ ts.length = n ∧ ∀ (j : Nat) (t : Addr), ts[j]? = some t → H t = some (.lst ((v j).map V.str))
theorem RowsN.ex {H H' : Hp} {l : Addr} {n : Nat} {v : Nat → List Str} (h : RowsN H l n v) (e : Ex H H') : RowsN H' l n v := by
  obtain ⟨ts, h1, h2, h3⟩ := h
  exact ⟨ts, e _ _ h1, h2, fun j t a => e _ _ (h3 j t a)⟩
def CwL (H : Hp) (v : Nat → List Str) (G : Nat → Prop) (Dl : Addr) (i : Nat) (H' : Hp) : Prop := H Dl = none ∧ Ex H H' ∧ ∃ ls : List Addr, H' Dl = some (.lst (ls.map V.ref)) ∧ ls.length = i ∧ ∀ (j : Nat) (t : Addr), ls[j]? = some t → t ≠ Dl ∧ H' t = some (.lst ((v j).map V.str)) ∧ G j
/-- a new list, where G has come to be known -/
def EvLG (te : TE) (σ : L2.St) (H : Hp) (xs : List V) (G : Prop) : Prop := ∀ H1, Ex H H1 → ∀ Q : VK, (G → ∀ p H2, H1 p = none → Ex H1 H2 → H2 p = some (.lst xs) → Q (.ref p) H2) → te σ H1 Q
theorem yes_if {σ : L2.St} {H : Hp} {G F : Hp → Prop} (h : G H) : tYes σ H fun b H3 => if b = true then G H3 else F H3 := by
  show (if (true : Bool) = true then G H else F H)
  rw [if_pos rfl]
  exact h
theorem cwl_turn {H H' : Hp} {v : Nat → List Str} {G : Nat → Prop} {Dl : Addr} {i : Nat} {σ2 : L2.St} {te : TE} (p : CwL H v G Dl i H') (hi : i < 90000) (he : EvLG te σ2 H ((v i).map V.str) (G i)) :
    tYes σ2 H' fun b H3 => if b = true then te σ2 H3 fun y H4 => ∃ acc, H4 Dl = some (.lst acc) ∧ acc.length < sizeLine ∧ CwL H v G Dl (i + 1) (upd H4 Dl (.lst (acc ++ [y]))) else CwL H v G Dl (i + 1) H3 := by
  obtain ⟨h0, e, ls, hls, hln, hin⟩ := p
  refine yes_if (he H' e _ fun hG q H4 hq e4 h4 => ⟨ls.map V.ref, e4 _ _ hls, sz_lt (by rw [List.length_map]; omega), h0, Ex.mut (e.trans e4) h0, ls ++ [q], ?_, by rw [List.length_append, hln] <;> rfl, fun j t g => ?_⟩)
  · rw [List.map_append]
    exact upd_same
  · have hne : q ≠ Dl := fun z => by
      rw [z, hls] at hq
      cases hq
    rcases Nat.lt_or_ge j ls.length with c | c
    · rw [List.getElem?_append_left c] at g
      obtain ⟨a1, a2, a3⟩ := hin j t g
      exact ⟨a1, by rw [upd_ne a1]; exact e4 _ _ a2, a3⟩
    · have hj : j = i := by
        have := (List.getElem?_eq_some_iff.mp g).1
        rw [List.length_append] at this
        have h1 : ([q] : List Addr).length = 1 := rfl
        omega
      subst hj
      rw [List.getElem?_append_right c, hln, Nat.sub_self] at g
      cases g
      exact ⟨hne, by rw [upd_ne hne]; exact h4, hG⟩
def EvPG (te : TE) (σ : L2.St) (H : Hp) (xs ys : List V) (G : Prop) : Prop := ∀ H1, Ex H H1 → ∀ Q : VK, (G → ∀ l H2, Ex H1 H2 → Pairs H2 l xs ys → Q (.ref l) H2) → te σ H1 Q
/-- over pairs, each a new list -/
theorem er_lcP {xs ys : List V} {tl te : TE} {j1 j2 : Nat} {vs : List Nat} {σ : L2.St} {H : Hp} {G : Prop} (v : Nat → List Str) (h : EvPG tl σ H xs ys G) (hz : xs.length ≤ 80000) (hw : ∀ x y, wipe (((wipe σ vs).set j1 (some x)).set j2 (some y)) vs = wipe σ vs)
    (he : G → ∀ (i : Nat) (x y : V) H1, Ex H H1 → xs[i]? = some x → ys[i]? = some y → EvL te (((wipe σ vs).set j1 (some x)).set j2 (some y)) H1 ((v i).map V.str)) {H0 : Hp} (e : Ex H H0) {Q : VK} (q : G → ∀ l H2, Ex H0 H2 → RowsN H2 l (min xs.length ys.length) v → Q (.ref l) H2) :
    tLc (iList K tl) (gTup K 2 (gCons (gName j1) (gCons (gName j2) gNil))) tYes te vs σ H0 Q := h H0 e _ fun hG a H1 e1 hP => by
  obtain ⟨ts, hx, hlen, hp⟩ := hP
  refine ⟨a, rfl, ⟨_, sq_of hx⟩, fun Dl hD => ?_⟩
  refine lc_list (xs := ts.map V.ref) (CwL H1 v (fun _ => True) Dl) ⟨hD, Ex.new hD, [], upd_same, rfl, fun j t g => by simp at g⟩ (fun i H' _ p => sq_of (p.2.1 a _ hx)) (fun i x H' hi p => ?_) (fun H' p => ?_)
  · rw [List.getElem?_map] at hi
    obtain ⟨t, ht, rfl⟩ := Option.map_eq_some_iff.mp hi
    obtain ⟨x, y, h1, h2, h3⟩ := hp i t ht
    have hil := (List.getElem?_eq_some_iff.mp ht).1
    exact ⟨t, [x, y], rfl, st_of (p.2.1 t _ h3), rfl, x, [y], rfl, y, [], rfl, rfl, hw x y, cwl_turn p (by omega) fun H2 e2 Q2 k2 => he hG i x y H1 (e.trans e1) h1 h2 H2 e2 Q2 (k2 trivial)⟩
  · rw [List.length_map] at p
    obtain ⟨p1, p2, ls, hls, hln, hin⟩ := p
    exact q hG Dl H' (e1.trans p2) ⟨ls, hls, by rw [hln, hlen], fun j t g => (hin j t g).2.1⟩
/-- over a list of lists, each a new list -/
theorem er_lcX {pss : List (List Str)} {tl te : TE} {j : Nat} {vs : List Nat} {σ : L2.St} {H0 : Hp} {Q : VK} (v : Nat → List Str) (G : Nat → Prop) (h : ∀ Q' : VK, (∀ a H2, Ex H0 H2 → Rows H2 a pss → Q' (.ref a) H2) → tl σ H0 Q') (hz : pss.length ≤ 80000) (hw : ∀ x, wipe ((wipe σ vs).set j (some x)) vs = wipe σ vs)
    (he : ∀ (i : Nat) (t : Addr) (p : List Str) H1, Ex H0 H1 → pss[i]? = some p → H1 t = some (.lst (p.map V.str)) → EvLG te ((wipe σ vs).set j (some (.ref t))) H1 ((v i).map V.str) (G i)) (q : (∀ j, j < pss.length → G j) → ∀ l H2, Ex H0 H2 → RowsN H2 l pss.length v → Q (.ref l) H2) :
    tLc (iList K tl) (gName j) tYes te vs σ H0 Q := h _ fun a H1 e1 hR => by
  obtain ⟨ts, hx, hlen, hp⟩ := hR
  refine ⟨a, rfl, ⟨_, sq_of hx⟩, fun Dl hD => ?_⟩
  refine lc_list (xs := ts.map V.ref) (CwL H1 v G Dl) ⟨hD, Ex.new hD, [], upd_same, rfl, fun j t g => by simp at g⟩ (fun i H' _ p => sq_of (p.2.1 a _ hx)) (fun i x H' hi p => ?_) (fun H' p => ?_)
  · rw [List.getElem?_map] at hi
    obtain ⟨t, ht, rfl⟩ := Option.map_eq_some_iff.mp hi
    have hil := (List.getElem?_eq_some_iff.mp ht).1
    have hpi : pss[i]? = some (pss[i]'(by omega)) := List.getElem?_eq_getElem (by omega)
    exact ⟨hw _, cwl_turn p (by omega) (he i t _ H1 e1 hpi (hp i t _ ht hpi))⟩
  · rw [List.length_map, hlen] at p
    obtain ⟨p1, p2, ls, hls, hln, hin⟩ := p
    exact q (fun j hj => (hin j ls[j] (List.getElem?_eq_getElem (by omega))).2.2) Dl H' (e1.trans p2) ⟨ls, hls, hln, fun j t g => (hin j t g).2.1⟩
theorem q_asgR {te : TE} {g : TG} {tz : TS} {D : Ends} {σ : L2.St} {H : Hp} (h : te σ H fun v H1 => g v σ H1 (tz D)) : tSeq (tAsg te g) tz D σ H := h
theorem s_ret1 {sp : Sp} {dvs : List V} {E : XK} {te : TE} {D : Ends} {σ : L2.St} {H : Hp} (h : te σ H fun v H1 => sp ([v] ++ dvs) H1 (fun v H2 => D.rt v H2) E) : tRet (tCall sp dvs E (tCons te tNil)) D σ H := h
theorem cutV_last (xs : List V) : cutV xs none (some (-1)) = xs.dropLast := by
  have q : HT.sIx xs.length xs.length (some (-1)) = xs.length - 1 := by
    show (if (-1 : Int) < 0 then ((-1 : Int) + (xs.length : Int)).toNat else min (-1 : Int).toNat xs.length) = _
    rw [if_pos (by decide)]
    omega
  unfold cutV
  rw [q, HT.sIx_none, List.drop_zero, Nat.sub_zero, List.dropLast_eq_take]
/-! ### squared_lines -/
theorem ends_get {S : List Nat} {n i : Nat} (hi : i < S.length) : (ends S n)[i]? = some ((ends S n).getD i 0) := by
  have el : (ends S n).length = S.length := by
    unfold ends
    rw [List.length_append, List.length_drop]
    show _ - 1 + 1 = _
    omega
  rw [List.getD_eq_getElem?_getD, List.getElem?_eq_getElem (by omega)] <;> rfl
theorem get_get {S : List Nat} {i : Nat} (hi : i < S.length) : S[i]? = some (S.getD i 0) := by rw [List.getD_eq_getElem?_getD, List.getElem?_eq_getElem hi] <;> rfl
theorem endsOf_zs (n : Nat) (S : List Nat) : endsOf n (zsOf S) = zsOf (ends S n) := by
  unfold endsOf ends zsOf
  rw [List.map_append, List.map_drop] <;> rfl
theorem zs_get {S : List Nat} {i : Nat} {x : V} (h : ((zsOf S).map V.int)[i]? = some x) : i < S.length ∧ x = .int ((S.getD i 0 : Nat) : Int) := by
  unfold zsOf at h
  rw [List.map_map, List.getElem?_map] at h
  obtain ⟨s, hs, rfl⟩ := Option.map_eq_some_iff.mp h
  refine ⟨(List.getElem?_eq_some_iff.mp hs).1, ?_⟩
  rw [List.getD_eq_getElem?_getD, hs] <;> rfl
theorem seg_last {ws : List Str} {S : List Nat} (h : S ≠ []) : segAt ws S (S.length - 1) = ws.drop (S.getD (S.length - 1) 0) := by
  have hpos := List.length_pos_iff.mpr h
  have e : (ends S ws.length).getD (S.length - 1) 0 = ws.length := by
    rw [List.getD_eq_getElem?_getD, ends_at (by omega), dif_neg (by omega)] <;> rfl
  unfold segAt
  rw [e, List.take_of_length_le (by rw [List.length_drop]; omega)]
def sp_sq_lines (K : PySem.W.Frag) : Sp := fun vs H Q _ => ∃ (p : Addr) (ws : List Str) (w : Int), vs = [.ref p, .int w] ∧ SqL K H p (ws.map V.str) ∧ Par ws ∧ WidB w ∧ 1 ≤ w ∧ (∀ z ∈ ws, (z.length : Int) ≤ w) ∧ (ToldG ws w → RetL ((sqLines ws (bestOf ws w) w).map V.str) H Q)
theorem ok_squared_lines (T : Txt K mg A) : FnOk P w K mg base CX0 6 A.f_squared_lines A.d_squared_lines ["words", "width"] (sp_sq_lines K) := by
  refine T.F_squared_lines.ok sc_squared_lines (fun vs H Q E h => ?_) (fun cdv Ar outer s H vs Q E hr h => ?_)
  · obtain ⟨p, ws, i, rfl, _⟩ := h
    rfl
  · obtain ⟨p, ws, wd, rfl, hS, hP, hwB, hw, hF, k⟩ := h
    refine ⟨_, (pss_cons (ps_setLc (i := 2) (own := [("begin", 4), ("end", 5)]) (g := gTup K 2 (gCons (gName 4) (gCons (gName 5) gNil))) (tt := tYes) rfl sc_squared_lines.nd rfl rfl (sw_true rfl rfl rfl (by decide +kernel)) (pi_list (pe_call (ok_bounds_of T) (hr.mono (by decide)) rfl T.g_bounds_of T.F_bounds_of.kp T.b_bounds_of .nil pass0 (pa_cons (pv 0) (pa_cons (pe_call (ok_best_starts T) (hr.mono (by decide)) rfl T.g_best_starts T.F_best_starts.kp T.b_best_starts .nil passN (pa_cons (pv 0) (pa_cons (pv 1) pa_nil))) pa_nil)))) (blkOk_by (N := N_squared_lines) (sc := defScope s_squared_lines) (by decide +kernel)) (fun _ _ _ _ _ => (by
        apply pg_tup (n := 2)
        all_goals try rfl
        apply pgs_cons
        all_goals try rfl
        focus exact pg_name (i := 4) sc_squared_lines.nd rfl (.inl rfl)
        apply pgs_cons
        all_goals try rfl
        focus exact pg_name (i := 5) sc_squared_lines.nd rfl (.inl rfl)
        exact pgs_nil)) (fun _ _ _ _ _ => pts_nil) (fun _ _ _ _ _ => (pe_slice (TwE.slE (K := K) rfl) (pv 0) (po_some (pv 4)) (po_some (pv 5)))))
  (pss_cons (ps_setLc (i := 3) (own := [("row", 6)]) (tt := tYes) rfl sc_squared_lines.nd rfl rfl (sw_true rfl rfl rfl (by decide +kernel)) (pi_list (pe_slice (TwE.slE (K := K) rfl) (pv 2) po_none (po_some (pe_un un_neg pe_int)))) (blkOk_by (N := N_squared_lines) (sc := defScope s_squared_lines) (by decide +kernel)) (fun _ _ _ _ _ => (pg_name (i := 6) sc_squared_lines.nd rfl (.inl rfl))) (fun _ _ _ _ _ => pts_nil) (fun _ _ _ _ _ => (pe_call (ok_spread_line T) (hr.mono (by decide)) rfl T.g_spread_line T.F_spread_line.kp T.b_spread_line .nil passN (pa_cons (pv 6) (pa_cons (pv 1) pa_nil)))))
  (pss_one (ps_ret (pe_op op_cat (pv 3) (pe_lst (pa_cons (TwE.pe_joinE (K := K) rfl pe_str (pe_ix (ixL (K := K) rfl) (pv 2) (pe_un un_neg pe_int) (fun _ _ => rfl))) pa_nil))))))), ?_⟩
    have nl : (ws.map V.str).length = ws.length := List.length_map ..
    have pl := len_of hP.wz hP.tot
    have endL : ∀ S : List Nat, (ends S ws.length).length = S.length - 1 + 1 := fun S => by
      unfold ends
      rw [List.length_append, List.length_drop] <;> rfl
    have hlen : (bestOf ws wd).length ≤ 40000 := by
      have := bestOf_len ws wd
      omega
    refine q_asgR (er_lcP (xs := (zsOf (bestOf ws wd)).map V.int) (ys := (endsOf ws.length (zsOf (bestOf ws wd))).map V.int) (G := ToldG ws wd) (fun i => segAt ws (bestOf ws wd) i) (fun H1 e1 Q1 k1 => ?_) (by rw [List.length_map]; unfold zsOf; rw [List.length_map]; omega) (fun _ _ => rfl) (fun hG i x y H1 e1 hx hy => ?_) (Ex.refl H) fun hG rl H2 e2 hR => ?_)
    · refine ⟨_, rfl, ⟨_, rfl, ⟨_, rfl, ⟨p, ws, wd, rfl, ex_l e1 hS, hP.tot, pl, hwB, fun q => absurd q (by omega), fun _ ⟨x, hx1, q⟩ => absurd (hF x hx1) (by omega), fun _ _ tt S hTT hB sl H6 sl0 e6 hsl => ?_⟩⟩⟩⟩
      have hbo := bestOf_eq hTT hB
      have hSl := walk_len (fun _ _ g => g.fit.1) hB
      rw [nats_ints] at hsl
      refine ⟨p, sl, ws, zsOf S, rfl, ex_l (e1.trans e6) hS, sq_of hsl, by unfold zsOf; rw [List.length_map]; omega, fun l H7 e7 hPr => ?_⟩
      rw [← hbo] at hPr
      exact k1 (toldG_of hTT hB) l H7 (e6.trans e7) hPr
    · obtain ⟨hi, rfl⟩ := zs_get hx
      rw [endsOf_zs] at hy
      obtain ⟨hi2, rfl⟩ := zs_get hy
      obtain ⟨f1, f2, f3⟩ := (walk_fitS hG.told).fit i _ _ (get_get hi) (ends_get hi)
      exact el_is (el_sl (ev_var rfl) (eo_some (ev_var rfl)) (eo_some (ev_var rfl)) (ex_l e1 hS)) (cut_words (Nat.le_of_lt f1) f2)
    · show tSeq _ _ _ _ H2
      have hfS := walk_fitS hG.told
      have hne : bestOf ws wd ≠ [] := fun q => hP.ne (hfS.nil q)
      have hpos := List.length_pos_iff.mpr hne
      have htwo := two_lines hP hw hG
      revert hfS hne hpos htwo hR hlen
      generalize hSS : bestOf ws wd = S
      intro hlen hR hfS hne hpos htwo
      have emin : min ((zsOf S).map V.int).length ((endsOf ws.length (zsOf S)).map V.int).length = S.length := by
        rw [endsOf_zs, List.length_map, List.length_map]
        unfold zsOf
        rw [List.length_map, List.length_map, endL]
        omega
      rw [emin] at hR
      obtain ⟨ts, hl, htl, hrow⟩ := hR
      have htl2 : (ts.map V.ref).dropLast.length = S.length - 1 := by rw [List.length_dropLast, List.length_map, htl]
      refine q_asgL (xs := ((List.range (S.length - 1)).map fun k => spreadOf (segAt ws S k) wd).map V.str) (el_is (el_lcNL (xs := (ts.map V.ref).dropLast) (fun _ => true) (fun i => V.str (spreadOf (segAt ws S i) wd)) (el_is (el_sl (ev_var rfl) eo_none (eo_some (ev_un ev_c ru_neg)) (sq_of hl)) (cutV_last _)) (by omega) (fun _ => rfl) (fun _ _ _ _ _ => et_yes) fun i x H3 e3 hi _ => ?_) (by rw [given_all, htl2, List.map_map] <;> rfl)) fun ll H3 ll0 e3 hll => ?_
      · have hil : i < S.length - 1 := by
          have := (List.getElem?_eq_some_iff.mp hi).1
          omega
        rw [List.getElem?_dropLast, if_pos (by rw [List.length_map, htl]; exact hil), List.getElem?_map] at hi
        obtain ⟨t, ht, rfl⟩ := Option.map_eq_some_iff.mp hi
        have nx := hfS.fit i _ _ (get_get (show i < S.length by omega)) (ends_get (show i < S.length by omega))
        have hst : Tot (segAt ws S i) := seg_tot hP.tot _ _
        have hsl : (segAt ws S i).length ≤ 40000 := by
          unfold segAt
          rw [List.length_take, List.length_drop]
          omega
        have hsf : (sizeN (segAt ws S i) 0 (segAt ws S i).length : Int) ≤ wd := by
          unfold segAt
          rw [seg_size]
          exact nx.2.2
        exact ev_call (ea_cons (ev_var rfl) (ea_cons (ev_var rfl) ea_nil)) fun H4 e4 Q' q E' => ⟨t, segAt ws S i, wd, rfl, sq_of ((e3.trans e4) _ _ (hrow i t ht)), hst, hsl, fun _ => htwo (by omega), fun q => absurd q (by omega), fun _ q => absurd q (by omega), fun _ _ => q⟩
      · have hl3 := e3 _ _ hl
        obtain ⟨tz, htz⟩ : ∃ tz, ts[S.length - 1]? = some tz := ⟨ts[S.length - 1]'(by omega), List.getElem?_eq_getElem (by omega)⟩
        have hat : atI (ts.map V.ref) (-1) = some (.ref tz) := by
          have e : ixN (ts.map V.ref).length (-1) = some (S.length - 1) := by
            unfold ixN
            rw [if_neg (by decide), List.length_map, htl, if_pos (by omega)]
            congr 1
            omega
          unfold atI
          rw [e]
          show (ts.map V.ref)[S.length - 1]? = _
          rw [List.getElem?_map, htz] <;> rfl
        have hlast : H3 tz = some (.lst ((segAt ws S (S.length - 1)).map V.str)) := e3 _ _ (hrow _ tz htz)
        rw [seg_last hne] at hlast
        have hsq : sqLines ws S wd = ((List.range (S.length - 1)).map fun k => spreadOf (segAt ws S k) wd) ++ [Txt.join blankS (ws.drop (S.getD (S.length - 1) 0))] := rfl
        have hk := k hG
        rw [hSS, hsq, List.map_append] at hk
        refine s_retL (el_cat (ev_var rfl) hll (el_lst (ea_cons (x := .str (Txt.join blankS (ws.drop (S.getD (S.length - 1) 0)))) (ev_join ev_blk (ev_op (ev_var rfl) (ev_un ev_c ru_neg) (rv_ixL (sq_of hl3) hat)) (sq_of hlast) ?_) ea_nil) (show 1 ≤ 100000 by decide)) ?_) fun q H4 q0 e4 h4 => hk q H4 (fresh_back (e2.trans e3) q0) ((e2.trans e3).trans e4) h4
        · have l2 := line_fits hP.tot pl (S.getD (S.length - 1) 0) (S.getD (S.length - 1) 0 + ws.length)
          rw [Nat.add_sub_cancel_left, List.take_of_length_le (by rw [List.length_drop]; omega)] at l2
          omega
        · rw [List.length_map, List.length_map, List.length_range]
          show _ + 1 ≤ _
          omega

/-! ### squared -/
def sp_squared (K : PySem.W.Frag) (A : Ad) : Sp := fun vs H Q E => ∃ (z : Str) (w : Int), vs = [.str z, .int w] ∧ Txs z ∧ z.length ≤ 75000 ∧ WidB w ∧ (w < 1 → ∀ H', Ex H H' → E (.ref A.c_NoWidth) none H') ∧
  (1 ≤ w → (∃ x ∈ Txt.words z, w < (x.length : Int)) → ∀ H', Ex H H' → E (.ref A.c_LongWord) none H') ∧ (1 ≤ w → (∀ x ∈ Txt.words z, (x.length : Int) ≤ w) → RetV (.str (sqT (paras z) w)) H Q)
theorem sqs_sum {ps : List (List Str)} {w : Int} (hw : 1 ≤ w) (hp : ∀ p ∈ ps, Par p) (ht : ∀ p ∈ ps, ToldG p w) : ((ps.map (sqBlock w)).map (·.length)).sum ≤ 4 * (ps.map fun p => (p.map fun z => z.length + 1).sum).sum := by
  induction ps with
  | nil => exact Nat.zero_le _
  | cons p r ih =>
    have h1 := ih (fun x hx => hp x (List.mem_cons_of_mem _ hx)) fun x hx => ht x (List.mem_cons_of_mem _ hx)
    have h2 := sq_sum (hp p (List.mem_cons_self ..)) hw (ht p (List.mem_cons_self ..))
    have h3 := len_join lfS (sqLines p (bestOf p w) w)
    rw [show lfS.length = 1 from rfl, Nat.mul_one] at h3
    have h4 : (sqBlock w p).length ≤ 4 * (p.map fun z => z.length + 1).sum := by
      unfold sqBlock
      omega
    rw [List.map_cons, List.map_cons, List.sum_cons, List.map_cons, List.sum_cons]
    omega
theorem ok_squared (T : Txt K mg A) : FnOk P w K mg base (L2N.CX P w) 7 A.f_squared A.d_squared ["text", "width"] (sp_squared K A) := by
  refine Fun.okN T.F_squared sc_squared (fun vs H Q E h => ?_) (fun cdv Ar outer s H vs Q E hr h => ?_)
  · obtain ⟨z, i, rfl, _⟩ := h
    rfl
  · obtain ⟨z, wd, rfl, hz, hzl, hwB, h1, h2, h3⟩ := h
    refine ⟨_, (pss_cons (ps_expr (pe_call (ok_check_words T) (hr.mono (by decide)) rfl T.g_check_words T.F_check_words.kp T.b_check_words .nil (L2N.passes_call (L2N.takes_of rfl rfl rfl rfl) (fun _ _ _ _ h => h)) (pa_cons (pe_call (ok_words_of T) (hr.mono (by decide)) rfl T.g_words_of T.F_words_of.kp T.b_words_of .nil pass0 (pa_cons (pv 0) pa_nil)) (pa_cons (pv 1) pa_nil))))
  (pss_one (ps_ret (pe_call (ok_joined T) (hr.mono (by decide)) rfl T.g_joined T.F_joined.kp T.b_joined .nil pass0 (pa_cons (pe_lc (own := [("words", 2)]) (tt := tYes) rfl sc_squared.nd (pi_list (pe_call (ok_paragraphs_of T) (hr.mono (by decide)) rfl T.g_paragraphs_of T.F_paragraphs_of.kp T.b_paragraphs_of .nil pass0 (pa_cons (pv 0) pa_nil))) (blkOk_by (N := N_squared) (sc := defScope s_squared) (by decide +kernel)) (fun _ _ _ _ _ => (pg_name (i := 2) sc_squared.nd rfl (.inl rfl))) (fun _ _ _ _ _ => pts_nil) (fun _ _ _ _ _ => (pe_call (ok_squared_lines T) (hr.mono (by decide)) rfl T.g_squared_lines T.F_squared_lines.kp T.b_squared_lines .nil pass0 (pa_cons (pv 2) (pa_cons (pv 1) pa_nil))))) pa_nil))))), ?_⟩
    refine q_dropP (ap_consL (xs := (Txt.words z).map V.str) (el_call (ea_cons (ev_var rfl) ea_nil) fun H1 e1 Q' q E' => ⟨z, rfl, hzl, q⟩) (ap_cons (ev_var rfl) ap_nil) fun _ _ _ => trivial) ?_
    rintro vs H1 e1 ⟨wl, r, rfl, hwl, r2, rfl, rfl⟩
    refine ⟨wl, Txt.words z, wd, rfl, sq_of hwl, words_T hzl, fun hw H' e' => h1 hw H' (e1.trans e'), fun hw hx H' e' => h2 hw hx H' (e1.trans e'), fun hw hx H2 e2 => ?_⟩
    have k := h3 hw hx
    have e02 := e1.trans e2
    have hpar := paras_par hz hzl
    have hfit : ∀ p ∈ paras z, ∀ x ∈ p, (x.length : Int) ≤ wd := fun p hp x hxp => hx x (by rw [← paras_flat]; exact List.mem_flatten.mpr ⟨p, hp, hxp⟩)
    have hplen := paras_len hz hzl
    have hptot := paras_tot z
    show tRet _ _ _ H2
    refine s_ret1 (er_lcX (pss := paras z) (fun i => sqLines ((paras z).getD i []) (bestOf ((paras z).getD i []) wd) wd) (fun i => ToldG ((paras z).getD i []) wd) (fun Q1 k1 => ⟨_, rfl, ⟨z, rfl, hz, hzl, fun l H4 e4 hL => k1 l H4 e4 (rows_LLs hL)⟩⟩) (by omega) (fun _ => rfl) (fun i t p H3 e3 hp ht H4 e4 Q2 k2 => ?_) fun hG l H3 e3 hR => ?_)
    · have hpm := List.mem_of_getElem? hp
      have ep : (paras z).getD i [] = p := by rw [List.getD_eq_getElem?_getD, hp] <;> rfl
      rw [ep] at k2
      exact ⟨_, rfl, ⟨_, rfl, ⟨t, p, wd, rfl, sq_of (e4 _ _ ht), hpar p hpm, hwB, hw, hfit p hpm, fun told q H5 q0 e5 h5 => k2 told q H5 q0 e5 h5⟩⟩⟩
    · have told : ∀ p ∈ paras z, ToldG p wd := fun p hp => by
        obtain ⟨j, hj, rfl⟩ := List.getElem_of_mem hp
        have := hG j hj
        rw [List.getD_eq_getElem?_getD, List.getElem?_eq_getElem hj] at this
        exact this
      obtain ⟨ls, hls, hln, hin⟩ := hR
      refine ⟨l, (paras z).map fun p => sqLines p (bestOf p wd) wd, rfl, ⟨ls, hls, by rw [hln, List.length_map], fun j t p g1 g2 => ?_⟩, by rw [List.length_map]; omega, fun q hq => ?_, ?_, fun H6 e6 => ?_⟩
      · rw [List.getElem?_map] at g2
        obtain ⟨p0, hp0, rfl⟩ := Option.map_eq_some_iff.mp g2
        have h := hin j t g1
        have ep : (paras z).getD j [] = p0 := by rw [List.getD_eq_getElem?_getD, hp0] <;> rfl
        have h2 : H3 t = some (.lst ((sqLines ((paras z).getD j []) (bestOf ((paras z).getD j []) wd) wd).map V.str)) := h
        rw [ep] at h2
        exact h2
      · obtain ⟨p, hp, rfl⟩ := List.mem_map.mp hq
        have := (sq_sum (hpar p hp) hw (told p hp)).1
        have := (hpar p hp).tot.sum
        omega
      · have hb := sqs_sum hw hpar told
        have eb : ((paras z).map fun p => sqLines p (bestOf p wd) wd).map (Txt.join lfS) = (paras z).map (sqBlock wd) := by
          rw [List.map_map] <;> rfl
        rw [eb, List.length_map]
        omega
      · have hk := k H6 ((e02.trans e3).trans e6)
        have ew : sqT (paras z) wd = Txt.join lf2S (((paras z).map fun p => sqLines p (bestOf p wd) wd).map (Txt.join lfS)) := by
          unfold sqT
          rw [List.map_map] <;> rfl
        rw [ew] at hk
        exact hk

/-! ### the law's own spread line -/
def lawP (ws : List Str) (wd : Int) : Nat → Str
  | 0 => Str.empty
  | k + 1 => if k + 1 < ws.length then sprP ws wd k ++ Txt.mul blankS (gapK ws wd k) else sprP ws wd k
theorem law_at {ws : List Str} {wd : Int} {i : Nat} (h : i < ws.length) : lawP ws wd i ++ ws.getD i Str.empty = sprP ws wd i := by
  cases i with
  | zero => exact empty_app _
  | succ i =>
    show (if i + 1 < ws.length then _ else _) ++ _ = _
    rw [if_pos h] <;> rfl
theorem sumI (f : Str → Nat) : ∀ l : List Str, (l.map fun z => ((f z : Nat) : Int)).sum = (((l.map f).sum : Nat) : Int)
  | [] => rfl
  | a :: r => by
    rw [List.map_cons, List.sum_cons, sumI f r, List.map_cons, List.sum_cons] <;> rfl
def sp_lspread (K : PySem.W.Frag) : Sp := fun vs H Q _ => ∃ (p : Addr) (ws : List Str) (wd : Int), vs = [.ref p, .int wd] ∧ SqL K H p (ws.map V.str) ∧ Tot ws ∧ ws.length ≤ 40000 ∧ (1 < ws.length → wd ≤ 90000) ∧ 1 ≤ wd ∧ (sizeN ws 0 ws.length : Int) ≤ wd ∧ RetV (.str (spreadOf ws wd)) H Q
theorem ok_l_spread (T : Txt K mg A) : FnOk P w K mg base CX0 1 A.f_l_spread A.d_l_spread ["_law_row", "_law_width"] (sp_lspread K) := by
  refine T.F_l_spread.ok sc_l_spread (fun vs H Q E h => ?_) (fun cdv Ar outer s H vs Q E hr h => ?_)
  · obtain ⟨p, ws, wd, rfl, _⟩ := h
    rfl
  · obtain ⟨p, ws, wd, rfl, hS, hz, hl, hw4, hw, hf, k⟩ := h
    refine ⟨_, (pss_cons (ps_set (i := 2) sc_l_spread.nd rfl (.inl rfl) (pe_op op_sub (pv 1) (pe_callB (cr_sum rfl) (by rfl) T.m_sum (by decide +kernel) (pa_cons (pe_lc (own := [("_law_word", 5)]) (tt := tYes) rfl sc_l_spread.nd (pi_list (pv 0)) (blkOk_by (N := N_l_spread) (sc := defScope s_l_spread) (by decide +kernel)) (fun _ _ _ _ _ => (pg_name (i := 5) sc_l_spread.nd rfl (.inl rfl))) (fun _ _ _ _ _ => pts_nil) (fun _ _ _ _ _ => (pe_callB call_len_str (by rfl) T.m_len PySem.boot_len (pa_cons (pv 5) pa_nil)))) pa_nil))))
  (pss_cons (ps_set (i := 3) sc_l_spread.nd rfl (.inl rfl) pe_str)
  (pss_cons (ps_for PassesOwn.never rfl (pi_range1 (by rfl) T.m_range (pa_cons (pe_callB call_len_seq (by rfl) T.m_len PySem.boot_len (pa_cons (pv 0) pa_nil)) pa_nil)) (pg_name (i := 4) sc_l_spread.nd rfl (.inl rfl))
  (pss_cons (ps_set (i := 3) sc_l_spread.nd rfl (.inl rfl) (pe_op op_add_str (pv 3) (pe_ix (ixL (K := K) rfl) (pv 0) (pv 4) (fun _ _ => rfl))))
  (pss_one (ps_if (pt_cmpR op_lt (pe_op op_add (pv 4) pe_int) (pe_callB call_len_seq (by rfl) T.m_len PySem.boot_len (pa_cons (pv 0) pa_nil)) (nomark _))
  (pss_one (ps_set (i := 3) sc_l_spread.nd rfl (.inl rfl) (pe_op op_add_str (pv 3) (pe_op op_mulS pe_str (pe_op op_fdiv (pe_op op_sub (pe_op op_add (pe_op op_sub (pv 2) (pv 4)) (pe_callB call_len_seq (by rfl) T.m_len PySem.boot_len (pa_cons (pv 0) pa_nil))) pe_int) (pe_op op_sub (pe_callB call_len_seq (by rfl) T.m_len PySem.boot_len (pa_cons (pv 0) pa_nil)) pe_int))))))
  pss_nil))))
  (pss_one (ps_ret (pv 3)))))), ?_⟩
    have nl : (ws.map V.str).length = ws.length := List.length_map ..
    have el : (List.range (ws.map V.str).length).map (fun i => V.int ((ws.getD i Str.empty).length : Int)) = (ws.map fun z => ((z.length : Nat) : Int)).map V.int := by
      rw [nl, List.map_map]
      refine List.ext_getElem? fun j => ?_
      rw [List.getElem?_map, List.getElem?_map]
      by_cases hj : j < ws.length
      · rw [List.getElem?_range hj, List.getElem?_eq_getElem hj]
        show some (V.int ((ws.getD j Str.empty).length : Int)) = _
        rw [List.getD_eq_getElem?_getD, List.getElem?_eq_getElem hj] <;> rfl
      · rw [List.getElem?_eq_none (by rw [List.length_range]; omega), List.getElem?_eq_none (by omega)] <;> rfl
    refine q_asg (v := .int (wd - (sgnsOf ws : Int))) (ev_is (ev_op (ev_var rfl) (ev_sumN (ns := ws.map fun z => ((z.length : Nat) : Int)) (el_is (el_lcX (fun i => V.int ((ws.getD i Str.empty).length : Int)) (ev_var rfl) hS (by omega) (fun _ => rfl) fun i x H1 e1 hi => ?_) el)) rv_I0) (by rw [sumI (fun z => z.length)] <;> rfl)) fun H1 e1 => ?_
    · have hi' : i < ws.length := by
        have := (List.getElem?_eq_some_iff.mp hi).1
        omega
      have hx : x = .str (ws.getD i Str.empty) := by
        rw [str_at hi'] at hi
        exact (Option.some.inj hi).symm
      subst hx
      have := len_at hz i
      exact ev_cb (ea_cons (ev_var rfl) ea_nil) (rc_lenS (by omega))
    refine q_asg (v := .str Str.empty) ev_none fun H2 e2 => ?_
    have e02 := e1.trans e2
    refine q_forR1 (n := (ws.map V.str).length) (ea_cons (ev_cb (ea_cons (ev_var rfl) ea_nil) (rc_lenL (ex_l e02 hS))) ea_nil) (by omega) (fun i σ' H' => ∃ x1 x2, σ' = [some (.ref p), some (.int wd), some (.int (wd - (sgnsOf ws : Int))), some (.str (lawP ws wd i)), x1, x2] ∧ Ex H H') (fun H3 e3 => ⟨none, none, rfl, e02.trans e3⟩) ?_ ?_
    · rintro i σ' H' hi ⟨x1, x2, rfl, e⟩
      have hi' : i < ws.length := by omega
      have zl := len_at hz i
      have ll : (lawP ws wd i).length + (ws.getD i Str.empty).length ≤ 100000 := by
        cases i with
        | zero => exact show 0 + _ ≤ 100000 by omega
        | succ i =>
          have n1 := spr_next hi' hf
          have g := gap_in hi' hf
          have gl := len_blanks g
          have h4 := hw4 (by omega)
          show (if i + 1 < ws.length then sprP ws wd i ++ Txt.mul blankS (gapK ws wd i) else sprP ws wd i : Str).length + _ ≤ _
          rw [if_pos hi', len_app]
          omega
      refine q_asg (v := .str (sprP ws wd i)) (ev_is (ev_op (ev_var rfl) (ev_op (ev_var rfl) (ev_var rfl) (rv_ixL (ex_l e hS) (atI_nat (str_at hi')))) (rv_addS (by omega))) (by rw [law_at hi'])) fun H3 e3 => ?_
      refine s_when (b := decide ((i : Int) + 1 < ((ws.map V.str).length : Nat))) (et_test (ev_op (ev_op (ev_var rfl) ev_c rv_I0) (ev_cb (ea_cons (ev_var rfl) ea_nil) (rc_lenL (ex_l (e.trans e3) hS))) rv_I0)) (fun hb H4 e4 => ?_) (fun hb H4 e4 => ?_)
      · have hi2 : i + 1 < ws.length := by
          have := of_decide_eq_true hb
          omega
        have b1 := spr_next hi2 hf
        have g := gap_in hi2 hf
        have gl := len_blanks g
        have h4 := hw4 (by omega)
        have e34 := (e.trans e3).trans e4
        have el1 : lawP ws wd (i + 1) = sprP ws wd i ++ Txt.mul blankS (gapK ws wd i) := if_pos hi2
        refine s_asg (v := .str (lawP ws wd (i + 1))) (ev_is (ev_op (ev_var rfl) (ev_op (y := .int (gapK ws wd i)) ev_blk (ev_is (ev_op (ev_op (ev_op (ev_op (ev_var rfl) (ev_var rfl) rv_I0) (ev_cb (ea_cons (ev_var rfl) ea_nil) (rc_lenL (ex_l e34 hS))) rv_I0) ev_c rv_I0) (ev_op (ev_cb (ea_cons (ev_var rfl) ea_nil) (rc_lenL (ex_l e34 hS))) ev_c rv_I0) (rv_I ⟨by omega, by omega⟩)) (by rw [nl] <;> rfl)) (rv_mulS (L := 1) (N := wd.toNat) (Nat.le_refl 1) (by omega) g (by omega) (by omega))) (rv_addS (by omega))) (by rw [el1])) fun H5 e5 => ⟨_, _, rfl, e34.trans e5⟩
      · have hi2 : ¬ i + 1 < ws.length := by
          have := of_decide_eq_false hb
          omega
        have el1 : lawP ws wd (i + 1) = sprP ws wd i := if_neg hi2
        exact ⟨_, _, by rw [el1]; rfl, (e.trans e3).trans e4⟩
    · rintro σ' H' ⟨x1, x2, rfl, e⟩
      have e9 : lawP ws wd (((ws.map V.str).length : Int)).toNat = spreadOf ws wd := by
        rw [nl, Int.toNat_natCast]
        unfold spreadOf
        match ws with
        | [] => rfl
        | z :: r =>
          rw [if_neg (by simp)]
          show lawP (z :: r) wd (r.length + 1) = _
          show (if r.length + 1 < (z :: r).length then _ else _) = _
          rw [if_neg (by rw [List.length_cons]; omega)] <;> rfl
      rw [e9]
      exact s_ret (ev_var rfl) fun H3 e3 => k H3 (e.trans e3)

/-! ### the law's own longest, wrapped -/
def fmax (l : List Str) (m : Int) : Int := l.foldl (fun (m : Int) z => max m (z.length : Int)) m
theorem fmax_app (l r : List Str) (m : Int) : fmax (l ++ r) m = fmax r (fmax l m) := List.foldl_append
theorem fmax_snoc (l : List Str) (y : Str) (m : Int) : fmax (l ++ [y]) m = max (fmax l m) (y.length : Int) := by
  rw [fmax_app] <;> rfl
def longest (ws : List Str) : Int := fmax ws 0
def sp_longestP (K : PySem.W.Frag) : Sp := fun vs H Q _ => ∃ (l : Addr) (pss : List (List Str)), vs = [.ref l] ∧ Rows H l pss ∧ (∀ p ∈ pss, Par p) ∧ RetV (.int (longest pss.flatten)) H Q
theorem take_flat {pss : List (List Str)} {i : Nat} {p : List Str} (h : pss[i]? = some p) : (pss.take (i + 1)).flatten = (pss.take i).flatten ++ p := by
  rw [List.take_add_one, h, List.flatten_append]
  show _ ++ (p ++ []) = _
  rw [List.append_nil]
theorem ok_l_longest (T : Txt K mg A) : FnOk P w K mg base CX0 1 A.f_l_longest A.d_l_longest ["_law_parts_here"] (sp_longestP K) := by
  refine T.F_l_longest.ok sc_l_longest (fun vs H Q E h => ?_) (fun cdv Ar outer s H vs Q E hr h => ?_)
  · obtain ⟨l, pss, rfl, _⟩ := h
    rfl
  · obtain ⟨l, pss, rfl, hR, hP, k⟩ := h
    refine ⟨_, (pss_cons (ps_set (i := 1) sc_l_longest.nd rfl (.inl rfl) pe_int)
  (pss_cons (ps_for PassesOwn.never rfl (pi_list (pv 0)) (pg_name (i := 2) sc_l_longest.nd rfl (.inl rfl))
  (pss_one (ps_for PassesOwn.never rfl (pi_list (pv 2)) (pg_name (i := 3) sc_l_longest.nd rfl (.inl rfl))
  (pss_one (ps_set (i := 1) sc_l_longest.nd rfl (.inl rfl) (pe_callB (call_max2 rfl) (by rfl) T.m_max (by decide +kernel) (pa_cons (pv 1) (pa_cons (pe_callB call_len_str (by rfl) T.m_len PySem.boot_len (pa_cons (pv 3) pa_nil)) pa_nil))))))))
  (pss_one (ps_ret (pv 1))))), ?_⟩
    obtain ⟨ts, hl, hlen, hrow⟩ := hR
    refine q_asg (v := .int 0) ev_c fun H1 e1 => ?_
    refine q_forLn (ev_var rfl) (sq_of (e1 _ _ hl)) (fun i σ' H' => ∃ x2 x3, σ' = [some (.ref l), some (.int (fmax (pss.take i).flatten 0)), x2, x3] ∧ Ex H H') (fun H2 e2 => ⟨none, none, rfl, e1.trans e2⟩) (fun i σ' H' _ ⟨_, _, _, e⟩ => sq_of (e _ _ hl)) ?_ ?_
    · rintro i x σ' H' hi ⟨x2, x3, rfl, e⟩
      rw [List.getElem?_map] at hi
      obtain ⟨t, ht, rfl⟩ := Option.map_eq_some_iff.mp hi
      have hil : i < pss.length := by
        have := (List.getElem?_eq_some_iff.mp ht).1
        omega
      have hp : pss[i]? = some pss[i] := List.getElem?_eq_getElem hil
      have hpm := List.getElem_mem hil
      revert hp hpm
      generalize pss[i] = p
      intro hp hpm
      have htp := hrow i t p ht hp
      refine s_forLn (ev_var rfl) (sq_of (e _ _ htp)) (fun j σ2 H2 => ∃ x3, σ2 = [some (.ref l), some (.int (fmax ((pss.take i).flatten ++ p.take j) 0)), some (.ref t), x3] ∧ Ex H H2) (fun H2 e2 => ⟨x3, by rw [List.take_zero, List.append_nil]; rfl, e.trans e2⟩) (fun j σ2 H2 _ ⟨_, _, e⟩ => sq_of (e _ _ htp)) ?_ ?_
      · rintro j x σ2 H2 hj ⟨x3', rfl, e2⟩
        obtain ⟨y, hy, rfl⟩ : ∃ y, p[j]? = some y ∧ V.str y = x := by
          rw [List.getElem?_map] at hj
          exact Option.map_eq_some_iff.mp hj
        have hyl := (hP p hpm).tot.mem y (List.mem_of_getElem? hy)
        refine s_asg (v := .int (max (fmax ((pss.take i).flatten ++ p.take j) 0) (y.length : Int))) (ev_maxx (ev_var rfl) (ev_cb (ea_cons (ev_var rfl) ea_nil) (rc_lenS (by omega)))) fun H3 e3 => ⟨some (.str y), ?_, e2.trans e3⟩
        rw [List.take_add_one, hy, ← List.append_assoc]
        show _ = [_, some (V.int (fmax ((pss.take i).flatten ++ p.take j ++ [y]) 0)), _, _]
        rw [fmax_snoc] <;> rfl
      · rintro σ2 H2 ⟨x3', rfl, e2⟩
        rw [List.length_map, List.take_length]
        exact ⟨_, _, by rw [take_flat hp], e2⟩
    · rintro σ' H' ⟨x2, x3, rfl, e⟩
      rw [List.length_map, hlen, List.take_length]
      exact s_ret (ev_var rfl) fun H2 e2 => k H2 (e.trans e2)
theorem longest_ge (ws : List Str) : ∀ z ∈ ws, (z.length : Int) ≤ longest ws := by
  have go : ∀ (l : List Str) (m : Int), m ≤ fmax l m ∧ ∀ z ∈ l, (z.length : Int) ≤ fmax l m := by
    intro l
    induction l with
    | nil => exact fun m => ⟨Int.le_refl _, fun z h => absurd h (List.not_mem_nil)⟩
    | cons a r ih =>
      intro m
      obtain ⟨h1, h2⟩ := ih (max m (a.length : Int))
      have e : fmax (a :: r) m = fmax r (max m (a.length : Int)) := rfl
      rw [e]
      refine ⟨by omega, fun z hz => ?_⟩
      rcases List.mem_cons.mp hz with q | q
      · rw [q]; omega
      · exact h2 z q
  exact (go ws 0).2
theorem longest_of (ws : List Str) {w : Int} (hw : 0 ≤ w) (h : w < longest ws) : ∃ z ∈ ws, w < (z.length : Int) := by
  have go : ∀ (l : List Str) (m : Int), m ≤ w → w < fmax l m → ∃ z ∈ l, w < (z.length : Int) := by
    intro l
    induction l with
    | nil => exact fun m h1 h2 => absurd h2 (by show ¬ w < m; omega)
    | cons a r ih =>
      intro m h1 h2
      by_cases q : w < (a.length : Int)
      · exact ⟨a, List.mem_cons_self .., q⟩
      · obtain ⟨z, hz, q2⟩ := ih (max m (a.length : Int)) (by omega) h2
        exact ⟨z, List.mem_cons_of_mem _ hz, q2⟩
  exact go ws 0 hw h
theorem longest_le {ws : List Str} {n : Nat} (h : ∀ z ∈ ws, z.length ≤ n) : 0 ≤ longest ws ∧ longest ws ≤ (n : Int) := by
  have go : ∀ (l : List Str) (m : Int), (∀ z ∈ l, z.length ≤ n) → 0 ≤ m → m ≤ (n : Int) → 0 ≤ fmax l m ∧ fmax l m ≤ (n : Int) := by
    intro l
    induction l with
    | nil => exact fun m _ h h2 => ⟨h, h2⟩
    | cons a r ih => exact fun m hz h h2 => ih (max m (a.length : Int)) (fun z hz' => hz z (List.mem_cons_of_mem _ hz')) (by omega) (by have := hz a (List.mem_cons_self ..); omega)
  exact go ws 0 h (by decide) (by omega)

/-! ### the law's own squared -/
theorem sq_take {w : Int} {pss : List (List Str)} {i : Nat} {p : List Str} (h : pss[i]? = some p) : (pss.take i).map (fun p => V.str (sqBlock w p)) ++ [V.str (sqBlock w p)] = (pss.take (i + 1)).map fun p => V.str (sqBlock w p) := by
  rw [List.take_add_one, h, List.map_append] <;> rfl
def sp_lsquared (K : PySem.W.Frag) : Sp := fun vs H Q _ => ∃ (l : Addr) (pss : List (List Str)) (w : Int), vs = [.ref l, .int w] ∧ Rows H l pss ∧ (∀ p ∈ pss, Par p) ∧ pss.length ≤ 40000 ∧ (pss.map fun p => (p.map fun z => z.length + 1).sum).sum ≤ 80000 ∧ WidB w ∧ 1 ≤ w ∧ (∀ p ∈ pss, ∀ z ∈ p, (z.length : Int) ≤ w) ∧
  ((∀ p ∈ pss, ToldG p w) → RetV (.str (sqT pss w)) H Q)
theorem ok_l_squared (T : Txt K mg A) : FnOk P w K mg base CX0 6 A.f_l_squared A.d_l_squared ["_law_parts_here", "_law_width"] (sp_lsquared K) := by
  refine T.F_l_squared.ok sc_l_squared (fun vs H Q E h => ?_) (fun cdv Ar outer s H vs Q E hr h => ?_)
  · obtain ⟨l, pss, wd, rfl, _⟩ := h
    rfl
  · obtain ⟨l, pss, wd, rfl, hR, hP, hpl, hps, hwB, hw, hF, k⟩ := h
    refine ⟨_, (pss_cons (ps_set (i := 2) sc_l_squared.nd rfl (.inl rfl) (pe_lst pa_nil))
  (pss_cons (ps_for PassesOwn.never rfl (pi_list (pv 0)) (pg_name (i := 3) sc_l_squared.nd rfl (.inr rfl))
  (pss_cons (ps_set (i := 4) sc_l_squared.nd rfl (.inr rfl) (pe_call (ok_best_starts T) (hr.mono (by decide)) rfl T.g_best_starts T.F_best_starts.kp T.b_best_starts .nil passN (pa_cons (pe_callTy call_list_of (by rfl) T.m_list (by decide +kernel) (pa_cons (pv 3) pa_nil)) (pa_cons (pv 1) pa_nil))))
  (pss_cons (ps_if (pt_not (pt_val (pe_call (ok_l_are_starts T) (hr.mono (by decide)) rfl T.g_l_are_starts T.F_l_are_starts.kp T.b_l_are_starts .nil pass0 (pa_cons (pv 3) (pa_cons (pv 1) (pa_cons (pv 4) pa_nil))))))
  (pss_one (ps_ret pe_non))
  pss_nil)
  (pss_cons (ps_set (i := 5) sc_l_squared.nd rfl (.inr rfl) (pe_op op_cat (pe_slice (TwE.slE (K := K) rfl) (pv 4) (po_some pe_int) po_none) (pe_lst (pa_cons (pe_callB call_len_seq (by rfl) T.m_len PySem.boot_len (pa_cons (pv 3) pa_nil)) pa_nil))))
  (pss_cons (ps_setLc (i := 6) (own := [("_law_k", 7)]) (tt := tYes) rfl sc_l_squared.nd rfl rfl (sw_true rfl rfl rfl (by decide +kernel)) (pi_range1 (by rfl) T.m_range (pa_cons (pe_op op_sub (pe_callB call_len_seq (by rfl) T.m_len PySem.boot_len (pa_cons (pv 4) pa_nil)) pe_int) pa_nil)) (blkOk_by (N := N_l_squared) (sc := defScope s_l_squared) (by decide +kernel)) (fun _ _ _ _ _ => (pg_name (i := 7) sc_l_squared.nd rfl (.inl rfl))) (fun _ _ _ _ _ => pts_nil) (fun _ _ _ _ _ => (pe_call (ok_l_spread T) (hr.mono (by decide)) rfl T.g_l_spread T.F_l_spread.kp T.b_l_spread .nil pass0 (pa_cons (pe_slice (TwE.slE (K := K) rfl) (pv 3) (po_some (pe_ix (ixL (K := K) rfl) (pv 4) (pv 7) (fun _ _ => rfl))) (po_some (pe_ix (ixL (K := K) rfl) (pv 5) (pv 7) (fun _ _ => rfl)))) (pa_cons (pv 1) pa_nil)))))
  (pss_cons (ps_expr (pe_bm PySem.F.plainAttrs_list PySem.F.slot_list_append PySem.F.type_list_append mt_append (pv 6) (pa_cons (TwE.pe_joinE (K := K) rfl pe_str (pe_slice (TwE.slE (K := K) rfl) (pv 3) (po_some (pe_ix (ixL (K := K) rfl) (pv 4) (pe_un un_neg pe_int) (fun _ _ => rfl))) po_none)) pa_nil)))
  (pss_one (ps_expr (pe_bm PySem.F.plainAttrs_list PySem.F.slot_list_append PySem.F.type_list_append mt_append (pv 2) (pa_cons (TwE.pe_joinE (K := K) rfl pe_str (pv 6)) pa_nil))))))))))
  (pss_one (ps_ret (TwE.pe_joinE (K := K) rfl pe_str (pv 2)))))), ?_⟩
    obtain ⟨ts, hl, hlen, hrow⟩ := hR
    refine q_asgL (xs := []) (el_lst ea_nil (Nat.zero_le _)) fun bl H1 bl0 e1 hbl => ?_
    refine q_forLn (ev_var rfl) (sq_of (e1 _ _ hl)) (fun i σ' H' => ∃ x3 x4 x5 x6 x7, σ' = [some (.ref l), some (.int wd), some (.ref bl), x3, x4, x5, x6, x7] ∧ Ex H H' ∧ H' bl = some (.lst ((pss.take i).map fun p => V.str (sqBlock wd p))) ∧ ∀ p ∈ pss.take i, ToldG p wd)
      (fun H2 e2 => ⟨none, none, none, none, none, rfl, e1.trans e2, e2 _ _ hbl, fun p hp => absurd hp (by rw [List.take_zero]; exact List.not_mem_nil)⟩) (fun i σ' H' _ ⟨_, _, _, _, _, _, e, _⟩ => sq_of (e _ _ hl)) ?_ ?_
    · rintro i x σ' H' hi ⟨x3, x4, x5, x6, x7, rfl, e, hb, hT⟩
      rw [List.getElem?_map] at hi
      obtain ⟨t, ht, rfl⟩ := Option.map_eq_some_iff.mp hi
      have hil : i < pss.length := by
        have := (List.getElem?_eq_some_iff.mp ht).1
        omega
      have hp : pss[i]? = some pss[i] := List.getElem?_eq_getElem hil
      have hpm := List.getElem_mem hil
      revert hp hpm
      generalize pss[i] = p
      intro hp hpm
      have P1 := hP p hpm
      have F1 := hF p hpm
      have htp := e _ _ (hrow i t p ht hp)
      have pl := len_of P1.wz P1.tot
      have np : (p.map V.str).length = p.length := List.length_map ..
      refine q_asgP (ap_consL (xs := p.map V.str) (el_listOf (ev_var rfl) (sq_of htp)) (ap_cons (ev_var rfl) ap_nil) fun _ _ _ => trivial) ?_
      rintro vs H2 e2 ⟨q1, r, rfl, h2, r2, rfl, rfl⟩
      refine ⟨q1, p, wd, rfl, sq_of h2, P1.tot, pl, hwB, fun q => absurd q (by omega), fun _ ⟨x, hx1, q⟩ => absurd (F1 x hx1) (by omega), fun _ _ tt S hTT hB sl H3 sl0 e3 hsl => ?_⟩
      have told := toldG_of hTT hB
      have hbo := bestOf_eq hTT hB
      have hfw : WalkTo (Fits p wd) 0 S p.length := hB.mono fun _ _ g => g.fit
      have hfS := walk_fitS hfw
      have hSl := walk_len (fun _ _ g => g.1) hfw
      have nS : (nats S).length = S.length := nats_len S
      have e03 := (e.trans e2).trans e3
      have htp3 := e3 _ _ (e2 _ _ htp)
      show tSeq _ _ _ _ H3
      refine q_when (b := false) (et_is (a := !true) (et_not (et_B (ev_call (ea_cons (ev_var rfl) (ea_cons (ev_var rfl) (ea_cons (ev_var rfl) ea_nil))) fun H4 e4 Q' q E' => ⟨t, sl, p, wd, S, rfl, sq_of (e4 _ _ htp3), sq_of (e4 _ _ hsl), P1.tot, P1.lt, pl, by omega, hfS, q⟩))) rfl) (fun hb => nomatch hb) (fun _ H4 e4 => ?_)
      have htp4 := e4 _ _ htp3
      have hsl4 := e4 _ _ hsl
      have e04 := e03.trans e4
      refine q_asgL (xs := nats (ends S p.length)) (el_is (el_catN (el_sl (ev_var rfl) (eo_some ev_c) eo_none (sq_of hsl4)) (el_lst (ea_cons (ev_cb (ea_cons (ev_var rfl) ea_nil) (rc_lenL (sq_of htp4))) ea_nil) (show 1 ≤ 100000 by decide)) ?_) (by rw [np]; exact nats_ends S p.length)) fun en H5 en0 e5 h5 => ?_
      · have e : cutV (nats S) (some 1) none = (nats S).drop 1 := cutV_from 1
        rw [e, List.length_drop, nats_len]
        show _ + 1 ≤ _
        omega
      have htp5 := e5 _ _ htp4
      have hsl5 := e5 _ _ hsl4
      have hb5 := e5 _ _ (e4 _ _ (e3 _ _ (e2 _ _ hb)))
      have hpos : 0 < S.length := List.length_pos_iff.mpr fun q => P1.ne (hfS.nil q)
      have hseg : ∀ (k : Nat) {σ : L2.St} {H6 : Hp}, k < S.length → Ex H5 H6 → σ[3]? = some (some (.ref t)) → σ[4]? = some (some (.ref sl)) → σ[5]? = some (some (.ref en)) → σ[7]? = some (some (.int (k : Int))) → EvL (tSl (rSlL K) (tVar 3) (tPart (tOp (rIxL K) (tVar 4) (tVar 7))) (tPart (tOp (rIxL K) (tVar 5) (tVar 7)))) σ H6 ((segAt p S k).map V.str) := fun k σ H6 hk e6 g3 g4 g5 g7 => by
        obtain ⟨f1, f2, f3⟩ := hfS.fit k _ _ (get_get hk) (ends_get hk)
        exact el_is (el_sl (ev_var g3) (eo_some (ev_op (ev_var g4) (ev_var g7) (rv_ixL (sq_of (e6 _ _ hsl5)) (atI_nat (nats_at (get_get hk)))))) (eo_some (ev_op (ev_var g5) (ev_var g7) (rv_ixL (sq_of (e6 _ _ h5)) (atI_nat (nats_at (ends_get hk)))))) (sq_of (e6 _ _ htp5))) (cut_words (Nat.le_of_lt f1) f2)
      have htwo := two_lines P1 hw told
      rw [hbo] at htwo
      refine q_asgL (xs := ((List.range (S.length - 1)).map fun k => spreadOf (segAt p S k) wd).map V.str) (el_is (el_lcR (n := (S.length : Int) - 1) (fun k : Nat => V.str (spreadOf (segAt p S k) wd)) (ea_cons (ev_is (ev_op (ev_cb (ea_cons (ev_var rfl) ea_nil) (rc_lenL (sq_of hsl5))) ev_c rv_I0) (by rw [nS])) ea_nil) (by omega) (fun _ => rfl) fun k H6 e6 hk => ?_) (by rw [show ((S.length : Int) - 1).toNat = S.length - 1 by omega, List.map_map] <;> rfl)) fun rw_ H6 rw0 e6 h6 => ?_
      · have hk' : k < S.length := by omega
        have nx := hfS.fit k _ _ (get_get hk') (ends_get hk')
        have hst : Tot (segAt p S k) := seg_tot P1.tot _ _
        have hsl' : (segAt p S k).length ≤ 40000 := by
          unfold segAt
          rw [List.length_take, List.length_drop]
          omega
        have hsf : (sizeN (segAt p S k) 0 (segAt p S k).length : Int) ≤ wd := by
          unfold segAt
          rw [seg_size]
          exact nx.2.2
        refine ev_callA (ap_consL (hseg k hk' e6 rfl rfl rfl rfl) (ap_cons (ev_var rfl) ap_nil) fun _ _ _ => trivial) ?_
        rintro vs H7 e7 ⟨q7, r, rfl, h7, r2, rfl, rfl⟩ Q' q
        exact ⟨q7, segAt p S k, wd, rfl, sq_of h7, hst, hsl', fun _ => htwo (by omega), hw, hsf, q⟩
      have hsl6 := e6 _ _ hsl5
      have htp6 := e6 _ _ htp5
      have hb6 := e6 _ _ hb5
      have hat : atI (nats S) (-1) = some (.int ((S.getD (S.length - 1) 0 : Nat) : Int)) := by
        have e : ixN (nats S).length (-1) = some (S.length - 1) := by
          unfold ixN
          rw [if_neg (by decide), nS, if_pos (by omega)]
          congr 1
          omega
        unfold atI
        rw [e]
        exact nats_at (get_get (by omega))
      have hlb := line_fits P1.tot pl (S.getD (S.length - 1) 0) (S.getD (S.length - 1) 0 + p.length)
      rw [Nat.add_sub_cancel_left, List.take_of_length_le (by rw [List.length_drop]; omega)] at hlb
      refine q_app (v := .str (Txt.join blankS (p.drop (S.getD (S.length - 1) 0)))) h6 (ev_var rfl) (ev_joinL ev_blk (el_is (el_sl (ev_var rfl) (eo_some (ev_op (ev_var rfl) (ev_un ev_c ru_neg) (rv_ixL (sq_of hsl6) hat))) eo_none (sq_of htp6)) (by rw [cutV_from, List.map_drop])) (by omega)) (by rw [List.length_map, List.length_map, List.length_range]; omega) fun H7 e7 => ?_
      have hsq : sqLines p S wd = ((List.range (S.length - 1)).map fun k => spreadOf (segAt p S k) wd) ++ [Txt.join blankS (p.drop (S.getD (S.length - 1) 0))] := rfl
      have hr7 : (upd H7 rw_ (.lst (((List.range (S.length - 1)).map fun k => spreadOf (segAt p S k) wd).map V.str ++ [V.str (Txt.join blankS (p.drop (S.getD (S.length - 1) 0)))]))) rw_ = some (.lst ((sqLines p S wd).map V.str)) := by
        rw [hsq, List.map_append]
        exact upd_same
      have rb : bl ≠ rw_ := fun q => by
        rw [q] at hb5
        rw [rw0] at hb5
        cases hb5
      have hb7 : (upd H7 rw_ (.lst (((List.range (S.length - 1)).map fun k => spreadOf (segAt p S k) wd).map V.str ++ [V.str (Txt.join blankS (p.drop (S.getD (S.length - 1) 0)))]))) bl = some (.lst ((pss.take i).map fun p => V.str (sqBlock wd p))) := by
        rw [upd_ne rb]
        exact e7 _ _ hb6
      have e57 : Ex H5 (upd H7 rw_ (.lst (((List.range (S.length - 1)).map fun k => spreadOf (segAt p S k) wd).map V.str ++ [V.str (Txt.join blankS (p.drop (S.getD (S.length - 1) 0)))]))) := Ex.mut (e6.trans e7) rw0
      revert hr7 hb7 e57
      generalize upd H7 rw_ _ = H8
      intro hr7 hb7 e57
      have hsum := (sq_sum P1 hw told).1
      rw [hbo] at hsum
      have htot := P1.tot.sum
      have ebl : sqBlock wd p = Txt.join lfS (sqLines p S wd) := by
        unfold sqBlock
        rw [hbo]
      refine s_app (xs := (pss.take i).map fun p => V.str (sqBlock wd p)) (v := .str (sqBlock wd p)) hb7 (ev_var rfl) (ev_is (ev_join ev_lf1 (ev_var rfl) (sq_of hr7) (by show _ + _ * 1 ≤ _; omega)) (by rw [ebl])) (by rw [List.length_map, List.length_take]; omega) fun H9 e9 => ?_
      · refine ⟨_, _, _, _, _, rfl, Ex.mut (((e04.trans e5).trans e57).trans e9) bl0, ?_, fun p2 hp2 => ?_⟩
        · rw [← sq_take hp]
          exact upd_same
        · rw [List.take_add_one, hp] at hp2
          rcases List.mem_append.mp hp2 with q | q
          · exact hT p2 q
          · rw [List.mem_singleton.mp q]
            exact told
    · rintro σ' H' ⟨x3, x4, x5, x6, x7, rfl, e, hb, hT⟩
      rw [List.length_map, hlen, List.take_length] at hb hT
      have hbs := sqs_sum hw hP hT
      have hbm : (pss.map fun p => V.str (sqBlock wd p)) = (pss.map (sqBlock wd)).map V.str := by
        rw [List.map_map] <;> rfl
      rw [hbm] at hb
      refine s_ret (v := .str (sqT pss wd)) (ev_join ev_lf2 (ev_var rfl) (sq_of hb) ?_) fun H2 e2 => k hT H2 (e.trans e2)
      rw [List.length_map]
      show _ + _ * 2 ≤ _
      omega

/-! ### the refusals -/
theorem kinds_NoWidth (T : Txt K mg A) : ∀ i C, (kinds A)[i]? = some C → PySem.W.kitOne K (.ref A.c_NoWidth) (.ref C) = some (decide (i = 0)) := fun i C h => by
  have hi : i < 10 := (List.getElem?_eq_some_iff.mp h).1
  have hc : i = 0 ∨ i = 1 ∨ i = 2 ∨ i = 3 ∨ i = 4 ∨ i = 5 ∨ i = 6 ∨ i = 7 ∨ i = 8 ∨ i = 9 := by omega
  rcases hc with q | q | q | q | q | q | q | q | q | q <;> subst q <;> cases h
  · exact kit_ref T.hd_NoWidth T.ty_NoWidth T.sb_NoWidth_NoWidth fun _ => rfl
  · exact kit_ref T.hd_LongWord T.ty_LongWord T.sb_NoWidth_LongWord fun q => absurd q T.ne_NoWidth_LongWord
  · exact kit_ref T.hd_NoStarts T.ty_NoStarts T.sb_NoWidth_NoStarts fun q => absurd q T.ne_NoWidth_NoStarts
  · exact kit_ref T.hd_TooWide T.ty_TooWide T.sb_NoWidth_TooWide fun q => absurd q T.ne_NoWidth_TooWide
  · exact kit_ref T.hd_TooFew T.ty_TooFew T.sb_NoWidth_TooFew fun q => absurd q T.ne_NoWidth_TooFew
  · exact kit_ref T.hd_TooMany T.ty_TooMany T.sb_NoWidth_TooMany fun q => absurd q T.ne_NoWidth_TooMany
  · exact kit_ref T.hd_NoPlace T.ty_NoPlace T.sb_NoWidth_NoPlace fun q => absurd q T.ne_NoWidth_NoPlace
  · exact kit_ref T.hd_NoWord T.ty_NoWord T.sb_NoWidth_NoWord fun q => absurd q T.ne_NoWidth_NoWord
  · exact kit_ref T.hd_Full T.ty_Full T.sb_NoWidth_Full fun q => absurd q T.ne_NoWidth_Full
  · exact kit_ref T.hd_NoWayBack T.ty_NoWayBack T.sb_NoWidth_NoWayBack fun q => absurd q T.ne_NoWidth_NoWayBack
theorem kinds_LongWord (T : Txt K mg A) : ∀ i C, (kinds A)[i]? = some C → PySem.W.kitOne K (.ref A.c_LongWord) (.ref C) = some (decide (i = 1)) := fun i C h => by
  have hi : i < 10 := (List.getElem?_eq_some_iff.mp h).1
  have hc : i = 0 ∨ i = 1 ∨ i = 2 ∨ i = 3 ∨ i = 4 ∨ i = 5 ∨ i = 6 ∨ i = 7 ∨ i = 8 ∨ i = 9 := by omega
  rcases hc with q | q | q | q | q | q | q | q | q | q <;> subst q <;> cases h
  · exact kit_ref T.hd_NoWidth T.ty_NoWidth T.sb_LongWord_NoWidth fun q => absurd q T.ne_LongWord_NoWidth
  · exact kit_ref T.hd_LongWord T.ty_LongWord T.sb_LongWord_LongWord fun _ => rfl
  · exact kit_ref T.hd_NoStarts T.ty_NoStarts T.sb_LongWord_NoStarts fun q => absurd q T.ne_LongWord_NoStarts
  · exact kit_ref T.hd_TooWide T.ty_TooWide T.sb_LongWord_TooWide fun q => absurd q T.ne_LongWord_TooWide
  · exact kit_ref T.hd_TooFew T.ty_TooFew T.sb_LongWord_TooFew fun q => absurd q T.ne_LongWord_TooFew
  · exact kit_ref T.hd_TooMany T.ty_TooMany T.sb_LongWord_TooMany fun q => absurd q T.ne_LongWord_TooMany
  · exact kit_ref T.hd_NoPlace T.ty_NoPlace T.sb_LongWord_NoPlace fun q => absurd q T.ne_LongWord_NoPlace
  · exact kit_ref T.hd_NoWord T.ty_NoWord T.sb_LongWord_NoWord fun q => absurd q T.ne_LongWord_NoWord
  · exact kit_ref T.hd_Full T.ty_Full T.sb_LongWord_Full fun q => absurd q T.ne_LongWord_Full
  · exact kit_ref T.hd_NoWayBack T.ty_NoWayBack T.sb_LongWord_NoWayBack fun q => absurd q T.ne_LongWord_NoWayBack
theorem kinds_TooWide (T : Txt K mg A) : ∀ i C, (kinds A)[i]? = some C → PySem.W.kitOne K (.ref A.c_TooWide) (.ref C) = some (decide (i = 3)) := fun i C h => by
  have hi : i < 10 := (List.getElem?_eq_some_iff.mp h).1
  have hc : i = 0 ∨ i = 1 ∨ i = 2 ∨ i = 3 ∨ i = 4 ∨ i = 5 ∨ i = 6 ∨ i = 7 ∨ i = 8 ∨ i = 9 := by omega
  rcases hc with q | q | q | q | q | q | q | q | q | q <;> subst q <;> cases h
  · exact kit_ref T.hd_NoWidth T.ty_NoWidth T.sb_TooWide_NoWidth fun q => absurd q T.ne_TooWide_NoWidth
  · exact kit_ref T.hd_LongWord T.ty_LongWord T.sb_TooWide_LongWord fun q => absurd q T.ne_TooWide_LongWord
  · exact kit_ref T.hd_NoStarts T.ty_NoStarts T.sb_TooWide_NoStarts fun q => absurd q T.ne_TooWide_NoStarts
  · exact kit_ref T.hd_TooWide T.ty_TooWide T.sb_TooWide_TooWide fun _ => rfl
  · exact kit_ref T.hd_TooFew T.ty_TooFew T.sb_TooWide_TooFew fun q => absurd q T.ne_TooWide_TooFew
  · exact kit_ref T.hd_TooMany T.ty_TooMany T.sb_TooWide_TooMany fun q => absurd q T.ne_TooWide_TooMany
  · exact kit_ref T.hd_NoPlace T.ty_NoPlace T.sb_TooWide_NoPlace fun q => absurd q T.ne_TooWide_NoPlace
  · exact kit_ref T.hd_NoWord T.ty_NoWord T.sb_TooWide_NoWord fun q => absurd q T.ne_TooWide_NoWord
  · exact kit_ref T.hd_Full T.ty_Full T.sb_TooWide_Full fun q => absurd q T.ne_TooWide_Full
  · exact kit_ref T.hd_NoWayBack T.ty_NoWayBack T.sb_TooWide_NoWayBack fun q => absurd q T.ne_TooWide_NoWayBack
def sp_refusal (K : PySem.W.Frag) : Sp := fun vs H Q _ => ∃ (z : Str) (w : Int), vs = [.str z, .int w] ∧ Txs z ∧ z.length ≤ 75000 ∧ WidB w ∧ (w < 1 ∨ ∃ x ∈ Txt.words z, w < (x.length : Int)) ∧ (w < 1 → RetV (.int 11) H Q) ∧ (1 ≤ w → RetV (.int 12) H Q)
theorem ok_l_refusal (T : Txt K mg A) : FnOk P w K mg base CX0 8 A.f_l_refusal A.d_l_refusal ["_law_signs", "_law_width"] (sp_refusal K) := by
  refine T.F_l_refusal.ok sc_l_refusal (fun vs H Q E h => ?_) (fun cdv Ar outer s H vs Q E hr h => ?_)
  · obtain ⟨z, i, rfl, _⟩ := h
    rfl
  · obtain ⟨z, wd, rfl, hz, hl, hwB, hor, k1, k2⟩ := h
    refine ⟨_, (pss_cons (L2N.ps_try_as (i := 2) (Wout := fun _ _ _ _ => False) rfl rfl sc_l_refusal.nd rfl rfl ⟨rfl, by decide, .inl T.gc_WrapError⟩ takesN0 (fun W pn xe tk pw => (pss_one (ps_expr (pe_callS (ok_squared T) (hr.mono (by decide)) rfl T.g_squared T.F_squared.kp T.b_squared (fun σ => L2N.passAt tk σ) (pa_cons (pv 0) (pa_cons (pv 1) pa_nil)))))) (fun a oe cls d pn hz hf => (pss_one (ps_ret (pe_callP (a := a) (oe := oe) (ok_l_kind T) (roomH_suite (k := 1) (hr.mono (by decide))) (hot_suite hz hf) (List.mem_cons_self ..) hz.zc rfl T.g_l_kind T.F_l_kind.kp T.b_l_kind (pa_cons (pv 2) pa_nil))))))
  (pss_one (ps_ret pe_int))), ?_⟩
    refine s_dropS (ea_cons (ev_var rfl) (ea_cons (ev_var rfl) ea_nil)) fun H1 e1 => ⟨z, wd, rfl, hz, hl, hwB, fun hw H' e' => ?_, fun hw _ H' e' => ?_, fun hw hx => ?_⟩
    · refine ⟨true, PySem.W.exm_ref T.bw T.hd_WrapError T.ty_WrapError T.sb_NoWidth_WrapError, fun _ a ha => ?_, fun q => nomatch q⟩
      exact s_ret (v := .int 11) (ev_call (ea_cons (ev_var rfl) ea_nil) fun H5 e5 Q' q E' => ⟨A.c_NoWidth, 0, rfl, rfl, rfl, T.ex_NoWidth.e, by decide, kinds_NoWidth T, q⟩) fun H2 e2 => k1 hw H2 ((e1.trans e').trans e2)
    · refine ⟨true, PySem.W.exm_ref T.bw T.hd_WrapError T.ty_WrapError T.sb_LongWord_WrapError, fun _ a ha => ?_, fun q => nomatch q⟩
      exact s_ret (v := .int 12) (ev_call (ea_cons (ev_var rfl) ea_nil) fun H5 e5 Q' q E' => ⟨A.c_LongWord, 1, rfl, rfl, rfl, T.ex_LongWord.e, by decide, kinds_LongWord T, q⟩) fun H2 e2 => k2 hw H2 ((e1.trans e').trans e2)
    · rcases hor with q | ⟨x, hx1, q⟩
      · omega
      · have := hx x hx1
        omega

/-! ### the law -/
theorem cut_drop (ns : List Int) (k : Nat) : cutV (ns.map V.int) (some (k : Int)) none = (ns.drop k).map V.int := by
  unfold cutV
  rw [HT.sIx_none, HT.sIx_nat, ← List.map_drop, ← List.map_take, List.length_map]
  congr 1
  rcases Nat.le_total k ns.length with h | h
  · rw [Nat.min_eq_left h, List.take_of_length_le (by rw [List.length_drop]; omega)]
  · rw [Nat.min_eq_right h, Nat.sub_self, List.take_zero, List.drop_of_length_le h]
def sp_law (K : PySem.W.Frag) : Sp := fun vs H Q _ => ∃ (a : Addr) (ns : List Int), vs = [.ref a] ∧ SqL K H a (ns.map V.int) ∧ ns.length ≤ 63 ∧ ∀ H', Q (.bl true) H'
theorem ok_law (T : Txt K mg A) : FnOk P w K mg base CX0 9 A.f_law A.d_law ["_law_script"] (sp_law K) := by
  refine T.F_law.ok sc_law (fun vs H Q E h => ?_) (fun cdv Ar outer s H vs Q E hr h => ?_)
  · obtain ⟨a, ns, rfl, _⟩ := h
    rfl
  · obtain ⟨a, ns, rfl, hS, hlen, k⟩ := h
    refine ⟨_, (pss_cons (ps_set (i := 1) sc_law.nd rfl (.inl rfl) (pe_call (ok_l_text_by T) (hr.mono (by decide)) rfl T.g_l_text_by T.F_l_text_by.kp T.b_l_text_by .nil pass0 (pa_cons (pe_slice (TwE.slE (K := K) rfl) (pv 0) (po_some pe_int) po_none) (pa_cons (pe_cmpR op_eq (pe_op op_mod (pe_op op_fdiv (pe_call (ok_l_cell_at T) (hr.mono (by decide)) rfl T.g_l_cell_at T.F_l_cell_at.kp T.b_l_cell_at .nil pass0 (pa_cons (pv 0) (pa_cons pe_int pa_nil))) pe_int) pe_int) pe_int (nomark _)) pa_nil))))
  (pss_cons (ps_if (pt_cmpR op_eq (pe_op op_mod (pe_call (ok_l_cell_at T) (hr.mono (by decide)) rfl T.g_l_cell_at T.F_l_cell_at.kp T.b_l_cell_at .nil pass0 (pa_cons (pv 0) (pa_cons pe_int pa_nil))) pe_int) pe_int (nomark _))
  (pss_one (ps_set (i := 1) sc_law.nd rfl (.inl rfl) (pe_op op_mulS (pv 1) (pe_op op_add pe_int (pe_op op_mul pe_int (pe_callTy call_int1 (by rfl) T.m_int (by decide +kernel) (pa_cons (pe_cmpR op_eq (pe_op op_mod (pe_op op_fdiv (pe_call (ok_l_cell_at T) (hr.mono (by decide)) rfl T.g_l_cell_at T.F_l_cell_at.kp T.b_l_cell_at .nil pass0 (pa_cons (pv 0) (pa_cons pe_int pa_nil))) pe_int) pe_int) pe_int (nomark _)) pa_nil)))))))
  pss_nil)
  (pss_cons (ps_set (i := 2) sc_law.nd rfl (.inl rfl) (pe_call (ok_l_parts T) (hr.mono (by decide)) rfl T.g_l_parts T.F_l_parts.kp T.b_l_parts .nil pass0 (pa_cons (pv 1) pa_nil)))
  (pss_cons (ps_set (i := 3) sc_law.nd rfl (.inl rfl) (pe_op op_mod (pe_call (ok_l_cell_at T) (hr.mono (by decide)) rfl T.g_l_cell_at T.F_l_cell_at.kp T.b_l_cell_at .nil pass0 (pa_cons (pv 0) (pa_cons pe_int pa_nil))) pe_int))
  (pss_cons (ps_if (pt_cmpR op_gt (pe_op op_mod (pe_op op_fdiv (pe_call (ok_l_cell_at T) (hr.mono (by decide)) rfl T.g_l_cell_at T.F_l_cell_at.kp T.b_l_cell_at .nil pass0 (pa_cons (pv 0) (pa_cons pe_int pa_nil))) pe_int) pe_int) pe_int (nomark _))
  (pss_one (ps_set (i := 3) sc_law.nd rfl (.inl rfl) (pe_op op_add (pe_call (ok_l_longest T) (hr.mono (by decide)) rfl T.g_l_longest T.F_l_longest.kp T.b_l_longest .nil pass0 (pa_cons (pv 2) pa_nil)) (pe_op op_mod (pe_call (ok_l_cell_at T) (hr.mono (by decide)) rfl T.g_l_cell_at T.F_l_cell_at.kp T.b_l_cell_at .nil pass0 (pa_cons (pv 0) (pa_cons pe_int pa_nil))) pe_int))))
  pss_nil)
  (pss_cons (ps_if (pt_cmpR op_eq (pe_op op_mod (pe_op op_fdiv (pe_call (ok_l_cell_at T) (hr.mono (by decide)) rfl T.g_l_cell_at T.F_l_cell_at.kp T.b_l_cell_at .nil pass0 (pa_cons (pv 0) (pa_cons pe_int pa_nil))) pe_int) pe_int) pe_int (nomark _))
  (pss_one (ps_set (i := 3) sc_law.nd rfl (.inl rfl) (pe_op op_add pe_int (pe_op op_mod (pe_op op_fdiv (pe_call (ok_l_cell_at T) (hr.mono (by decide)) rfl T.g_l_cell_at T.F_l_cell_at.kp T.b_l_cell_at .nil pass0 (pa_cons (pv 0) (pa_cons pe_int pa_nil))) pe_int) pe_int))))
  pss_nil)
  (pss_cons (ps_if (pt_cmpR op_eq (pe_op op_mod (pe_op op_fdiv (pe_call (ok_l_cell_at T) (hr.mono (by decide)) rfl T.g_l_cell_at T.F_l_cell_at.kp T.b_l_cell_at .nil pass0 (pa_cons (pv 0) (pa_cons pe_int pa_nil))) pe_int) pe_int) pe_int (nomark _))
  (pss_one (ps_set (i := 3) sc_law.nd rfl (.inl rfl) (pe_op op_pow pe_int pe_int)))
  pss_nil)
  (pss_cons (ps_if (pt_cmpR op_eq (pe_op op_mod (pe_op op_fdiv (pe_call (ok_l_cell_at T) (hr.mono (by decide)) rfl T.g_l_cell_at T.F_l_cell_at.kp T.b_l_cell_at .nil pass0 (pa_cons (pv 0) (pa_cons pe_int pa_nil))) pe_int) pe_int) pe_int (nomark _))
  (pss_one (ps_set (i := 3) sc_law.nd rfl (.inl rfl) (pe_un un_neg (pe_op op_mod (pe_call (ok_l_cell_at T) (hr.mono (by decide)) rfl T.g_l_cell_at T.F_l_cell_at.kp T.b_l_cell_at .nil pass0 (pa_cons (pv 0) (pa_cons pe_int pa_nil))) (pe_op op_pow pe_int pe_int)))))
  pss_nil)
  (pss_cons (ps_if (PW.pt (pw_or (pt_cmpR op_lt (pv 3) pe_int (nomark _)) (pw_or1 (pt_cmpR op_gt (pe_call (ok_l_longest T) (hr.mono (by decide)) rfl T.g_l_longest T.F_l_longest.kp T.b_l_longest .nil pass0 (pa_cons (pv 2) pa_nil)) (pv 3) (nomark _)))))
  (pss_one (ps_ret (pe_cmpR op_eq (pe_call (ok_l_refusal T) (hr.mono (by decide)) rfl T.g_l_refusal T.F_l_refusal.kp T.b_l_refusal .nil pass0 (pa_cons (pv 1) (pa_cons (pv 3) pa_nil))) (pe_op op_add pe_int (pe_callTy call_int1 (by rfl) T.m_int (by decide +kernel) (pa_cons (pe_cmpR op_ge (pv 3) pe_int (nomark _)) pa_nil))) (nomark _))))
  pss_nil)
  (pss_cons (ps_set (i := 4) sc_law.nd rfl (.inl rfl) (pe_call (ok_l_squared T) (hr.mono (by decide)) rfl T.g_l_squared T.F_l_squared.kp T.b_l_squared .nil pass0 (pa_cons (pv 2) (pa_cons (pv 3) pa_nil))))
  (pss_cons (ps_set (i := 5) sc_law.nd rfl (.inl rfl) (pe_call (ok_squared T) (hr.mono (by decide)) rfl T.g_squared T.F_squared.kp T.b_squared .nil passN (pa_cons (pv 1) (pa_cons (pv 3) pa_nil))))
  (pss_one (ps_ret (pe_and (pe_cmpR op_notN1 (pv 4) pe_non (nomark _)) (pe_and (pe_callB call_isi (by rfl) T.m_isinstance (by decide +kernel) (pa_cons (pv 5) (pa_cons (pe_bltn (v := .ty "str") (by rfl) T.m_str (by decide +kernel) rfl) pa_nil))) (pe_one (pe_cmpR op_eq (pv 5) (pv 4) (nomark _)))))))))))))))))), ?_⟩
    have cj : ∀ (j : Nat) {σ : L2.St} {H' : Hp}, Ex H H' → σ[0]? = some (some (.ref a)) → Ev (tCall (sp_cell_at K) [] E0 (tCons (tVar 0) (tCons (tC (.int (j : Int))) tNil))) σ H' (.int (ns.getD j 0)) := fun j σ H' e h => ev_call (ea_cons (ev_var h) (ea_cons ev_c ea_nil)) fun H3 e3 Q' q E' => ⟨a, ns, j, rfl, ex_l (e.trans e3) hS, q⟩
    obtain ⟨ms, hms⟩ : ∃ ms, ns.drop 2 = ms := ⟨_, rfl⟩
    have hml : ms.length ≤ 61 := by
      rw [← hms, List.length_drop]
      omega
    refine q_asgP (ap_consL (el_is (el_sl (ev_var rfl) (eo_some (i := ((2 : Nat) : Int)) ev_c) eo_none hS) (by rw [cut_drop, hms])) (ap_cons (ev_op (ev_op (ev_op (cj 0 (Ex.refl H) rfl) ev_c (rv_I ⟨by decide, by decide⟩)) ev_c (rv_I (by decide))) ev_c (rv_eq rfl)) ap_nil) fun _ _ _ => trivial) ?_
    rintro vs H1 e1 ⟨p1, r, rfl, h1, r2, rfl, rfl⟩
    refine ⟨p1, ms, _, rfl, sq_of h1, by omega, fun z hz hzl H2 e2 => ?_⟩
    show tSeq _ _ _ _ H2
    have e02 := e1.trans e2
    generalize hc0 : ns.getD 0 0 = c0
    have C0 := fun {σ : L2.St} {H' : Hp} (e : Ex H H') (h : σ[0]? = some (some (V.ref a))) => ev_is (@cj 0 σ H' e h) (by rw [hc0])
    obtain ⟨nn, hnn, hn0, hn1⟩ : ∃ nn : Int, 5 + 15 * (if decide (V.int (c0 / 4 % 4) = V.int 1) = true then 1 else 0) = nn ∧ 0 ≤ nn ∧ nn ≤ 20 := ⟨_, rfl, by split <;> omega, by split <;> omega⟩
    refine q_ifAsg (i := 1) (b := decide (V.int (c0 % 4) = V.int 1)) (v := .str (if V.int (c0 % 4) = V.int 1 then Txt.mul z nn else z)) (et_test (ev_op (ev_op (C0 e02 rfl) ev_c (rv_I (by decide))) ev_c (rv_eq rfl))) (fun hb => ?_) (fun hb => ?_) fun H3 e3 => ?_
    · rw [if_pos (of_decide_eq_true hb)]
      exact ev_op (y := .int nn) (ev_var rfl) (ev_is (ev_op ev_c (ev_op ev_c (ev_cb (ea_cons (ev_op (ev_op (ev_op (C0 e02 rfl) ev_c (rv_I ⟨by decide, by decide⟩)) ev_c (rv_I (by decide))) ev_c (rv_eq rfl)) ea_nil) rc_intB) (rv_I (.inl ⟨by decide, by decide⟩))) rv_I0) (by rw [hnn])) (rv_mulS (L := 2440) (N := 20) (by omega) hn1 hn0 (by decide) (by decide))
    · rw [if_neg (of_decide_eq_false hb)]
      rfl
    obtain ⟨y, hy, hyt, hyl⟩ : ∃ y, (if V.int (c0 % 4) = V.int 1 then Txt.mul z nn else z) = y ∧ Txs y ∧ y.length ≤ 48800 := by
      refine ⟨_, rfl, ?_, ?_⟩
      · split
        · exact mul_txs hz _
        · exact hz
      · split
        · have := len_mul_leN (x := z) (n := nn) (L := 2440) (N := 20) (by omega) hn1
          omega
        · omega
    rw [hy]
    have e03 := e02.trans e3
    refine q_asgA (ea_cons (ev_var rfl) ea_nil) fun H4 e4 => ⟨y, rfl, hyt, by omega, fun pl H5 e5 hL => ?_⟩
    have hR5 := rows_LLs hL
    have hpar := paras_par hyt (by omega)
    have hflat := paras_flat y
    have hplen := paras_len hyt (by omega)
    have hptot := paras_tot y
    have e05 := (e03.trans e4).trans e5
    have lgb := longest_le (ws := Txt.words y) (n := 80000) fun x hx => (words_T (y := y) (by omega)).mem x hx
    have lo : ∀ {σ : L2.St} {H' : Hp}, Ex H5 H' → σ[2]? = some (some (.ref pl)) → Ev (tCall (sp_longestP K) [] E0 (tCons (tVar 2) tNil)) σ H' (.int (longest (Txt.words y))) := fun e h => ev_call (ea_cons (ev_var h) ea_nil) fun H6 e6 Q' q E' => ⟨pl, paras y, rfl, hR5.ex (e.trans e6), hpar, by rw [hflat]; exact q⟩
    generalize hc1 : ns.getD 1 0 = c1
    have C1 := fun {σ : L2.St} {H' : Hp} (e : Ex H H') (h : σ[0]? = some (some (V.ref a))) => ev_is (@cj 1 σ H' e h) (by rw [hc1])
    refine q_asg (v := .int (c1 % 41)) (ev_op (C1 e05 rfl) ev_c (rv_I (by decide))) fun H6 e6 => ?_
    have e06 := e05.trans e6
    refine q_ifAsg (i := 3) (b := decide (0 < c1 / 41 % 4)) (v := .int (if 0 < c1 / 41 % 4 then longest (Txt.words y) + c1 % 17 else c1 % 41)) (et_test (ev_op (ev_op (ev_op (C1 e06 rfl) ev_c (rv_I ⟨by decide, by decide⟩)) ev_c (rv_I (by decide))) ev_c rv_I0)) (fun hb => ?_) (fun hb => ?_) fun H7 e7 => ?_
    · rw [if_pos (of_decide_eq_true hb)]
      exact ev_op (lo e6 rfl) (ev_op (C1 e06 rfl) ev_c (rv_I (by decide))) rv_I0
    · rw [if_neg (of_decide_eq_false hb)]
      rfl
    obtain ⟨w1, hw1, w1a, w1b⟩ : ∃ w1 : Int, (if 0 < c1 / 41 % 4 then longest (Txt.words y) + c1 % 17 else c1 % 41) = w1 ∧ 0 ≤ w1 ∧ w1 ≤ 100000 := ⟨_, rfl, by split <;> omega, by split <;> omega⟩
    rw [hw1]
    have e07 := e06.trans e7
    refine q_ifAsg (i := 3) (b := decide (V.int (c1 / 41 % 4) = V.int 3)) (v := .int (if c1 / 41 % 4 = 3 then 41 + c1 / 164 % 200 else w1)) (et_test (ev_op (ev_op (ev_op (C1 e07 rfl) ev_c (rv_I ⟨by decide, by decide⟩)) ev_c (rv_I (by decide))) ev_c (rv_eq rfl))) (fun hb => ?_) (fun hb => ?_) fun H8 e8 => ?_
    · have h := of_decide_eq_true hb
      rw [if_pos (by injection h)]
      exact ev_op ev_c (ev_op (ev_op (C1 e07 rfl) ev_c (rv_I ⟨by decide, by decide⟩)) ev_c (rv_I (by decide))) rv_I0
    · have h := of_decide_eq_false hb
      rw [if_neg (fun q => h (by rw [q]))]
      rfl
    obtain ⟨w2, hw2, w2a, w2b⟩ : ∃ w2 : Int, (if c1 / 41 % 4 = 3 then 41 + c1 / 164 % 200 else w1) = w2 ∧ 0 ≤ w2 ∧ w2 ≤ 100000 := ⟨_, rfl, by split <;> omega, by split <;> omega⟩
    rw [hw2]
    have e08 := e07.trans e8
    have t30 : (10 : Int) ^ (30 : Int).toNat = 1000000000000000000000000000000 := by decide
    have t9 : (10 : Int) ^ (9 : Int).toNat = 1000000000 := by decide
    refine q_ifAsg (i := 3) (b := decide (V.int (c1 / 123 % 9) = V.int 1)) (v := .int (if c1 / 123 % 9 = 1 then 10 ^ (30 : Int).toNat else w2)) (et_test (ev_op (ev_op (ev_op (C1 e08 rfl) ev_c (rv_I ⟨by decide, by decide⟩)) ev_c (rv_I (by decide))) ev_c (rv_eq rfl))) (fun hb => ?_) (fun hb => ?_) fun H9 e9 => ?_
    · have h := of_decide_eq_true hb
      rw [if_pos (by injection h)]
      exact ev_op ev_c ev_c (rv_I ⟨by decide, by decide, by decide⟩)
    · have h := of_decide_eq_false hb
      rw [if_neg (fun q => h (by rw [q]))]
      rfl
    obtain ⟨w3, hw3, w3a, w3b⟩ : ∃ w3 : Int, (if c1 / 123 % 9 = 1 then 10 ^ (30 : Int).toNat else w2) = w3 ∧ 0 ≤ w3 ∧ w3 ≤ 1000000000000000000000000000000 := ⟨_, rfl, by rw [t30]; split <;> omega, by rw [t30]; split <;> omega⟩
    rw [hw3]
    have e09 := e08.trans e9
    refine q_ifAsg (i := 3) (b := decide (V.int (c1 / 123 % 9) = V.int 2)) (v := .int (if c1 / 123 % 9 = 2 then -(c1 % 10 ^ (9 : Int).toNat) else w3)) (et_test (ev_op (ev_op (ev_op (C1 e09 rfl) ev_c (rv_I ⟨by decide, by decide⟩)) ev_c (rv_I (by decide))) ev_c (rv_eq rfl))) (fun hb => ?_) (fun hb => ?_) fun H10 e10 => ?_
    · have h := of_decide_eq_true hb
      rw [if_pos (by injection h)]
      exact ev_un (ev_op (C1 e09 rfl) (ev_op ev_c ev_c (rv_I ⟨by decide, by decide, by decide⟩)) (rv_I (by decide))) ru_neg
    · have h := of_decide_eq_false hb
      rw [if_neg (fun q => h (by rw [q]))]
      rfl
    obtain ⟨wd, hwd, wda, wdb⟩ : ∃ wd : Int, (if c1 / 123 % 9 = 2 then -(c1 % 10 ^ (9 : Int).toNat) else w3) = wd ∧ -1000000000000000000000000000000 ≤ wd ∧ wd ≤ 1000000000000000000000000000000 := ⟨_, rfl, by rw [t9]; split <;> omega, by rw [t9]; split <;> omega⟩
    rw [hwd]
    have hwB : WidB wd := by
      unfold WidB
      omega
    have e5a := (((e6.trans e7).trans e8).trans e9).trans e10
    have e0a := e09.trans e10
    refine q_when (b := decide (wd < 1) || decide (wd < longest (Txt.words y))) (et_or (et_test (ev_op (ev_var rfl) ev_c rv_I0)) fun _ => et_test (ev_op (lo e5a rfl) (ev_var rfl) rv_I0)) (fun hb H11 e11 => ?_) (fun hb H11 e11 => ?_)
    · have hor : wd < 1 ∨ ∃ x ∈ Txt.words y, wd < (x.length : Int) := by
        rw [Bool.or_eq_true] at hb
        by_cases h1 : wd < 1
        · exact .inl h1
        · rcases hb with q | q
          · exact .inl (of_decide_eq_true q)
          · exact .inr (longest_of _ (by omega) (of_decide_eq_true q))
      refine s_ret (v := .bl true) (ev_is (ev_op (x := .int (if wd < 1 then 11 else 12)) (y := .int (11 + (if decide (1 ≤ wd) = true then 1 else 0))) (ev_call (ea_cons (ev_var rfl) (ea_cons (ev_var rfl) ea_nil)) fun H12 e12 Q' q E' => ⟨y, wd, rfl, hyt, by omega, hwB, hor, fun h => ?_, fun h => ?_⟩) (ev_op ev_c (ev_cb (ea_cons (ev_op (ev_var rfl) ev_c rv_I0) ea_nil) rc_intB) rv_I0) (rv_eq rfl)) ?_) fun H12 e12 => k H12
      · rw [if_pos h] at q
        exact q
      · rw [if_neg (by omega)] at q
        exact q
      · by_cases h1 : wd < 1
        · rw [if_pos h1, decide_eq_false (show ¬ 1 ≤ wd by omega)]
          rfl
        · rw [if_neg h1, decide_eq_true (show 1 ≤ wd by omega)]
          rfl
    · rw [Bool.or_eq_false_iff] at hb
      have hw1' : 1 ≤ wd := by
        have := of_decide_eq_false hb.1
        omega
      have hfit : ∀ x ∈ Txt.words y, (x.length : Int) ≤ wd := fun x hx => by
        have := of_decide_eq_false hb.2
        have := longest_ge _ x hx
        omega
      have hfitP : ∀ p ∈ paras y, ∀ x ∈ p, (x.length : Int) ≤ wd := fun p hp x hxp => hfit x (by rw [← hflat]; exact List.mem_flatten.mpr ⟨p, hp, hxp⟩)
      have e5b := e5a.trans e11
      have e0b := e0a.trans e11
      refine q_asgA (ea_cons (ev_var rfl) (ea_cons (ev_var rfl) ea_nil)) fun H12 e12 => ⟨pl, paras y, wd, rfl, hR5.ex (e5b.trans e12), hpar, by omega, by omega, hwB, hw1', hfitP, fun told H13 e13 => ?_⟩
      show tSeq _ _ _ _ H13
      generalize hWT : sqT (paras y) wd = WT
      have e0d := (e0b.trans e12).trans e13
      refine q_asg (v := .str WT) (ev_call (ea_cons (ev_var rfl) (ea_cons (ev_var rfl) ea_nil)) fun H14 e14 Q' q E' => ⟨y, wd, rfl, hyt, by omega, hwB, fun q => absurd q (by omega), fun _ ⟨x, hx, q⟩ => absurd (hfit x hx) (by omega), fun _ _ => by rw [hWT]; exact q⟩) fun H14 e14 => ?_
      exact s_ret (v := .bl true) (ev_is (ev_andV (ev_op (x := .str WT) (ev_var rfl) ev_c rv_notN) fun _ => ev_andV (ev_cb (ea_cons (ev_var rfl) (ea_cons ev_c ea_nil)) (rc_isStr (a := WT))) fun _ => ev_op (x := .str WT) (y := .str WT) (ev_var rfl) (ev_var rfl) (rv_eq rfl)) (by simp)) fun H19 e19 => k H19

end
theorem all_mk {l : PySem.W.OpenLaw} {w : World} {K : PySem.W.Frag} {h : Heap} {mg : Str → Option Value} {fa : Addr} (X : K.In h) (G : h.Ns mainGlobals mg) (hfa : mg "law" = some (.ref fa))
    {f0 : Addr} {od0 an0 : Option Addr} {sl0 : Array (Option Value)} {oc0 kV0 dc0 pm0 cd0 ct0 : Value}
    (a0 : PySem.W.nsIn K mainGlobals "line_of" = some (some (.ref f0))) (l0 : K.lookup f0 = some ⟨oc0, od0, .func (PySem.W.fnOf "line_of" "line_of" (defArgs s_line_of) (defBody s_line_of) (defScope s_line_of) .none kV0 dc0 pm0 an0 cd0 ct0), sl0⟩) (c0 : PySem.W.codeIn K cd0 "line_of" = true) (k0 : PySem.W.keepIn K (.ref f0) = true)
    {f1 : Addr} {od1 an1 : Option Addr} {sl1 : Array (Option Value)} {oc1 kV1 dc1 pm1 cd1 ct1 : Value}
    (a1 : PySem.W.nsIn K mainGlobals "size_of" = some (some (.ref f1))) (l1 : K.lookup f1 = some ⟨oc1, od1, .func (PySem.W.fnOf "size_of" "size_of" (defArgs s_size_of) (defBody s_size_of) (defScope s_size_of) .none kV1 dc1 pm1 an1 cd1 ct1), sl1⟩) (c1 : PySem.W.codeIn K cd1 "size_of" = true) (k1 : PySem.W.keepIn K (.ref f1) = true)
    {f2 : Addr} {od2 an2 : Option Addr} {sl2 : Array (Option Value)} {oc2 kV2 dc2 pm2 cd2 ct2 : Value}
    (a2 : PySem.W.nsIn K mainGlobals "sizes_from" = some (some (.ref f2))) (l2 : K.lookup f2 = some ⟨oc2, od2, .func (PySem.W.fnOf "sizes_from" "sizes_from" (defArgs s_sizes_from) (defBody s_sizes_from) (defScope s_sizes_from) .none kV2 dc2 pm2 an2 cd2 ct2), sl2⟩) (c2 : PySem.W.codeIn K cd2 "sizes_from" = true) (k2 : PySem.W.keepIn K (.ref f2) = true)
    {f3 : Addr} {od3 an3 : Option Addr} {sl3 : Array (Option Value)} {oc3 kV3 dc3 pm3 cd3 ct3 : Value}
    (a3 : PySem.W.nsIn K mainGlobals "long_word" = some (some (.ref f3))) (l3 : K.lookup f3 = some ⟨oc3, od3, .func (PySem.W.fnOf "long_word" "long_word" (defArgs s_long_word) (defBody s_long_word) (defScope s_long_word) .none kV3 dc3 pm3 an3 cd3 ct3), sl3⟩) (c3 : PySem.W.codeIn K cd3 "long_word" = true) (k3 : PySem.W.keepIn K (.ref f3) = true)
    {f4 : Addr} {od4 an4 : Option Addr} {sl4 : Array (Option Value)} {oc4 kV4 dc4 pm4 cd4 ct4 : Value}
    (a4 : PySem.W.nsIn K mainGlobals "check_width" = some (some (.ref f4))) (l4 : K.lookup f4 = some ⟨oc4, od4, .func (PySem.W.fnOf "check_width" "check_width" (defArgs s_check_width) (defBody s_check_width) (defScope s_check_width) .none kV4 dc4 pm4 an4 cd4 ct4), sl4⟩) (c4 : PySem.W.codeIn K cd4 "check_width" = true) (k4 : PySem.W.keepIn K (.ref f4) = true)
    {f5 : Addr} {od5 an5 : Option Addr} {sl5 : Array (Option Value)} {oc5 kV5 dc5 pm5 cd5 ct5 : Value}
    (a5 : PySem.W.nsIn K mainGlobals "check_words" = some (some (.ref f5))) (l5 : K.lookup f5 = some ⟨oc5, od5, .func (PySem.W.fnOf "check_words" "check_words" (defArgs s_check_words) (defBody s_check_words) (defScope s_check_words) .none kV5 dc5 pm5 an5 cd5 ct5), sl5⟩) (c5 : PySem.W.codeIn K cd5 "check_words" = true) (k5 : PySem.W.keepIn K (.ref f5) = true)
    {f6 : Addr} {od6 an6 : Option Addr} {sl6 : Array (Option Value)} {oc6 kV6 dc6 pm6 cd6 ct6 : Value}
    (a6 : PySem.W.nsIn K mainGlobals "bounds_of" = some (some (.ref f6))) (l6 : K.lookup f6 = some ⟨oc6, od6, .func (PySem.W.fnOf "bounds_of" "bounds_of" (defArgs s_bounds_of) (defBody s_bounds_of) (defScope s_bounds_of) .none kV6 dc6 pm6 an6 cd6 ct6), sl6⟩) (c6 : PySem.W.codeIn K cd6 "bounds_of" = true) (k6 : PySem.W.keepIn K (.ref f6) = true)
    {f7 : Addr} {od7 an7 : Option Addr} {sl7 : Array (Option Value)} {oc7 kV7 dc7 pm7 cd7 ct7 : Value}
    (a7 : PySem.W.nsIn K mainGlobals "table_of" = some (some (.ref f7))) (l7 : K.lookup f7 = some ⟨oc7, od7, .func (PySem.W.fnOf "table_of" "table_of" (defArgs s_table_of) (defBody s_table_of) (defScope s_table_of) .none kV7 dc7 pm7 an7 cd7 ct7), sl7⟩) (c7 : PySem.W.codeIn K cd7 "table_of" = true) (k7 : PySem.W.keepIn K (.ref f7) = true)
    {f8 : Addr} {od8 an8 : Option Addr} {sl8 : Array (Option Value)} {oc8 kV8 dc8 pm8 cd8 ct8 : Value}
    (a8 : PySem.W.nsIn K mainGlobals "best_starts" = some (some (.ref f8))) (l8 : K.lookup f8 = some ⟨oc8, od8, .func (PySem.W.fnOf "best_starts" "best_starts" (defArgs s_best_starts) (defBody s_best_starts) (defScope s_best_starts) .none kV8 dc8 pm8 an8 cd8 ct8), sl8⟩) (c8 : PySem.W.codeIn K cd8 "best_starts" = true) (k8 : PySem.W.keepIn K (.ref f8) = true)
    {f9 : Addr} {od9 an9 : Option Addr} {sl9 : Array (Option Value)} {oc9 kV9 dc9 pm9 cd9 ct9 : Value}
    (a9 : PySem.W.nsIn K mainGlobals "first_line" = some (some (.ref f9))) (l9 : K.lookup f9 = some ⟨oc9, od9, .func (PySem.W.fnOf "first_line" "first_line" (defArgs s_first_line) (defBody s_first_line) (defScope s_first_line) .none kV9 dc9 pm9 an9 cd9 ct9), sl9⟩) (c9 : PySem.W.codeIn K cd9 "first_line" = true) (k9 : PySem.W.keepIn K (.ref f9) = true)
    {f10 : Addr} {od10 an10 : Option Addr} {sl10 : Array (Option Value)} {oc10 kV10 dc10 pm10 cd10 ct10 : Value}
    (a10 : PySem.W.nsIn K mainGlobals "best_line" = some (some (.ref f10))) (l10 : K.lookup f10 = some ⟨oc10, od10, .func (PySem.W.fnOf "best_line" "best_line" (defArgs s_best_line) (defBody s_best_line) (defScope s_best_line) .none kV10 dc10 pm10 an10 cd10 ct10), sl10⟩) (c10 : PySem.W.codeIn K cd10 "best_line" = true) (k10 : PySem.W.keepIn K (.ref f10) = true)
    {f11 : Addr} {od11 an11 : Option Addr} {sl11 : Array (Option Value)} {oc11 kV11 dc11 pm11 cd11 ct11 : Value}
    (a11 : PySem.W.nsIn K mainGlobals "squares_of" = some (some (.ref f11))) (l11 : K.lookup f11 = some ⟨oc11, od11, .func (PySem.W.fnOf "squares_of" "squares_of" (defArgs s_squares_of) (defBody s_squares_of) (defScope s_squares_of) .none kV11 dc11 pm11 an11 cd11 ct11), sl11⟩) (c11 : PySem.W.codeIn K cd11 "squares_of" = true) (k11 : PySem.W.keepIn K (.ref f11) = true)
    {f12 : Addr} {od12 an12 : Option Addr} {sl12 : Array (Option Value)} {oc12 kV12 dc12 pm12 cd12 ct12 : Value}
    (a12 : PySem.W.nsIn K mainGlobals "words_of" = some (some (.ref f12))) (l12 : K.lookup f12 = some ⟨oc12, od12, .func (PySem.W.fnOf "words_of" "words_of" (defArgs s_words_of) (defBody s_words_of) (defScope s_words_of) .none kV12 dc12 pm12 an12 cd12 ct12), sl12⟩) (c12 : PySem.W.codeIn K cd12 "words_of" = true) (k12 : PySem.W.keepIn K (.ref f12) = true)
    {f13 : Addr} {od13 an13 : Option Addr} {sl13 : Array (Option Value)} {oc13 kV13 dc13 pm13 cd13 ct13 : Value}
    (a13 : PySem.W.nsIn K mainGlobals "paragraphs_of" = some (some (.ref f13))) (l13 : K.lookup f13 = some ⟨oc13, od13, .func (PySem.W.fnOf "paragraphs_of" "paragraphs_of" (defArgs s_paragraphs_of) (defBody s_paragraphs_of) (defScope s_paragraphs_of) .none kV13 dc13 pm13 an13 cd13 ct13), sl13⟩) (c13 : PySem.W.codeIn K cd13 "paragraphs_of" = true) (k13 : PySem.W.keepIn K (.ref f13) = true)
    {f14 : Addr} {od14 an14 : Option Addr} {sl14 : Array (Option Value)} {oc14 kV14 dc14 pm14 cd14 ct14 : Value}
    (a14 : PySem.W.nsIn K mainGlobals "squared" = some (some (.ref f14))) (l14 : K.lookup f14 = some ⟨oc14, od14, .func (PySem.W.fnOf "squared" "squared" (defArgs s_squared) (defBody s_squared) (defScope s_squared) .none kV14 dc14 pm14 an14 cd14 ct14), sl14⟩) (c14 : PySem.W.codeIn K cd14 "squared" = true) (k14 : PySem.W.keepIn K (.ref f14) = true)
    {f15 : Addr} {od15 an15 : Option Addr} {sl15 : Array (Option Value)} {oc15 kV15 dc15 pm15 cd15 ct15 : Value}
    (a15 : PySem.W.nsIn K mainGlobals "spread_line" = some (some (.ref f15))) (l15 : K.lookup f15 = some ⟨oc15, od15, .func (PySem.W.fnOf "spread_line" "spread_line" (defArgs s_spread_line) (defBody s_spread_line) (defScope s_spread_line) .none kV15 dc15 pm15 an15 cd15 ct15), sl15⟩) (c15 : PySem.W.codeIn K cd15 "spread_line" = true) (k15 : PySem.W.keepIn K (.ref f15) = true)
    {f16 : Addr} {od16 an16 : Option Addr} {sl16 : Array (Option Value)} {oc16 kV16 dc16 pm16 cd16 ct16 : Value}
    (a16 : PySem.W.nsIn K mainGlobals "squared_lines" = some (some (.ref f16))) (l16 : K.lookup f16 = some ⟨oc16, od16, .func (PySem.W.fnOf "squared_lines" "squared_lines" (defArgs s_squared_lines) (defBody s_squared_lines) (defScope s_squared_lines) .none kV16 dc16 pm16 an16 cd16 ct16), sl16⟩) (c16 : PySem.W.codeIn K cd16 "squared_lines" = true) (k16 : PySem.W.keepIn K (.ref f16) = true)
    {f17 : Addr} {od17 an17 : Option Addr} {sl17 : Array (Option Value)} {oc17 kV17 dc17 pm17 cd17 ct17 : Value}
    (a17 : PySem.W.nsIn K mainGlobals "joined" = some (some (.ref f17))) (l17 : K.lookup f17 = some ⟨oc17, od17, .func (PySem.W.fnOf "joined" "joined" (defArgs s_joined) (defBody s_joined) (defScope s_joined) .none kV17 dc17 pm17 an17 cd17 ct17), sl17⟩) (c17 : PySem.W.codeIn K cd17 "joined" = true) (k17 : PySem.W.keepIn K (.ref f17) = true)
    {f18 : Addr} {od18 an18 : Option Addr} {sl18 : Array (Option Value)} {oc18 kV18 dc18 pm18 cd18 ct18 : Value}
    (a18 : PySem.W.nsIn K mainGlobals "_law_cell_at" = some (some (.ref f18))) (l18 : K.lookup f18 = some ⟨oc18, od18, .func (PySem.W.fnOf "_law_cell_at" "_law_cell_at" (defArgs s_l_cell_at) (defBody s_l_cell_at) (defScope s_l_cell_at) .none kV18 dc18 pm18 an18 cd18 ct18), sl18⟩) (c18 : PySem.W.codeIn K cd18 "_law_cell_at" = true) (k18 : PySem.W.keepIn K (.ref f18) = true)
    {f19 : Addr} {od19 an19 : Option Addr} {sl19 : Array (Option Value)} {oc19 kV19 dc19 pm19 cd19 ct19 : Value}
    (a19 : PySem.W.nsIn K mainGlobals "_law_sign_by" = some (some (.ref f19))) (l19 : K.lookup f19 = some ⟨oc19, od19, .func (PySem.W.fnOf "_law_sign_by" "_law_sign_by" (defArgs s_l_sign_by) (defBody s_l_sign_by) (defScope s_l_sign_by) .none kV19 dc19 pm19 an19 cd19 ct19), sl19⟩) (c19 : PySem.W.codeIn K cd19 "_law_sign_by" = true) (k19 : PySem.W.keepIn K (.ref f19) = true)
    {f20 : Addr} {od20 an20 : Option Addr} {sl20 : Array (Option Value)} {oc20 kV20 dc20 pm20 cd20 ct20 : Value}
    (a20 : PySem.W.nsIn K mainGlobals "_law_text_by" = some (some (.ref f20))) (l20 : K.lookup f20 = some ⟨oc20, od20, .func (PySem.W.fnOf "_law_text_by" "_law_text_by" (defArgs s_l_text_by) (defBody s_l_text_by) (defScope s_l_text_by) .none kV20 dc20 pm20 an20 cd20 ct20), sl20⟩) (c20 : PySem.W.codeIn K cd20 "_law_text_by" = true) (k20 : PySem.W.keepIn K (.ref f20) = true)
    {f21 : Addr} {od21 an21 : Option Addr} {sl21 : Array (Option Value)} {oc21 kV21 dc21 pm21 cd21 ct21 : Value}
    (a21 : PySem.W.nsIn K mainGlobals "_law_parts" = some (some (.ref f21))) (l21 : K.lookup f21 = some ⟨oc21, od21, .func (PySem.W.fnOf "_law_parts" "_law_parts" (defArgs s_l_parts) (defBody s_l_parts) (defScope s_l_parts) .none kV21 dc21 pm21 an21 cd21 ct21), sl21⟩) (c21 : PySem.W.codeIn K cd21 "_law_parts" = true) (k21 : PySem.W.keepIn K (.ref f21) = true)
    {f22 : Addr} {od22 an22 : Option Addr} {sl22 : Array (Option Value)} {oc22 kV22 dc22 pm22 cd22 ct22 : Value}
    (a22 : PySem.W.nsIn K mainGlobals "_law_whole" = some (some (.ref f22))) (l22 : K.lookup f22 = some ⟨oc22, od22, .func (PySem.W.fnOf "_law_whole" "_law_whole" (defArgs s_l_whole) (defBody s_l_whole) (defScope s_l_whole) .none kV22 dc22 pm22 an22 cd22 ct22), sl22⟩) (c22 : PySem.W.codeIn K cd22 "_law_whole" = true) (k22 : PySem.W.keepIn K (.ref f22) = true)
    {f23 : Addr} {od23 an23 : Option Addr} {sl23 : Array (Option Value)} {oc23 kV23 dc23 pm23 cd23 ct23 : Value}
    (a23 : PySem.W.nsIn K mainGlobals "_law_wholes" = some (some (.ref f23))) (l23 : K.lookup f23 = some ⟨oc23, od23, .func (PySem.W.fnOf "_law_wholes" "_law_wholes" (defArgs s_l_wholes) (defBody s_l_wholes) (defScope s_l_wholes) .none kV23 dc23 pm23 an23 cd23 ct23), sl23⟩) (c23 : PySem.W.codeIn K cd23 "_law_wholes" = true) (k23 : PySem.W.keepIn K (.ref f23) = true)
    {f24 : Addr} {od24 an24 : Option Addr} {sl24 : Array (Option Value)} {oc24 kV24 dc24 pm24 cd24 ct24 : Value}
    (a24 : PySem.W.nsIn K mainGlobals "_law_size" = some (some (.ref f24))) (l24 : K.lookup f24 = some ⟨oc24, od24, .func (PySem.W.fnOf "_law_size" "_law_size" (defArgs s_l_size) (defBody s_l_size) (defScope s_l_size) .none kV24 dc24 pm24 an24 cd24 ct24), sl24⟩) (c24 : PySem.W.codeIn K cd24 "_law_size" = true) (k24 : PySem.W.keepIn K (.ref f24) = true)
    {f25 : Addr} {od25 an25 : Option Addr} {sl25 : Array (Option Value)} {oc25 kV25 dc25 pm25 cd25 ct25 : Value}
    (a25 : PySem.W.nsIn K mainGlobals "_law_are_starts" = some (some (.ref f25))) (l25 : K.lookup f25 = some ⟨oc25, od25, .func (PySem.W.fnOf "_law_are_starts" "_law_are_starts" (defArgs s_l_are_starts) (defBody s_l_are_starts) (defScope s_l_are_starts) .none kV25 dc25 pm25 an25 cd25 ct25), sl25⟩) (c25 : PySem.W.codeIn K cd25 "_law_are_starts" = true) (k25 : PySem.W.keepIn K (.ref f25) = true)
    {f26 : Addr} {od26 an26 : Option Addr} {sl26 : Array (Option Value)} {oc26 kV26 dc26 pm26 cd26 ct26 : Value}
    (a26 : PySem.W.nsIn K mainGlobals "_law_spread" = some (some (.ref f26))) (l26 : K.lookup f26 = some ⟨oc26, od26, .func (PySem.W.fnOf "_law_spread" "_law_spread" (defArgs s_l_spread) (defBody s_l_spread) (defScope s_l_spread) .none kV26 dc26 pm26 an26 cd26 ct26), sl26⟩) (c26 : PySem.W.codeIn K cd26 "_law_spread" = true) (k26 : PySem.W.keepIn K (.ref f26) = true)
    {f27 : Addr} {od27 an27 : Option Addr} {sl27 : Array (Option Value)} {oc27 kV27 dc27 pm27 cd27 ct27 : Value}
    (a27 : PySem.W.nsIn K mainGlobals "_law_kind" = some (some (.ref f27))) (l27 : K.lookup f27 = some ⟨oc27, od27, .func (PySem.W.fnOf "_law_kind" "_law_kind" (defArgs s_l_kind) (defBody s_l_kind) (defScope s_l_kind) .none kV27 dc27 pm27 an27 cd27 ct27), sl27⟩) (c27 : PySem.W.codeIn K cd27 "_law_kind" = true) (k27 : PySem.W.keepIn K (.ref f27) = true)
    {f28 : Addr} {od28 an28 : Option Addr} {sl28 : Array (Option Value)} {oc28 kV28 dc28 pm28 cd28 ct28 : Value}
    (a28 : PySem.W.nsIn K mainGlobals "_law_refusal" = some (some (.ref f28))) (l28 : K.lookup f28 = some ⟨oc28, od28, .func (PySem.W.fnOf "_law_refusal" "_law_refusal" (defArgs s_l_refusal) (defBody s_l_refusal) (defScope s_l_refusal) .none kV28 dc28 pm28 an28 cd28 ct28), sl28⟩) (c28 : PySem.W.codeIn K cd28 "_law_refusal" = true) (k28 : PySem.W.keepIn K (.ref f28) = true)
    {f29 : Addr} {od29 an29 : Option Addr} {sl29 : Array (Option Value)} {oc29 kV29 dc29 pm29 cd29 ct29 : Value}
    (a29 : PySem.W.nsIn K mainGlobals "_law_longest" = some (some (.ref f29))) (l29 : K.lookup f29 = some ⟨oc29, od29, .func (PySem.W.fnOf "_law_longest" "_law_longest" (defArgs s_l_longest) (defBody s_l_longest) (defScope s_l_longest) .none kV29 dc29 pm29 an29 cd29 ct29), sl29⟩) (c29 : PySem.W.codeIn K cd29 "_law_longest" = true) (k29 : PySem.W.keepIn K (.ref f29) = true)
    {f30 : Addr} {od30 an30 : Option Addr} {sl30 : Array (Option Value)} {oc30 kV30 dc30 pm30 cd30 ct30 : Value}
    (a30 : PySem.W.nsIn K mainGlobals "_law_squared" = some (some (.ref f30))) (l30 : K.lookup f30 = some ⟨oc30, od30, .func (PySem.W.fnOf "_law_squared" "_law_squared" (defArgs s_l_squared) (defBody s_l_squared) (defScope s_l_squared) .none kV30 dc30 pm30 an30 cd30 ct30), sl30⟩) (c30 : PySem.W.codeIn K cd30 "_law_squared" = true) (k30 : PySem.W.keepIn K (.ref f30) = true)
    {f31 : Addr} {od31 an31 : Option Addr} {sl31 : Array (Option Value)} {oc31 kV31 dc31 pm31 cd31 ct31 : Value}
    (a31 : PySem.W.nsIn K mainGlobals "law" = some (some (.ref f31))) (l31 : K.lookup f31 = some ⟨oc31, od31, .func (PySem.W.fnOf "law" "law" (defArgs s_law) (defBody s_law) (defScope s_law) .none kV31 dc31 pm31 an31 cd31 ct31), sl31⟩) (c31 : PySem.W.codeIn K cd31 "law" = true) (k31 : PySem.W.keepIn K (.ref f31) = true)
    (z0 : PySem.W.nsIn K mainGlobals "ValueError" = some none)
    (z1 : PySem.W.nsIn K mainGlobals "bool" = some none)
    (z2 : PySem.W.nsIn K mainGlobals "divmod" = some none)
    (z3 : PySem.W.nsIn K mainGlobals "enumerate" = some none)
    (z4 : PySem.W.nsIn K mainGlobals "int" = some none)
    (z5 : PySem.W.nsIn K mainGlobals "isinstance" = some none)
    (z6 : PySem.W.nsIn K mainGlobals "len" = some none)
    (z7 : PySem.W.nsIn K mainGlobals "list" = some none)
    (z8 : PySem.W.nsIn K mainGlobals "max" = some none)
    (z9 : PySem.W.nsIn K mainGlobals "range" = some none)
    (z10 : PySem.W.nsIn K mainGlobals "reversed" = some none)
    (z11 : PySem.W.nsIn K mainGlobals "str" = some none)
    (z12 : PySem.W.nsIn K mainGlobals "sum" = some none)
    (z13 : PySem.W.nsIn K mainGlobals "zip" = some none)
    {C0 : Addr} (y0 : PySem.W.nsIn K mainGlobals "WrapError" = some (some (.ref C0)))
    {C1 : Addr} (y1 : PySem.W.nsIn K mainGlobals "NoWidth" = some (some (.ref C1)))
    {C2 : Addr} (y2 : PySem.W.nsIn K mainGlobals "LongWord" = some (some (.ref C2)))
    {C3 : Addr} (y3 : PySem.W.nsIn K mainGlobals "NoStarts" = some (some (.ref C3)))
    {C4 : Addr} (y4 : PySem.W.nsIn K mainGlobals "TooWide" = some (some (.ref C4)))
    {C5 : Addr} (y5 : PySem.W.nsIn K mainGlobals "TooFew" = some (some (.ref C5)))
    {C6 : Addr} (y6 : PySem.W.nsIn K mainGlobals "TooMany" = some (some (.ref C6)))
    {C7 : Addr} (y7 : PySem.W.nsIn K mainGlobals "NoPlace" = some (some (.ref C7)))
    {C8 : Addr} (y8 : PySem.W.nsIn K mainGlobals "NoWord" = some (some (.ref C8)))
    {C9 : Addr} (y9 : PySem.W.nsIn K mainGlobals "Full" = some (some (.ref C9)))
    {C10 : Addr} (y10 : PySem.W.nsIn K mainGlobals "NoWayBack" = some (some (.ref C10)))
    (hd_WrapError : PySem.W.hasDictIn K C0 = true)
    (ty_WrapError : PySem.W.typeIn K (.ref C0) = some (.type "type"))
    (hd_NoWidth : PySem.W.hasDictIn K C1 = true)
    (ty_NoWidth : PySem.W.typeIn K (.ref C1) = some (.type "type"))
    (hd_LongWord : PySem.W.hasDictIn K C2 = true)
    (ty_LongWord : PySem.W.typeIn K (.ref C2) = some (.type "type"))
    (hd_NoStarts : PySem.W.hasDictIn K C3 = true)
    (ty_NoStarts : PySem.W.typeIn K (.ref C3) = some (.type "type"))
    (hd_TooWide : PySem.W.hasDictIn K C4 = true)
    (ty_TooWide : PySem.W.typeIn K (.ref C4) = some (.type "type"))
    (hd_TooFew : PySem.W.hasDictIn K C5 = true)
    (ty_TooFew : PySem.W.typeIn K (.ref C5) = some (.type "type"))
    (hd_TooMany : PySem.W.hasDictIn K C6 = true)
    (ty_TooMany : PySem.W.typeIn K (.ref C6) = some (.type "type"))
    (hd_NoPlace : PySem.W.hasDictIn K C7 = true)
    (ty_NoPlace : PySem.W.typeIn K (.ref C7) = some (.type "type"))
    (hd_NoWord : PySem.W.hasDictIn K C8 = true)
    (ty_NoWord : PySem.W.typeIn K (.ref C8) = some (.type "type"))
    (hd_Full : PySem.W.hasDictIn K C9 = true)
    (ty_Full : PySem.W.typeIn K (.ref C9) = some (.type "type"))
    (hd_NoWayBack : PySem.W.hasDictIn K C10 = true)
    (ty_NoWayBack : PySem.W.typeIn K (.ref C10) = some (.type "type"))
    (bw : PySem.W.subIn K (.ref C0) (.type "BaseException") = some true)
    (x1_NoWidth : PySem.W.excIn K C1 [.type "ValueError", .type "Exception", .type "BaseException", .type "object"] "ValueError.__new__" = true)
    (x2_NoWidth : PySem.W.keepIn K (.ref C1) = true)
    (x3_NoWidth : PySem.W.findIn K (.ref C1) "__getattribute__" = some (some (.builtin "BaseException.__getattribute__")))
    (x4_NoWidth : PySem.W.findIn K (.ref C1) "__getattr__" = some none)
    (x5_NoWidth : PySem.W.subIn K (.ref C1) (.type "BaseException") = some true)
    (x6_NoWidth : PySem.W.findIn K (.ref C1) "__class__" = some (some (.builtin "object.__class__")))
    (x7_NoWidth : PySem.W.specialIn K (.builtin "object.__class__") "__get__" = some (some (.builtin "getset_descriptor.__get__")))
    (x8_NoWidth : PySem.W.takesIn K (.builtin "object.__class__") = some true)
    (x9_NoWidth : PySem.W.mroIn K C1 (.type "object") = some true)
    (sv_NoWidth : PySem.W.subIn K (.ref C1) (.type "ValueError") = some true)
    (sb_NoWidth_WrapError : PySem.W.subIn K (.ref C1) (.ref C0) = some true)
    (sb_NoWidth_NoWidth : PySem.W.subIn K (.ref C1) (.ref C1) = some true)
    (sb_NoWidth_LongWord : PySem.W.subIn K (.ref C1) (.ref C2) = some false)
    (ne_NoWidth_LongWord : C1 ≠ C2)
    (sb_NoWidth_NoStarts : PySem.W.subIn K (.ref C1) (.ref C3) = some false)
    (ne_NoWidth_NoStarts : C1 ≠ C3)
    (sb_NoWidth_TooWide : PySem.W.subIn K (.ref C1) (.ref C4) = some false)
    (ne_NoWidth_TooWide : C1 ≠ C4)
    (sb_NoWidth_TooFew : PySem.W.subIn K (.ref C1) (.ref C5) = some false)
    (ne_NoWidth_TooFew : C1 ≠ C5)
    (sb_NoWidth_TooMany : PySem.W.subIn K (.ref C1) (.ref C6) = some false)
    (ne_NoWidth_TooMany : C1 ≠ C6)
    (sb_NoWidth_NoPlace : PySem.W.subIn K (.ref C1) (.ref C7) = some false)
    (ne_NoWidth_NoPlace : C1 ≠ C7)
    (sb_NoWidth_NoWord : PySem.W.subIn K (.ref C1) (.ref C8) = some false)
    (ne_NoWidth_NoWord : C1 ≠ C8)
    (sb_NoWidth_Full : PySem.W.subIn K (.ref C1) (.ref C9) = some false)
    (ne_NoWidth_Full : C1 ≠ C9)
    (sb_NoWidth_NoWayBack : PySem.W.subIn K (.ref C1) (.ref C10) = some false)
    (ne_NoWidth_NoWayBack : C1 ≠ C10)
    (x1_LongWord : PySem.W.excIn K C2 [.type "ValueError", .type "Exception", .type "BaseException", .type "object"] "ValueError.__new__" = true)
    (x2_LongWord : PySem.W.keepIn K (.ref C2) = true)
    (x3_LongWord : PySem.W.findIn K (.ref C2) "__getattribute__" = some (some (.builtin "BaseException.__getattribute__")))
    (x4_LongWord : PySem.W.findIn K (.ref C2) "__getattr__" = some none)
    (x5_LongWord : PySem.W.subIn K (.ref C2) (.type "BaseException") = some true)
    (x6_LongWord : PySem.W.findIn K (.ref C2) "__class__" = some (some (.builtin "object.__class__")))
    (x7_LongWord : PySem.W.specialIn K (.builtin "object.__class__") "__get__" = some (some (.builtin "getset_descriptor.__get__")))
    (x8_LongWord : PySem.W.takesIn K (.builtin "object.__class__") = some true)
    (x9_LongWord : PySem.W.mroIn K C2 (.type "object") = some true)
    (sv_LongWord : PySem.W.subIn K (.ref C2) (.type "ValueError") = some true)
    (sb_LongWord_WrapError : PySem.W.subIn K (.ref C2) (.ref C0) = some true)
    (sb_LongWord_NoWidth : PySem.W.subIn K (.ref C2) (.ref C1) = some false)
    (ne_LongWord_NoWidth : C2 ≠ C1)
    (sb_LongWord_LongWord : PySem.W.subIn K (.ref C2) (.ref C2) = some true)
    (sb_LongWord_NoStarts : PySem.W.subIn K (.ref C2) (.ref C3) = some false)
    (ne_LongWord_NoStarts : C2 ≠ C3)
    (sb_LongWord_TooWide : PySem.W.subIn K (.ref C2) (.ref C4) = some false)
    (ne_LongWord_TooWide : C2 ≠ C4)
    (sb_LongWord_TooFew : PySem.W.subIn K (.ref C2) (.ref C5) = some false)
    (ne_LongWord_TooFew : C2 ≠ C5)
    (sb_LongWord_TooMany : PySem.W.subIn K (.ref C2) (.ref C6) = some false)
    (ne_LongWord_TooMany : C2 ≠ C6)
    (sb_LongWord_NoPlace : PySem.W.subIn K (.ref C2) (.ref C7) = some false)
    (ne_LongWord_NoPlace : C2 ≠ C7)
    (sb_LongWord_NoWord : PySem.W.subIn K (.ref C2) (.ref C8) = some false)
    (ne_LongWord_NoWord : C2 ≠ C8)
    (sb_LongWord_Full : PySem.W.subIn K (.ref C2) (.ref C9) = some false)
    (ne_LongWord_Full : C2 ≠ C9)
    (sb_LongWord_NoWayBack : PySem.W.subIn K (.ref C2) (.ref C10) = some false)
    (ne_LongWord_NoWayBack : C2 ≠ C10)
    (x1_TooWide : PySem.W.excIn K C4 [.type "ValueError", .type "Exception", .type "BaseException", .type "object"] "ValueError.__new__" = true)
    (x2_TooWide : PySem.W.keepIn K (.ref C4) = true)
    (x3_TooWide : PySem.W.findIn K (.ref C4) "__getattribute__" = some (some (.builtin "BaseException.__getattribute__")))
    (x4_TooWide : PySem.W.findIn K (.ref C4) "__getattr__" = some none)
    (x5_TooWide : PySem.W.subIn K (.ref C4) (.type "BaseException") = some true)
    (x6_TooWide : PySem.W.findIn K (.ref C4) "__class__" = some (some (.builtin "object.__class__")))
    (x7_TooWide : PySem.W.specialIn K (.builtin "object.__class__") "__get__" = some (some (.builtin "getset_descriptor.__get__")))
    (x8_TooWide : PySem.W.takesIn K (.builtin "object.__class__") = some true)
    (x9_TooWide : PySem.W.mroIn K C4 (.type "object") = some true)
    (sv_TooWide : PySem.W.subIn K (.ref C4) (.type "ValueError") = some true)
    (sb_TooWide_WrapError : PySem.W.subIn K (.ref C4) (.ref C0) = some true)
    (sb_TooWide_NoWidth : PySem.W.subIn K (.ref C4) (.ref C1) = some false)
    (ne_TooWide_NoWidth : C4 ≠ C1)
    (sb_TooWide_LongWord : PySem.W.subIn K (.ref C4) (.ref C2) = some false)
    (ne_TooWide_LongWord : C4 ≠ C2)
    (sb_TooWide_NoStarts : PySem.W.subIn K (.ref C4) (.ref C3) = some false)
    (ne_TooWide_NoStarts : C4 ≠ C3)
    (sb_TooWide_TooWide : PySem.W.subIn K (.ref C4) (.ref C4) = some true)
    (sb_TooWide_TooFew : PySem.W.subIn K (.ref C4) (.ref C5) = some false)
    (ne_TooWide_TooFew : C4 ≠ C5)
    (sb_TooWide_TooMany : PySem.W.subIn K (.ref C4) (.ref C6) = some false)
    (ne_TooWide_TooMany : C4 ≠ C6)
    (sb_TooWide_NoPlace : PySem.W.subIn K (.ref C4) (.ref C7) = some false)
    (ne_TooWide_NoPlace : C4 ≠ C7)
    (sb_TooWide_NoWord : PySem.W.subIn K (.ref C4) (.ref C8) = some false)
    (ne_TooWide_NoWord : C4 ≠ C8)
    (sb_TooWide_Full : PySem.W.subIn K (.ref C4) (.ref C9) = some false)
    (ne_TooWide_Full : C4 ≠ C9)
    (sb_TooWide_NoWayBack : PySem.W.subIn K (.ref C4) (.ref C10) = some false)
    (ne_TooWide_NoWayBack : C4 ≠ C10)
    : ∃ fd : FuncData, (∀ (s : Shared) (v : Value), BindsTo s fd ⟨[v], []⟩ [("_law_script", v)]) ∧ ∀ base : Heap, K.In base → base.Ns mainGlobals mg → FnOk l.prog w K mg base CX0 9 fa fd ["_law_script"] (sp_law K) := by
  have e := hfa.symm.trans (PySem.W.mg_of X G a31)
  cases e
  have F0 := fun_mk (st := s_line_of) l0 c0 k0
  have b0 := F0.binds (ps := ["words", "begin", "end"]) fun _ _ _ _ _ _ us hl => match us, hl with | [_, _, _], _ => rfl
  have F1 := fun_mk (st := s_size_of) l1 c1 k1
  have b1 := F1.binds (ps := ["words", "begin", "end"]) fun _ _ _ _ _ _ us hl => match us, hl with | [_, _, _], _ => rfl
  have F2 := fun_mk (st := s_sizes_from) l2 c2 k2
  have b2 := F2.binds (ps := ["words", "width", "begin"]) fun _ _ _ _ _ _ us hl => match us, hl with | [_, _, _], _ => rfl
  have F3 := fun_mk (st := s_long_word) l3 c3 k3
  have b3 := F3.binds (ps := ["words", "width"]) fun _ _ _ _ _ _ us hl => match us, hl with | [_, _], _ => rfl
  have F4 := fun_mk (st := s_check_width) l4 c4 k4
  have b4 := F4.binds (ps := ["width"]) fun _ _ _ _ _ _ us hl => match us, hl with | [_], _ => rfl
  have F5 := fun_mk (st := s_check_words) l5 c5 k5
  have b5 := F5.binds (ps := ["words", "width"]) fun _ _ _ _ _ _ us hl => match us, hl with | [_, _], _ => rfl
  have F6 := fun_mk (st := s_bounds_of) l6 c6 k6
  have b6 := F6.binds (ps := ["words", "starts"]) fun _ _ _ _ _ _ us hl => match us, hl with | [_, _], _ => rfl
  have F7 := fun_mk (st := s_table_of) l7 c7 k7
  have b7 := F7.binds (ps := ["words", "width"]) fun _ _ _ _ _ _ us hl => match us, hl with | [_, _], _ => rfl
  have F8 := fun_mk (st := s_best_starts) l8 c8 k8
  have b8 := F8.binds (ps := ["words", "width"]) fun _ _ _ _ _ _ us hl => match us, hl with | [_, _], _ => rfl
  have F9 := fun_mk (st := s_first_line) l9 c9 k9
  have b9 := F9.binds (ps := ["words", "width", "begin", "table"]) fun _ _ _ _ _ _ us hl => match us, hl with | [_, _, _, _], _ => rfl
  have F10 := fun_mk (st := s_best_line) l10 c10 k10
  have b10 := F10.binds (ps := ["counts", "begin", "rest"]) fun _ _ _ _ _ _ us hl => match us, hl with | [_, _, _], _ => rfl
  have F11 := fun_mk (st := s_squares_of) l11 c11 k11
  have b11 := F11.binds (ps := ["width", "sizes"]) fun _ _ _ _ _ _ us hl => match us, hl with | [_, _], _ => rfl
  have F12 := fun_mk (st := s_words_of) l12 c12 k12
  have b12 := F12.binds (ps := ["text"]) fun _ _ _ _ _ _ us hl => match us, hl with | [_], _ => rfl
  have F13 := fun_mk (st := s_paragraphs_of) l13 c13 k13
  have b13 := F13.binds (ps := ["text"]) fun _ _ _ _ _ _ us hl => match us, hl with | [_], _ => rfl
  have F14 := fun_mk (st := s_squared) l14 c14 k14
  have b14 := F14.binds (ps := ["text", "width"]) fun _ _ _ _ _ _ us hl => match us, hl with | [_, _], _ => rfl
  have F15 := fun_mk (st := s_spread_line) l15 c15 k15
  have b15 := F15.binds (ps := ["words", "width"]) fun _ _ _ _ _ _ us hl => match us, hl with | [_, _], _ => rfl
  have F16 := fun_mk (st := s_squared_lines) l16 c16 k16
  have b16 := F16.binds (ps := ["words", "width"]) fun _ _ _ _ _ _ us hl => match us, hl with | [_, _], _ => rfl
  have F17 := fun_mk (st := s_joined) l17 c17 k17
  have b17 := F17.binds (ps := ["paragraphs"]) fun _ _ _ _ _ _ us hl => match us, hl with | [_], _ => rfl
  have F18 := fun_mk (st := s_l_cell_at) l18 c18 k18
  have b18 := F18.binds (ps := ["_law_script", "_law_k"]) fun _ _ _ _ _ _ us hl => match us, hl with | [_, _], _ => rfl
  have F19 := fun_mk (st := s_l_sign_by) l19 c19 k19
  have b19 := F19.binds (ps := ["_law_cell"]) fun _ _ _ _ _ _ us hl => match us, hl with | [_], _ => rfl
  have F20 := fun_mk (st := s_l_text_by) l20 c20 k20
  have b20 := F20.binds (ps := ["_law_cells", "_law_flowing"]) fun _ _ _ _ _ _ us hl => match us, hl with | [_, _], _ => rfl
  have F21 := fun_mk (st := s_l_parts) l21 c21 k21
  have b21 := F21.binds (ps := ["_law_signs"]) fun _ _ _ _ _ _ us hl => match us, hl with | [_], _ => rfl
  have F22 := fun_mk (st := s_l_whole) l22 c22 k22
  have b22 := F22.binds (ps := ["_law_found"]) fun _ _ _ _ _ _ us hl => match us, hl with | [_], _ => rfl
  have F23 := fun_mk (st := s_l_wholes) l23 c23 k23
  have b23 := F23.binds (ps := ["_law_found"]) fun _ _ _ _ _ _ us hl => match us, hl with | [_], _ => rfl
  have F24 := fun_mk (st := s_l_size) l24 c24 k24
  have b24 := F24.binds (ps := ["_law_row", "_law_begin", "_law_end"]) fun _ _ _ _ _ _ us hl => match us, hl with | [_, _, _], _ => rfl
  have F25 := fun_mk (st := s_l_are_starts) l25 c25 k25
  have b25 := F25.binds (ps := ["_law_row", "_law_width", "_law_found"]) fun _ _ _ _ _ _ us hl => match us, hl with | [_, _, _], _ => rfl
  have F26 := fun_mk (st := s_l_spread) l26 c26 k26
  have b26 := F26.binds (ps := ["_law_row", "_law_width"]) fun _ _ _ _ _ _ us hl => match us, hl with | [_, _], _ => rfl
  have F27 := fun_mk (st := s_l_kind) l27 c27 k27
  have b27 := F27.binds (ps := ["_law_e"]) fun _ _ _ _ _ _ us hl => match us, hl with | [_], _ => rfl
  have F28 := fun_mk (st := s_l_refusal) l28 c28 k28
  have b28 := F28.binds (ps := ["_law_signs", "_law_width"]) fun _ _ _ _ _ _ us hl => match us, hl with | [_, _], _ => rfl
  have F29 := fun_mk (st := s_l_longest) l29 c29 k29
  have b29 := F29.binds (ps := ["_law_parts_here"]) fun _ _ _ _ _ _ us hl => match us, hl with | [_], _ => rfl
  have F30 := fun_mk (st := s_l_squared) l30 c30 k30
  have b30 := F30.binds (ps := ["_law_parts_here", "_law_width"]) fun _ _ _ _ _ _ us hl => match us, hl with | [_, _], _ => rfl
  have F31 := fun_mk (st := s_law) l31 c31 k31
  have b31 := F31.binds (ps := ["_law_script"]) fun _ _ _ _ _ _ us hl => match us, hl with | [_], _ => rfl
  have T : Txt K mg { f_line_of := f0, d_line_of := _, f_size_of := f1, d_size_of := _, f_sizes_from := f2, d_sizes_from := _, f_long_word := f3, d_long_word := _, f_check_width := f4, d_check_width := _, f_check_words := f5, d_check_words := _, f_bounds_of := f6, d_bounds_of := _, f_table_of := f7, d_table_of := _, f_best_starts := f8, d_best_starts := _, f_first_line := f9, d_first_line := _, f_best_line := f10, d_best_line := _, f_squares_of := f11, d_squares_of := _, f_words_of := f12, d_words_of := _, f_paragraphs_of := f13, d_paragraphs_of := _, f_squared := f14, d_squared := _, f_spread_line := f15, d_spread_line := _, f_squared_lines := f16, d_squared_lines := _, f_joined := f17, d_joined := _, f_l_cell_at := f18, d_l_cell_at := _, f_l_sign_by := f19, d_l_sign_by := _, f_l_text_by := f20, d_l_text_by := _, f_l_parts := f21, d_l_parts := _, f_l_whole := f22, d_l_whole := _, f_l_wholes := f23, d_l_wholes := _, f_l_size := f24, d_l_size := _, f_l_are_starts := f25, d_l_are_starts := _, f_l_spread := f26, d_l_spread := _, f_l_kind := f27, d_l_kind := _, f_l_refusal := f28, d_l_refusal := _, f_l_longest := f29, d_l_longest := _, f_l_squared := f30, d_l_squared := _, f_law := fa, d_law := _, c_WrapError := C0, c_NoWidth := C1, c_LongWord := C2, c_NoStarts := C3, c_TooWide := C4, c_TooFew := C5, c_TooMany := C6, c_NoPlace := C7, c_NoWord := C8, c_Full := C9, c_NoWayBack := C10 } := {
    F_line_of := F0, g_line_of := PySem.W.mg_of X G a0, b_line_of := b0,
    F_size_of := F1, g_size_of := PySem.W.mg_of X G a1, b_size_of := b1,
    F_sizes_from := F2, g_sizes_from := PySem.W.mg_of X G a2, b_sizes_from := b2,
    F_long_word := F3, g_long_word := PySem.W.mg_of X G a3, b_long_word := b3,
    F_check_width := F4, g_check_width := PySem.W.mg_of X G a4, b_check_width := b4,
    F_check_words := F5, g_check_words := PySem.W.mg_of X G a5, b_check_words := b5,
    F_bounds_of := F6, g_bounds_of := PySem.W.mg_of X G a6, b_bounds_of := b6,
    F_table_of := F7, g_table_of := PySem.W.mg_of X G a7, b_table_of := b7,
    F_best_starts := F8, g_best_starts := PySem.W.mg_of X G a8, b_best_starts := b8,
    F_first_line := F9, g_first_line := PySem.W.mg_of X G a9, b_first_line := b9,
    F_best_line := F10, g_best_line := PySem.W.mg_of X G a10, b_best_line := b10,
    F_squares_of := F11, g_squares_of := PySem.W.mg_of X G a11, b_squares_of := b11,
    F_words_of := F12, g_words_of := PySem.W.mg_of X G a12, b_words_of := b12,
    F_paragraphs_of := F13, g_paragraphs_of := PySem.W.mg_of X G a13, b_paragraphs_of := b13,
    F_squared := F14, g_squared := PySem.W.mg_of X G a14, b_squared := b14,
    F_spread_line := F15, g_spread_line := PySem.W.mg_of X G a15, b_spread_line := b15,
    F_squared_lines := F16, g_squared_lines := PySem.W.mg_of X G a16, b_squared_lines := b16,
    F_joined := F17, g_joined := PySem.W.mg_of X G a17, b_joined := b17,
    F_l_cell_at := F18, g_l_cell_at := PySem.W.mg_of X G a18, b_l_cell_at := b18,
    F_l_sign_by := F19, g_l_sign_by := PySem.W.mg_of X G a19, b_l_sign_by := b19,
    F_l_text_by := F20, g_l_text_by := PySem.W.mg_of X G a20, b_l_text_by := b20,
    F_l_parts := F21, g_l_parts := PySem.W.mg_of X G a21, b_l_parts := b21,
    F_l_whole := F22, g_l_whole := PySem.W.mg_of X G a22, b_l_whole := b22,
    F_l_wholes := F23, g_l_wholes := PySem.W.mg_of X G a23, b_l_wholes := b23,
    F_l_size := F24, g_l_size := PySem.W.mg_of X G a24, b_l_size := b24,
    F_l_are_starts := F25, g_l_are_starts := PySem.W.mg_of X G a25, b_l_are_starts := b25,
    F_l_spread := F26, g_l_spread := PySem.W.mg_of X G a26, b_l_spread := b26,
    F_l_kind := F27, g_l_kind := PySem.W.mg_of X G a27, b_l_kind := b27,
    F_l_refusal := F28, g_l_refusal := PySem.W.mg_of X G a28, b_l_refusal := b28,
    F_l_longest := F29, g_l_longest := PySem.W.mg_of X G a29, b_l_longest := b29,
    F_l_squared := F30, g_l_squared := PySem.W.mg_of X G a30, b_l_squared := b30,
    F_law := F31, g_law := PySem.W.mg_of X G a31, b_law := b31,
    m_ValueError := PySem.W.mg_none_of X G z0,
    m_bool := PySem.W.mg_none_of X G z1,
    m_divmod := PySem.W.mg_none_of X G z2,
    m_enumerate := PySem.W.mg_none_of X G z3,
    m_int := PySem.W.mg_none_of X G z4,
    m_isinstance := PySem.W.mg_none_of X G z5,
    m_len := PySem.W.mg_none_of X G z6,
    m_list := PySem.W.mg_none_of X G z7,
    m_max := PySem.W.mg_none_of X G z8,
    m_range := PySem.W.mg_none_of X G z9,
    m_reversed := PySem.W.mg_none_of X G z10,
    m_str := PySem.W.mg_none_of X G z11,
    m_sum := PySem.W.mg_none_of X G z12,
    m_zip := PySem.W.mg_none_of X G z13,
    gc_WrapError := PySem.W.mg_of X G y0,
    gc_NoWidth := PySem.W.mg_of X G y1,
    gc_LongWord := PySem.W.mg_of X G y2,
    gc_NoStarts := PySem.W.mg_of X G y3,
    gc_TooWide := PySem.W.mg_of X G y4,
    gc_TooFew := PySem.W.mg_of X G y5,
    gc_TooMany := PySem.W.mg_of X G y6,
    gc_NoPlace := PySem.W.mg_of X G y7,
    gc_NoWord := PySem.W.mg_of X G y8,
    gc_Full := PySem.W.mg_of X G y9,
    gc_NoWayBack := PySem.W.mg_of X G y10,
    hd_WrapError := hd_WrapError, ty_WrapError := ty_WrapError,
    hd_NoWidth := hd_NoWidth, ty_NoWidth := ty_NoWidth,
    hd_LongWord := hd_LongWord, ty_LongWord := ty_LongWord,
    hd_NoStarts := hd_NoStarts, ty_NoStarts := ty_NoStarts,
    hd_TooWide := hd_TooWide, ty_TooWide := ty_TooWide,
    hd_TooFew := hd_TooFew, ty_TooFew := ty_TooFew,
    hd_TooMany := hd_TooMany, ty_TooMany := ty_TooMany,
    hd_NoPlace := hd_NoPlace, ty_NoPlace := ty_NoPlace,
    hd_NoWord := hd_NoWord, ty_NoWord := ty_NoWord,
    hd_Full := hd_Full, ty_Full := ty_Full,
    hd_NoWayBack := hd_NoWayBack, ty_NoWayBack := ty_NoWayBack,
    bw := bw,
    ex_NoWidth := ⟨x1_NoWidth, x2_NoWidth, ty_NoWidth, ⟨x3_NoWidth, x4_NoWidth, x5_NoWidth, hd_NoWidth, x6_NoWidth, x7_NoWidth, x8_NoWidth, x9_NoWidth⟩⟩, sv_NoWidth := sv_NoWidth,
    sb_NoWidth_WrapError := sb_NoWidth_WrapError,
    sb_NoWidth_NoWidth := sb_NoWidth_NoWidth,
    sb_NoWidth_LongWord := sb_NoWidth_LongWord,
    ne_NoWidth_LongWord := ne_NoWidth_LongWord,
    sb_NoWidth_NoStarts := sb_NoWidth_NoStarts,
    ne_NoWidth_NoStarts := ne_NoWidth_NoStarts,
    sb_NoWidth_TooWide := sb_NoWidth_TooWide,
    ne_NoWidth_TooWide := ne_NoWidth_TooWide,
    sb_NoWidth_TooFew := sb_NoWidth_TooFew,
    ne_NoWidth_TooFew := ne_NoWidth_TooFew,
    sb_NoWidth_TooMany := sb_NoWidth_TooMany,
    ne_NoWidth_TooMany := ne_NoWidth_TooMany,
    sb_NoWidth_NoPlace := sb_NoWidth_NoPlace,
    ne_NoWidth_NoPlace := ne_NoWidth_NoPlace,
    sb_NoWidth_NoWord := sb_NoWidth_NoWord,
    ne_NoWidth_NoWord := ne_NoWidth_NoWord,
    sb_NoWidth_Full := sb_NoWidth_Full,
    ne_NoWidth_Full := ne_NoWidth_Full,
    sb_NoWidth_NoWayBack := sb_NoWidth_NoWayBack,
    ne_NoWidth_NoWayBack := ne_NoWidth_NoWayBack,
    ex_LongWord := ⟨x1_LongWord, x2_LongWord, ty_LongWord, ⟨x3_LongWord, x4_LongWord, x5_LongWord, hd_LongWord, x6_LongWord, x7_LongWord, x8_LongWord, x9_LongWord⟩⟩, sv_LongWord := sv_LongWord,
    sb_LongWord_WrapError := sb_LongWord_WrapError,
    sb_LongWord_NoWidth := sb_LongWord_NoWidth,
    ne_LongWord_NoWidth := ne_LongWord_NoWidth,
    sb_LongWord_LongWord := sb_LongWord_LongWord,
    sb_LongWord_NoStarts := sb_LongWord_NoStarts,
    ne_LongWord_NoStarts := ne_LongWord_NoStarts,
    sb_LongWord_TooWide := sb_LongWord_TooWide,
    ne_LongWord_TooWide := ne_LongWord_TooWide,
    sb_LongWord_TooFew := sb_LongWord_TooFew,
    ne_LongWord_TooFew := ne_LongWord_TooFew,
    sb_LongWord_TooMany := sb_LongWord_TooMany,
    ne_LongWord_TooMany := ne_LongWord_TooMany,
    sb_LongWord_NoPlace := sb_LongWord_NoPlace,
    ne_LongWord_NoPlace := ne_LongWord_NoPlace,
    sb_LongWord_NoWord := sb_LongWord_NoWord,
    ne_LongWord_NoWord := ne_LongWord_NoWord,
    sb_LongWord_Full := sb_LongWord_Full,
    ne_LongWord_Full := ne_LongWord_Full,
    sb_LongWord_NoWayBack := sb_LongWord_NoWayBack,
    ne_LongWord_NoWayBack := ne_LongWord_NoWayBack,
    ex_TooWide := ⟨x1_TooWide, x2_TooWide, ty_TooWide, ⟨x3_TooWide, x4_TooWide, x5_TooWide, hd_TooWide, x6_TooWide, x7_TooWide, x8_TooWide, x9_TooWide⟩⟩, sv_TooWide := sv_TooWide,
    sb_TooWide_WrapError := sb_TooWide_WrapError,
    sb_TooWide_NoWidth := sb_TooWide_NoWidth,
    ne_TooWide_NoWidth := ne_TooWide_NoWidth,
    sb_TooWide_LongWord := sb_TooWide_LongWord,
    ne_TooWide_LongWord := ne_TooWide_LongWord,
    sb_TooWide_NoStarts := sb_TooWide_NoStarts,
    ne_TooWide_NoStarts := ne_TooWide_NoStarts,
    sb_TooWide_TooWide := sb_TooWide_TooWide,
    sb_TooWide_TooFew := sb_TooWide_TooFew,
    ne_TooWide_TooFew := ne_TooWide_TooFew,
    sb_TooWide_TooMany := sb_TooWide_TooMany,
    ne_TooWide_TooMany := ne_TooWide_TooMany,
    sb_TooWide_NoPlace := sb_TooWide_NoPlace,
    ne_TooWide_NoPlace := ne_TooWide_NoPlace,
    sb_TooWide_NoWord := sb_TooWide_NoWord,
    ne_TooWide_NoWord := ne_TooWide_NoWord,
    sb_TooWide_Full := sb_TooWide_Full,
    ne_TooWide_Full := ne_TooWide_Full,
    sb_TooWide_NoWayBack := sb_TooWide_NoWayBack,
    ne_TooWide_NoWayBack := ne_TooWide_NoWayBack }
  exact ⟨_, fun s v => .of_eq rfl, fun base _ _ => ok_law T⟩
end Pf
open PySem PySem.W PyProof.Rows
set_option maxHeartbeats 0 in
theorem PySem.Challenge.cw_textwrapper_k13_whole_text_squared_holds : PySem.Challenge.rw_textwrapper_k13_whole_text_squared.Holds := by
  w_on; o_law; k_head; (case hw => w_witness2)
  k_fill
  refine L2.walk_of (l := PySem.Challenge.rw_textwrapper_k13_whole_text_squared) (n := 63) (k := 9) (x := "_law_script") (CX := fun _ => L2.CX0) (sp := fun w => Pf.sp_law _) rfl (by decide) rfl ⟨rfl, by decide, by decide⟩ (fun w h Y => PySem.W.kIn_of Y) ?F (fun _ _ a ns hl _ hS => ⟨a, ns, rfl, hS, hl, fun _ => rfl⟩) (fun _ _ _ _ _ h => h)
  case F =>
    intro w mg fa h KX G hmg
    refine' Pf.all_mk KX G hmg ?a0 ?l0 ?c0 ?k0 ?a1 ?l1 ?c1 ?k1 ?a2 ?l2 ?c2 ?k2 ?a3 ?l3 ?c3 ?k3 ?a4 ?l4 ?c4 ?k4 ?a5 ?l5 ?c5 ?k5 ?a6 ?l6 ?c6 ?k6 ?a7 ?l7 ?c7 ?k7 ?a8 ?l8 ?c8 ?k8 ?a9 ?l9 ?c9 ?k9 ?a10 ?l10 ?c10 ?k10 ?a11 ?l11 ?c11 ?k11 ?a12 ?l12 ?c12 ?k12 ?a13 ?l13 ?c13 ?k13 ?a14 ?l14 ?c14 ?k14 ?a15 ?l15 ?c15 ?k15 ?a16 ?l16 ?c16 ?k16 ?a17 ?l17 ?c17 ?k17 ?a18 ?l18 ?c18 ?k18 ?a19 ?l19 ?c19 ?k19 ?a20 ?l20 ?c20 ?k20 ?a21 ?l21 ?c21 ?k21 ?a22 ?l22 ?c22 ?k22 ?a23 ?l23 ?c23 ?k23 ?a24 ?l24 ?c24 ?k24 ?a25 ?l25 ?c25 ?k25 ?a26 ?l26 ?c26 ?k26 ?a27 ?l27 ?c27 ?k27 ?a28 ?l28 ?c28 ?k28 ?a29 ?l29 ?c29 ?k29 ?a30 ?l30 ?c30 ?k30 ?a31 ?l31 ?c31 ?k31 ?z0 ?z1 ?z2 ?z3 ?z4 ?z5 ?z6 ?z7 ?z8 ?z9 ?z10 ?z11 ?z12 ?z13 ?y0 ?y1 ?y2 ?y3 ?y4 ?y5 ?y6 ?y7 ?y8 ?y9 ?y10 ?hd_WrapError ?ty_WrapError ?hd_NoWidth ?ty_NoWidth ?hd_LongWord ?ty_LongWord ?hd_NoStarts ?ty_NoStarts ?hd_TooWide ?ty_TooWide ?hd_TooFew ?ty_TooFew ?hd_TooMany ?ty_TooMany ?hd_NoPlace ?ty_NoPlace ?hd_NoWord ?ty_NoWord ?hd_Full ?ty_Full ?hd_NoWayBack ?ty_NoWayBack ?bw ?x1_NoWidth ?x2_NoWidth ?x3_NoWidth ?x4_NoWidth ?x5_NoWidth ?x6_NoWidth ?x7_NoWidth ?x8_NoWidth ?x9_NoWidth ?sv_NoWidth ?sb_NoWidth_WrapError ?sb_NoWidth_NoWidth ?sb_NoWidth_LongWord ?ne_NoWidth_LongWord ?sb_NoWidth_NoStarts ?ne_NoWidth_NoStarts ?sb_NoWidth_TooWide ?ne_NoWidth_TooWide ?sb_NoWidth_TooFew ?ne_NoWidth_TooFew ?sb_NoWidth_TooMany ?ne_NoWidth_TooMany ?sb_NoWidth_NoPlace ?ne_NoWidth_NoPlace ?sb_NoWidth_NoWord ?ne_NoWidth_NoWord ?sb_NoWidth_Full ?ne_NoWidth_Full ?sb_NoWidth_NoWayBack ?ne_NoWidth_NoWayBack ?x1_LongWord ?x2_LongWord ?x3_LongWord ?x4_LongWord ?x5_LongWord ?x6_LongWord ?x7_LongWord ?x8_LongWord ?x9_LongWord ?sv_LongWord ?sb_LongWord_WrapError ?sb_LongWord_NoWidth ?ne_LongWord_NoWidth ?sb_LongWord_LongWord ?sb_LongWord_NoStarts ?ne_LongWord_NoStarts ?sb_LongWord_TooWide ?ne_LongWord_TooWide ?sb_LongWord_TooFew ?ne_LongWord_TooFew ?sb_LongWord_TooMany ?ne_LongWord_TooMany ?sb_LongWord_NoPlace ?ne_LongWord_NoPlace ?sb_LongWord_NoWord ?ne_LongWord_NoWord ?sb_LongWord_Full ?ne_LongWord_Full ?sb_LongWord_NoWayBack ?ne_LongWord_NoWayBack ?x1_TooWide ?x2_TooWide ?x3_TooWide ?x4_TooWide ?x5_TooWide ?x6_TooWide ?x7_TooWide ?x8_TooWide ?x9_TooWide ?sv_TooWide ?sb_TooWide_WrapError ?sb_TooWide_NoWidth ?ne_TooWide_NoWidth ?sb_TooWide_LongWord ?ne_TooWide_LongWord ?sb_TooWide_NoStarts ?ne_TooWide_NoStarts ?sb_TooWide_TooWide ?sb_TooWide_TooFew ?ne_TooWide_TooFew ?sb_TooWide_TooMany ?ne_TooWide_TooMany ?sb_TooWide_NoPlace ?ne_TooWide_NoPlace ?sb_TooWide_NoWord ?ne_TooWide_NoWord ?sb_TooWide_Full ?ne_TooWide_Full ?sb_TooWide_NoWayBack ?ne_TooWide_NoWayBack
    (case a0 => k_is); (case l0 => k_is); (case c0 => k_is); (case k0 => k_is); (case a1 => k_is); (case l1 => k_is); (case c1 => k_is); (case k1 => k_is)
    (case a2 => k_is); (case l2 => k_is); (case c2 => k_is); (case k2 => k_is); (case a3 => k_is); (case l3 => k_is); (case c3 => k_is); (case k3 => k_is)
    (case a4 => k_is); (case l4 => k_is); (case c4 => k_is); (case k4 => k_is); (case a5 => k_is); (case l5 => k_is); (case c5 => k_is); (case k5 => k_is)
    (case a6 => k_is); (case l6 => k_is); (case c6 => k_is); (case k6 => k_is); (case a7 => k_is); (case l7 => k_is); (case c7 => k_is); (case k7 => k_is)
    (case a8 => k_is); (case l8 => k_is); (case c8 => k_is); (case k8 => k_is); (case a9 => k_is); (case l9 => k_is); (case c9 => k_is); (case k9 => k_is)
    (case a10 => k_is); (case l10 => k_is); (case c10 => k_is); (case k10 => k_is); (case a11 => k_is); (case l11 => k_is); (case c11 => k_is); (case k11 => k_is)
    (case a12 => k_is); (case l12 => k_is); (case c12 => k_is); (case k12 => k_is); (case a13 => k_is); (case l13 => k_is); (case c13 => k_is); (case k13 => k_is)
    (case a14 => k_is); (case l14 => k_is); (case c14 => k_is); (case k14 => k_is); (case a15 => k_is); (case l15 => k_is); (case c15 => k_is); (case k15 => k_is)
    (case a16 => k_is); (case l16 => k_is); (case c16 => k_is); (case k16 => k_is); (case a17 => k_is); (case l17 => k_is); (case c17 => k_is); (case k17 => k_is)
    (case a18 => k_is); (case l18 => k_is); (case c18 => k_is); (case k18 => k_is); (case a19 => k_is); (case l19 => k_is); (case c19 => k_is); (case k19 => k_is)
    (case a20 => k_is); (case l20 => k_is); (case c20 => k_is); (case k20 => k_is); (case a21 => k_is); (case l21 => k_is); (case c21 => k_is); (case k21 => k_is)
    (case a22 => k_is); (case l22 => k_is); (case c22 => k_is); (case k22 => k_is); (case a23 => k_is); (case l23 => k_is); (case c23 => k_is); (case k23 => k_is)
    (case a24 => k_is); (case l24 => k_is); (case c24 => k_is); (case k24 => k_is); (case a25 => k_is); (case l25 => k_is); (case c25 => k_is); (case k25 => k_is)
    (case a26 => k_is); (case l26 => k_is); (case c26 => k_is); (case k26 => k_is); (case a27 => k_is); (case l27 => k_is); (case c27 => k_is); (case k27 => k_is)
    (case a28 => k_is); (case l28 => k_is); (case c28 => k_is); (case k28 => k_is); (case a29 => k_is); (case l29 => k_is); (case c29 => k_is); (case k29 => k_is)
    (case a30 => k_is); (case l30 => k_is); (case c30 => k_is); (case k30 => k_is); (case a31 => k_is); (case l31 => k_is); (case c31 => k_is); (case k31 => k_is)
    (case z0 => k_is); (case z1 => k_is); (case z2 => k_is); (case z3 => k_is); (case z4 => k_is); (case z5 => k_is); (case z6 => k_is); (case z7 => k_is)
    (case z8 => k_is); (case z9 => k_is); (case z10 => k_is); (case z11 => k_is); (case z12 => k_is); (case z13 => k_is); (case y0 => k_is); (case y1 => k_is)
    (case y2 => k_is); (case y3 => k_is); (case y4 => k_is); (case y5 => k_is); (case y6 => k_is); (case y7 => k_is); (case y8 => k_is); (case y9 => k_is)
    (case y10 => k_is); (case hd_WrapError => k_is); (case ty_WrapError => k_is); (case hd_NoWidth => k_is); (case ty_NoWidth => k_is); (case hd_LongWord => k_is); (case ty_LongWord => k_is); (case hd_NoStarts => k_is)
    (case ty_NoStarts => k_is); (case hd_TooWide => k_is); (case ty_TooWide => k_is); (case hd_TooFew => k_is); (case ty_TooFew => k_is); (case hd_TooMany => k_is); (case ty_TooMany => k_is); (case hd_NoPlace => k_is)
    (case ty_NoPlace => k_is); (case hd_NoWord => k_is); (case ty_NoWord => k_is); (case hd_Full => k_is); (case ty_Full => k_is); (case hd_NoWayBack => k_is); (case ty_NoWayBack => k_is); (case bw => k_is)
    (case x1_NoWidth => k_exc); (case x2_NoWidth => k_is); (case x3_NoWidth => k_is); (case x4_NoWidth => k_is); (case x5_NoWidth => k_is); (case x6_NoWidth => k_is); (case x7_NoWidth => k_is); (case x8_NoWidth => k_is)
    (case x9_NoWidth => k_is); (case sv_NoWidth => k_is); (case sb_NoWidth_WrapError => k_is); (case sb_NoWidth_NoWidth => k_is); (case sb_NoWidth_LongWord => k_is); (case ne_NoWidth_LongWord => decide); (case sb_NoWidth_NoStarts => k_is); (case ne_NoWidth_NoStarts => decide)
    (case sb_NoWidth_TooWide => k_is); (case ne_NoWidth_TooWide => decide); (case sb_NoWidth_TooFew => k_is); (case ne_NoWidth_TooFew => decide); (case sb_NoWidth_TooMany => k_is); (case ne_NoWidth_TooMany => decide); (case sb_NoWidth_NoPlace => k_is); (case ne_NoWidth_NoPlace => decide)
    (case sb_NoWidth_NoWord => k_is); (case ne_NoWidth_NoWord => decide); (case sb_NoWidth_Full => k_is); (case ne_NoWidth_Full => decide); (case sb_NoWidth_NoWayBack => k_is); (case ne_NoWidth_NoWayBack => decide); (case x1_LongWord => k_exc); (case x2_LongWord => k_is)
    (case x3_LongWord => k_is); (case x4_LongWord => k_is); (case x5_LongWord => k_is); (case x6_LongWord => k_is); (case x7_LongWord => k_is); (case x8_LongWord => k_is); (case x9_LongWord => k_is); (case sv_LongWord => k_is)
    (case sb_LongWord_WrapError => k_is); (case sb_LongWord_NoWidth => k_is); (case ne_LongWord_NoWidth => decide); (case sb_LongWord_LongWord => k_is); (case sb_LongWord_NoStarts => k_is); (case ne_LongWord_NoStarts => decide); (case sb_LongWord_TooWide => k_is); (case ne_LongWord_TooWide => decide)
    (case sb_LongWord_TooFew => k_is); (case ne_LongWord_TooFew => decide); (case sb_LongWord_TooMany => k_is); (case ne_LongWord_TooMany => decide); (case sb_LongWord_NoPlace => k_is); (case ne_LongWord_NoPlace => decide); (case sb_LongWord_NoWord => k_is); (case ne_LongWord_NoWord => decide)
    (case sb_LongWord_Full => k_is); (case ne_LongWord_Full => decide); (case sb_LongWord_NoWayBack => k_is); (case ne_LongWord_NoWayBack => decide); (case x1_TooWide => k_exc); (case x2_TooWide => k_is); (case x3_TooWide => k_is); (case x4_TooWide => k_is)
    (case x5_TooWide => k_is); (case x6_TooWide => k_is); (case x7_TooWide => k_is); (case x8_TooWide => k_is); (case x9_TooWide => k_is); (case sv_TooWide => k_is); (case sb_TooWide_WrapError => k_is); (case sb_TooWide_NoWidth => k_is)
    (case ne_TooWide_NoWidth => decide); (case sb_TooWide_LongWord => k_is); (case ne_TooWide_LongWord => decide); (case sb_TooWide_NoStarts => k_is); (case ne_TooWide_NoStarts => decide); (case sb_TooWide_TooWide => k_is); (case sb_TooWide_TooFew => k_is); (case ne_TooWide_TooFew => decide)
    (case sb_TooWide_TooMany => k_is); (case ne_TooWide_TooMany => decide); (case sb_TooWide_NoPlace => k_is); (case ne_TooWide_NoPlace => decide); (case sb_TooWide_NoWord => k_is); (case ne_TooWide_NoWord => decide); (case sb_TooWide_Full => k_is); (case ne_TooWide_Full => decide)
    (case sb_TooWide_NoWayBack => k_is); (case ne_TooWide_NoWayBack => decide)
