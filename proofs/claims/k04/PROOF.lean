
import PyProof.Rows.All
import Wide.All
import OpenK.AllK
import Wide.FinOn
import HandS.ForMost
import HandS.Evl
import HandS.Steps
import HandS.IsInst
import HandS.Style
import HandS.Walk
import HandS.Flow
import HandS.HotCalls
import HandS.ExcIs
import HandS.AnyAll
import HandS.EndTab
import HandS.Sort
import HandS.Zip
import HandS.Wide
import PyProof.SumAny
import PyProof.WalksMore
import PyProof.ZipIter
import PyProof.ListNew
import KE.KNest
import PySem.Challenge.RW_textwrapper_k04_lines_laid
set_option Elab.async false
set_option linter.all false
set_option maxRecDepth 100000
namespace Tw
open PySem PySem.Spec PyProof.Rows L2 Evl
/-! ### rules of our own -/
/-- text * int -/
def rMulS : R2 := fun x y H Q => ∃ (z : Str) (k : Int) (L N : Nat), x = .str z ∧ y = .int k ∧ (z.length ≤ L ∧ k ≤ (N : Int) ∧ -(2 ^ 63 : Int) ≤ k ∧ N ≤ 16777216 ∧ L * N ≤ 16777216) ∧ Q (.str (Txt.mul z k)) H
theorem op_mulS {X : Cx} : OpR X (binaryOp .Mult) rMulS := by
  intro pins s σ H x y v u Q I rx ry h
  obtain ⟨z, k, L, N, rfl, rfl, ⟨h1, h2, h3, h4, h5⟩, q⟩ := h
  obtain ⟨t, rfl⟩ := rx
  obtain ⟨t', rfl⟩ := ry
  exact PySem.SB.mul (mulOk_of L N h1 h2 h3 h4 h5) fun t' k' => ⟨.str (Txt.mul z k), H, I.tok _, ⟨_, rfl⟩, q⟩
/-! ### what evaluates to what -/
section
variable {K : PySem.W.Frag} {σ : L2.St} {H H' : Hp} {ta tb te tx : TE} {t u : TT} {x y z v : V} {r : R2}
theorem rv_addS {a b : Str} (h : a.length + b.length ≤ 100000) : RV (fun x y H Q => ∃ i j, x = .str i ∧ y = .str j ∧ i.length + j.length ≤ sizeLine ∧ Q (.str (i ++ j)) H) (.str a) (.str b) H (.str (a ++ b)) :=
  fun H1 _ _ q => ⟨a, b, rfl, rfl, sz_of h, q H1 (Ex.refl H1)⟩
theorem rv_mulS {a : Str} {k : Int} {L N : Nat} (h : a.length ≤ L) (hk : k ≤ (N : Int)) (h0 : 0 ≤ k) (hN : N ≤ 100000) (hL : L * N ≤ 100000) : RV rMulS (.str a) (.int k) H (.str (Txt.mul a k)) :=
  fun H1 _ _ q => ⟨a, k, L, N, rfl, rfl, ⟨h, hk, by omega, by omega, by omega⟩, q H1 (Ex.refl H1)⟩
def rLenStr : List V → Hp → VK → Prop := fun xs H Q => ∃ z, xs = [.str z] ∧ z.length ≤ sizeLine ∧ Q (.int z.length) H
theorem rc_lenS {a : Str} (h : a.length ≤ 16000000) : RC (fun xs H Q => ∃ z, xs = [.str z] ∧ z.length ≤ sizeLine ∧ Q (.int z.length) H) [.str a] H (.int a.length) := fun H1 _ _ q => ⟨a, rfl, Nat.le_trans h (by rw [sizeLine_eq]; decide), q H1 (Ex.refl H1)⟩
theorem rc_intB {b : Bool} : RC (fun xs H Q => (∃ i, xs = [.int i] ∧ Q (.int i) H) ∨ ∃ k, xs = [.bl k] ∧ Q (.int (if k then 1 else 0)) H) [.bl b] H (.int (if b = true then 1 else 0)) := fun H1 _ _ q => .inr ⟨b, rfl, q H1 (Ex.refl H1)⟩
theorem rc_lenL {p : Addr} {xs : List V} (h : SqL K H p xs) : RC (fun xs H Q => ∃ p ys, xs = [.ref p] ∧ (SqL K H p ys ∨ SqT K H p ys) ∧ Q (.int ys.length) H) [.ref p] H (.int xs.length) := fun H1 e _ q => ⟨p, xs, rfl, .inl (ex_l e h), q H1 (Ex.refl H1)⟩
theorem rc_isi {x c : V} {t u : Value} {b : Bool} (hc : ClsV c u) (ty : ∀ H1, Ex H H1 → TyX K H1 x t) (k : PySem.W.kitOne K t u = some b) : RC (rIsi K) [x, c] H (.bl b) := fun H1 e _ q => ⟨x, c, t, u, b, rfl, hc, ty H1 e, k, q H1 (Ex.refl H1)⟩
theorem rc_isStr {a : Str} : RC (rIsi K) [.str a, .ty "str"] H (.bl true) := rc_isi (.ty _) (fun _ _ => .base (.str a)) (kit_ty (by decide +kernel))
theorem tyx_list {p : Addr} {xs : List V} (h : SqL K H p xs) : TyX K H (.ref p) (.type "list") := by
  rcases h with (h | ⟨o, h⟩) | ⟨o, vs, n, hk, hc, _⟩
  · exact .base (.lst h)
  · exact .base (.frz h)
  · exact .kList hk hc
theorem rc_isList {p : Addr} {xs : List V} (h : SqL K H p xs) : RC (rIsi K) [.ref p, .ty "list"] H (.bl true) := rc_isi (.ty _) (fun _ e => tyx_list (ex_l e h)) (kit_ty (by decide +kernel))
theorem rv_isB {a b : Bool} : RV rIsB (.bl a) (.bl b) H (.bl (decide (a = b))) := fun H1 _ _ q => ⟨a, b, rfl, rfl, q H1 (Ex.refl H1)⟩
theorem rv_isN : RV rIsN x .non H (.bl (decide (x = .non))) := fun H1 _ _ q => ⟨rfl, q H1 (Ex.refl H1)⟩
theorem rv_notN : RV rNotN x .non H (.bl (!decide (x = .non))) := fun H1 _ _ q => ⟨rfl, q H1 (Ex.refl H1)⟩
theorem rv_add {i j : Int} : RV (rI0 fun i j => .int (i + j)) (.int i) (.int j) H (.int (i + j)) := rv_I0
/-- data equal, by values -/
theorem rv_eqD {d e : PyData} (hd : ∀ H1, Ex H H1 → Dp K H1 x d) (he : ∀ H1, Ex H H1 → Dp K H1 y e) (sd : SeqAt.shaped d = true) (se : SeqAt.shaped e = true) : RV (rEqD K) x y H (.bl (PyData.eqv d e)) :=
  fun H1 e1 _ q => ⟨d, e, hd H1 e1, he H1 e1, sd, se, q H1 (Ex.refl H1)⟩
theorem rv_neD {d e : PyData} (hd : ∀ H1, Ex H H1 → Dp K H1 x d) (he : ∀ H1, Ex H H1 → Dp K H1 y e) (sd : SeqAt.shaped d = true) (se : SeqAt.shaped e = true) : RV (rNeD K) x y H (.bl (!PyData.eqv d e)) :=
  fun H1 e1 _ q => ⟨d, e, hd H1 e1, he H1 e1, sd, se, q H1 (Ex.refl H1)⟩
theorem dpAll_strs : ∀ l : List Str, DpAll K H (l.map V.str) (l.map PyData.str)
  | [] => .nil
  | a :: r => .cons (.str a) (dpAll_strs r)
theorem dpAll_ints : ∀ l : List Int, DpAll K H (l.map V.int) (l.map PyData.int)
  | [] => .nil
  | a :: r => .cons (.int a) (dpAll_ints r)
theorem dp_strs {p : Addr} {l : List Str} (h : SqL K H p (l.map V.str)) : Dp K H (.ref p) (.list (l.map PyData.str)) := .lst h (dpAll_strs l)
theorem dp_ints {p : Addr} {l : List Int} (h : SqL K H p (l.map V.int)) : Dp K H (.ref p) (.list (l.map PyData.int)) := .lst h (dpAll_ints l)
/-- split() -/
theorem el_words {a : Str} (h : Ev te σ H (.str a)) (hl : a.length ≤ 90000) : EvL (tM0 (fun x xs H Q => ∃ a, x = .str a ∧ xs = [] ∧ a.length + 2 ≤ sizeLine ∧ rNewStrs (Txt.words a) H Q) te) σ H ((Txt.words a).map V.str) :=
  fun H1 e Q q => h H1 e _ fun H2 e2 => ⟨⟨a, rfl⟩, a, rfl, rfl, sz_of (by omega), fun p hp => q p _ (fresh_back e2 hp) (e2.trans (Ex.new hp)) upd_same⟩
/-- join -/
theorem ev_join {a : Str} {p : Addr} {ys : List Str} (h : Ev ta σ H (.str a)) (hb : Ev tb σ H (.ref p)) (hp : SqL K H p (ys.map V.str)) (hz : (ys.map (·.length)).sum + ys.length * a.length ≤ 16777216) :
    Ev (tM1 (fun x xs H Q => ∃ a p, ∃ ys : List Str, x = .str a ∧ xs = [.ref p] ∧ (SqL K H p (ys.map V.str) ∨ SqT K H p (ys.map V.str)) ∧ (ys.map (·.length)).sum + ys.length * a.length ≤ 16777216 ∧ Q (.str (Txt.join a ys)) H) ta tb) σ H (.str (Txt.join a ys)) :=
  fun H1 e Q q => h H1 e _ fun H2 e2 => ⟨⟨a, rfl⟩, hb H2 (e.trans e2) _ fun H3 e3 => ⟨a, p, ys, rfl, rfl, .inl (ex_l ((e.trans e2).trans e3) hp), hz, q H3 (e2.trans e3)⟩⟩
theorem ev_joinL {a : Str} {ys : List Str} (h : Ev ta σ H (.str a)) (hb : EvL tb σ H (ys.map V.str)) (hz : (ys.map (·.length)).sum + ys.length * a.length ≤ 16777216) :
    Ev (tM1 (fun x xs H Q => ∃ a p, ∃ ys : List Str, x = .str a ∧ xs = [.ref p] ∧ (SqL K H p (ys.map V.str) ∨ SqT K H p (ys.map V.str)) ∧ (ys.map (·.length)).sum + ys.length * a.length ≤ 16777216 ∧ Q (.str (Txt.join a ys)) H) ta tb) σ H (.str (Txt.join a ys)) :=
  fun H1 e Q q => h H1 e _ fun H2 e2 => ⟨⟨a, rfl⟩, hb H2 (e.trans e2) _ fun p H3 _ e3 hp => ⟨a, p, ys, rfl, rfl, .inl (sq_of hp), hz, q H3 (e2.trans e3)⟩⟩
/-- a slice of a new list -/
theorem el_slN {tl th : TO} {xs : List V} {lo hi : Option Int} (h : EvL te σ H xs) (h1 : EvO tl σ H lo) (h2 : EvO th σ H hi) : EvL (tSl (rSlL K) te tl th) σ H (cutV xs lo hi) := fun H1 e _ q =>
  h H1 e _ fun p H2 _ e2 hp => h1 H2 (e.trans e2) _ fun H3 e3 => h2 H3 ((e.trans e2).trans e3) _ fun H4 e4 =>
    ⟨p, xs, rfl, sq_of (e4 _ _ (e3 _ _ hp)), fun q' hq => q q' _ (fresh_back ((e2.trans e3).trans e4) hq) (((e2.trans e3).trans e4).trans (Ex.new hq)) upd_same⟩
/-- a call whose arguments are told by what they give: any promise -/
theorem ev_callA {sp : Sp} {dvs : List V} {E : XK} {ta : TA} {P : List V → Hp → Prop} (h : ∀ H1, Ex H H1 → ∀ Q : List V → Hp → Prop, (∀ vs H2, Ex H1 H2 → P vs H2 → Q vs H2) → ta σ H1 Q)
    (hs : ∀ vs H1, Ex H H1 → P vs H1 → ∀ Q : VK, (∀ H2, Ex H1 H2 → Q z H2) → sp (vs ++ dvs) H1 Q E) : Ev (tCall sp dvs E ta) σ H z := fun H1 e Q q =>
  h H1 e _ fun vs H2 e2 hP => hs vs H2 (e.trans e2) hP Q fun H3 e3 => q H3 (e2.trans e3)
theorem el_callA {sp : Sp} {dvs xs : List V} {E : XK} {ta : TA} {P : List V → Hp → Prop} (h : ∀ H1, Ex H H1 → ∀ Q : List V → Hp → Prop, (∀ vs H2, Ex H1 H2 → P vs H2 → Q vs H2) → ta σ H1 Q)
    (hs : ∀ vs H1, Ex H H1 → P vs H1 → ∀ Q : VK, (∀ p H2, H1 p = none → Ex H1 H2 → H2 p = some (.lst xs) → Q (.ref p) H2) → sp (vs ++ dvs) H1 Q E) : EvL (tCall sp dvs E ta) σ H xs := fun H1 e Q q =>
  h H1 e _ fun vs H2 e2 hP => hs vs H2 (e.trans e2) hP Q fun p H3 hp e3 h3 => q p H3 (fresh_back e2 hp) (e2.trans e3) h3
/-- argument lists told by what they give -/
def ArgP (ta : TA) (σ : L2.St) (H : Hp) (P : List V → Hp → Prop) : Prop := ∀ H1, Ex H H1 → ∀ Q : List V → Hp → Prop, (∀ vs H2, Ex H1 H2 → P vs H2 → Q vs H2) → ta σ H1 Q
theorem ap_nil : ArgP tNil σ H (fun vs _ => vs = []) := fun H1 _ Q q => q [] H1 (Ex.refl H1) rfl
theorem ap_cons {tr : TA} {P : List V → Hp → Prop} (h : Ev te σ H v) (hr : ArgP tr σ H P) : ArgP (tCons te tr) σ H (fun vs H' => ∃ r, vs = v :: r ∧ P r H') := fun H1 e Q q =>
  h H1 e _ fun H2 e2 => hr H2 (e.trans e2) _ fun vs H3 e3 hP => q _ H3 (e2.trans e3) ⟨vs, rfl, hP⟩
theorem ap_consL {tr : TA} {P : List V → Hp → Prop} {xs : List V} (h : EvL te σ H xs) (hr : ArgP tr σ H P) (hmono : ∀ (vs : List V) (H1 H2 : Hp), True) : ArgP (tCons te tr) σ H (fun vs H' => ∃ p r, vs = .ref p :: r ∧ H' p = some (.lst xs) ∧ P r H') := fun H1 e Q q =>
  h H1 e _ fun p H2 _ e2 hp => hr H2 (e.trans e2) _ fun vs H3 e3 hP => q _ H3 (e2.trans e3) ⟨p, vs, rfl, e3 _ _ hp, hP⟩
end
/-! ### loops over a text -/
section
variable {K : PySem.W.Frag} {σ : L2.St} {H H' : Hp} {te : TE} {D : Ends} {tu tz : TS}
theorem s_forS {z : Str} {j : Nat} (h : Ev te σ H (.str z)) (Pv : Nat → L2.St → Hp → Prop) (h0 : ∀ H1, Ex H H1 → Pv 0 σ H1)
    (hs : ∀ (i c : Nat) σ' H', (TL.tl z)[i]? = some c → Pv i σ' H' → tu { D with nx := Pv (i + 1), ct := Pv (i + 1), bk := D.nx } (σ'.set j (some (.str ⟨#[c]⟩))) H')
    (hd : ∀ σ' H', Pv (TL.tl z).length σ' H' → D.nx σ' H') : tFor (iStr te) (gName j) tu D σ H :=
  h H (Ex.refl H) _ fun H1 e => ⟨z, rfl, for_it walk_str Pv (h0 H1 e) (fun _ _ _ _ _ => trivial) (fun i x σ' H' H'' hi p y => by
    obtain ⟨rfl, c, hc, rfl⟩ := y
    exact hs i c σ' _ (by rw [show (TL.tl z)[i]? = z.cps[i]? from Array.getElem?_toList]; exact hc) p) (fun σ' H' p => hd σ' H' (by
    have e : (TL.tl z).length = z.cps.size := Array.length_toList
    rw [e]
    exact p))⟩
theorem q_forS {z : Str} {j : Nat} (h : Ev te σ H (.str z)) (Pv : Nat → L2.St → Hp → Prop) (h0 : ∀ H1, Ex H H1 → Pv 0 σ H1)
    (hs : ∀ (i c : Nat) σ' H', (TL.tl z)[i]? = some c → Pv i σ' H' → tu { D with nx := Pv (i + 1), ct := Pv (i + 1), bk := tz D } (σ'.set j (some (.str ⟨#[c]⟩))) H')
    (hd : ∀ σ' H', Pv (TL.tl z).length σ' H' → tz D σ' H') : tSeq (tFor (iStr te) (gName j) tu) tz D σ H := s_forS (D := { D with nx := tz D }) h Pv h0 hs hd
end
/-! ### the signs of words -/
/-- from ! to ~, but the percent sign -/
def sgnL : List Nat := List.range' 33 4 ++ List.range' 38 89
theorem sgnL_len : sgnL.length = 93 := by decide +kernel
/-- a sign of a word -/
def Ws (c : Nat) : Prop := 33 ≤ c ∧ c ≤ 126
instance (c : Nat) : Decidable (Ws c) := inferInstanceAs (Decidable (_ ∧ _))
theorem sgnL_ws : ∀ c ∈ sgnL, Ws c := by decide +kernel
/-- a sign of a text -/
def Ts (c : Nat) : Prop := c = 32 ∨ c = 10 ∨ Ws c
instance (c : Nat) : Decidable (Ts c) := inferInstanceAs (Decidable (_ ∨ _))
def sgn (c : Int) : Nat := sgnL.getD (c % 93).toNat 33
theorem sgn_ws (c : Int) : Ws (sgn c) := by
  unfold sgn
  rw [List.getD_eq_getElem?_getD]
  cases h : sgnL[(c % 93).toNat]? with
  | none => exact ⟨by decide, by decide⟩
  | some x => exact sgnL_ws x (List.mem_of_getElem? h)
theorem at_sgn (c : Int) : atI sgnL (c % 93) = some (sgn c) := by
  have h0 : 0 ≤ c % 93 := Int.emod_nonneg c (by decide)
  have h1 : c % 93 < 93 := Int.emod_lt_of_pos c (by decide)
  have hl : (c % 93).toNat < sgnL.length := by rw [sgnL_len]; omega
  have e : c % 93 = ((c % 93).toNat : Int) := by omega
  rw [e]
  refine atI_nat ?_
  unfold sgn
  rw [List.getD_eq_getElem?_getD, List.getElem?_eq_getElem hl] <;> rfl
theorem space_ws : ∀ c, Ws c → Unicode.isSpace c = false := by
  have h : ∀ c < 127, 33 ≤ c → Unicode.isSpace c = false := by decide +kernel
  exact fun c hc => h c (by have := hc.2; omega) hc.1
theorem space_32 : Unicode.isSpace 32 = true := by decide +kernel
theorem space_10 : Unicode.isSpace 10 = true := by decide +kernel
/-! ### lists of texts, of ints, compared -/
theorem strOk_of {z : Str} (h : ∀ c ∈ TL.tl z, c < 1114112) : PyData.strOk z = true := by
  unfold PyData.strOk
  rw [← Array.all_toList, List.all_eq_true]
  exact fun c hc => decide_eq_true (h c hc)
theorem canLay_strs : ∀ {l : List Str}, (∀ z ∈ l, ∀ c ∈ TL.tl z, c < 1114112) → PyData.canLayAll0 (l.map PyData.str) = true
  | [], _ => by simp [PyData.canLayAll0]
  | z :: r, h => by
    rw [List.map_cons, PyData.canLayAll0, PyData.canLay0, strOk_of (h z (List.mem_cons_self ..)), canLay_strs fun y hy => h y (List.mem_cons_of_mem _ hy)] <;> rfl
theorem depth_strs : ∀ l : List Str, PyData.depthAll (l.map PyData.str) = 0
  | [] => by simp [PyData.depthAll]
  | z :: r => by
    rw [List.map_cons, PyData.depthAll, depth_strs r, PyData.depth] <;> rfl
theorem shaped_strs {l : List Str} (h : ∀ z ∈ l, ∀ c ∈ TL.tl z, c < 1114112) : SeqAt.shaped (.list (l.map PyData.str)) = true := by
  unfold SeqAt.shaped
  rw [PyData.canLay0, canLay_strs h, PyData.depth, depth_strs] <;> rfl
theorem eqv_strs : ∀ l m : List Str, PyData.eqvAll (l.map PyData.str) (m.map PyData.str) = decide (l = m)
  | [], [] => by simp [PyData.eqvAll]
  | [], _ :: _ => by simp [PyData.eqvAll]
  | _ :: _, [] => by simp [PyData.eqvAll]
  | x :: l, y :: m => by
    rw [List.map_cons, List.map_cons, PyData.eqvAll, PyData.eqv, eqv_strs l m]
    rw [Bool.eq_iff_iff]
    simp
theorem eqv_lstrs (l m : List Str) : PyData.eqv (.list (l.map PyData.str)) (.list (m.map PyData.str)) = decide (l = m) := by
  rw [PyData.eqv]
  exact eqv_strs l m
theorem canLay_ints : ∀ l : List Int, PyData.canLayAll0 (l.map PyData.int) = true
  | [] => by simp [PyData.canLayAll0]
  | z :: r => by
    rw [List.map_cons, PyData.canLayAll0, PyData.canLay0, canLay_ints r] <;> rfl
theorem depth_ints : ∀ l : List Int, PyData.depthAll (l.map PyData.int) = 0
  | [] => by simp [PyData.depthAll]
  | z :: r => by
    rw [List.map_cons, PyData.depthAll, depth_ints r, PyData.depth] <;> rfl
theorem shaped_ints (l : List Int) : SeqAt.shaped (.list (l.map PyData.int)) = true := by
  unfold SeqAt.shaped
  rw [PyData.canLay0, canLay_ints, PyData.depth, depth_ints] <;> rfl
theorem eqv_ints : ∀ l m : List Int, PyData.eqvAll (l.map PyData.int) (m.map PyData.int) = decide (l = m)
  | [], [] => by simp [PyData.eqvAll]
  | [], _ :: _ => by simp [PyData.eqvAll]
  | _ :: _, [] => by simp [PyData.eqvAll]
  | x :: l, y :: m => by
    rw [List.map_cons, List.map_cons, PyData.eqvAll, PyData.eqv, eqv_ints l m]
    rw [Bool.eq_iff_iff]
    simp
theorem eqv_lints (l m : List Int) : PyData.eqv (.list (l.map PyData.int)) (.list (m.map PyData.int)) = decide (l = m) := by
  rw [PyData.eqv]
  exact eqv_ints l m
section
variable {K : PySem.W.Frag} {σ : L2.St} {H H' : Hp} {ta tb te tx : TE}
theorem rv_eqS {p q : Addr} {l m : List Str} (hp : SqL K H p (l.map V.str)) (hq : SqL K H q (m.map V.str)) (hl : ∀ z ∈ l, ∀ c ∈ TL.tl z, c < 1114112) (hm : ∀ z ∈ m, ∀ c ∈ TL.tl z, c < 1114112) : RV (rEqD K) (.ref p) (.ref q) H (.bl (decide (l = m))) := by
  rw [← eqv_lstrs]
  exact rv_eqD (fun H1 e => dp_strs (ex_l e hp)) (fun H1 e => dp_strs (ex_l e hq)) (shaped_strs hl) (shaped_strs hm)
theorem rv_neS {p q : Addr} {l m : List Str} (hp : SqL K H p (l.map V.str)) (hq : SqL K H q (m.map V.str)) (hl : ∀ z ∈ l, ∀ c ∈ TL.tl z, c < 1114112) (hm : ∀ z ∈ m, ∀ c ∈ TL.tl z, c < 1114112) : RV (rNeD K) (.ref p) (.ref q) H (.bl (!decide (l = m))) := by
  rw [← eqv_lstrs]
  exact rv_neD (fun H1 e => dp_strs (ex_l e hp)) (fun H1 e => dp_strs (ex_l e hq)) (shaped_strs hl) (shaped_strs hm)
theorem rv_eqI {p q : Addr} {l m : List Int} (hp : SqL K H p (l.map V.int)) (hq : SqL K H q (m.map V.int)) : RV (rEqD K) (.ref p) (.ref q) H (.bl (decide (l = m))) := by
  rw [← eqv_lints]
  exact rv_eqD (fun H1 e => dp_ints (ex_l e hp)) (fun H1 e => dp_ints (ex_l e hq)) (shaped_ints _) (shaped_ints _)
theorem rv_neI {p q : Addr} {l m : List Int} (hp : SqL K H p (l.map V.int)) (hq : SqL K H q (m.map V.int)) : RV (rNeD K) (.ref p) (.ref q) H (.bl (!decide (l = m))) := by
  rw [← eqv_lints]
  exact rv_neD (fun H1 e => dp_ints (ex_l e hp)) (fun H1 e => dp_ints (ex_l e hq)) (shaped_ints _) (shaped_ints _)
end
/-- the texts of the law -/
def Txs (z : Str) : Prop := ∀ c ∈ TL.tl z, Ts c
theorem Ts.lt {c : Nat} (h : Ts c) : c < 1114112 := by
  rcases h with h | h | ⟨h, h2⟩ <;> omega
theorem Txs.lt {z : Str} (h : Txs z) : ∀ c ∈ TL.tl z, c < 1114112 := fun c hc => (h c hc).lt
theorem Txs.app {x y : Str} (h : Txs x) (k : Txs y) : Txs (x ++ y) := fun c hc => by
  rw [TL.tl_append] at hc
  rcases List.mem_append.mp hc with hc | hc
  · exact h c hc
  · exact k c hc
theorem len_app (x y : Str) : (x ++ y).length = x.length + y.length := by
  rw [TL.len_tl, TL.len_tl, TL.len_tl, TL.tl_append, List.length_append]
theorem tl_one (c : Nat) : TL.tl ⟨#[c]⟩ = [c] := rfl
theorem txs_one {c : Nat} (h : Ts c) : Txs ⟨#[c]⟩ := fun d hd => by
  rw [tl_one] at hd
  rw [List.mem_singleton.mp hd]
  exact h
theorem blank_eq : Str.ofString " " = ⟨#[32]⟩ := by decide +kernel
theorem lf_eq : Str.ofString "\n" = ⟨#[10]⟩ := by decide +kernel
theorem none_eq : Str.ofString "" = Str.empty := by decide +kernel
section
variable {σ : L2.St} {H : Hp}
theorem ev_blank : Ev (tC (.str (Str.ofString " "))) σ H (.str ⟨#[32]⟩) := ev_is ev_c (congrArg V.str blank_eq)
theorem ev_lf : Ev (tC (.str (Str.ofString "\n"))) σ H (.str ⟨#[10]⟩) := ev_is ev_c (congrArg V.str lf_eq)
theorem ev_none : Ev (tC (.str (Str.ofString ""))) σ H (.str Str.empty) := ev_is ev_c (congrArg V.str none_eq)
end
/-! ### the words of a text -/
theorem step_fst {ws : List Str} {u : Str} {c : Nat} : (KWd.step (ws, u) c).1.length ≤ ws.length + 1 ∧ (KWd.step (ws, u) c).2.length ≤ u.length + 1 := by
  unfold KWd.step
  split
  · split
    · exact ⟨Nat.le_succ _, Nat.le_succ _⟩
    · exact ⟨by rw [List.length_append] <;> exact Nat.le_refl _, Nat.zero_le _⟩
  · exact ⟨Nat.le_succ _, by rw [len_app] <;> exact Nat.le_refl _⟩
/-- what the fold keeps of words: no more signs than were read, each a sign of the text that is no blank -/
structure Cut (n : Nat) (S : Nat → Prop) (st : KWd.St) : Prop where
  few : st.1.length ≤ n
  short : st.2.length ≤ n
  all : (st.1.map (·.length)).sum + st.2.length ≤ n
  ws : ∀ z ∈ st.1, z.length ≠ 0 ∧ ∀ c ∈ TL.tl z, S c ∧ Unicode.isSpace c = false
  us : ∀ c ∈ TL.tl st.2, S c ∧ Unicode.isSpace c = false
theorem Cut.zero {S : Nat → Prop} : Cut 0 S ([], Str.empty) := ⟨Nat.le_refl _, Nat.le_refl _, Nat.le_refl _, fun _ h => by simp at h, fun _ h => by simp [TL.tl, Str.empty] at h⟩
theorem Cut.step {n : Nat} {S : Nat → Prop} {st : KWd.St} (h : Cut n S st) {c : Nat} (hc : S c) : Cut (n + 1) S (KWd.step st c) := by
  obtain ⟨ws, u⟩ := st
  obtain ⟨h1, h2, h3, h4, h5⟩ := h
  simp only at h1 h2 h3 h4 h5
  unfold KWd.step
  split
  · split
    · exact ⟨by simp only; omega, by simp only; omega, by simp only; omega, h4, h5⟩
    · rename_i hs hu
      refine ⟨by simp only [List.length_append, List.length_singleton]; omega, Nat.zero_le _, ?_, fun z hz => ?_, fun d hd => by simp [TL.tl, Str.empty] at hd⟩
      · simp only [List.map_append, List.map_cons, List.map_nil, List.sum_append, List.sum_cons, List.sum_nil]
        show _ + (u.length + 0) + 0 ≤ _
        omega
      · rcases List.mem_append.mp hz with hz | hz
        · exact h4 z hz
        · rw [List.mem_singleton.mp hz]
          exact ⟨hu, h5⟩
  · rename_i hs
    refine ⟨by simp only; omega, ?_, ?_, h4, fun d hd => ?_⟩
    · simp only [len_app]
      show u.length + 1 ≤ n + 1
      omega
    · simp only [len_app]
      show _ + (u.length + 1) ≤ n + 1
      omega
    · simp only at hd
      rw [TL.tl_append, tl_one] at hd
      rcases List.mem_append.mp hd with hd | hd
      · exact h5 d hd
      · rw [List.mem_singleton.mp hd]
        exact ⟨hc, by cases e : Unicode.isSpace c <;> simp_all⟩
theorem cut_fold {S : Nat → Prop} : ∀ (l : List Nat) (n : Nat) (st : KWd.St), Cut n S st → (∀ c ∈ l, S c) → Cut (n + l.length) S (l.foldl KWd.step st)
  | [], _, _, h, _ => h
  | c :: r, n, st, h, hs => by
    rw [List.foldl_cons, List.length_cons, show n + (r.length + 1) = n + 1 + r.length by omega]
    exact cut_fold r (n + 1) _ (h.step (hs c (List.mem_cons_self ..))) fun d hd => hs d (List.mem_cons_of_mem _ hd)
/-- words of a text of the law: none empty, of signs of words alone, no more of them than signs -/
theorem words_ok {z : Str} (h : Txs z) : (Txt.words z).length ≤ z.length ∧ ((Txt.words z).map (·.length)).sum ≤ z.length ∧ ∀ y ∈ Txt.words z, y.length ≠ 0 ∧ ∀ c ∈ TL.tl y, Ws c := by
  have q := cut_fold (S := Ts) (TL.tl z) 0 ([], Str.empty) Cut.zero h
  rw [Nat.zero_add, ← TL.len_tl] at q
  rw [KWd.words_scan]
  have hw : ∀ y : Str, (∀ c ∈ TL.tl y, Ts c ∧ Unicode.isSpace c = false) → ∀ c ∈ TL.tl y, Ws c := fun y hy c hc => by
    obtain ⟨t, s⟩ := hy c hc
    rcases t with t | t | t
    · rw [t, space_32] at s; cases s
    · rw [t, space_10] at s; cases s
    · exact t
  unfold KWd.fin KWd.scan
  revert q
  generalize z.cps.toList.foldl KWd.step ([], Str.empty) = st
  intro q
  split
  · exact ⟨q.few, by have := q.all; omega, fun y hy => ⟨(q.ws y hy).1, hw y (q.ws y hy).2⟩⟩
  · rename_i hu
    refine ⟨?_, ?_, fun y hy => ?_⟩
    · rw [List.length_append]
      have h1 := q.all
      have h2 : st.1.length ≤ (st.1.map (·.length)).sum := by
        have h4 := q.ws
        revert h4
        generalize st.1 = l
        intro h4
        induction l with
        | nil => exact Nat.le_refl _
        | cons a r ih =>
          have ha := (h4 a (List.mem_cons_self ..)).1
          have hr := ih fun y hy => h4 y (List.mem_cons_of_mem _ hy)
          rw [List.map_cons, List.sum_cons, List.length_cons]
          omega
      show st.1.length + 1 ≤ _
      omega
    · rw [List.map_append, List.sum_append]
      have h1 := q.all
      show _ + (st.2.length + 0) ≤ _
      omega
    · rcases List.mem_append.mp hy with hy | hy
      · exact ⟨(q.ws y hy).1, hw y (q.ws y hy).2⟩
      · rw [List.mem_singleton.mp hy]
        exact ⟨hu, hw _ q.us⟩
theorem mul_txs {z : Str} (h : Txs z) (k : Int) : Txs (Txt.mul z k) := fun c hc => by
  unfold Txt.mul at hc
  split at hc
  · simp [TL.tl, Str.empty] at hc
  · split at hc
    · exact h c hc
    · have go : ∀ (n : Nat) (acc : Array Nat), (∀ d ∈ acc.toList, Ts d) → ∀ d ∈ ((List.replicate n z.cps).foldl (· ++ ·) acc).toList, Ts d := by
        intro n
        induction n with
        | zero => exact fun acc ha => ha
        | succ n ih =>
          intro acc ha
          rw [List.replicate_succ, List.foldl_cons]
          refine ih _ fun d hd => ?_
          rw [Array.toList_append] at hd
          rcases List.mem_append.mp hd with hd | hd
          · exact ha d hd
          · exact h d hd
      exact go _ _ (fun d hd => by simp at hd) c hc
/-! ### a list of lists of texts, made behind H0 -/
def LLs (H0 H : Hp) (l : Addr) (ex : List Addr) (pss : List (List Str)) : Prop := H0 l = none ∧ ∃ ps : List (Addr × List Str), pss = ps.map (·.2) ∧ H l = some (.lst (ps.map fun x => V.ref x.1)) ∧ (l :: ps.map (·.1)).Nodup ∧
  (∀ x ∈ ps, H0 x.1 = none ∧ H x.1 = some (.lst (x.2.map V.str))) ∧ ∀ b ∈ ex, b ≠ l ∧ ∀ x ∈ ps, b ≠ x.1
theorem LLs.mono {H0 H H' : Hp} {l : Addr} {ex : List Addr} {pss : List (List Str)} (h : LLs H0 H l ex pss) (e : Ex H H') : LLs H0 H' l ex pss := by
  obtain ⟨h0, ps, h1, h2, h3, h4, h5⟩ := h
  exact ⟨h0, ps, h1, e _ _ h2, h3, fun x hx => ⟨(h4 x hx).1, e _ _ (h4 x hx).2⟩, h5⟩
/-- an address of ex is written -/
theorem LLs.other {H0 H : Hp} {l b : Addr} {ex : List Addr} {pss : List (List Str)} {o : HO} (h : LLs H0 H l ex pss) (hb : b ∈ ex) : LLs H0 (upd H b o) l ex pss := by
  obtain ⟨h0, ps, h1, h2, h3, h4, h5⟩ := h
  refine ⟨h0, ps, h1, ?_, h3, fun x hx => ⟨(h4 x hx).1, ?_⟩, h5⟩
  · rw [upd_ne (h5 b hb).1.symm]
    exact h2
  · rw [upd_ne ((h5 b hb).2 x hx).symm]
    exact (h4 x hx).2
/-- a new list q, laid behind Hb, is put behind -/
theorem LLs.push {H0 Hb H : Hp} {l q : Addr} {ex : List Addr} {pss : List (List Str)} {w : List Str} (h : LLs H0 Hb l ex pss) (hq : Hb q = none) (e : Ex Hb H) (e0 : Ex H0 Hb) (hw : H q = some (.lst (w.map V.str))) (hex : ∀ b ∈ ex, Hb b ≠ none) :
    ∃ vs, H l = some (.lst vs) ∧ vs.length = pss.length ∧ LLs H0 (upd H l (.lst (vs ++ [V.ref q]))) l ex (pss ++ [w]) := by
  obtain ⟨h0, ps, h1, h2, h3, h4, h5⟩ := h
  have nql : q ≠ l := fun z => by rw [z, h2] at hq; cases hq
  have nqp : ∀ x ∈ ps, x.1 ≠ q := fun x hx z => by rw [← z, (h4 x hx).2] at hq; cases hq
  have nlp : ∀ x ∈ ps, x.1 ≠ l := fun x hx z => (List.nodup_cons.mp h3).1 (by rw [← z]; exact List.mem_map_of_mem hx)
  refine ⟨_, e _ _ h2, by rw [h1, List.length_map, List.length_map], h0, ps ++ [(q, w)], by rw [h1, List.map_append] <;> rfl, by rw [upd_same, List.map_append] <;> rfl, ?_, fun x hx => ?_, fun b hb => ⟨(h5 b hb).1, fun x hx => ?_⟩⟩
  · rw [List.map_append, ← List.cons_append]
    refine List.nodup_append.mpr ⟨h3, by simp, fun a ha b hb => ?_⟩
    rw [List.map_cons, List.map_nil, List.mem_singleton] at hb
    rw [hb]
    rcases List.mem_cons.mp ha with ha | ha
    · rw [ha]
      exact nql.symm
    · obtain ⟨x, hx, rfl⟩ := List.mem_map.mp ha
      exact nqp x hx
  · rcases List.mem_append.mp hx with hx | hx
    · rw [upd_ne (nlp x hx)]
      exact ⟨(h4 x hx).1, e _ _ (h4 x hx).2⟩
    · rw [List.mem_singleton.mp hx, upd_ne nql]
      exact ⟨fresh_back e0 hq, hw⟩
  · rcases List.mem_append.mp hx with hx | hx
    · exact (h5 b hb).2 x hx
    · rw [List.mem_singleton.mp hx]
      exact fun z => hex b hb (by rw [z]; exact hq)
/-- the last one -/
theorem LLs.last {H0 H : Hp} {l : Addr} {ex : List Addr} {pss : List (List Str)} (h : LLs H0 H l ex pss) (hn : pss ≠ []) :
    ∃ vs p xs, H l = some (.lst vs) ∧ atI vs (-1) = some (.ref p) ∧ H p = some (.lst (xs.map V.str)) ∧ pss = pss.dropLast ++ [xs] ∧ H0 p = none ∧ (∀ b ∈ ex, b ≠ p) ∧
      ∀ H' ys, Ex H H' → LLs H0 (upd H' p (.lst (xs.map V.str ++ ys.map V.str))) l ex (pss.dropLast ++ [xs ++ ys]) := by
  obtain ⟨h0, ps, h1, h2, h3, h4, h5⟩ := h
  have hps : ps ≠ [] := fun z => hn (by rw [h1, z] <;> rfl)
  obtain ⟨r, x, rfl⟩ : ∃ r x, ps = r ++ [x] := ⟨_, _, (List.dropLast_concat_getLast hps).symm⟩
  have hx := h4 x (List.mem_append_right _ (List.mem_singleton.mpr rfl))
  have hdl : pss.dropLast = r.map (·.2) := by
    rw [h1, List.map_append]
    exact List.dropLast_concat
  have nxl : x.1 ≠ l := fun z => (List.nodup_cons.mp h3).1 (by rw [← z]; exact List.mem_map_of_mem (List.mem_append_right _ (List.mem_singleton.mpr rfl)))
  have nrx : ∀ y ∈ r, y.1 ≠ x.1 := fun y hy z => by
    have q := (List.nodup_cons.mp h3).2
    rw [List.map_append] at q
    exact (List.nodup_append.mp q).2.2 y.1 (List.mem_map_of_mem hy) x.1 (List.mem_singleton.mpr rfl) z
  refine ⟨_, x.1, x.2, h2, by rw [List.map_append]; exact atI_last _ _, hx.2, by rw [hdl, h1, List.map_append] <;> rfl, hx.1, fun b hb => (h5 b hb).2 x (List.mem_append_right _ (List.mem_singleton.mpr rfl)), fun H' ys e => ⟨h0, r ++ [(x.1, x.2 ++ ys)], ?_, ?_, ?_, fun y hy => ?_, fun b hb => ⟨(h5 b hb).1, fun y hy => ?_⟩⟩⟩
  · rw [hdl, List.map_append] <;> rfl
  · rw [upd_ne nxl.symm, e _ _ h2, List.map_append, List.map_append] <;> rfl
  · rw [List.map_append] at h3 ⊢
    exact h3
  · rcases List.mem_append.mp hy with hy | hy
    · rw [upd_ne (nrx y hy)]
      exact ⟨(h4 y (List.mem_append_left _ hy)).1, e _ _ (h4 y (List.mem_append_left _ hy)).2⟩
    · rw [List.mem_singleton.mp hy]
      refine ⟨hx.1, ?_⟩
      rw [upd_same, List.map_append]
  · rcases List.mem_append.mp hy with hy | hy
    · exact (h5 b hb).2 y (List.mem_append_left _ hy)
    · rw [List.mem_singleton.mp hy]
      exact (h5 b hb).2 x (List.mem_append_right _ (List.mem_singleton.mpr rfl))
/-- the k-th one -/
theorem LLs.at {H0 H : Hp} {l : Addr} {ex : List Addr} {pss : List (List Str)} (h : LLs H0 H l ex pss) {k : Nat} {xs : List Str} (hk : pss[k]? = some xs) :
    ∃ vs p, H l = some (.lst vs) ∧ vs.length = pss.length ∧ vs[k]? = some (.ref p) ∧ H p = some (.lst (xs.map V.str)) := by
  obtain ⟨h0, ps, h1, h2, h3, h4, h5⟩ := h
  rw [h1, List.getElem?_map] at hk
  obtain ⟨x, hx, rfl⟩ := Option.map_eq_some_iff.mp hk
  exact ⟨_, x.1, h2, by rw [h1, List.length_map, List.length_map], by rw [List.getElem?_map, hx] <;> rfl, (h4 x (List.mem_of_getElem? hx)).2⟩
theorem LLs.lst {H0 H : Hp} {l : Addr} {ex : List Addr} {pss : List (List Str)} (h : LLs H0 H l ex pss) : ∃ vs, H l = some (.lst vs) ∧ vs.length = pss.length := by
  obtain ⟨h0, ps, h1, h2, h3, h4, h5⟩ := h
  exact ⟨_, h2, by rw [h1, List.length_map, List.length_map]⟩
section
variable {K : PySem.W.Frag} {σ : L2.St} {H H' : Hp} {ta tb te tx : TE} {D : Ends} {tz : TS} {v : V}
theorem et_tru {p : Addr} {xs : List V} (h : Ev te σ H (.ref p)) (hs : SqL K H p xs) : EvT (fun σ H Q => te σ H fun x H' => ∃ k, TruV K x H' k ∧ Q k H') σ H (!xs.isEmpty) := fun H1 e _ q => h H1 e _ fun H2 e2 => ⟨_, .inl ⟨xs, ex_l (e.trans e2) hs, rfl⟩, q H2 e2⟩
theorem ev_notT {p : Addr} {xs : List V} (h : Ev te σ H (.ref p)) (hs : SqL K H p xs) : Ev (tNotT K te) σ H (.bl (!!xs.isEmpty)) := fun H1 e _ q => h H1 e _ fun H2 e2 => ⟨_, .inl ⟨xs, ex_l (e.trans e2) hs, rfl⟩, q H2 e2⟩
/-- xs.extend(ys) -/
theorem s_ext {l b : Addr} {xs zs : List V} (hl : H l = some (.lst xs)) (hb : H b = some (.lst zs)) (ha : Ev ta σ H (.ref l)) (h : Ev te σ H (.ref b)) (hz : xs.length + zs.length ≤ 100000) (k : ∀ H1, Ex H H1 → D.nx σ (upd H1 l (.lst (xs ++ zs)))) :
    tDrop (tBM K "list" rExtend ta (tCons te tNil)) D σ H := ha H (Ex.refl H) _ fun H1 e1 =>
  ⟨Or.inl ⟨rfl, xs, sq_of (e1 l _ hl)⟩, h H1 e1 _ fun H2 e2 => ⟨l, b, xs, zs, rfl, rfl, e2 l _ (e1 l _ hl), e2 b _ (e1 b _ hb), sz_of hz, k H2 (e1.trans e2)⟩⟩
/-- a text cut -/
theorem el_split {a b : Str} (ha : Ev ta σ H (.str a)) (hb : Ev tb σ H (.str b)) (h0 : (b.length == 0) = false) (hl : a.length ≤ 90000) :
    EvL (tM1 (fun x xs H Q => ∃ a b, x = .str a ∧ xs = [.str b] ∧ (b.length == 0) = false ∧ a.length + 2 ≤ sizeLine ∧ rNewStrs (Txt.split a b) H Q) ta tb) σ H ((Txt.split a b).map V.str) :=
  fun H1 e Q q => ha H1 e _ fun H2 e2 => ⟨⟨a, rfl⟩, hb H2 (e.trans e2) _ fun H3 e3 => ⟨a, b, rfl, rfl, h0, sz_of (by omega), fun p hp => q p _ (fresh_back (e2.trans e3) hp) ((e2.trans e3).trans (Ex.new hp)) upd_same⟩⟩
end
/-! ### joined, cut: signs and sizes -/
theorem joinL_mem (S : List Nat) : ∀ (ps : List (List Nat)) (c : Nat), c ∈ TL.joinL S ps → c ∈ S ∨ ∃ p ∈ ps, c ∈ p
  | [], _, h => absurd h (List.not_mem_nil)
  | [p], _, h => .inr ⟨p, List.mem_cons_self .., h⟩
  | p :: q :: r, c, h => by
    have h' : c ∈ p ++ (S ++ TL.joinL S (q :: r)) := h
    rcases List.mem_append.mp h' with h1 | h1
    · exact .inr ⟨p, List.mem_cons_self .., h1⟩
    · rcases List.mem_append.mp h1 with h2 | h2
      · exact .inl h2
      · rcases joinL_mem S (q :: r) c h2 with h3 | ⟨x, hx, h3⟩
        · exact .inl h3
        · exact .inr ⟨x, List.mem_cons_of_mem _ hx, h3⟩
theorem joinL_len (S : List Nat) : ∀ ps : List (List Nat), (TL.joinL S ps).length + (if ps = [] then 0 else S.length) = (ps.map List.length).sum + ps.length * S.length
  | [] => by simp [TL.joinL]
  | [p] => by simp [TL.joinL]
  | p :: q :: r => by
    have ih := joinL_len S (q :: r)
    rw [if_neg (by simp)] at ih
    show (p ++ (S ++ TL.joinL S (q :: r))).length + _ = _
    rw [if_neg (by simp), List.length_append, List.length_append, List.map_cons, List.sum_cons, List.length_cons, Nat.succ_mul]
    omega
theorem txs_join {y : Str} {ps : List Str} (hy : Txs y) (hp : ∀ p ∈ ps, Txs p) : Txs (Txt.join y ps) := fun c hc => by
  rw [TL.join_eq, TL.tl_join] at hc
  rcases joinL_mem _ _ c hc with h | ⟨p, h, h2⟩
  · exact hy c h
  · obtain ⟨z, hz, rfl⟩ := List.mem_map.mp h
    exact hp z hz c h2
theorem len_join (y : Str) (ps : List Str) : (Txt.join y ps).length + (if ps = [] then 0 else y.length) = (ps.map (·.length)).sum + ps.length * y.length := by
  have h := joinL_len (TL.tl y) (ps.map TL.tl)
  rw [← TL.tl_join, ← TL.join_eq, ← TL.len_tl, ← TL.len_tl, List.length_map, List.map_map] at h
  have e : (List.length ∘ TL.tl) = fun z : Str => z.length := by
    funext z
    exact (TL.len_tl z).symm
  rw [e] at h
  rw [← h]
  cases ps <;> simp
theorem len_join0 (ps : List Str) : (Txt.join Str.empty ps).length = (ps.map (·.length)).sum := by
  have h := len_join Str.empty ps
  rw [show Str.empty.length = 0 from rfl, Nat.mul_zero] at h
  cases ps <;> simp at h ⊢ <;> omega
theorem txs_empty : Txs Str.empty := fun c hc => by simp [TL.tl, Str.empty] at hc
/-- a text cut at the line ends -/
theorem spl_len : ∀ (l acc : List Nat), ((TL.spl [10] 0 acc l).map List.length).sum + (TL.spl [10] 0 acc l).length = acc.length + l.length + 1
  | [], acc => by rw [TL.spl_nil]; simp
  | c :: l, acc => by
    by_cases hc : c = 10
    · have e : TL.spl [10] 0 acc (c :: l) = acc :: TL.spl [10] 0 [] l := TL.spl_hit (by rw [hc]; rfl)
      rw [e, List.map_cons, List.sum_cons, List.length_cons]
      have ih := spl_len l []
      rw [List.length_nil] at ih
      rw [List.length_cons]
      omega
    · rw [TL.spl_miss (by
        show (([c] : List Nat) == [10]) = false
        rw [beq_eq_false_iff_ne]
        exact fun q => hc (List.cons.inj q).1)]
      have ih := spl_len l (acc ++ [c])
      rw [List.length_append, List.length_singleton] at ih
      rw [List.length_cons]
      omega
theorem spl_mem : ∀ (l acc y : List Nat) (c : Nat), y ∈ TL.spl [10] 0 acc l → c ∈ y → c ∈ acc ∨ c ∈ l
  | [], acc, y, c, h, hc => by
    rw [TL.spl_nil] at h
    rw [List.mem_singleton.mp h] at hc
    exact .inl hc
  | d :: l, acc, y, c, h, hc => by
    by_cases hd : d = 10
    · rw [TL.spl_hit (by rw [hd]; rfl)] at h
      rcases List.mem_cons.mp h with h | h
      · rw [h] at hc
        exact .inl hc
      · rcases spl_mem l [] y c h hc with q | q
        · exact absurd q (List.not_mem_nil)
        · exact .inr (List.mem_cons_of_mem _ q)
    · rw [TL.spl_miss (by
        show (([d] : List Nat) == [10]) = false
        rw [beq_eq_false_iff_ne]
        exact fun q => hd (List.cons.inj q).1)] at h
      rcases spl_mem l (acc ++ [d]) y c h hc with q | q
      · rcases List.mem_append.mp q with q | q
        · exact .inl q
        · rw [List.mem_singleton.mp q]
          exact .inr (List.mem_cons_self ..)
      · exact .inr (List.mem_cons_of_mem _ q)
def lfS : Str := ⟨#[10]⟩
theorem split_rows (z : Str) : (Txt.split z lfS).map TL.tl = TL.spl [10] 0 [] (TL.tl z) := TL.split_spl z lfS (by decide) (TL.kind_ok (by decide +kernel))
theorem rows_len (z : Str) : ((Txt.split z lfS).map (·.length)).sum + (Txt.split z lfS).length = z.length + 1 := by
  have h := spl_len (TL.tl z) []
  rw [← split_rows, List.length_map, List.map_map] at h
  have e : (List.length ∘ TL.tl) = fun z : Str => z.length := by
    funext z
    exact (TL.len_tl z).symm
  rw [e, ← TL.len_tl, List.length_nil, Nat.zero_add] at h
  exact h
theorem rows_txs {z : Str} (h : Txs z) : ∀ y ∈ Txt.split z lfS, Txs y := fun y hy c hc => by
  have hm : TL.tl y ∈ TL.spl [10] 0 [] (TL.tl z) := by
    rw [← split_rows]
    exact List.mem_map_of_mem hy
  rcases spl_mem _ _ _ c hm hc with q | q
  · exact absurd q (List.not_mem_nil)
  · exact h c q
section
variable {K : PySem.W.Frag} {σ : L2.St} {H H' : Hp} {ta tb te tx : TE} {D : Ends} {tz : TS} {v : V}
theorem el_is {xs ys : List V} (h : EvL te σ H xs) (e : xs = ys) : EvL te σ H ys := by
  rw [← e]
  exact h
theorem given_all (n : Nat) (v : Nat → V) : given n (fun _ => true) v = (List.range n).map v := by
  unfold given
  rw [List.filter_eq_self.mpr fun _ _ => rfl]
theorem et_yes : EvT tYes σ H true := fun H1 _ _ q => q H1 (Ex.refl H1)
/-- [e for k in range(n)] -/
theorem el_lcR {ta : TA} {j : Nat} {vs : List Nat} {n : Int} (v : Nat → V) (h : EvA ta σ H [.int n]) (hn : 0 ≤ n ∧ n ≤ 40000) (hw : ∀ x, wipe ((wipe σ vs).set j (some x)) vs = wipe σ vs)
    (he : ∀ (i : Nat) H1, Ex H H1 → (i : Int) < n → Ev te ((wipe σ vs).set j (some (.int (i : Int)))) H1 (v i)) : EvL (tLc (iRng1 ta) (gName j) tYes te vs) σ H ((List.range n.toNat).map v) :=
  el_is (el_lcR1 (fun _ => true) v h hn hw (fun _ _ _ _ => et_yes) fun i H1 e hi _ => he i H1 e hi) (given_all _ _)
/-- [e for x in l] -/
theorem el_lcX {a : Addr} {xs : List V} {tl : TE} {j : Nat} {vs : List Nat} (v : Nat → V) (h : Ev tl σ H (.ref a)) (hx : SqL K H a xs) (hz : xs.length ≤ 40000) (hw : ∀ x, wipe ((wipe σ vs).set j (some x)) vs = wipe σ vs)
    (he : ∀ (i : Nat) (x : V) H1, Ex H H1 → xs[i]? = some x → Ev te ((wipe σ vs).set j (some x)) H1 (v i)) : EvL (tLc (iList K tl) (gName j) tYes te vs) σ H ((List.range xs.length).map v) :=
  el_is (el_lcL (fun _ => true) v h hx hz hw (fun _ _ _ _ _ => et_yes) fun i x H1 e hi _ => he i x H1 e hi) (given_all _ _)
end
section
variable {σ : L2.St} {H : Hp} {D : Ends} {tz : TS}
/-- x = f(..), the arguments told by what they give -/
theorem q_asgP {ta : TA} {sp : Sp} {dvs : List V} {E : XK} {i : Nat} {P : List V → Hp → Prop} (h : ArgP ta σ H P) (k : ∀ vs H1, Ex H H1 → P vs H1 → sp (vs ++ dvs) H1 (fun v H2 => tz D (σ.set i (some v)) H2) E) : tSeq (tAsg (tCall sp dvs E ta) (gName i)) tz D σ H := h H (Ex.refl H) _ k
/-- x = f(..), told by f's own promise -/
theorem q_asgA {ta : TA} {sp : Sp} {dvs vs : List V} {E : XK} {i : Nat} (h : EvA ta σ H vs) (k : ∀ H1, Ex H H1 → sp (vs ++ dvs) H1 (fun v H2 => tz D (σ.set i (some v)) H2) E) : tSeq (tAsg (tCall sp dvs E ta) (gName i)) tz D σ H := h H (Ex.refl H) _ k
end
theorem LLs.drop {H0 H : Hp} {l : Addr} {ex : List Addr} {pss : List (List Str)} (h : LLs H0 H l ex pss) : LLs H0 H l [] pss := by
  obtain ⟨h0, ps, h1, h2, h3, h4, h5⟩ := h
  exact ⟨h0, ps, h1, h2, h3, h4, fun b hb => absurd hb (List.not_mem_nil)⟩
theorem LLs.zero {H0 H : Hp} {l : Addr} {ex : List Addr} (h0 : H0 l = none) (h : H l = some (.lst [])) (hex : ∀ b ∈ ex, b ≠ l) : LLs H0 H l ex [] :=
  ⟨h0, [], rfl, h, by simp, fun x hx => absurd hx (List.not_mem_nil), fun b hb => ⟨hex b hb, fun x hx => absurd hx (List.not_mem_nil)⟩⟩
/-! ### enumerate, tuples, sums -/
section
variable {K : PySem.W.Frag} {σ : L2.St} {H H' : Hp} {ta tb te tx : TE} {D : Ends} {tu tz : TS} {v : V}
theorem s_forE {ta : TA} {a : Addr} {xs : List V} {j1 j2 : Nat} (h : EvA ta σ H [.ref a]) (hx : SqL K H a xs) (Pv : Nat → L2.St → Hp → Prop) (h0 : ∀ H1, Ex H H1 → Pv 0 σ H1) (hl : ∀ i σ' H', i ≤ xs.length → Pv i σ' H' → SqL K H' a xs)
    (hs : ∀ i x σ' H' H2, xs[i]? = some x → Pv i σ' H' → Ex H' H2 → tu { D with nx := Pv (i + 1), ct := Pv (i + 1), bk := D.nx } ((σ'.set j1 (some (.int (i : Int)))).set j2 (some x)) H2) (hd : ∀ σ' H', Pv xs.length σ' H' → D.nx σ' H') :
    tFor (iEnum K ta) (gTup K 2 (gCons (gName j1) (gCons (gName j2) gNil))) tu D σ H :=
  h H (Ex.refl H) _ fun H1 e => ⟨a, xs, rfl, ex_l e hx, for_it walk_enum Pv (h0 H1 e) hl (fun i x σ' H' H'' hi p y => by
    obtain ⟨T, x1, x2, rfl, hT, rfl, hx1, hx2⟩ := y
    cases hx1
    exact ⟨T, _, rfl, .inl (.inl upd_same), rfl, _, _, rfl, _, _, rfl, rfl, hs i x2 σ' H' _ hx2 p (Ex.new hT)⟩) hd⟩
theorem q_forE {ta : TA} {a : Addr} {xs : List V} {j1 j2 : Nat} (h : EvA ta σ H [.ref a]) (hx : SqL K H a xs) (Pv : Nat → L2.St → Hp → Prop) (h0 : ∀ H1, Ex H H1 → Pv 0 σ H1) (hl : ∀ i σ' H', i ≤ xs.length → Pv i σ' H' → SqL K H' a xs)
    (hs : ∀ i x σ' H' H2, xs[i]? = some x → Pv i σ' H' → Ex H' H2 → tu { D with nx := Pv (i + 1), ct := Pv (i + 1), bk := tz D } ((σ'.set j1 (some (.int (i : Int)))).set j2 (some x)) H2) (hd : ∀ σ' H', Pv xs.length σ' H' → tz D σ' H') :
    tSeq (tFor (iEnum K ta) (gTup K 2 (gCons (gName j1) (gCons (gName j2) gNil))) tu) tz D σ H := s_forE (D := { D with nx := tz D }) h hx Pv h0 hl hs hd
theorem el_cat {l : Addr} {xs ys : List V} (ha : Ev ta σ H (.ref l)) (hl : H l = some (.lst xs)) (hb : EvL tb σ H ys) (hz : xs.length + ys.length ≤ 100000) : EvL (tOp rCat ta tb) σ H (xs ++ ys) := fun H1 e Q q =>
  ha H1 e _ fun H2 e2 => hb H2 (e.trans e2) _ fun p H3 _ e3 hp => ⟨l, p, xs, ys, rfl, rfl, e3 _ _ (e2 _ _ (e _ _ hl)), hp, sz_of hz, fun r hr => q r _ (fresh_back (e2.trans e3) hr) ((e2.trans e3).trans (Ex.new hr)) upd_same⟩
theorem el_catN {xs ys : List V} (ha : EvL ta σ H xs) (hb : EvL tb σ H ys) (hz : xs.length + ys.length ≤ 100000) : EvL (tOp rCat ta tb) σ H (xs ++ ys) := fun H1 e Q q =>
  ha H1 e _ fun l H2 _ e2 hl => hb H2 (e.trans e2) _ fun p H3 _ e3 hp => ⟨l, p, xs, ys, rfl, rfl, e3 _ _ hl, hp, sz_of hz, fun r hr => q r _ (fresh_back (e2.trans e3) hr) ((e2.trans e3).trans (Ex.new hr)) upd_same⟩
theorem ev_sumN {ns : List Int} (h : EvL te σ H (ns.map V.int)) : Ev (tCB (rSum K) (tCons te tNil)) σ H (.int ns.sum) := fun H1 e Q q =>
  h H1 e _ fun p H2 _ e2 hp => ⟨p, ns, rfl, sq_of hp, q H2 e2⟩
theorem ev_maxx {i j : Int} (ha : Ev ta σ H (.int i)) (hb : Ev tb σ H (.int j)) : Ev (tCB (fun xs H Q => ∃ i j, xs = [.int i, .int j] ∧ Q (.int (if j > i then j else i)) H) (tCons ta (tCons tb tNil))) σ H (.int (max i j)) := by
  have e : max i j = if j > i then j else i := by
    by_cases h : j > i
    · rw [if_pos h]; omega
    · rw [if_neg h]; omega
  rw [e]
  exact ev_max2 ha hb
theorem rc_isInt {i : Int} : RC (rIsi K) [.int i, .ty "int"] H (.bl true) := rc_isi (.ty _) (fun _ _ => .base (.int i)) (kit_ty (by decide +kernel))
theorem rc_isIntB {i : Int} : RC (rIsi K) [.int i, .ty "bool"] H (.bl false) := rc_isi (.ty _) (fun _ _ => .base (.int i)) (kit_ty (by decide +kernel))
/-- f(..) alone, told by f's own promise -/
theorem q_dropA {ta : TA} {sp : Sp} {dvs vs : List V} {E : XK} (h : EvA ta σ H vs) (k : ∀ H1, Ex H H1 → sp (vs ++ dvs) H1 (fun _ H2 => tz D σ H2) E) : tSeq (tDrop (tCall sp dvs E ta)) tz D σ H := h H (Ex.refl H) _ k
theorem s_dropA {ta : TA} {sp : Sp} {dvs vs : List V} {E : XK} (h : EvA ta σ H vs) (k : ∀ H1, Ex H H1 → sp (vs ++ dvs) H1 (fun _ H2 => D.nx σ H2) E) : tDrop (tCall sp dvs E ta) D σ H := h H (Ex.refl H) _ k
/-- a list made anew of another -/
theorem el_listOf {p : Addr} {xs : List V} (ha : Ev ta σ H (.ref p)) (h : SqL K H p xs) : EvL (tCB (fun xs H Q => ∃ p ys, xs = [.ref p] ∧ (SqL K H p ys ∨ SqT K H p ys) ∧ ∀ l, H l = none → Q (.ref l) (upd H l (.lst ys))) (tCons ta tNil)) σ H xs := el_list ha h
end
/-! ### tuples made in a display, walked -/
section
variable {K : PySem.W.Frag} {σ : L2.St} {H H' : Hp} {D : Ends} {tu tz : TS}
/-- arguments that give new tuples -/
def ArgT (ta : TA) (σ : L2.St) (H : Hp) (pss : List (List V)) : Prop := ∀ H1, Ex H H1 → ∀ Q : List V → Hp → Prop, (∀ (as : List Addr) H2, Ex H1 H2 → as.length = pss.length → (∀ (i : Nat) (a : Addr) (xs : List V), as[i]? = some a → pss[i]? = some xs → H2 a = some (.tup xs)) → Q (as.map V.ref) H2) → ta σ H1 Q
theorem at_nil : ArgT tNil σ H [] := fun H1 _ Q q => q [] H1 (Ex.refl H1) rfl (fun i a xs h => by simp at h)
theorem at_cons {te : TE} {tr : TA} {xs : List V} {pss : List (List V)} (h : EvU te σ H xs) (hr : ArgT tr σ H pss) : ArgT (tCons te tr) σ H (xs :: pss) := fun H1 e Q q =>
  h H1 e _ fun p H2 _ e2 hp => hr H2 (e.trans e2) _ fun as H3 e3 hl ha => q (p :: as) H3 (e2.trans e3) (by rw [List.length_cons, List.length_cons, hl]) (fun i a ys h1 h2 => by
    cases i with
    | zero =>
      cases h1
      cases h2
      exact e3 _ _ hp
    | succ i => exact ha i a ys h1 h2)
theorem q_forTs {ta : TA} {j : Nat} {pss : List (List V)} (h : ArgT ta σ H pss) (hz : pss.length ≤ 100) (Pv : Hp → Nat → L2.St → Hp → Prop) (hE : ∀ B i σ' H', Pv B i σ' H' → Ex B H') (h0 : ∀ B, Ex H B → Pv B 0 σ B)
    (hs : ∀ B i a xs σ' H', pss[i]? = some xs → Pv B i σ' H' → H' a = some (.tup xs) → tu { D with nx := Pv B (i + 1), ct := Pv B (i + 1), bk := tz D } (σ'.set j (some (.ref a))) H') (hd : ∀ B σ' H', Pv B pss.length σ' H' → tz D σ' H') :
    tSeq (tFor (iList K (tLst ta)) (gName j) tu) tz D σ H := h H (Ex.refl H) _ fun as H1 e1 hl ha => by
  have hn : (as.map V.ref).length = pss.length := by rw [List.length_map, hl]
  refine ⟨by rw [hn]; exact sz_of (by omega), fun p hp => ⟨p, rfl, ⟨_, sq_of upd_same⟩, ?_⟩⟩
  have eB : Ex H (upd H1 p (.lst (as.map V.ref))) := e1.trans (Ex.new hp)
  refine for_list (K := K) (a := p) (xs := as.map V.ref) (D := { D with nx := tz D }) (Pv (upd H1 p (.lst (as.map V.ref)))) (h0 _ eB) (fun i σ' H' _ q => sq_of (hE _ _ _ _ q _ _ upd_same)) (fun i x σ' H' hi q => ?_) (fun σ' H' q => ?_)
  · rw [List.getElem?_map] at hi
    obtain ⟨a, hai, rfl⟩ := Option.map_eq_some_iff.mp hi
    have hil : i < pss.length := by
      have := (List.getElem?_eq_some_iff.mp hai).1
      omega
    have hxs : pss[i]? = some pss[i] := List.getElem?_eq_getElem hil
    have hta := ha i a _ hai hxs
    have nap : a ≠ p := fun z => by rw [z, hp] at hta; cases hta
    exact hs _ i a _ σ' H' hxs q (hE _ _ _ _ q _ _ (by rw [upd_ne nap]; exact hta))
  · rw [hn] at q
    exact hd _ σ' H' q
end
end Tw
set_option Elab.async false
set_option linter.all false
set_option maxRecDepth 100000
set_option maxHeartbeats 4000000
namespace Tw
open PySem PySem.Spec PyProof.Rows L2 L2H
/-! ### a list comprehension where an exception is handled -/
abbrev blkH (X : Cx) (s : Shared) (H : Hp) (scope : Scope) (cenv : Env) (fp : List Addr) : Cx := { X with s_0 := s, H_0 := H, env := cenv, outer := X.stack, ex := fp, fn := fun x => scope.names.lookup x == some .cell, xe := fun _ _ => False }
section
variable {X : Cx} {pins : List (Addr × Obj)} {σ : L2.St} {H : Hp} {s : Shared}
theorem inv_blkH {scope : Scope} {ce : Env} {fp : List Addr} {s3 s4 : Shared} {H3 : Hp} {σ4 : L2.St} (I3 : Inv X pins σ H3 s3) (hL : s3.heap.objs.size ≤ ce.locals) (hk : ∀ b o, s3.heap.get? b = some o → s4.heap.get? b = some o)
    (I4 : Inv (X.blk s3 H3 scope ce fp) [] σ4 H3 s4) : Inv (blkH X s3 H3 scope ce fp) [] σ4 H3 s4 := by
  have ok := I4.ok
  refine ⟨⟨ok.mod, ok.kind, ok.glob, ok.blt, ok.above, ok.inj, ok.has, ok.cab, ok.hd, ok.frames, ok.stk, ok.exf, ok.bs, ok.bsz, ok.noex, ok.exfs, ok.funs, ok.frf⟩, I4.os, I4.bare, I4.base, I4.loc, I4.cell, I4.free, I4.freeC, fun p hp => ?_, I4.hok, I4.len⟩
  have hp' : p ∈ X.pn := by
    rcases List.mem_append.mp hp with z | z
    · exact z
    · exact absurd z (List.not_mem_nil)
  obtain ⟨h1, h2, h3, h4, h5⟩ := I3.pin p (List.mem_append_left _ hp')
  refine ⟨hk _ _ h1, h2, Nat.ne_of_lt (Nat.lt_of_lt_of_le (Heap.lt_size h1) hL), fun z => ?_, h5⟩
  have z' : p.1 ∈ frs X.stack := z
  rcases I3.ok.stk with e | ⟨e, ef⟩
  · rw [e] at z'
    exact h4 z'
  · rw [e] at z'
    obtain ⟨q, hq, hf⟩ := List.mem_filterMap.mp z'
    rcases List.mem_cons.mp hq with hq | hq
    · rw [hq, ef] at hf
      exact h3 (Option.some.inj hf).symm
    · exact h4 (List.mem_filterMap.mpr ⟨q, hq, hf⟩)
theorem lcH_core {Q : VK} {elt tg iter : Expr} {ifs : List Expr} {scope : Scope} {own : List (Str × Nat)} {pos pos' : Pos} {wi : TI} {g : TG} {tt : TT} {te : TE} {use : Option (Value → Sem Unit)} {Qf : Value → Shared → Prop}
    (hc : HotC X) (hN : X.N.Nodup) (I : Inv X pins σ H s) (hi : PIH X tg iter wi) (ok : BlkOk X.N X.env.scope scope own)
    (hg : ∀ (s : Shared) (H : Hp) (C : Addr) (cl : List (Str × Addr)) (fp : List Addr), PG (blkH X s H scope (compEnvC scope cl C X.env) fp) tg g) (ht : ∀ (s : Shared) (H : Hp) (C : Addr) (cl : List (Str × Addr)) (fp : List Addr), PTs (blkH X s H scope (compEnvC scope cl C X.env) fp) ifs tt)
    (he : ∀ (s : Shared) (H : Hp) (C : Addr) (cl : List (Str × Addr)) (fp : List Addr), PE (blkH X s H scope (compEnvC scope cl C X.env) fp) elt te) (hs : ∀ x, foldedSetIterable iter X.env x = pure x)
    (h : tLc wi g tt te (own.map (·.2)) σ H Q)
    (hRR : ∀ D C s' m H', Inv X pins σ H' s' → Q (.ref D) H' → s'.heap.Ns C m → FpOk X pins H' C → compPost (model X.prog X.w) X.A X.xe use Qf (.ref D) C (.ok .next) s') :
    wpAny (model X.prog X.w) X.A (comprehension (.ListComp elt [⟨tg, iter, ifs, 0⟩] scope pos) scope X.env pos' (newList []) false (eval iter X.env) use) Qf X.xe s := by
  have hfree : ∀ y ∈ scope.names, y.2 = .free → ∃ c, X.env.cells.lookup y.1 = some c := fun y hy e => by
    rcases ok.free y hy e with k | k
    · exact I.ok.has _ (.inl k)
    · exact I.ok.has _ (.inr k)
  refine wpAny_comprehension_free (use := use) rfl hs (closure_ok hfree) ok.kind (fun y hy e => by rw [ok.uniq y hy, e])
    (thn (hi.run pins s σ H _ I h) fun xv s1 hx => thn hx fun itv s2 h2 => ?_)
  obtain ⟨it, fp, tn, J, H2, e, I2, T, st2, f2, q⟩ := h2
  subst e
  refine wpAny_newObj_type (newEnv_comp ?_) (by show 0 ≤ sizeLine; decide)
  generalize hD : s2.heap.objs.size = D
  have hDn : H2 D = none := I2.hok.fresh (Nat.le_of_eq hD)
  obtain ⟨W, ⟨m0, w0⟩, turn⟩ := q D hDn
  generalize hs3 : ({ s2 with heap := s2.heap.push { cls := .type "list", data := .seq ([] : List Value).toArray } } : Shared) = s3
  have I3 : Inv X pins σ (upd H2 D (.lst [])) s3 := by
    rw [← hs3]
    refine I2.laid (t' := s2.toks) (fun b o e => Heap.get?_push_of_some _ e) (Nat.le_of_eq hD) ⟨Nat.zero_le _, [], 0, .nil, ?_⟩
    rw [← hD]
    exact Heap.get?_push_size _ rfl
  have h3 : s3.heap = s2.heap.push { cls := .type "list", data := .seq ([] : List Value).toArray } := by rw [← hs3]
  have sz : ∀ b ∈ fp, b < s2.heap.objs.size := fun b hb => by
    obtain ⟨o, e, _⟩ := T.obj _ _ st2 b hb
    exact Heap.lt_size e
  have f3 : ∀ b ∈ fp, FpOk X pins (upd H2 D (.lst [])) b ∧ b < s3.heap.objs.size := fun b hb => by
    have hlt := sz b hb
    refine ⟨⟨?_, (f2 b hb).2⟩, by rw [h3, Heap.size_push]; exact Nat.lt_succ_of_lt hlt⟩
    rw [upd_ne (by rw [← hD]; exact Nat.ne_of_lt hlt)]
    exact (f2 b hb).1
  have st3 : tn 0 s3.heap := T.keep _ _ _ st2 fun b _ o e => by rw [h3]; exact Heap.get?_push_of_some _ e
  have I4 := block_start I3 ok hN f3
  have pg := hg s3 (upd H2 D (.lst [])) s3.heap.objs.size (cellsFrom (s3.heap.objs.size + 1) scope.names (cloFrom X.env.cells scope.names [])) fp
  have pt := ht s3 (upd H2 D (.lst [])) s3.heap.objs.size (cellsFrom (s3.heap.objs.size + 1) scope.names (cloFrom X.env.cells scope.names [])) fp
  have pe := he s3 (upd H2 D (.lst [])) s3.heap.objs.size (cellsFrom (s3.heap.objs.size + 1) scope.names (cloFrom X.env.cells scope.names [])) fp
  show codeAny _ _ (.compStart (.ListComp elt [⟨tg, iter, ifs, 0⟩] scope pos) 0 (.ref it) (.ref D) (compEnvC scope (cellsFrom (s3.heap.objs.size + 1) scope.names (cloFrom X.env.cells scope.names [])) s3.heap.objs.size X.env)) (compPost (model X.prog X.w) X.A X.xe use Qf (.ref D) s3.heap.objs.size) { s3 with heap := pushCells (s3.heap.push { cls := .type "dict", data := .dict #[] }) scope.names }
  have nfp : ∀ b ∈ fp, (upd H2 D (.lst [])) b = none := fun b hb => (f3 b hb).1.1
  have I4' := inv_blkH I3 (ce := compEnvC scope (cellsFrom (s3.heap.objs.size + 1) scope.names (cloFrom X.env.cells scope.names [])) s3.heap.objs.size X.env) (Nat.le_refl _) (fun b o e => pushCells_keeps _ _ _ _ (Heap.get?_push_of_some _ e)) I4
  clear I4
  have I4 := I4'
  clear I4'
  generalize hce : compEnvC scope (cellsFrom (s3.heap.objs.size + 1) scope.names (cloFrom X.env.cells scope.names [])) s3.heap.objs.size X.env = ce at I4 pg pt pe ⊢
  have cL : ce.locals = s3.heap.objs.size := by subst hce; rfl
  generalize hH3 : upd H2 D (.lst []) = H3 at I3 I4 pg pt pe w0 nfp f3
  generalize hs4 : ({ s3 with heap := pushCells (s3.heap.push { cls := .type "dict", data := .dict #[] }) scope.names } : Shared) = s4 at I4 ⊢
  have st4 : tn 0 s4.heap := T.keep _ _ _ st3 fun b _ o e => by rw [← hs4]; exact pushCells_keeps _ _ _ _ (Heap.get?_push_of_some _ e)
  have hcB : HotC (blkH X s3 H3 scope ce fp) := hc
  have stat : ∀ {σ' : L2.St} {H' : Hp} {s' : Shared}, Inv (blkH X s3 H3 scope ce fp) [] σ' H' s' → (∀ b ∈ fp, H' b = none) → ∀ b ∈ fp, FpOk (blkH X s3 H3 scope ce fp) [] H' b := fun {σ' H' s'} I' hn b hb =>
    ⟨hn b hb, (I'.ok.exf b hb).1, I'.ok.exfs b hb, .inl hb, fun x c e => (I'.ok.exf b hb).2 x c e, fun p hp => (f3 b hb).1.2.2.2.2.2 p (by
      rcases List.mem_append.mp hp with z | z
      · exact List.mem_append_left _ z
      · exact absurd z (List.not_mem_nil))⟩
  have loop : codeAny (model X.prog X.w) X.A (.compLoop (.ListComp elt [⟨tg, iter, ifs, 0⟩] scope pos) 0 (.ref it) (.ref D) ce) (compPost (model X.prog X.w) X.A X.xe use Qf (.ref D) s3.heap.objs.size) s4 := by
    refine compLoop_any (fun n s' => ∃ i H', Inv (blkH X s3 H3 scope ce fp) [] (wipe σ (own.map (·.2))) H' s' ∧ tn i s'.heap ∧ (∀ b ∈ fp, H' b = none) ∧ W i n H') ?_ m0 ⟨0, H3, I4, st4, nfp, w0⟩
    rintro n s5 ⟨i, H5, I5, st5, n5, w5⟩
    rcases turn i n H5 w5 with ⟨stop, qq⟩ | ⟨go, Nx, hNx, step⟩
    · have td := T.done (blkH X s3 H3 scope ce fp) rfl rfl rfl hcB i [] s5 _ H5 (fun _ _ => False) I5 (stat I5 n5) st5 stop
      refine thnF td fun r s6 ⟨hr, I6⟩ => ?_
      subst hr
      have I7 : Inv X pins σ H5 s6 := I3.call' (ch := fp) I6.os I6.base I6.hok I6.bare fun b hb => ⟨(f3 b hb).1.2.2.2.1, (f3 b hb).1.2.1, (f3 b hb).1.2.2.2.2.1, (f3 b hb).1.2.2.2.2.2⟩
      have nC : H5 s3.heap.objs.size = none := by
        have z : H5 ce.locals = none := I6.free
        rw [cL] at z
        exact z
      obtain ⟨m, hn, _⟩ := I6.loc
      have hn : s6.heap.Ns ce.locals m := hn
      rw [cL] at hn
      exact hRR D s3.heap.objs.size s6 m H5 I7 qq hn (I3.fpOk (Nat.le_refl _) nC)
    · have ti := T.item (blkH X s3 H3 scope ce fp) rfl rfl rfl hcB i [] s5 _ H5 (fun _ _ => False) I5 (stat I5 n5) st5 go
      refine thnF ti fun r s6 ⟨u, hr, h6⟩ => ?_
      subst hr
      refine thnF h6 fun _ s7 ⟨x, H7, I7, r7, y7, st7, n7⟩ => ?_
      have I7' := I7.pinned (stat I7 n7) (T.obj _ _ st7)
      refine thnF (pg.run _ s7 _ H7 x u _ I7' r7 (step x H7 y7)) fun _ s8 ⟨σ8, H8, I8, hw8, q8⟩ => ?_
      refine thnF (pt.run _ s8 σ8 H8 _ I8 q8) fun b s9 ⟨H9, I9, q9⟩ => ?_
      have fin : ∀ {s' : Shared} {H' : Hp}, Inv (blkH X s3 H3 scope ce fp) ([] ++ pinsAt fp s7.heap) σ8 H' s' → Nx H' → ∃ m, m < n ∧ ∃ i H', Inv (blkH X s3 H3 scope ce fp) [] (wipe σ (own.map (·.2))) H' s' ∧ tn i s'.heap ∧ (∀ b ∈ fp, H' b = none) ∧ W i m H' := fun {s' H'} I' nx => by
        obtain ⟨m', hm, w'⟩ := hNx H' nx
        have pin' : ∀ b ∈ fp, ∀ o, s7.heap.get? b = some o → s'.heap.get? b = some o ∧ H' b = none := fun b hb o e =>
          let z := I'.pin (b, o) (List.mem_append_right _ (List.mem_append_right _ (mem_pinsAt hb e)))
          ⟨z.1, z.2.1⟩
        have hl : (wipe σ (own.map (·.2))).length = σ8.length := by rw [← hw8, wipe_length]
        refine ⟨m', hm, i + 1, H', (I'.unpinned (pins := [])).weak hl (fun j v e => ?_), T.keep _ _ _ st7 fun b hb o e => (pin' b hb o e).1, fun b hb => ?_, w'⟩
        · rw [← hw8] at e
          exact (wipe_some e).1
        · obtain ⟨o, e, _⟩ := T.obj _ _ st7 b hb
          exact (pin' b hb o e).2
      cases b with
      | false =>
        simp only [Bool.false_eq_true, if_false] at q9 ⊢
        exact fin I9 q9
      | true =>
        simp only [if_true] at q9 ⊢
        refine thnF (pe.run _ s9 σ8 H9 _ I9 q9) fun z s10 ⟨yv, H10, I10, r10, acc, hD10, hz10, nx⟩ => ?_
        exact app_ok (X := blkH X s3 H3 scope ce fp) I10 hD10 hz10 r10 fun s11 I11 => fin I11 nx
  exact codeAny_compStart_list loop (T.self X.A 0 _ _ _ st4 loop)
theorem pe_lcH {elt tg iter : Expr} {ifs : List Expr} {scope : Scope} {own : List (Str × Nat)} {pos : Pos} {wi : TI} {g : TG} {tt : TT} {te : TE} (hc : HotC X) (hN : X.N.Nodup) (hi : PIH X tg iter wi) (ok : BlkOk X.N X.env.scope scope own)
    (hg : ∀ (s : Shared) (H : Hp) (C : Addr) (cl : List (Str × Addr)) (fp : List Addr), PG (blkH X s H scope (compEnvC scope cl C X.env) fp) tg g) (ht : ∀ (s : Shared) (H : Hp) (C : Addr) (cl : List (Str × Addr)) (fp : List Addr), PTs (blkH X s H scope (compEnvC scope cl C X.env) fp) ifs tt)
    (he : ∀ (s : Shared) (H : Hp) (C : Addr) (cl : List (Str × Addr)) (fp : List Addr), PE (blkH X s H scope (compEnvC scope cl C X.env) fp) elt te) (hs : ∀ x, foldedSetIterable iter X.env x = pure x := by intro _; rfl) :
    PE X (.ListComp elt [⟨tg, iter, ifs, 0⟩] scope pos) (tLc wi g tt te (own.map (·.2))) := by
  refine ⟨fun pins s σ H Q I h => ?_⟩
  rw [eval_ListComp]
  refine lcH_core hc hN I hi ok hg ht he hs h fun D C s' m H' I' q hn f => ⟨m, hn, fun h'' sb => ?_⟩
  obtain ⟨f0, f1, f2, f3, f4, f5⟩ := f
  exact ⟨.ref D, H', I'.turned (t' := s'.toks) (fun b o hb e => (sb.2 b hb).trans e) f0 f1 f3 f4 f5, rfl, q⟩
/-! ### isinstance of the handled exception, where it is a pin -/
def rIsP (K : PySem.W.Frag) (cls : Value) (d : Option Addr) (a : Addr) : List V → Hp → VK → Prop := fun xs H Q => ∃ (D : Addr) (c : V) (cv : Value) (b : Bool), cls = .ref D ∧ d = none ∧ ExcC K D ∧ xs = [.ref a, c] ∧ (∀ u, RelV c u → u = cv) ∧ PySem.W.kitOne K (.ref D) cv = some b ∧ Q (.bl b) H
theorem call_isP {K : PySem.W.Frag} {a : Addr} {cls : Value} {d : Option Addr} {oe : Obj} (hK : X.K = K) (hp : (a, oe) ∈ X.pn) (hz : Zc cls d oe) (hf : ∃ vs, oe.data = .fields vs) : CallR X (.builtin "isinstance") (rIsP K cls d a) := by
  subst hK
  intro pins s σ H xs us Q I r h
  obtain ⟨D, c, cv, b, rfl, rfl, C, rfl, hcv, e, q⟩ := h
  cases r with
  | cons rx rr =>
    cases rr with
    | cons rt rr =>
      cases rr
      cases rx
      have ec := hcv _ rt
      subst ec
      obtain ⟨hget, _⟩ := I.pin (a, oe) (List.mem_append_left _ hp)
      obtain ⟨vs, hv⟩ := hf
      have J : PySem.W.InstAt s.heap a oe D none := by
        obtain ⟨oc, od, oda, osl⟩ := oe
        obtain ⟨h1, h2⟩ := hz
        dsimp only at h1 h2 hv
        subst h1 h2 hv
        exact ⟨hget, rfl, rfl, trivial⟩
      exact PySem.W.kia_one (PySem.W.handS_kitx_exc C.hg C.hk C.hs C.hd C.ha C.hn C.ht C.hm) I.kIn J e (fun z => nomatch z) fun tk => ⟨.bl b, H, I.kept (t' := tk) fun _ _ z => z, rfl, q⟩
end
end Tw
namespace Tw
open PySem PySem.Spec PyProof.Rows L2 L2H
/-! ### a def that is handed the handled exception -/
structure FnP (P : Program) (w : World) (K : PySem.W.Frag) (mg : Str → Option Value) (base : Heap) (CX : CXT) (k : Nat) (f : Addr) (fd : FuncData) (ps : List Str) (sp : Addr → Value → Option Addr → Sp) : Prop where
  len : ∀ a c d vs H Q E, sp a c d vs H Q E → vs.length = ps.length
  run : ∀ (A : Around) (outer : List Env) (s : Shared) (H : Hp) (args : Args) (us : List Value) (vs : List V) (Q : VK) (E : XK) (p : Addr × Obj) (c : Value) (d : Option Addr), Zc c d p.2 → RoomH k A → Hot1 A p → PinOk outer H s p → Env0 P w K mg base A outer s H → BindsTo s fd args (ps.zip us) → Vals vs us → sp p.1 c d vs H Q E →
    codeAny (model P w) A (.call (.ref f) args) (CR CX outer P w H s Q E) s
theorem fn_ofP {CX : CXT} {P : Program} {w : World} {K : PySem.W.Frag} {mg : Str → Option Value} {base : Heap} {k : Nat} {f : Addr} {name qual : Str} {params : Arguments} {body : List Stmt} {scope : Scope} {dV kV doc pm cdv ct oc : Value} {an od : Option Addr}
    {osl : Array (Option Value)} {N ps : List Str} {sp : Addr → Value → Option Addr → Sp} (lk : K.lookup f = some ⟨oc, od, .func (PySem.W.fnOf name qual params body scope dV kV doc pm an cdv ct), osl⟩) (hcd : PySem.W.codeIn K cdv qual = true) (S : FnScope N ps scope)
    (len : ∀ a c d vs H Q E, sp a c d vs H Q E → vs.length = ps.length)
    (hbody : ∀ (A : Around) (outer : List Env) (s : Shared) (H : Hp) (vs : List V) (Q : VK) (E : XK) (p : Addr × Obj) (c : Value) (d : Option Addr), Zc c d p.2 → Hot1 A p → RoomH k (A.deeper (envOfC qual scope s.heap.objs.size f cdv)) → sp p.1 c d vs H Q E →
      ∃ t, PSs (cxH CX P w K mg base N qual scope f cdv A outer s H E p) body t ∧ t { nx := fun _ H' => Q .non H', rt := Q } (L2.start N vs) H) :
    FnP P w K mg base CX (k + 1) f (PySem.W.fnOf name qual params body scope dV kV doc pm an cdv ct) ps sp := by
  refine ⟨len, fun A outer s H args us vs Q E p c d hz hr hot hpin e0 hb r hsp => ?_⟩
  have hl := len _ _ _ _ _ _ _ hsp
  have KX : K.In s.heap := e0.mod.kin.keeps fun b o e => (e0.bs b o e).1
  have lim : s.heap.NoLimit := e0.mod.nolimit.keeps fun b o e => (e0.bs b o e).1
  have hkind : ∀ y ∈ ps.zip us, scope.names.lookup y.1 = some .local ∨ (scope.names.lookup y.1 = some .cell ∧ ((cellsFrom (s.heap.objs.size + 1) scope.names []).lookup y.1).isSome = true) := fun ⟨n, v⟩ hy => by
    rcases S.par n (List.of_mem_zip hy).1 with q | q
    · exact .inl q
    · exact .inr ⟨q, PySem.W.cellsFrom_some _ _ _ (.inl q)⟩
  refine codeAny_call_function hr.depth (KX _ _ lk) rfl S.co S.gen rfl (PySem.W.codeRec_of KX hcd) (hb _ _ _ _ ?_)
  refine wpAny_newFunctionEnv_cells S.kind hkind fun env he s1 x => ?_
  subst he
  refine ⟨lim.keeps x.toInCall.keep, codeAny_func ?_⟩
  obtain ⟨t, ht, hq⟩ := hbody A outer s H vs Q E p c d hz hot (hr.deeper _) hsp
  have I : Inv (cxH CX P w K mg base N qual scope f cdv A outer s H E p) [] (L2.start N vs) H s1 := inv_startH S hpin e0 hl r x
  refine wpAny_mono (ht.run [] s1 (L2.start N vs) H _ I hq) (fun fl s' hs => ?_) fun e s' hs => hs
  have fin : ∀ {σ' : L2.St} {H' : Hp} {v : V} {u : Value}, Inv (cxH CX P w K mg base N qual scope f cdv A outer s H E p) [] σ' H' s' → RelV v u → Q v H' → CE outer P w H s Q u s' :=
    fun {σ' H' v u} J rv q => ⟨v, H', J.os, J.bare, J.base, J.hok, rv, q⟩
  cases fl with
  | ret u =>
    obtain ⟨v, σ', H', J, rv, q⟩ := hs
    exact fin J rv q
  | next =>
    obtain ⟨σ', H', J, q⟩ := hs
    exact fin (v := V.non) (u := Value.none) J rfl q
  | brk =>
    obtain ⟨_, _, _, q⟩ := hs
    exact False.elim q
  | cont =>
    obtain ⟨_, _, _, q⟩ := hs
    exact False.elim q
section
variable {P : Program} {w : World} {K : PySem.W.Frag} {mg : Str → Option Value} {base : Heap}
theorem Fun.okP {x qual : Str} {st : Stmt} {f : Addr} {fd : FuncData} {N ps : List Str} {k : Nat} {sp : Addr → Value → Option Addr → Sp} (F : Fun K x qual st f fd) (S : FnScope N ps (defScope st)) (len : ∀ a c d vs H Q E, sp a c d vs H Q E → vs.length = ps.length)
    (hbody : ∀ (cdv : Value) (A : Around) (outer : List Env) (s : Shared) (H : Hp) (vs : List V) (Q : VK) (E : XK) (p : Addr × Obj) (c : Value) (d : Option Addr), Zc c d p.2 → Hot1 A p → sp p.1 c d vs H Q E →
      ∃ t, PSs (cxH CX0 P w K mg base N qual (defScope st) f cdv A outer s H E p) (defBody st) t ∧ t { nx := fun _ H' => Q .non H', rt := Q } (L2.start N vs) H) : FnP P w K mg base CX0 (k + 1) f fd ps sp := by
  obtain ⟨oc, od, kV, doc, pm, an, cdv, ct, osl, rfl, lk, hcd⟩ := F.ex
  exact fn_ofP lk hcd S len fun A outer s H vs Q E p c d hz hot hr hsp => hbody cdv A outer s H vs Q E p c d hz hot hsp
/-- a def that may raise, nothing being handled -/
theorem Fun.okN {x qual : Str} {st : Stmt} {f : Addr} {fd : FuncData} {N ps : List Str} {k : Nat} {sp : Sp} (F : Fun K x qual st f fd) (S : FnScope N ps (defScope st)) (len : ∀ vs H Q E, sp vs H Q E → vs.length = ps.length)
    (hbody : ∀ (cdv : Value) (A : Around) (outer : List Env) (s : Shared) (H : Hp) (vs : List V) (Q : VK) (E : XK), Room k (A.deeper (envOfC qual (defScope st) s.heap.objs.size f cdv)) → sp vs H Q E →
      ∃ t, PSs (cxOf (L2N.CX P w) P w K mg base N qual (defScope st) f cdv A outer s H E) (defBody st) t ∧ t { nx := fun _ H' => Q .non H', rt := Q } (L2.start N vs) H) : FnOk P w K mg base (L2N.CX P w) (k + 1) f fd ps sp := by
  obtain ⟨oc, od, kV, doc, pm, an, cdv, ct, osl, rfl, lk, hcd⟩ := F.ex
  exact fn_of lk hcd S len fun A outer s H vs Q E hr hsp => hbody cdv A outer s H vs Q E hr hsp
end
section
variable {X : Cx} {CX : CXT} {k : Nat} {f C : Addr} {fd : FuncData} {ps : List Str} {sp : Addr → Value → Option Addr → Sp} {x : Str} {q pos : Pos} {e : Expr} {es : List Expr} {t : TA}
theorem pe_callP {a : Addr} {oe : Obj} {c : Value} {d : Option Addr} (F : FnP X.prog X.w X.K X.mg X.base CX0 k f fd ps sp) (hr : RoomH k X.A) (hot : Hot1 X.A (a, oe)) (hp : (a, oe) ∈ X.pn) (hz : Zc c d oe) (hg : Gl X x) (hm : X.mg x = some (.ref f)) (hk : PySem.W.keepIn X.K (.ref f) = true) (hb : Binds X.K fd ps [])
    (ha : PA X (e :: es) t) (hdb : (x == ("__debug__" : Str)) = false := by decide) (he : starEach (e :: es) X.env = (false, eval e X.env) :: starEach es X.env := by rfl) (hpl : (backTo pos (starEach es X.env)).any (·.1) = false := by rfl) :
    PE X (.Call (.Name x q) (e :: es) [] pos) (tCall (sp a c d) [] E0 t) := by
  refine ⟨fun pins s σ H Q I h => ?_⟩
  refine wpAny_Call_Name_kw (ld_glob I hg hm ?_ hdb)
  refine PySem.W.callWith_K (h₀ := X.base) I.ok.mod.kin hk (thn (ha.run pos pins s σ H _ I h) fun us s1 ⟨vs, H1, I1, r, q⟩ => ⟨I1.kIn, ?_⟩) he hpl
  have q : sp a c d (vs ++ []) H1 Q E0 := q
  rw [List.append_nil] at q
  have hl : us.length = ps.length := by rw [← r.length]; exact F.len _ _ _ _ _ _ _ q
  have b := hb s1 us I1.kIn (by rw [List.append_nil]; exact hl)
  rw [List.append_nil] at b
  have P1 := I1.pin (a, oe) (List.mem_append_left _ hp)
  have hpin : PinOk X.stack H1 s1 (a, oe) := ⟨P1.1, P1.2.1, fun hm => (List.mem_cons.mp (I1.stkSub a hm)).elim P1.2.2.1 P1.2.2.2.1, P1.2.2.2.2⟩
  refine wpAny_call (codeAny_mono (F.run X.A X.stack s1 H1 ⟨us, []⟩ us vs Q E0 (a, oe) c d hz hr hot hpin I1.env0 b r q) fun r s' hq => ?_)
  cases r with
  | error e => exact False.elim hq
  | ok fl =>
    cases fl with
    | ret u => exact I1.after hq
    | next => exact False.elim hq
    | brk => exact False.elim hq
    | cont => exact False.elim hq
/-- nothing is let out around -/
theorem takesN0 : L2N.Takes X (fun _ _ _ _ => False) := fun _ _ x => by
  obtain ⟨_, _, _, _, _, _, _, _, _, _, _, _, _, _, _, _, z⟩ := x
  exact z.elim
end
/-! ### what the written part says of an own exception class -/
structure ExF (K : PySem.W.Frag) (C : Addr) : Prop where
  x : PySem.W.excIn K C [.type "ValueError", .type "Exception", .type "BaseException", .type "object"] "ValueError.__new__" = true
  k : PySem.W.keepIn K (.ref C) = true
  t : PySem.W.typeIn K (.ref C) = some (.type "type")
  e : ExcC K C
theorem kit_ref {K : PySem.W.Frag} {D C : Addr} {b : Bool} (hd : PySem.W.hasDictIn K C = true) (ht : PySem.W.typeIn K (.ref C) = some (.type "type")) (hs : PySem.W.subIn K (.ref D) (.ref C) = some b) (hb : D = C → b = true) : PySem.W.kitOne K (.ref D) (.ref C) = some b := by
  unfold PySem.W.kitOne
  split
  · rename_i h
    have e : Value.ref D = Value.ref C := eq_of_beq h
    injection e with e
    rw [hb e]
  · obtain ⟨cd, hc, _⟩ := PySem.W.any_some hd
    show PySem.W.kitCls K (.ref D) (.ref C) = some b
    unfold PySem.W.kitCls
    show (if ((PySem.W.clsIn K C).isSome && PySem.W.typeIn K (.ref C) == some (.type "type")) = true then PySem.W.subIn K (.ref D) (.ref C) else none) = some b
    rw [if_pos (by rw [hc, ht] <;> rfl)]
    exact hs
theorem kit_bt {K : PySem.W.Frag} {D : Addr} {T : String} {b : Bool} (ht : PySem.W.kitMeta T = true) (hs : PySem.W.subIn K (.ref D) (.type T) = some b) : PySem.W.kitOne K (.ref D) (.type T) = some b := by
  unfold PySem.W.kitOne
  rw [if_neg (fun h => by have e := eq_of_beq h; cases e)]
  show PySem.W.kitCls K (.ref D) (.type T) = some b
  unfold PySem.W.kitCls
  show (if PySem.W.kitMeta T = true then PySem.W.subIn K (.ref D) (.type T) else none) = some b
  rw [if_pos ht]
  exact hs
section
variable {X : Cx}
/-- a call that lets nothing out after all -/
theorem passN : Passes (L2N.CX X.prog X.w) X E0 := fun _ _ _ _ _ _ _ h => by
  obtain ⟨_, _, _, _, _, _, _, _, _, _, _, _, z⟩ := h
  exact z.elim
theorem roomH_suite {k : Nat} {A : Around} {v : Option Value} (r : Room k A) : RoomH k (A.mark v) := ⟨r.dp, r.un⟩
/-- the handled exception of a suite -/
theorem hot_suite {A : Around} {a : Addr} {oe : Obj} {cls : Value} {d : Option Addr} (hz : L2N.Zn cls d oe) (hf : ∃ vs, oe.data = .fields vs) : Hot1 (A.mark (some (.ref a))) (a, oe) := by
  obtain ⟨vs, hv⟩ := hf
  exact ⟨rfl, vs, hv, hz.2.2 vs hv⟩
end
section
variable {K : PySem.W.Frag} {σ : L2.St} {H : Hp} {D : Ends}
open Evl
theorem s_dropS {ta : TA} {sp : Sp} {vs : List V} {E : L2.St → XK} (h : EvA ta σ H vs) (k : ∀ H1, Ex H H1 → sp vs H1 (fun _ H2 => D.nx σ H2) (E σ)) : tDrop (tCallS sp E ta) D σ H := h H (Ex.refl H) _ k
/-- if f(..) is not None, told by f's own promise -/
theorem s_ifNotN {ta : TA} {sp : Sp} {dvs vs : List V} {E : XK} {tu tw : TS} (h : EvA ta σ H vs) (k : ∀ H1, Ex H H1 → sp (vs ++ dvs) H1 (fun x H2 => rNotN x .non H2 fun z H' => ∃ c, z = .bl c ∧ (if c = true then tu D σ H' else tw D σ H')) E) :
    tIfS (tTest (tOp rNotN (tCall sp dvs E ta) (tC .non))) tu tw D σ H := h H (Ex.refl H) _ k
theorem rc_isP {a C Dd : Addr} {cls : Value} {d : Option Addr} {b : Bool} (h1 : cls = .ref Dd) (h2 : d = none) (ec : ExcC K Dd) (hk : PySem.W.kitOne K (.ref Dd) (.ref C) = some b) : RC (rIsP K cls d a) [.ref a, .ref C] H (.bl b) :=
  fun H1 _ _ q => ⟨Dd, .ref C, .ref C, b, h1, h2, ec, rfl, fun _ r => r, hk, q H1 (Ex.refl H1)⟩
theorem rc_isPT {a Dd : Addr} {T : String} {cls : Value} {d : Option Addr} {b : Bool} (h1 : cls = .ref Dd) (h2 : d = none) (ec : ExcC K Dd) (hk : PySem.W.kitOne K (.ref Dd) (.type T) = some b) : RC (rIsP K cls d a) [.ref a, .ty T] H (.bl b) :=
  fun H1 _ _ q => ⟨Dd, .ty T, .type T, b, h1, h2, ec, rfl, fun _ r => r, hk, q H1 (Ex.refl H1)⟩
/-- the refusal by its number -/
def sp_kind (K : PySem.W.Frag) (L : List Addr) : Addr → Value → Option Addr → Sp := fun a cls d vs H Q _ => ∃ (Dd : Addr) (j : Nat), cls = .ref Dd ∧ d = none ∧ vs = [.ref a] ∧ ExcC K Dd ∧ j < 10 ∧ (∀ i C, L[i]? = some C → PySem.W.kitOne K (.ref Dd) (.ref C) = some (decide (i = j))) ∧ RetV (.int (11 + (j : Int))) H Q
end
/-! ### the end of a list's walk, and sum, where an exception is handled -/
section
open PySem PySem.Calls HotX
variable {prog : Program} {w : World} {A : Around} {E : Value → Shared → Prop} {s : Shared}
def HotObj (x1 : Addr) (h : Heap) : Prop := ∃ (o : Obj) (vs : Array Value), h.get? x1 = some o ∧ o.data = .fields vs ∧ vs[2]? = some .none
theorem pyNext_list_end_hot {it l x1 : Addr} {i : Nat} {items : Array Value} {Q : Option Value → Shared → Prop} (hh : A.handled = some (.ref x1)) (hot : HotObj x1 s.heap)
    (hit : s.heap.IsListIter it l i) (hl : s.heap.IsList l items) (hx : items[i]? = none)
    (hQ : ∀ h', Heap.ExtBut it s.heap h' → Q none { s with heap := h' }) : wpAny (model prog w) A (pyNext (.ref it)) Q E s := by
  obtain ⟨o, ho, hc, hd⟩ := id hit
  obtain ⟨ol, hol, _, nl, hdl⟩ := hl
  obtain ⟨o1, vs1, h1, d1, c1⟩ := hot
  have nx : x1 ≠ it := fun z => by
    rw [z, ho] at h1
    cases h1
    rw [hd] at d1
    cases d1
    cases c1
  unfold pyNext
  refine wpAny_bind (wpAny_attempt (wpAny_callSpecial?_slot (name := Str.ofString "__next__") hit.typeIs slot_listiter_next
    (wpAny_call_entry slot_listiter_next hit.typeIs entry_listiter_next ?_ (args_listiter_next _))))
  show wpAny _ _ (field (.ref it) 0 >>= _) _ _ s
  refine wpAny_bind (wpAny_field ho hd (x := .ref l) rfl ?_)
  show wpAny _ _ (if (Value.ref l == Value.none) = true then _ else _) _ _ s
  rw [if_neg (show ¬ ((Value.ref l == Value.none) = true) from Bool.false_ne_true)]
  show wpAny _ _ (field (.ref it) 1 >>= _) _ _ s
  refine wpAny_bind (wpAny_field ho hd (x := .int i 0) rfl ?_)
  show wpAny _ _ (seqItems? (.ref l) >>= _) _ _ s
  refine wpAny_bind (wpAny_seqItems hol hdl ?_)
  simp only [Int.toNat_natCast, hx]
  refine wpAny_bind (wpAny_rule (wpAny_bind (wpAny_setField ho hd (by simp) ?_)))
  show wpAny _ _ (newExc (.type "StopIteration") [] >>= _) _ _ _
  refine wpAny_bind ?_
  simp only [newExc, newTuple]
  refine wpAny_bind (wpAny_newObj_type ?_ (by size_fits))
  refine wpAny_bind (m := firstArgMember _ _) (wpAny_of_eq (a := Value.none) (by first | rfl | (simp only [firstArgMember]; rfl)) ?_)
  refine wpAny_newObj_type ?_ (by size_fits)
  have h1' := (Heap.get?_update_other s.heap (Obj.mapFields (·.setIfInBounds 0 .none)) (Ne.symm nx)).trans h1
  refine raiseNew_hot ⟨hh, o1, vs1, Heap.get?_push_of_some _ (Heap.get?_push_of_some _ h1'), d1, c1⟩ (Nat.ne_of_lt (Heap.lt_size (Heap.get?_push_of_some _ h1'))) (Heap.get?_push_size _ rfl) rfl (by first | (simp; done) | (simp; omega) | (simp only [Array.size_append]; simp; omega)) ?_
  refine wpAny_bind (wpAny_isInstance (T := "StopIteration") (b := true) ⟨_, Heap.get?_update_self _ (Heap.get?_push_size _ rfl) rfl, rfl⟩ isSubtype_stop ?_)
  refine wpAny_pure (hQ _ fun b o hb e => ?_)
  have e1 := (Heap.get?_update_other s.heap (Obj.mapFields (·.setIfInBounds 0 .none)) (Ne.symm hb)).trans e
  rw [Heap.get?_update_other _ _ (Nat.ne_of_gt (Heap.lt_size (Heap.get?_push_of_some _ e1)))]
  exact Heap.get?_push_of_some _ (Heap.get?_push_of_some _ e1)
theorem walksH {I ax x1 : Addr} (hh : A.handled = some (.ref x1)) (hne : ax ≠ I) (hx : x1 ≠ I) (items : Array Value) :
    Walks prog w A I [I, ax, x1] [I] items.size (fun i v => items[i]? = some v) (fun i h => (h.IsListIter I ax i ∧ h.IsList ax items) ∧ HotObj x1 h) where
  sub := fun b hb => by simp at hb; simp [hb]
  frame := fun _ _ _ st hk => ⟨⟨st.1.1.at fun o e => hk I (by simp) o e, st.1.2.at fun o e => hk ax (by simp) o e⟩, by
    obtain ⟨o, vs, h1, h2⟩ := st.2
    exact ⟨o, vs, hk x1 (by simp) o h1, h2⟩⟩
  item := fun i s Q E hi st hQ => by
    refine wpAny_pyNext_list_item st.1.1 st.1.2 (x := items[i]) (by simp [hi]) fun h' hit' hs' => ?_
    refine hQ _ h' s.toks (by simp [hi]) ⟨⟨hit', st.1.2.extBut hs'.extBut hne⟩, ?_⟩ fun b o hb e => hs'.extBut b o (fun h => hb (by simp [h])) e
    obtain ⟨o, vs, h1, h2⟩ := st.2
    exact ⟨o, vs, hs'.extBut x1 o hx h1, h2⟩
  done := fun s Q E st hQ => pyNext_list_end_hot hh st.2 st.1.1 st.1.2 (by simp) fun h' he' => hQ h' s.toks fun b o hb e => he' b o (fun h => hb (by simp [h])) e
  self := fun _ _ _ _ st hQ => wpAny_pyIter_listiter st.1.1 hQ
theorem sum_hot {l x1 : Addr} {xs : Array (Int × Tok)} {Q : Value → Shared → Prop} (hh : A.handled = some (.ref x1)) (hot : HotObj x1 s.heap) (hl : s.heap.IsList l (intItems xs))
    (h : ∀ h' tk t', (∀ b o, s.heap.get? b = some o → h'.get? b = some o) → Q (.int (preSum (numAt xs) xs.size) t') { s with heap := h', toks := tk }) :
    wpAny (model prog w) A (call (.builtin "sum") [.ref l]) Q E s := by
  refine call_sum_walkG (iter_intList hl fun s₂ e st hfp hlI => ?_)
  subst e
  obtain ⟨o, vs, h1, h2, h3⟩ := hot
  have hlt := Heap.lt_size h1
  refine ⟨_, _, _, _, _, _, numAt xs, rfl, walksH (A := A.in1) (x1 := x1) hh hlI (Nat.ne_of_lt hlt) (intItems xs), ⟨st, o, vs, Heap.get?_push_of_some _ h1, h2, h3⟩, fun b hb => ?_, (fun _ _ => intItems_at), fun h' tk t' hk => ?_⟩
  · rcases List.mem_cons.mp hb with z | z
    · exact hfp b (by rw [z]; exact List.mem_cons_self ..)
    · rcases List.mem_cons.mp z with z | z
      · exact hfp b (by rw [z]; simp)
      · rw [List.mem_singleton.mp z]
        show x1 < (s.heap.push _).objs.size
        rw [Heap.size_push]
        exact Nat.lt_succ_of_lt hlt
  · have := h h' tk t' (old_kept hk)
    simpa [intItems] using this
end
section
variable {X : Cx}
open PyProof.Rows L2 L2H
theorem cr_sumH (hc : HotC X) : CallR X (.builtin "sum") (rSum X.K) := by
  intro pins s σ H vs us Q I r h
  obtain ⟨a, ns, rfl, hs, q⟩ := h
  obtain ⟨its, rv, hl, _⟩ := I.list hs
  rw [Vals.ref1 r]
  obtain ⟨p, ⟨hh, v1, e1, c1⟩, hp⟩ := hc
  have P1 := (I.pin p (List.mem_append_left _ hp)).1
  obtain ⟨xs, e⟩ := rv.ints.allInts.items
  have hn : numsOf (intItems xs).toList = ns := by rw [← e]; exact rv.ints.numsOf
  rw [nums_intItems] at hn
  have hl' := hl.isList
  rw [e] at hl'
  refine sum_hot hh ⟨p.2, v1, P1, e1, c1⟩ hl' fun h' tk t' hk => ?_
  rw [preSum_eq, List.take_of_length_le (by simp), hn]
  exact ⟨.int _, H, I.kept hk, ⟨_, rfl⟩, q⟩
/-- an item of a list, the written part named -/
theorem ixL {K : PySem.W.Frag} (h : X.K = K) : IxR X (rIxL K) := by
  rw [← h]
  exact ix_list
end
end Tw
set_option Elab.async false
set_option linter.all false
set_option maxRecDepth 100000
set_option maxHeartbeats 2000000
/-! generator expressions over lists and ranges of ints, in any, all, sum. -/
namespace TwG
open PySem PySem.Spec PyProof.Rows L2 GxR

section
variable {X : Cx} {pins : List (Addr × Obj)} {σ : L2.St} {H H1 : Hp} {s s1 : Shared}

/-- the generator g of n items, the i-th one F i, in the state s5; H1: what was held before -/
def ReadyG (X : Cx) (pins : List (Addr × Obj)) (σ : L2.St) (H1 : Hp) (P : Addr) (n : Nat) (F : Nat → Value → Prop) (g : Addr) (s5 : Shared) : Prop :=
  ∃ (fp wr : List Addr) (G : Array GenState → Array GenState → Prop) (St : Nat → Shared → Prop),
    WalksS X.prog X.w X.A.in1 g fp wr G n (fun j y => ∃ i, (List.range n)[j]? = some i ∧ F i y) St ∧ St 0 s5 ∧ (∀ b ∈ fp, b < s5.heap.objs.size) ∧
    ∀ s', Moved wr G s5 s' → ∃ H2, Tabbed P H1 H2 ∧ Inv X pins σ H2 s'

/-- the element of the i-th item, over all that stood at s1 but the table at P -/
def EltG (X : Cx) (scope : Scope) (P : Addr) (x : Str) (elt : Expr) (s1 : Shared) (val F : Nat → Value → Prop) : Prop :=
  ∀ (cenv : Env) (A' : Around) (E' : Value → Shared → Prop) (i : Nat) (v : Value) (s₂ : Shared) (m₂ : Str → Option Value), A'.handled = none → cenv.scope = scope →
    cenv.cells = cloFrom X.env.cells scope.names [] → val i v → s₂.heap.Ns cenv.locals m₂ → m₂ x = some v →
    (∀ b o, b ≠ P → s1.heap.get? b = some o → s₂.heap.get? b = some o) →
    wpAny (model X.prog X.w) A' (eval elt cenv) (fun y s₃ => F i y ∧ Keeps s₂ s₃) E' s₂

theorem gen_core {c P : Addr} {elt : Expr} {x : Str} {gpos : Pos} {scope : Scope} {k : Nat} {Q' : Value → Shared → Prop} {o : Obj} {n : Nat} {val F : Nat → Value → Prop} {fp : List Addr} {St : Nat → Heap → Prop}
    (hr : Room k X.A) (TB : TabB X.base X.mg c P) (hcode : X.env.code = .ref c) (I1 : Inv X pins σ H1 s1) (hT : TabG H1 P)
    (W : ∀ A' : Around, A'.handled = none → Walks X.prog X.w A' s1.heap.objs.size fp [s1.heap.objs.size] n val St) (hfp : ∀ b ∈ fp, b ≤ s1.heap.objs.size)
    (hst : ∀ h3 : Heap, (∀ b u, b ≠ P → (s1.heap.push o).get? b = some u → h3.get? b = some u) → St 0 h3)
    (hel : EltG X scope P x elt s1 val F) (hQ : ∀ g s5, ReadyG X pins σ H1 P n F g s5 → Q' (.ref g) s5) :
    (s1.heap.push o).NoLimit ∧ wpAny (model X.prog X.w) X.A (genexprCode X.env gpos (X.env.qual ++ "<genexpr>") scope) (fun code s₃ =>
      wpAny (model X.prog X.w) X.A (builtinsFor X.env.globals X.env.builtins) (fun bi s₄ =>
        ∃ Ia fp wr n₀ Pf St₀ pz F, Value.ref s1.heap.objs.size = .ref Ia ∧ (∀ A' : Around, A'.handled = none → Walks X.prog X.w A' Ia fp wr n₀ Pf St₀) ∧ St₀ 0 s₄.heap ∧ (∀ b ∈ fp, b < s₄.heap.objs.size) ∧ s₄.heap.NoLimit ∧ cStatics ∉ wr ∧
          (∀ href : Heap, (∀ b o, s₄.heap.get? b = some o → href.get? b = some o) →
            QuietGen X.prog X.w (genEnv scope (cloFrom X.env.cells scope.names []) s₄.heap.objs.size code bi X.env) x [] elt (List.range s₄.heap.objs.size) wr Pf pz F href) ∧
          (∀ a h₅ tk gs, gs.bare = true → s₄.heap.objs.size < a → h₅.objs.size = a + 1 → (∀ b o, s₄.heap.get? b = some o → h₅.get? b = some o) →
            WalksS X.prog X.w X.A.in4 a (a :: s₄.heap.objs.size :: List.range s₄.heap.objs.size) (s₄.heap.objs.size :: wr) (GenOnlyQ s₄.gens.size) (passing pz n₀ 0).length
              (fun j y => ∃ i, (passing pz n₀ 0)[j]? = some i ∧ F i y) (GenAt X.prog X.w X.A.in4 a s₄.gens.size s₄.heap.objs.size (List.range s₄.heap.objs.size) wr pz n₀ F) →
            GenAt X.prog X.w X.A.in4 a s₄.gens.size s₄.heap.objs.size (List.range s₄.heap.objs.size) wr pz n₀ F 0 { s₄ with gens := s₄.gens.push gs, toks := tk, heap := h₅ } →
            Q' (.ref a) { s₄ with gens := s₄.gens.push gs, toks := tk, heap := h₅ })) X.xe s₃) X.xe { s1 with heap := s1.heap.push o } := by
  obtain ⟨ps, hP, ht⟩ := hT
  have hPs : s1.heap.get? P = some { cls := .none, data := .fields ps } := I1.hok P _ hP
  have hPlt : P < s1.heap.objs.size := Heap.lt_size hPs
  have hP2 : (s1.heap.push o).get? P = some { cls := .none, data := .fields ps } := Heap.get?_push_of_some _ hPs
  have cd : PySem.W.CodeHd (s1.heap.push o) c P := TB.code.keeps fun b u e => Heap.get?_push_of_some _ (I1.bk b u e)
  have lim2 : (s1.heap.push o).NoLimit := I1.nolimit.push o
  have sz2 : (s1.heap.push o).objs.size = s1.heap.objs.size + 1 := Heap.size_push ..
  have cont : ∀ (code : Value) (h3 : Heap) (tk : Nat) (ps' : Array Value), Heap.ExtBut P (s1.heap.push o) h3 → (s1.heap.push o).objs.size ≤ h3.objs.size → h3.get? P = some { cls := .none, data := .fields ps' } → (∃ more, ps' = ps ++ more) → TriplesOk ps'.toList →
      wpAny (model X.prog X.w) X.A (builtinsFor X.env.globals X.env.builtins) (fun bi s₄ =>
        ∃ Ia fp wr n₀ Pf St₀ pz F, Value.ref s1.heap.objs.size = .ref Ia ∧ (∀ A' : Around, A'.handled = none → Walks X.prog X.w A' Ia fp wr n₀ Pf St₀) ∧ St₀ 0 s₄.heap ∧ (∀ b ∈ fp, b < s₄.heap.objs.size) ∧ s₄.heap.NoLimit ∧ cStatics ∉ wr ∧
          (∀ href : Heap, (∀ b o, s₄.heap.get? b = some o → href.get? b = some o) →
            QuietGen X.prog X.w (genEnv scope (cloFrom X.env.cells scope.names []) s₄.heap.objs.size code bi X.env) x [] elt (List.range s₄.heap.objs.size) wr Pf pz F href) ∧
          (∀ a h₅ tk gs, gs.bare = true → s₄.heap.objs.size < a → h₅.objs.size = a + 1 → (∀ b o, s₄.heap.get? b = some o → h₅.get? b = some o) →
            WalksS X.prog X.w X.A.in4 a (a :: s₄.heap.objs.size :: List.range s₄.heap.objs.size) (s₄.heap.objs.size :: wr) (GenOnlyQ s₄.gens.size) (passing pz n₀ 0).length
              (fun j y => ∃ i, (passing pz n₀ 0)[j]? = some i ∧ F i y) (GenAt X.prog X.w X.A.in4 a s₄.gens.size s₄.heap.objs.size (List.range s₄.heap.objs.size) wr pz n₀ F) →
            GenAt X.prog X.w X.A.in4 a s₄.gens.size s₄.heap.objs.size (List.range s₄.heap.objs.size) wr pz n₀ F 0 { s₄ with gens := s₄.gens.push gs, toks := tk, heap := h₅ } →
            Q' (.ref a) { s₄ with gens := s₄.gens.push gs, toks := tk, heap := h₅ })) X.xe { s1 with heap := h3, toks := tk } := by
    intro code h3 tk ps' hx hsz hP3 hmore ht3
    obtain ⟨bm, ob, e1, e2, e3, e4, e5, e6, e7, e8⟩ := TB.bm
    have hcP : cStatics ≠ P := fun e => by
      obtain ⟨_, hns, _⟩ := I1.nolimit
      obtain ⟨o', es, ep, ho, hd, _⟩ := hns
      rw [e, hPs] at ho
      cases ho
      cases hd
    have hcl : cStatics < s1.heap.objs.size := let ⟨_, hns, _⟩ := I1.nolimit; hns.lt
    have keep3 : ∀ b u, b ≠ P → s1.heap.get? b = some u → h3.get? b = some u := fun b u hb e => hx b u hb (Heap.get?_push_of_some _ e)
    refine wpAny_builtinsFor (m := X.mg) (by rw [I1.ok.glob]; exact ((I1.mod.glob.keeps I1.bk).push o).extBut hx TB.gP) e1 e2 (keep3 _ _ e4 (I1.bk _ _ e5)) e6 e7 e8 ?_
    refine ⟨s1.heap.objs.size, fp, [s1.heap.objs.size], n, val, St, (fun _ => true), F, rfl, W, hst h3 hx, ?_, lim2.extBut hx hcP, ?_, ?_, ?_⟩
    · intro b hb
      have q := hfp b hb
      have q2 : s1.heap.objs.size < h3.objs.size := by omega
      exact Nat.lt_of_le_of_lt q q2
    · intro z
      rcases List.mem_cons.mp z with z | z
      · exact Nat.ne_of_lt hcl z
      · cases z
    · intro href hhref
      refine ⟨fun A' E' i v s₂ m₂ hA hPv hn hm hk => ?_, fun A' E' i v s₂ m₂ hA hPv hp hn hm hk => ?_⟩
      · simp only [List.forIn_nil]
        exact wpAny_pure ⟨rfl, keeps_refl _⟩
      · refine hel _ A' E' i v s₂ m₂ hA rfl rfl hPv hn hm fun b u hb e => ?_
        have hl := Heap.lt_size e
        refine hk b (List.mem_range.mpr ?_) (fun z => ?_) u (hhref b u (keep3 b u hb e))
        · show b < h3.objs.size
          exact Nat.lt_of_lt_of_le hl (by omega)
        · rcases List.mem_cons.mp z with z | z
          · rw [z] at hl
            exact Nat.lt_irrefl _ hl
          · cases z
    · intro g h5 tk5 gs hgb hag hsz5 hk5 W5 hat
      simp only [GxR.passing_true] at W5
      rw [List.length_range] at W5
      refine hQ g _ ⟨_, _, _, _, W5.in4_1, hat, ?_, fun s' hm => ?_⟩
      · intro b hb
        show b < h5.objs.size
        have e5 : h5.objs.size = g + 1 := hsz5
        have h8 : h3.objs.size < g := hag
        rw [e5]
        rcases List.mem_cons.mp hb with z | z
        · rw [z]
          exact Nat.lt_succ_self g
        · rcases List.mem_cons.mp z with z | z
          · rw [z]
            exact Nat.lt_succ_of_lt h8
          · have z2 := List.mem_range.mp z
            have h7 : b < h3.objs.size := z2
            exact Nat.lt_succ_of_lt (Nat.lt_trans h7 h8)
      · obtain ⟨more, em⟩ := hmore
        have nwr : ∀ b u, s1.heap.get? b = some u → b ∉ h3.objs.size :: [s1.heap.objs.size] := fun b u e hb => by
          have hl := Heap.lt_size e
          rcases List.mem_cons.mp hb with z | z
          · rw [z] at hl
            have h9 : (h3.objs.size : Nat) < s1.heap.objs.size := hl
            omega
          · rcases List.mem_cons.mp z with z | z
            · rw [z] at hl
              exact Nat.lt_irrefl _ hl
            · cases z
        have J := inv_tab (more := more) (h' := s'.heap) (g' := s'.gens) (d' := s'.drawn) (t' := s'.toks) I1 hP (fun b u hb e => hm.heap b u (nwr b u e) (hk5 b u (keep3 b u hb e)))
          (by rw [← em]; exact hm.heap P _ (nwr P _ hPs) (hk5 P _ hP3)) (AllBare.movedS (I1.bare.push hgb) hm)
        rw [sh_eta s1 s' hm.os] at J
        refine ⟨upd H1 P (.tbl (ps ++ more)), ⟨⟨ps ++ more, upd_same, by rw [← em]; exact ht3⟩, fun b hb => upd_ne hb⟩, J⟩
  refine ⟨lim2, ?_⟩
  cases hf : codeAmong gpos ps.toList with
  | none =>
    refine wpAny_genexprCodeX hcode (cd.code hP2 ht) (cd.tab hP2) hf fun c' h' tk hx hge hlt hco' _ htab' _ => ?_
    obtain ⟨o1, vs, f1, tf, fl, tg, inF, tx, tt, op, _, _, _, _, _, _, _, _, _, htr, _⟩ := hco'
    exact cont _ h' tk _ hx (Nat.le_trans hge (Nat.le_of_lt hlt)) htab'.2 ⟨_, rfl⟩ htr
  | some cv =>
    refine wpAny_genexprCode_hit hcode (cd.code hP2 ht) hf ?_
    exact cont cv (s1.heap.push o) s1.toks ps (Heap.ExtBut.refl _ _) (Nat.le_refl _) hP2 ⟨#[], by simp⟩ ht

theorem range_get {n j i : Nat} (h : (List.range n)[j]? = some i) : j = i ∧ j < n := by
  obtain ⟨hj, ej⟩ := List.getElem?_eq_some_iff.mp h
  rw [List.getElem_range] at ej
  rw [List.length_range] at hj
  exact ⟨ej, hj⟩

/-- an element that reads its own name alone: of an int z with Pz what Fz tells -/
def EltI (prog : Program) (w : World) (scope : Scope) (x : Str) (elt : Expr) (Pz : Int → Prop) (Fz : Int → Value → Prop) : Prop :=
  ∀ (cenv : Env) (A' : Around) (E' : Value → Shared → Prop) (z : Int) (t : Tok) (s₂ : Shared) (m₂ : Str → Option Value), cenv.scope = scope → Pz z → s₂.heap.Ns cenv.locals m₂ → m₂ x = some (.int z t) →
    wpAny (model prog w) A' (eval elt cenv) (fun y s₃ => Fz z y ∧ Keeps s₂ s₃) E' s₂

theorem gen_ints {c P : Addr} {elt iter : Expr} {x : Str} {px gpos : Pos} {scope : Scope} {te : TE} {k : Nat} {Pz : Int → Prop} {Fz : Int → Value → Prop} {Q' : Value → Shared → Prop} {R : List Int → Hp → Prop}
    (hr : Room k X.A) (TB : TabB X.base X.mg c P) (hcode : X.env.code = .ref c) (S : GenS X.env scope x) (hi : PE X iter te) (hel : EltI X.prog X.w scope x elt Pz Fz)
    (hs : ∀ v, genFold iter X.env v = pure v) (I : Inv X pins σ H s)
    {T0 : VK} (h : te σ H T0) (h0 : ∀ v H1, T0 v H1 → ∃ (a : Addr) (zs : List Int), v = .ref a ∧ SqL X.K H1 a (zs.map V.int) ∧ (∀ z ∈ zs, Pz z) ∧ TabG H1 P ∧ R zs H1)
    (hQ : ∀ zs H1 g s5, R zs H1 → ReadyG X pins σ H1 P zs.length (fun i y => ∃ z, zs[i]? = some z ∧ Fz z y) g s5 → Q' (.ref g) s5) :
    wpAny (model X.prog X.w) X.A (eval (.GeneratorExp elt [⟨.Name x px, iter, [], 0⟩] scope gpos) X.env) Q' X.xe s := by
  refine wpAny_GeneratorExp_walksQ hr.hd S.co (closure_ok S.free) S.cell S.dot S.loc S.kind (by have := hr.dp; omega) ?_ hs
  refine thn (hi.run pins s σ H _ I h) fun xv s1 ⟨v, H1, I1, r1, q1⟩ => ?_
  obtain ⟨yl, zs, rfl, hyl, hPz, hT, q1⟩ := h0 _ _ q1
  obtain rfl : xv = Value.ref yl := r1
  obtain ⟨its, rv, hl, hz⟩ := I1.list hyl
  have hIL := hl.isList
  have hlen : its.length = zs.length := by rw [← rv.length, List.length_map]
  have hat : ∀ (i : Nat) (v : Value), its.toArray[i]? = some v → ∃ (z : Int) (u : Tok), zs[i]? = some z ∧ v = .int z u := fun i v hv => by
    have hv2 : its[i]? = some v := by simpa using hv
    have hi2 : i < its.length := (List.getElem?_eq_some_iff.mp hv2).1
    obtain ⟨a, ha⟩ : ∃ a, zs[i]? = some a := ⟨zs[i]'(by omega), List.getElem?_eq_getElem _⟩
    have hb : (zs.map V.int)[i]? = some (V.int a) := by rw [List.getElem?_map, ha] <;> rfl
    obtain ⟨u, hu, ru⟩ := rv.get hb
    rw [hv2] at hu
    cases hu
    obtain ⟨t, e⟩ := (show ∃ t, v = Value.int a t from ru)
    exact ⟨a, t, ha, e⟩
  have hylt : yl < s1.heap.objs.size := by
    obtain ⟨_, e, _⟩ := _root_.id hIL
    exact Heap.lt_size e
  have hylP : yl ≠ P := fun z => by
    obtain ⟨ps, hP, _⟩ := hT
    have hPs : s1.heap.get? P = some { cls := .none, data := .fields ps } := I1.hok P _ hP
    obtain ⟨_, e, hc1, _, hd1⟩ := _root_.id hIL
    rw [z, hPs] at e
    cases e
    cases hd1
  refine wpAny_pyIter_list hIL ?_
  have hn5 : its.toArray.size = zs.length := by rw [List.size_toArray, hlen]
  refine gen_core (n := zs.length) (val := fun i v => its.toArray[i]? = some v) (F := fun i y => ∃ z, zs[i]? = some z ∧ Fz z y) (fp := [s1.heap.objs.size, yl])
    (St := fun i h => h.IsListIter s1.heap.objs.size yl i ∧ h.IsList yl its.toArray) hr TB hcode I1 hT (fun A' hA => ?_) (fun b hb => ?_) (fun h3 hx => ?_) ?_ fun g s5 hG => hQ zs H1 g s5 q1 hG
  · rw [← hn5]
    exact Walks.list hA _ _ (Nat.ne_of_lt hylt) _
  · rcases List.mem_cons.mp hb with z | z
    · exact Nat.le_of_eq z
    · rcases List.mem_cons.mp z with z | z
      · rw [z]
        exact Nat.le_of_lt hylt
      · cases z
  · have hPlt : P < s1.heap.objs.size := by
      obtain ⟨ps, hP, _⟩ := hT
      exact Heap.lt_size (I1.hok P _ hP)
    constructor
    · exact Heap.IsListIter.at (h := s1.heap.push _) ⟨_, Heap.get?_push_size _ rfl, rfl, rfl⟩ fun u e => hx _ u (Nat.ne_of_gt hPlt) e
    · obtain ⟨ob, e, r⟩ := _root_.id hIL
      exact ⟨ob, hx _ _ hylP (Heap.get?_push_of_some _ e), r⟩
  · intro cenv A' E' i v s₂ m₂ hA hsc hce hv hn hm hk
    obtain ⟨z, u, hzz, rfl⟩ := hat i v hv
    exact wpAny_mono (hel cenv A' E' z u s₂ m₂ hsc (hPz z (List.mem_of_getElem? hzz)) hn hm) (fun y s3 r => ⟨⟨z, hzz, r.1⟩, r.2⟩) fun _ _ e => e

theorem gen_rngP {Y : Type} {c P : Addr} {elt iter : Expr} {x : Str} {px gpos : Pos} {scope : Scope} {te : TE} {k : Nat} {F : Int → Int → Y → Nat → Value → Prop} {Q' : Value → Shared → Prop} {R : Int → Int → Y → Hp → Prop}
    (hr : Room k X.A) (TB : TabB X.base X.mg c P) (hcode : X.env.code = .ref c) (S : GenS X.env scope x) (hi : PE X iter te)
    (hel : ∀ lo hi y0 H1 s1, Inv X pins σ H1 s1 → TabG H1 P → R lo hi y0 H1 → EltG X scope P x elt s1 (fun i v => i < (hi - lo).toNat ∧ ∃ t, v = .int (lo + (i : Nat)) t) (F lo hi y0))
    (hs : ∀ v, genFold iter X.env v = pure v) (I : Inv X pins σ H s)
    {T0 : VK} (h : te σ H T0) (h0 : ∀ v H1, T0 v H1 → ∃ (r : Addr) (lo hi : Int) (y0 : Y), v = .ref r ∧ H1 r = some (.rng lo hi) ∧ (-(2 ^ 62) ≤ lo ∧ lo < 2 ^ 62 ∧ -(2 ^ 62) ≤ hi ∧ hi < 2 ^ 62) ∧ TabG H1 P ∧ R lo hi y0 H1)
    (hQ : ∀ lo hi y0 H1 g s5, R lo hi y0 H1 → ReadyG X pins σ H1 P (hi - lo).toNat (F lo hi y0) g s5 → Q' (.ref g) s5) :
    wpAny (model X.prog X.w) X.A (eval (.GeneratorExp elt [⟨.Name x px, iter, [], 0⟩] scope gpos) X.env) Q' X.xe s := by
  refine wpAny_GeneratorExp_walksQ hr.hd S.co (closure_ok S.free) S.cell S.dot S.loc S.kind (by have := hr.dp; omega) ?_ hs
  refine thn (hi.run pins s σ H _ I h) fun xv s1 ⟨v, H1, I1, r1, q1⟩ => ?_
  obtain ⟨r, lo, hh, y0, rfl, hrr, ⟨b1, b2, b3, b4⟩, hT, q1⟩ := h0 _ _ q1
  obtain rfl : xv = Value.ref r := r1
  obtain ⟨t, u, v, hro⟩ : ∃ t u v, s1.heap.get? r = some { cls := .type "range", data := .fields #[.int lo t, .int hh u, .int 1 v] } := I1.hok r _ hrr
  refine wpAny_pyIter_range (a := lo) (b := hh) (c := 1) (t := t) (u := u) (v := v) hro (small_one b1 b2 b3 b4) ?_
  have hPlt : P < s1.heap.objs.size := by
    obtain ⟨ps, hP, _⟩ := hT
    exact Heap.lt_size (I1.hok P _ hP)
  refine gen_core (n := (hh - lo).toNat) (val := fun i v => i < (hh - lo).toNat ∧ ∃ t, v = .int (lo + (i : Nat)) t) (F := F lo hh y0) (fp := [s1.heap.objs.size])
    (St := fun i h => IsRangeIter h s1.heap.objs.size (lo + (i : Nat) * 1) (((hh - lo).toNat : Int) - (i : Nat)) 1) hr TB hcode I1 hT (fun A' hA => ?_) (fun b hb => ?_) (fun h3 hx => ?_) (hel lo hh y0 H1 s1 I1 hT q1) fun g s5 hG => hQ lo hh y0 H1 g s5 q1 hG
  · have W := (Walks.range (prog := X.prog) (w := X.w) hA s1.heap.objs.size lo 1 (hh - lo).toNat).bound
    exact W.weaken fun i v ⟨h1, t, e⟩ => ⟨h1, t, by rw [e, Int.mul_one]⟩
  · rcases List.mem_cons.mp hb with z | z
    · exact Nat.le_of_eq z
    · cases z
  · have e1 : lo + ((0 : Nat) : Int) * 1 = lo := by simp
    have e2 : (((hh - lo).toNat : Nat) : Int) - ((0 : Nat) : Int) = Builtin.Range.rangeSize lo hh 1 := by rw [rangeSize_one]; split <;> omega
    show IsRangeIter _ _ (lo + ((0 : Nat) : Int) * 1) ((((hh - lo).toNat : Nat) : Int) - ((0 : Nat) : Int)) 1
    rw [e1, e2]
    exact hx _ _ (Nat.ne_of_gt hPlt) (Heap.get?_push_size _ rfl)

/-! ### any, sum over a list of ints; all over a range -/
theorem truth_of {n : Nat} {F : Nat → Value → Prop} {tr : Nat → Bool} (h : ∀ i y, i < n → F i y → y = .bool (tr i)) : TruthOf X.prog X.w X.A.in1 (fun j y => ∃ i, (List.range n)[j]? = some i ∧ F i y) tr := by
  intro j y sj Qj Ej hy hQj
  obtain ⟨i, hij, hF⟩ := hy
  obtain ⟨rfl, hj⟩ := range_get hij
  rw [h _ y hj hF]
  exact wpAny_truthy_bool hQj

def trI (pb : Int → Bool) (zs : List Int) (j : Nat) : Bool := match zs[j]? with
  | some z => pb z
  | none => false
theorem any_trI (zs : List Int) (pb : Int → Bool) : (List.range zs.length).any (trI pb zs) = zs.any pb := by
  have tr_some : ∀ {j z}, zs[j]? = some z → trI pb zs j = pb z := fun h => by unfold trI; rw [h]
  rw [Bool.eq_iff_iff, List.any_eq_true, List.any_eq_true]
  constructor
  · intro ⟨j, hj, h⟩
    have hj' := List.mem_range.mp hj
    rw [tr_some (List.getElem?_eq_getElem hj')] at h
    exact ⟨zs[j], List.getElem_mem hj', h⟩
  · intro ⟨b, hb, h⟩
    obtain ⟨j, hj, e⟩ := List.getElem_of_mem hb
    refine ⟨j, List.mem_range.mpr hj, ?_⟩
    rw [tr_some (List.getElem?_eq_getElem hj), e]
    exact h
/-- any(test for x in e), e a list of ints -/
def tAnyI (K : PySem.W.Frag) (P : Addr) (pb : Int → Bool) (te : TE) : TE := fun σ H Q => te σ H fun v H1 => ∃ (a : Addr) (zs : List Int), v = .ref a ∧ SqL K H1 a (zs.map V.int) ∧ TabG H1 P ∧ ∀ H2, Tabbed P H1 H2 → Q (.bl (zs.any pb)) H2
theorem pe_anyI {c P : Addr} {elt iter : Expr} {x : Str} {px p pos gpos : Pos} {scope : Scope} {pb : Int → Bool} {te : TE} {k : Nat}
    (hr : Room k X.A) (hg : Gl X "any") (hm : X.mg "any" = none) (TB : TabB X.base X.mg c P) (hcode : X.env.code = .ref c) (S : GenS X.env scope x) (hi : PE X iter te) (hel : EltI X.prog X.w scope x elt (fun _ => True) fun z y => y = .bool (pb z))
    (hs : ∀ v, genFold iter X.env v = pure v)
    (he : starEach [.GeneratorExp elt [⟨.Name x px, iter, [], 0⟩] scope gpos] X.env = (false, eval (.GeneratorExp elt [⟨.Name x px, iter, [], 0⟩] scope gpos) X.env) :: starEach [] X.env := by rfl) :
    PE X (.Call (.Name "any" p) [.GeneratorExp elt [⟨.Name x px, iter, [], 0⟩] scope gpos] [] pos) (tAnyI X.K P pb te) := by
  refine ⟨fun pins s σ H Q I h => ?_⟩
  refine wpAny_Call_Name_kw (ld_blt I hg hm boot_any ?_)
  refine PyProof.Rows.callWith_builtin1 ?_ he (by rfl)
  rw [he]
  show wpAny _ _ (spliced ((false, eval (.GeneratorExp elt [⟨.Name x px, iter, [], 0⟩] scope gpos) X.env) :: backTo pos (starEach [] X.env))) _ _ s
  refine Calls.spliced_cons (gen_ints (R := fun zs H1 => ∀ H2, Tabbed P H1 H2 → Q (.bl (zs.any pb)) H2) hr TB hcode S hi hel hs I h (fun v H1 q => ?_) fun zs H1 g s5 hR hG => ?_)
  · obtain ⟨a, zs, e, hq, hT, q⟩ := q
    exact ⟨a, zs, e, hq, fun _ _ => trivial, hT, q⟩
  obtain ⟨fp, wr, G, St, W, hst, hfp, hI⟩ := hG
  refine Calls.spliced_nil ?_
  refine call_any_walkS (W.self 0 _ _ _ hst ⟨g, fp, wr, G, _, _, St, trI pb zs, rfl, W, hst, truth_of fun i y hi ⟨z, e, hy⟩ => ?_, fun s' hmv => ?_⟩)
  · rw [hy]
    unfold trI
    rw [e]
  obtain ⟨H2, hT, J⟩ := hI s' hmv
  refine ⟨.bl _, H2, J, rfl, ?_⟩
  rw [any_trI zs pb]
  exact hR H2 hT
theorem preSum_get (f : Int → Int) (zs : List Int) (val : Nat → Int) (h : ∀ i z, zs[i]? = some z → val i = f z) : ∀ n, n ≤ zs.length → preSum val n = ((zs.take n).map f).sum
  | 0, _ => rfl
  | n + 1, hn => by
    have hx : zs[n]? = some zs[n] := List.getElem?_eq_getElem hn
    show preSum val n + val n = _
    rw [preSum_get f zs val h n (Nat.le_of_succ_le hn), h n _ hx, List.take_succ, hx, List.map_append, List.sum_append]
    simp
/-- sum(f x for x in e), e a list of ints with Pz -/
def tSumI (K : PySem.W.Frag) (P : Addr) (Pz : Int → Prop) (f : Int → Int) (te : TE) : TE := fun σ H Q => te σ H fun v H1 => ∃ (a : Addr) (zs : List Int), v = .ref a ∧ SqL K H1 a (zs.map V.int) ∧ (∀ z ∈ zs, Pz z) ∧ TabG H1 P ∧ ∀ H2, Tabbed P H1 H2 → Q (.int (zs.map f).sum) H2
theorem pe_sumI {c P : Addr} {elt iter : Expr} {x : Str} {px p pos gpos : Pos} {scope : Scope} {Pz : Int → Prop} {f : Int → Int} {te : TE} {k : Nat}
    (hr : Room k X.A) (hg : Gl X "sum") (hm : X.mg "sum" = none) (hb : bootBuiltins "sum" = some (.builtin "sum")) (TB : TabB X.base X.mg c P) (hcode : X.env.code = .ref c) (S : GenS X.env scope x) (hi : PE X iter te)
    (hel : EltI X.prog X.w scope x elt Pz fun z y => ∃ t, y = .int (f z) t)
    (hs : ∀ v, genFold iter X.env v = pure v)
    (he : starEach [.GeneratorExp elt [⟨.Name x px, iter, [], 0⟩] scope gpos] X.env = (false, eval (.GeneratorExp elt [⟨.Name x px, iter, [], 0⟩] scope gpos) X.env) :: starEach [] X.env := by rfl) :
    PE X (.Call (.Name "sum" p) [.GeneratorExp elt [⟨.Name x px, iter, [], 0⟩] scope gpos] [] pos) (tSumI X.K P Pz f te) := by
  refine ⟨fun pins s σ H Q I h => ?_⟩
  refine wpAny_Call_Name_kw (ld_blt I hg hm hb ?_)
  refine PyProof.Rows.callWith_builtin1 ?_ he (by rfl)
  rw [he]
  show wpAny _ _ (spliced ((false, eval (.GeneratorExp elt [⟨.Name x px, iter, [], 0⟩] scope gpos) X.env) :: backTo pos (starEach [] X.env))) _ _ s
  refine Calls.spliced_cons (gen_ints (R := fun zs H1 => ∀ H2, Tabbed P H1 H2 → Q (.int (zs.map f).sum) H2) hr TB hcode S hi hel hs I h (fun _ _ q => q) fun zs H1 g s5 hR hG => ?_)
  obtain ⟨fp, wr, G, St, W, hst, hfp, hI⟩ := hG
  refine Calls.spliced_nil ?_
  refine call_sum_walkAnyS (W.self 0 _ _ _ hst ⟨g, fp, wr, G, _, _, St, fun j => (zs[j]?.map f).getD 0, rfl, W, hst, hfp, fun j y hy => ?_, fun s' t' hmv => ?_⟩)
  · obtain ⟨i, hij, z, e, t, ey⟩ := hy
    obtain ⟨rfl, hj⟩ := range_get hij
    exact ⟨t, by rw [ey]; show _ = Value.int ((zs[j]?.map f).getD 0) t; rw [e]; rfl⟩
  obtain ⟨H2, hT, J⟩ := hI s' hmv
  refine ⟨.int _, H2, J, ⟨t', rfl⟩, ?_⟩
  rw [preSum_get f zs _ (fun i z e => by rw [e]; rfl) zs.length (Nat.le_refl _), List.take_length]
  exact hR H2 hT
/-- all(test for x in range) -/
def tAllR (P : Addr) (C : L2.St → Hp → Int → Int → (Int → Bool) → Prop) (te : TE) : TE := fun σ H Q => te σ H fun v H1 => ∃ (r : Addr) (lo hi : Int) (pb : Int → Bool), v = .ref r ∧ H1 r = some (.rng lo hi) ∧ (-(2 ^ 62) ≤ lo ∧ lo < 2 ^ 62 ∧ -(2 ^ 62) ≤ hi ∧ hi < 2 ^ 62) ∧ TabG H1 P ∧ C σ H1 lo hi pb ∧
  ∀ H2, Tabbed P H1 H2 → Q (.bl ((List.range (hi - lo).toNat).all fun i => pb (lo + (i : Nat)))) H2
theorem pe_allR {c P : Addr} {elt iter : Expr} {x : Str} {px p pos gpos : Pos} {scope : Scope} {C : L2.St → Hp → Int → Int → (Int → Bool) → Prop} {te : TE} {k : Nat}
    (hr : Room k X.A) (hg : Gl X "all") (hm : X.mg "all" = none) (hb : bootBuiltins "all" = some (.builtin "all")) (TB : TabB X.base X.mg c P) (hcode : X.env.code = .ref c) (S : GenS X.env scope x) (hi : PE X iter te)
    (hel : ∀ pins σ lo hi pb H1 s1, Inv X pins σ H1 s1 → TabG H1 P → C σ H1 lo hi pb → EltG X scope P x elt s1 (fun i v => i < (hi - lo).toNat ∧ ∃ t, v = .int (lo + (i : Nat)) t) fun i y => y = .bool (pb (lo + (i : Nat))))
    (hs : ∀ v, genFold iter X.env v = pure v)
    (he : starEach [.GeneratorExp elt [⟨.Name x px, iter, [], 0⟩] scope gpos] X.env = (false, eval (.GeneratorExp elt [⟨.Name x px, iter, [], 0⟩] scope gpos) X.env) :: starEach [] X.env := by rfl) :
    PE X (.Call (.Name "all" p) [.GeneratorExp elt [⟨.Name x px, iter, [], 0⟩] scope gpos] [] pos) (tAllR P C te) := by
  refine ⟨fun pins s σ H Q I h => ?_⟩
  refine wpAny_Call_Name_kw (ld_blt I hg hm hb ?_)
  refine PyProof.Rows.callWith_builtin1 ?_ he (by rfl)
  rw [he]
  show wpAny _ _ (spliced ((false, eval (.GeneratorExp elt [⟨.Name x px, iter, [], 0⟩] scope gpos) X.env) :: backTo pos (starEach [] X.env))) _ _ s
  refine Calls.spliced_cons (gen_rngP (Y := Int → Bool) (F := fun lo hi pb i y => y = .bool (pb (lo + (i : Nat)))) (R := fun lo hi pb H1 => C σ H1 lo hi pb ∧ ∀ H2, Tabbed P H1 H2 → Q (.bl ((List.range (hi - lo).toNat).all fun i => pb (lo + (i : Nat)))) H2)
    hr TB hcode S hi (fun lo hi pb H1 s1 I1 hT hR => hel pins σ lo hi pb H1 s1 I1 hT hR.1) hs I h (fun _ _ q => q) fun lo hi pb H1 g s5 hR hG => ?_)
  obtain ⟨fp, wr, G, St, W, hst, hfp, hI⟩ := hG
  refine Calls.spliced_nil ?_
  refine call_all_walkS (W.self 0 _ _ _ hst ⟨g, fp, wr, G, _, _, St, fun i => pb (lo + (i : Nat)), rfl, W, hst, truth_of fun i y hi hy => hy, fun s' hmv => ?_⟩)
  obtain ⟨H2, hT, J⟩ := hI s' hmv
  exact ⟨.bl _, H2, J, rfl, hR.2 H2 hT⟩
end

/-! ### elements -/
/-- x < 0 -/
theorem elt_neg {prog : Program} {w : World} {scope : Scope} {x : Str} {j : Nat} {p1 p2 p3 : Pos} (hk : scope.kind = .function) (hl : scope.names.lookup x = some .local) (hd : (x == ("__debug__" : Str)) = false := by decide) :
    EltI prog w scope x (.Compare (.Name x p1) [.Lt] [.Constant (.int 0) j p2] p3) (fun _ => True) fun z y => y = .bool (decide (z < 0)) := by
  intro cenv A' E' z t s₂ m₂ hs _ hn hm
  refine wpAny_Compare1 ?_
  refine wpAny_Name (wpAny_loadName_local (by rw [hs]; exact hk) (show cenv.scope.names.lookup x = some .local by rw [hs]; exact hl) hn hm ?_) hd
  refine wpAny_Constant_int ?_
  exact PySem.P.lt_int ⟨rfl, keeps_tok _ _⟩
/-- x * x -/
theorem elt_sq {prog : Program} {w : World} {scope : Scope} {x : Str} {p1 p2 p3 : Pos} (hk : scope.kind = .function) (hl : scope.names.lookup x = some .local) (hd : (x == ("__debug__" : Str)) = false := by decide) :
    EltI prog w scope x (.BinOp (.Name x p1) .Mult (.Name x p2) p3) (fun z => CMulW z z) fun z y => ∃ t, y = .int (z * z) t := by
  intro cenv A' E' z t s₂ m₂ hs hz hn hm
  have ld : ∀ {p : Pos} {Q : Value → Shared → Prop}, Q (.int z t) s₂ → wpAny (model prog w) A' (eval (.Name x p) cenv) Q E' s₂ := fun h =>
    wpAny_Name (wpAny_loadName_local (by rw [hs]; exact hk) (show cenv.scope.names.lookup x = some .local by rw [hs]; exact hl) hn hm h) hd
  refine wpAny_BinOp (ld (ld ?_))
  exact PySem.P.mul_int ⟨⟨_, rfl⟩, keeps_tok _ _⟩ hz.ok

/-- what is known where x[k] > x[k - 1] is asked -/
def upC (K : PySem.W.Frag) (i : Nat) : L2.St → Hp → Int → Int → (Int → Bool) → Prop := fun σ H lo hi pb => ∃ (a : Addr) (zs : List Int), σ[i]? = some (some (.ref a)) ∧ SqL K H a (zs.map V.int) ∧ zs.length < 2 ^ 62 ∧ 1 ≤ lo ∧ hi ≤ zs.length ∧
  pb = fun k => decide (zs.getD (k - 1).toNat 0 < zs.getD k.toNat 0)
theorem cell_read {X : Cx} {pins : List (Addr × Obj)} {σ : L2.St} {H1 : Hp} {s1 : Shared} {P : Addr} {i : Nat} {x : Str} {v : V} {scope : Scope} (I1 : Inv X pins σ H1 s1) (hT : TabG H1 P) (hN : X.N[i]? = some x) (hv : X.env.scope.names.lookup x = some .cell) (hl : scope.names.lookup x = some .free) (hσ : σ[i]? = some (some v)) :
    ∃ c u, RelV v u ∧ (cloFrom X.env.cells scope.names []).lookup x = some c ∧ c ≠ P ∧ s1.heap.IsCell c (some u) := by
  obtain ⟨m, hn, hlo⟩ := I1.loc
  obtain ⟨u, r, l⟩ := hlo i x v hN hσ (.inr (.inl hv))
  rcases l with ⟨hk, _⟩ | ⟨_, c, hc, hcell⟩
  · have hk : X.env.scope.names.lookup x = some .local := hk
    rw [hv] at hk
    cases hk
  · have hy : (x, NameKind.free) ∈ scope.names := PySem.mem_of_lookup hl
    obtain ⟨c', e'⟩ := mem_lookup (cloFrom_has (cells := X.env.cells) (acc := []) hy)
    have ec : c' = c := by
      rcases cloFrom_mem (PySem.mem_of_lookup e') with hm | ⟨_, e⟩
      · cases hm
      · rw [hc] at e
        exact e
    rw [ec] at e'
    refine ⟨c, u, r, e', fun z => ?_, hcell⟩
    obtain ⟨ps, hP, _⟩ := hT
    have hPs : s1.heap.get? P = some { cls := .none, data := .fields ps } := I1.hok P _ hP
    obtain ⟨o, ho, hd⟩ := hcell
    rw [z, hPs] at ho
    cases ho
    cases hd
theorem elt_up {X : Cx} {P : Addr} {scope : Scope} {x k : Str} {i j : Nat} {p1 p2 p3 p4 p5 p6 p7 p8 p9 : Pos} (hk : scope.kind = .function) (hkl : scope.names.lookup k = some .local) (hl : scope.names.lookup x = some .free)
    (hN : X.N[i]? = some x) (hv : X.env.scope.names.lookup x = some .cell) (hd : (k == ("__debug__" : Str)) = false := by decide) (hdx : (x == ("__debug__" : Str)) = false := by decide) (hcd : (x == ("__classdict__" : Str)) = false := by decide)
    (pins : List (Addr × Obj)) (σ : L2.St) (lo hi : Int) (pb : Int → Bool) (H1 : Hp) (s1 : Shared) (I1 : Inv X pins σ H1 s1) (hT : TabG H1 P) (hC : upC X.K i σ H1 lo hi pb) :
    EltG X scope P k (.Compare (.Subscript (.Name x p1) (.Name k p2) p3) [.Gt] [.Subscript (.Name x p4) (.BinOp (.Name k p5) .Sub (.Constant (.int 1) j p6) p7) p8] p9) s1
      (fun i v => i < (hi - lo).toNat ∧ ∃ t, v = .int (lo + (i : Nat)) t) fun i y => y = .bool (pb (lo + (i : Nat))) := by
  obtain ⟨a, zs, hσ, hq, hzl, hlo, hhi, hpb⟩ := hC
  obtain ⟨c, u, r, hc, hcP, hcell⟩ := cell_read I1 hT hN hv hl hσ
  obtain rfl : u = Value.ref a := r
  obtain ⟨its, rv, hpl, hz⟩ := I1.list hq
  have hIL := hpl.isList
  have haP : a ≠ P := fun z => by
    obtain ⟨ps, hP, _⟩ := hT
    have hPs : s1.heap.get? P = some { cls := .none, data := .fields ps } := I1.hok P _ hP
    obtain ⟨_, e, hc1, _, hd1⟩ := _root_.id hIL
    rw [z, hPs] at e
    cases e
    cases hd1
  have hat : ∀ (n : Nat), n < zs.length → ∃ t, its.toArray[n]? = some (.int (zs.getD n 0) t) := fun n hn => by
    have hb : (zs.map V.int)[n]? = some (V.int (zs.getD n 0)) := by
      rw [List.getElem?_map, List.getElem?_eq_getElem hn, List.getD_eq_getElem?_getD, List.getElem?_eq_getElem hn]
      rfl
    obtain ⟨u, hu, t, e⟩ := rv.get hb
    exact ⟨t, by rw [← e]; simpa using hu⟩
  intro cenv A' E' n v s₂ m₂ hA hsc hce hval hn hm hkeep
  obtain ⟨hnl, t, rfl⟩ := hval
  have kk : cenv.scope.kind = .function := by rw [hsc]; exact hk
  have kl : cenv.kindOf k = some .local := (show cenv.scope.names.lookup k = some .local by rw [hsc]; exact hkl)
  have kx : cenv.kindOf x = some .free := (show cenv.scope.names.lookup x = some .free by rw [hsc]; exact hl)
  have hcc : cenv.cells.lookup x = some c := by rw [hce]; exact hc
  have ldk : ∀ {p : Pos} {Q : Value → Shared → Prop} {tk : Nat}, Q (.int (lo + (n : Nat)) t) { s₂ with toks := tk } → wpAny (model X.prog X.w) A' (eval (.Name k p) cenv) Q E' { s₂ with toks := tk } := fun h =>
    wpAny_Name (wpAny_loadName_local kk kl (show Heap.Ns s₂.heap cenv.locals m₂ from hn) hm h) hd
  have hcell2 : s₂.heap.IsCell c (some (.ref a)) := by
    obtain ⟨o, ho, hd⟩ := hcell
    exact ⟨o, hkeep _ _ hcP ho, hd⟩
  have ldx : ∀ {p : Pos} {Q : Value → Shared → Prop} {tk : Nat}, Q (.ref a) { s₂ with toks := tk } → wpAny (model X.prog X.w) A' (eval (.Name x p) cenv) Q E' { s₂ with toks := tk } := fun h =>
    wpAny_Name (wpAny_loadName_free kk kx hcc (show Heap.IsCell s₂.heap c (some (.ref a)) from hcell2) h hcd) hdx
  have hIL2 : s₂.heap.IsList a its.toArray := by
    obtain ⟨ob, e, r⟩ := _root_.id hIL
    exact ⟨ob, hkeep _ _ haP e, r⟩
  have e0 : ({ s₂ with toks := s₂.toks } : Shared) = s₂ := rfl
  have i1 : (lo + (n : Nat)).toNat < zs.length := by omega
  have i2 : (lo + (n : Nat) - 1).toNat < zs.length := by omega
  obtain ⟨t1, g1⟩ := hat _ i1
  obtain ⟨t2, g2⟩ := hat _ i2
  rw [← e0]
  refine wpAny_Compare1 (Subscript_Name (ldx (ldk ⟨"list", _, slot_list_getitem.lookup, Heap.IsList.typeIs (s := { s₂ with toks := s₂.toks }) hIL2, wpAny_getItem_list (s := { s₂ with toks := s₂.toks }) hIL2 (by omega) (by omega) g1 ?_⟩)))
  refine Subscript_BinOp (ldx (wpAny_BinOp (ldk (wpAny_Constant_int (PySem.P.sub_int ?_)))))
  refine ⟨"list", _, slot_list_getitem.lookup, Heap.IsList.typeIs (s := { s₂ with toks := _ }) hIL2, wpAny_getItem_list (s := { s₂ with toks := _ }) hIL2 (by omega) (by omega) g2 ?_⟩
  refine PySem.P.gt_int ⟨?_, keeps_tok _ _⟩
  rw [hpb]
end TwG
set_option Elab.async false
set_option linter.all false
set_option maxRecDepth 100000
set_option maxHeartbeats 2000000
/-! list(zip(a, b)) of two lists, as a value. -/
namespace TwZ
open PySem PySem.Spec PyProof.Rows L2
open PySem.Sem (wp)
theorem wpAny_loadIfAlive {M : Model} {A : Around} {E : Value → Shared → Prop} {s : Shared} {a : Addr} {Q : Option Obj → Shared → Prop} (h : Q (s.heap.get? a) s) : wpAny M A (loadIfAlive a) Q E s := fun Γ p _ => h

/-- a zip whose last tuple T is still held -/
abbrev IsZipA (h : Heap) (z TI TO T : Addr) (b : Bool) : Prop :=
  h.get? z = some { cls := .type "zip", dict := none, data := .fields #[rawInt T, .bool b, .bool false, .ref TI, .ref TO], slots := #[] }

section
variable {prog : Program} {w : World} {A : Around} {E : Value → Shared → Prop} {s : Shared}
theorem not_free {z TI TO T : Addr} {b : Bool} {Q : Bool → Shared → Prop} (hz : IsZipA s.heap z TI TO T b) (hT : (s.heap.get? T).isSome = true) (hQ : ∀ h', IsZipA h' z TI TO T true → Heap.SameBut z s.heap h' → Q false { s with heap := h' }) :
    wpAny (model prog w) A (Builtin.SmallTypes.ownedTupleIsFree (.ref z)) Q E s := by
  unfold Builtin.SmallTypes.ownedTupleIsFree
  refine wpAny_bind (wpAny_field hz rfl (x := rawInt T) rfl ?_)
  show wpAny _ _ (loadIfAlive (Int.toNat (T : Int)) >>= _) _ _ _
  refine wpAny_bind (wpAny_loadIfAlive ?_)
  have e : Int.toNat (T : Int) = T := rfl
  rw [e]
  obtain ⟨o, ho⟩ := Option.isSome_iff_exists.mp hT
  rw [ho]
  simp only [Option.isNone_some, Bool.false_eq_true, if_false]
  cases b with
  | false =>
    refine wpAny_bind (wpAny_field hz rfl (x := .bool false) rfl ?_)
    rw [if_pos (by decide)]
    refine wpAny_bind (wpAny_setField_rec hz (by simp) fun h1 hz1 hs1 => wpAny_pure (hQ h1 hz1 hs1))
  | true =>
    refine wpAny_bind (wpAny_field hz rfl (x := .bool true) rfl ?_)
    rw [if_neg (by decide)]
    first
      | exact wpAny_pure (hQ s.heap hz (Heap.SameBut.refl _ _))
      | exact wpAny_bind (wpAny_pure (wpAny_pure (hQ s.heap hz (Heap.SameBut.refl _ _))))

theorem zipA_next_item {z TI TO T i1 i2 l1 l2 : Addr} {k1 k2 : Nat} {b : Bool} {xs ys : Array Value} {x y : Value} {Q : Value → Shared → Prop} (D : ZipApart z TI TO i1 i2 l1 l2)
    (hz : IsZipA s.heap z TI TO T b) (hT : (s.heap.get? T).isSome = true) (hTI : IsPair s.heap TI (.ref i1) (.ref i2))
    (h1 : s.heap.IsListIter i1 l1 k1) (h2 : s.heap.IsListIter i2 l2 k2) (hl1 : s.heap.IsList l1 xs) (hl2 : s.heap.IsList l2 ys) (hx : xs[k1]? = some x) (hy : ys[k2]? = some y)
    (hQ : ∀ h', IsZipA h' z TI TO T true → h'.IsListIter i1 l1 (k1 + 1) → h'.IsListIter i2 l2 (k2 + 1) → IsPair h' s.heap.objs.size x y → h'.objs.size = s.heap.objs.size + 1 →
      (∀ c o, c ≠ z → c ≠ i1 → c ≠ i2 → s.heap.get? c = some o → h'.get? c = some o) → Q (.ref s.heap.objs.size) { s with heap := h' }) :
    wpAny (model prog w) A (Builtin.«zip.__next__» ⟨[.ref z], []⟩) (fun fin s' => ∃ v, fin = .done (.ret v) ∧ Q v s') E s := by
  show wpAny _ _ (field (.ref z) 2 >>= _) _ _ _
  refine wpAny_bind (wpAny_field hz rfl (x := .bool false) rfl ?_)
  show wpAny _ _ (field (.ref z) 3 >>= _) _ _ _
  refine wpAny_bind (wpAny_field hz rfl (x := .ref TI) rfl ?_)
  refine wpAny_bind (wpAny_seqItems hTI rfl ?_)
  show wpAny _ _ (Builtin.SmallTypes.ownedTupleIsFree (.ref z) >>= _) _ _ _
  refine wpAny_bind (not_free hz hT fun h₁ hz₁ hs₁ => ?_)
  simp only [Bool.false_eq_true, if_false]
  have hk₁ : ∀ c o, c ≠ z → s.heap.get? c = some o → h₁.get? c = some o := fun c o c1 e => hs₁.extBut _ _ c1 e
  have hsz₁ : h₁.objs.size = s.heap.objs.size := hs₁.1
  refine wpAny_bind ?_
  simp only [← Array.forIn_toList, List.forIn_cons, List.forIn_nil]
  refine wpAny_bind (wpAny_bind (wpAny_holding ?_))
  show wpAny _ _ (Builtin.SmallTypes.nextOf (.ref i1) >>= _) _ _ _
  refine wpAny_bind (wpAny_nextOf_list_item (h1.extBut hs₁.extBut D.i1z) (hl1.extBut hs₁.extBut D.l1z) hx fun h₂ h1₂ hs₂ => wpAny_pure ?_)
  refine wpAny_pure ?_
  refine wpAny_bind (wpAny_bind (wpAny_holding ?_))
  show wpAny _ _ (Builtin.SmallTypes.nextOf (.ref i2) >>= _) _ _ _
  refine wpAny_bind (wpAny_nextOf_list_item ((h2.extBut hs₁.extBut D.i2z).extBut hs₂.extBut D.i12.symm) ((hl2.extBut hs₁.extBut D.l2z).extBut hs₂.extBut D.l2i1) hy fun h₃ h2₃ hs₃ => wpAny_pure ?_)
  refine wpAny_pure (wpAny_pure ?_)
  have sz : h₃.objs.size = s.heap.objs.size := by rw [hs₃.1, hs₂.1, hs₁.1]
  have hz₃ : IsZipA h₃ z TI TO T true := hs₃.extBut _ _ D.i2z.symm (hs₂.extBut _ _ D.i1z.symm hz₁)
  show wpAny _ _ (newTuple [x, y] >>= _) _ _ _
  refine wpAny_bind (wpAny_newTuple ?_)
  refine wpAny_pure ⟨_, rfl, ?_⟩
  show Q (.ref h₃.objs.size) _
  rw [sz]
  refine hQ _ (Heap.get?_push_of_some _ hz₃) ((h1₂.extBut hs₃.extBut D.i12).at fun o e => Heap.get?_push_of_some _ e) (h2₃.at fun o e => Heap.get?_push_of_some _ e) ?_ (by rw [Heap.size_push, sz]) fun c o c1 c2 c3 e => Heap.get?_push_of_some _ (hs₃.extBut _ _ c3 (hs₂.extBut _ _ c2 (hk₁ c o c1 e)))
  rw [← sz]
  exact Heap.get?_push_size _ rfl

theorem zipA_next_end {z TI TO T i1 i2 l1 l2 : Addr} {k1 k2 : Nat} {b : Bool} {xs ys : Array Value} {Q : Fin → Shared → Prop} (hh : A.handled = none) (D : ZipApart z TI TO i1 i2 l1 l2)
    (hz : IsZipA s.heap z TI TO T b) (hT : (s.heap.get? T).isSome = true) (hTI : IsPair s.heap TI (.ref i1) (.ref i2))
    (h1 : s.heap.IsListIter i1 l1 k1) (h2 : s.heap.IsListIter i2 l2 k2) (hl1 : s.heap.IsList l1 xs) (hl2 : s.heap.IsList l2 ys) (hend : xs[k1]? = none ∨ ys[k2]? = none)
    (hE : ∀ h' e, (∀ c o, c ≠ z → c ≠ i1 → c ≠ i2 → s.heap.get? c = some o → h'.get? c = some o) → (∃ o, h'.get? e = some o ∧ o.cls = .type "StopIteration") → E (.ref e) { s with heap := h' }) :
    wpAny (model prog w) A (Builtin.«zip.__next__» ⟨[.ref z], []⟩) Q E s := by
  show wpAny _ _ (field (.ref z) 2 >>= _) _ _ _
  refine wpAny_bind (wpAny_field hz rfl (x := .bool false) rfl ?_)
  show wpAny _ _ (field (.ref z) 3 >>= _) _ _ _
  refine wpAny_bind (wpAny_field hz rfl (x := .ref TI) rfl ?_)
  refine wpAny_bind (wpAny_seqItems hTI rfl ?_)
  show wpAny _ _ (Builtin.SmallTypes.ownedTupleIsFree (.ref z) >>= _) _ _ _
  refine wpAny_bind (not_free hz hT fun h₁ hz₁ hs₁ => ?_)
  simp only [Bool.false_eq_true, if_false]
  have hk₁ : ∀ c o, c ≠ z → s.heap.get? c = some o → h₁.get? c = some o := fun c o c1 e => hs₁.extBut _ _ c1 e
  refine wpAny_bind ?_
  simp only [← Array.forIn_toList, List.forIn_cons, List.forIn_nil]
  refine wpAny_bind (wpAny_bind (wpAny_holding ?_))
  show wpAny _ _ (Builtin.SmallTypes.nextOf (.ref i1) >>= _) _ _ _
  cases hx : xs[k1]? with
  | none =>
    refine wpAny_bind (wpAny_nextOf_list_end hh (h1.extBut hs₁.extBut D.i1z) (hl1.extBut hs₁.extBut D.l1z) hx fun h₂ e hs₂ he => ?_)
    exact hE h₂ e (fun c o c1 c2 _ x => hs₂ _ _ c2 (hk₁ c o c1 x)) he
  | some x =>
    have hy : ys[k2]? = none := by rcases hend with h | h; rw [hx] at h; cases h; exact h
    refine wpAny_bind (wpAny_nextOf_list_item (h1.extBut hs₁.extBut D.i1z) (hl1.extBut hs₁.extBut D.l1z) hx fun h₂ h1₂ hs₂ => wpAny_pure ?_)
    refine wpAny_pure ?_
    refine wpAny_bind (wpAny_bind (wpAny_holding ?_))
    show wpAny _ _ (Builtin.SmallTypes.nextOf (.ref i2) >>= _) _ _ _
    refine wpAny_bind (wpAny_nextOf_list_end hh ((h2.extBut hs₁.extBut D.i2z).extBut hs₂.extBut D.i12.symm) ((hl2.extBut hs₁.extBut D.l2z).extBut hs₂.extBut D.l2i1) hy fun h₃ e hs₃ he => ?_)
    exact hE h₃ e (fun c o c1 c2 c3 x => hs₃ _ _ c3 (hs₂.extBut _ _ c2 (hk₁ c o c1 x))) he

theorem pyNext_zipA_item {z TI TO T i1 i2 l1 l2 : Addr} {k1 k2 : Nat} {b : Bool} {xs ys : Array Value} {x y : Value} {Q : Option Value → Shared → Prop} (D : ZipApart z TI TO i1 i2 l1 l2)
    (hz : IsZipA s.heap z TI TO T b) (hT : (s.heap.get? T).isSome = true) (hTI : IsPair s.heap TI (.ref i1) (.ref i2))
    (h1 : s.heap.IsListIter i1 l1 k1) (h2 : s.heap.IsListIter i2 l2 k2) (hl1 : s.heap.IsList l1 xs) (hl2 : s.heap.IsList l2 ys) (hx : xs[k1]? = some x) (hy : ys[k2]? = some y)
    (hQ : ∀ h', IsZipA h' z TI TO T true → h'.IsListIter i1 l1 (k1 + 1) → h'.IsListIter i2 l2 (k2 + 1) → IsPair h' s.heap.objs.size x y → h'.objs.size = s.heap.objs.size + 1 →
      (∀ c o, c ≠ z → c ≠ i1 → c ≠ i2 → s.heap.get? c = some o → h'.get? c = some o) → Q (some (.ref s.heap.objs.size)) { s with heap := h' }) :
    wpAny (model prog w) A (pyNext (.ref z)) Q E s := by
  have hT2 : s.TypeIs (.ref z) "zip" := ⟨_, hz, rfl⟩
  unfold pyNext
  exact wpAny_bind (wpAny_attempt (wpAny_callSpecial?_slot (name := Str.ofString "__next__") hT2 F.slot_zip_next
    (wpAny_call_entry F.slot_zip_next hT2 F.entry_zip_next
      (zipA_next_item D hz hT hTI h1 h2 hl1 hl2 hx hy fun h' a1 a3 a4 a5 a6 a7 => wpAny_pure (hQ h' a1 a3 a4 a5 a6 a7)) (F.args_zip_next_1 _))))
theorem pyNext_zipA_end {z TI TO T i1 i2 l1 l2 : Addr} {k1 k2 : Nat} {b : Bool} {xs ys : Array Value} {Q : Option Value → Shared → Prop} (hh : A.handled = none) (D : ZipApart z TI TO i1 i2 l1 l2)
    (hz : IsZipA s.heap z TI TO T b) (hT : (s.heap.get? T).isSome = true) (hTI : IsPair s.heap TI (.ref i1) (.ref i2))
    (h1 : s.heap.IsListIter i1 l1 k1) (h2 : s.heap.IsListIter i2 l2 k2) (hl1 : s.heap.IsList l1 xs) (hl2 : s.heap.IsList l2 ys) (hend : xs[k1]? = none ∨ ys[k2]? = none)
    (hQ : ∀ h', (∀ c o, c ≠ z → c ≠ i1 → c ≠ i2 → s.heap.get? c = some o → h'.get? c = some o) → Q none { s with heap := h' }) : wpAny (model prog w) A (pyNext (.ref z)) Q E s := by
  have hT2 : s.TypeIs (.ref z) "zip" := ⟨_, hz, rfl⟩
  unfold pyNext
  refine wpAny_bind (wpAny_attempt (wpAny_callSpecial?_slot (name := Str.ofString "__next__") hT2 F.slot_zip_next
    (wpAny_call_entry F.slot_zip_next hT2 F.entry_zip_next (zipA_next_end hh D hz hT hTI h1 h2 hl1 hl2 hend fun h' e hk he => ?_) (F.args_zip_next_1 _))))
  obtain ⟨o, ho, hc⟩ := he
  refine wpAny_bind (wpAny_isInstance (T := "StopIteration") (b := true) ⟨o, ho, hc⟩ isSubtype_stop ?_)
  exact wpAny_pure (hQ _ hk)

/-- the zip at z at its i-th turn, fresh or with a tuple held -/
structure ZS (z TI TO i1 i2 l1 l2 : Addr) (xs ys : Array Value) (i : Nat) (h : Heap) : Prop where
  ti : IsPair h TI (.ref i1) (.ref i2)
  a1 : h.IsListIter i1 l1 i
  a2 : h.IsListIter i2 l2 i
  b1 : h.IsList l1 xs
  b2 : h.IsList l2 ys
  to : ∃ a b, IsPair h TO a b
  st : IsZip h z TI TO .none ∨ ∃ T b, IsZipA h z TI TO T b ∧ (h.get? T).isSome = true
theorem ZS.keeps {z TI TO i1 i2 l1 l2 : Addr} {xs ys : Array Value} {i : Nat} {h h' : Heap} {S : Addr} (x : ZS z TI TO i1 i2 l1 l2 xs ys i h) (hk : ∀ b o, b ≠ S → h.get? b = some o → h'.get? b = some o) (hS : ∃ o, h'.get? S = some o)
    (nS : S ≠ z ∧ S ≠ TI ∧ S ≠ TO ∧ S ≠ i1 ∧ S ≠ i2 ∧ S ≠ l1 ∧ S ≠ l2) : ZS z TI TO i1 i2 l1 l2 xs ys i h' := by
  obtain ⟨n1, n2, n3, n4, n5, n6, n7⟩ := nS
  refine ⟨hk _ _ (Ne.symm n2) x.ti, x.a1.at fun o e => hk _ o (Ne.symm n4) e, x.a2.at fun o e => hk _ o (Ne.symm n5) e, x.b1.at fun o e => hk _ o (Ne.symm n6) e, x.b2.at fun o e => hk _ o (Ne.symm n7) e, (let ⟨a, b, ho⟩ := x.to; ⟨a, b, hk _ _ (Ne.symm n3) ho⟩), ?_⟩
  rcases x.st with hz | ⟨T, b, hz, hT⟩
  · exact .inl (hk _ _ (Ne.symm n1) hz)
  · refine .inr ⟨T, b, hk _ _ (Ne.symm n1) hz, ?_⟩
    by_cases e : T = S
    · rw [e]
      exact Option.isSome_iff_exists.mpr hS
    · obtain ⟨o, ho⟩ := Option.isSome_iff_exists.mp hT
      exact Option.isSome_iff_exists.mpr ⟨o, hk _ _ e ho⟩
theorem ZS.item {z TI TO i1 i2 l1 l2 : Addr} {xs ys : Array Value} {i : Nat} {x y : Value} {Q : Option Value → Shared → Prop} (D : ZipApart z TI TO i1 i2 l1 l2) (Z : ZS z TI TO i1 i2 l1 l2 xs ys i s.heap) (hx : xs[i]? = some x) (hy : ys[i]? = some y)
    (hQ : ∀ h', ZS z TI TO i1 i2 l1 l2 xs ys (i + 1) h' → IsPair h' s.heap.objs.size x y → (∀ c o, c ≠ z → c ≠ TO → c ≠ i1 → c ≠ i2 → s.heap.get? c = some o → h'.get? c = some o) → Q (some (.ref s.heap.objs.size)) { s with heap := h' }) :
    wpAny (model prog w) A (pyNext (.ref z)) Q E s := by
  have lt : ∀ {c o}, s.heap.get? c = some o → c ≠ s.heap.objs.size := fun e => Nat.ne_of_lt (Heap.lt_size e)
  obtain ⟨a, b0, ho⟩ := Z.to
  rcases Z.st with hz | ⟨T, b, hz, hT⟩
  · refine wpAny_pyNext_zip_item D hz Z.ti ho Z.a1 Z.a2 Z.b1 Z.b2 hx hy fun h' c1 c2 c3 c4 c5 c6 hk => hQ h' ⟨hk _ _ D.TIz D.TITO D.TIi1 D.TIi2 Z.ti, c3, c4, Z.b1.at fun o e => hk _ o D.l1z D.l1TO D.l1i1 D.l1i2 e, Z.b2.at fun o e => hk _ o D.l2z D.l2TO D.l2i1 D.l2i2 e, ⟨_, _, c2⟩, .inr ⟨s.heap.objs.size, false, c1, ?_⟩⟩ c5 hk
    rw [c5]
    rfl
  · refine pyNext_zipA_item D hz hT Z.ti Z.a1 Z.a2 Z.b1 Z.b2 hx hy fun h' c1 c3 c4 c5 c6 hk => hQ h' ⟨hk _ _ D.TIz D.TIi1 D.TIi2 Z.ti, c3, c4, Z.b1.at fun o e => hk _ o D.l1z D.l1i1 D.l1i2 e, Z.b2.at fun o e => hk _ o D.l2z D.l2i1 D.l2i2 e, ⟨_, _, hk _ _ D.TOz D.TOi1 D.TOi2 ho⟩, .inr ⟨T, true, c1, ?_⟩⟩ c5 (fun c o e1 _ e3 e4 e => hk c o e1 e3 e4 e)
    obtain ⟨oT, hoT⟩ := Option.isSome_iff_exists.mp hT
    by_cases e1 : T = z
    · rw [e1, c1]; rfl
    · by_cases e2 : T = i1
      · obtain ⟨o', ho', _⟩ := c3
        rw [e2, ho']; rfl
      · by_cases e3 : T = i2
        · obtain ⟨o', ho', _⟩ := c4
          rw [e3, ho']; rfl
        · rw [hk _ _ e1 e2 e3 hoT]; rfl
theorem ZS.done {z TI TO i1 i2 l1 l2 : Addr} {xs ys : Array Value} {i : Nat} {Q : Option Value → Shared → Prop} (hh : A.handled = none) (D : ZipApart z TI TO i1 i2 l1 l2) (Z : ZS z TI TO i1 i2 l1 l2 xs ys i s.heap) (hend : xs[i]? = none ∨ ys[i]? = none)
    (hQ : ∀ h', (∀ c o, c ≠ z → c ≠ TO → c ≠ i1 → c ≠ i2 → s.heap.get? c = some o → h'.get? c = some o) → Q none { s with heap := h' }) : wpAny (model prog w) A (pyNext (.ref z)) Q E s := by
  obtain ⟨a, b0, ho⟩ := Z.to
  rcases Z.st with hz | ⟨T, b, hz, hT⟩
  · exact wpAny_pyNext_zip_end hh D hz Z.ti ho Z.a1 Z.a2 Z.b1 Z.b2 hend hQ
  · exact pyNext_zipA_end hh D hz hT Z.ti Z.a1 Z.a2 Z.b1 Z.b2 hend fun h' hk => hQ h' fun c o e1 _ e3 e4 e => hk c o e1 e3 e4 e
end

/-- the tuples ts made so far -/
def Made (xs ys : Array Value) (bad : Addr → Prop) (ts : List Addr) (h : Heap) : Prop := ∀ (j : Nat) (t : Addr), ts[j]? = some t → ∃ x y, xs[j]? = some x ∧ ys[j]? = some y ∧ IsPair h t x y ∧ ¬ bad t
section
variable {prog : Program} {w : World} {A : Around} {R : Result → Shared → Prop}
theorem extend_zip {z TI TO i1 i2 l1 l2 S : Addr} {xs ys : Array Value} (hh : A.handled = none) (D : ZipApart z TI TO i1 i2 l1 l2) (nS : S ≠ z ∧ S ≠ TI ∧ S ≠ TO ∧ S ≠ i1 ∧ S ≠ i2 ∧ S ≠ l1 ∧ S ≠ l2) (n : Nat) (hn : n ≤ sizeLine) (hnx : n = min xs.size ys.size) (res : Value) (h0 : Heap) :
    ∀ (k i : Nat) (s : Shared) (ts : List Addr) (c : Nat), n - i = k → i ≤ n → ZS z TI TO i1 i2 l1 l2 xs ys i s.heap → s.heap.get? S = some { cls := .type "list", dict := none, data := .seq (ts.map Value.ref).toArray c, slots := #[] } → ts.length = i →
    Made xs ys (fun t => t < h0.objs.size ∨ t = z ∨ t = TO ∨ t = i1 ∨ t = i2 ∨ t = S) ts s.heap → (∀ b o, b ≠ z → b ≠ TO → b ≠ i1 → b ≠ i2 → b ≠ S → h0.get? b = some o → s.heap.get? b = some o) → h0.objs.size ≤ s.heap.objs.size →
    (∀ h' ts' c', (∀ b o, b ≠ z → b ≠ TO → b ≠ i1 → b ≠ i2 → b ≠ S → h0.get? b = some o → h'.get? b = some o) → h'.get? S = some { cls := .type "list", dict := none, data := .seq (ts'.map Value.ref).toArray c', slots := #[] } → ts'.length = n →
      Made xs ys (fun t => t < h0.objs.size ∨ t = z ∨ t = TO ∨ t = i1 ∨ t = i2 ∨ t = S) ts' h' → ts'.Nodup → R (.ok (.ret res)) { s with heap := h' }) → ts.Nodup →
    codeAny (model prog w) A (.builtin "list.extend.loop" ⟨[.ref S, .ref z, res], []⟩) R s := by
  obtain ⟨n1, n2, n3, n4, n5, n6, n7⟩ := nS
  intro k
  induction k with
  | zero =>
    intro i s ts c hk hi Z hS hl hM hkeep hsz hR hnd
    have hin : i = n := by omega
    refine codeAny_builtin F.entry_extend_loop ?_
    rw [Around.under_plainId F.plain_extend_loop _]
    show wpAny _ A.in1 (pyNext (.ref z) >>= _) _ _ s
    refine wpAny_bind (ZS.done (A := A.in1) hh D Z ?_ fun h' hk' => ?_)
    · rw [hin, hnx]
      rcases Nat.le_total xs.size ys.size with q | q
      · left
        rw [Nat.min_eq_left q]
        simp
      · right
        rw [Nat.min_eq_right q]
        simp
    refine wpAny_pure (hR h' ts c (fun b o e1 e2 e3 e4 e5 e => hk' b o e1 e2 e3 e4 (hkeep b o e1 e2 e3 e4 e5 e)) (hk' _ _ n1 n3 n4 n5 hS) (by omega) (fun j t hj => ?_) hnd)
    obtain ⟨x, y, ex, ey, hp, hb⟩ := hM j t hj
    have hb2 : ¬ (t < h0.objs.size ∨ t = z ∨ t = TO ∨ t = i1 ∨ t = i2 ∨ t = S) := hb
    exact ⟨x, y, ex, ey, hk' _ _ (fun q => hb2 (by simp [q])) (fun q => hb2 (by simp [q])) (fun q => hb2 (by simp [q])) (fun q => hb2 (by simp [q])) hp, hb⟩
  | succ k ih =>
    intro i s ts c hk hi Z hS hl hM hkeep hsz hR hnd
    have hlt : i < n := by omega
    have hix : i < xs.size := by omega
    have hiy : i < ys.size := by omega
    refine codeAny_builtin F.entry_extend_loop ?_
    rw [Around.under_plainId F.plain_extend_loop _]
    show wpAny _ A.in1 (pyNext (.ref z) >>= _) _ _ s
    refine wpAny_bind (ZS.item (A := A.in1) D Z (Array.getElem?_eq_getElem hix) (Array.getElem?_eq_getElem hiy) fun h' Z' hp hk' => ?_)
    have hS' := hk' _ _ n1 n3 n4 n5 hS
    show wpAny _ A.in1 (updateSeq S (·.push (.ref s.heap.objs.size)) >>= _) _ _ _
    refine wpAny_bind ?_
    have szS : ((ts.map Value.ref).toArray : Array Value).size = i := by simp [hl]
    have ne : ∀ {b o}, s.heap.get? b = some o → s.heap.objs.size ≠ b := fun e => Nat.ne_of_gt (Heap.lt_size e)
    have hTs : s.heap.objs.size ≠ S := ne hS
    have upd : ∀ b o, b ≠ S → h'.get? b = some o → (h'.update S (Obj.mapSeq (·.push (.ref s.heap.objs.size)))).get? b = some o := fun b o hb e => (Heap.get?_update_other _ _ (Ne.symm hb)).trans e
    have hS2 := Heap.get?_update_self (Obj.mapSeq (·.push (Value.ref s.heap.objs.size))) hS' rfl
    have hz0 : s.heap.objs.size ≠ z := by
      rcases Z.st with hz | ⟨_, _, hz, _⟩
      · exact ne hz
      · exact ne hz
    have hzTO : s.heap.objs.size ≠ TO := let ⟨_, _, ho⟩ := Z.to; ne ho
    have hz1 : s.heap.objs.size ≠ i1 := let ⟨_, e, _⟩ := Z.a1; ne e
    have hz2 : s.heap.objs.size ≠ i2 := let ⟨_, e, _⟩ := Z.a2; ne e
    have hM1 : Made xs ys (fun t => t < h0.objs.size ∨ t = z ∨ t = TO ∨ t = i1 ∨ t = i2 ∨ t = S) (ts ++ [s.heap.objs.size]) (h'.update S (Obj.mapSeq (·.push (.ref s.heap.objs.size)))) := fun j t hj => by
      rw [List.getElem?_append] at hj
      split at hj
      · obtain ⟨x, y, ex, ey, hp, hb⟩ := hM j t hj
        have hb2 : ¬ (t < h0.objs.size ∨ t = z ∨ t = TO ∨ t = i1 ∨ t = i2 ∨ t = S) := hb
        exact ⟨x, y, ex, ey, upd _ _ (fun q => hb2 (by simp [q])) (hk' _ _ (fun q => hb2 (by simp [q])) (fun q => hb2 (by simp [q])) (fun q => hb2 (by simp [q])) (fun q => hb2 (by simp [q])) hp), hb⟩
      · rename_i hji
        have e1 : j - ts.length = 0 := by
          have := (List.getElem?_eq_some_iff.mp hj).1
          simp at this
          omega
        have e2 : j = i := by omega
        rw [e1] at hj
        simp at hj
        subst hj e2
        refine ⟨_, _, Array.getElem?_eq_getElem hix, Array.getElem?_eq_getElem hiy, upd _ _ hTs hp, ?_⟩
        intro q
        rcases q with q | q | q | q | q | q
        · exact absurd (show s.heap.objs.size < h0.objs.size from q) (by omega)
        · exact hz0 q
        · exact hzTO q
        · exact hz1 q
        · exact hz2 q
        · exact hTs q
    have hnd1 : (ts ++ [s.heap.objs.size]).Nodup := by
      refine List.nodup_append.mpr ⟨hnd, by simp, fun a ha b hb => ?_⟩
      obtain ⟨j, hj⟩ := List.getElem?_of_mem ha
      obtain ⟨x, y, _, _, hp, _⟩ := hM j a hj
      rw [List.mem_singleton.mp hb]
      exact Nat.ne_of_lt (Heap.lt_size hp)
    have hsz1 : h0.objs.size ≤ (h'.update S (Obj.mapSeq (·.push (.ref s.heap.objs.size)))).objs.size := by
      have q := Heap.lt_size (upd _ _ hTs hp)
      have q2 : s.heap.objs.size < (h'.update S (Obj.mapSeq (·.push (.ref s.heap.objs.size)))).objs.size := q
      omega
    have hS3 : (h'.update S (Obj.mapSeq (·.push (.ref s.heap.objs.size)))).get? S = some { cls := .type "list", dict := none, data := .seq ((ts ++ [s.heap.objs.size]).map Value.ref).toArray (c + 1), slots := #[] } := by
      rw [hS2]
      simp [Obj.mapSeq]
    refine wpAny_updateSeq hS' rfl (wpAny_pure ⟨plainId_quiet F.plain_extend_loop _, ih (i + 1) _ (ts ++ [s.heap.objs.size]) _ (by omega) hlt (Z'.keeps (fun b o hb e => upd b o hb e) ⟨_, hS2⟩ ⟨n1, n2, n3, n4, n5, n6, n7⟩) hS3 (by simp [hl]) hM1
      (fun b o e1 e2 e3 e4 e5 e => upd _ _ e5 (hk' _ _ e1 e2 e3 e4 (hkeep b o e1 e2 e3 e4 e5 e))) hsz1 hR hnd1⟩) (by rw [szS]; omega) (by show (Array.push _ _).size ≤ sizeLine + 1; rw [Array.size_push, szS]; omega)
end

theorem zip_no_len : typeLookup (.type "zip") "__len__" = pure none := by rw [typeLookup_type, builtinLookup_eq_fast]; kernel_rfl
theorem zip_no_hint : typeLookup (.type "zip") "__length_hint__" = pure none := by rw [typeLookup_type, builtinLookup_eq_fast]; kernel_rfl
section
variable {prog : Program} {w : World} {A : Around} {E : Value → Shared → Prop} {s : Shared}
theorem ZS.type {z TI TO i1 i2 l1 l2 : Addr} {xs ys : Array Value} {i : Nat} (Z : ZS z TI TO i1 i2 l1 l2 xs ys i s.heap) : s.TypeIs (.ref z) "zip" := by
  rcases Z.st with hz | ⟨_, _, hz, _⟩
  · exact ⟨_, hz, rfl⟩
  · exact ⟨_, hz, rfl⟩
theorem call_list_zip {z TI TO i1 i2 l1 l2 : Addr} {xs ys : Array Value} {Q : Value → Shared → Prop} (hh : A.handled = none) (D : ZipApart z TI TO i1 i2 l1 l2) (h0 : Heap) (Z : ZS z TI TO i1 i2 l1 l2 xs ys 0 s.heap) (hz : IsZip s.heap z TI TO .none) (n : Nat) (hn : n ≤ sizeLine) (hnx : n = min xs.size ys.size)
    (hk0 : ∀ b o, h0.get? b = some o → s.heap.get? b = some o) (hs0 : h0.objs.size ≤ s.heap.objs.size)
    (hQ : ∀ h' ts c, (∀ b o, b ≠ z → b ≠ TO → b ≠ i1 → b ≠ i2 → b ≠ s.heap.objs.size → h0.get? b = some o → h'.get? b = some o) → h'.get? s.heap.objs.size = some { cls := .type "list", dict := none, data := .seq (ts.map Value.ref).toArray c, slots := #[] } → ts.length = n →
      Made xs ys (fun t => t < h0.objs.size ∨ t = z ∨ t = TO ∨ t = i1 ∨ t = i2 ∨ t = s.heap.objs.size) ts h' → ts.Nodup → Q (.ref s.heap.objs.size) { s with heap := h' }) :
    wpAny (model prog w) A (call (.type "list") [.ref z]) Q E s := by
  have ne : ∀ {b o}, s.heap.get? b = some o → s.heap.objs.size ≠ b := fun e => Nat.ne_of_gt (Heap.lt_size e)
  have nS : s.heap.objs.size ≠ z ∧ s.heap.objs.size ≠ TI ∧ s.heap.objs.size ≠ TO ∧ s.heap.objs.size ≠ i1 ∧ s.heap.objs.size ≠ i2 ∧ s.heap.objs.size ≠ l1 ∧ s.heap.objs.size ≠ l2 := by
    obtain ⟨_, _, hTO⟩ := Z.to
    obtain ⟨_, e1, _⟩ := Z.a1
    obtain ⟨_, e2, _⟩ := Z.a2
    obtain ⟨_, e3, _⟩ := Z.b1
    obtain ⟨_, e4, _⟩ := Z.b2
    exact ⟨ne hz, ne Z.ti, ne hTO, ne e1, ne e2, ne e3, ne e4⟩
  refine callType_codes (Q₁ := fun obj s₁ => obj = .ref s.heap.objs.size ∧ s₁ = { s with heap := s.heap.push { cls := .type "list", data := .seq #[] } }) PySem.F.called_list (PySem.F.typeCall_list_1 _) PySem.F.entry_list_init
    (code_list_new _ ⟨rfl, rfl⟩) fun obj s₁ h₁ => ?_
  obtain ⟨rfl, rfl⟩ := h₁
  have hS : (s.heap.push { cls := .type "list", data := .seq #[] }).get? s.heap.objs.size = some { cls := .type "list", data := .seq #[] } := Heap.get?_push_size _ rfl
  refine ⟨⟨_, hS, rfl⟩, PySem.F.args_list_init_2 _ _, ?_⟩
  generalize hSe : s.heap.objs.size = S at *
  have push : ∀ b o, s.heap.get? b = some o → (s.heap.push { cls := .type "list", data := .seq #[] }).get? b = some o := fun b o e => Heap.get?_push_of_some _ e
  have Z1 : ZS z TI TO i1 i2 l1 l2 xs ys 0 (s.heap.push { cls := .type "list", data := .seq #[] }) := Z.keeps (S := S) (fun b o _ e => push b o e) ⟨_, hS⟩ nS
  generalize hh1 : s.heap.push { cls := .type "list", data := .seq #[] } = h1 at *
  show wpAny _ A.in1.in1 (do let old ← Builtin.List.listItems (.ref S); Builtin.List.listUpdate (.ref S) (fun _ => #[]); letGo old.toList.reverse; Builtin.List.listExtendWith (.ref S) (.ref z) .none) _ _ _
  refine wpAny_bind ?_
  unfold Builtin.List.listItems
  refine wpAny_bind (wpAny_seqItems hS rfl (wpAny_pure ?_))
  show wpAny _ A.in1.in1 (updateSeq S (fun _ => #[]) >>= fun _ => letGo (#[] : Array Value).toList.reverse >>= fun _ => Builtin.List.listExtendWith (.ref S) (.ref z) .none) _ _ _
  refine wpAny_bind (wpAny_updateSeq hS rfl ?_)
  have hS₂ := Heap.get?_update_self (Obj.mapSeq (fun _ => (#[] : Array Value))) hS rfl
  have oth : ∀ b o, b ≠ S → h1.get? b = some o → (h1.update S (Obj.mapSeq (fun _ => (#[] : Array Value)))).get? b = some o :=
    fun b o hb e => (Heap.get?_update_other _ _ (Ne.symm hb)).trans e
  have Z2 := Z1.keeps (S := S) oth ⟨_, hS₂⟩ nS
  generalize hh2 : h1.update S (Obj.mapSeq (fun _ => (#[] : Array Value))) = h2 at *
  refine wpAny_bind (wpAny_letGo ?_)
  unfold Builtin.List.listExtendWith
  refine wpAny_bind (wpAny_typeOf (ZS.type (s := { s with heap := h2 }) Z2) ?_)
  have q1 : Builtin.List.listSameRef (.ref S) (.ref z) = false := by simp [Builtin.List.listSameRef, nS.1]
  have q2 : (Value.type "zip" == Value.type "list") = false := by decide
  have q3 : (Value.type "zip" == Value.type "tuple") = false := by decide
  simp only [q1, q2, q3, Bool.or_false, Bool.false_eq_true, if_false]
  have hz2 : ∃ f0, IsZip h2 z TI TO f0 := by
    subst hh2
    exact ⟨_, oth _ _ (Ne.symm nS.1) (push _ _ hz)⟩
  obtain ⟨f0, hz2⟩ := hz2
  refine wpAny_bind (wpAny_pyIter_zip (s := { s with heap := h2 }) hz2 ?_)
  refine wpAny_bind (wpAny_holding ?_)
  unfold Builtin.List.listLengthHint
  refine wpAny_bind (wpAny_specialOf (ZS.type (s := { s with heap := h2 }) Z2) zip_no_len ?_)
  show wpAny _ A.in1.in1 (specialOf (Value.ref z) (Str.ofString "__length_hint__") >>= _) _ _ _
  refine wpAny_bind (wpAny_specialOf (ZS.type (s := { s with heap := h2 }) Z2) zip_no_hint ?_)
  refine wpAny_pure ?_
  show wpAny _ A.in1.in1 (rule "list.extend.makes-room" >>= fun _ => Builtin.List.listTouch (.ref S) >>= fun _ =>
    again (.builtin "list.extend.loop" ⟨[.ref S, .ref z, .none], []⟩)) _ _ _
  refine wpAny_bind (wpAny_rule ?_)
  refine wpAny_bind ?_
  show wpAny _ A.in1.in1 (updateSeq S (·.push .none) >>= fun _ => updateSeq S (·.pop)) _ _ _
  refine wpAny_bind (wpAny_updateSeq hS₂ rfl ?_)
  have hS₃ := Heap.get?_update_self (Obj.mapSeq (·.push Value.none)) hS₂ rfl
  refine wpAny_updateSeq (hz := by seq_fits) hS₃ rfl ?_
  have hS₄ := Heap.get?_update_self (Obj.mapSeq (·.pop)) hS₃ rfl
  have oth2 : ∀ b o, b ≠ S → h2.get? b = some o → ((h2.update S (Obj.mapSeq (·.push Value.none))).update S (Obj.mapSeq (·.pop))).get? b = some o :=
    fun b o hb e => (Heap.get?_update_other _ _ (Ne.symm hb)).trans ((Heap.get?_update_other _ _ (Ne.symm hb)).trans e)
  have Z3 := Z2.keeps (S := S) oth2 ⟨_, hS₄⟩ nS
  generalize hh3 : (h2.update S (Obj.mapSeq (·.push Value.none))).update S (Obj.mapSeq (·.pop)) = h3 at *
  have up : ∀ b o, s.heap.get? b = some o → b ≠ S → h3.get? b = some o := fun b o e hb => oth2 b o hb (oth b o hb (push b o e))
  refine wpAny_pure ⟨plainId_quiet PySem.F.plain_extend_loop _, extend_zip (A := A.in1) hh D nS n hn hnx .none h0 n 0 { s with heap := h3 } [] _ (Nat.sub_zero _) (Nat.zero_le _) Z3 hS₄ rfl (fun j t hj => by simp at hj) (fun b o e1 e2 e3 e4 e5 e => up b o (hk0 b o e) e5) ?_ (fun h' ts c a1 a2 a3 a4 a5 => ⟨rfl, hQ h' ts c a1 a2 a3 a4 a5⟩) List.nodup_nil⟩
  have e1 : s.heap.objs.size ≤ h3.objs.size := by
    rw [← hh3, ← hh2, ← hh1]
    simp only [Heap.size_update, Heap.size_push]
    omega
  exact Nat.le_trans (by rw [hSe]; exact hs0) e1
end

section
variable {X : Cx} {pins : List (Addr × Obj)} {σ : L2.St} {H H' : Hp} {s : Shared}
/-- new objects laid, many at once -/
theorem inv_many {h' : Heap} {t' : Nat} (I : Inv X pins σ H s) (k : ∀ b u, s.heap.get? b = some u → h'.get? b = some u) (hH : ∀ b u, H b = some u → H' b = some u) (hn : ∀ b, H b = none → H' b ≠ none → s.heap.objs.size ≤ b) (hok : HOk X.prog X.w H' h') :
    Inv X pins σ H' { s with heap := h', toks := t' } := by
  refine I.step (g' := s.gens) (d' := s.drawn) (ch := []) (fun b hb => absurd hb (by simp)) (fun b o _ _ _ e _ => k b o e) (fun b o _ _ _ e _ => ⟨o.slots, k b o e⟩) (fun b o _ e n => ?_)
    (fun b o _ e => ⟨o, k b o e⟩) (fun b xs e => hH b _ e) (fun b o u e => hH b _ e) (fun b ps e => ⟨#[], by rw [hH b _ e]; simp⟩) (fun m hn => hn.keeps k) hok I.bare
  cases q : H' b with
  | none => rfl
  | some u => exact absurd (Nat.lt_of_lt_of_le (Heap.lt_size e) (hn b n (by rw [q]; simp))) (Nat.lt_irrefl _)
/-- H and the pairs ps told in a list -/
def more (H : Hp) : List (Addr × HO) → Hp
  | [] => H
  | p :: r => upd (more H r) p.1 p.2
theorem more_out {H : Hp} {b : Addr} : ∀ {ps : List (Addr × HO)}, b ∉ ps.map (·.1) → more H ps b = H b
  | [], _ => rfl
  | p :: r, h => by
    have h2 : ¬ b ∈ p.1 :: r.map (·.1) := h
    show upd (more H r) p.1 p.2 b = _
    rw [upd_ne fun e => h2 (by rw [e]; exact List.mem_cons_self)]
    exact more_out fun e => h2 (List.mem_cons_of_mem _ e)
theorem more_in {H : Hp} {b : Addr} {o : HO} : ∀ {ps : List (Addr × HO)}, (ps.map (·.1)).Nodup → (b, o) ∈ ps → more H ps b = some o
  | p :: r, hn, h => by
    have hn2 := List.nodup_cons.mp (show (p.1 :: r.map (·.1)).Nodup from hn)
    show upd (more H r) p.1 p.2 b = _
    rcases List.mem_cons.mp h with e | e
    · rw [← e]
      exact upd_same
    · rw [upd_ne (fun q => hn2.1 (by rw [← q]; exact List.mem_map.mpr ⟨_, e, rfl⟩))]
      exact more_in hn2.2 e
theorem more_some {H : Hp} {b : Addr} {u : HO} : ∀ {ps : List (Addr × HO)}, more H ps b = some u → (b, u) ∈ ps ∨ H b = some u
  | [], h => .inr h
  | p :: r, h => by
    have h : upd (more H r) p.1 p.2 b = some u := h
    by_cases e : b = p.1
    · rw [e, upd_same] at h
      cases h
      rw [e]
      exact .inl List.mem_cons_self
    · rw [upd_ne e] at h
      rcases more_some h with q | q
      · exact .inl (List.mem_cons_of_mem _ q)
      · exact .inr q
theorem vals_refs : ∀ ts : List Addr, Vals (ts.map V.ref) (ts.map Value.ref)
  | [] => .nil
  | _ :: r => .cons rfl (vals_refs r)

/-- what list(zip(..)) leaves: the new list l of new pairs ts -/
structure Zipped (H H2 : Hp) (xs ys : List V) (l : Addr) (ts : List Addr) : Prop where
  len : ts.length = min xs.length ys.length
  nodup : ts.Nodup
  out : l ∉ ts
  keep : ∀ b u, H b = some u → H2 b = some u
  new : H l = none
  news : ∀ t ∈ ts, H t = none
  lst : H2 l = some (.lst (ts.map V.ref))
  pair : ∀ (j : Nat) (t : Addr), ts[j]? = some t → ∃ x y, xs[j]? = some x ∧ ys[j]? = some y ∧ H2 t = some (.tup [x, y])
  rest : ∀ b, H b = none → b ≠ l → b ∉ ts → H2 b = none
/-- list(zip(a, b)) of two lists -/
def tListZip (K : PySem.W.Frag) (ta : TA) : TE := fun σ H Q => ta σ H fun vs H1 => ∃ a b xs ys, vs = [.ref a, .ref b] ∧ SqL K H1 a xs ∧ SqL K H1 b ys ∧ ∀ l ts H2, Zipped H1 H2 xs ys l ts → Q (.ref l) H2
theorem pe_listZip {e e2 : Expr} {ta : TA} {p p2 q pos : Pos} (hh : X.A.handled = none) (hgl : Gl X "list") (hml : X.mg "list" = none) (hg : Gl X "zip") (hm : X.mg "zip" = none) (ha : PA X [e, e2] ta)
    (hs : starEach [e, e2] X.env = (false, eval e X.env) :: starEach [e2] X.env := by rfl) (hpl : (backTo q (starEach [e2] X.env)).any (·.1) = false := by rfl)
    (hs2 : starEach [.Call (.Name "zip" p2) [e, e2] [] q] X.env = (false, eval (.Call (.Name "zip" p2) [e, e2] [] q) X.env) :: starEach [] X.env := by rfl) :
    PE X (.Call (.Name "list" p) [.Call (.Name "zip" p2) [e, e2] [] q] [] pos) (tListZip X.K ta) := by
  refine ⟨fun pins s σ H Q I h => ?_⟩
  refine wpAny_Call_Name_kw (ld_blt I hgl hml PyProof.Rows.boot_list ?_)
  refine PyProof.Rows.callWith_type1 ?_ hs2 (by rfl)
  rw [hs2]
  show wpAny _ _ (spliced ((false, eval (.Call (.Name "zip" p2) [e, e2] [] q) X.env) :: backTo pos (starEach [] X.env))) _ _ s
  refine Calls.spliced_cons (Call_ (ld_blt I hg hm PyProof.Rows.boot_zip (PyProof.Rows.callWith_type1 (thn (ha.run q pins s σ H _ I h) fun us s1 ⟨vs, H1, I1, r1, q1⟩ => ?_) hs hpl)))
  obtain ⟨a, b, xs, ys, ex, hqx, hqy, q1⟩ := q1
  subst ex
  obtain ⟨ua, ub, rfl, ra, rb⟩ := vals2 r1
  obtain rfl : ua = Value.ref a := ra
  obtain rfl : ub = Value.ref b := rb
  obtain ⟨its, rv, p1, hx1⟩ := I1.list hqx
  obtain ⟨its2, rv2, p2', hx2⟩ := I1.list hqy
  refine call_zip_2 p1.isList p2'.isList fun h' hz hTI hTO h1 h2 hsz hk => ?_
  refine Calls.spliced_nil ?_
  have lx := rv.length
  have ly := rv2.length
  refine call_list_zip (s := { s1 with heap := h' }) (xs := its.toArray) (ys := its2.toArray) (i1 := s1.heap.objs.size) (i2 := s1.heap.objs.size + 1) (TI := s1.heap.objs.size + 2) (TO := s1.heap.objs.size + 3) hh (PySem.W.ktu_apart s1.heap.objs.size a b p1.lt p2'.lt) s1.heap
    ⟨hTI, h1, h2, p1.isList.at fun o e => hk _ o e, p2'.isList.at fun o e => hk _ o e, ⟨_, _, hTO⟩, .inl hz⟩ hz (min xs.length ys.length) (by omega) (by rw [List.size_toArray, List.size_toArray, lx, ly]) (fun b o e => hk b o e) (by show s1.heap.objs.size ≤ h'.objs.size; omega)
    fun h3 ts c hkeep hl hlen hM hnd => ?_
  have hl : h3.get? h'.objs.size = some { cls := .type "list", dict := none, data := .seq (ts.map Value.ref).toArray c, slots := #[] } := hl
  show EP X pins σ Q (.ref h'.objs.size) { s1 with heap := h3, toks := s1.toks }
  have hM : Made its.toArray its2.toArray (fun t => t < s1.heap.objs.size ∨ t = s1.heap.objs.size + 4 ∨ t = s1.heap.objs.size + 3 ∨ t = s1.heap.objs.size ∨ t = s1.heap.objs.size + 1 ∨ t = h'.objs.size) ts h3 := hM
  have hge : ∀ t ∈ ts, s1.heap.objs.size ≤ t ∧ t ≠ h'.objs.size := fun t ht => by
    obtain ⟨j, hj⟩ := List.getElem?_of_mem ht
    obtain ⟨_, _, _, _, _, hb⟩ := hM j t hj
    have hb : ¬ (t < s1.heap.objs.size ∨ t = s1.heap.objs.size + 4 ∨ t = s1.heap.objs.size + 3 ∨ t = s1.heap.objs.size ∨ t = s1.heap.objs.size + 1 ∨ t = h'.objs.size) := hb
    exact ⟨Nat.le_of_not_lt fun q => hb (.inl q), fun q => hb (by simp [q])⟩
  have hlge : s1.heap.objs.size ≤ h'.objs.size := by omega
  have kp : ∀ b o, s1.heap.get? b = some o → h3.get? b = some o := fun b o e => by
    have q := Heap.lt_size e
    have q : (b : Nat) < s1.heap.objs.size := q
    have hsz : h'.objs.size = s1.heap.objs.size + 5 := hsz
    refine hkeep b o ?_ ?_ ?_ ?_ ?_ e
    · exact Nat.ne_of_lt (Nat.lt_of_lt_of_le q (Nat.le_add_right _ _))
    · exact Nat.ne_of_lt (Nat.lt_of_lt_of_le q (Nat.le_add_right _ _))
    · exact Nat.ne_of_lt q
    · exact Nat.ne_of_lt (Nat.lt_of_lt_of_le q (Nat.le_add_right _ _))
    · exact Nat.ne_of_lt (Nat.lt_of_lt_of_le q hlge)
  generalize hps : ts.zip ((xs.zip ys).map fun p => HO.tup [p.1, p.2]) = ps
  have hkeys : ps.map (·.1) = ts := by
    rw [← hps]
    refine List.map_fst_zip ?_
    rw [List.length_map, List.length_zip, hlen]
    exact Nat.le_refl _
  have hlts : h'.objs.size ∉ ts := fun q => (hge _ q).2 rfl
  have hnd2 : (((h'.objs.size, HO.lst (ts.map V.ref)) :: ps).map (·.1)).Nodup := by
    show (h'.objs.size :: ps.map (·.1)).Nodup
    rw [hkeys]
    exact List.nodup_cons.mpr ⟨hlts, hnd⟩
  have hat : ∀ (j : Nat) (t : Addr), ts[j]? = some t → ∃ x y, xs[j]? = some x ∧ ys[j]? = some y ∧ (t, HO.tup [x, y]) ∈ ps := fun j t hj => by
    have hjl : j < ts.length := (List.getElem?_eq_some_iff.mp hj).1
    have jx : j < xs.length := by omega
    have jy : j < ys.length := by omega
    refine ⟨xs[j], ys[j], List.getElem?_eq_getElem jx, List.getElem?_eq_getElem jy, ?_⟩
    rw [← hps]
    refine List.mem_of_getElem? (i := j) ?_
    rw [List.getElem?_zip_eq_some]
    refine ⟨hj, ?_⟩
    have e : (xs.zip ys)[j]? = some (xs[j], ys[j]) := List.getElem?_zip_eq_some.mpr ⟨List.getElem?_eq_getElem jx, List.getElem?_eq_getElem jy⟩
    rw [List.getElem?_map, e]
    rfl
  have hof : ∀ (t : Addr) (u : HO), (t, u) ∈ ps → ∃ (j : Nat) (x y : V), ts[j]? = some t ∧ xs[j]? = some x ∧ ys[j]? = some y ∧ u = .tup [x, y] := fun t u hm => by
    rw [← hps] at hm
    obtain ⟨j, hj⟩ := List.getElem?_of_mem hm
    rw [List.getElem?_zip_eq_some] at hj
    obtain ⟨j1, j2⟩ := hj
    rw [List.getElem?_map] at j2
    obtain ⟨p, hp, e⟩ := Option.map_eq_some_iff.mp j2
    obtain ⟨g1, g2⟩ := List.getElem?_zip_eq_some.mp hp
    exact ⟨j, p.1, p.2, j1, g1, g2, e.symm⟩
  have fresh : ∀ b, s1.heap.objs.size ≤ b → H1 b = none := fun b e => I1.hok.fresh e
  have hold : ∀ b u, H1 b = some u → more H1 ((h'.objs.size, HO.lst (ts.map V.ref)) :: ps) b = some u := fun b u e => by
    rw [more_out, e]
    show b ∉ h'.objs.size :: ps.map (·.1)
    rw [hkeys]
    intro q
    rcases List.mem_cons.mp q with q | q
    · rw [q, fresh _ hlge] at e
      cases e
    · rw [fresh _ (hge _ q).1] at e
      cases e
  have Z : Zipped H1 (more H1 ((h'.objs.size, HO.lst (ts.map V.ref)) :: ps)) xs ys h'.objs.size ts :=
    ⟨hlen, hnd, hlts, hold, fresh _ hlge, fun t ht => fresh _ (hge t ht).1, more_in hnd2 List.mem_cons_self,
      fun j t hj => let ⟨x, y, ex, ey, hm⟩ := hat j t hj; ⟨x, y, ex, ey, more_in hnd2 (List.mem_cons_of_mem _ hm)⟩,
      fun b e1 e2 e3 => by
        rw [more_out, e1]
        show b ∉ h'.objs.size :: ps.map (·.1)
        rw [hkeys]
        intro q
        rcases List.mem_cons.mp q with q | q
        · exact e2 q
        · exact e3 q⟩
  refine ⟨.ref h'.objs.size, _, inv_many (t' := s1.toks) I1 kp hold (fun b e1 e2 => ?_) (fun b u e => ?_), rfl, q1 _ _ _ Z⟩
  · cases q : more H1 ((h'.objs.size, HO.lst (ts.map V.ref)) :: ps) b with
    | none => exact absurd q e2
    | some u =>
      rcases more_some q with q | q
      · rcases List.mem_cons.mp q with q | q
        · cases q
          exact hlge
        · obtain ⟨j, _, _, hj, _⟩ := hof b u q
          exact (hge b (List.mem_of_getElem? hj)).1
      · rw [e1] at q
        cases q
  · rcases more_some e with q | q
    · rcases List.mem_cons.mp q with q | q
      · cases q
        exact ⟨by rw [List.length_map]; omega, ts.map Value.ref, c, vals_refs ts, hl⟩
      · obtain ⟨j, x, y, hj, hx, hy, eu⟩ := hof b u q
        subst eu
        obtain ⟨x', y', ex', ey', hp, _⟩ := hM j b hj
        obtain ⟨u1, hu1, r1'⟩ := rv.get hx
        obtain ⟨u2, hu2, r2'⟩ := rv2.get hy
        have e1 : x' = u1 := by
          have : its[j]? = some x' := by simpa using ex'
          rw [hu1] at this
          exact (Option.some.inj this).symm
        have e2 : y' = u2 := by
          have : its2[j]? = some y' := by simpa using ey'
          rw [hu2] at this
          exact (Option.some.inj this).symm
        subst e1 e2
        exact ⟨by show 2 ≤ sizeLine; decide, [x', y'], .cons r1' (.cons r2' .nil), _, hp, rfl, _, rfl⟩
    · exact (I1.hok b u q).stay (fun d v _ e => kp d v e) (fun d e => hold d _ e) fun d xs e => hold d _ e
end
end TwZ
set_option Elab.async false
set_option linter.all false
set_option maxRecDepth 100000
set_option maxHeartbeats 2000000
/-! defs whose code object has a table: their promise, their end. -/
namespace TwT
open PySem PySem.Spec PyProof.Rows L2 GxR Tw
/-- H' is H grown, but for the table at P, which is a table still -/
def ExT (P : Addr) (H H' : Hp) : Prop := TabG H' P ∧ ∀ b o, b ≠ P → H b = some o → H' b = some o
theorem ExT.refl {P : Addr} {H : Hp} (h : TabG H P) : ExT P H H := ⟨h, fun _ _ _ e => e⟩
theorem TabG.ex {P : Addr} {H H' : Hp} (h : TabG H P) (e : ∀ b o, H b = some o → H' b = some o) : TabG H' P := let ⟨ps, h1, h2⟩ := h; ⟨ps, e _ _ h1, h2⟩
theorem ExT.of_tabbed {P : Addr} {H H' : Hp} (h : Tabbed P H H') : ExT P H H' := ⟨h.1, fun b o hb e => by rw [h.2 b hb]; exact e⟩
theorem ExT.of_ex {P : Addr} {H H' : Hp} (h : TabG H P) (e : ∀ b o, H b = some o → H' b = some o) : ExT P H H' := ⟨TabG.ex h e, fun b o _ q => e b o q⟩
theorem ExT.trans {P : Addr} {H H' H2 : Hp} (h : ExT P H H') (h2 : ExT P H' H2) : ExT P H H2 := ⟨h2.1, fun b o hb e => h2.2 b o hb (h.2 b o hb e)⟩
theorem sql_tab {K : PySem.W.Frag} {P : Addr} {H H' : Hp} {a : Addr} {xs : List V} (hT : TabG H P) (e : ExT P H H') (h : SqL K H a xs) : SqL K H' a xs := by
  obtain ⟨ps, hP, _⟩ := hT
  rcases h with h | h
  · rcases h with h | ⟨o, h⟩
    · exact .inl (.inl (e.2 _ _ (fun q => by rw [q, hP] at h; cases h) h))
    · exact .inl (.inr ⟨o, e.2 _ _ (fun q => by rw [q, hP] at h; cases h) h⟩)
  · exact .inr h
theorem lst_tab {P : Addr} {H H' : Hp} {a : Addr} {xs : List V} (hT : TabG H P) (e : ExT P H H') (h : H a = some (.lst xs)) : H' a = some (.lst xs) := by
  obtain ⟨ps, hP, _⟩ := hT
  exact e.2 _ _ (fun q => by rw [q, hP] at h; cases h) h
theorem triples_nil {H : Hp} {P : Addr} (h : H P = some (.tbl #[])) : TabG H P := ⟨#[], h, trivial⟩

/-- the scope of a generator expression in the def's own frame -/
theorem genS_by {env : Env} {n : Nat} {sc scope : Scope} {x : Str} (he : env.cells = cellsFrom n sc.names []) (h1 : scope.kind = .function) (h2 : scope.isCoroutine = false) (h3 : scope.names.all (fun y => y.2 != .cell) = true) (h4 : scope.names.lookup (".0" : Str) = some NameKind.local) (h5 : scope.names.lookup x = some .local)
    (h6 : scope.names.all (fun y => y.2 != .free || sc.names.lookup y.1 == some .cell) = true) : GenS env scope x := by
  refine ⟨h1, h2, fun y hy e => ?_, h4, h5, fun y hy e => ?_⟩
  · have q := List.all_eq_true.mp h3 y hy
    rw [e] at q
    cases q
  · have q := List.all_eq_true.mp h6 y hy
    rw [e] at q
    have q : sc.names.lookup y.1 = some .cell := by simpa using q
    obtain ⟨c, hc⟩ := cell_has (n := n) q
    exact ⟨c, by rw [he]; exact hc⟩

theorem pe_joinK {X : Cx} {K : PySem.W.Frag} {o e : Expr} {to te : TE} {apos pos : Pos} (h : X.K = K) (ho : PE X o to) (he : PE X e te) (hs : starEach [e] X.env = [(false, eval e X.env)] := by rfl) (hbase : attributeBase o "join" X.env (eval o X.env) = eval o X.env := by rfl) (hline : (apos.endLine == pos.line) = true := by rfl) :
    PE X (.Call (.Attribute o "join" apos) [e] [] pos) (tM1 (fun x xs H Q => ∃ a p, ∃ ys : List Str, x = .str a ∧ xs = [.ref p] ∧ (SqL K H p (ys.map V.str) ∨ SqT K H p (ys.map V.str)) ∧
      (ys.map (·.length)).sum + ys.length * a.length ≤ 16777216 ∧ Q (.str (Txt.join a ys)) H) to te) := by
  subst h
  exact pe_join ho he hs hbase hline
def CPowW (i j : Int) : Prop := 0 ≤ j ∧ (Builtin.Int.intBits i : Int) * j ≤ 2 ^ 27
theorem op_powW {X : Cx} : OpR X (binaryOp .Pow) (rI CPowW fun i j => .int (i ^ j.toNat)) := opI fun _ _ _ _ _ _ _ hc q => PyProof.Rows.pow_int hc.1 hc.2 q
theorem slL {X : Cx} {K : PySem.W.Frag} (h : X.K = K) : SlR X (rSlL K) := by
  subst h
  exact sl_list
section
variable {P : Program} {w : World} {K : PySem.W.Frag} {mg : Str → Option Value} {base : Heap}
/-- a def whose code object is known -/
theorem _root_.L2.Fun.okC {x qual : Str} {st : Stmt} {f c : Addr} {fd : FuncData} {N ps : List Str} {k : Nat} {sp : Sp} (F : Fun K x qual st f fd) (hc : fd.code = .ref c) (S : FnScope N ps (defScope st)) (len : ∀ vs H Q E, sp vs H Q E → vs.length = ps.length)
    (hbody : ∀ (A : Around) (outer : List Env) (s : Shared) (H : Hp) (vs : List V) (Q : VK) (E : XK), Room k (A.deeper (envOfC qual (defScope st) s.heap.objs.size f (.ref c))) → sp vs H Q E →
      ∃ t, PSs (cxOf CX0 P w K mg base N qual (defScope st) f (.ref c) A outer s H E).nox (defBody st) t ∧ t { nx := fun _ H' => Q .non H', rt := Q } (L2.start N vs) H) : FnOk P w K mg base CX0 (k + 1) f fd ps sp := by
  obtain ⟨oc, od, kV, doc, pm, an, cdv, ct, osl, rfl, lk, hcd⟩ := F.ex
  obtain rfl : cdv = .ref c := hc
  refine fn_of lk hcd S len fun A outer s H vs Q E hr hsp => ?_
  obtain ⟨t, h, q⟩ := hbody A outer s H vs Q E hr hsp
  exact ⟨t, h.nox, q⟩
/-- the same, of a def that may raise -/
theorem _root_.L2.Fun.okNC {x qual : Str} {st : Stmt} {f c : Addr} {fd : FuncData} {N ps : List Str} {k : Nat} {sp : Sp} (F : Fun K x qual st f fd) (hc : fd.code = .ref c) (S : FnScope N ps (defScope st)) (len : ∀ vs H Q E, sp vs H Q E → vs.length = ps.length)
    (hbody : ∀ (A : Around) (outer : List Env) (s : Shared) (H : Hp) (vs : List V) (Q : VK) (E : XK), Room k (A.deeper (envOfC qual (defScope st) s.heap.objs.size f (.ref c))) → sp vs H Q E →
      ∃ t, PSs (cxOf (L2N.CX P w) P w K mg base N qual (defScope st) f (.ref c) A outer s H E) (defBody st) t ∧ t { nx := fun _ H' => Q .non H', rt := Q } (L2.start N vs) H) : FnOk P w K mg base (L2N.CX P w) (k + 1) f fd ps sp := by
  obtain ⟨oc, od, kV, doc, pm, an, cdv, ct, osl, rfl, lk, hcd⟩ := F.ex
  obtain rfl : cdv = .ref c := hc
  exact fn_of lk hcd S len fun A outer s H vs Q E hr hsp => hbody A outer s H vs Q E hr hsp
end
open LamX
/-- what the top tells of the tables -/
def TabsOf (q : Program) (K : PySem.W.Frag) (h : Heap) : Prop := ∀ (x : Str) (d : DefRec) (c P : Addr), (PyProof.Rows.recsOf q).find? (fun e => e.name == x) = some d → PySem.W.tabIn K x = some (c, P) → PySem.W.CodeHd h c P ∧ h.get? P = some (PySem.W.tabObj #[])
theorem walk_ofG {l : PySem.W.OpenLaw} {n k : Nat} {q : Program} {loose : List Str} {XP : (Str → Option Value) → Heap → Prop} {YP : World → Heap → Prop} {d : DefRec} {K : Params → PySem.W.Frag} {CX : World → CXT} {x : Str}
    (hn : l.most = some n) (hn2 : n ≤ sizeLine) (hdf : d.params.defaults = []) (hr : Room k callerA) (hY : ∀ (w : World) (h : Heap), YP w h → (K w.params).In h)
    (F : ∀ (w : World) (mg : Str → Option Value) (fa : Addr) (h : Heap), (K w.params).In h → h.Ns mainGlobals mg → mg d.name = some (.ref fa) → TabsOf q (K w.params) h → LawAtS l w (K w.params) (CX w) k n x mg fa h)
    (hCX : ∀ (w : World) (H : Hp) (s : Shared) (e : Value) (s' : Shared), CX w [] H s (fun _ _ _ => False) e s' → False) :
    PySem.W.WalkO q loose XP YP l.row.toRowW d [] (fun f vs => PySem.call f vs) := by
  refine Att.attach_callB hn hdf fun w s₀ s₁ mg mb fa o pm cd doc a vs ns G Y ho hd hcd hmg hobj hints hlen hbits hg => ?_
  have KX := hY w _ Y
  obtain ⟨fd, cs, sp, hT, nT, C, hb, hsp, hF⟩ := F w mg fa _ KX G.T.g hmg fun x d c P h1 h2 => PySem.W.tab_of G.T KX h1 h2
  exact law_callTs KX G.T.g G.T.b G.T.builtins G.T.nolimit hg hT nT C G.T.bmain hobj hints (Nat.le_trans hlen hn2) hr hF hb (fun H hH hS => hsp H a ns hlen hbits hH hS) fun H e s' => hCX w H s₁ e s'
theorem tab_in {K : PySem.W.Frag} {x : Str} {f c P : Addr} {oc qa : Value} {od qb : Option Addr} {fd : FuncData} {sl qs : Array (Option Value)} {qv : Array Value} (a : PySem.W.nsIn K mainGlobals x = some (some (.ref f))) (l : K.lookup f = some ⟨oc, od, .func fd, sl⟩) (hc : fd.code = .ref c) (q : K.lookup c = some ⟨qa, qb, .fields qv, qs⟩) (v : qv[11]? = some (.ref P)) :
    PySem.W.tabIn K x = some (c, P) := by
  unfold PySem.W.tabIn
  rw [a]
  dsimp only
  rw [l]
  dsimp only
  rw [hc]
  dsimp only
  rw [q]
  dsimp only
  rw [v]
end TwT
set_option Elab.async false
set_option linter.all false
set_option maxRecDepth 100000
namespace Pf
open PySem PySem.Spec PyProof.Rows L2 Evl Tw L2H GxR TwT
def topS (i : Nat) : Stmt := PySem.Challenge.pw_textwrapper_k04_lines_laid.main.body.getD i (.Pass ⟨0, 0, 0, 0⟩)
abbrev s_line_of : Stmt := topS 13
abbrev N_line_of : List Str := ["words", "begin", "end"]
theorem sc_line_of : FnScope N_line_of ["words", "begin", "end"] (defScope s_line_of) := ⟨rfl, rfl, rfl, by decide +kernel, rfl, by decide +kernel, by decide +kernel⟩
abbrev s_lines_of : Stmt := topS 15
abbrev N_lines_of : List Str := ["words", "starts", "begin", "end"]
theorem sc_lines_of : FnScope N_lines_of ["words", "starts"] (defScope s_lines_of) := ⟨rfl, rfl, rfl, by decide +kernel, rfl, by decide +kernel, by decide +kernel⟩
abbrev s_bounds_of : Stmt := topS 16
abbrev N_bounds_of : List Str := ["words", "starts", "ends"]
theorem sc_bounds_of : FnScope N_bounds_of ["words", "starts"] (defScope s_bounds_of) := ⟨rfl, rfl, rfl, by decide +kernel, rfl, by decide +kernel, by decide +kernel⟩
abbrev s_check_starts : Stmt := topS 17
abbrev N_check_starts : List Str := ["words", "starts"]
theorem sc_check_starts : FnScope N_check_starts ["words", "starts"] (defScope s_check_starts) := ⟨rfl, rfl, rfl, by decide +kernel, rfl, by decide +kernel, by decide +kernel⟩
abbrev s_are_starts : Stmt := topS 18
abbrev N_are_starts : List Str := ["words", "starts"]
theorem sc_are_starts : FnScope N_are_starts ["words", "starts"] (defScope s_are_starts) := ⟨rfl, rfl, rfl, by decide +kernel, rfl, by decide +kernel, by decide +kernel⟩
abbrev s_l_cell_at : Stmt := topS 20
abbrev N_l_cell_at : List Str := ["_law_script", "_law_k"]
theorem sc_l_cell_at : FnScope N_l_cell_at ["_law_script", "_law_k"] (defScope s_l_cell_at) := ⟨rfl, rfl, rfl, by decide +kernel, rfl, by decide +kernel, by decide +kernel⟩
abbrev s_l_sign_by : Stmt := topS 21
abbrev N_l_sign_by : List Str := ["_law_cell", "_law_some"]
theorem sc_l_sign_by : FnScope N_l_sign_by ["_law_cell"] (defScope s_l_sign_by) := ⟨rfl, rfl, rfl, by decide +kernel, rfl, by decide +kernel, by decide +kernel⟩
abbrev s_l_word_by : Stmt := topS 22
abbrev N_l_word_by : List Str := ["_law_cell", "_law_size", "_law_k"]
theorem sc_l_word_by : FnScope N_l_word_by ["_law_cell"] (defScope s_l_word_by) := ⟨rfl, rfl, rfl, by decide +kernel, rfl, by decide +kernel, by decide +kernel⟩
abbrev s_l_alike_by : Stmt := topS 23
abbrev N_l_alike_by : List Str := ["_law_cell", "_law_size", "_law_at"]
theorem sc_l_alike_by : FnScope N_l_alike_by ["_law_cell", "_law_size"] (defScope s_l_alike_by) := ⟨rfl, rfl, rfl, by decide +kernel, rfl, by decide +kernel, by decide +kernel⟩
abbrev s_l_wide_by : Stmt := topS 24
abbrev N_l_wide_by : List Str := ["_law_more", "_law_k"]
theorem sc_l_wide_by : FnScope N_l_wide_by ["_law_more", "_law_k"] (defScope s_l_wide_by) := ⟨rfl, rfl, rfl, by decide +kernel, rfl, by decide +kernel, by decide +kernel⟩
abbrev s_l_words_by : Stmt := topS 25
abbrev N_l_words_by : List Str := ["_law_cells", "_law_more", "_law_row", "_law_many", "_law_cell", "_law_k"]
theorem sc_l_words_by : FnScope N_l_words_by ["_law_cells", "_law_more"] (defScope s_l_words_by) := ⟨rfl, rfl, rfl, by decide +kernel, rfl, by decide +kernel, by decide +kernel⟩
abbrev s_l_texts : Stmt := topS 26
abbrev N_l_texts : List Str := ["_law_found", "_law_due", "_law_k"]
theorem sc_l_texts : FnScope N_l_texts ["_law_found", "_law_due"] (defScope s_l_texts) := ⟨rfl, rfl, rfl, by decide +kernel, rfl, by decide +kernel, by decide +kernel⟩
abbrev s_l_kind : Stmt := topS 27
abbrev N_l_kind : List Str := ["_law_e", "_law_flags", "_law_k"]
theorem sc_l_kind : FnScope N_l_kind ["_law_e"] (defScope s_l_kind) := ⟨rfl, rfl, rfl, by decide +kernel, rfl, by decide +kernel, by decide +kernel⟩
abbrev s_l_starts_by : Stmt := topS 28
abbrev N_l_starts_by : List Str := ["_law_cell", "_law_count", "_law_found", "_law_at", "_law_reach"]
theorem sc_l_starts_by : FnScope N_l_starts_by ["_law_cell", "_law_count"] (defScope s_l_starts_by) := ⟨rfl, rfl, rfl, by decide +kernel, rfl, by decide +kernel, by decide +kernel⟩
abbrev s_l_spoilt : Stmt := topS 29
abbrev N_l_spoilt : List Str := ["_law_starts", "_law_way", "_law_cell", "_law_count", "_law_k", "_law_turned"]
theorem sc_l_spoilt : FnScope N_l_spoilt ["_law_starts", "_law_way", "_law_cell", "_law_count"] (defScope s_l_spoilt) := ⟨rfl, rfl, rfl, by decide +kernel, rfl, by decide +kernel, by decide +kernel⟩
abbrev s_l_good : Stmt := topS 30
abbrev N_l_good : List Str := ["_law_starts", "_law_count", "_law_k"]
theorem sc_l_good : FnScope N_l_good ["_law_starts", "_law_count"] (defScope s_l_good) := ⟨rfl, rfl, rfl, by decide +kernel, rfl, by decide +kernel, by decide +kernel⟩
abbrev s_law : Stmt := topS 31
abbrev N_law : List Str := ["_law_script", "_law_row", "_law_more", "_law_starts", "_law_due", "_law_ends", "_law_words", "_law_handed", "_law_found", "_law_refused", "_law_e", "_law_k"]
theorem sc_law : FnScope N_law ["_law_script"] (defScope s_law) := ⟨rfl, rfl, rfl, by decide +kernel, rfl, by decide +kernel, by decide +kernel⟩
/-- where the defs and classes stand -/
structure Ad where
  f_line_of : Addr
  d_line_of : FuncData
  f_lines_of : Addr
  d_lines_of : FuncData
  f_bounds_of : Addr
  d_bounds_of : FuncData
  f_check_starts : Addr
  d_check_starts : FuncData
  f_are_starts : Addr
  d_are_starts : FuncData
  f_l_cell_at : Addr
  d_l_cell_at : FuncData
  f_l_sign_by : Addr
  d_l_sign_by : FuncData
  f_l_word_by : Addr
  d_l_word_by : FuncData
  f_l_alike_by : Addr
  d_l_alike_by : FuncData
  f_l_wide_by : Addr
  d_l_wide_by : FuncData
  f_l_words_by : Addr
  d_l_words_by : FuncData
  f_l_texts : Addr
  d_l_texts : FuncData
  f_l_kind : Addr
  d_l_kind : FuncData
  f_l_starts_by : Addr
  d_l_starts_by : FuncData
  f_l_spoilt : Addr
  d_l_spoilt : FuncData
  f_l_good : Addr
  d_l_good : FuncData
  f_law : Addr
  d_law : FuncData
  k_are_starts : Addr
  p_are_starts : Addr
  c_WrapError : Addr
  c_NoWidth : Addr
  c_LongWord : Addr
  c_NoStarts : Addr
  c_TooWide : Addr
  c_TooFew : Addr
  c_TooMany : Addr
  c_NoPlace : Addr
  c_NoWord : Addr
  c_Full : Addr
  c_NoWayBack : Addr
/-- what the top has left -/
structure Txt (K : PySem.W.Frag) (mg : Str → Option Value) (A : Ad) : Prop where
  F_line_of : Fun K "line_of" "line_of" s_line_of A.f_line_of A.d_line_of
  g_line_of : mg "line_of" = some (.ref A.f_line_of)
  b_line_of : Binds K A.d_line_of ["words", "begin", "end"] []
  F_lines_of : Fun K "lines_of" "lines_of" s_lines_of A.f_lines_of A.d_lines_of
  g_lines_of : mg "lines_of" = some (.ref A.f_lines_of)
  b_lines_of : Binds K A.d_lines_of ["words", "starts"] []
  F_bounds_of : Fun K "bounds_of" "bounds_of" s_bounds_of A.f_bounds_of A.d_bounds_of
  g_bounds_of : mg "bounds_of" = some (.ref A.f_bounds_of)
  b_bounds_of : Binds K A.d_bounds_of ["words", "starts"] []
  F_check_starts : Fun K "check_starts" "check_starts" s_check_starts A.f_check_starts A.d_check_starts
  g_check_starts : mg "check_starts" = some (.ref A.f_check_starts)
  b_check_starts : Binds K A.d_check_starts ["words", "starts"] []
  F_are_starts : Fun K "are_starts" "are_starts" s_are_starts A.f_are_starts A.d_are_starts
  g_are_starts : mg "are_starts" = some (.ref A.f_are_starts)
  b_are_starts : Binds K A.d_are_starts ["words", "starts"] []
  F_l_cell_at : Fun K "_law_cell_at" "_law_cell_at" s_l_cell_at A.f_l_cell_at A.d_l_cell_at
  g_l_cell_at : mg "_law_cell_at" = some (.ref A.f_l_cell_at)
  b_l_cell_at : Binds K A.d_l_cell_at ["_law_script", "_law_k"] []
  F_l_sign_by : Fun K "_law_sign_by" "_law_sign_by" s_l_sign_by A.f_l_sign_by A.d_l_sign_by
  g_l_sign_by : mg "_law_sign_by" = some (.ref A.f_l_sign_by)
  b_l_sign_by : Binds K A.d_l_sign_by ["_law_cell"] []
  F_l_word_by : Fun K "_law_word_by" "_law_word_by" s_l_word_by A.f_l_word_by A.d_l_word_by
  g_l_word_by : mg "_law_word_by" = some (.ref A.f_l_word_by)
  b_l_word_by : Binds K A.d_l_word_by ["_law_cell"] []
  F_l_alike_by : Fun K "_law_alike_by" "_law_alike_by" s_l_alike_by A.f_l_alike_by A.d_l_alike_by
  g_l_alike_by : mg "_law_alike_by" = some (.ref A.f_l_alike_by)
  b_l_alike_by : Binds K A.d_l_alike_by ["_law_cell", "_law_size"] []
  F_l_wide_by : Fun K "_law_wide_by" "_law_wide_by" s_l_wide_by A.f_l_wide_by A.d_l_wide_by
  g_l_wide_by : mg "_law_wide_by" = some (.ref A.f_l_wide_by)
  b_l_wide_by : Binds K A.d_l_wide_by ["_law_more", "_law_k"] []
  F_l_words_by : Fun K "_law_words_by" "_law_words_by" s_l_words_by A.f_l_words_by A.d_l_words_by
  g_l_words_by : mg "_law_words_by" = some (.ref A.f_l_words_by)
  b_l_words_by : Binds K A.d_l_words_by ["_law_cells", "_law_more"] []
  F_l_texts : Fun K "_law_texts" "_law_texts" s_l_texts A.f_l_texts A.d_l_texts
  g_l_texts : mg "_law_texts" = some (.ref A.f_l_texts)
  b_l_texts : Binds K A.d_l_texts ["_law_found", "_law_due"] []
  F_l_kind : Fun K "_law_kind" "_law_kind" s_l_kind A.f_l_kind A.d_l_kind
  g_l_kind : mg "_law_kind" = some (.ref A.f_l_kind)
  b_l_kind : Binds K A.d_l_kind ["_law_e"] []
  F_l_starts_by : Fun K "_law_starts_by" "_law_starts_by" s_l_starts_by A.f_l_starts_by A.d_l_starts_by
  g_l_starts_by : mg "_law_starts_by" = some (.ref A.f_l_starts_by)
  b_l_starts_by : Binds K A.d_l_starts_by ["_law_cell", "_law_count"] []
  F_l_spoilt : Fun K "_law_spoilt" "_law_spoilt" s_l_spoilt A.f_l_spoilt A.d_l_spoilt
  g_l_spoilt : mg "_law_spoilt" = some (.ref A.f_l_spoilt)
  b_l_spoilt : Binds K A.d_l_spoilt ["_law_starts", "_law_way", "_law_cell", "_law_count"] []
  F_l_good : Fun K "_law_good" "_law_good" s_l_good A.f_l_good A.d_l_good
  g_l_good : mg "_law_good" = some (.ref A.f_l_good)
  b_l_good : Binds K A.d_l_good ["_law_starts", "_law_count"] []
  F_law : Fun K "law" "law" s_law A.f_law A.d_law
  g_law : mg "law" = some (.ref A.f_law)
  b_law : Binds K A.d_law ["_law_script"] []
  hc_are_starts : A.d_are_starts.code = .ref A.k_are_starts
  m_ValueError : mg "ValueError" = none
  m_all : mg "all" = none
  m_int : mg "int" = none
  m_isinstance : mg "isinstance" = none
  m_len : mg "len" = none
  m_list : mg "list" = none
  m_range : mg "range" = none
  m_str : mg "str" = none
  m_sum : mg "sum" = none
  m_zip : mg "zip" = none
  gc_WrapError : mg "WrapError" = some (.ref A.c_WrapError)
  gc_NoWidth : mg "NoWidth" = some (.ref A.c_NoWidth)
  gc_LongWord : mg "LongWord" = some (.ref A.c_LongWord)
  gc_NoStarts : mg "NoStarts" = some (.ref A.c_NoStarts)
  gc_TooWide : mg "TooWide" = some (.ref A.c_TooWide)
  gc_TooFew : mg "TooFew" = some (.ref A.c_TooFew)
  gc_TooMany : mg "TooMany" = some (.ref A.c_TooMany)
  gc_NoPlace : mg "NoPlace" = some (.ref A.c_NoPlace)
  gc_NoWord : mg "NoWord" = some (.ref A.c_NoWord)
  gc_Full : mg "Full" = some (.ref A.c_Full)
  gc_NoWayBack : mg "NoWayBack" = some (.ref A.c_NoWayBack)
  hd_WrapError : PySem.W.hasDictIn K A.c_WrapError = true
  ty_WrapError : PySem.W.typeIn K (.ref A.c_WrapError) = some (.type "type")
  hd_NoWidth : PySem.W.hasDictIn K A.c_NoWidth = true
  ty_NoWidth : PySem.W.typeIn K (.ref A.c_NoWidth) = some (.type "type")
  hd_LongWord : PySem.W.hasDictIn K A.c_LongWord = true
  ty_LongWord : PySem.W.typeIn K (.ref A.c_LongWord) = some (.type "type")
  hd_NoStarts : PySem.W.hasDictIn K A.c_NoStarts = true
  ty_NoStarts : PySem.W.typeIn K (.ref A.c_NoStarts) = some (.type "type")
  hd_TooWide : PySem.W.hasDictIn K A.c_TooWide = true
  ty_TooWide : PySem.W.typeIn K (.ref A.c_TooWide) = some (.type "type")
  hd_TooFew : PySem.W.hasDictIn K A.c_TooFew = true
  ty_TooFew : PySem.W.typeIn K (.ref A.c_TooFew) = some (.type "type")
  hd_TooMany : PySem.W.hasDictIn K A.c_TooMany = true
  ty_TooMany : PySem.W.typeIn K (.ref A.c_TooMany) = some (.type "type")
  hd_NoPlace : PySem.W.hasDictIn K A.c_NoPlace = true
  ty_NoPlace : PySem.W.typeIn K (.ref A.c_NoPlace) = some (.type "type")
  hd_NoWord : PySem.W.hasDictIn K A.c_NoWord = true
  ty_NoWord : PySem.W.typeIn K (.ref A.c_NoWord) = some (.type "type")
  hd_Full : PySem.W.hasDictIn K A.c_Full = true
  ty_Full : PySem.W.typeIn K (.ref A.c_Full) = some (.type "type")
  hd_NoWayBack : PySem.W.hasDictIn K A.c_NoWayBack = true
  ty_NoWayBack : PySem.W.typeIn K (.ref A.c_NoWayBack) = some (.type "type")
  bw : PySem.W.subIn K (.ref A.c_WrapError) (.type "BaseException") = some true
  ex_NoStarts : ExF K A.c_NoStarts
  sv_NoStarts : PySem.W.subIn K (.ref A.c_NoStarts) (.type "ValueError") = some true
  sb_NoStarts_WrapError : PySem.W.subIn K (.ref A.c_NoStarts) (.ref A.c_WrapError) = some true
  sb_NoStarts_NoWidth : PySem.W.subIn K (.ref A.c_NoStarts) (.ref A.c_NoWidth) = some false
  ne_NoStarts_NoWidth : A.c_NoStarts ≠ A.c_NoWidth
  sb_NoStarts_LongWord : PySem.W.subIn K (.ref A.c_NoStarts) (.ref A.c_LongWord) = some false
  ne_NoStarts_LongWord : A.c_NoStarts ≠ A.c_LongWord
  sb_NoStarts_NoStarts : PySem.W.subIn K (.ref A.c_NoStarts) (.ref A.c_NoStarts) = some true
  sb_NoStarts_TooWide : PySem.W.subIn K (.ref A.c_NoStarts) (.ref A.c_TooWide) = some false
  ne_NoStarts_TooWide : A.c_NoStarts ≠ A.c_TooWide
  sb_NoStarts_TooFew : PySem.W.subIn K (.ref A.c_NoStarts) (.ref A.c_TooFew) = some false
  ne_NoStarts_TooFew : A.c_NoStarts ≠ A.c_TooFew
  sb_NoStarts_TooMany : PySem.W.subIn K (.ref A.c_NoStarts) (.ref A.c_TooMany) = some false
  ne_NoStarts_TooMany : A.c_NoStarts ≠ A.c_TooMany
  sb_NoStarts_NoPlace : PySem.W.subIn K (.ref A.c_NoStarts) (.ref A.c_NoPlace) = some false
  ne_NoStarts_NoPlace : A.c_NoStarts ≠ A.c_NoPlace
  sb_NoStarts_NoWord : PySem.W.subIn K (.ref A.c_NoStarts) (.ref A.c_NoWord) = some false
  ne_NoStarts_NoWord : A.c_NoStarts ≠ A.c_NoWord
  sb_NoStarts_Full : PySem.W.subIn K (.ref A.c_NoStarts) (.ref A.c_Full) = some false
  ne_NoStarts_Full : A.c_NoStarts ≠ A.c_Full
  sb_NoStarts_NoWayBack : PySem.W.subIn K (.ref A.c_NoStarts) (.ref A.c_NoWayBack) = some false
  ne_NoStarts_NoWayBack : A.c_NoStarts ≠ A.c_NoWayBack
/-- the tables of code objects -/
structure Tb (mg : Str → Option Value) (base : Heap) (A : Ad) : Prop where
  tb_are_starts : GxR.TabB base mg A.k_are_starts A.p_are_starts
/-! ### the words that a law makes of its cells -/
/-- a word of the law's: of signs of words, of one to 300 -/
def Wd (z : Str) : Prop := (∀ c ∈ TL.tl z, Ws c) ∧ 1 ≤ z.length ∧ z.length ≤ 300
theorem Wd.txs {z : Str} (h : Wd z) : Txs z := fun c hc => .inr (.inr (h.1 c hc))
theorem Wd.lt {z : Str} (h : Wd z) : ∀ c ∈ TL.tl z, c < 1114112 := h.txs.lt
def one (c : Nat) : Str := ⟨#[c]⟩
theorem one_len (c : Nat) : (one c).length = 1 := rfl
theorem sum_ones (n : Nat) (g : Nat → Nat) : (((List.range n).map fun i => one (g i)).map (·.length)).sum = n := by
  rw [List.map_map]
  induction n with
  | zero => rfl
  | succ m ih => rw [List.range_succ, List.map_append, List.sum_append, ih] <;> rfl
theorem ws_join {ps : List Str} (h : ∀ p ∈ ps, ∀ c ∈ TL.tl p, Ws c) : ∀ c ∈ TL.tl (Txt.join Str.empty ps), Ws c := fun c hc => by
  rw [TL.join_eq, TL.tl_join] at hc
  rcases joinL_mem _ _ c hc with q | ⟨p, q, q2⟩
  · simp [TL.tl, Str.empty] at q
  · obtain ⟨z, hz, rfl⟩ := List.mem_map.mp q
    exact h z hz c q2
theorem ws_mul {z : Str} (h : ∀ c ∈ TL.tl z, Ws c) (k : Int) : ∀ c ∈ TL.tl (Txt.mul z k), Ws c := fun c hc => by
  unfold Txt.mul at hc
  split at hc
  · simp [TL.tl, Str.empty] at hc
  · split at hc
    · exact h c hc
    · have go : ∀ (n : Nat) (acc : Array Nat), (∀ d ∈ acc.toList, Ws d) → ∀ d ∈ ((List.replicate n z.cps).foldl (· ++ ·) acc).toList, Ws d := by
        intro n
        induction n with
        | zero => exact fun acc ha => ha
        | succ n ih =>
          intro acc ha
          rw [List.replicate_succ, List.foldl_cons]
          refine ih _ fun d hd => ?_
          rw [Array.toList_append] at hd
          rcases List.mem_append.mp hd with hd | hd
          · exact ha d hd
          · exact h d hd
      exact go _ _ (fun d hd => by simp at hd) c hc
theorem ws_one (c : Int) : ∀ d ∈ TL.tl (one (sgn c)), Ws d := fun d hd => by
  rw [show TL.tl (one (sgn c)) = [sgn c] from rfl] at hd
  rw [List.mem_singleton.mp hd]
  exact sgn_ws c
theorem ws_app {x y : Str} (h : ∀ c ∈ TL.tl x, Ws c) (k : ∀ c ∈ TL.tl y, Ws c) : ∀ c ∈ TL.tl (x ++ y), Ws c := fun c hc => by
  rw [TL.tl_append] at hc
  rcases List.mem_append.mp hc with hc | hc
  · exact h c hc
  · exact k c hc
theorem len_mul1 {z : Str} (hz : z.length = 1) {k : Int} (hk : 0 ≤ k) : ((Txt.mul z k).length : Int) = k := by
  have e := len_mul z k
  rw [hz, if_neg (by simp; omega)] at e
  omega
def wsize (c : Int) : Int := if c / 7 % 81 = 2 then 1 + c / 567 % 300 else if c / 7 % 9 = 1 then 1 + c / 63 % 40 else 1 + c % 7
theorem wsize_in (c : Int) : 1 ≤ wsize c ∧ wsize c ≤ 300 := by
  unfold wsize
  split
  · omega
  · split <;> omega
def wordOf (c : Int) : Str := Txt.join Str.empty ((List.range (wsize c).toNat).map fun (i : Nat) => one (sgn (c / 3 + (i : Int) * (1 + c % 5))))
theorem wordOf_wd (c : Int) : Wd (wordOf c) := by
  have h := wsize_in c
  have e : (wordOf c).length = (wsize c).toNat := by
    unfold wordOf
    rw [len_join0, sum_ones (wsize c).toNat fun i => sgn (c / 3 + (i : Int) * (1 + c % 5))]
  refine ⟨ws_join fun p hp => ?_, by omega, by omega⟩
  obtain ⟨i, _, rfl⟩ := List.mem_map.mp hp
  exact ws_one _
def signA : Str := ⟨#[97]⟩
theorem signA_eq : Str.ofString "a" = signA := by decide +kernel
theorem ws_a : ∀ d ∈ TL.tl signA, Ws d := by
  intro d hd
  rw [show TL.tl signA = [97] from rfl] at hd
  rw [List.mem_singleton.mp hd]
  exact ⟨by decide, by decide⟩
def alikeOf (c s : Int) : Str := Txt.mul signA (c / 93 % s) ++ one (sgn c) ++ Txt.mul signA (s - 1 - c / 93 % s)
theorem alikeOf_wd (c : Int) {s : Int} (h1 : 1 ≤ s) (h2 : s ≤ 4) : Wd (alikeOf c s) := by
  have a0 : 0 ≤ c / 93 % s := Int.emod_nonneg _ (by omega)
  have a1 : c / 93 % s < s := Int.emod_lt_of_pos _ (by omega)
  have l1 := len_mul1 (z := signA) rfl a0
  have l2 := len_mul1 (z := signA) rfl (show 0 ≤ s - 1 - c / 93 % s by omega)
  refine ⟨ws_app (ws_app (ws_mul ws_a _) (ws_one c)) (ws_mul ws_a _), ?_, ?_⟩
  · unfold alikeOf
    rw [len_app, len_app, one_len]
    omega
  · unfold alikeOf
    rw [len_app, len_app, one_len]
    omega
def wideOf (m k : Int) : Int := 1 + (m + k * k) % 3 + 5 * (if k % 7 = m % 7 then 1 else 0)
theorem wideOf_in (m k : Int) : 1 ≤ wideOf m k ∧ wideOf m k ≤ 8 := by
  unfold wideOf
  split <;> omega
def manyOf (m : Int) : Int := m * 48271 % 9973 % (if m / 12 % 4 = 3 then 1600 else 450)
theorem manyOf_in (m : Int) : 0 ≤ manyOf m ∧ manyOf m < 1600 := by
  unfold manyOf
  split <;> omega
def row0 (cells : List Int) (m : Int) : List Str := if m % 4 = 1 then ((List.replicate 6 (cells.map wordOf)).flatten).take (m / 4 % 150).toNat else cells.map wordOf
def row1 (cells : List Int) (m : Int) : List Str := if m % 4 = 2 then cells.map fun c => alikeOf c (1 + m / 4 % 4) else row0 cells m
def wordsOf (cells : List Int) (m : Int) : List Str := if m % 12 = 3 then (List.range (manyOf m).toNat).map fun (k : Nat) => Txt.mul (one (sgn (m + (k : Int)))) (wideOf m (k : Int)) else row1 cells m
theorem words_wd (cells : List Int) (m : Int) : ∀ z ∈ wordsOf cells m, Wd z := by
  have h0 : ∀ z ∈ cells.map wordOf, Wd z := fun z hz => by
    obtain ⟨c, _, rfl⟩ := List.mem_map.mp hz
    exact wordOf_wd c
  have h1 : ∀ z ∈ row0 cells m, Wd z := by
    unfold row0
    split
    · intro z hz
      have hz' := List.mem_of_mem_take hz
      obtain ⟨l, hl, hzl⟩ := List.mem_flatten.mp hz'
      rw [(List.mem_replicate.mp hl).2] at hzl
      exact h0 z hzl
    · exact h0
  have h2 : ∀ z ∈ row1 cells m, Wd z := by
    unfold row1
    split
    · intro z hz
      obtain ⟨c, _, rfl⟩ := List.mem_map.mp hz
      exact alikeOf_wd c (by omega) (by omega)
    · exact h1
  unfold wordsOf
  split
  · intro z hz
    obtain ⟨k, _, rfl⟩ := List.mem_map.mp hz
    have hw := wideOf_in m (k : Int)
    have hl := len_mul1 (z := one (sgn (m + (k : Int)))) rfl (show 0 ≤ wideOf m (k : Int) by omega)
    exact ⟨ws_mul (ws_one _) _, by omega, by omega⟩
  · exact h2
theorem words_len (cells : List Int) (m : Int) (h : cells.length ≤ 63) : (wordsOf cells m).length ≤ 1600 := by
  have hm := manyOf_in m
  unfold wordsOf row1 row0
  split
  · rw [List.length_map, List.length_range]
    omega
  · split
    · rw [List.length_map]
      omega
    · split
      · rw [List.length_take]
        have : m / 4 % 150 < 150 := by omega
        omega
      · rw [List.length_map]
        omega
theorem sum_le_mul : ∀ (l : List Str) (n : Nat), (∀ z ∈ l, z.length ≤ n) → (l.map (·.length)).sum ≤ n * l.length
  | [], _, _ => Nat.zero_le _
  | a :: r, n, h => by
    have h1 := h a (List.mem_cons_self ..)
    have h2 := sum_le_mul r n fun z hz => h z (List.mem_cons_of_mem _ hz)
    rw [List.map_cons, List.sum_cons, List.length_cons, Nat.mul_succ]
    omega

local macro_rules | `(tactic| walk_at "rv") => `(tactic| (first
  | exact rv_I0
  | exact rv_I (by decide)
  | exact rv_I ⟨by omega, by omega⟩
  | exact rv_I (.inl ⟨by omega, by omega⟩)
  | exact rv_I (.inr ⟨by omega, by omega⟩)
  | exact rv_eq rfl
  | exact rv_ne rfl
  | exact rv_isB
  | exact rv_isN
  | exact rv_notN))
local macro_rules | `(tactic| walk_at "ev") => `(tactic| (first
  | exact ev_c
  | exact ev_var rfl
  | (apply ev_op; (walk_at "ev"); (walk_at "ev"); (walk_at "rv"))
  | (apply ev_un; (walk_at "ev"); (exact ru_neg))
  | (apply ev_cb; (walk_at "ea"); (walk_at "rc"))
  | (apply ev_call; (walk_at "ea"); (walk_at "sp"))))
local macro_rules | `(tactic| walk_at "ea") => `(tactic| (first
  | exact ea_nil
  | (apply ea_cons; (walk_at "ev"); (walk_at "ea"))))
local macro_rules | `(tactic| walk_at "rc") => `(tactic| (first
  | exact rc_lenL (by assumption)
  | exact rc_lenS (by omega)
  | exact rc_isStr
  | exact rc_isList (by assumption)))
local macro_rules | `(tactic| walk_at "et") => `(tactic| (first
  | (apply et_test; (walk_at "ev"))
  | (apply et_B; (walk_at "ev"))
  | (apply et_not; (walk_at "et"))))

section
variable {P : Program} {w : World} {K : PySem.W.Frag} {mg : Str → Option Value} {base : Heap} {A : Ad}
/-! ### _law_cell_at -/
def sp_cell_at (K : PySem.W.Frag) : Sp := fun vs H Q _ => ∃ (a : Addr) (ns : List Int) (j : Nat), vs = [.ref a, .int j] ∧ SqL K H a (ns.map V.int) ∧ RetV (.int (ns.getD j 0)) H Q
theorem ok_l_cell_at (T : Txt K mg A) : FnOk P w K mg base CX0 1 A.f_l_cell_at A.d_l_cell_at ["_law_script", "_law_k"] (sp_cell_at K) := by
  refine T.F_l_cell_at.ok sc_l_cell_at (fun vs H Q E h => ?_) (fun cdv Ar outer s H vs Q E hr h => ?_)
  · obtain ⟨a, ns, j, rfl, _⟩ := h
    rfl
  · obtain ⟨a, ns, j, rfl, hS, k⟩ := h
    refine ⟨_, (pss_cons (ps_if (pt_cmpR op_lt (pv 1) (pe_callB call_len_seq (by rfl) T.m_len PySem.boot_len (pa_cons (pv 0) pa_nil)) (nomark _))
  (pss_one (ps_ret (pe_ix (ixL (K := K) rfl) (pv 0) (pv 1) (fun _ _ => rfl))))
  pss_nil)
  (pss_one (ps_ret pe_int))), ?_⟩
    refine q_when (b := decide ((j : Int) < ((ns.map V.int).length : Nat))) (by walk_at "et") (fun hb H1 e1 => ?_) (fun hb H1 e1 => ?_)
    · have hj : j < ns.length := by
        have q := of_decide_eq_true hb
        rw [List.length_map] at q
        omega
      have hS1 := ex_l e1 hS
      refine s_ret (v := .int (ns.getD j 0)) (ev_op (ev_var rfl) (ev_var rfl) (rv_ixL hS1 (atI_nat ?_))) fun H2 e2 => k H2 (e1.trans e2)
      rw [List.getElem?_map, List.getD_eq_getElem?_getD, List.getElem?_eq_getElem hj] <;> rfl
    · have hj : ns.length ≤ j := by
        have q := of_decide_eq_false hb
        rw [List.length_map] at q
        omega
      refine s_ret ev_c fun H2 e2 => ?_
      have e : ns.getD j 0 = 0 := by
        rw [List.getD_eq_getElem?_getD, List.getElem?_eq_none hj] <;> rfl
      rw [e] at k
      exact k H2 (e1.trans e2)
/-! ### _law_sign_by -/
def sp_sign_by (K : PySem.W.Frag) : Sp := fun vs H Q _ => ∃ (c : Int), vs = [.int c] ∧ RetV (.str ⟨#[sgn c]⟩) H Q
def alphA : Str := "!\"#$&'()*+,-./0123456789:;<=>?@ABCDEFGHIJKLMNOPQRSTUVWXYZ[\\]^_`"
def alphB : Str := "abcdefghijklmnopqrstuvwxyz{|}~"
theorem alph_tl : (alphA ++ alphB).cps.toList = sgnL := by decide +kernel
theorem alph_len : alphA.length + alphB.length ≤ 100000 := by decide +kernel
theorem alph_len2 : (alphA ++ alphB).length ≤ 100000 := by decide +kernel
theorem ok_l_sign_by (T : Txt K mg A) : FnOk P w K mg base CX0 1 A.f_l_sign_by A.d_l_sign_by ["_law_cell"] (sp_sign_by K) := by
  refine T.F_l_sign_by.ok sc_l_sign_by (fun vs H Q E h => ?_) (fun cdv Ar outer s H vs Q E hr h => ?_)
  · obtain ⟨c, rfl, _⟩ := h
    rfl
  · obtain ⟨c, rfl, k⟩ := h
    refine ⟨_, (pss_cons (ps_set (i := 1) sc_l_sign_by.nd rfl (.inl rfl) pe_str)
  (pss_cons (ps_set (i := 1) sc_l_sign_by.nd rfl (.inl rfl) (pe_op op_add_str (pv 1) pe_str))
  (pss_one (ps_ret (pe_ix ix_str (pv 1) (pe_op op_mod (pv 0) pe_int) (fun _ _ => rfl)))))), ?_⟩
    refine q_asg (v := .str alphA) ev_c fun H1 e1 => ?_
    refine q_asg (v := .str (alphA ++ alphB)) (ev_op (ev_var rfl) ev_c (rv_addS alph_len)) fun H2 e2 => ?_
    refine s_ret (v := .str ⟨#[sgn c]⟩) (ev_op (ev_var rfl) (ev_op (ev_var rfl) ev_c (rv_I (by decide))) (rv_ixS alph_len2 ?_)) fun H3 e3 => k H3 ((e1.trans e2).trans e3)
    rw [alph_tl]
    exact at_sgn c
/-! ### the defs that make the words -/
def sp_word_by (K : PySem.W.Frag) : Sp := fun vs H Q _ => ∃ c : Int, vs = [.int c] ∧ RetV (.str (wordOf c)) H Q
theorem ok_l_word_by (T : Txt K mg A) : FnOk P w K mg base CX0 2 A.f_l_word_by A.d_l_word_by ["_law_cell"] (sp_word_by K) := by
  refine T.F_l_word_by.ok sc_l_word_by (fun vs H Q E h => ?_) (fun cdv Ar outer s H vs Q E hr h => ?_)
  · obtain ⟨c, rfl, _⟩ := h
    rfl
  · obtain ⟨c, rfl, k⟩ := h
    refine ⟨_, (pss_cons (ps_set (i := 1) sc_l_word_by.nd rfl (.inl rfl) (pe_op op_add pe_int (pe_op op_mod (pv 0) pe_int)))
  (pss_cons (ps_if (pt_cmpR op_eq (pe_op op_mod (pe_op op_fdiv (pv 0) pe_int) pe_int) pe_int (nomark _))
  (pss_one (ps_set (i := 1) sc_l_word_by.nd rfl (.inl rfl) (pe_op op_add pe_int (pe_op op_mod (pe_op op_fdiv (pv 0) pe_int) pe_int))))
  pss_nil)
  (pss_cons (ps_if (pt_cmpR op_eq (pe_op op_mod (pe_op op_fdiv (pv 0) pe_int) pe_int) pe_int (nomark _))
  (pss_one (ps_set (i := 1) sc_l_word_by.nd rfl (.inl rfl) (pe_op op_add pe_int (pe_op op_mod (pe_op op_fdiv (pv 0) pe_int) pe_int))))
  pss_nil)
  (pss_one (ps_ret (TwT.pe_joinK (K := K) rfl pe_str (pe_lc (own := [("_law_k", 2)]) (tt := tYes) rfl sc_l_word_by.nd (pi_range1 (by rfl) T.m_range (pa_cons (pv 1) pa_nil)) (blkOk_by (N := N_l_word_by) (sc := defScope s_l_word_by) (by decide +kernel)) (fun _ _ _ _ _ => (pg_name (i := 2) sc_l_word_by.nd rfl (.inl rfl))) (fun _ _ _ _ _ => pts_nil) (fun _ _ _ _ _ => (pe_call (ok_l_sign_by T) (hr.mono (by decide)) rfl T.g_l_sign_by T.F_l_sign_by.kp T.b_l_sign_by .nil pass0 (pa_cons (pe_op op_add (pe_op op_fdiv (pv 0) pe_int) (pe_op op_mul (pv 2) (pe_op op_add pe_int (pe_op op_mod (pv 0) pe_int)))) pa_nil)))))))))), ?_⟩
    refine q_asg (v := .int (1 + c % 7)) (by walk_at "ev") fun H1 e1 => ?_
    refine q_ifAsg (i := 1) (b := decide (V.int (c / 7 % 9) = V.int 1)) (v := .int (if c / 7 % 9 = 1 then 1 + c / 63 % 40 else 1 + c % 7)) (by walk_at "et") (fun hb => ?_) (fun hb => ?_) fun H2 e2 => ?_
    · have h := of_decide_eq_true hb
      rw [if_pos (by injection h)]
      walk_at "ev"
    · have h := of_decide_eq_false hb
      rw [if_neg (fun q => h (by rw [q]))]
      rfl
    refine q_ifAsg (i := 1) (b := decide (V.int (c / 7 % 81) = V.int 2)) (v := .int (wsize c)) (by walk_at "et") (fun hb => ?_) (fun hb => ?_) fun H3 e3 => ?_
    · have h := of_decide_eq_true hb
      have h' : c / 7 % 81 = 2 := by injection h
      have ew : wsize c = 1 + c / 567 % 300 := if_pos h'
      rw [ew]
      walk_at "ev"
    · have h := of_decide_eq_false hb
      have h' : ¬ c / 7 % 81 = 2 := fun q => h (by rw [q])
      have ew : wsize c = if c / 7 % 9 = 1 then 1 + c / 63 % 40 else 1 + c % 7 := if_neg h'
      rw [ew]
      rfl
    have hn := wsize_in c
    have hys : ((List.range (wsize c).toNat).map fun i : Nat => V.str (one (sgn (c / 3 + (i : Int) * (1 + c % 5))))) = ((List.range (wsize c).toNat).map fun i : Nat => one (sgn (c / 3 + (i : Int) * (1 + c % 5)))).map V.str := by
      rw [List.map_map] <;> rfl
    refine s_ret (v := .str (wordOf c)) (ev_joinL ev_none (el_is (el_lcR (fun i : Nat => V.str (one (sgn (c / 3 + (i : Int) * (1 + c % 5))))) (ea_cons (ev_var rfl) ea_nil) (by omega) (fun _ => rfl) fun i H4 e4 hi => ?_) hys) ?_) fun H4 e4 => k H4 (((e1.trans e2).trans e3).trans e4)
    · exact ev_call (ea_cons (x := .int (c / 3 + (i : Int) * (1 + c % 5))) (by walk_at "ev") ea_nil) fun H5 e5 Q q E => ⟨_, rfl, q⟩
    · rw [sum_ones (wsize c).toNat fun i => sgn (c / 3 + (i : Int) * (1 + c % 5))]
      show _ + _ * 0 ≤ _
      omega
def sp_alike_by (K : PySem.W.Frag) : Sp := fun vs H Q _ => ∃ c s : Int, vs = [.int c, .int s] ∧ 1 ≤ s ∧ s ≤ 4 ∧ RetV (.str (alikeOf c s)) H Q
theorem ok_l_alike_by (T : Txt K mg A) : FnOk P w K mg base CX0 2 A.f_l_alike_by A.d_l_alike_by ["_law_cell", "_law_size"] (sp_alike_by K) := by
  refine T.F_l_alike_by.ok sc_l_alike_by (fun vs H Q E h => ?_) (fun cdv Ar outer s H vs Q E hr h => ?_)
  · obtain ⟨c, s, rfl, _⟩ := h
    rfl
  · obtain ⟨c, sz, rfl, h1, h2, k⟩ := h
    refine ⟨_, (pss_cons (ps_set (i := 2) sc_l_alike_by.nd rfl (.inl rfl) (pe_op op_mod (pe_op op_fdiv (pv 0) pe_int) (pv 1)))
  (pss_one (ps_ret (pe_op op_add_str (pe_op op_add_str (pe_op op_mulS pe_str (pv 2)) (pe_call (ok_l_sign_by T) (hr.mono (by decide)) rfl T.g_l_sign_by T.F_l_sign_by.kp T.b_l_sign_by .nil pass0 (pa_cons (pv 0) pa_nil))) (pe_op op_mulS pe_str (pe_op op_sub (pe_op op_sub (pv 1) pe_int) (pv 2))))))), ?_⟩
    have a0 : 0 ≤ c / 93 % sz := Int.emod_nonneg _ (by omega)
    have a1 : c / 93 % sz < sz := Int.emod_lt_of_pos _ (by omega)
    have l1 := len_mul1 (z := signA) rfl a0
    have l2 := len_mul1 (z := signA) rfl (show 0 ≤ sz - 1 - c / 93 % sz by omega)
    have ea : ∀ {σ : L2.St} {H : Hp}, Ev (tC (.str (Str.ofString "a"))) σ H (.str signA) := ev_is ev_c (congrArg V.str signA_eq)
    refine q_asg (v := .int (c / 93 % sz)) (ev_op (ev_op (ev_var rfl) ev_c (rv_I ⟨by decide, by decide⟩)) (ev_var rfl) (rv_I (by omega))) fun H1 e1 => ?_
    refine s_ret (v := .str (alikeOf c sz)) (ev_op (ev_op (ev_op ea (ev_var rfl) (rv_mulS (L := 1) (N := 4) (Nat.le_refl 1) (by omega) a0 (by decide) (by decide))) (ev_call (ea_cons (ev_var rfl) ea_nil) fun H5 e5 Q q E => ⟨_, rfl, q⟩) (rv_addS ?_)) (ev_op ea (by walk_at "ev") (rv_mulS (L := 1) (N := 4) (Nat.le_refl 1) (by omega) (by omega) (by decide) (by decide))) (rv_addS ?_)) fun H4 e4 => k H4 (e1.trans e4)
    · show _ + 1 ≤ _
      omega
    · rw [len_app]
      show _ + 1 + _ ≤ _
      omega
def sp_wide_by (K : PySem.W.Frag) : Sp := fun vs H Q _ => ∃ m k : Int, vs = [.int m, .int k] ∧ 0 ≤ k ∧ k ≤ 10000 ∧ RetV (.int (wideOf m k)) H Q
theorem ok_l_wide_by (T : Txt K mg A) : FnOk P w K mg base CX0 1 A.f_l_wide_by A.d_l_wide_by ["_law_more", "_law_k"] (sp_wide_by K) := by
  refine T.F_l_wide_by.ok sc_l_wide_by (fun vs H Q E h => ?_) (fun cdv Ar outer s H vs Q E hr h => ?_)
  · obtain ⟨m, k, rfl, _⟩ := h
    rfl
  · obtain ⟨m, kk, rfl, h1, h2, k⟩ := h
    refine ⟨_, (pss_one (ps_ret (pe_op op_add (pe_op op_add pe_int (pe_op op_mod (pe_op op_add (pv 0) (pe_op op_mul (pv 1) (pv 1))) pe_int)) (pe_op op_mul pe_int (pe_callTy call_int1 (by rfl) T.m_int (by decide +kernel) (pa_cons (pe_cmpR op_eq (pe_op op_mod (pv 1) pe_int) (pe_op op_mod (pv 0) pe_int) (nomark _)) pa_nil)))))), ?_⟩
    have e : (.int (wideOf m kk) : V) = .int (1 + (m + kk * kk) % 3 + 5 * (if (decide (V.int (kk % 7) = V.int (m % 7))) = true then 1 else 0)) := by
      unfold wideOf
      by_cases h : kk % 7 = m % 7
      · rw [if_pos h, if_pos (by rw [h]; simp)]
      · rw [if_neg h, if_neg (fun q => h (by have q := of_decide_eq_true q; injection q))]
    rw [e] at k
    refine s_ret (ev_op (ev_op ev_c (by walk_at "ev") rv_I0) (ev_op ev_c (ev_cb (ea_cons (ev_op (by walk_at "ev") (by walk_at "ev") (rv_eq rfl)) ea_nil) rc_intB) (rv_I (.inl ⟨by decide, by decide⟩))) rv_I0) fun H4 e4 => k H4 e4
def sp_words_by (K : PySem.W.Frag) : Sp := fun vs H Q _ => ∃ (a : Addr) (ns : List Int) (m : Int), vs = [.ref a, .int m] ∧ SqL K H a (ns.map V.int) ∧ ns.length ≤ 63 ∧ RetL ((wordsOf ns m).map V.str) H Q
theorem ok_l_words_by (T : Txt K mg A) : FnOk P w K mg base CX0 3 A.f_l_words_by A.d_l_words_by ["_law_cells", "_law_more"] (sp_words_by K) := by
  refine T.F_l_words_by.ok sc_l_words_by (fun vs H Q E h => ?_) (fun cdv Ar outer s H vs Q E hr h => ?_)
  · obtain ⟨a, ns, m, rfl, _⟩ := h
    rfl
  · obtain ⟨a, ns, m, rfl, hS, hlen, k⟩ := h
    refine ⟨_, (pss_cons (ps_setLc (i := 2) (own := [("_law_cell", 4)]) (tt := tYes) rfl sc_l_words_by.nd rfl rfl (sw_true rfl rfl rfl (by decide +kernel)) (pi_list (pv 0)) (blkOk_by (N := N_l_words_by) (sc := defScope s_l_words_by) (by decide +kernel)) (fun _ _ _ _ _ => (pg_name (i := 4) sc_l_words_by.nd rfl (.inl rfl))) (fun _ _ _ _ _ => pts_nil) (fun _ _ _ _ _ => (pe_call (ok_l_word_by T) (hr.mono (by decide)) rfl T.g_l_word_by T.F_l_word_by.kp T.b_l_word_by .nil pass0 (pa_cons (pv 4) pa_nil))))
  (Evl.pss_cut (ps_if (pt_cmpR op_eq (pe_op op_mod (pv 1) pe_int) pe_int (nomark _))
  (pss_one (ps_set (i := 2) sc_l_words_by.nd rfl (.inl rfl) (pe_slice (TwT.slL (K := K) rfl) (pe_op op_rep (pv 2) pe_int) po_none (po_some (pe_op op_mod (pe_op op_fdiv (pv 1) pe_int) pe_int)))))
  pss_nil)
  (Evl.pss_cut (ps_if (pt_cmpR op_eq (pe_op op_mod (pv 1) pe_int) pe_int (nomark _))
  (pss_one (ps_setLc (i := 2) (own := [("_law_cell", 4)]) (tt := tYes) rfl sc_l_words_by.nd rfl rfl (sw_true rfl rfl rfl (by decide +kernel)) (pi_list (pv 0)) (blkOk_by (N := N_l_words_by) (sc := defScope s_l_words_by) (by decide +kernel)) (fun _ _ _ _ _ => (pg_name (i := 4) sc_l_words_by.nd rfl (.inl rfl))) (fun _ _ _ _ _ => pts_nil) (fun _ _ _ _ _ => (pe_call (ok_l_alike_by T) (hr.mono (by decide)) rfl T.g_l_alike_by T.F_l_alike_by.kp T.b_l_alike_by .nil pass0 (pa_cons (pv 4) (pa_cons (pe_op op_add pe_int (pe_op op_mod (pe_op op_fdiv (pv 1) pe_int) pe_int)) pa_nil))))))
  pss_nil)
  (Evl.pss_cut (ps_if (pt_cmpR op_eq (pe_op op_mod (pv 1) pe_int) pe_int (nomark _))
  (pss_cons (ps_set (i := 3) sc_l_words_by.nd rfl (.inl rfl) (pe_op op_mod (pe_op op_mod (pe_op op_mul (pv 1) pe_int) pe_int) (pe_ix (ixL (K := K) rfl) (pe_lst (pa_cons pe_int (pa_cons pe_int (pa_cons pe_int (pa_cons pe_int pa_nil))))) (pe_op op_mod (pe_op op_fdiv (pv 1) pe_int) pe_int) (fun _ _ => rfl))))
  (pss_one (ps_setLc (i := 2) (own := [("_law_k", 5)]) (tt := tYes) rfl sc_l_words_by.nd rfl rfl (sw_true rfl rfl rfl (by decide +kernel)) (pi_range1 (by rfl) T.m_range (pa_cons (pv 3) pa_nil)) (blkOk_by (N := N_l_words_by) (sc := defScope s_l_words_by) (by decide +kernel)) (fun _ _ _ _ _ => (pg_name (i := 5) sc_l_words_by.nd rfl (.inl rfl))) (fun _ _ _ _ _ => pts_nil) (fun _ _ _ _ _ => (pe_op op_mulS (pe_call (ok_l_sign_by T) (hr.mono (by decide)) rfl T.g_l_sign_by T.F_l_sign_by.kp T.b_l_sign_by .nil pass0 (pa_cons (pe_op op_add (pv 1) (pv 5)) pa_nil)) (pe_call (ok_l_wide_by T) (hr.mono (by decide)) rfl T.g_l_wide_by T.F_l_wide_by.kp T.b_l_wide_by .nil pass0 (pa_cons (pv 1) (pa_cons (pv 5) pa_nil))))))))
  pss_nil)
  (pss_one (ps_ret (pv 2))))))), ?_⟩
    have nl : (ns.map V.int).length = ns.length := List.length_map ..
    have lw : ∀ (f : Int → Str), (List.range (ns.map V.int).length).map (fun i => V.str (f (ns.getD i 0))) = (ns.map f).map V.str := fun f => by
      rw [nl, List.map_map]
      refine List.ext_getElem? fun j => ?_
      rw [List.getElem?_map, List.getElem?_map]
      by_cases hj : j < ns.length
      · rw [List.getElem?_range hj, List.getElem?_eq_getElem hj]
        show some (V.str (f (ns.getD j 0))) = some (V.str (f ns[j]))
        rw [List.getD_eq_getElem?_getD, List.getElem?_eq_getElem hj] <;> rfl
      · rw [List.getElem?_eq_none (by rw [List.length_range]; omega), List.getElem?_eq_none (by omega)] <;> rfl
    have at_ : ∀ {i : Nat} {x : V}, (ns.map V.int)[i]? = some x → x = .int (ns.getD i 0) := fun {i x} h => by
      rw [List.getElem?_map] at h
      obtain ⟨c, hc, rfl⟩ := Option.map_eq_some_iff.mp h
      rw [List.getD_eq_getElem?_getD, hc] <;> rfl
    refine q_asgL (xs := (ns.map wordOf).map V.str) (el_is (el_lcX (fun i => V.str (wordOf (ns.getD i 0))) (ev_var rfl) hS (by omega) (fun _ => rfl) fun i x H1 e1 hi => ?_) (lw wordOf)) fun p H1 p0 e1 h1 => ?_
    · rw [at_ hi]
      exact ev_call (ea_cons (ev_var rfl) ea_nil) fun H5 e5 Q q E => ⟨_, rfl, q⟩
    have mk : ∀ {l : List Str} {H2 : Hp} {q : Addr} {b c d : Option V}, Ex H H2 → H q = none → H2 q = some (.lst (l.map V.str)) → ∃ b' c' d' q', ([some (V.ref a), some (.int m), some (.ref q), b, c, d] : L2.St) = [some (.ref a), some (.int m), some (.ref q'), b', c', d'] ∧ Ex H H2 ∧ H q' = none ∧ H2 q' = some (.lst (l.map V.str)) := fun e q0 h => ⟨_, _, _, _, rfl, e, q0, h⟩
    -- six times, cut
    refine q_cut (M := fun σ2 H2 => ∃ b' c' d' q', σ2 = [some (.ref a), some (.int m), some (.ref q'), b', c', d'] ∧ Ex H H2 ∧ H q' = none ∧ H2 q' = some (.lst ((row0 ns m).map V.str))) ?_ ?_
    · refine s_when (b := decide (V.int (m % 4) = V.int 1)) (by walk_at "et") (fun hb H2 e2 => ?_) (fun hb H2 e2 => ?_)
      · have hm : m % 4 = 1 := by
          have h := of_decide_eq_true hb
          injection h
        have er : row0 ns m = ((List.replicate 6 (ns.map wordOf)).flatten).take (m / 4 % 150).toNat := if_pos hm
        have hx : cutV ((List.replicate 6 ((ns.map wordOf).map V.str)).flatten) none (some (m / 4 % 150)) = (row0 ns m).map V.str := by
          have e6 : (List.replicate 6 ((ns.map wordOf).map V.str)).flatten = ((List.replicate 6 (ns.map wordOf)).flatten).map V.str := by
            rw [List.map_flatten, List.map_replicate]
          have h0 : m / 4 % 150 = ((m / 4 % 150).toNat : Int) := by omega
          rw [er, e6, h0, cutV, HT.sIx_none, HT.sIx_nat, List.drop_zero, Nat.sub_zero, ← List.map_take, Int.toNat_natCast]
          congr 1
          rw [List.length_map]
          rcases Nat.le_total (m / 4 % 150).toNat ((List.replicate 6 (ns.map wordOf)).flatten).length with q | q
          · rw [Nat.min_eq_left q]
          · rw [Nat.min_eq_right q, List.take_of_length_le q, List.take_length]
        refine s_asgL (xs := (row0 ns m).map V.str) ?_ fun q H3 q0 e3 h3 => mk (e1.trans (e2.trans e3)) (fresh_back (e1.trans e2) q0) h3
        rw [← hx]
        refine el_slN (fun H3 e3 Q q => ?_) eo_none (eo_some (by walk_at "ev"))
        exact ⟨.ref p, rfl, p, 6, _, rfl, rfl, e3 _ _ (e2 _ _ h1), by decide, by decide, sz_of (by rw [List.length_map, List.length_map]; show ns.length * 6 ≤ 100000; omega), fun q' hq' => q q' _ hq' (Ex.new hq') upd_same⟩
      · have hm : ¬ m % 4 = 1 := fun q => (of_decide_eq_false hb) (by rw [q])
        have er : row0 ns m = ns.map wordOf := if_neg hm
        rw [er]
        exact mk (e1.trans e2) p0 (e2 _ _ h1)
    rintro σ2 H2 ⟨b', c', d', q2, rfl, e2, q20, h2⟩
    -- alike
    refine q_cut (M := fun σ2 H2 => ∃ b' c' d' q', σ2 = [some (.ref a), some (.int m), some (.ref q'), b', c', d'] ∧ Ex H H2 ∧ H q' = none ∧ H2 q' = some (.lst ((row1 ns m).map V.str))) ?_ ?_
    · refine s_when (b := decide (V.int (m % 4) = V.int 2)) (by walk_at "et") (fun hb H3 e3 => ?_) (fun hb H3 e3 => ?_)
      · have hm : m % 4 = 2 := by
          have h := of_decide_eq_true hb
          injection h
        have er : row1 ns m = ns.map fun c => alikeOf c (1 + m / 4 % 4) := if_pos hm
        rw [er]
        refine s_asgL (xs := (ns.map fun c => alikeOf c (1 + m / 4 % 4)).map V.str) (el_is (el_lcX (fun i => V.str (alikeOf (ns.getD i 0) (1 + m / 4 % 4))) (ev_var rfl) (ex_l (e2.trans e3) hS) (by omega) (fun _ => rfl) fun i x H4 e4 hi => ?_) (lw fun c => alikeOf c (1 + m / 4 % 4))) fun q H5 q0 e5 h5 => mk (e2.trans (e3.trans e5)) (fresh_back (e2.trans e3) q0) h5
        rw [at_ hi]
        exact ev_call (ea_cons (ev_var rfl) (ea_cons (by walk_at "ev") ea_nil)) fun H5 e5 Q q E => ⟨_, _, rfl, by omega, by omega, q⟩
      · have hm : ¬ m % 4 = 2 := fun q => (of_decide_eq_false hb) (by rw [q])
        have er : row1 ns m = row0 ns m := if_neg hm
        rw [er]
        exact mk (e2.trans e3) q20 (e3 _ _ h2)
    rintro σ3 H3 ⟨b3, c3, d3, q3, rfl, e3, q30, h3⟩
    -- of one sign
    refine q_cut (M := fun σ2 H2 => ∃ x3 x4 x5 q', σ2 = [some (.ref a), some (.int m), some (.ref q'), x3, x4, x5] ∧ Ex H H2 ∧ H q' = none ∧ H2 q' = some (.lst ((wordsOf ns m).map V.str))) ?_ ?_
    · refine s_when (b := decide (V.int (m % 12) = V.int 3)) (by walk_at "et") (fun hb H4 e4 => ?_) (fun hb H4 e4 => ?_)
      · have hm : m % 12 = 3 := by
          have h := of_decide_eq_true hb
          injection h
        have er : wordsOf ns m = (List.range (manyOf m).toNat).map fun (k : Nat) => Txt.mul (one (sgn (m + (k : Int)))) (wideOf m (k : Int)) := if_pos hm
        rw [er]
        have hmi := manyOf_in m
        have hj : 0 ≤ m / 12 % 4 ∧ m / 12 % 4 < 4 := by omega
        have hat : atI [V.int 450, V.int 450, V.int 450, V.int 1600] (m / 12 % 4) = some (.int (if m / 12 % 4 = 3 then 1600 else 450)) := by
          have hc : m / 12 % 4 = 0 ∨ m / 12 % 4 = 1 ∨ m / 12 % 4 = 2 ∨ m / 12 % 4 = 3 := by omega
          rcases hc with h | h | h | h <;> rw [h] <;> decide +kernel
        refine q_asg (v := .int (manyOf m)) (ev_op (ev_op (ev_op (ev_var rfl) ev_c (rv_I (.inr ⟨by decide, by decide⟩))) ev_c (rv_I (by decide))) (ev_opL1 (xs := [V.int 450, V.int 450, V.int 450, V.int 1600]) (y := .int (m / 12 % 4)) (el_lst (ea_cons ev_c (ea_cons ev_c (ea_cons ev_c (ea_cons ev_c ea_nil)))) (Nat.le_of_ble_eq_true rfl)) (fun H5 e5 => by walk_at "ev") fun q H5 hq e5 => rv_ixL (sq_of hq) hat) (rv_I ?_)) fun H5 e5 => ?_
        · split <;> decide
        have hys : ((List.range (manyOf m).toNat).map fun (k : Nat) => V.str (Txt.mul (one (sgn (m + (k : Int)))) (wideOf m (k : Int)))) = ((List.range (manyOf m).toNat).map fun (k : Nat) => Txt.mul (one (sgn (m + (k : Int)))) (wideOf m (k : Int))).map V.str := by
          rw [List.map_map] <;> rfl
        refine s_asgL (xs := ((List.range (manyOf m).toNat).map fun (k : Nat) => Txt.mul (one (sgn (m + (k : Int)))) (wideOf m (k : Int))).map V.str) (el_is (el_lcR (fun (k : Nat) => V.str (Txt.mul (one (sgn (m + (k : Int)))) (wideOf m (k : Int)))) (ea_cons (ev_var rfl) ea_nil) (by omega) (fun _ => rfl) fun i H6 e6 hi => ?_) hys) fun q H6 q0 e6 h6 => ?_
        · have hw := wideOf_in m (i : Int)
          exact ev_op (x := .str (one (sgn (m + (i : Int))))) (y := .int (wideOf m (i : Int))) (ev_call (ea_cons (by walk_at "ev") ea_nil) fun H5 e5 Q q E => ⟨_, rfl, q⟩) (ev_call (ea_cons (ev_var rfl) (ea_cons (ev_var rfl) ea_nil)) fun H5 e5 Q q E => ⟨_, _, rfl, by omega, by omega, q⟩) (rv_mulS (L := 1) (N := 8) (Nat.le_refl 1) (by omega) (by omega) (by decide) (by decide))
        · exact ⟨_, _, _, _, rfl, e3.trans ((e4.trans e5).trans e6), fresh_back (e3.trans (e4.trans e5)) q0, h6⟩
      · have hm : ¬ m % 12 = 3 := fun q => (of_decide_eq_false hb) (by rw [q])
        have er : wordsOf ns m = row1 ns m := if_neg hm
        rw [er]
        exact ⟨_, _, _, _, rfl, e3.trans e4, q30, e4 _ _ h3⟩
    rintro σ4 H4 ⟨x3, x4, x5, q4, rfl, e4, q40, h4⟩
    exact s_ret (v := .ref q4) (ev_var rfl) fun H5 e5 => k q4 H5 q40 (e4.trans e5) (e5 _ _ h4)

/-! ### _law_kind: the refusal by its number -/
def kinds (A : Ad) : List Addr := [A.c_NoWidth, A.c_LongWord, A.c_NoStarts, A.c_TooWide, A.c_TooFew, A.c_TooMany, A.c_NoPlace, A.c_NoWord, A.c_Full, A.c_NoWayBack]
theorem kind_sum (j : Nat) (hj : j < 10) : ((List.range 10).map fun k : Nat => (11 + (k : Int)) * (if decide (k = j) = true then 1 else 0)).sum = 11 + (j : Int) := by
  have h : j = 0 ∨ j = 1 ∨ j = 2 ∨ j = 3 ∨ j = 4 ∨ j = 5 ∨ j = 6 ∨ j = 7 ∨ j = 8 ∨ j = 9 := by omega
  rcases h with h | h | h | h | h | h | h | h | h | h <;> rw [h] <;> decide
theorem ok_l_kind (T : Txt K mg A) : FnP P w K mg base CX0 1 A.f_l_kind A.d_l_kind ["_law_e"] (sp_kind K (kinds A)) := by
  refine Fun.okP T.F_l_kind sc_l_kind (fun a c d vs H Q E h => ?_) (fun cdv Ar outer s H vs Q E p c d hz hot h => ?_)
  · obtain ⟨Dd, j, _, _, rfl, _⟩ := h
    rfl
  · obtain ⟨Dd, j, hc, hd, rfl, hec, hj, hk, k⟩ := h
    have hfp : ∃ vs, p.2.data = .fields vs := ⟨hot.2.choose, hot.2.choose_spec.1⟩
    have hcx : HotC (cxH CX0 P w K mg base N_l_kind "_law_kind" (defScope s_l_kind) A.f_l_kind cdv Ar outer s H E p) := ⟨p, hot, List.mem_singleton.mpr rfl⟩
    have hcx := hcx
    refine ⟨_, (pss_cons (ps_set (i := 1) sc_l_kind.nd rfl (.inr rfl) (pe_lst (pa_cons (pe_callB (call_isP (K := K) rfl (List.mem_singleton.mpr rfl) hz hfp) (by rfl) T.m_isinstance (by decide +kernel) (pa_cons (pv 0) (pa_cons (pe_glob (v := .ref A.c_NoWidth) rfl T.gc_NoWidth rfl) pa_nil))) (pa_cons (pe_callB (call_isP (K := K) rfl (List.mem_singleton.mpr rfl) hz hfp) (by rfl) T.m_isinstance (by decide +kernel) (pa_cons (pv 0) (pa_cons (pe_glob (v := .ref A.c_LongWord) rfl T.gc_LongWord rfl) pa_nil))) (pa_cons (pe_callB (call_isP (K := K) rfl (List.mem_singleton.mpr rfl) hz hfp) (by rfl) T.m_isinstance (by decide +kernel) (pa_cons (pv 0) (pa_cons (pe_glob (v := .ref A.c_NoStarts) rfl T.gc_NoStarts rfl) pa_nil))) (pa_cons (pe_callB (call_isP (K := K) rfl (List.mem_singleton.mpr rfl) hz hfp) (by rfl) T.m_isinstance (by decide +kernel) (pa_cons (pv 0) (pa_cons (pe_glob (v := .ref A.c_TooWide) rfl T.gc_TooWide rfl) pa_nil))) pa_nil))))))
  (pss_cons (ps_set (i := 1) sc_l_kind.nd rfl (.inr rfl) (pe_op op_cat (pv 1) (pe_lst (pa_cons (pe_callB (call_isP (K := K) rfl (List.mem_singleton.mpr rfl) hz hfp) (by rfl) T.m_isinstance (by decide +kernel) (pa_cons (pv 0) (pa_cons (pe_glob (v := .ref A.c_TooFew) rfl T.gc_TooFew rfl) pa_nil))) (pa_cons (pe_callB (call_isP (K := K) rfl (List.mem_singleton.mpr rfl) hz hfp) (by rfl) T.m_isinstance (by decide +kernel) (pa_cons (pv 0) (pa_cons (pe_glob (v := .ref A.c_TooMany) rfl T.gc_TooMany rfl) pa_nil))) (pa_cons (pe_callB (call_isP (K := K) rfl (List.mem_singleton.mpr rfl) hz hfp) (by rfl) T.m_isinstance (by decide +kernel) (pa_cons (pv 0) (pa_cons (pe_glob (v := .ref A.c_NoPlace) rfl T.gc_NoPlace rfl) pa_nil))) (pa_cons (pe_callB (call_isP (K := K) rfl (List.mem_singleton.mpr rfl) hz hfp) (by rfl) T.m_isinstance (by decide +kernel) (pa_cons (pv 0) (pa_cons (pe_glob (v := .ref A.c_NoWord) rfl T.gc_NoWord rfl) pa_nil))) pa_nil)))))))
  (pss_cons (ps_set (i := 1) sc_l_kind.nd rfl (.inr rfl) (pe_op op_cat (pv 1) (pe_lst (pa_cons (pe_callB (call_isP (K := K) rfl (List.mem_singleton.mpr rfl) hz hfp) (by rfl) T.m_isinstance (by decide +kernel) (pa_cons (pv 0) (pa_cons (pe_glob (v := .ref A.c_Full) rfl T.gc_Full rfl) pa_nil))) (pa_cons (pe_callB (call_isP (K := K) rfl (List.mem_singleton.mpr rfl) hz hfp) (by rfl) T.m_isinstance (by decide +kernel) (pa_cons (pv 0) (pa_cons (pe_glob (v := .ref A.c_NoWayBack) rfl T.gc_NoWayBack rfl) pa_nil))) pa_nil)))))
  (pss_one (ps_ret (pe_callB (cr_sumH hcx) (by rfl) T.m_sum (by decide +kernel) (pa_cons (pe_lcH (own := [("_law_k", 2)]) (tt := tYes) hcx sc_l_kind.nd (pi_range1H (by rfl) T.m_range (pa_cons pe_int pa_nil)) (blkOk_by (N := N_l_kind) (sc := defScope s_l_kind) (by decide +kernel)) (fun _ _ _ _ _ => (pg_name (i := 2) sc_l_kind.nd rfl (.inl rfl))) (fun _ _ _ _ _ => pts_nil) (fun _ _ _ _ _ => (pe_op op_mul (pe_op op_add pe_int (pv 2)) (pe_callTy call_int1 (by rfl) T.m_int (by decide +kernel) (pa_cons (pe_ix (ixL (K := K) rfl) (pv 1) (pv 2) (fun _ _ => rfl)) pa_nil))))) pa_nil))))))), ?_⟩
    have one_ : ∀ (i : Nat) (C : Addr) {σ : L2.St} {H' : Hp}, (kinds A)[i]? = some C → σ[0]? = some (some (.ref p.1)) → Ev (tCB (rIsP K c d p.1) (tCons (tVar 0) (tCons (tC (.ref C)) tNil))) σ H' (.bl (decide (i = j))) := fun i C σ H' hi h0 =>
      ev_cb (ea_cons (ev_var h0) (ea_cons ev_c ea_nil)) (rc_isP hc hd hec (hk i C hi))
    refine q_asgL (xs := [.bl (decide (0 = j)), .bl (decide (1 = j)), .bl (decide (2 = j)), .bl (decide (3 = j))]) (el_lst (ea_cons (one_ 0 _ rfl rfl) (ea_cons (one_ 1 _ rfl rfl) (ea_cons (one_ 2 _ rfl rfl) (ea_cons (one_ 3 _ rfl rfl) ea_nil)))) (show 4 ≤ 100000 by decide)) fun l1 H1 p1 e1 h1 => ?_
    refine q_asgL (el_cat (ev_var rfl) h1 (el_lst (ea_cons (one_ 4 _ rfl rfl) (ea_cons (one_ 5 _ rfl rfl) (ea_cons (one_ 6 _ rfl rfl) (ea_cons (one_ 7 _ rfl rfl) ea_nil)))) (show 4 ≤ 100000 by decide)) (show 4 + 4 ≤ 100000 by decide)) fun l2 H2 p2 e2 h2 => ?_
    refine q_asgL (el_cat (ev_var rfl) h2 (el_lst (ea_cons (one_ 8 _ rfl rfl) (ea_cons (one_ 9 _ rfl rfl) ea_nil)) (show 2 ≤ 100000 by decide)) (show 8 + 2 ≤ 100000 by decide)) fun l3 H3 p3 e3 h3 => ?_
    have hfl : ∀ i : Nat, i < 10 → ([V.bl (decide (0 = j)), .bl (decide (1 = j)), .bl (decide (2 = j)), .bl (decide (3 = j))] ++ [V.bl (decide (4 = j)), .bl (decide (5 = j)), .bl (decide (6 = j)), .bl (decide (7 = j))] ++ [V.bl (decide (8 = j)), .bl (decide (9 = j))])[i]? = some (.bl (decide (i = j))) := fun i hi => by
      have h : i = 0 ∨ i = 1 ∨ i = 2 ∨ i = 3 ∨ i = 4 ∨ i = 5 ∨ i = 6 ∨ i = 7 ∨ i = 8 ∨ i = 9 := by omega
      rcases h with h | h | h | h | h | h | h | h | h | h <;> rw [h] <;> rfl
    have ks := kind_sum j hj
    refine s_ret (v := .int (11 + (j : Int))) (ev_is (ev_sumN (ns := (List.range 10).map fun k : Nat => (11 + (k : Int)) * (if decide (k = j) = true then 1 else 0)) (el_is (el_lcR (n := 10) (fun k : Nat => V.int ((11 + (k : Int)) * (if decide (k = j) = true then 1 else 0))) (ea_cons ev_c ea_nil) (by decide) (fun _ => rfl) fun i H4 e4 hi => ?_) (by rw [List.map_map] <;> rfl))) (by rw [ks])) fun H4 e4 => k H4 (((e1.trans e2).trans e3).trans e4)
    refine ev_op (ev_op ev_c (ev_var rfl) rv_I0) (ev_cb (ea_cons (ev_op (ev_var rfl) (ev_var rfl) (rv_ixL (sq_of (e4 _ _ h3)) (atI_nat (hfl i (by omega))))) ea_nil) rc_intB) (rv_I (.inl ⟨by omega, by omega⟩))

theorem kinds_NoStarts (T : Txt K mg A) : ∀ i C, (kinds A)[i]? = some C → PySem.W.kitOne K (.ref A.c_NoStarts) (.ref C) = some (decide (i = 2)) := fun i C h => by
  have hi : i < 10 := (List.getElem?_eq_some_iff.mp h).1
  have hc : i = 0 ∨ i = 1 ∨ i = 2 ∨ i = 3 ∨ i = 4 ∨ i = 5 ∨ i = 6 ∨ i = 7 ∨ i = 8 ∨ i = 9 := by omega
  rcases hc with q | q | q | q | q | q | q | q | q | q <;> subst q <;> cases h
  · exact kit_ref T.hd_NoWidth T.ty_NoWidth T.sb_NoStarts_NoWidth fun q => absurd q T.ne_NoStarts_NoWidth
  · exact kit_ref T.hd_LongWord T.ty_LongWord T.sb_NoStarts_LongWord fun q => absurd q T.ne_NoStarts_LongWord
  · exact kit_ref T.hd_NoStarts T.ty_NoStarts T.sb_NoStarts_NoStarts fun _ => rfl
  · exact kit_ref T.hd_TooWide T.ty_TooWide T.sb_NoStarts_TooWide fun q => absurd q T.ne_NoStarts_TooWide
  · exact kit_ref T.hd_TooFew T.ty_TooFew T.sb_NoStarts_TooFew fun q => absurd q T.ne_NoStarts_TooFew
  · exact kit_ref T.hd_TooMany T.ty_TooMany T.sb_NoStarts_TooMany fun q => absurd q T.ne_NoStarts_TooMany
  · exact kit_ref T.hd_NoPlace T.ty_NoPlace T.sb_NoStarts_NoPlace fun q => absurd q T.ne_NoStarts_NoPlace
  · exact kit_ref T.hd_NoWord T.ty_NoWord T.sb_NoStarts_NoWord fun q => absurd q T.ne_NoStarts_NoWord
  · exact kit_ref T.hd_Full T.ty_Full T.sb_NoStarts_Full fun q => absurd q T.ne_NoStarts_Full
  · exact kit_ref T.hd_NoWayBack T.ty_NoWayBack T.sb_NoStarts_NoWayBack fun q => absurd q T.ne_NoStarts_NoWayBack
/-! ### _law_texts, of equal lists -/
def sp_texts (K : PySem.W.Frag) : Sp := fun vs H Q _ => ∃ (p q : Addr) (l : List Str), vs = [.ref p, .ref q] ∧ SqL K H p (l.map V.str) ∧ SqL K H q (l.map V.str) ∧ l.length ≤ 60000 ∧ RetV (.bl true) H Q
theorem ok_l_texts (T : Txt K mg A) : FnOk P w K mg base CX0 1 A.f_l_texts A.d_l_texts ["_law_found", "_law_due"] (sp_texts K) := by
  refine T.F_l_texts.ok sc_l_texts (fun vs H Q E h => ?_) (fun cdv Ar outer s H vs Q E hr h => ?_)
  · obtain ⟨p, q, l, rfl, _⟩ := h
    rfl
  · obtain ⟨p, q, l, rfl, hp, hq, hlen, k⟩ := h
    refine ⟨_, (pss_cons (ps_if (PW.pt (pw_or (pt_not (pt_val (pe_callB call_isi (by rfl) T.m_isinstance (by decide +kernel) (pa_cons (pv 0) (pa_cons (pe_bltn (v := .ty "list") (by rfl) T.m_list (by decide +kernel) rfl) pa_nil))))) (pw_or1 (pt_cmpR op_ne (pe_callB call_len_seq (by rfl) T.m_len PySem.boot_len (pa_cons (pv 0) pa_nil)) (pe_callB call_len_seq (by rfl) T.m_len PySem.boot_len (pa_cons (pv 1) pa_nil)) (nomark _)))))
  (pss_one (ps_ret pe_bl))
  pss_nil)
  (pss_cons (ps_for PassesOwn.never rfl (pi_range1 (by rfl) T.m_range (pa_cons (pe_callB call_len_seq (by rfl) T.m_len PySem.boot_len (pa_cons (pv 1) pa_nil)) pa_nil)) (pg_name (i := 2) sc_l_texts.nd rfl (.inl rfl))
  (pss_one (ps_if (PW.pt (pw_or (pt_not (pt_val (pe_callB call_isi (by rfl) T.m_isinstance (by decide +kernel) (pa_cons (pe_ix (ixL (K := K) rfl) (pv 0) (pv 2) (fun _ _ => rfl)) (pa_cons (pe_bltn (v := .ty "str") (by rfl) T.m_str (by decide +kernel) rfl) pa_nil))))) (pw_or1 (pt_cmpR op_ne (pe_ix (ixL (K := K) rfl) (pv 0) (pv 2) (fun _ _ => rfl)) (pe_ix (ixL (K := K) rfl) (pv 1) (pv 2) (fun _ _ => rfl)) (nomark _)))))
  (pss_one (ps_ret pe_bl))
  pss_nil)))
  (pss_one (ps_ret pe_bl)))), ?_⟩
    refine q_when (b := false) (et_is (et_or (et_not (et_B (ev_cb (ea_cons (ev_var rfl) (ea_cons ev_c ea_nil)) (rc_isList hp)))) fun _ => et_test (ev_op (ev_cb (ea_cons (ev_var rfl) ea_nil) (rc_lenL hp)) (ev_cb (ea_cons (ev_var rfl) ea_nil) (rc_lenL hq)) (rv_ne rfl))) (by simp)) (fun hb => nomatch hb) (fun _ H1 e1 => ?_)
    have hl : (l.map V.str).length = l.length := List.length_map ..
    refine q_forR1 (n := (l.map V.str).length) (ea_cons (ev_cb (ea_cons (ev_var rfl) ea_nil) (rc_lenL (ex_l e1 hq))) ea_nil) (by omega) (fun i σ' H' => ∃ x, σ' = [some (.ref p), some (.ref q), x] ∧ Ex H H')
      (fun H2 e2 => ⟨none, rfl, e1.trans e2⟩) ?_ ?_
    · rintro i σ' H' hi ⟨x, rfl, e⟩
      have hi' : i < l.length := by omega
      have g : (l.map V.str)[i]? = some (.str l[i]) := by
        rw [List.getElem?_map, List.getElem?_eq_getElem hi'] <;> rfl
      have e1 : Ev (tOp (rIxL K) (tVar 0) (tVar 2)) [some (.ref p), some (.ref q), some (.int (i : Int))] H' (.str l[i]) := ev_op (ev_var rfl) (ev_var rfl) (rv_ixL (ex_l e hp) (atI_nat g))
      have e2 : Ev (tOp (rIxL K) (tVar 1) (tVar 2)) [some (.ref p), some (.ref q), some (.int (i : Int))] H' (.str l[i]) := ev_op (ev_var rfl) (ev_var rfl) (rv_ixL (ex_l e hq) (atI_nat g))
      refine s_when (b := false) (et_is (et_or (et_not (et_B (ev_cb (ea_cons e1 (ea_cons ev_c ea_nil)) rc_isStr))) fun _ => et_test (ev_op e1 e2 (rv_ne rfl))) (by simp)) (fun hb => nomatch hb) (fun _ H2 e2 => ?_)
      exact ⟨_, rfl, e.trans e2⟩
    · rintro σ' H' ⟨x, rfl, e⟩
      exact s_ret (v := .bl true) ev_c fun H2 e2 => k H2 (e.trans e2)
/-! ### lines -/
def blankS : Str := ⟨#[32]⟩
def lineOf (ws : List Str) (b e : Nat) : Str := Txt.join blankS ((ws.drop b).take (e - b))
def sizeN (ws : List Str) (b e : Nat) : Nat := (lineOf ws b e).length
theorem ev_blk {σ : L2.St} {H : Hp} : Ev (tC (.str (Str.ofString " "))) σ H (.str blankS) := ev_blank
theorem cut_words {ws : List Str} {b e : Nat} (h1 : b ≤ e) (h2 : e ≤ ws.length) : cutV (ws.map V.str) (some (b : Int)) (some (e : Int)) = ((ws.drop b).take (e - b)).map V.str := by
  unfold cutV
  rw [HT.sIx_nat, HT.sIx_nat, List.length_map, Nat.min_eq_left h2, Nat.min_eq_left (by omega), ← List.map_drop, ← List.map_take]
theorem line_fits {ws : List Str} (hz : ∀ z ∈ ws, z.length ≤ 300) (hl : ws.length ≤ 2000) (b e : Nat) : (((ws.drop b).take (e - b)).map (·.length)).sum + ((ws.drop b).take (e - b)).length * blankS.length ≤ 1000000 := by
  have h1 := sum_le_mul ((ws.drop b).take (e - b)) 300 fun z hz' => hz z (List.mem_of_mem_drop (List.mem_of_mem_take hz'))
  have h2 : ((ws.drop b).take (e - b)).length ≤ ws.length := by
    rw [List.length_take, List.length_drop]
    omega
  have h3 : blankS.length = 1 := rfl
  rw [h3]
  omega
theorem sizeN_le {ws : List Str} (hz : ∀ z ∈ ws, z.length ≤ 300) (hl : ws.length ≤ 2000) (b e : Nat) : sizeN ws b e ≤ 1000000 := by
  have h := line_fits hz hl b e
  have h2 := len_join blankS ((ws.drop b).take (e - b))
  unfold sizeN lineOf
  omega
def sp_size (K : PySem.W.Frag) : Sp := fun vs H Q _ => ∃ (p : Addr) (ws : List Str) (b e : Nat), vs = [.ref p, .int b, .int e] ∧ SqL K H p (ws.map V.str) ∧ (∀ z ∈ ws, z.length ≤ 300) ∧ ws.length ≤ 2000 ∧ b ≤ e ∧ e ≤ ws.length ∧ RetV (.int (sizeN ws b e)) H Q

/-! ### textwrapper.breaks: starts -/
def risingB (zs : List Int) : Bool := (List.range (zs.length - 1)).all fun i => decide (zs.getD i 0 < zs.getD (i + 1) 0)
def goodB (n : Nat) (zs : List Int) : Bool := if zs = [] then decide (n = 0) else decide (zs.getD 0 0 = 0) && decide (zs.getD (zs.length - 1) 0 < (n : Int)) && risingB zs
theorem rising_of {zs : List Int} (h : risingB zs = true) : ∀ i, i + 1 < zs.length → zs.getD i 0 < zs.getD (i + 1) 0 := fun i hi => by
  have q := List.all_eq_true.mp h i (List.mem_range.mpr (by omega))
  exact of_decide_eq_true q
theorem rising_le {zs : List Int} (h : risingB zs = true) : ∀ d i, i + d < zs.length → zs.getD i 0 + (d : Int) ≤ zs.getD (i + d) 0
  | 0, i, _ => by simp
  | d + 1, i, hi => by
    have q := rising_le h d i (by omega)
    have q2 := rising_of h (i + d) (by omega)
    have e : i + (d + 1) = i + d + 1 := by omega
    rw [e]
    omega
theorem good_zero {zs : List Int} (h : zs ≠ []) : goodB 0 zs = false := by
  unfold goodB
  rw [if_neg h]
  cases h1 : risingB zs with
  | false => simp
  | true =>
    have hl : 0 < zs.length := List.length_pos_iff.mpr h
    have q := rising_le h1 (zs.length - 1) 0 (by omega)
    rw [Nat.zero_add] at q
    by_cases h2 : zs.getD 0 0 = 0
    · have : ¬ zs.getD (zs.length - 1) 0 < ((0 : Nat) : Int) := by omega
      rw [decide_eq_false this]
      simp
    · rw [decide_eq_false h2]
      simp
theorem ex_fresh {H : Hp} {p : Addr} {o : HO} (h : H p = none) : Ex H (upd H p o) := fun b u e => by
  rw [upd_ne (ne_of_none e h)]
  exact e
theorem s_retAllR {p : Addr} {C : L2.St → Hp → Int → Int → (Int → Bool) → Prop} {ta : TA} {σ : L2.St} {H : Hp} {D : Ends} {lo hi : Int} (h : EvA ta σ H [.int lo, .int hi])
    (k : ∀ H1 (r : Addr), Ex H H1 → ∃ pb, (-(2 ^ 62) ≤ lo ∧ lo < 2 ^ 62 ∧ -(2 ^ 62) ≤ hi ∧ hi < 2 ^ 62) ∧ TabG H1 p ∧ C σ H1 lo hi pb ∧ ∀ H2, Tabbed p H1 H2 → D.rt (.bl ((List.range (hi - lo).toNat).all fun i => pb (lo + (i : Nat)))) H2) :
    tRet (TwG.tAllR p C (tCB (fun vs H Q => ∃ i j, vs = [V.int i, V.int j] ∧ ∀ (p : Addr), H p = none → Q (V.ref p) (upd H p (HO.rng i j))) ta)) D σ H :=
  h H (Ex.refl H) _ fun H1 e1 => ⟨lo, hi, rfl, fun r hr => let ⟨pb, h1, h2, h3, h4⟩ := k (upd H1 r (.rng lo hi)) r (e1.trans (ex_fresh hr)); ⟨r, lo, hi, pb, rfl, upd_same, h1, h2, h3, h4⟩⟩
def RetT (p : Addr) (v : V) (H : Hp) (Q : VK) : Prop := ∀ H', ExT p H H' → Q v H'
def sp_are_starts (K : PySem.W.Frag) (A : Ad) : Sp := fun vs H Q _ => ∃ (p q : Addr) (ws : List Str) (zs : List Int), vs = [.ref p, .ref q] ∧ SqL K H p (ws.map V.str) ∧ SqL K H q (zs.map V.int) ∧ zs.length ≤ 100000 ∧ TabG H A.p_are_starts ∧ RetT A.p_are_starts (.bl (goodB ws.length zs)) H Q
theorem ok_are_starts (T : Txt K mg A) (B : Tb mg base A) : FnOk P w K mg base CX0 1 A.f_are_starts A.d_are_starts ["words", "starts"] (sp_are_starts K A) := by
  refine Fun.okC T.F_are_starts T.hc_are_starts sc_are_starts (fun vs H Q E h => ?_) (fun Ar outer s H vs Q E hr h => ?_)
  · obtain ⟨p, q, ws, zs, rfl, _⟩ := h
    rfl
  · obtain ⟨p, q, ws, zs, rfl, hp, hq, hlen, hT, k⟩ := h
    refine ⟨_, (pss_cons (ps_if (PW.pt (pw_or (pt_not (pt_truth (pv 0) (fun _ => rfl))) (pw_or1 (pt_not (pt_truth (pv 1) (fun _ => rfl))))))
  (pss_one (ps_ret (pe_and (pe_notT (pv 0)) (pe_one (pe_notT (pv 1))))))
  pss_nil)
  (pss_cons (ps_if (PW.pt (pw_or (pt_cmpR op_ne (pe_ix (ixL (K := K) rfl) (pv 1) pe_int (fun _ _ => rfl)) pe_int (nomark _)) (pw_or1 (pt_cmpR op_ge (pe_ix (ixL (K := K) rfl) (pv 1) (pe_un un_neg pe_int) (fun _ _ => rfl)) (pe_callB call_len_seq (by rfl) T.m_len PySem.boot_len (pa_cons (pv 0) pa_nil)) (nomark _)))))
  (pss_one (ps_ret pe_bl))
  pss_nil)
  (pss_one (ps_ret (TwG.pe_allR (C := TwG.upC K 1) hr (by rfl) T.m_all (by decide +kernel) B.tb_are_starts rfl (TwT.genS_by (sc := defScope s_are_starts) rfl rfl rfl (by decide +kernel) rfl rfl (by decide +kernel)) (pe_callTy cr_range2 (by rfl) T.m_range (by decide +kernel) (pa_cons pe_int (pa_cons (pe_callB call_len_seq (by rfl) T.m_len PySem.boot_len (pa_cons (pv 1) pa_nil)) pa_nil))) (TwG.elt_up (X := _) rfl rfl rfl rfl rfl) (fun _ => rfl)))))), ?_⟩
    have nlz : (zs.map V.int).length = zs.length := List.length_map ..
    have ew : (ws.map V.str).isEmpty = decide (ws.length = 0) := by cases ws <;> rfl
    have ez : (zs.map V.int).isEmpty = decide (zs = []) := by cases zs <;> rfl
    refine q_when (b := decide (ws.length = 0) || decide (zs = [])) (et_is (et_or (et_not (et_tru (ev_var rfl) hp)) fun _ => et_not (et_tru (ev_var rfl) hq)) (by rw [ew, ez]; simp)) (fun hb H1 e1 => ?_) (fun hb H1 e1 => ?_)
    · refine s_ret (v := .bl (goodB ws.length zs)) (ev_is (ev_andV (ev_notT (ev_var rfl) (ex_l e1 hp)) fun _ => ev_notT (ev_var rfl) (ex_l e1 hq)) ?_) fun H2 e2 => k H2 (ExT.of_ex hT (e1.trans e2))
      rw [ew, ez]
      by_cases h1 : zs = []
      · subst h1
        simp [goodB]
      · have h2 : ws.length = 0 := by
          rw [decide_eq_false h1, Bool.or_false] at hb
          exact of_decide_eq_true hb
        rw [h2, good_zero h1, decide_eq_false h1]
        simp
    · rw [Bool.or_eq_false_iff] at hb
      have h1 : zs ≠ [] := of_decide_eq_false hb.2
      have hl : 0 < zs.length := List.length_pos_iff.mpr h1
      have at_ : ∀ i, i < zs.length → (zs.map V.int)[i]? = some (.int (zs.getD i 0)) := fun i hi => by
        rw [List.getElem?_map, List.getElem?_eq_getElem hi, List.getD_eq_getElem?_getD, List.getElem?_eq_getElem hi]
        rfl
      have a0 := at_ 0 hl
      have aN : atI (zs.map V.int) (-1) = some (.int (zs.getD (zs.length - 1) 0)) := by
        have e : ixN (zs.map V.int).length (-1) = some (zs.length - 1) := by
          unfold ixN
          rw [if_neg (by decide), if_pos (by omega), nlz]
          congr 1
          omega
        unfold atI
        rw [e]
        exact at_ _ (by omega)
      refine q_when (b := decide (zs.getD 0 0 ≠ 0) || decide ((ws.length : Int) ≤ zs.getD (zs.length - 1) 0)) (et_is (et_or (et_test (ev_op (ev_op (ev_var rfl) ev_c (rv_ixL (ex_l e1 hq) (atI_nat a0))) ev_c (rv_ne rfl))) fun _ => et_test (ev_op (ev_op (ev_var rfl) (ev_un ev_c ru_neg) (rv_ixL (ex_l e1 hq) aN)) (ev_cb (ea_cons (ev_var rfl) ea_nil) (rc_lenL (ex_l e1 hp))) rv_I0)) ?_) (fun hb2 H2 e2 => ?_) (fun hb2 H2 e2 => ?_)
      · by_cases q1 : zs.getD 0 0 = 0
        · rw [q1]
          simp
        · simp only [V.int.injEq]
          rw [decide_eq_false q1, decide_eq_true (show zs.getD 0 0 ≠ 0 from q1)]
          simp
      · refine s_ret (v := .bl false) ev_c fun H3 e3 => ?_
        have e : goodB ws.length zs = false := by
          unfold goodB
          rw [if_neg h1]
          rw [Bool.or_eq_true] at hb2
          rcases hb2 with q1 | q1
          · rw [decide_eq_false (of_decide_eq_true q1)]
            simp
          · have q2 := of_decide_eq_true q1
            rw [decide_eq_false (show ¬ zs.getD (zs.length - 1) 0 < (ws.length : Int) by omega)]
            simp
        rw [← e]
        exact k H3 (ExT.of_ex hT ((e1.trans e2).trans e3))
      · rw [Bool.or_eq_false_iff] at hb2
        have g1 := of_decide_eq_false hb2.1
        have g2 := of_decide_eq_false hb2.2
        have e12 := e1.trans e2
        refine s_retAllR (ea_cons ev_c (ea_cons (ev_cb (ea_cons (ev_var rfl) ea_nil) (rc_lenL (ex_l e12 hq))) ea_nil)) fun H3 p0 e3 => ⟨fun k => decide (zs.getD (k - 1).toNat 0 < zs.getD k.toNat 0), ⟨by decide, by decide, by omega, by omega⟩, ?_, ?_, fun H4 h4 => ?_⟩
        · exact TabG.ex hT fun b o e => e12.trans e3 b o e
        · exact ⟨q, zs, rfl, ex_l (e12.trans e3) hq, by omega, by decide, by rw [nlz]; exact Int.le_refl _, rfl⟩
        · have e : goodB ws.length zs = ((List.range (((zs.map V.int).length : Int) - 1).toNat).all fun i => decide (zs.getD ((1 + (i : Nat) : Int) - 1).toNat 0 < zs.getD (1 + (i : Nat) : Int).toNat 0)) := by
            unfold goodB
            rw [if_neg h1, decide_eq_true (show zs.getD 0 0 = 0 by omega), decide_eq_true (show zs.getD (zs.length - 1) 0 < (ws.length : Int) by omega), nlz]
            have en : ((zs.length : Int) - 1).toNat = zs.length - 1 := by omega
            rw [en]
            show (true && true && risingB zs) = _
            rw [Bool.true_and, Bool.true_and]
            unfold risingB
            congr 1
            funext i
            have e1 : ((1 + (i : Nat) : Int) - 1).toNat = i := by omega
            have e2 : (1 + (i : Nat) : Int).toNat = i + 1 := by omega
            rw [e1, e2]
          show Q (.bl _) H4
          rw [← e]
          exact k H4 ((ExT.of_ex hT (e12.trans e3)).trans (ExT.of_tabbed h4))
theorem s_ifNotC {ta : TA} {sp : Sp} {dvs vs : List V} {E : XK} {tu tw : TS} {σ : L2.St} {H : Hp} {D : Ends} (h : EvA ta σ H vs) (k : ∀ H1, Ex H H1 → sp (vs ++ dvs) H1 (fun x H2 => ∃ c, x = .bl c ∧ (if (!c) = true then tu D σ H2 else tw D σ H2)) E) :
    tIfS (tNot (tB (tCall sp dvs E ta))) tu tw D σ H := h H (Ex.refl H) _ k
def sp_check_starts (K : PySem.W.Frag) (A : Ad) : Sp := fun vs H Q E => ∃ (p q : Addr) (ws : List Str) (zs : List Int), vs = [.ref p, .ref q] ∧ SqL K H p (ws.map V.str) ∧ SqL K H q (zs.map V.int) ∧ zs.length ≤ 100000 ∧ TabG H A.p_are_starts ∧
  (goodB ws.length zs = false → ∀ H', ExT A.p_are_starts H H' → E (.ref A.c_NoStarts) none H') ∧ (goodB ws.length zs = true → RetT A.p_are_starts .non H Q)
theorem ok_check_starts (T : Txt K mg A) (B : Tb mg base A) : FnOk P w K mg base (L2N.CX P w) 2 A.f_check_starts A.d_check_starts ["words", "starts"] (sp_check_starts K A) := by
  refine Fun.okN T.F_check_starts sc_check_starts (fun vs H Q E h => ?_) (fun cdv Ar outer s H vs Q E hr h => ?_)
  · obtain ⟨p, q, ws, zs, rfl, _⟩ := h
    rfl
  · obtain ⟨p, q, ws, zs, rfl, hp, hq, hlen, hT, k1, k2⟩ := h
    refine ⟨_, (pss_one (ps_if (pt_not (pt_val (pe_call (ok_are_starts T B) (hr.mono (by decide)) rfl T.g_are_starts T.F_are_starts.kp T.b_are_starts .nil pass0 (pa_cons (pv 0) (pa_cons (pv 1) pa_nil)))))
  (pss_one (L2N.ps_raise rfl (L2N.takes_of rfl rfl rfl rfl) (L2N.pmk_own PySem.F.excBase_ValueError T.ex_NoStarts.x T.gc_NoStarts T.ex_NoStarts.k (raises_own T.ex_NoStarts.e.hs T.ex_NoStarts.t) rfl)))
  pss_nil)), ?_⟩
    refine s_ifNotC (ea_cons (ev_var rfl) (ea_cons (ev_var rfl) ea_nil)) fun H1 e1 => ⟨p, q, ws, zs, rfl, ex_l e1 hp, ex_l e1 hq, hlen, TabG.ex hT e1, fun H2 e2 => ?_⟩
    have e := (ExT.of_ex hT e1).trans e2
    cases hg : goodB ws.length zs with
    | true => exact ⟨true, rfl, k2 hg H2 e⟩
    | false => exact ⟨false, rfl, k1 hg H2 e⟩
/-! ### pairs -/
def Pairs (H : Hp) (l : Addr) (xs ys : List V) : Prop := ∃ ts : List Addr, H l = some (.lst (ts.map V.ref)) ∧ ts.length = min xs.length ys.length ∧ ∀ (j : Nat) (t : Addr), ts[j]? = some t → ∃ x y, xs[j]? = some x ∧ ys[j]? = some y ∧ H t = some (.tup [x, y])
def EvP (te : TE) (σ : L2.St) (H : Hp) (xs ys : List V) : Prop := ∀ H1, Ex H H1 → ∀ Q : VK, (∀ l H2, Ex H1 H2 → Pairs H2 l xs ys → Q (.ref l) H2) → te σ H1 Q
theorem s_retZip {ta : TA} {a b : Addr} {xs ys : List V} {σ : L2.St} {H : Hp} {D : Ends} (h : EvA ta σ H [.ref a, .ref b]) (ha : SqL K H a xs) (hb : SqL K H b ys) (k : ∀ l H1, Ex H H1 → Pairs H1 l xs ys → D.rt (.ref l) H1) : tRet (TwZ.tListZip K ta) D σ H :=
  h H (Ex.refl H) _ fun H1 e1 => ⟨a, b, xs, ys, rfl, ex_l e1 ha, ex_l e1 hb, fun l ts H2 z => k l H2 (e1.trans z.keep) ⟨ts, z.lst, z.len, z.pair⟩⟩
theorem el_lcP {xs ys : List V} {tl : TE} {te : TE} {j1 j2 : Nat} {vs : List Nat} {σ : L2.St} {H : Hp} (v : Nat → V) (h : EvP tl σ H xs ys) (hz : xs.length ≤ 40000) (hw : ∀ x y, wipe (((wipe σ vs).set j1 (some x)).set j2 (some y)) vs = wipe σ vs)
    (he : ∀ (i : Nat) (x y : V) H1, Ex H H1 → xs[i]? = some x → ys[i]? = some y → Ev te (((wipe σ vs).set j1 (some x)).set j2 (some y)) H1 (v i)) :
    EvL (tLc (iList K tl) (gTup K 2 (gCons (gName j1) (gCons (gName j2) gNil))) tYes te vs) σ H ((List.range (min xs.length ys.length)).map v) := fun H0 e Q q => h H0 e _ fun a H1 e1 hP => by
  obtain ⟨ts, hx, hlen, hp⟩ := hP
  refine ⟨a, rfl, ⟨_, sq_of hx⟩, fun Dl hD => ?_⟩
  rw [← hlen, ← given_all] at q
  refine lc_list (xs := ts.map V.ref) (Cw H1 (fun _ => true) v Dl) ⟨hD, Ex.new hD, upd_same⟩ (fun i H' _ p => sq_of (p.2.1 a _ hx)) (fun i x H' hi p => ?_) (fun H' p => q Dl H' (fresh_back e1 p.1) (e1.trans p.2.1) (by rw [List.length_map] at p; exact p.2.2))
  rw [List.getElem?_map] at hi
  obtain ⟨t, ht, rfl⟩ := Option.map_eq_some_iff.mp hi
  obtain ⟨x, y, h1, h2, h3⟩ := hp i t ht
  have hil := (List.getElem?_eq_some_iff.mp ht).1
  exact ⟨t, [x, y], rfl, st_of (p.2.1 t _ h3), rfl, x, [y], rfl, y, [], rfl, rfl, hw x y, cw_turn p (by omega) (et_yes) fun _ => he i x y H1 (e.trans e1) h1 h2⟩
/-! ### bounds, lines -/
def endsOf (n : Nat) (zs : List Int) : List Int := zs.drop 1 ++ [(n : Int)]
def sp_bounds (K : PySem.W.Frag) : Sp := fun vs H Q _ => ∃ (p q : Addr) (ws : List Str) (zs : List Int), vs = [.ref p, .ref q] ∧ SqL K H p (ws.map V.str) ∧ SqL K H q (zs.map V.int) ∧ zs.length ≤ 40000 ∧ ∀ l H', Ex H H' → Pairs H' l (zs.map V.int) ((endsOf ws.length zs).map V.int) → Q (.ref l) H'
theorem cut_tail (zs : List Int) : cutV (zs.map V.int) (some 1) none = (zs.drop 1).map V.int := by
  have q : HT.sIx (zs.map V.int).length 0 (some 1) = min 1 (zs.map V.int).length := HT.sIx_nat (zs.map V.int).length 0 1
  unfold cutV
  rw [q]
  show List.take ((zs.map V.int).length - min 1 (zs.map V.int).length) _ = _
  rw [List.length_map, List.map_drop]
  cases zs with
  | nil => rfl
  | cons z r =>
    have e : min 1 (z :: r).length = 1 := by rw [List.length_cons]; omega
    rw [e]
    show List.take (r.length + 1 - 1) (r.map V.int) = r.map V.int
    rw [Nat.add_sub_cancel]
    exact List.take_of_length_le (by rw [List.length_map]; exact Nat.le_refl _)
theorem ok_bounds_of (T : Txt K mg A) : FnOk P w K mg base CX0 1 A.f_bounds_of A.d_bounds_of ["words", "starts"] (sp_bounds K) := by
  refine T.F_bounds_of.ok sc_bounds_of (fun vs H Q E h => ?_) (fun cdv Ar outer s H vs Q E hr h => ?_)
  · obtain ⟨p, q, ws, zs, rfl, _⟩ := h
    rfl
  · obtain ⟨p, q, ws, zs, rfl, hp, hq, hlen, k⟩ := h
    refine ⟨_, (pss_cons (ps_set (i := 2) sc_bounds_of.nd rfl (.inl rfl) (pe_op op_cat (pe_slice (TwT.slL (K := K) rfl) (pv 1) (po_some pe_int) po_none) (pe_lst (pa_cons (pe_callB call_len_seq (by rfl) T.m_len PySem.boot_len (pa_cons (pv 0) pa_nil)) pa_nil))))
  (pss_one (ps_ret (TwZ.pe_listZip hr.hd (by rfl) T.m_list (by rfl) T.m_zip (pa_cons (pv 1) (pa_cons (pv 2) pa_nil)))))), ?_⟩
    have nlw : (ws.map V.str).length = ws.length := List.length_map ..
    refine q_asgL (xs := (endsOf ws.length zs).map V.int) (el_is (el_catN (el_sl (ev_var rfl) (eo_some ev_c) eo_none hq) (el_lst (ea_cons (ev_cb (ea_cons (ev_var rfl) ea_nil) (rc_lenL hp)) ea_nil) (show 1 ≤ 100000 by decide)) ?_) ?_) fun l H1 l0 e1 h1 => ?_
    · rw [cut_tail, List.length_map, List.length_drop]
      show _ + 1 ≤ 100000
      omega
    · rw [cut_tail]
      unfold endsOf
      rw [List.map_append, nlw]
      rfl
    · exact s_retZip (ea_cons (ev_var rfl) (ea_cons (ev_var rfl) ea_nil)) (ex_l e1 hq) (sq_of h1) fun l2 H2 e2 hP => k l2 H2 (e1.trans e2) hP
/-! ### the lines -/
theorem getI {zs : List Int} {i : Nat} {x : V} (h : (zs.map V.int)[i]? = some x) : i < zs.length ∧ x = .int (zs.getD i 0) := by
  rw [List.getElem?_map] at h
  obtain ⟨z, hz, rfl⟩ := Option.map_eq_some_iff.mp h
  refine ⟨(List.getElem?_eq_some_iff.mp hz).1, ?_⟩
  rw [List.getD_eq_getElem?_getD, hz]
  rfl
theorem good_parts {n : Nat} {zs : List Int} (h : goodB n zs = true) (hne : zs ≠ []) : zs.getD 0 0 = 0 ∧ zs.getD (zs.length - 1) 0 < (n : Int) ∧ risingB zs = true := by
  unfold goodB at h
  rw [if_neg hne, Bool.and_eq_true, Bool.and_eq_true] at h
  exact ⟨of_decide_eq_true h.1.1, of_decide_eq_true h.1.2, h.2⟩
theorem good_line {n : Nat} {zs : List Int} (h : goodB n zs = true) : ∀ i, i < zs.length → 0 ≤ zs.getD i 0 ∧ zs.getD i 0 < (endsOf n zs).getD i 0 ∧ (endsOf n zs).getD i 0 ≤ (n : Int) := fun i hi => by
  have hne : zs ≠ [] := fun e => by rw [e] at hi; exact absurd hi (Nat.not_lt_zero _)
  obtain ⟨h0, h1, h2⟩ := good_parts h hne
  have q := rising_le h2 i 0 (by omega)
  rw [Nat.zero_add] at q
  have ql := rising_le h2 (zs.length - 1 - i) i (by omega)
  have el : i + (zs.length - 1 - i) = zs.length - 1 := by omega
  rw [el] at ql
  have dl : (zs.drop 1).length = zs.length - 1 := List.length_drop
  unfold endsOf
  by_cases hi2 : i + 1 < zs.length
  · have e : (zs.drop 1 ++ [(n : Int)]).getD i 0 = zs.getD (i + 1) 0 := by
      rw [List.getD_eq_getElem?_getD, List.getElem?_append_left (by omega), List.getElem?_drop, List.getD_eq_getElem?_getD, Nat.add_comm]
    have r := rising_of h2 i hi2
    have q3 := rising_le h2 (zs.length - 1 - (i + 1)) (i + 1) (by omega)
    have el3 : i + 1 + (zs.length - 1 - (i + 1)) = zs.length - 1 := by omega
    rw [el3] at q3
    rw [e]
    omega
  · have e : (zs.drop 1 ++ [(n : Int)]).getD i 0 = (n : Int) := by
      have : i - (zs.drop 1).length = 0 := by omega
      rw [List.getD_eq_getElem?_getD, List.getElem?_append_right (by omega), this]
      rfl
    rw [e]
    omega
theorem good_len {n : Nat} {zs : List Int} (h : goodB n zs = true) : zs.length ≤ n := by
  by_cases hne : zs = []
  · rw [hne]
    exact Nat.zero_le _
  · have hl : 0 < zs.length := List.length_pos_iff.mpr hne
    obtain ⟨h0, h1, h2⟩ := good_parts h hne
    have q := rising_le h2 (zs.length - 1) 0 (by omega)
    rw [Nat.zero_add] at q
    omega
def linesOf (ws : List Str) (zs : List Int) : List Str := (List.range zs.length).map fun i => lineOf ws (zs.getD i 0).toNat ((endsOf ws.length zs).getD i 0).toNat

/-! ### textwrapper.measure -/
def sp_line_of (K : PySem.W.Frag) : Sp := fun vs H Q _ => ∃ (p : Addr) (ws : List Str) (b e : Nat), vs = [.ref p, .int b, .int e] ∧ SqL K H p (ws.map V.str) ∧ (∀ z ∈ ws, z.length ≤ 300) ∧ ws.length ≤ 2000 ∧ b ≤ e ∧ e ≤ ws.length ∧ RetV (.str (lineOf ws b e)) H Q
theorem ok_line_of (T : Txt K mg A) : FnOk P w K mg base CX0 1 A.f_line_of A.d_line_of ["words", "begin", "end"] (sp_line_of K) := by
  refine T.F_line_of.ok sc_line_of (fun vs H Q E h => ?_) (fun cdv Ar outer s H vs Q E hr h => ?_)
  · obtain ⟨p, ws, b, e, rfl, _⟩ := h
    rfl
  · obtain ⟨p, ws, b, e, rfl, hS, hz, hl, h1, h2, k⟩ := h
    refine ⟨_, (pss_one (ps_ret (TwT.pe_joinK (K := K) rfl pe_str (pe_slice (TwT.slL (K := K) rfl) (pv 0) (po_some (pv 1)) (po_some (pv 2)))))), ?_⟩
    refine s_ret (v := .str (lineOf ws b e)) (ev_joinL ev_blk (el_is (el_sl (ev_var rfl) (eo_some (ev_var rfl)) (eo_some (ev_var rfl)) hS) (cut_words h1 h2)) ?_) fun H1 e1 => k H1 e1
    have := line_fits hz hl b e
    omega

def sp_lines_of (K : PySem.W.Frag) (A : Ad) : Sp := fun vs H Q E => ∃ (p q : Addr) (ws : List Str) (zs : List Int), vs = [.ref p, .ref q] ∧ SqL K H p (ws.map V.str) ∧ SqL K H q (zs.map V.int) ∧ zs.length ≤ 40000 ∧ (∀ z ∈ ws, z.length ≤ 300) ∧ ws.length ≤ 2000 ∧ TabG H A.p_are_starts ∧
  (goodB ws.length zs = false → ∀ H', ExT A.p_are_starts H H' → E (.ref A.c_NoStarts) none H') ∧ (goodB ws.length zs = true → ∀ l H', ExT A.p_are_starts H H' → H' l = some (.lst ((linesOf ws zs).map V.str)) → Q (.ref l) H')
theorem ok_lines_of (T : Txt K mg A) (B : Tb mg base A) : FnOk P w K mg base (L2N.CX P w) 3 A.f_lines_of A.d_lines_of ["words", "starts"] (sp_lines_of K A) := by
  refine Fun.okN T.F_lines_of sc_lines_of (fun vs H Q E h => ?_) (fun cdv Ar outer s H vs Q E hr h => ?_)
  · obtain ⟨p, q, ws, zs, rfl, _⟩ := h
    rfl
  · obtain ⟨p, q, ws, zs, rfl, hp, hq, hlen, hz, hl, hT, k1, k2⟩ := h
    refine ⟨_, (pss_cons (ps_expr (pe_call (ok_check_starts T B) (hr.mono (by decide)) rfl T.g_check_starts T.F_check_starts.kp T.b_check_starts .nil (L2N.passes_call (L2N.takes_of rfl rfl rfl rfl) (fun _ _ _ _ h => h)) (pa_cons (pv 0) (pa_cons (pv 1) pa_nil))))
  (pss_one (ps_ret (pe_lc (own := [("begin", 2), ("end", 3)]) (g := gTup K 2 (gCons (gName 2) (gCons (gName 3) gNil))) (tt := tYes) rfl sc_lines_of.nd (pi_list (pe_call (ok_bounds_of T) (hr.mono (by decide)) rfl T.g_bounds_of T.F_bounds_of.kp T.b_bounds_of .nil pass0 (pa_cons (pv 0) (pa_cons (pv 1) pa_nil)))) (blkOk_by (N := N_lines_of) (sc := defScope s_lines_of) (by decide +kernel)) (fun _ _ _ _ _ => (by
        apply pg_tup (n := 2)
        all_goals try rfl
        apply pgs_cons
        all_goals try rfl
        focus exact pg_name (i := 2) sc_lines_of.nd rfl (.inl rfl)
        apply pgs_cons
        all_goals try rfl
        focus exact pg_name (i := 3) sc_lines_of.nd rfl (.inl rfl)
        exact pgs_nil)) (fun _ _ _ _ _ => pts_nil) (fun _ _ _ _ _ => (pe_call (ok_line_of T) (hr.mono (by decide)) rfl T.g_line_of T.F_line_of.kp T.b_line_of .nil pass0 (pa_cons (pv 0) (pa_cons (pv 2) (pa_cons (pv 3) pa_nil))))))))), ?_⟩
    refine q_dropA (ea_cons (ev_var rfl) (ea_cons (ev_var rfl) ea_nil)) fun H1 e1 => ⟨p, q, ws, zs, rfl, ex_l e1 hp, ex_l e1 hq, by omega, TabG.ex hT e1, fun hg H2 e2 => k1 hg H2 ((ExT.of_ex hT e1).trans e2), fun hg H2 e2 => ?_⟩
    have e := (ExT.of_ex hT e1).trans e2
    have hp2 := sql_tab hT e hp
    have hq2 := sql_tab hT e hq
    have gl := good_line hg
    have dl : (zs.drop 1).length = zs.length - 1 := List.length_drop
    have hlens : min (zs.map V.int).length ((endsOf ws.length zs).map V.int).length = zs.length := by
      rw [List.length_map, List.length_map]
      unfold endsOf
      rw [List.length_append, dl]
      show min zs.length (zs.length - 1 + 1) = zs.length
      omega
    refine s_retL (xs := (linesOf ws zs).map V.str) (el_is (el_lcP (xs := zs.map V.int) (ys := (endsOf ws.length zs).map V.int) (fun i => V.str (lineOf ws (zs.getD i 0).toNat ((endsOf ws.length zs).getD i 0).toNat)) (fun H3 e3 Q' k => ?_) (by rw [List.length_map]; omega) (fun _ _ => rfl) fun i x y H3 e3 hx hy => ?_) ?_) fun l H3 l0 e3 h3 => k2 hg l H3 (e.trans (ExT.of_ex e.1 e3)) h3
    · exact (ea_cons (ev_var rfl) (ea_cons (ev_var rfl) ea_nil)) H3 (Ex.refl H3) _ fun H4 e4 => ⟨p, q, ws, zs, rfl, ex_l (e3.trans e4) hp2, ex_l (e3.trans e4) hq2, hlen, fun l H5 e5 hP => k l H5 (e4.trans e5) hP⟩
    · obtain ⟨hi, rfl⟩ := getI hx
      obtain ⟨hi2, rfl⟩ := getI hy
      obtain ⟨g1, g2, g3⟩ := gl i hi
      have c1 : (((zs.getD i 0).toNat : Nat) : Int) = zs.getD i 0 := Int.toNat_of_nonneg g1
      have c2 : ((((endsOf ws.length zs).getD i 0).toNat : Nat) : Int) = (endsOf ws.length zs).getD i 0 := Int.toNat_of_nonneg (by omega)
      refine ev_call (ea_cons (ev_var rfl) (ea_cons (ev_var rfl) (ea_cons (ev_var rfl) ea_nil))) fun H4 e4 Q' qq E' => ⟨p, ws, (zs.getD i 0).toNat, ((endsOf ws.length zs).getD i 0).toNat, by rw [c1, c2]; rfl, ex_l (e3.trans e4) hp2, hz, hl, by omega, by omega, qq⟩
    · rw [hlens]
      unfold linesOf
      rw [List.map_map]
      rfl

/-! ### the law's starts, by a cell; spoilt -/
def RetC (xs : List V) (H : Hp) (Q : VK) : Prop := ∀ (p : Addr) H', Ex H H' → H' p = some (.lst xs) → Q (.ref p) H'
theorem cut_some (ns : List Int) (lo hi : Option Int) : ∃ ms : List Int, cutV (ns.map V.int) lo hi = ms.map V.int ∧ ms.length ≤ ns.length := by
  unfold cutV
  rw [← List.map_drop, ← List.map_take]
  exact ⟨_, rfl, by rw [List.length_take, List.length_drop]; omega⟩

def sp_starts_by (K : PySem.W.Frag) : Sp := fun vs H Q _ => ∃ (c n : Int), vs = [.int c, .int n] ∧ 0 ≤ n ∧ n ≤ 2000 ∧ ∀ zs : List Int, zs.length ≤ 2000 → RetC (zs.map V.int) H Q
theorem ok_l_starts_by (T : Txt K mg A) : FnOk P w K mg base CX0 1 A.f_l_starts_by A.d_l_starts_by ["_law_cell", "_law_count"] (sp_starts_by K) := by
  refine T.F_l_starts_by.ok sc_l_starts_by (fun vs H Q E h => ?_) (fun cdv Ar outer s H vs Q E hr h => ?_)
  · obtain ⟨c, n, rfl, _⟩ := h
    rfl
  · obtain ⟨c, n, rfl, h0, hn, k⟩ := h
    refine ⟨_, (pss_cons (ps_set (i := 2) sc_l_starts_by.nd rfl (.inl rfl) (pe_lst pa_nil))
  (pss_cons (ps_set (i := 3) sc_l_starts_by.nd rfl (.inl rfl) pe_int)
  (pss_cons (ps_set (i := 4) sc_l_starts_by.nd rfl (.inl rfl) (pe_ix (ixL (K := K) rfl) (pe_lst (pa_cons pe_int (pa_cons pe_int pa_nil))) (pe_op op_mod (pe_op op_fdiv (pv 0) pe_int) pe_int) (fun _ _ => rfl)))
  (pss_cons (ps_while PassesOwn.never (pt_cmpR op_lt (pv 3) (pv 1) (nomark _))
  (pss_cons (ps_expr (pe_bm PySem.F.plainAttrs_list PySem.F.slot_list_append PySem.F.type_list_append mt_append (pv 2) (pa_cons (pv 3) pa_nil)))
  (pss_cons (ps_set (i := 0) sc_l_starts_by.nd rfl (.inl rfl) (pe_op op_mod (pe_op op_mul (pe_op op_add (pv 0) pe_int) pe_int) pe_int))
  (pss_one (ps_set (i := 3) sc_l_starts_by.nd rfl (.inl rfl) (pe_op op_add (pe_op op_add (pv 3) pe_int) (pe_op op_mod (pv 0) (pv 4))))))))
  (pss_one (ps_ret (pv 2))))))), ?_⟩
    refine q_asgL (xs := []) (el_lst ea_nil (Nat.zero_le _)) fun l H1 l0 e1 hl1 => ?_
    refine q_asg (v := .int 0) ev_c fun H2 e2 => ?_
    obtain ⟨rh, hrh, hr1⟩ : ∃ rh : Int, atI [V.int 5, V.int 40] (c / 14 % 2) = some (.int rh) ∧ 1 ≤ rh := by
      have h2 : c / 14 % 2 = 0 ∨ c / 14 % 2 = 1 := by omega
      rcases h2 with h | h <;> rw [h]
      · exact ⟨5, atI_nat (j := 0) rfl, by decide⟩
      · exact ⟨40, atI_nat (j := 1) rfl, by decide⟩
    refine q_asg (v := .int rh) (ev_opL1 (xs := [V.int 5, V.int 40]) (y := .int (c / 14 % 2)) (el_lst (ea_cons ev_c (ea_cons ev_c ea_nil)) (show 2 ≤ 100000 by decide)) (fun H5 e5 => ev_op (ev_op (ev_var rfl) ev_c (rv_I ⟨by decide, by decide⟩)) ev_c (rv_I (by decide))) fun q H5 hq e5 => rv_ixL (sq_of hq) hrh) fun H3 e3 => ?_
    refine q_while (fun m σ' H' => ∃ (zs : List Int) (c' at_ : Int), σ' = [some (.int c'), some (.int n), some (.ref l), some (.int at_), some (.int rh)] ∧ Ex H H' ∧ H' l = some (.lst (zs.map V.int)) ∧ (zs.length : Int) ≤ at_ ∧ (zs.length : Int) ≤ n ∧ m = (n - at_).toNat) (n - 0).toNat
      ⟨[], c, 0, rfl, (e1.trans e2).trans e3, e3 _ _ (e2 _ _ hl1), by decide, h0, rfl⟩ ?_
    rintro m σ' H' ⟨zs, c', at_, rfl, e, hl, g1, g2, rfl⟩
    have nz : (zs.map V.int).length = zs.length := List.length_map ..
    refine ⟨decide (at_ < n), et_test (ev_op (ev_var rfl) (ev_var rfl) rv_I0), fun hb H4 e4 => ?_, fun hb H4 e4 => ?_⟩
    · have hat := of_decide_eq_true hb
      refine ⟨fun σ2 H2 => ∃ (zs : List Int) (c' a' : Int), σ2 = [some (.int c'), some (.int n), some (.ref l), some (.int a'), some (.int rh)] ∧ Ex H H2 ∧ H2 l = some (.lst (zs.map V.int)) ∧ (zs.length : Int) ≤ a' ∧ (zs.length : Int) ≤ n ∧ at_ < a', fun σ2 H2 ⟨zs, c', a', h1, h2, h3, h4, h5, h6⟩ => ⟨(n - a').toNat, by omega, zs, c', a', h1, h2, h3, h4, h5, rfl⟩, ?_⟩
      refine q_app (xs := zs.map V.int) (v := .int at_) (e4 _ _ hl) (ev_var rfl) (ev_var rfl) (by omega) fun H5 e5 => ?_
      refine q_asg (v := .int ((c' + 11) * 48271 % 2147483647)) (ev_op (ev_op (ev_op (ev_var rfl) ev_c rv_I0) ev_c (rv_I (.inr ⟨by decide, by decide⟩))) ev_c (rv_I (by decide))) fun H6 e6 => ?_
      generalize (c' + 11) * 48271 % 2147483647 = c2
      have hm0 : 0 ≤ c2 % rh := Int.emod_nonneg _ (by omega)
      refine s_asg (v := .int (at_ + 1 + c2 % rh)) (ev_op (ev_op (ev_var rfl) ev_c rv_I0) (ev_op (ev_var rfl) (ev_var rfl) (rv_I (by omega))) rv_I0) fun H7 e7 => ?_
      refine ⟨zs ++ [at_], c2, _, rfl, ((Ex.mut ((e.trans e4).trans e5) l0).trans e6).trans e7, ?_, ?_, ?_, by omega⟩
      · rw [e7 _ _ (e6 _ _ upd_same), List.map_append]
        rfl
      · rw [List.length_append, List.length_singleton]
        omega
      · rw [List.length_append, List.length_singleton]
        omega
    · exact s_ret (v := .ref l) (ev_var rfl) fun H5 e5 => k zs (by omega) l H5 ((e.trans e4).trans e5) (e5 _ _ (e4 _ _ hl))

theorem s_retIx {ta : TA} {tb : TE} {σ : L2.St} {H : Hp} {D : Ends} {i : Int} {P : List V → Hp → Prop} (h : ArgP ta σ H P) (hi : ∀ H1, Ex H H1 → Ev tb σ H1 (.int i)) (k : ∀ vs H1, Ex H H1 → P vs H1 → vs.length ≤ 100000 ∧ ∃ v, atI vs i = some v ∧ ∀ H2, Ex H1 H2 → D.rt v H2) : tRet (tOp (rIxL K) (tLst ta) tb) D σ H :=
  h H (Ex.refl H) _ fun vs H1 e1 hP => let ⟨hl, v, hv, kk⟩ := k vs H1 e1 hP; ⟨sz_of hl, fun p hp => hi _ (e1.trans (Ex.new hp)) _ (Ex.refl _) _ fun H2 e2 => ⟨p, vs, i, v, rfl, rfl, sq_of (e2 _ _ upd_same), hv, kk H2 ((Ex.new hp).trans e2)⟩⟩
theorem el_catR {ta tb : TE} {σ : L2.St} {H : Hp} {l : Addr} {xs ys : List V} (ha : EvL ta σ H xs) (hb : Ev tb σ H (.ref l)) (hl : H l = some (.lst ys)) (hz : xs.length + ys.length ≤ 100000) : EvL (tOp rCat ta tb) σ H (xs ++ ys) := fun H1 e Q q =>
  ha H1 e _ fun p H2 _ e2 hp => hb H2 (e.trans e2) _ fun H3 e3 => ⟨p, l, xs, ys, rfl, rfl, e3 _ _ hp, e3 _ _ (e2 _ _ (e _ _ hl)), sz_of hz, fun r hr => q r _ (fresh_back (e2.trans e3) hr) ((e2.trans e3).trans (Ex.new hr)) upd_same⟩
def sp_spoilt (K : PySem.W.Frag) : Sp := fun vs H Q _ => ∃ (q : Addr) (zs : List Int) (y c n : Int), vs = [.ref q, .int y, .int c, .int n] ∧ H q = some (.lst (zs.map V.int)) ∧ zs.length ≤ 2000 ∧ ∀ ys : List Int, ys.length ≤ 9000 → RetC (ys.map V.int) H Q
theorem s_retC {te : TE} {σ : L2.St} {H : Hp} {D : Ends} {xs : List V} {zs : List Int} (h : EvL te σ H xs) (e : xs = zs.map V.int) (k : ∀ p H1, Ex H H1 → H1 p = some (.lst (zs.map V.int)) → D.rt (.ref p) H1) : tRet te D σ H :=
  s_retL (el_is h e) fun p H1 _ e1 h1 => k p H1 e1 h1
theorem ok_l_spoilt (T : Txt K mg A) : FnOk P w K mg base CX0 1 A.f_l_spoilt A.d_l_spoilt ["_law_starts", "_law_way", "_law_cell", "_law_count"] (sp_spoilt K) := by
  refine T.F_l_spoilt.ok sc_l_spoilt (fun vs H Q E h => ?_) (fun cdv Ar outer s H vs Q E hr h => ?_)
  · obtain ⟨q, zs, y, c, n, rfl, _⟩ := h
    rfl
  · obtain ⟨q, zs, y, c, n, rfl, hq, hl, k⟩ := h
    refine ⟨_, (pss_cons (ps_set (i := 4) sc_l_spoilt.nd rfl (.inl rfl) (pe_op op_mod (pv 2) (pe_op op_add (pe_callB call_len_seq (by rfl) T.m_len PySem.boot_len (pa_cons (pv 0) pa_nil)) pe_int)))
  (pss_cons (ps_if (pt_cmpR op_eq (pv 1) pe_int (nomark _))
  (pss_one (ps_ret (pe_slice (TwT.slL (K := K) rfl) (pv 0) (po_some pe_int) po_none)))
  pss_nil)
  (pss_cons (ps_if (pt_cmpR op_eq (pv 1) pe_int (nomark _))
  (pss_one (ps_ret (pe_op op_cat (pe_op op_cat (pe_slice (TwT.slL (K := K) rfl) (pv 0) po_none (po_some (pv 4))) (pe_slice (TwT.slL (K := K) rfl) (pv 0) (po_some (pv 4)) (po_some (pe_op op_add (pv 4) pe_int)))) (pe_slice (TwT.slL (K := K) rfl) (pv 0) (po_some (pv 4)) po_none))))
  pss_nil)
  (pss_cons (ps_if (pt_cmpR op_eq (pv 1) pe_int (nomark _))
  (pss_one (ps_ret (pe_op op_cat (pe_slice (TwT.slL (K := K) rfl) (pv 0) po_none (po_some (pv 4))) (pe_slice (TwT.slL (K := K) rfl) (pv 0) (po_some (pe_op op_add (pv 4) pe_int)) po_none))))
  pss_nil)
  (pss_cons (ps_if (pt_cmpR op_eq (pv 1) pe_int (nomark _))
  (pss_cons (ps_set (i := 5) sc_l_spoilt.nd rfl (.inl rfl) (pe_op op_cat (pe_slice (TwT.slL (K := K) rfl) (pv 0) (po_some (pe_op op_add (pv 4) pe_int)) (po_some (pe_op op_add (pv 4) pe_int))) (pe_slice (TwT.slL (K := K) rfl) (pv 0) (po_some (pv 4)) (po_some (pe_op op_add (pv 4) pe_int)))))
  (pss_one (ps_ret (pe_op op_cat (pe_op op_cat (pe_slice (TwT.slL (K := K) rfl) (pv 0) po_none (po_some (pv 4))) (pv 5)) (pe_slice (TwT.slL (K := K) rfl) (pv 0) (po_some (pe_op op_add (pv 4) pe_int)) po_none)))))
  pss_nil)
  (pss_cons (ps_if (pt_cmpR op_eq (pv 1) pe_int (nomark _))
  (pss_one (ps_ret (pe_op op_cat (pv 0) (pe_lst (pa_cons (pe_ix (ixL (K := K) rfl) (pe_lst (pa_cons (pv 3) (pa_cons (pe_op op_add (pv 3) pe_int) (pa_cons (pe_op op_pow pe_int pe_int) (pa_cons (pe_un un_neg pe_int) pa_nil))))) (pe_op op_mod (pv 2) pe_int) (fun _ _ => rfl)) pa_nil)))))
  pss_nil)
  (pss_cons (ps_if (pt_cmpR op_eq (pv 1) pe_int (nomark _))
  (pss_one (ps_ret (pe_op op_cat (pe_lst (pa_cons (pe_op op_sub (pe_un un_neg pe_int) (pe_op op_mod (pv 2) pe_int)) pa_nil)) (pv 0))))
  pss_nil)
  (pss_one (ps_ret (pe_ix (ixL (K := K) rfl) (pe_lst (pa_cons (pe_lst pa_nil) (pa_cons (pe_lst (pa_cons pe_int pa_nil)) (pa_cons (pe_lst (pa_cons (pe_op op_mod (pv 2) pe_int) pa_nil)) pa_nil)))) (pe_op op_mod (pe_op op_fdiv (pv 2) pe_int) pe_int) (fun _ _ => rfl))))))))))), ?_⟩
    have nz : (zs.map V.int).length = zs.length := List.length_map ..
    have sl : ∀ {te : TE} {tl th : TO} {σ : L2.St} {H1 : Hp} {lo hi : Option Int} {ms : List Int}, Ex H H1 → cutV (zs.map V.int) lo hi = ms.map V.int → Ev te σ H1 (.ref q) → EvO tl σ H1 lo → EvO th σ H1 hi → EvL (tSl (rSlL K) te tl th) σ H1 (ms.map V.int) := fun e hm h1 h2 h3 => el_is (el_sl h1 h2 h3 (sq_of (e _ _ hq))) hm
    refine q_asg (v := .int (c % (((zs.map V.int).length : Nat) + 1 : Int))) (ev_op (ev_var rfl) (ev_op (ev_cb (ea_cons (ev_var rfl) ea_nil) (rc_lenL (sq_of hq))) ev_c rv_I0) (rv_I (by omega))) fun H1 e1 => ?_
    generalize c % (((zs.map V.int).length : Nat) + 1 : Int) = kk
    have two : ∀ {a b : List Int}, a.length ≤ 2000 → b.length ≤ 2000 → (a.map V.int).length + (b.map V.int).length ≤ 100000 := fun h1 h2 => by rw [List.length_map, List.length_map]; omega
    refine q_when (b := decide (V.int y = V.int 0)) (et_test (ev_op (ev_var rfl) ev_c (rv_eq rfl))) (fun _ H2 e2 => ?_) (fun _ H2 e2 => ?_)
    · obtain ⟨m1, h1, g1⟩ := cut_some zs (some 1) none
      exact s_retC (sl (e1.trans e2) h1 (ev_var rfl) (eo_some ev_c) eo_none) rfl fun p H3 e3 h3 => k m1 (by omega) p H3 ((e1.trans e2).trans e3) h3
    have e12 := e1.trans e2
    refine q_when (b := decide (V.int y = V.int 1)) (et_test (ev_op (ev_var rfl) ev_c (rv_eq rfl))) (fun _ H3 e3 => ?_) (fun _ H3 e3 => ?_)
    · obtain ⟨m1, h1, g1⟩ := cut_some zs none (some kk)
      obtain ⟨m2, h2, g2⟩ := cut_some zs (some kk) (some (kk + 1))
      obtain ⟨m3, h3, g3⟩ := cut_some zs (some kk) none
      have eA := e12.trans e3
      refine s_retC (zs := m1 ++ m2 ++ m3) (el_catN (el_catN (sl eA h1 (ev_var rfl) eo_none (eo_some (ev_var rfl))) (sl eA h2 (ev_var rfl) (eo_some (ev_var rfl)) (eo_some (ev_op (ev_var rfl) ev_c rv_I0))) (two (by omega) (by omega))) (sl eA h3 (ev_var rfl) (eo_some (ev_var rfl)) eo_none) ?_) (by rw [List.map_append, List.map_append]) fun p H4 e4 h4 => k _ (by rw [List.length_append, List.length_append]; omega) p H4 ((e12.trans e3).trans e4) h4
      rw [List.length_append, List.length_map, List.length_map, List.length_map]
      omega
    have e13 := e12.trans e3
    refine q_when (b := decide (V.int y = V.int 2)) (et_test (ev_op (ev_var rfl) ev_c (rv_eq rfl))) (fun _ H4 e4 => ?_) (fun _ H4 e4 => ?_)
    · obtain ⟨m1, h1, g1⟩ := cut_some zs none (some kk)
      obtain ⟨m2, h2, g2⟩ := cut_some zs (some (kk + 1)) none
      have eA := e13.trans e4
      exact s_retC (zs := m1 ++ m2) (el_catN (sl eA h1 (ev_var rfl) eo_none (eo_some (ev_var rfl))) (sl eA h2 (ev_var rfl) (eo_some (ev_op (ev_var rfl) ev_c rv_I0)) eo_none) (two (by omega) (by omega))) (by rw [List.map_append]) fun p H5 e5 h5 => k _ (by rw [List.length_append]; omega) p H5 ((e13.trans e4).trans e5) h5
    have e14 := e13.trans e4
    refine q_when (b := decide (V.int y = V.int 3)) (et_test (ev_op (ev_var rfl) ev_c (rv_eq rfl))) (fun _ H5 e5 => ?_) (fun _ H5 e5 => ?_)
    · obtain ⟨m1, h1, g1⟩ := cut_some zs (some (kk + 1)) (some (kk + 2))
      obtain ⟨m2, h2, g2⟩ := cut_some zs (some kk) (some (kk + 1))
      obtain ⟨m3, h3, g3⟩ := cut_some zs none (some kk)
      obtain ⟨m4, h4, g4⟩ := cut_some zs (some (kk + 2)) none
      have eA := e14.trans e5
      refine q_asgL (el_catN (sl eA h1 (ev_var rfl) (eo_some (ev_op (ev_var rfl) ev_c rv_I0)) (eo_some (ev_op (ev_var rfl) ev_c rv_I0))) (sl eA h2 (ev_var rfl) (eo_some (ev_var rfl)) (eo_some (ev_op (ev_var rfl) ev_c rv_I0))) (two (by omega) (by omega))) fun tn H6 _ e6 h6 => ?_
      have eB := eA.trans e6
      refine s_retC (zs := m3 ++ (m1 ++ m2) ++ m4) (el_catN (el_catR (sl eB h3 (ev_var rfl) eo_none (eo_some (ev_var rfl))) (ev_var rfl) h6 ?_) (sl eB h4 (ev_var rfl) (eo_some (ev_op (ev_var rfl) ev_c rv_I0)) eo_none) ?_) (by simp only [List.map_append]) fun p H7 e7 h7 => k _ (by simp only [List.length_append]; omega) p H7 (((e14.trans e5).trans e6).trans e7) h7
      · simp only [List.length_append, List.length_map]
        omega
      · simp only [List.length_append, List.length_map]
        omega
    have e15 := e14.trans e5
    refine q_when (b := decide (V.int y = V.int 4)) (et_test (ev_op (ev_var rfl) ev_c (rv_eq rfl))) (fun _ H6 e6 => ?_) (fun _ H6 e6 => ?_)
    · obtain ⟨v, hv⟩ : ∃ v : Int, atI [V.int n, V.int (n + 1), V.int (10 ^ (30 : Int).toNat), V.int (-1)] (c % 4) = some (.int v) := by
        have h4 : c % 4 = 0 ∨ c % 4 = 1 ∨ c % 4 = 2 ∨ c % 4 = 3 := by omega
        rcases h4 with h | h | h | h <;> rw [h]
        · exact ⟨_, atI_nat (j := 0) rfl⟩
        · exact ⟨_, atI_nat (j := 1) rfl⟩
        · exact ⟨_, atI_nat (j := 2) rfl⟩
        · exact ⟨_, atI_nat (j := 3) rfl⟩
      exact s_retC (zs := zs ++ [v]) (el_cat (ev_var rfl) ((e15.trans e6) _ _ hq) (el_lst (ea_cons (ev_opL1 (y := .int (c % 4)) (el_lst (ea_cons (ev_var rfl) (ea_cons (ev_op (ev_var rfl) ev_c rv_I0) (ea_cons (ev_op ev_c ev_c (rv_I ⟨by decide, by decide, by decide⟩)) (ea_cons (ev_un ev_c ru_neg) ea_nil)))) (show 4 ≤ 100000 by decide)) (fun H5 e5 => ev_op (ev_var rfl) ev_c (rv_I (by decide))) fun q H5 hq e5 => rv_ixL (sq_of hq) hv) ea_nil) (show 1 ≤ 100000 by decide)) (by rw [nz]; show _ + 1 ≤ 100000; omega)) (by rw [List.map_append]; rfl) fun p H7 e7 h7 => k _ (by rw [List.length_append, List.length_singleton]; omega) p H7 ((e15.trans e6).trans e7) h7
    have e16 := e15.trans e6
    refine q_when (b := decide (V.int y = V.int 5)) (et_test (ev_op (ev_var rfl) ev_c (rv_eq rfl))) (fun _ H7 e7 => ?_) (fun _ H7 e7 => ?_)
    · exact s_retC (zs := [-1 - c % 3] ++ zs) (el_catR (el_lst (ea_cons (ev_op (ev_un ev_c ru_neg) (ev_op (ev_var rfl) ev_c (rv_I (by decide))) rv_I0) ea_nil) (show 1 ≤ 100000 by decide)) (ev_var rfl) ((e16.trans e7) _ _ hq) (by rw [nz]; show 1 + _ ≤ 100000; omega)) (by rw [List.map_append]; rfl) fun p H8 e8 h8 => k _ (by rw [List.length_append, List.length_singleton]; omega) p H8 ((e16.trans e7).trans e8) h8
    have e17 := e16.trans e7
    have hc3 : c / 3 % 3 = 0 ∨ c / 3 % 3 = 1 ∨ c / 3 % 3 = 2 := by omega
    refine s_retIx (i := c / 3 % 3) (ap_consL (el_lst ea_nil (Nat.zero_le _)) (ap_consL (el_lst (ea_cons ev_c ea_nil) (show 1 ≤ 100000 by decide)) (ap_consL (el_lst (ea_cons (ev_op (ev_var rfl) ev_c (rv_I (by decide))) ea_nil) (show 1 ≤ 100000 by decide)) ap_nil fun _ _ _ => trivial) fun _ _ _ => trivial) fun _ _ _ => trivial)
      (fun H8 e8 => ev_op (ev_op (ev_var rfl) ev_c (rv_I ⟨by decide, by decide⟩)) ev_c (rv_I (by decide))) fun vs H8 e8 hv => ?_
    obtain ⟨p1, r1, rfl, h1, p2, r2, rfl, h2, p3, r3, rfl, h3, rfl⟩ := hv
    refine ⟨show 3 ≤ 100000 by decide, ?_⟩
    have e78 := e17.trans e8
    rcases hc3 with h | h | h <;> rw [h]
    · exact ⟨_, atI_nat (j := 0) rfl, fun H9 e9 => k [] (Nat.zero_le _) p1 H9 (e78.trans e9) (e9 _ _ h1)⟩
    · exact ⟨_, atI_nat (j := 1) rfl, fun H9 e9 => k [0] (show 1 ≤ 9000 by decide) p2 H9 (e78.trans e9) (e9 _ _ h2)⟩
    · exact ⟨_, atI_nat (j := 2) rfl, fun H9 e9 => k [c % 3] (show 1 ≤ 9000 by decide) p3 H9 (e78.trans e9) (e9 _ _ h3)⟩
/-! ### _law_good -/
def sp_good (K : PySem.W.Frag) : Sp := fun vs H Q _ => ∃ (q : Addr) (zs : List Int) (n : Nat), vs = [.ref q, .int (n : Int)] ∧ SqL K H q (zs.map V.int) ∧ zs.length ≤ 9000 ∧ RetV (.bl (goodB n zs)) H Q
theorem ok_l_good (T : Txt K mg A) : FnOk P w K mg base CX0 1 A.f_l_good A.d_l_good ["_law_starts", "_law_count"] (sp_good K) := by
  refine T.F_l_good.ok sc_l_good (fun vs H Q E h => ?_) (fun cdv Ar outer s H vs Q E hr h => ?_)
  · obtain ⟨q, zs, n, rfl, _⟩ := h
    rfl
  · obtain ⟨q, zs, n, rfl, hq, hl, k⟩ := h
    refine ⟨_, (pss_cons (ps_if (pt_cmpR (op_eqD hr.units) (pv 0) (pe_lst pa_nil) (nomark _))
  (pss_one (ps_ret (pe_cmpR op_eq (pv 1) pe_int (nomark _))))
  pss_nil)
  (pss_cons (ps_if (PW.pt (pw_or (pt_cmpR op_ne (pe_ix (ixL (K := K) rfl) (pv 0) pe_int (fun _ _ => rfl)) pe_int (nomark _)) (pw_or1 (pt_cmpR op_ge (pe_ix (ixL (K := K) rfl) (pv 0) (pe_un un_neg pe_int) (fun _ _ => rfl)) (pv 1) (nomark _)))))
  (pss_one (ps_ret pe_bl))
  pss_nil)
  (pss_cons (ps_for PassesOwn.never rfl (pi_range2 (by rfl) T.m_range (pa_cons pe_int (pa_cons (pe_callB call_len_seq (by rfl) T.m_len PySem.boot_len (pa_cons (pv 0) pa_nil)) pa_nil))) (pg_name (i := 2) sc_l_good.nd rfl (.inl rfl))
  (pss_one (ps_if (pt_not (pt_cmpR op_lt (pe_ix (ixL (K := K) rfl) (pv 0) (pe_op op_sub (pv 2) pe_int) (fun _ _ => rfl)) (pe_ix (ixL (K := K) rfl) (pv 0) (pv 2) (fun _ _ => rfl)) (nomark _)))
  (pss_one (ps_ret pe_bl))
  pss_nil)))
  (pss_one (ps_ret pe_bl))))), ?_⟩
    have nlz : (zs.map V.int).length = zs.length := List.length_map ..
    refine q_when (b := decide (zs = [])) (et_test (ev_opL (xs := []) (ev_var rfl) (el_lst ea_nil (Nat.zero_le _)) fun p H1 hp e1 => rv_eqI (l := zs) (m := []) (ex_l e1 hq) (sq_of hp))) (fun hb H1 e1 => ?_) (fun hb H1 e1 => ?_)
    · have h1 := of_decide_eq_true hb
      subst h1
      refine s_ret (v := .bl (goodB n [])) (ev_is (ev_op (ev_var rfl) ev_c (rv_eq rfl)) ?_) fun H2 e2 => k H2 (e1.trans e2)
      unfold goodB
      rw [if_pos rfl]
      congr 1
      by_cases hn : n = 0
      · subst hn
        rfl
      · rw [decide_eq_false hn, decide_eq_false fun q => by injection q with q; omega]
    · have h1 := of_decide_eq_false hb
      have hl0 : 0 < zs.length := List.length_pos_iff.mpr h1
      have at_ : ∀ i, i < zs.length → (zs.map V.int)[i]? = some (.int (zs.getD i 0)) := fun i hi => by
        rw [List.getElem?_map, List.getElem?_eq_getElem hi, List.getD_eq_getElem?_getD, List.getElem?_eq_getElem hi]
        rfl
      have a0 := at_ 0 hl0
      have aN : atI (zs.map V.int) (-1) = some (.int (zs.getD (zs.length - 1) 0)) := by
        have e : ixN (zs.map V.int).length (-1) = some (zs.length - 1) := by
          unfold ixN
          rw [if_neg (by decide), if_pos (by omega), nlz]
          congr 1
          omega
        unfold atI
        rw [e]
        exact at_ _ (by omega)
      refine q_when (b := decide (zs.getD 0 0 ≠ 0) || decide ((n : Int) ≤ zs.getD (zs.length - 1) 0)) (et_is (et_or (et_test (ev_op (ev_op (ev_var rfl) ev_c (rv_ixL (ex_l e1 hq) (atI_nat a0))) ev_c (rv_ne rfl))) fun _ => et_test (ev_op (ev_op (ev_var rfl) (ev_un ev_c ru_neg) (rv_ixL (ex_l e1 hq) aN)) (ev_var rfl) rv_I0)) ?_) (fun hb2 H2 e2 => ?_) (fun hb2 H2 e2 => ?_)
      · by_cases q1 : zs.getD 0 0 = 0
        · rw [q1]
          simp
        · simp only [V.int.injEq]
          rw [decide_eq_false q1, decide_eq_true (show zs.getD 0 0 ≠ 0 from q1)]
          simp
      · refine s_ret (v := .bl false) ev_c fun H3 e3 => ?_
        have e : goodB n zs = false := by
          unfold goodB
          rw [if_neg h1]
          rw [Bool.or_eq_true] at hb2
          rcases hb2 with q1 | q1
          · rw [decide_eq_false (of_decide_eq_true q1)]
            simp
          · have q2 := of_decide_eq_true q1
            rw [decide_eq_false (show ¬ zs.getD (zs.length - 1) 0 < (n : Int) by omega)]
            simp
        rw [← e]
        exact k H3 ((e1.trans e2).trans e3)
      · rw [Bool.or_eq_false_iff] at hb2
        have g1 := of_decide_eq_false hb2.1
        have g2 := of_decide_eq_false hb2.2
        have e12 := e1.trans e2
        have gB : goodB n zs = risingB zs := by
          unfold goodB
          rw [if_neg h1, decide_eq_true (show zs.getD 0 0 = 0 by omega), decide_eq_true (show zs.getD (zs.length - 1) 0 < (n : Int) by omega)]
          rfl
        rw [gB] at k
        refine q_forR2 (lo := 1) (n := ((zs.map V.int).length : Nat)) (ea_cons ev_c (ea_cons (ev_cb (ea_cons (ev_var rfl) ea_nil) (rc_lenL (ex_l e12 hq))) ea_nil)) (by omega) (fun i σ' H' => ∃ x, σ' = [some (.ref q), some (.int (n : Int)), x] ∧ Ex H H' ∧ ∀ j, j < i → zs.getD j 0 < zs.getD (j + 1) 0)
          (fun H3 e3 => ⟨none, rfl, e12.trans e3, fun j hj => absurd hj (Nat.not_lt_zero _)⟩) ?_ ?_
        · rintro i σ' H' hi ⟨x, rfl, e, hup⟩
          have hi2 : i + 1 < zs.length := by omega
          have e1i : (1 : Int) + (i : Int) = ((i + 1 : Nat) : Int) := by omega
          have e0i : (1 : Int) + (i : Int) - 1 = ((i : Nat) : Int) := by omega
          refine s_when (b := !decide (zs.getD i 0 < zs.getD (i + 1) 0)) (et_not (et_test (ev_op (ev_op (ev_var rfl) (ev_op (ev_var rfl) ev_c rv_I0) (rv_ixL (v := .int (zs.getD i 0)) (ex_l e hq) ?_)) (ev_op (ev_var rfl) (ev_var rfl) (rv_ixL (v := .int (zs.getD (i + 1) 0)) (ex_l e hq) ?_)) rv_I0))) (fun hb3 H3 e3 => ?_) (fun hb3 H3 e3 => ?_)
          · rw [e0i]
            exact atI_nat (at_ i (by omega))
          · rw [e1i]
            exact atI_nat (at_ (i + 1) hi2)
          · refine s_ret (v := .bl false) ev_c fun H4 e4 => ?_
            have q1 : ¬ zs.getD i 0 < zs.getD (i + 1) 0 := by
              intro q
              rw [decide_eq_true q] at hb3
              cases hb3
            have q2 : risingB zs = false := by
              cases hr2 : risingB zs with
              | false => rfl
              | true => exact absurd (rising_of hr2 i hi2) q1
            rw [q2] at k
            exact k H4 ((e.trans e3).trans e4)
          · refine ⟨_, rfl, e.trans e3, fun j hj => ?_⟩
            by_cases hji : j = i
            · rw [hji]
              cases hd : decide (zs.getD i 0 < zs.getD (i + 1) 0) with
              | true => exact of_decide_eq_true hd
              | false =>
                rw [hd] at hb3
                cases hb3
            · exact hup j (by omega)
        · rintro σ' H' ⟨x, rfl, e, hup⟩
          have q2 : risingB zs = true := by
            unfold risingB
            rw [List.all_eq_true]
            intro j hj
            have := List.mem_range.mp hj
            exact decide_eq_true (hup j (by omega))
          rw [q2] at k
          exact s_ret (v := .bl true) ev_c fun H3 e3 => k H3 (e.trans e3)

/-! ### the law -/
def sp_law (K : PySem.W.Frag) (A : Ad) : Sp := fun vs H Q _ => ∃ (a : Addr) (ns : List Int), vs = [.ref a] ∧ SqL K H a (ns.map V.int) ∧ ns.length ≤ 63 ∧ TabG H A.p_are_starts ∧ ∀ H', Q (.bl true) H'
theorem s_asgS {ta : TA} {sp : Sp} {vs : List V} {E : L2.St → XK} {i : Nat} {σ : L2.St} {H : Hp} {D : Ends} (h : EvA ta σ H vs) (k : ∀ H1, Ex H H1 → sp vs H1 (fun v H2 => D.nx (σ.set i (some v)) H2) (E σ)) : tAsg (tCallS sp E ta) (gName i) D σ H := h H (Ex.refl H) _ k
theorem s_asgA {ta : TA} {sp : Sp} {dvs vs : List V} {E : XK} {i : Nat} {σ : L2.St} {H : Hp} {D : Ends} (h : EvA ta σ H vs) (k : ∀ H1, Ex H H1 → sp (vs ++ dvs) H1 (fun v H2 => D.nx (σ.set i (some v)) H2) E) : tAsg (tCall sp dvs E ta) (gName i) D σ H := h H (Ex.refl H) _ k
theorem ok_law (T : Txt K mg A) (B : Tb mg base A) : FnOk P w K mg base CX0 6 A.f_law A.d_law ["_law_script"] (sp_law K A) := by
  refine T.F_law.ok sc_law (fun vs H Q E h => ?_) (fun cdv Ar outer s H vs Q E hr h => ?_)
  · obtain ⟨a, ns, rfl, _⟩ := h
    rfl
  · obtain ⟨a, ns, rfl, hS, hlen, hT, k⟩ := h
    refine ⟨_, (pss_cons (ps_set (i := 1) sc_law.nd rfl (.inr rfl) (pe_call (ok_l_words_by T) (hr.mono (by decide)) rfl T.g_l_words_by T.F_l_words_by.kp T.b_l_words_by .nil pass0 (pa_cons (pe_slice (TwT.slL (K := K) rfl) (pv 0) (po_some pe_int) po_none) (pa_cons (pe_call (ok_l_cell_at T) (hr.mono (by decide)) rfl T.g_l_cell_at T.F_l_cell_at.kp T.b_l_cell_at .nil pass0 (pa_cons (pv 0) (pa_cons pe_int pa_nil))) pa_nil))))
  (pss_cons (ps_set (i := 2) sc_law.nd rfl (.inl rfl) (pe_call (ok_l_cell_at T) (hr.mono (by decide)) rfl T.g_l_cell_at T.F_l_cell_at.kp T.b_l_cell_at .nil pass0 (pa_cons (pv 0) (pa_cons pe_int pa_nil))))
  (pss_cons (ps_set (i := 3) sc_law.nd rfl (.inr rfl) (pe_call (ok_l_starts_by T) (hr.mono (by decide)) rfl T.g_l_starts_by T.F_l_starts_by.kp T.b_l_starts_by .nil pass0 (pa_cons (pv 2) (pa_cons (pe_callB call_len_seq (by rfl) T.m_len PySem.boot_len (pa_cons (pv 1) pa_nil)) pa_nil))))
  (Evl.pss_cut (ps_if (pt_cmpR op_eq (pe_op op_mod (pv 2) pe_int) pe_int (nomark _))
  (pss_one (ps_set (i := 3) sc_law.nd rfl (.inr rfl) (pe_call (ok_l_spoilt T) (hr.mono (by decide)) rfl T.g_l_spoilt T.F_l_spoilt.kp T.b_l_spoilt .nil pass0 (pa_cons (pv 3) (pa_cons (pe_op op_mod (pe_op op_fdiv (pv 2) pe_int) pe_int) (pa_cons (pe_op op_fdiv (pv 2) pe_int) (pa_cons (pe_callB call_len_seq (by rfl) T.m_len PySem.boot_len (pa_cons (pv 1) pa_nil)) pa_nil)))))))
  pss_nil)
  (pss_cons (ps_set (i := 4) sc_law.nd rfl (.inl rfl) (pe_lst pa_nil))
  (pss_cons (ps_set (i := 5) sc_law.nd rfl (.inr rfl) (pe_op op_cat (pe_slice (TwT.slL (K := K) rfl) (pv 3) (po_some pe_int) po_none) (pe_lst (pa_cons (pe_callB call_len_seq (by rfl) T.m_len PySem.boot_len (pa_cons (pv 1) pa_nil)) pa_nil))))
  (Evl.pss_cut (ps_if (pt_val (pe_call (ok_l_good T) (hr.mono (by decide)) rfl T.g_l_good T.F_l_good.kp T.b_l_good .nil pass0 (pa_cons (pv 3) (pa_cons (pe_callB call_len_seq (by rfl) T.m_len PySem.boot_len (pa_cons (pv 1) pa_nil)) pa_nil))))
  (pss_one (ps_setLc (i := 4) (own := [("_law_k", 11)]) (tt := tYes) rfl sc_law.nd rfl rfl (sw_true rfl rfl rfl (by decide +kernel)) (pi_range1 (by rfl) T.m_range (pa_cons (pe_callB call_len_seq (by rfl) T.m_len PySem.boot_len (pa_cons (pv 3) pa_nil)) pa_nil)) (blkOk_by (N := N_law) (sc := defScope s_law) (by decide +kernel)) (fun _ _ _ _ _ => (pg_name (i := 11) sc_law.nd rfl (.inl rfl))) (fun _ _ _ _ _ => pts_nil) (fun _ _ _ _ _ => (TwT.pe_joinK (K := K) rfl pe_str (pe_slice (TwT.slL (K := K) rfl) (pv 1) (po_some (pe_ix (ixL (K := K) rfl) (pv 3) (pv 11) (fun _ _ => rfl))) (po_some (pe_ix (ixL (K := K) rfl) (pv 5) (pv 11) (fun _ _ => rfl))))))))
  pss_nil)
  (pss_cons (ps_set (i := 6) sc_law.nd rfl (.inl rfl) (pe_callTy call_list_of (by rfl) T.m_list (by decide +kernel) (pa_cons (pv 1) pa_nil)))
  (pss_cons (ps_set (i := 7) sc_law.nd rfl (.inl rfl) (pe_callTy call_list_of (by rfl) T.m_list (by decide +kernel) (pa_cons (pv 3) pa_nil)))
  (pss_cons (ps_set (i := 8) sc_law.nd rfl (.inl rfl) pe_non)
  (pss_cons (ps_set (i := 9) sc_law.nd rfl (.inl rfl) pe_bl)
  (Evl.pss_cut (L2N.ps_try_as (i := 10) (Wout := fun _ _ _ _ => False) rfl rfl sc_law.nd rfl rfl ⟨rfl, by decide, .inl T.gc_WrapError⟩ takesN0 (fun W pn xe tk pw => (pss_one (ps_set (i := 8) sc_law.nd rfl (.inl rfl) (pe_callS (ok_lines_of T B) (hr.mono (by decide)) rfl T.g_lines_of T.F_lines_of.kp T.b_lines_of (fun σ => L2N.passAt tk σ) (pa_cons (pv 6) (pa_cons (pv 7) pa_nil)))))) (fun a oe cls d pn hz hf => (pss_one (ps_set (i := 9) sc_law.nd rfl (.inl rfl) (pe_cmpR op_eq (pe_callP (a := a) (oe := oe) (ok_l_kind T) (roomH_suite (k := 1) (hr.mono (by decide))) (hot_suite hz hf) (List.mem_cons_self ..) hz.zc rfl T.g_l_kind T.F_l_kind.kp T.b_l_kind (pa_cons (pv 10) pa_nil)) pe_int (nomark _))))))
  (pss_cons (ps_if (PW.pt (pw_or (pt_cmpR (op_neD hr.units) (pv 6) (pv 1) (nomark _)) (pw_or1 (pt_cmpR (op_neD hr.units) (pv 7) (pv 3) (nomark _)))))
  (pss_one (ps_ret pe_bl))
  pss_nil)
  (pss_cons (ps_if (pt_not (pt_val (pe_call (ok_l_good T) (hr.mono (by decide)) rfl T.g_l_good T.F_l_good.kp T.b_l_good .nil pass0 (pa_cons (pv 3) (pa_cons (pe_callB call_len_seq (by rfl) T.m_len PySem.boot_len (pa_cons (pv 1) pa_nil)) pa_nil)))))
  (pss_one (ps_ret (pv 9)))
  pss_nil)
  (pss_one (ps_ret (pe_and (pe_not (pv 9)) (pe_one (pe_call (ok_l_texts T) (hr.mono (by decide)) rfl T.g_l_texts T.F_l_texts.kp T.b_l_texts .nil pass0 (pa_cons (pv 8) (pa_cons (pv 4) pa_nil))))))))))))))))))))), ?_⟩
    have cj : ∀ (j : Nat) {σ : L2.St} {H' : Hp}, Ex H H' → σ[0]? = some (some (.ref a)) → Ev (tCall (sp_cell_at K) [] E0 (tCons (tVar 0) (tCons (tC (.int (j : Int))) tNil))) σ H' (.int (ns.getD j 0)) := fun j σ H' e h => ev_call (ea_cons (ev_var h) (ea_cons ev_c ea_nil)) fun H3 e3 Q' q E' => ⟨a, ns, j, rfl, ex_l (e.trans e3) hS, q⟩
    obtain ⟨ms, hms, hml⟩ := cut_some ns (some 2) none
    obtain ⟨ws, hws⟩ : ∃ ws, wordsOf ms (ns.getD 0 0) = ws := ⟨_, rfl⟩
    have hwd := words_wd ms (ns.getD 0 0)
    have hwl := words_len ms (ns.getD 0 0) (by omega)
    rw [hws] at hwd hwl
    have hz : ∀ z ∈ ws, z.length ≤ 300 := fun z h => (hwd z h).2.2
    have hlt : ∀ z ∈ ws, ∀ c ∈ TL.tl z, c < 1114112 := fun z h => (hwd z h).lt
    have nl : (ws.map V.str).length = ws.length := List.length_map ..
    refine q_asgL (xs := ws.map V.str) (el_callA (ap_consL (el_is (el_sl (ev_var rfl) (eo_some ev_c) eo_none hS) hms) (ap_cons (cj 0 (Ex.refl H) rfl) ap_nil) fun _ _ _ => trivial) ?_) fun row H2 row0 e2 h2 => ?_
    · rintro vs H5 e5 ⟨p1, r, rfl, h5, r2, rfl, rfl⟩ Q' q
      exact ⟨p1, ms, _, rfl, sq_of h5, by omega, by rw [hws]; exact q⟩
    refine q_asg (v := .int (ns.getD 1 0)) (cj 1 e2 rfl) fun H3 e3 => ?_
    generalize ns.getD 1 0 = m1
    have e13 := e2.trans e3
    refine q_asgA (ea_cons (ev_var rfl) (ea_cons (ev_cb (ea_cons (ev_var rfl) ea_nil) (rc_lenL (sq_of (e3 _ _ h2)))) ea_nil)) fun H4 e4 => ⟨_, _, rfl, by omega, by omega, fun zs0 hzs0 st0 H5 e5 hst0 => ?_⟩
    have e15 := (e13.trans e4).trans e5
    have r5 : H5 row = some (.lst (ws.map V.str)) := e5 _ _ (e4 _ _ (e3 _ _ h2))
    refine q_cut (M := fun σ' H' => ∃ (zs : List Int) (st : Addr), σ' = [some (.ref a), some (.ref row), some (.int m1), some (.ref st), none, none, none, none, none, none, none, none] ∧ Ex H H' ∧ H' row = some (.lst (ws.map V.str)) ∧ H' st = some (.lst (zs.map V.int)) ∧ zs.length ≤ 9000) ?_ ?_
    · refine s_when (b := decide (V.int (m1 % 2) = V.int 1)) (et_test (ev_op (ev_op (ev_var rfl) ev_c (rv_I (by decide))) ev_c (rv_eq rfl))) (fun _ H6 e6 => ?_) (fun _ H6 e6 => ⟨zs0, st0, rfl, e15.trans e6, e6 _ _ r5, e6 _ _ hst0, by omega⟩)
      refine s_asgA (ea_cons (ev_var rfl) (ea_cons (ev_op (ev_op (ev_var rfl) ev_c (rv_I ⟨by decide, by decide⟩)) ev_c (rv_I (by decide))) (ea_cons (ev_op (ev_var rfl) ev_c (rv_I ⟨by decide, by decide⟩)) (ea_cons (ev_cb (ea_cons (ev_var rfl) ea_nil) (rc_lenL (sq_of (e6 _ _ r5)))) ea_nil)))) fun H7 e7 => ⟨st0, zs0, _, _, _, rfl, e7 _ _ (e6 _ _ hst0), hzs0, fun zs hzs st H8 e8 hst => ?_⟩
      exact ⟨zs, st, rfl, ((e15.trans e6).trans e7).trans e8, e8 _ _ (e7 _ _ (e6 _ _ r5)), hst, hzs⟩
    rintro σ6 H6 ⟨zs, st, rfl, e6, r6, s6, hzl⟩
    have nlz : (zs.map V.int).length = zs.length := List.length_map ..
    refine q_asgL (xs := []) (el_lst ea_nil (Nat.zero_le _)) fun d0 H7 d00 e7 hd7 => ?_
    refine q_asgL (xs := (endsOf ws.length zs).map V.int) (el_is (el_catN (el_sl (ev_var rfl) (eo_some ev_c) eo_none (sq_of (e7 _ _ s6))) (el_lst (ea_cons (ev_cb (ea_cons (ev_var rfl) ea_nil) (rc_lenL (sq_of (e7 _ _ r6)))) ea_nil) (show 1 ≤ 100000 by decide)) ?_) ?_) fun en H8 en0 e8 h8 => ?_
    · rw [cut_tail, List.length_map, List.length_drop]
      show _ + 1 ≤ 100000
      omega
    · rw [cut_tail]
      unfold endsOf
      rw [List.map_append, nl]
      rfl
    have e78 := e7.trans e8
    have e68 := e6.trans e78
    have r8 := e78 _ _ r6
    have s8 := e78 _ _ s6
    refine q_cut (M := fun σ' H' => ∃ (ds : List Str) (du : Addr) (x : Option V), σ' = [some (.ref a), some (.ref row), some (.int m1), some (.ref st), some (.ref du), some (.ref en), none, none, none, none, none, x] ∧ Ex H8 H' ∧ H' du = some (.lst (ds.map V.str)) ∧ (goodB ws.length zs = true → ds = linesOf ws zs)) ?_ ?_
    · refine s_when (b := goodB ws.length zs) (et_B (ev_call (ea_cons (ev_var rfl) (ea_cons (ev_is (ev_cb (ea_cons (ev_var rfl) ea_nil) (rc_lenL (sq_of r8))) (by rw [nl])) ea_nil)) fun H9 e9 Q' q E' => ⟨st, zs, ws.length, rfl, sq_of (e9 _ _ s8), hzl, q⟩)) (fun hg H9 e9 => ?_) (fun hg H9 e9 => ⟨[], d0, none, rfl, e9, e9 _ _ (e8 _ _ hd7), fun q => by rw [hg] at q; cases q⟩)
      have gl := good_line hg
      refine s_asgL (el_is (el_lcR (n := ((zs.map V.int).length : Nat)) (fun i => V.str (lineOf ws (zs.getD i 0).toNat ((endsOf ws.length zs).getD i 0).toNat)) (ea_cons (ev_cb (ea_cons (ev_var rfl) ea_nil) (rc_lenL (sq_of (e9 _ _ s8)))) ea_nil) (by omega) (fun _ => rfl) fun i H10 e10 hi => ?_) ?_) fun du H10 _ e10 h10 => ⟨linesOf ws zs, du, _, rfl, e9.trans e10, h10, fun _ => rfl⟩
      · have hi2 : i < zs.length := by omega
        obtain ⟨g1, g2, g3⟩ := gl i hi2
        have c1 : (((zs.getD i 0).toNat : Nat) : Int) = zs.getD i 0 := Int.toNat_of_nonneg g1
        have c2 : ((((endsOf ws.length zs).getD i 0).toNat : Nat) : Int) = (endsOf ws.length zs).getD i 0 := Int.toNat_of_nonneg (by omega)
        have hle : i < (endsOf ws.length zs).length := by
          unfold endsOf
          rw [List.length_append, List.length_drop]
          show i < zs.length - 1 + 1
          omega
        have at_ : ∀ (l : List Int), i < l.length → (l.map V.int)[i]? = some (.int (l.getD i 0)) := fun l hi => by
          rw [List.getElem?_map, List.getElem?_eq_getElem hi, List.getD_eq_getElem?_getD, List.getElem?_eq_getElem hi]
          rfl
        have a1 := at_ zs hi2
        have a2 := at_ _ hle
        rw [← c1] at a1
        rw [← c2] at a2
        have e910 := e9.trans e10
        refine ev_joinL ev_blk (el_is (el_sl (ev_var rfl) (eo_some (ev_op (ev_var rfl) (ev_var rfl) (rv_ixL (sq_of (e910 _ _ s8)) (atI_nat a1)))) (eo_some (ev_op (ev_var rfl) (ev_var rfl) (rv_ixL (sq_of (e910 _ _ h8)) (atI_nat a2)))) (sq_of (e910 _ _ r8))) (cut_words (by omega) (by omega))) ?_
        have := line_fits hz (by omega : ws.length ≤ 2000) (zs.getD i 0).toNat ((endsOf ws.length zs).getD i 0).toNat
        omega
      · unfold linesOf
        rw [List.map_map]
        show (List.range ((zs.map V.int).length : Int).toNat).map _ = _
        rw [nlz]
        rfl
    rintro σ9 H9 ⟨ds, du, x9, rfl, e9, hd9, hds⟩
    have e69 := e78.trans e9
    have e09 := e68.trans e9
    refine q_asgL (xs := ws.map V.str) (el_listOf (ev_var rfl) (sq_of (e9 _ _ r8))) fun wd H10 _ e10 h10 => ?_
    refine q_asgL (xs := zs.map V.int) (el_listOf (ev_var rfl) (sq_of (e10 _ _ (e9 _ _ s8)))) fun hd H11 _ e11 h11 => ?_
    refine q_asg (v := .non) ev_c fun H12 e12 => ?_
    refine q_asg (v := .bl false) ev_c fun H13 e13' => ?_
    have e9d := (e10.trans e11).trans (e12.trans e13')
    have e0d := e09.trans e9d
    have hTd := TabG.ex hT e0d
    have w13 : H13 wd = some (.lst (ws.map V.str)) := e13' _ _ (e12 _ _ (e11 _ _ h10))
    have d13 : H13 hd = some (.lst (zs.map V.int)) := e13' _ _ (e12 _ _ h11)
    have r13 := e9d _ _ (e9 _ _ r8)
    have s13 := e9d _ _ (e9 _ _ s8)
    have u13 := e9d _ _ hd9
    refine q_cut (M := fun σ' H' => ∃ (fv : V) (rf : Bool) (x : Option V) (y : Option V), σ' = [some (.ref a), some (.ref row), some (.int m1), some (.ref st), some (.ref du), some (.ref en), some (.ref wd), some (.ref hd), some fv, some (.bl rf), x, y] ∧ ExT A.p_are_starts H13 H' ∧ (goodB ws.length zs = true → rf = false ∧ ∃ l, fv = .ref l ∧ H' l = some (.lst ((linesOf ws zs).map V.str))) ∧ (goodB ws.length zs = false → rf = true)) ?_ ?_
    · refine s_asgS (ea_cons (ev_var rfl) (ea_cons (ev_var rfl) ea_nil)) fun H14 e14 => ⟨wd, hd, ws, zs, rfl, sq_of (e14 _ _ w13), sq_of (e14 _ _ d13), by omega, hz, by omega, TabG.ex hTd e14, fun hg H15 e15 => ?_, fun hg l H15 e15 hl => ?_⟩
      · refine ⟨true, PySem.W.exm_ref T.bw T.hd_WrapError T.ty_WrapError T.sb_NoStarts_WrapError, fun _ a ha => ?_, fun q => nomatch q⟩
        refine s_asg (v := .bl (decide (V.int 13 = V.int 13))) (ev_op (ev_call (ea_cons (ev_var rfl) ea_nil) fun H16 e16 Q' q E' => ⟨A.c_NoStarts, 2, rfl, rfl, rfl, T.ex_NoStarts.e, by decide, kinds_NoStarts T, q⟩) ev_c (rv_eq rfl)) fun H16 e16 => ?_
        exact ⟨_, true, _, _, rfl, ((ExT.of_ex hTd e14).trans e15).trans (ExT.of_ex e15.1 e16), fun q => (by rw [hg] at q; cases q), fun _ => rfl⟩
      · exact ⟨.ref l, false, _, _, rfl, (ExT.of_ex hTd e14).trans e15, fun _ => ⟨rfl, l, rfl, hl⟩, fun q => (by rw [hg] at q; cases q)⟩
    rintro σ14 H14 ⟨fv, rf, x, y, rfl, e14, hgood, hbad⟩
    have w14 := lst_tab hTd e14 w13
    have d14 := lst_tab hTd e14 d13
    have r14 := lst_tab hTd e14 r13
    have s14 := lst_tab hTd e14 s13
    have u14 := lst_tab hTd e14 u13
    refine q_when (b := false) (et_is (et_or (et_test (ev_op (ev_var rfl) (ev_var rfl) (rv_neS (sq_of w14) (sq_of r14) hlt hlt))) fun _ => et_test (ev_op (ev_var rfl) (ev_var rfl) (rv_neI (sq_of d14) (sq_of s14)))) (by simp)) (fun hb => nomatch hb) (fun _ H15 e15 => ?_)
    refine q_when (b := !goodB ws.length zs) (et_not (et_B (ev_call (ea_cons (ev_var rfl) (ea_cons (ev_is (ev_cb (ea_cons (ev_var rfl) ea_nil) (rc_lenL (sq_of (e15 _ _ r14)))) (by rw [nl])) ea_nil)) fun H16 e16 Q' q E' => ⟨st, zs, ws.length, rfl, sq_of (e16 _ _ (e15 _ _ s14)), hzl, q⟩))) (fun hg H16 e16 => ?_) (fun hg H16 e16 => ?_)
    · have hg2 : goodB ws.length zs = false := by
        cases h : goodB ws.length zs with
        | false => rfl
        | true =>
          rw [h] at hg
          cases hg
      rw [hbad hg2]
      exact s_ret (v := .bl true) (ev_var rfl) fun H17 e17 => k H17
    · have hg2 : goodB ws.length zs = true := by
        cases h : goodB ws.length zs with
        | true => rfl
        | false =>
          rw [h] at hg
          cases hg
      obtain ⟨rfl, l, rfl, hl⟩ := hgood hg2
      rw [hds hg2] at u14
      have hll : (linesOf ws zs).length ≤ 60000 := by
        unfold linesOf
        rw [List.length_map, List.length_range]
        omega
      exact s_ret (v := .bl true) (ev_is (ev_andV (ev_notV (ev_var rfl)) fun _ => ev_call (ea_cons (ev_var rfl) (ea_cons (ev_var rfl) ea_nil)) fun H17 e17 Q' q E' => ⟨l, du, linesOf ws zs, rfl, sq_of (e17 _ _ (e16 _ _ (e15 _ _ hl))), sq_of (e17 _ _ (e16 _ _ (e15 _ _ u14))), hll, q⟩) rfl) fun H17 e17 => k H17
end
theorem all_mk {l : PySem.W.OpenLaw} {w : World} {K : PySem.W.Frag} {h : Heap} {mg : Str → Option Value} {fa : Addr} (X : K.In h) (G : h.Ns mainGlobals mg) (hfa : mg "law" = some (.ref fa))
    {q : Program} (TO : TwT.TabsOf q K h)
    {f0 : Addr} {od0 an0 : Option Addr} {sl0 : Array (Option Value)} {oc0 kV0 dc0 pm0 cd0 ct0 : Value}
    (a0 : PySem.W.nsIn K mainGlobals "line_of" = some (some (.ref f0))) (l0 : K.lookup f0 = some ⟨oc0, od0, .func (PySem.W.fnOf "line_of" "line_of" (defArgs s_line_of) (defBody s_line_of) (defScope s_line_of) .none kV0 dc0 pm0 an0 cd0 ct0), sl0⟩) (c0 : PySem.W.codeIn K cd0 "line_of" = true) (k0 : PySem.W.keepIn K (.ref f0) = true)
    {f1 : Addr} {od1 an1 : Option Addr} {sl1 : Array (Option Value)} {oc1 kV1 dc1 pm1 cd1 ct1 : Value}
    (a1 : PySem.W.nsIn K mainGlobals "lines_of" = some (some (.ref f1))) (l1 : K.lookup f1 = some ⟨oc1, od1, .func (PySem.W.fnOf "lines_of" "lines_of" (defArgs s_lines_of) (defBody s_lines_of) (defScope s_lines_of) .none kV1 dc1 pm1 an1 cd1 ct1), sl1⟩) (c1 : PySem.W.codeIn K cd1 "lines_of" = true) (k1 : PySem.W.keepIn K (.ref f1) = true)
    {f2 : Addr} {od2 an2 : Option Addr} {sl2 : Array (Option Value)} {oc2 kV2 dc2 pm2 cd2 ct2 : Value}
    (a2 : PySem.W.nsIn K mainGlobals "bounds_of" = some (some (.ref f2))) (l2 : K.lookup f2 = some ⟨oc2, od2, .func (PySem.W.fnOf "bounds_of" "bounds_of" (defArgs s_bounds_of) (defBody s_bounds_of) (defScope s_bounds_of) .none kV2 dc2 pm2 an2 cd2 ct2), sl2⟩) (c2 : PySem.W.codeIn K cd2 "bounds_of" = true) (k2 : PySem.W.keepIn K (.ref f2) = true)
    {f3 : Addr} {od3 an3 : Option Addr} {sl3 : Array (Option Value)} {oc3 kV3 dc3 pm3 cd3 ct3 : Value}
    (a3 : PySem.W.nsIn K mainGlobals "check_starts" = some (some (.ref f3))) (l3 : K.lookup f3 = some ⟨oc3, od3, .func (PySem.W.fnOf "check_starts" "check_starts" (defArgs s_check_starts) (defBody s_check_starts) (defScope s_check_starts) .none kV3 dc3 pm3 an3 cd3 ct3), sl3⟩) (c3 : PySem.W.codeIn K cd3 "check_starts" = true) (k3 : PySem.W.keepIn K (.ref f3) = true)
    {f4 : Addr} {od4 an4 : Option Addr} {sl4 : Array (Option Value)} {oc4 kV4 dc4 pm4 cd4 ct4 : Value}
    (a4 : PySem.W.nsIn K mainGlobals "are_starts" = some (some (.ref f4))) (l4 : K.lookup f4 = some ⟨oc4, od4, .func (PySem.W.fnOf "are_starts" "are_starts" (defArgs s_are_starts) (defBody s_are_starts) (defScope s_are_starts) .none kV4 dc4 pm4 an4 cd4 ct4), sl4⟩) (c4 : PySem.W.codeIn K cd4 "are_starts" = true) (k4 : PySem.W.keepIn K (.ref f4) = true)
    {f5 : Addr} {od5 an5 : Option Addr} {sl5 : Array (Option Value)} {oc5 kV5 dc5 pm5 cd5 ct5 : Value}
    (a5 : PySem.W.nsIn K mainGlobals "_law_cell_at" = some (some (.ref f5))) (l5 : K.lookup f5 = some ⟨oc5, od5, .func (PySem.W.fnOf "_law_cell_at" "_law_cell_at" (defArgs s_l_cell_at) (defBody s_l_cell_at) (defScope s_l_cell_at) .none kV5 dc5 pm5 an5 cd5 ct5), sl5⟩) (c5 : PySem.W.codeIn K cd5 "_law_cell_at" = true) (k5 : PySem.W.keepIn K (.ref f5) = true)
    {f6 : Addr} {od6 an6 : Option Addr} {sl6 : Array (Option Value)} {oc6 kV6 dc6 pm6 cd6 ct6 : Value}
    (a6 : PySem.W.nsIn K mainGlobals "_law_sign_by" = some (some (.ref f6))) (l6 : K.lookup f6 = some ⟨oc6, od6, .func (PySem.W.fnOf "_law_sign_by" "_law_sign_by" (defArgs s_l_sign_by) (defBody s_l_sign_by) (defScope s_l_sign_by) .none kV6 dc6 pm6 an6 cd6 ct6), sl6⟩) (c6 : PySem.W.codeIn K cd6 "_law_sign_by" = true) (k6 : PySem.W.keepIn K (.ref f6) = true)
    {f7 : Addr} {od7 an7 : Option Addr} {sl7 : Array (Option Value)} {oc7 kV7 dc7 pm7 cd7 ct7 : Value}
    (a7 : PySem.W.nsIn K mainGlobals "_law_word_by" = some (some (.ref f7))) (l7 : K.lookup f7 = some ⟨oc7, od7, .func (PySem.W.fnOf "_law_word_by" "_law_word_by" (defArgs s_l_word_by) (defBody s_l_word_by) (defScope s_l_word_by) .none kV7 dc7 pm7 an7 cd7 ct7), sl7⟩) (c7 : PySem.W.codeIn K cd7 "_law_word_by" = true) (k7 : PySem.W.keepIn K (.ref f7) = true)
    {f8 : Addr} {od8 an8 : Option Addr} {sl8 : Array (Option Value)} {oc8 kV8 dc8 pm8 cd8 ct8 : Value}
    (a8 : PySem.W.nsIn K mainGlobals "_law_alike_by" = some (some (.ref f8))) (l8 : K.lookup f8 = some ⟨oc8, od8, .func (PySem.W.fnOf "_law_alike_by" "_law_alike_by" (defArgs s_l_alike_by) (defBody s_l_alike_by) (defScope s_l_alike_by) .none kV8 dc8 pm8 an8 cd8 ct8), sl8⟩) (c8 : PySem.W.codeIn K cd8 "_law_alike_by" = true) (k8 : PySem.W.keepIn K (.ref f8) = true)
    {f9 : Addr} {od9 an9 : Option Addr} {sl9 : Array (Option Value)} {oc9 kV9 dc9 pm9 cd9 ct9 : Value}
    (a9 : PySem.W.nsIn K mainGlobals "_law_wide_by" = some (some (.ref f9))) (l9 : K.lookup f9 = some ⟨oc9, od9, .func (PySem.W.fnOf "_law_wide_by" "_law_wide_by" (defArgs s_l_wide_by) (defBody s_l_wide_by) (defScope s_l_wide_by) .none kV9 dc9 pm9 an9 cd9 ct9), sl9⟩) (c9 : PySem.W.codeIn K cd9 "_law_wide_by" = true) (k9 : PySem.W.keepIn K (.ref f9) = true)
    {f10 : Addr} {od10 an10 : Option Addr} {sl10 : Array (Option Value)} {oc10 kV10 dc10 pm10 cd10 ct10 : Value}
    (a10 : PySem.W.nsIn K mainGlobals "_law_words_by" = some (some (.ref f10))) (l10 : K.lookup f10 = some ⟨oc10, od10, .func (PySem.W.fnOf "_law_words_by" "_law_words_by" (defArgs s_l_words_by) (defBody s_l_words_by) (defScope s_l_words_by) .none kV10 dc10 pm10 an10 cd10 ct10), sl10⟩) (c10 : PySem.W.codeIn K cd10 "_law_words_by" = true) (k10 : PySem.W.keepIn K (.ref f10) = true)
    {f11 : Addr} {od11 an11 : Option Addr} {sl11 : Array (Option Value)} {oc11 kV11 dc11 pm11 cd11 ct11 : Value}
    (a11 : PySem.W.nsIn K mainGlobals "_law_texts" = some (some (.ref f11))) (l11 : K.lookup f11 = some ⟨oc11, od11, .func (PySem.W.fnOf "_law_texts" "_law_texts" (defArgs s_l_texts) (defBody s_l_texts) (defScope s_l_texts) .none kV11 dc11 pm11 an11 cd11 ct11), sl11⟩) (c11 : PySem.W.codeIn K cd11 "_law_texts" = true) (k11 : PySem.W.keepIn K (.ref f11) = true)
    {f12 : Addr} {od12 an12 : Option Addr} {sl12 : Array (Option Value)} {oc12 kV12 dc12 pm12 cd12 ct12 : Value}
    (a12 : PySem.W.nsIn K mainGlobals "_law_kind" = some (some (.ref f12))) (l12 : K.lookup f12 = some ⟨oc12, od12, .func (PySem.W.fnOf "_law_kind" "_law_kind" (defArgs s_l_kind) (defBody s_l_kind) (defScope s_l_kind) .none kV12 dc12 pm12 an12 cd12 ct12), sl12⟩) (c12 : PySem.W.codeIn K cd12 "_law_kind" = true) (k12 : PySem.W.keepIn K (.ref f12) = true)
    {f13 : Addr} {od13 an13 : Option Addr} {sl13 : Array (Option Value)} {oc13 kV13 dc13 pm13 cd13 ct13 : Value}
    (a13 : PySem.W.nsIn K mainGlobals "_law_starts_by" = some (some (.ref f13))) (l13 : K.lookup f13 = some ⟨oc13, od13, .func (PySem.W.fnOf "_law_starts_by" "_law_starts_by" (defArgs s_l_starts_by) (defBody s_l_starts_by) (defScope s_l_starts_by) .none kV13 dc13 pm13 an13 cd13 ct13), sl13⟩) (c13 : PySem.W.codeIn K cd13 "_law_starts_by" = true) (k13 : PySem.W.keepIn K (.ref f13) = true)
    {f14 : Addr} {od14 an14 : Option Addr} {sl14 : Array (Option Value)} {oc14 kV14 dc14 pm14 cd14 ct14 : Value}
    (a14 : PySem.W.nsIn K mainGlobals "_law_spoilt" = some (some (.ref f14))) (l14 : K.lookup f14 = some ⟨oc14, od14, .func (PySem.W.fnOf "_law_spoilt" "_law_spoilt" (defArgs s_l_spoilt) (defBody s_l_spoilt) (defScope s_l_spoilt) .none kV14 dc14 pm14 an14 cd14 ct14), sl14⟩) (c14 : PySem.W.codeIn K cd14 "_law_spoilt" = true) (k14 : PySem.W.keepIn K (.ref f14) = true)
    {f15 : Addr} {od15 an15 : Option Addr} {sl15 : Array (Option Value)} {oc15 kV15 dc15 pm15 cd15 ct15 : Value}
    (a15 : PySem.W.nsIn K mainGlobals "_law_good" = some (some (.ref f15))) (l15 : K.lookup f15 = some ⟨oc15, od15, .func (PySem.W.fnOf "_law_good" "_law_good" (defArgs s_l_good) (defBody s_l_good) (defScope s_l_good) .none kV15 dc15 pm15 an15 cd15 ct15), sl15⟩) (c15 : PySem.W.codeIn K cd15 "_law_good" = true) (k15 : PySem.W.keepIn K (.ref f15) = true)
    {f16 : Addr} {od16 an16 : Option Addr} {sl16 : Array (Option Value)} {oc16 kV16 dc16 pm16 cd16 ct16 : Value}
    (a16 : PySem.W.nsIn K mainGlobals "law" = some (some (.ref f16))) (l16 : K.lookup f16 = some ⟨oc16, od16, .func (PySem.W.fnOf "law" "law" (defArgs s_law) (defBody s_law) (defScope s_law) .none kV16 dc16 pm16 an16 cd16 ct16), sl16⟩) (c16 : PySem.W.codeIn K cd16 "law" = true) (k16 : PySem.W.keepIn K (.ref f16) = true)
    {kc0 kp0 : Addr} {rd0 : DefRec} {qa0 : Value} {qb0 : Option Addr} {qv0 : Array Value} {qs0 : Array (Option Value)} (v0 : (recsOf q).find? (fun e => e.name == ("are_starts" : Str)) = some rd0) (h0 : cd4 = .ref kc0) (q0 : K.lookup kc0 = some ⟨qa0, qb0, .fields qv0, qs0⟩) (w0 : qv0[11]? = some (.ref kp0)) (u0 : K.lookup kp0 = none)
    (z0 : PySem.W.nsIn K mainGlobals "ValueError" = some none)
    (z1 : PySem.W.nsIn K mainGlobals "all" = some none)
    (z2 : PySem.W.nsIn K mainGlobals "int" = some none)
    (z3 : PySem.W.nsIn K mainGlobals "isinstance" = some none)
    (z4 : PySem.W.nsIn K mainGlobals "len" = some none)
    (z5 : PySem.W.nsIn K mainGlobals "list" = some none)
    (z6 : PySem.W.nsIn K mainGlobals "range" = some none)
    (z7 : PySem.W.nsIn K mainGlobals "str" = some none)
    (z8 : PySem.W.nsIn K mainGlobals "sum" = some none)
    (z9 : PySem.W.nsIn K mainGlobals "zip" = some none)
    {C0 : Addr} (y0 : PySem.W.nsIn K mainGlobals "WrapError" = some (some (.ref C0)))
    {C1 : Addr} (y1 : PySem.W.nsIn K mainGlobals "NoWidth" = some (some (.ref C1)))
    {C2 : Addr} (y2 : PySem.W.nsIn K mainGlobals "LongWord" = some (some (.ref C2)))
    {C3 : Addr} (y3 : PySem.W.nsIn K mainGlobals "NoStarts" = some (some (.ref C3)))
    {C4 : Addr} (y4 : PySem.W.nsIn K mainGlobals "TooWide" = some (some (.ref C4)))
    {C5 : Addr} (y5 : PySem.W.nsIn K mainGlobals "TooFew" = some (some (.ref C5)))
    {C6 : Addr} (y6 : PySem.W.nsIn K mainGlobals "TooMany" = some (some (.ref C6)))
    {C7 : Addr} (y7 : PySem.W.nsIn K mainGlobals "NoPlace" = some (some (.ref C7)))
    {C8 : Addr} (y8 : PySem.W.nsIn K mainGlobals "NoWord" = some (some (.ref C8)))
    {C9 : Addr} (y9 : PySem.W.nsIn K mainGlobals "Full" = some (some (.ref C9)))
    {C10 : Addr} (y10 : PySem.W.nsIn K mainGlobals "NoWayBack" = some (some (.ref C10)))
    (hd_WrapError : PySem.W.hasDictIn K C0 = true)
    (ty_WrapError : PySem.W.typeIn K (.ref C0) = some (.type "type"))
    (hd_NoWidth : PySem.W.hasDictIn K C1 = true)
    (ty_NoWidth : PySem.W.typeIn K (.ref C1) = some (.type "type"))
    (hd_LongWord : PySem.W.hasDictIn K C2 = true)
    (ty_LongWord : PySem.W.typeIn K (.ref C2) = some (.type "type"))
    (hd_NoStarts : PySem.W.hasDictIn K C3 = true)
    (ty_NoStarts : PySem.W.typeIn K (.ref C3) = some (.type "type"))
    (hd_TooWide : PySem.W.hasDictIn K C4 = true)
    (ty_TooWide : PySem.W.typeIn K (.ref C4) = some (.type "type"))
    (hd_TooFew : PySem.W.hasDictIn K C5 = true)
    (ty_TooFew : PySem.W.typeIn K (.ref C5) = some (.type "type"))
    (hd_TooMany : PySem.W.hasDictIn K C6 = true)
    (ty_TooMany : PySem.W.typeIn K (.ref C6) = some (.type "type"))
    (hd_NoPlace : PySem.W.hasDictIn K C7 = true)
    (ty_NoPlace : PySem.W.typeIn K (.ref C7) = some (.type "type"))
    (hd_NoWord : PySem.W.hasDictIn K C8 = true)
    (ty_NoWord : PySem.W.typeIn K (.ref C8) = some (.type "type"))
    (hd_Full : PySem.W.hasDictIn K C9 = true)
    (ty_Full : PySem.W.typeIn K (.ref C9) = some (.type "type"))
    (hd_NoWayBack : PySem.W.hasDictIn K C10 = true)
    (ty_NoWayBack : PySem.W.typeIn K (.ref C10) = some (.type "type"))
    (bw : PySem.W.subIn K (.ref C0) (.type "BaseException") = some true)
    (x1_NoStarts : PySem.W.excIn K C3 [.type "ValueError", .type "Exception", .type "BaseException", .type "object"] "ValueError.__new__" = true)
    (x2_NoStarts : PySem.W.keepIn K (.ref C3) = true)
    (x3_NoStarts : PySem.W.findIn K (.ref C3) "__getattribute__" = some (some (.builtin "BaseException.__getattribute__")))
    (x4_NoStarts : PySem.W.findIn K (.ref C3) "__getattr__" = some none)
    (x5_NoStarts : PySem.W.subIn K (.ref C3) (.type "BaseException") = some true)
    (x6_NoStarts : PySem.W.findIn K (.ref C3) "__class__" = some (some (.builtin "object.__class__")))
    (x7_NoStarts : PySem.W.specialIn K (.builtin "object.__class__") "__get__" = some (some (.builtin "getset_descriptor.__get__")))
    (x8_NoStarts : PySem.W.takesIn K (.builtin "object.__class__") = some true)
    (x9_NoStarts : PySem.W.mroIn K C3 (.type "object") = some true)
    (sv_NoStarts : PySem.W.subIn K (.ref C3) (.type "ValueError") = some true)
    (sb_NoStarts_WrapError : PySem.W.subIn K (.ref C3) (.ref C0) = some true)
    (sb_NoStarts_NoWidth : PySem.W.subIn K (.ref C3) (.ref C1) = some false)
    (ne_NoStarts_NoWidth : C3 ≠ C1)
    (sb_NoStarts_LongWord : PySem.W.subIn K (.ref C3) (.ref C2) = some false)
    (ne_NoStarts_LongWord : C3 ≠ C2)
    (sb_NoStarts_NoStarts : PySem.W.subIn K (.ref C3) (.ref C3) = some true)
    (sb_NoStarts_TooWide : PySem.W.subIn K (.ref C3) (.ref C4) = some false)
    (ne_NoStarts_TooWide : C3 ≠ C4)
    (sb_NoStarts_TooFew : PySem.W.subIn K (.ref C3) (.ref C5) = some false)
    (ne_NoStarts_TooFew : C3 ≠ C5)
    (sb_NoStarts_TooMany : PySem.W.subIn K (.ref C3) (.ref C6) = some false)
    (ne_NoStarts_TooMany : C3 ≠ C6)
    (sb_NoStarts_NoPlace : PySem.W.subIn K (.ref C3) (.ref C7) = some false)
    (ne_NoStarts_NoPlace : C3 ≠ C7)
    (sb_NoStarts_NoWord : PySem.W.subIn K (.ref C3) (.ref C8) = some false)
    (ne_NoStarts_NoWord : C3 ≠ C8)
    (sb_NoStarts_Full : PySem.W.subIn K (.ref C3) (.ref C9) = some false)
    (ne_NoStarts_Full : C3 ≠ C9)
    (sb_NoStarts_NoWayBack : PySem.W.subIn K (.ref C3) (.ref C10) = some false)
    (ne_NoStarts_NoWayBack : C3 ≠ C10)
    : LamX.LawAtS l w K CX0 6 63 "_law_script" mg fa h := by
  have e := hfa.symm.trans (PySem.W.mg_of X G a16)
  cases e
  have F0 := fun_mk (st := s_line_of) l0 c0 k0
  have b0 := F0.binds (ps := ["words", "begin", "end"]) fun _ _ _ _ _ _ us hl => match us, hl with | [_, _, _], _ => rfl
  have F1 := fun_mk (st := s_lines_of) l1 c1 k1
  have b1 := F1.binds (ps := ["words", "starts"]) fun _ _ _ _ _ _ us hl => match us, hl with | [_, _], _ => rfl
  have F2 := fun_mk (st := s_bounds_of) l2 c2 k2
  have b2 := F2.binds (ps := ["words", "starts"]) fun _ _ _ _ _ _ us hl => match us, hl with | [_, _], _ => rfl
  have F3 := fun_mk (st := s_check_starts) l3 c3 k3
  have b3 := F3.binds (ps := ["words", "starts"]) fun _ _ _ _ _ _ us hl => match us, hl with | [_, _], _ => rfl
  have F4 := fun_mk (st := s_are_starts) l4 c4 k4
  have b4 := F4.binds (ps := ["words", "starts"]) fun _ _ _ _ _ _ us hl => match us, hl with | [_, _], _ => rfl
  have F5 := fun_mk (st := s_l_cell_at) l5 c5 k5
  have b5 := F5.binds (ps := ["_law_script", "_law_k"]) fun _ _ _ _ _ _ us hl => match us, hl with | [_, _], _ => rfl
  have F6 := fun_mk (st := s_l_sign_by) l6 c6 k6
  have b6 := F6.binds (ps := ["_law_cell"]) fun _ _ _ _ _ _ us hl => match us, hl with | [_], _ => rfl
  have F7 := fun_mk (st := s_l_word_by) l7 c7 k7
  have b7 := F7.binds (ps := ["_law_cell"]) fun _ _ _ _ _ _ us hl => match us, hl with | [_], _ => rfl
  have F8 := fun_mk (st := s_l_alike_by) l8 c8 k8
  have b8 := F8.binds (ps := ["_law_cell", "_law_size"]) fun _ _ _ _ _ _ us hl => match us, hl with | [_, _], _ => rfl
  have F9 := fun_mk (st := s_l_wide_by) l9 c9 k9
  have b9 := F9.binds (ps := ["_law_more", "_law_k"]) fun _ _ _ _ _ _ us hl => match us, hl with | [_, _], _ => rfl
  have F10 := fun_mk (st := s_l_words_by) l10 c10 k10
  have b10 := F10.binds (ps := ["_law_cells", "_law_more"]) fun _ _ _ _ _ _ us hl => match us, hl with | [_, _], _ => rfl
  have F11 := fun_mk (st := s_l_texts) l11 c11 k11
  have b11 := F11.binds (ps := ["_law_found", "_law_due"]) fun _ _ _ _ _ _ us hl => match us, hl with | [_, _], _ => rfl
  have F12 := fun_mk (st := s_l_kind) l12 c12 k12
  have b12 := F12.binds (ps := ["_law_e"]) fun _ _ _ _ _ _ us hl => match us, hl with | [_], _ => rfl
  have F13 := fun_mk (st := s_l_starts_by) l13 c13 k13
  have b13 := F13.binds (ps := ["_law_cell", "_law_count"]) fun _ _ _ _ _ _ us hl => match us, hl with | [_, _], _ => rfl
  have F14 := fun_mk (st := s_l_spoilt) l14 c14 k14
  have b14 := F14.binds (ps := ["_law_starts", "_law_way", "_law_cell", "_law_count"]) fun _ _ _ _ _ _ us hl => match us, hl with | [_, _, _, _], _ => rfl
  have F15 := fun_mk (st := s_l_good) l15 c15 k15
  have b15 := F15.binds (ps := ["_law_starts", "_law_count"]) fun _ _ _ _ _ _ us hl => match us, hl with | [_, _], _ => rfl
  have F16 := fun_mk (st := s_law) l16 c16 k16
  have b16 := F16.binds (ps := ["_law_script"]) fun _ _ _ _ _ _ us hl => match us, hl with | [_], _ => rfl
  have T : Txt K mg { f_line_of := f0, d_line_of := _, f_lines_of := f1, d_lines_of := _, f_bounds_of := f2, d_bounds_of := _, f_check_starts := f3, d_check_starts := _, f_are_starts := f4, d_are_starts := _, f_l_cell_at := f5, d_l_cell_at := _, f_l_sign_by := f6, d_l_sign_by := _, f_l_word_by := f7, d_l_word_by := _, f_l_alike_by := f8, d_l_alike_by := _, f_l_wide_by := f9, d_l_wide_by := _, f_l_words_by := f10, d_l_words_by := _, f_l_texts := f11, d_l_texts := _, f_l_kind := f12, d_l_kind := _, f_l_starts_by := f13, d_l_starts_by := _, f_l_spoilt := f14, d_l_spoilt := _, f_l_good := f15, d_l_good := _, f_law := fa, d_law := _, c_WrapError := C0, c_NoWidth := C1, c_LongWord := C2, c_NoStarts := C3, c_TooWide := C4, c_TooFew := C5, c_TooMany := C6, c_NoPlace := C7, c_NoWord := C8, c_Full := C9, c_NoWayBack := C10, k_are_starts := kc0, p_are_starts := kp0 } := {
    F_line_of := F0, g_line_of := PySem.W.mg_of X G a0, b_line_of := b0,
    F_lines_of := F1, g_lines_of := PySem.W.mg_of X G a1, b_lines_of := b1,
    F_bounds_of := F2, g_bounds_of := PySem.W.mg_of X G a2, b_bounds_of := b2,
    F_check_starts := F3, g_check_starts := PySem.W.mg_of X G a3, b_check_starts := b3,
    F_are_starts := F4, g_are_starts := PySem.W.mg_of X G a4, b_are_starts := b4,
    F_l_cell_at := F5, g_l_cell_at := PySem.W.mg_of X G a5, b_l_cell_at := b5,
    F_l_sign_by := F6, g_l_sign_by := PySem.W.mg_of X G a6, b_l_sign_by := b6,
    F_l_word_by := F7, g_l_word_by := PySem.W.mg_of X G a7, b_l_word_by := b7,
    F_l_alike_by := F8, g_l_alike_by := PySem.W.mg_of X G a8, b_l_alike_by := b8,
    F_l_wide_by := F9, g_l_wide_by := PySem.W.mg_of X G a9, b_l_wide_by := b9,
    F_l_words_by := F10, g_l_words_by := PySem.W.mg_of X G a10, b_l_words_by := b10,
    F_l_texts := F11, g_l_texts := PySem.W.mg_of X G a11, b_l_texts := b11,
    F_l_kind := F12, g_l_kind := PySem.W.mg_of X G a12, b_l_kind := b12,
    F_l_starts_by := F13, g_l_starts_by := PySem.W.mg_of X G a13, b_l_starts_by := b13,
    F_l_spoilt := F14, g_l_spoilt := PySem.W.mg_of X G a14, b_l_spoilt := b14,
    F_l_good := F15, g_l_good := PySem.W.mg_of X G a15, b_l_good := b15,
    F_law := F16, g_law := PySem.W.mg_of X G a16, b_law := b16,
    hc_are_starts := h0,
    m_ValueError := PySem.W.mg_none_of X G z0,
    m_all := PySem.W.mg_none_of X G z1,
    m_int := PySem.W.mg_none_of X G z2,
    m_isinstance := PySem.W.mg_none_of X G z3,
    m_len := PySem.W.mg_none_of X G z4,
    m_list := PySem.W.mg_none_of X G z5,
    m_range := PySem.W.mg_none_of X G z6,
    m_str := PySem.W.mg_none_of X G z7,
    m_sum := PySem.W.mg_none_of X G z8,
    m_zip := PySem.W.mg_none_of X G z9,
    gc_WrapError := PySem.W.mg_of X G y0,
    gc_NoWidth := PySem.W.mg_of X G y1,
    gc_LongWord := PySem.W.mg_of X G y2,
    gc_NoStarts := PySem.W.mg_of X G y3,
    gc_TooWide := PySem.W.mg_of X G y4,
    gc_TooFew := PySem.W.mg_of X G y5,
    gc_TooMany := PySem.W.mg_of X G y6,
    gc_NoPlace := PySem.W.mg_of X G y7,
    gc_NoWord := PySem.W.mg_of X G y8,
    gc_Full := PySem.W.mg_of X G y9,
    gc_NoWayBack := PySem.W.mg_of X G y10,
    hd_WrapError := hd_WrapError, ty_WrapError := ty_WrapError,
    hd_NoWidth := hd_NoWidth, ty_NoWidth := ty_NoWidth,
    hd_LongWord := hd_LongWord, ty_LongWord := ty_LongWord,
    hd_NoStarts := hd_NoStarts, ty_NoStarts := ty_NoStarts,
    hd_TooWide := hd_TooWide, ty_TooWide := ty_TooWide,
    hd_TooFew := hd_TooFew, ty_TooFew := ty_TooFew,
    hd_TooMany := hd_TooMany, ty_TooMany := ty_TooMany,
    hd_NoPlace := hd_NoPlace, ty_NoPlace := ty_NoPlace,
    hd_NoWord := hd_NoWord, ty_NoWord := ty_NoWord,
    hd_Full := hd_Full, ty_Full := ty_Full,
    hd_NoWayBack := hd_NoWayBack, ty_NoWayBack := ty_NoWayBack,
    bw := bw,
    ex_NoStarts := ⟨x1_NoStarts, x2_NoStarts, ty_NoStarts, ⟨x3_NoStarts, x4_NoStarts, x5_NoStarts, hd_NoStarts, x6_NoStarts, x7_NoStarts, x8_NoStarts, x9_NoStarts⟩⟩, sv_NoStarts := sv_NoStarts,
    sb_NoStarts_WrapError := sb_NoStarts_WrapError,
    sb_NoStarts_NoWidth := sb_NoStarts_NoWidth,
    ne_NoStarts_NoWidth := ne_NoStarts_NoWidth,
    sb_NoStarts_LongWord := sb_NoStarts_LongWord,
    ne_NoStarts_LongWord := ne_NoStarts_LongWord,
    sb_NoStarts_NoStarts := sb_NoStarts_NoStarts,
    sb_NoStarts_TooWide := sb_NoStarts_TooWide,
    ne_NoStarts_TooWide := ne_NoStarts_TooWide,
    sb_NoStarts_TooFew := sb_NoStarts_TooFew,
    ne_NoStarts_TooFew := ne_NoStarts_TooFew,
    sb_NoStarts_TooMany := sb_NoStarts_TooMany,
    ne_NoStarts_TooMany := ne_NoStarts_TooMany,
    sb_NoStarts_NoPlace := sb_NoStarts_NoPlace,
    ne_NoStarts_NoPlace := ne_NoStarts_NoPlace,
    sb_NoStarts_NoWord := sb_NoStarts_NoWord,
    ne_NoStarts_NoWord := ne_NoStarts_NoWord,
    sb_NoStarts_Full := sb_NoStarts_Full,
    ne_NoStarts_Full := ne_NoStarts_Full,
    sb_NoStarts_NoWayBack := sb_NoStarts_NoWayBack,
    ne_NoStarts_NoWayBack := ne_NoStarts_NoWayBack }
  have t0 := TwT.tab_in a4 l4 h0 q0 w0
  refine ⟨_, [(kc0, kp0)], sp_law K _, ?_, ?_, ?_, fun s v => .of_eq rfl, ?_, fun base _ _ hTB => ok_law T ⟨⟨(hTB (kc0, kp0) (by simp)).code, (hTB (kc0, kp0) (by simp)).bm, (hTB (kc0, kp0) (by simp)).gP⟩⟩⟩
  · exact fun p hp => by
      simp only [List.mem_cons, List.not_mem_nil, or_false] at hp
      rcases hp with rfl
      · exact (TO _ _ _ _ v0 t0).2
  · exact fun p hp => by
      simp only [List.mem_cons, List.not_mem_nil, or_false] at hp
      rcases hp with rfl
      · exact u0
  · exact fun p hp => by
      simp only [List.mem_cons, List.not_mem_nil, or_false] at hp
      rcases hp with rfl
      · exact (TO _ _ _ _ v0 t0).1
  · exact fun H a ns hl _ hH hS => ⟨a, ns, rfl, hS, hl, TwT.triples_nil (hH (kc0, kp0) (by simp)), fun _ => rfl⟩
end Pf
open PySem PySem.W PyProof.Rows
set_option maxHeartbeats 0 in
theorem PySem.Challenge.cw_textwrapper_k04_lines_laid_holds : PySem.Challenge.rw_textwrapper_k04_lines_laid.Holds := by
  w_on; o_law; k_head; (case hw => w_witness2)
  k_fill
  refine TwT.walk_ofG (l := PySem.Challenge.rw_textwrapper_k04_lines_laid) (n := 63) (k := 6) (x := "_law_script") (CX := fun _ => L2.CX0) rfl (by decide) rfl ⟨rfl, by decide, by decide⟩ (fun w h Y => PySem.W.kIn_of Y) ?F (fun _ _ _ _ _ h => h)
  case F =>
    intro w mg fa h KX G hmg TO
    refine' Pf.all_mk KX G hmg TO ?a0 ?l0 ?c0 ?k0 ?a1 ?l1 ?c1 ?k1 ?a2 ?l2 ?c2 ?k2 ?a3 ?l3 ?c3 ?k3 ?a4 ?l4 ?c4 ?k4 ?a5 ?l5 ?c5 ?k5 ?a6 ?l6 ?c6 ?k6 ?a7 ?l7 ?c7 ?k7 ?a8 ?l8 ?c8 ?k8 ?a9 ?l9 ?c9 ?k9 ?a10 ?l10 ?c10 ?k10 ?a11 ?l11 ?c11 ?k11 ?a12 ?l12 ?c12 ?k12 ?a13 ?l13 ?c13 ?k13 ?a14 ?l14 ?c14 ?k14 ?a15 ?l15 ?c15 ?k15 ?a16 ?l16 ?c16 ?k16 ?v0 ?h0 ?q0 ?w0 ?u0 ?z0 ?z1 ?z2 ?z3 ?z4 ?z5 ?z6 ?z7 ?z8 ?z9 ?y0 ?y1 ?y2 ?y3 ?y4 ?y5 ?y6 ?y7 ?y8 ?y9 ?y10 ?hd_WrapError ?ty_WrapError ?hd_NoWidth ?ty_NoWidth ?hd_LongWord ?ty_LongWord ?hd_NoStarts ?ty_NoStarts ?hd_TooWide ?ty_TooWide ?hd_TooFew ?ty_TooFew ?hd_TooMany ?ty_TooMany ?hd_NoPlace ?ty_NoPlace ?hd_NoWord ?ty_NoWord ?hd_Full ?ty_Full ?hd_NoWayBack ?ty_NoWayBack ?bw ?x1_NoStarts ?x2_NoStarts ?x3_NoStarts ?x4_NoStarts ?x5_NoStarts ?x6_NoStarts ?x7_NoStarts ?x8_NoStarts ?x9_NoStarts ?sv_NoStarts ?sb_NoStarts_WrapError ?sb_NoStarts_NoWidth ?ne_NoStarts_NoWidth ?sb_NoStarts_LongWord ?ne_NoStarts_LongWord ?sb_NoStarts_NoStarts ?sb_NoStarts_TooWide ?ne_NoStarts_TooWide ?sb_NoStarts_TooFew ?ne_NoStarts_TooFew ?sb_NoStarts_TooMany ?ne_NoStarts_TooMany ?sb_NoStarts_NoPlace ?ne_NoStarts_NoPlace ?sb_NoStarts_NoWord ?ne_NoStarts_NoWord ?sb_NoStarts_Full ?ne_NoStarts_Full ?sb_NoStarts_NoWayBack ?ne_NoStarts_NoWayBack
    (case a0 => k_is); (case l0 => k_is); (case c0 => k_is); (case k0 => k_is); (case a1 => k_is); (case l1 => k_is); (case c1 => k_is); (case k1 => k_is)
    (case a2 => k_is); (case l2 => k_is); (case c2 => k_is); (case k2 => k_is); (case a3 => k_is); (case l3 => k_is); (case c3 => k_is); (case k3 => k_is)
    (case a4 => k_is); (case l4 => k_is); (case c4 => k_is); (case k4 => k_is); (case a5 => k_is); (case l5 => k_is); (case c5 => k_is); (case k5 => k_is)
    (case a6 => k_is); (case l6 => k_is); (case c6 => k_is); (case k6 => k_is); (case a7 => k_is); (case l7 => k_is); (case c7 => k_is); (case k7 => k_is)
    (case a8 => k_is); (case l8 => k_is); (case c8 => k_is); (case k8 => k_is); (case a9 => k_is); (case l9 => k_is); (case c9 => k_is); (case k9 => k_is)
    (case a10 => k_is); (case l10 => k_is); (case c10 => k_is); (case k10 => k_is); (case a11 => k_is); (case l11 => k_is); (case c11 => k_is); (case k11 => k_is)
    (case a12 => k_is); (case l12 => k_is); (case c12 => k_is); (case k12 => k_is); (case a13 => k_is); (case l13 => k_is); (case c13 => k_is); (case k13 => k_is)
    (case a14 => k_is); (case l14 => k_is); (case c14 => k_is); (case k14 => k_is); (case a15 => k_is); (case l15 => k_is); (case c15 => k_is); (case k15 => k_is)
    (case a16 => k_is); (case l16 => k_is); (case c16 => k_is); (case k16 => k_is); (case v0 => first | rfl | kernel_rfl); (case h0 => rfl); (case q0 => k_is); (case w0 => first | rfl | kernel_rfl)
    (case u0 => first | kernel_rfl | rfl); (case z0 => k_is); (case z1 => k_is); (case z2 => k_is); (case z3 => k_is); (case z4 => k_is); (case z5 => k_is); (case z6 => k_is)
    (case z7 => k_is); (case z8 => k_is); (case z9 => k_is); (case y0 => k_is); (case y1 => k_is); (case y2 => k_is); (case y3 => k_is); (case y4 => k_is)
    (case y5 => k_is); (case y6 => k_is); (case y7 => k_is); (case y8 => k_is); (case y9 => k_is); (case y10 => k_is); (case hd_WrapError => k_is); (case ty_WrapError => k_is)
    (case hd_NoWidth => k_is); (case ty_NoWidth => k_is); (case hd_LongWord => k_is); (case ty_LongWord => k_is); (case hd_NoStarts => k_is); (case ty_NoStarts => k_is); (case hd_TooWide => k_is); (case ty_TooWide => k_is)
    (case hd_TooFew => k_is); (case ty_TooFew => k_is); (case hd_TooMany => k_is); (case ty_TooMany => k_is); (case hd_NoPlace => k_is); (case ty_NoPlace => k_is); (case hd_NoWord => k_is); (case ty_NoWord => k_is)
    (case hd_Full => k_is); (case ty_Full => k_is); (case hd_NoWayBack => k_is); (case ty_NoWayBack => k_is); (case bw => k_is); (case x1_NoStarts => k_exc); (case x2_NoStarts => k_is); (case x3_NoStarts => k_is)
    (case x4_NoStarts => k_is); (case x5_NoStarts => k_is); (case x6_NoStarts => k_is); (case x7_NoStarts => k_is); (case x8_NoStarts => k_is); (case x9_NoStarts => k_is); (case sv_NoStarts => k_is); (case sb_NoStarts_WrapError => k_is)
    (case sb_NoStarts_NoWidth => k_is); (case ne_NoStarts_NoWidth => decide); (case sb_NoStarts_LongWord => k_is); (case ne_NoStarts_LongWord => decide); (case sb_NoStarts_NoStarts => k_is); (case sb_NoStarts_TooWide => k_is); (case ne_NoStarts_TooWide => decide); (case sb_NoStarts_TooFew => k_is)
    (case ne_NoStarts_TooFew => decide); (case sb_NoStarts_TooMany => k_is); (case ne_NoStarts_TooMany => decide); (case sb_NoStarts_NoPlace => k_is); (case ne_NoStarts_NoPlace => decide); (case sb_NoStarts_NoWord => k_is); (case ne_NoStarts_NoWord => decide); (case sb_NoStarts_Full => k_is)
    (case ne_NoStarts_Full => decide); (case sb_NoStarts_NoWayBack => k_is); (case ne_NoStarts_NoWayBack => decide)
