
import PyProof.Rows.All
import Wide.All
import OpenK.AllK
import Wide.FinOn
import HandS.ForMost
import HandS.Evl
import HandS.Steps
import HandS.IsInst
import HandS.Style
import HandS.Walk
import HandS.Flow
import HandS.HotCalls
import HandS.ExcIs
import KE.GoesEnumKw
import HandS.RevRange
import HandS.Rev
import HandS.AnyAll
import HandS.EndTab
import HandS.Sort
import HandS.Zip
import HandS.Wide
import PyProof.SumAny
import PyProof.WalksMore
import PyProof.ZipIter
import PyProof.ListNew
import KE.KNest
import PySem.Challenge.RW_textwrapper_k14_whole_page_kept
set_option Elab.async false
set_option linter.all false
set_option maxRecDepth 100000
namespace Tw
open PySem PySem.Spec PyProof.Rows L2 Evl
/-! ### rules of our own -/
/-- text * int -/
def rMulS : R2 := fun x y H Q => ∃ (z : Str) (k : Int) (L N : Nat), x = .str z ∧ y = .int k ∧ (z.length ≤ L ∧ k ≤ (N : Int) ∧ -(2 ^ 63 : Int) ≤ k ∧ N ≤ 16777216 ∧ L * N ≤ 16777216) ∧ Q (.str (Txt.mul z k)) H
theorem op_mulS {X : Cx} : OpR X (binaryOp .Mult) rMulS := by
  intro pins s σ H x y v u Q I rx ry h
  obtain ⟨z, k, L, N, rfl, rfl, ⟨h1, h2, h3, h4, h5⟩, q⟩ := h
  obtain ⟨t, rfl⟩ := rx
  obtain ⟨t', rfl⟩ := ry
  exact PySem.SB.mul (mulOk_of L N h1 h2 h3 h4 h5) fun t' k' => ⟨.str (Txt.mul z k), H, I.tok _, ⟨_, rfl⟩, q⟩
/-! ### what evaluates to what -/
section
variable {K : PySem.W.Frag} {σ : L2.St} {H H' : Hp} {ta tb te tx : TE} {t u : TT} {x y z v : V} {r : R2}
theorem rv_addS {a b : Str} (h : a.length + b.length ≤ 100000) : RV (fun x y H Q => ∃ i j, x = .str i ∧ y = .str j ∧ i.length + j.length ≤ sizeLine ∧ Q (.str (i ++ j)) H) (.str a) (.str b) H (.str (a ++ b)) :=
  fun H1 _ _ q => ⟨a, b, rfl, rfl, sz_of h, q H1 (Ex.refl H1)⟩
theorem rv_mulS {a : Str} {k : Int} {L N : Nat} (h : a.length ≤ L) (hk : k ≤ (N : Int)) (h0 : 0 ≤ k) (hN : N ≤ 100000) (hL : L * N ≤ 100000) : RV rMulS (.str a) (.int k) H (.str (Txt.mul a k)) :=
  fun H1 _ _ q => ⟨a, k, L, N, rfl, rfl, ⟨h, hk, by omega, by omega, by omega⟩, q H1 (Ex.refl H1)⟩
def rLenStr : List V → Hp → VK → Prop := fun xs H Q => ∃ z, xs = [.str z] ∧ z.length ≤ sizeLine ∧ Q (.int z.length) H
theorem rc_lenS {a : Str} (h : a.length ≤ 16000000) : RC (fun xs H Q => ∃ z, xs = [.str z] ∧ z.length ≤ sizeLine ∧ Q (.int z.length) H) [.str a] H (.int a.length) := fun H1 _ _ q => ⟨a, rfl, Nat.le_trans h (by rw [sizeLine_eq]; decide), q H1 (Ex.refl H1)⟩
theorem rc_intB {b : Bool} : RC (fun xs H Q => (∃ i, xs = [.int i] ∧ Q (.int i) H) ∨ ∃ k, xs = [.bl k] ∧ Q (.int (if k then 1 else 0)) H) [.bl b] H (.int (if b = true then 1 else 0)) := fun H1 _ _ q => .inr ⟨b, rfl, q H1 (Ex.refl H1)⟩
theorem rc_lenL {p : Addr} {xs : List V} (h : SqL K H p xs) : RC (fun xs H Q => ∃ p ys, xs = [.ref p] ∧ (SqL K H p ys ∨ SqT K H p ys) ∧ Q (.int ys.length) H) [.ref p] H (.int xs.length) := fun H1 e _ q => ⟨p, xs, rfl, .inl (ex_l e h), q H1 (Ex.refl H1)⟩
theorem rc_isi {x c : V} {t u : Value} {b : Bool} (hc : ClsV c u) (ty : ∀ H1, Ex H H1 → TyX K H1 x t) (k : PySem.W.kitOne K t u = some b) : RC (rIsi K) [x, c] H (.bl b) := fun H1 e _ q => ⟨x, c, t, u, b, rfl, hc, ty H1 e, k, q H1 (Ex.refl H1)⟩
theorem rc_isStr {a : Str} : RC (rIsi K) [.str a, .ty "str"] H (.bl true) := rc_isi (.ty _) (fun _ _ => .base (.str a)) (kit_ty (by decide +kernel))
theorem tyx_list {p : Addr} {xs : List V} (h : SqL K H p xs) : TyX K H (.ref p) (.type "list") := by
  rcases h with (h | ⟨o, h⟩) | ⟨o, vs, n, hk, hc, _⟩
  · exact .base (.lst h)
  · exact .base (.frz h)
  · exact .kList hk hc
theorem rc_isList {p : Addr} {xs : List V} (h : SqL K H p xs) : RC (rIsi K) [.ref p, .ty "list"] H (.bl true) := rc_isi (.ty _) (fun _ e => tyx_list (ex_l e h)) (kit_ty (by decide +kernel))
theorem rv_isB {a b : Bool} : RV rIsB (.bl a) (.bl b) H (.bl (decide (a = b))) := fun H1 _ _ q => ⟨a, b, rfl, rfl, q H1 (Ex.refl H1)⟩
theorem rv_isN : RV rIsN x .non H (.bl (decide (x = .non))) := fun H1 _ _ q => ⟨rfl, q H1 (Ex.refl H1)⟩
theorem rv_notN : RV rNotN x .non H (.bl (!decide (x = .non))) := fun H1 _ _ q => ⟨rfl, q H1 (Ex.refl H1)⟩
theorem rv_add {i j : Int} : RV (rI0 fun i j => .int (i + j)) (.int i) (.int j) H (.int (i + j)) := rv_I0
/-- data equal, by values -/
theorem rv_eqD {d e : PyData} (hd : ∀ H1, Ex H H1 → Dp K H1 x d) (he : ∀ H1, Ex H H1 → Dp K H1 y e) (sd : SeqAt.shaped d = true) (se : SeqAt.shaped e = true) : RV (rEqD K) x y H (.bl (PyData.eqv d e)) :=
  fun H1 e1 _ q => ⟨d, e, hd H1 e1, he H1 e1, sd, se, q H1 (Ex.refl H1)⟩
theorem rv_neD {d e : PyData} (hd : ∀ H1, Ex H H1 → Dp K H1 x d) (he : ∀ H1, Ex H H1 → Dp K H1 y e) (sd : SeqAt.shaped d = true) (se : SeqAt.shaped e = true) : RV (rNeD K) x y H (.bl (!PyData.eqv d e)) :=
  fun H1 e1 _ q => ⟨d, e, hd H1 e1, he H1 e1, sd, se, q H1 (Ex.refl H1)⟩
theorem dpAll_strs : ∀ l : List Str, DpAll K H (l.map V.str) (l.map PyData.str)
  | [] => .nil
  | a :: r => .cons (.str a) (dpAll_strs r)
theorem dpAll_ints : ∀ l : List Int, DpAll K H (l.map V.int) (l.map PyData.int)
  | [] => .nil
  | a :: r => .cons (.int a) (dpAll_ints r)
theorem dp_strs {p : Addr} {l : List Str} (h : SqL K H p (l.map V.str)) : Dp K H (.ref p) (.list (l.map PyData.str)) := .lst h (dpAll_strs l)
theorem dp_ints {p : Addr} {l : List Int} (h : SqL K H p (l.map V.int)) : Dp K H (.ref p) (.list (l.map PyData.int)) := .lst h (dpAll_ints l)
/-- split() -/
theorem el_words {a : Str} (h : Ev te σ H (.str a)) (hl : a.length ≤ 90000) : EvL (tM0 (fun x xs H Q => ∃ a, x = .str a ∧ xs = [] ∧ a.length + 2 ≤ sizeLine ∧ rNewStrs (Txt.words a) H Q) te) σ H ((Txt.words a).map V.str) :=
  fun H1 e Q q => h H1 e _ fun H2 e2 => ⟨⟨a, rfl⟩, a, rfl, rfl, sz_of (by omega), fun p hp => q p _ (fresh_back e2 hp) (e2.trans (Ex.new hp)) upd_same⟩
/-- join -/
theorem ev_join {a : Str} {p : Addr} {ys : List Str} (h : Ev ta σ H (.str a)) (hb : Ev tb σ H (.ref p)) (hp : SqL K H p (ys.map V.str)) (hz : (ys.map (·.length)).sum + ys.length * a.length ≤ 16777216) :
    Ev (tM1 (fun x xs H Q => ∃ a p, ∃ ys : List Str, x = .str a ∧ xs = [.ref p] ∧ (SqL K H p (ys.map V.str) ∨ SqT K H p (ys.map V.str)) ∧ (ys.map (·.length)).sum + ys.length * a.length ≤ 16777216 ∧ Q (.str (Txt.join a ys)) H) ta tb) σ H (.str (Txt.join a ys)) :=
  fun H1 e Q q => h H1 e _ fun H2 e2 => ⟨⟨a, rfl⟩, hb H2 (e.trans e2) _ fun H3 e3 => ⟨a, p, ys, rfl, rfl, .inl (ex_l ((e.trans e2).trans e3) hp), hz, q H3 (e2.trans e3)⟩⟩
theorem ev_joinL {a : Str} {ys : List Str} (h : Ev ta σ H (.str a)) (hb : EvL tb σ H (ys.map V.str)) (hz : (ys.map (·.length)).sum + ys.length * a.length ≤ 16777216) :
    Ev (tM1 (fun x xs H Q => ∃ a p, ∃ ys : List Str, x = .str a ∧ xs = [.ref p] ∧ (SqL K H p (ys.map V.str) ∨ SqT K H p (ys.map V.str)) ∧ (ys.map (·.length)).sum + ys.length * a.length ≤ 16777216 ∧ Q (.str (Txt.join a ys)) H) ta tb) σ H (.str (Txt.join a ys)) :=
  fun H1 e Q q => h H1 e _ fun H2 e2 => ⟨⟨a, rfl⟩, hb H2 (e.trans e2) _ fun p H3 _ e3 hp => ⟨a, p, ys, rfl, rfl, .inl (sq_of hp), hz, q H3 (e2.trans e3)⟩⟩
/-- a slice of a new list -/
theorem el_slN {tl th : TO} {xs : List V} {lo hi : Option Int} (h : EvL te σ H xs) (h1 : EvO tl σ H lo) (h2 : EvO th σ H hi) : EvL (tSl (rSlL K) te tl th) σ H (cutV xs lo hi) := fun H1 e _ q =>
  h H1 e _ fun p H2 _ e2 hp => h1 H2 (e.trans e2) _ fun H3 e3 => h2 H3 ((e.trans e2).trans e3) _ fun H4 e4 =>
    ⟨p, xs, rfl, sq_of (e4 _ _ (e3 _ _ hp)), fun q' hq => q q' _ (fresh_back ((e2.trans e3).trans e4) hq) (((e2.trans e3).trans e4).trans (Ex.new hq)) upd_same⟩
/-- a call whose arguments are told by what they give: any promise -/
theorem ev_callA {sp : Sp} {dvs : List V} {E : XK} {ta : TA} {P : List V → Hp → Prop} (h : ∀ H1, Ex H H1 → ∀ Q : List V → Hp → Prop, (∀ vs H2, Ex H1 H2 → P vs H2 → Q vs H2) → ta σ H1 Q)
    (hs : ∀ vs H1, Ex H H1 → P vs H1 → ∀ Q : VK, (∀ H2, Ex H1 H2 → Q z H2) → sp (vs ++ dvs) H1 Q E) : Ev (tCall sp dvs E ta) σ H z := fun H1 e Q q =>
  h H1 e _ fun vs H2 e2 hP => hs vs H2 (e.trans e2) hP Q fun H3 e3 => q H3 (e2.trans e3)
theorem el_callA {sp : Sp} {dvs xs : List V} {E : XK} {ta : TA} {P : List V → Hp → Prop} (h : ∀ H1, Ex H H1 → ∀ Q : List V → Hp → Prop, (∀ vs H2, Ex H1 H2 → P vs H2 → Q vs H2) → ta σ H1 Q)
    (hs : ∀ vs H1, Ex H H1 → P vs H1 → ∀ Q : VK, (∀ p H2, H1 p = none → Ex H1 H2 → H2 p = some (.lst xs) → Q (.ref p) H2) → sp (vs ++ dvs) H1 Q E) : EvL (tCall sp dvs E ta) σ H xs := fun H1 e Q q =>
  h H1 e _ fun vs H2 e2 hP => hs vs H2 (e.trans e2) hP Q fun p H3 hp e3 h3 => q p H3 (fresh_back e2 hp) (e2.trans e3) h3
/-- argument lists told by what they give -/
def ArgP (ta : TA) (σ : L2.St) (H : Hp) (P : List V → Hp → Prop) : Prop := ∀ H1, Ex H H1 → ∀ Q : List V → Hp → Prop, (∀ vs H2, Ex H1 H2 → P vs H2 → Q vs H2) → ta σ H1 Q
theorem ap_nil : ArgP tNil σ H (fun vs _ => vs = []) := fun H1 _ Q q => q [] H1 (Ex.refl H1) rfl
theorem ap_cons {tr : TA} {P : List V → Hp → Prop} (h : Ev te σ H v) (hr : ArgP tr σ H P) : ArgP (tCons te tr) σ H (fun vs H' => ∃ r, vs = v :: r ∧ P r H') := fun H1 e Q q =>
  h H1 e _ fun H2 e2 => hr H2 (e.trans e2) _ fun vs H3 e3 hP => q _ H3 (e2.trans e3) ⟨vs, rfl, hP⟩
theorem ap_consL {tr : TA} {P : List V → Hp → Prop} {xs : List V} (h : EvL te σ H xs) (hr : ArgP tr σ H P) (hmono : ∀ (vs : List V) (H1 H2 : Hp), True) : ArgP (tCons te tr) σ H (fun vs H' => ∃ p r, vs = .ref p :: r ∧ H' p = some (.lst xs) ∧ P r H') := fun H1 e Q q =>
  h H1 e _ fun p H2 _ e2 hp => hr H2 (e.trans e2) _ fun vs H3 e3 hP => q _ H3 (e2.trans e3) ⟨p, vs, rfl, e3 _ _ hp, hP⟩
end
/-! ### loops over a text -/
section
variable {K : PySem.W.Frag} {σ : L2.St} {H H' : Hp} {te : TE} {D : Ends} {tu tz : TS}
theorem s_forS {z : Str} {j : Nat} (h : Ev te σ H (.str z)) (Pv : Nat → L2.St → Hp → Prop) (h0 : ∀ H1, Ex H H1 → Pv 0 σ H1)
    (hs : ∀ (i c : Nat) σ' H', (TL.tl z)[i]? = some c → Pv i σ' H' → tu { D with nx := Pv (i + 1), ct := Pv (i + 1), bk := D.nx } (σ'.set j (some (.str ⟨#[c]⟩))) H')
    (hd : ∀ σ' H', Pv (TL.tl z).length σ' H' → D.nx σ' H') : tFor (iStr te) (gName j) tu D σ H :=
  h H (Ex.refl H) _ fun H1 e => ⟨z, rfl, for_it walk_str Pv (h0 H1 e) (fun _ _ _ _ _ => trivial) (fun i x σ' H' H'' hi p y => by
    obtain ⟨rfl, c, hc, rfl⟩ := y
    exact hs i c σ' _ (by rw [show (TL.tl z)[i]? = z.cps[i]? from Array.getElem?_toList]; exact hc) p) (fun σ' H' p => hd σ' H' (by
    have e : (TL.tl z).length = z.cps.size := Array.length_toList
    rw [e]
    exact p))⟩
theorem q_forS {z : Str} {j : Nat} (h : Ev te σ H (.str z)) (Pv : Nat → L2.St → Hp → Prop) (h0 : ∀ H1, Ex H H1 → Pv 0 σ H1)
    (hs : ∀ (i c : Nat) σ' H', (TL.tl z)[i]? = some c → Pv i σ' H' → tu { D with nx := Pv (i + 1), ct := Pv (i + 1), bk := tz D } (σ'.set j (some (.str ⟨#[c]⟩))) H')
    (hd : ∀ σ' H', Pv (TL.tl z).length σ' H' → tz D σ' H') : tSeq (tFor (iStr te) (gName j) tu) tz D σ H := s_forS (D := { D with nx := tz D }) h Pv h0 hs hd
end
/-! ### the signs of words -/
/-- from ! to ~, but the percent sign -/
def sgnL : List Nat := List.range' 33 4 ++ List.range' 38 89
theorem sgnL_len : sgnL.length = 93 := by decide +kernel
/-- a sign of a word -/
def Ws (c : Nat) : Prop := 33 ≤ c ∧ c ≤ 126
instance (c : Nat) : Decidable (Ws c) := inferInstanceAs (Decidable (_ ∧ _))
theorem sgnL_ws : ∀ c ∈ sgnL, Ws c := by decide +kernel
/-- a sign of a text -/
def Ts (c : Nat) : Prop := c = 32 ∨ c = 10 ∨ Ws c
instance (c : Nat) : Decidable (Ts c) := inferInstanceAs (Decidable (_ ∨ _))
def sgn (c : Int) : Nat := sgnL.getD (c % 93).toNat 33
theorem sgn_ws (c : Int) : Ws (sgn c) := by
  unfold sgn
  rw [List.getD_eq_getElem?_getD]
  cases h : sgnL[(c % 93).toNat]? with
  | none => exact ⟨by decide, by decide⟩
  | some x => exact sgnL_ws x (List.mem_of_getElem? h)
theorem at_sgn (c : Int) : atI sgnL (c % 93) = some (sgn c) := by
  have h0 : 0 ≤ c % 93 := Int.emod_nonneg c (by decide)
  have h1 : c % 93 < 93 := Int.emod_lt_of_pos c (by decide)
  have hl : (c % 93).toNat < sgnL.length := by rw [sgnL_len]; omega
  have e : c % 93 = ((c % 93).toNat : Int) := by omega
  rw [e]
  refine atI_nat ?_
  unfold sgn
  rw [List.getD_eq_getElem?_getD, List.getElem?_eq_getElem hl] <;> rfl
theorem space_ws : ∀ c, Ws c → Unicode.isSpace c = false := by
  have h : ∀ c < 127, 33 ≤ c → Unicode.isSpace c = false := by decide +kernel
  exact fun c hc => h c (by have := hc.2; omega) hc.1
theorem space_32 : Unicode.isSpace 32 = true := by decide +kernel
theorem space_10 : Unicode.isSpace 10 = true := by decide +kernel
/-! ### lists of texts, of ints, compared -/
theorem strOk_of {z : Str} (h : ∀ c ∈ TL.tl z, c < 1114112) : PyData.strOk z = true := by
  unfold PyData.strOk
  rw [← Array.all_toList, List.all_eq_true]
  exact fun c hc => decide_eq_true (h c hc)
theorem canLay_strs : ∀ {l : List Str}, (∀ z ∈ l, ∀ c ∈ TL.tl z, c < 1114112) → PyData.canLayAll0 (l.map PyData.str) = true
  | [], _ => by simp [PyData.canLayAll0]
  | z :: r, h => by
    rw [List.map_cons, PyData.canLayAll0, PyData.canLay0, strOk_of (h z (List.mem_cons_self ..)), canLay_strs fun y hy => h y (List.mem_cons_of_mem _ hy)] <;> rfl
theorem depth_strs : ∀ l : List Str, PyData.depthAll (l.map PyData.str) = 0
  | [] => by simp [PyData.depthAll]
  | z :: r => by
    rw [List.map_cons, PyData.depthAll, depth_strs r, PyData.depth] <;> rfl
theorem shaped_strs {l : List Str} (h : ∀ z ∈ l, ∀ c ∈ TL.tl z, c < 1114112) : SeqAt.shaped (.list (l.map PyData.str)) = true := by
  unfold SeqAt.shaped
  rw [PyData.canLay0, canLay_strs h, PyData.depth, depth_strs] <;> rfl
theorem eqv_strs : ∀ l m : List Str, PyData.eqvAll (l.map PyData.str) (m.map PyData.str) = decide (l = m)
  | [], [] => by simp [PyData.eqvAll]
  | [], _ :: _ => by simp [PyData.eqvAll]
  | _ :: _, [] => by simp [PyData.eqvAll]
  | x :: l, y :: m => by
    rw [List.map_cons, List.map_cons, PyData.eqvAll, PyData.eqv, eqv_strs l m]
    rw [Bool.eq_iff_iff]
    simp
theorem eqv_lstrs (l m : List Str) : PyData.eqv (.list (l.map PyData.str)) (.list (m.map PyData.str)) = decide (l = m) := by
  rw [PyData.eqv]
  exact eqv_strs l m
theorem canLay_ints : ∀ l : List Int, PyData.canLayAll0 (l.map PyData.int) = true
  | [] => by simp [PyData.canLayAll0]
  | z :: r => by
    rw [List.map_cons, PyData.canLayAll0, PyData.canLay0, canLay_ints r] <;> rfl
theorem depth_ints : ∀ l : List Int, PyData.depthAll (l.map PyData.int) = 0
  | [] => by simp [PyData.depthAll]
  | z :: r => by
    rw [List.map_cons, PyData.depthAll, depth_ints r, PyData.depth] <;> rfl
theorem shaped_ints (l : List Int) : SeqAt.shaped (.list (l.map PyData.int)) = true := by
  unfold SeqAt.shaped
  rw [PyData.canLay0, canLay_ints, PyData.depth, depth_ints] <;> rfl
theorem eqv_ints : ∀ l m : List Int, PyData.eqvAll (l.map PyData.int) (m.map PyData.int) = decide (l = m)
  | [], [] => by simp [PyData.eqvAll]
  | [], _ :: _ => by simp [PyData.eqvAll]
  | _ :: _, [] => by simp [PyData.eqvAll]
  | x :: l, y :: m => by
    rw [List.map_cons, List.map_cons, PyData.eqvAll, PyData.eqv, eqv_ints l m]
    rw [Bool.eq_iff_iff]
    simp
theorem eqv_lints (l m : List Int) : PyData.eqv (.list (l.map PyData.int)) (.list (m.map PyData.int)) = decide (l = m) := by
  rw [PyData.eqv]
  exact eqv_ints l m
section
variable {K : PySem.W.Frag} {σ : L2.St} {H H' : Hp} {ta tb te tx : TE}
theorem rv_eqS {p q : Addr} {l m : List Str} (hp : SqL K H p (l.map V.str)) (hq : SqL K H q (m.map V.str)) (hl : ∀ z ∈ l, ∀ c ∈ TL.tl z, c < 1114112) (hm : ∀ z ∈ m, ∀ c ∈ TL.tl z, c < 1114112) : RV (rEqD K) (.ref p) (.ref q) H (.bl (decide (l = m))) := by
  rw [← eqv_lstrs]
  exact rv_eqD (fun H1 e => dp_strs (ex_l e hp)) (fun H1 e => dp_strs (ex_l e hq)) (shaped_strs hl) (shaped_strs hm)
theorem rv_neS {p q : Addr} {l m : List Str} (hp : SqL K H p (l.map V.str)) (hq : SqL K H q (m.map V.str)) (hl : ∀ z ∈ l, ∀ c ∈ TL.tl z, c < 1114112) (hm : ∀ z ∈ m, ∀ c ∈ TL.tl z, c < 1114112) : RV (rNeD K) (.ref p) (.ref q) H (.bl (!decide (l = m))) := by
  rw [← eqv_lstrs]
  exact rv_neD (fun H1 e => dp_strs (ex_l e hp)) (fun H1 e => dp_strs (ex_l e hq)) (shaped_strs hl) (shaped_strs hm)
theorem rv_eqI {p q : Addr} {l m : List Int} (hp : SqL K H p (l.map V.int)) (hq : SqL K H q (m.map V.int)) : RV (rEqD K) (.ref p) (.ref q) H (.bl (decide (l = m))) := by
  rw [← eqv_lints]
  exact rv_eqD (fun H1 e => dp_ints (ex_l e hp)) (fun H1 e => dp_ints (ex_l e hq)) (shaped_ints _) (shaped_ints _)
theorem rv_neI {p q : Addr} {l m : List Int} (hp : SqL K H p (l.map V.int)) (hq : SqL K H q (m.map V.int)) : RV (rNeD K) (.ref p) (.ref q) H (.bl (!decide (l = m))) := by
  rw [← eqv_lints]
  exact rv_neD (fun H1 e => dp_ints (ex_l e hp)) (fun H1 e => dp_ints (ex_l e hq)) (shaped_ints _) (shaped_ints _)
end
/-- the texts of the law -/
def Txs (z : Str) : Prop := ∀ c ∈ TL.tl z, Ts c
theorem Ts.lt {c : Nat} (h : Ts c) : c < 1114112 := by
  rcases h with h | h | ⟨h, h2⟩ <;> omega
theorem Txs.lt {z : Str} (h : Txs z) : ∀ c ∈ TL.tl z, c < 1114112 := fun c hc => (h c hc).lt
theorem Txs.app {x y : Str} (h : Txs x) (k : Txs y) : Txs (x ++ y) := fun c hc => by
  rw [TL.tl_append] at hc
  rcases List.mem_append.mp hc with hc | hc
  · exact h c hc
  · exact k c hc
theorem len_app (x y : Str) : (x ++ y).length = x.length + y.length := by
  rw [TL.len_tl, TL.len_tl, TL.len_tl, TL.tl_append, List.length_append]
theorem tl_one (c : Nat) : TL.tl ⟨#[c]⟩ = [c] := rfl
theorem txs_one {c : Nat} (h : Ts c) : Txs ⟨#[c]⟩ := fun d hd => by
  rw [tl_one] at hd
  rw [List.mem_singleton.mp hd]
  exact h
theorem blank_eq : Str.ofString " " = ⟨#[32]⟩ := by decide +kernel
theorem lf_eq : Str.ofString "\n" = ⟨#[10]⟩ := by decide +kernel
theorem none_eq : Str.ofString "" = Str.empty := by decide +kernel
section
variable {σ : L2.St} {H : Hp}
theorem ev_blank : Ev (tC (.str (Str.ofString " "))) σ H (.str ⟨#[32]⟩) := ev_is ev_c (congrArg V.str blank_eq)
theorem ev_lf : Ev (tC (.str (Str.ofString "\n"))) σ H (.str ⟨#[10]⟩) := ev_is ev_c (congrArg V.str lf_eq)
theorem ev_none : Ev (tC (.str (Str.ofString ""))) σ H (.str Str.empty) := ev_is ev_c (congrArg V.str none_eq)
end
/-! ### the words of a text -/
theorem step_fst {ws : List Str} {u : Str} {c : Nat} : (KWd.step (ws, u) c).1.length ≤ ws.length + 1 ∧ (KWd.step (ws, u) c).2.length ≤ u.length + 1 := by
  unfold KWd.step
  split
  · split
    · exact ⟨Nat.le_succ _, Nat.le_succ _⟩
    · exact ⟨by rw [List.length_append] <;> exact Nat.le_refl _, Nat.zero_le _⟩
  · exact ⟨Nat.le_succ _, by rw [len_app] <;> exact Nat.le_refl _⟩
/-- what the fold keeps of words: no more signs than were read, each a sign of the text that is no blank -/
structure Cut (n : Nat) (S : Nat → Prop) (st : KWd.St) : Prop where
  few : st.1.length ≤ n
  short : st.2.length ≤ n
  all : (st.1.map (·.length)).sum + st.2.length ≤ n
  ws : ∀ z ∈ st.1, z.length ≠ 0 ∧ ∀ c ∈ TL.tl z, S c ∧ Unicode.isSpace c = false
  us : ∀ c ∈ TL.tl st.2, S c ∧ Unicode.isSpace c = false
theorem Cut.zero {S : Nat → Prop} : Cut 0 S ([], Str.empty) := ⟨Nat.le_refl _, Nat.le_refl _, Nat.le_refl _, fun _ h => by simp at h, fun _ h => by simp [TL.tl, Str.empty] at h⟩
theorem Cut.step {n : Nat} {S : Nat → Prop} {st : KWd.St} (h : Cut n S st) {c : Nat} (hc : S c) : Cut (n + 1) S (KWd.step st c) := by
  obtain ⟨ws, u⟩ := st
  obtain ⟨h1, h2, h3, h4, h5⟩ := h
  simp only at h1 h2 h3 h4 h5
  unfold KWd.step
  split
  · split
    · exact ⟨by simp only; omega, by simp only; omega, by simp only; omega, h4, h5⟩
    · rename_i hs hu
      refine ⟨by simp only [List.length_append, List.length_singleton]; omega, Nat.zero_le _, ?_, fun z hz => ?_, fun d hd => by simp [TL.tl, Str.empty] at hd⟩
      · simp only [List.map_append, List.map_cons, List.map_nil, List.sum_append, List.sum_cons, List.sum_nil]
        show _ + (u.length + 0) + 0 ≤ _
        omega
      · rcases List.mem_append.mp hz with hz | hz
        · exact h4 z hz
        · rw [List.mem_singleton.mp hz]
          exact ⟨hu, h5⟩
  · rename_i hs
    refine ⟨by simp only; omega, ?_, ?_, h4, fun d hd => ?_⟩
    · simp only [len_app]
      show u.length + 1 ≤ n + 1
      omega
    · simp only [len_app]
      show _ + (u.length + 1) ≤ n + 1
      omega
    · simp only at hd
      rw [TL.tl_append, tl_one] at hd
      rcases List.mem_append.mp hd with hd | hd
      · exact h5 d hd
      · rw [List.mem_singleton.mp hd]
        exact ⟨hc, by cases e : Unicode.isSpace c <;> simp_all⟩
theorem cut_fold {S : Nat → Prop} : ∀ (l : List Nat) (n : Nat) (st : KWd.St), Cut n S st → (∀ c ∈ l, S c) → Cut (n + l.length) S (l.foldl KWd.step st)
  | [], _, _, h, _ => h
  | c :: r, n, st, h, hs => by
    rw [List.foldl_cons, List.length_cons, show n + (r.length + 1) = n + 1 + r.length by omega]
    exact cut_fold r (n + 1) _ (h.step (hs c (List.mem_cons_self ..))) fun d hd => hs d (List.mem_cons_of_mem _ hd)
/-- words of a text of the law: none empty, of signs of words alone, no more of them than signs -/
theorem words_ok {z : Str} (h : Txs z) : (Txt.words z).length ≤ z.length ∧ ((Txt.words z).map (·.length)).sum ≤ z.length ∧ ∀ y ∈ Txt.words z, y.length ≠ 0 ∧ ∀ c ∈ TL.tl y, Ws c := by
  have q := cut_fold (S := Ts) (TL.tl z) 0 ([], Str.empty) Cut.zero h
  rw [Nat.zero_add, ← TL.len_tl] at q
  rw [KWd.words_scan]
  have hw : ∀ y : Str, (∀ c ∈ TL.tl y, Ts c ∧ Unicode.isSpace c = false) → ∀ c ∈ TL.tl y, Ws c := fun y hy c hc => by
    obtain ⟨t, s⟩ := hy c hc
    rcases t with t | t | t
    · rw [t, space_32] at s; cases s
    · rw [t, space_10] at s; cases s
    · exact t
  unfold KWd.fin KWd.scan
  revert q
  generalize z.cps.toList.foldl KWd.step ([], Str.empty) = st
  intro q
  split
  · exact ⟨q.few, by have := q.all; omega, fun y hy => ⟨(q.ws y hy).1, hw y (q.ws y hy).2⟩⟩
  · rename_i hu
    refine ⟨?_, ?_, fun y hy => ?_⟩
    · rw [List.length_append]
      have h1 := q.all
      have h2 : st.1.length ≤ (st.1.map (·.length)).sum := by
        have h4 := q.ws
        revert h4
        generalize st.1 = l
        intro h4
        induction l with
        | nil => exact Nat.le_refl _
        | cons a r ih =>
          have ha := (h4 a (List.mem_cons_self ..)).1
          have hr := ih fun y hy => h4 y (List.mem_cons_of_mem _ hy)
          rw [List.map_cons, List.sum_cons, List.length_cons]
          omega
      show st.1.length + 1 ≤ _
      omega
    · rw [List.map_append, List.sum_append]
      have h1 := q.all
      show _ + (st.2.length + 0) ≤ _
      omega
    · rcases List.mem_append.mp hy with hy | hy
      · exact ⟨(q.ws y hy).1, hw y (q.ws y hy).2⟩
      · rw [List.mem_singleton.mp hy]
        exact ⟨hu, hw _ q.us⟩
theorem mul_txs {z : Str} (h : Txs z) (k : Int) : Txs (Txt.mul z k) := fun c hc => by
  unfold Txt.mul at hc
  split at hc
  · simp [TL.tl, Str.empty] at hc
  · split at hc
    · exact h c hc
    · have go : ∀ (n : Nat) (acc : Array Nat), (∀ d ∈ acc.toList, Ts d) → ∀ d ∈ ((List.replicate n z.cps).foldl (· ++ ·) acc).toList, Ts d := by
        intro n
        induction n with
        | zero => exact fun acc ha => ha
        | succ n ih =>
          intro acc ha
          rw [List.replicate_succ, List.foldl_cons]
          refine ih _ fun d hd => ?_
          rw [Array.toList_append] at hd
          rcases List.mem_append.mp hd with hd | hd
          · exact ha d hd
          · exact h d hd
      exact go _ _ (fun d hd => by simp at hd) c hc
/-! ### a list of lists of texts, made behind H0 -/
def LLs (H0 H : Hp) (l : Addr) (ex : List Addr) (pss : List (List Str)) : Prop := H0 l = none ∧ ∃ ps : List (Addr × List Str), pss = ps.map (·.2) ∧ H l = some (.lst (ps.map fun x => V.ref x.1)) ∧ (l :: ps.map (·.1)).Nodup ∧
  (∀ x ∈ ps, H0 x.1 = none ∧ H x.1 = some (.lst (x.2.map V.str))) ∧ ∀ b ∈ ex, b ≠ l ∧ ∀ x ∈ ps, b ≠ x.1
theorem LLs.mono {H0 H H' : Hp} {l : Addr} {ex : List Addr} {pss : List (List Str)} (h : LLs H0 H l ex pss) (e : Ex H H') : LLs H0 H' l ex pss := by
  obtain ⟨h0, ps, h1, h2, h3, h4, h5⟩ := h
  exact ⟨h0, ps, h1, e _ _ h2, h3, fun x hx => ⟨(h4 x hx).1, e _ _ (h4 x hx).2⟩, h5⟩
/-- an address of ex is written -/
theorem LLs.other {H0 H : Hp} {l b : Addr} {ex : List Addr} {pss : List (List Str)} {o : HO} (h : LLs H0 H l ex pss) (hb : b ∈ ex) : LLs H0 (upd H b o) l ex pss := by
  obtain ⟨h0, ps, h1, h2, h3, h4, h5⟩ := h
  refine ⟨h0, ps, h1, ?_, h3, fun x hx => ⟨(h4 x hx).1, ?_⟩, h5⟩
  · rw [upd_ne (h5 b hb).1.symm]
    exact h2
  · rw [upd_ne ((h5 b hb).2 x hx).symm]
    exact (h4 x hx).2
/-- a new list q, laid behind Hb, is put behind -/
theorem LLs.push {H0 Hb H : Hp} {l q : Addr} {ex : List Addr} {pss : List (List Str)} {w : List Str} (h : LLs H0 Hb l ex pss) (hq : Hb q = none) (e : Ex Hb H) (e0 : Ex H0 Hb) (hw : H q = some (.lst (w.map V.str))) (hex : ∀ b ∈ ex, Hb b ≠ none) :
    ∃ vs, H l = some (.lst vs) ∧ vs.length = pss.length ∧ LLs H0 (upd H l (.lst (vs ++ [V.ref q]))) l ex (pss ++ [w]) := by
  obtain ⟨h0, ps, h1, h2, h3, h4, h5⟩ := h
  have nql : q ≠ l := fun z => by rw [z, h2] at hq; cases hq
  have nqp : ∀ x ∈ ps, x.1 ≠ q := fun x hx z => by rw [← z, (h4 x hx).2] at hq; cases hq
  have nlp : ∀ x ∈ ps, x.1 ≠ l := fun x hx z => (List.nodup_cons.mp h3).1 (by rw [← z]; exact List.mem_map_of_mem hx)
  refine ⟨_, e _ _ h2, by rw [h1, List.length_map, List.length_map], h0, ps ++ [(q, w)], by rw [h1, List.map_append] <;> rfl, by rw [upd_same, List.map_append] <;> rfl, ?_, fun x hx => ?_, fun b hb => ⟨(h5 b hb).1, fun x hx => ?_⟩⟩
  · rw [List.map_append, ← List.cons_append]
    refine List.nodup_append.mpr ⟨h3, by simp, fun a ha b hb => ?_⟩
    rw [List.map_cons, List.map_nil, List.mem_singleton] at hb
    rw [hb]
    rcases List.mem_cons.mp ha with ha | ha
    · rw [ha]
      exact nql.symm
    · obtain ⟨x, hx, rfl⟩ := List.mem_map.mp ha
      exact nqp x hx
  · rcases List.mem_append.mp hx with hx | hx
    · rw [upd_ne (nlp x hx)]
      exact ⟨(h4 x hx).1, e _ _ (h4 x hx).2⟩
    · rw [List.mem_singleton.mp hx, upd_ne nql]
      exact ⟨fresh_back e0 hq, hw⟩
  · rcases List.mem_append.mp hx with hx | hx
    · exact (h5 b hb).2 x hx
    · rw [List.mem_singleton.mp hx]
      exact fun z => hex b hb (by rw [z]; exact hq)
/-- the last one -/
theorem LLs.last {H0 H : Hp} {l : Addr} {ex : List Addr} {pss : List (List Str)} (h : LLs H0 H l ex pss) (hn : pss ≠ []) :
    ∃ vs p xs, H l = some (.lst vs) ∧ atI vs (-1) = some (.ref p) ∧ H p = some (.lst (xs.map V.str)) ∧ pss = pss.dropLast ++ [xs] ∧ H0 p = none ∧ (∀ b ∈ ex, b ≠ p) ∧
      ∀ H' ys, Ex H H' → LLs H0 (upd H' p (.lst (xs.map V.str ++ ys.map V.str))) l ex (pss.dropLast ++ [xs ++ ys]) := by
  obtain ⟨h0, ps, h1, h2, h3, h4, h5⟩ := h
  have hps : ps ≠ [] := fun z => hn (by rw [h1, z] <;> rfl)
  obtain ⟨r, x, rfl⟩ : ∃ r x, ps = r ++ [x] := ⟨_, _, (List.dropLast_concat_getLast hps).symm⟩
  have hx := h4 x (List.mem_append_right _ (List.mem_singleton.mpr rfl))
  have hdl : pss.dropLast = r.map (·.2) := by
    rw [h1, List.map_append]
    exact List.dropLast_concat
  have nxl : x.1 ≠ l := fun z => (List.nodup_cons.mp h3).1 (by rw [← z]; exact List.mem_map_of_mem (List.mem_append_right _ (List.mem_singleton.mpr rfl)))
  have nrx : ∀ y ∈ r, y.1 ≠ x.1 := fun y hy z => by
    have q := (List.nodup_cons.mp h3).2
    rw [List.map_append] at q
    exact (List.nodup_append.mp q).2.2 y.1 (List.mem_map_of_mem hy) x.1 (List.mem_singleton.mpr rfl) z
  refine ⟨_, x.1, x.2, h2, by rw [List.map_append]; exact atI_last _ _, hx.2, by rw [hdl, h1, List.map_append] <;> rfl, hx.1, fun b hb => (h5 b hb).2 x (List.mem_append_right _ (List.mem_singleton.mpr rfl)), fun H' ys e => ⟨h0, r ++ [(x.1, x.2 ++ ys)], ?_, ?_, ?_, fun y hy => ?_, fun b hb => ⟨(h5 b hb).1, fun y hy => ?_⟩⟩⟩
  · rw [hdl, List.map_append] <;> rfl
  · rw [upd_ne nxl.symm, e _ _ h2, List.map_append, List.map_append] <;> rfl
  · rw [List.map_append] at h3 ⊢
    exact h3
  · rcases List.mem_append.mp hy with hy | hy
    · rw [upd_ne (nrx y hy)]
      exact ⟨(h4 y (List.mem_append_left _ hy)).1, e _ _ (h4 y (List.mem_append_left _ hy)).2⟩
    · rw [List.mem_singleton.mp hy]
      refine ⟨hx.1, ?_⟩
      rw [upd_same, List.map_append]
  · rcases List.mem_append.mp hy with hy | hy
    · exact (h5 b hb).2 y (List.mem_append_left _ hy)
    · rw [List.mem_singleton.mp hy]
      exact (h5 b hb).2 x (List.mem_append_right _ (List.mem_singleton.mpr rfl))
/-- the k-th one -/
theorem LLs.at {H0 H : Hp} {l : Addr} {ex : List Addr} {pss : List (List Str)} (h : LLs H0 H l ex pss) {k : Nat} {xs : List Str} (hk : pss[k]? = some xs) :
    ∃ vs p, H l = some (.lst vs) ∧ vs.length = pss.length ∧ vs[k]? = some (.ref p) ∧ H p = some (.lst (xs.map V.str)) := by
  obtain ⟨h0, ps, h1, h2, h3, h4, h5⟩ := h
  rw [h1, List.getElem?_map] at hk
  obtain ⟨x, hx, rfl⟩ := Option.map_eq_some_iff.mp hk
  exact ⟨_, x.1, h2, by rw [h1, List.length_map, List.length_map], by rw [List.getElem?_map, hx] <;> rfl, (h4 x (List.mem_of_getElem? hx)).2⟩
theorem LLs.lst {H0 H : Hp} {l : Addr} {ex : List Addr} {pss : List (List Str)} (h : LLs H0 H l ex pss) : ∃ vs, H l = some (.lst vs) ∧ vs.length = pss.length := by
  obtain ⟨h0, ps, h1, h2, h3, h4, h5⟩ := h
  exact ⟨_, h2, by rw [h1, List.length_map, List.length_map]⟩
section
variable {K : PySem.W.Frag} {σ : L2.St} {H H' : Hp} {ta tb te tx : TE} {D : Ends} {tz : TS} {v : V}
theorem et_tru {p : Addr} {xs : List V} (h : Ev te σ H (.ref p)) (hs : SqL K H p xs) : EvT (fun σ H Q => te σ H fun x H' => ∃ k, TruV K x H' k ∧ Q k H') σ H (!xs.isEmpty) := fun H1 e _ q => h H1 e _ fun H2 e2 => ⟨_, .inl ⟨xs, ex_l (e.trans e2) hs, rfl⟩, q H2 e2⟩
theorem ev_notT {p : Addr} {xs : List V} (h : Ev te σ H (.ref p)) (hs : SqL K H p xs) : Ev (tNotT K te) σ H (.bl (!!xs.isEmpty)) := fun H1 e _ q => h H1 e _ fun H2 e2 => ⟨_, .inl ⟨xs, ex_l (e.trans e2) hs, rfl⟩, q H2 e2⟩
/-- xs.extend(ys) -/
theorem s_ext {l b : Addr} {xs zs : List V} (hl : H l = some (.lst xs)) (hb : H b = some (.lst zs)) (ha : Ev ta σ H (.ref l)) (h : Ev te σ H (.ref b)) (hz : xs.length + zs.length ≤ 100000) (k : ∀ H1, Ex H H1 → D.nx σ (upd H1 l (.lst (xs ++ zs)))) :
    tDrop (tBM K "list" rExtend ta (tCons te tNil)) D σ H := ha H (Ex.refl H) _ fun H1 e1 =>
  ⟨Or.inl ⟨rfl, xs, sq_of (e1 l _ hl)⟩, h H1 e1 _ fun H2 e2 => ⟨l, b, xs, zs, rfl, rfl, e2 l _ (e1 l _ hl), e2 b _ (e1 b _ hb), sz_of hz, k H2 (e1.trans e2)⟩⟩
/-- a text cut -/
theorem el_split {a b : Str} (ha : Ev ta σ H (.str a)) (hb : Ev tb σ H (.str b)) (h0 : (b.length == 0) = false) (hl : a.length ≤ 90000) :
    EvL (tM1 (fun x xs H Q => ∃ a b, x = .str a ∧ xs = [.str b] ∧ (b.length == 0) = false ∧ a.length + 2 ≤ sizeLine ∧ rNewStrs (Txt.split a b) H Q) ta tb) σ H ((Txt.split a b).map V.str) :=
  fun H1 e Q q => ha H1 e _ fun H2 e2 => ⟨⟨a, rfl⟩, hb H2 (e.trans e2) _ fun H3 e3 => ⟨a, b, rfl, rfl, h0, sz_of (by omega), fun p hp => q p _ (fresh_back (e2.trans e3) hp) ((e2.trans e3).trans (Ex.new hp)) upd_same⟩⟩
end
/-! ### joined, cut: signs and sizes -/
theorem joinL_mem (S : List Nat) : ∀ (ps : List (List Nat)) (c : Nat), c ∈ TL.joinL S ps → c ∈ S ∨ ∃ p ∈ ps, c ∈ p
  | [], _, h => absurd h (List.not_mem_nil)
  | [p], _, h => .inr ⟨p, List.mem_cons_self .., h⟩
  | p :: q :: r, c, h => by
    have h' : c ∈ p ++ (S ++ TL.joinL S (q :: r)) := h
    rcases List.mem_append.mp h' with h1 | h1
    · exact .inr ⟨p, List.mem_cons_self .., h1⟩
    · rcases List.mem_append.mp h1 with h2 | h2
      · exact .inl h2
      · rcases joinL_mem S (q :: r) c h2 with h3 | ⟨x, hx, h3⟩
        · exact .inl h3
        · exact .inr ⟨x, List.mem_cons_of_mem _ hx, h3⟩
theorem joinL_len (S : List Nat) : ∀ ps : List (List Nat), (TL.joinL S ps).length + (if ps = [] then 0 else S.length) = (ps.map List.length).sum + ps.length * S.length
  | [] => by simp [TL.joinL]
  | [p] => by simp [TL.joinL]
  | p :: q :: r => by
    have ih := joinL_len S (q :: r)
    rw [if_neg (by simp)] at ih
    show (p ++ (S ++ TL.joinL S (q :: r))).length + _ = _
    rw [if_neg (by simp), List.length_append, List.length_append, List.map_cons, List.sum_cons, List.length_cons, Nat.succ_mul]
    omega
theorem txs_join {y : Str} {ps : List Str} (hy : Txs y) (hp : ∀ p ∈ ps, Txs p) : Txs (Txt.join y ps) := fun c hc => by
  rw [TL.join_eq, TL.tl_join] at hc
  rcases joinL_mem _ _ c hc with h | ⟨p, h, h2⟩
  · exact hy c h
  · obtain ⟨z, hz, rfl⟩ := List.mem_map.mp h
    exact hp z hz c h2
theorem len_join (y : Str) (ps : List Str) : (Txt.join y ps).length + (if ps = [] then 0 else y.length) = (ps.map (·.length)).sum + ps.length * y.length := by
  have h := joinL_len (TL.tl y) (ps.map TL.tl)
  rw [← TL.tl_join, ← TL.join_eq, ← TL.len_tl, ← TL.len_tl, List.length_map, List.map_map] at h
  have e : (List.length ∘ TL.tl) = fun z : Str => z.length := by
    funext z
    exact (TL.len_tl z).symm
  rw [e] at h
  rw [← h]
  cases ps <;> simp
theorem len_join0 (ps : List Str) : (Txt.join Str.empty ps).length = (ps.map (·.length)).sum := by
  have h := len_join Str.empty ps
  rw [show Str.empty.length = 0 from rfl, Nat.mul_zero] at h
  cases ps <;> simp at h ⊢ <;> omega
theorem txs_empty : Txs Str.empty := fun c hc => by simp [TL.tl, Str.empty] at hc
/-- a text cut at the line ends -/
theorem spl_len : ∀ (l acc : List Nat), ((TL.spl [10] 0 acc l).map List.length).sum + (TL.spl [10] 0 acc l).length = acc.length + l.length + 1
  | [], acc => by rw [TL.spl_nil]; simp
  | c :: l, acc => by
    by_cases hc : c = 10
    · have e : TL.spl [10] 0 acc (c :: l) = acc :: TL.spl [10] 0 [] l := TL.spl_hit (by rw [hc]; rfl)
      rw [e, List.map_cons, List.sum_cons, List.length_cons]
      have ih := spl_len l []
      rw [List.length_nil] at ih
      rw [List.length_cons]
      omega
    · rw [TL.spl_miss (by
        show (([c] : List Nat) == [10]) = false
        rw [beq_eq_false_iff_ne]
        exact fun q => hc (List.cons.inj q).1)]
      have ih := spl_len l (acc ++ [c])
      rw [List.length_append, List.length_singleton] at ih
      rw [List.length_cons]
      omega
theorem spl_mem : ∀ (l acc y : List Nat) (c : Nat), y ∈ TL.spl [10] 0 acc l → c ∈ y → c ∈ acc ∨ c ∈ l
  | [], acc, y, c, h, hc => by
    rw [TL.spl_nil] at h
    rw [List.mem_singleton.mp h] at hc
    exact .inl hc
  | d :: l, acc, y, c, h, hc => by
    by_cases hd : d = 10
    · rw [TL.spl_hit (by rw [hd]; rfl)] at h
      rcases List.mem_cons.mp h with h | h
      · rw [h] at hc
        exact .inl hc
      · rcases spl_mem l [] y c h hc with q | q
        · exact absurd q (List.not_mem_nil)
        · exact .inr (List.mem_cons_of_mem _ q)
    · rw [TL.spl_miss (by
        show (([d] : List Nat) == [10]) = false
        rw [beq_eq_false_iff_ne]
        exact fun q => hd (List.cons.inj q).1)] at h
      rcases spl_mem l (acc ++ [d]) y c h hc with q | q
      · rcases List.mem_append.mp q with q | q
        · exact .inl q
        · rw [List.mem_singleton.mp q]
          exact .inr (List.mem_cons_self ..)
      · exact .inr (List.mem_cons_of_mem _ q)
def lfS : Str := ⟨#[10]⟩
theorem split_rows (z : Str) : (Txt.split z lfS).map TL.tl = TL.spl [10] 0 [] (TL.tl z) := TL.split_spl z lfS (by decide) (TL.kind_ok (by decide +kernel))
theorem rows_len (z : Str) : ((Txt.split z lfS).map (·.length)).sum + (Txt.split z lfS).length = z.length + 1 := by
  have h := spl_len (TL.tl z) []
  rw [← split_rows, List.length_map, List.map_map] at h
  have e : (List.length ∘ TL.tl) = fun z : Str => z.length := by
    funext z
    exact (TL.len_tl z).symm
  rw [e, ← TL.len_tl, List.length_nil, Nat.zero_add] at h
  exact h
theorem rows_txs {z : Str} (h : Txs z) : ∀ y ∈ Txt.split z lfS, Txs y := fun y hy c hc => by
  have hm : TL.tl y ∈ TL.spl [10] 0 [] (TL.tl z) := by
    rw [← split_rows]
    exact List.mem_map_of_mem hy
  rcases spl_mem _ _ _ c hm hc with q | q
  · exact absurd q (List.not_mem_nil)
  · exact h c q
section
variable {K : PySem.W.Frag} {σ : L2.St} {H H' : Hp} {ta tb te tx : TE} {D : Ends} {tz : TS} {v : V}
theorem el_is {xs ys : List V} (h : EvL te σ H xs) (e : xs = ys) : EvL te σ H ys := by
  rw [← e]
  exact h
theorem given_all (n : Nat) (v : Nat → V) : given n (fun _ => true) v = (List.range n).map v := by
  unfold given
  rw [List.filter_eq_self.mpr fun _ _ => rfl]
theorem et_yes : EvT tYes σ H true := fun H1 _ _ q => q H1 (Ex.refl H1)
/-- [e for k in range(n)] -/
theorem el_lcR {ta : TA} {j : Nat} {vs : List Nat} {n : Int} (v : Nat → V) (h : EvA ta σ H [.int n]) (hn : 0 ≤ n ∧ n ≤ 40000) (hw : ∀ x, wipe ((wipe σ vs).set j (some x)) vs = wipe σ vs)
    (he : ∀ (i : Nat) H1, Ex H H1 → (i : Int) < n → Ev te ((wipe σ vs).set j (some (.int (i : Int)))) H1 (v i)) : EvL (tLc (iRng1 ta) (gName j) tYes te vs) σ H ((List.range n.toNat).map v) :=
  el_is (el_lcR1 (fun _ => true) v h hn hw (fun _ _ _ _ => et_yes) fun i H1 e hi _ => he i H1 e hi) (given_all _ _)
/-- [e for x in l] -/
theorem el_lcX {a : Addr} {xs : List V} {tl : TE} {j : Nat} {vs : List Nat} (v : Nat → V) (h : Ev tl σ H (.ref a)) (hx : SqL K H a xs) (hz : xs.length ≤ 40000) (hw : ∀ x, wipe ((wipe σ vs).set j (some x)) vs = wipe σ vs)
    (he : ∀ (i : Nat) (x : V) H1, Ex H H1 → xs[i]? = some x → Ev te ((wipe σ vs).set j (some x)) H1 (v i)) : EvL (tLc (iList K tl) (gName j) tYes te vs) σ H ((List.range xs.length).map v) :=
  el_is (el_lcL (fun _ => true) v h hx hz hw (fun _ _ _ _ _ => et_yes) fun i x H1 e hi _ => he i x H1 e hi) (given_all _ _)
end
section
variable {σ : L2.St} {H : Hp} {D : Ends} {tz : TS}
/-- x = f(..), the arguments told by what they give -/
theorem q_asgP {ta : TA} {sp : Sp} {dvs : List V} {E : XK} {i : Nat} {P : List V → Hp → Prop} (h : ArgP ta σ H P) (k : ∀ vs H1, Ex H H1 → P vs H1 → sp (vs ++ dvs) H1 (fun v H2 => tz D (σ.set i (some v)) H2) E) : tSeq (tAsg (tCall sp dvs E ta) (gName i)) tz D σ H := h H (Ex.refl H) _ k
/-- x = f(..), told by f's own promise -/
theorem q_asgA {ta : TA} {sp : Sp} {dvs vs : List V} {E : XK} {i : Nat} (h : EvA ta σ H vs) (k : ∀ H1, Ex H H1 → sp (vs ++ dvs) H1 (fun v H2 => tz D (σ.set i (some v)) H2) E) : tSeq (tAsg (tCall sp dvs E ta) (gName i)) tz D σ H := h H (Ex.refl H) _ k
end
theorem LLs.drop {H0 H : Hp} {l : Addr} {ex : List Addr} {pss : List (List Str)} (h : LLs H0 H l ex pss) : LLs H0 H l [] pss := by
  obtain ⟨h0, ps, h1, h2, h3, h4, h5⟩ := h
  exact ⟨h0, ps, h1, h2, h3, h4, fun b hb => absurd hb (List.not_mem_nil)⟩
theorem LLs.zero {H0 H : Hp} {l : Addr} {ex : List Addr} (h0 : H0 l = none) (h : H l = some (.lst [])) (hex : ∀ b ∈ ex, b ≠ l) : LLs H0 H l ex [] :=
  ⟨h0, [], rfl, h, by simp, fun x hx => absurd hx (List.not_mem_nil), fun b hb => ⟨hex b hb, fun x hx => absurd hx (List.not_mem_nil)⟩⟩
/-! ### enumerate, tuples, sums -/
section
variable {K : PySem.W.Frag} {σ : L2.St} {H H' : Hp} {ta tb te tx : TE} {D : Ends} {tu tz : TS} {v : V}
theorem s_forE {ta : TA} {a : Addr} {xs : List V} {j1 j2 : Nat} (h : EvA ta σ H [.ref a]) (hx : SqL K H a xs) (Pv : Nat → L2.St → Hp → Prop) (h0 : ∀ H1, Ex H H1 → Pv 0 σ H1) (hl : ∀ i σ' H', i ≤ xs.length → Pv i σ' H' → SqL K H' a xs)
    (hs : ∀ i x σ' H' H2, xs[i]? = some x → Pv i σ' H' → Ex H' H2 → tu { D with nx := Pv (i + 1), ct := Pv (i + 1), bk := D.nx } ((σ'.set j1 (some (.int (i : Int)))).set j2 (some x)) H2) (hd : ∀ σ' H', Pv xs.length σ' H' → D.nx σ' H') :
    tFor (iEnum K ta) (gTup K 2 (gCons (gName j1) (gCons (gName j2) gNil))) tu D σ H :=
  h H (Ex.refl H) _ fun H1 e => ⟨a, xs, rfl, ex_l e hx, for_it walk_enum Pv (h0 H1 e) hl (fun i x σ' H' H'' hi p y => by
    obtain ⟨T, x1, x2, rfl, hT, rfl, hx1, hx2⟩ := y
    cases hx1
    exact ⟨T, _, rfl, .inl (.inl upd_same), rfl, _, _, rfl, _, _, rfl, rfl, hs i x2 σ' H' _ hx2 p (Ex.new hT)⟩) hd⟩
theorem q_forE {ta : TA} {a : Addr} {xs : List V} {j1 j2 : Nat} (h : EvA ta σ H [.ref a]) (hx : SqL K H a xs) (Pv : Nat → L2.St → Hp → Prop) (h0 : ∀ H1, Ex H H1 → Pv 0 σ H1) (hl : ∀ i σ' H', i ≤ xs.length → Pv i σ' H' → SqL K H' a xs)
    (hs : ∀ i x σ' H' H2, xs[i]? = some x → Pv i σ' H' → Ex H' H2 → tu { D with nx := Pv (i + 1), ct := Pv (i + 1), bk := tz D } ((σ'.set j1 (some (.int (i : Int)))).set j2 (some x)) H2) (hd : ∀ σ' H', Pv xs.length σ' H' → tz D σ' H') :
    tSeq (tFor (iEnum K ta) (gTup K 2 (gCons (gName j1) (gCons (gName j2) gNil))) tu) tz D σ H := s_forE (D := { D with nx := tz D }) h hx Pv h0 hl hs hd
theorem el_cat {l : Addr} {xs ys : List V} (ha : Ev ta σ H (.ref l)) (hl : H l = some (.lst xs)) (hb : EvL tb σ H ys) (hz : xs.length + ys.length ≤ 100000) : EvL (tOp rCat ta tb) σ H (xs ++ ys) := fun H1 e Q q =>
  ha H1 e _ fun H2 e2 => hb H2 (e.trans e2) _ fun p H3 _ e3 hp => ⟨l, p, xs, ys, rfl, rfl, e3 _ _ (e2 _ _ (e _ _ hl)), hp, sz_of hz, fun r hr => q r _ (fresh_back (e2.trans e3) hr) ((e2.trans e3).trans (Ex.new hr)) upd_same⟩
theorem el_catN {xs ys : List V} (ha : EvL ta σ H xs) (hb : EvL tb σ H ys) (hz : xs.length + ys.length ≤ 100000) : EvL (tOp rCat ta tb) σ H (xs ++ ys) := fun H1 e Q q =>
  ha H1 e _ fun l H2 _ e2 hl => hb H2 (e.trans e2) _ fun p H3 _ e3 hp => ⟨l, p, xs, ys, rfl, rfl, e3 _ _ hl, hp, sz_of hz, fun r hr => q r _ (fresh_back (e2.trans e3) hr) ((e2.trans e3).trans (Ex.new hr)) upd_same⟩
theorem ev_sumN {ns : List Int} (h : EvL te σ H (ns.map V.int)) : Ev (tCB (rSum K) (tCons te tNil)) σ H (.int ns.sum) := fun H1 e Q q =>
  h H1 e _ fun p H2 _ e2 hp => ⟨p, ns, rfl, sq_of hp, q H2 e2⟩
theorem ev_maxx {i j : Int} (ha : Ev ta σ H (.int i)) (hb : Ev tb σ H (.int j)) : Ev (tCB (fun xs H Q => ∃ i j, xs = [.int i, .int j] ∧ Q (.int (if j > i then j else i)) H) (tCons ta (tCons tb tNil))) σ H (.int (max i j)) := by
  have e : max i j = if j > i then j else i := by
    by_cases h : j > i
    · rw [if_pos h]; omega
    · rw [if_neg h]; omega
  rw [e]
  exact ev_max2 ha hb
theorem rc_isInt {i : Int} : RC (rIsi K) [.int i, .ty "int"] H (.bl true) := rc_isi (.ty _) (fun _ _ => .base (.int i)) (kit_ty (by decide +kernel))
theorem rc_isIntB {i : Int} : RC (rIsi K) [.int i, .ty "bool"] H (.bl false) := rc_isi (.ty _) (fun _ _ => .base (.int i)) (kit_ty (by decide +kernel))
/-- f(..) alone, told by f's own promise -/
theorem q_dropA {ta : TA} {sp : Sp} {dvs vs : List V} {E : XK} (h : EvA ta σ H vs) (k : ∀ H1, Ex H H1 → sp (vs ++ dvs) H1 (fun _ H2 => tz D σ H2) E) : tSeq (tDrop (tCall sp dvs E ta)) tz D σ H := h H (Ex.refl H) _ k
theorem s_dropA {ta : TA} {sp : Sp} {dvs vs : List V} {E : XK} (h : EvA ta σ H vs) (k : ∀ H1, Ex H H1 → sp (vs ++ dvs) H1 (fun _ H2 => D.nx σ H2) E) : tDrop (tCall sp dvs E ta) D σ H := h H (Ex.refl H) _ k
/-- a list made anew of another -/
theorem el_listOf {p : Addr} {xs : List V} (ha : Ev ta σ H (.ref p)) (h : SqL K H p xs) : EvL (tCB (fun xs H Q => ∃ p ys, xs = [.ref p] ∧ (SqL K H p ys ∨ SqT K H p ys) ∧ ∀ l, H l = none → Q (.ref l) (upd H l (.lst ys))) (tCons ta tNil)) σ H xs := el_list ha h
end
/-! ### tuples made in a display, walked -/
section
variable {K : PySem.W.Frag} {σ : L2.St} {H H' : Hp} {D : Ends} {tu tz : TS}
/-- arguments that give new tuples -/
def ArgT (ta : TA) (σ : L2.St) (H : Hp) (pss : List (List V)) : Prop := ∀ H1, Ex H H1 → ∀ Q : List V → Hp → Prop, (∀ (as : List Addr) H2, Ex H1 H2 → as.length = pss.length → (∀ (i : Nat) (a : Addr) (xs : List V), as[i]? = some a → pss[i]? = some xs → H2 a = some (.tup xs)) → Q (as.map V.ref) H2) → ta σ H1 Q
theorem at_nil : ArgT tNil σ H [] := fun H1 _ Q q => q [] H1 (Ex.refl H1) rfl (fun i a xs h => by simp at h)
theorem at_cons {te : TE} {tr : TA} {xs : List V} {pss : List (List V)} (h : EvU te σ H xs) (hr : ArgT tr σ H pss) : ArgT (tCons te tr) σ H (xs :: pss) := fun H1 e Q q =>
  h H1 e _ fun p H2 _ e2 hp => hr H2 (e.trans e2) _ fun as H3 e3 hl ha => q (p :: as) H3 (e2.trans e3) (by rw [List.length_cons, List.length_cons, hl]) (fun i a ys h1 h2 => by
    cases i with
    | zero =>
      cases h1
      cases h2
      exact e3 _ _ hp
    | succ i => exact ha i a ys h1 h2)
theorem q_forTs {ta : TA} {j : Nat} {pss : List (List V)} (h : ArgT ta σ H pss) (hz : pss.length ≤ 100) (Pv : Hp → Nat → L2.St → Hp → Prop) (hE : ∀ B i σ' H', Pv B i σ' H' → Ex B H') (h0 : ∀ B, Ex H B → Pv B 0 σ B)
    (hs : ∀ B i a xs σ' H', pss[i]? = some xs → Pv B i σ' H' → H' a = some (.tup xs) → tu { D with nx := Pv B (i + 1), ct := Pv B (i + 1), bk := tz D } (σ'.set j (some (.ref a))) H') (hd : ∀ B σ' H', Pv B pss.length σ' H' → tz D σ' H') :
    tSeq (tFor (iList K (tLst ta)) (gName j) tu) tz D σ H := h H (Ex.refl H) _ fun as H1 e1 hl ha => by
  have hn : (as.map V.ref).length = pss.length := by rw [List.length_map, hl]
  refine ⟨by rw [hn]; exact sz_of (by omega), fun p hp => ⟨p, rfl, ⟨_, sq_of upd_same⟩, ?_⟩⟩
  have eB : Ex H (upd H1 p (.lst (as.map V.ref))) := e1.trans (Ex.new hp)
  refine for_list (K := K) (a := p) (xs := as.map V.ref) (D := { D with nx := tz D }) (Pv (upd H1 p (.lst (as.map V.ref)))) (h0 _ eB) (fun i σ' H' _ q => sq_of (hE _ _ _ _ q _ _ upd_same)) (fun i x σ' H' hi q => ?_) (fun σ' H' q => ?_)
  · rw [List.getElem?_map] at hi
    obtain ⟨a, hai, rfl⟩ := Option.map_eq_some_iff.mp hi
    have hil : i < pss.length := by
      have := (List.getElem?_eq_some_iff.mp hai).1
      omega
    have hxs : pss[i]? = some pss[i] := List.getElem?_eq_getElem hil
    have hta := ha i a _ hai hxs
    have nap : a ≠ p := fun z => by rw [z, hp] at hta; cases hta
    exact hs _ i a _ σ' H' hxs q (hE _ _ _ _ q _ _ (by rw [upd_ne nap]; exact hta))
  · rw [hn] at q
    exact hd _ σ' H' q
end
end Tw
set_option Elab.async false
set_option linter.all false
set_option maxRecDepth 100000
set_option maxHeartbeats 4000000
namespace Tw
open PySem PySem.Spec PyProof.Rows L2 L2H
/-! ### a list comprehension where an exception is handled -/
abbrev blkH (X : Cx) (s : Shared) (H : Hp) (scope : Scope) (cenv : Env) (fp : List Addr) : Cx := { X with s_0 := s, H_0 := H, env := cenv, outer := X.stack, ex := fp, fn := fun x => scope.names.lookup x == some .cell, xe := fun _ _ => False }
section
variable {X : Cx} {pins : List (Addr × Obj)} {σ : L2.St} {H : Hp} {s : Shared}
theorem inv_blkH {scope : Scope} {ce : Env} {fp : List Addr} {s3 s4 : Shared} {H3 : Hp} {σ4 : L2.St} (I3 : Inv X pins σ H3 s3) (hL : s3.heap.objs.size ≤ ce.locals) (hk : ∀ b o, s3.heap.get? b = some o → s4.heap.get? b = some o)
    (I4 : Inv (X.blk s3 H3 scope ce fp) [] σ4 H3 s4) : Inv (blkH X s3 H3 scope ce fp) [] σ4 H3 s4 := by
  have ok := I4.ok
  refine ⟨⟨ok.mod, ok.kind, ok.glob, ok.blt, ok.above, ok.inj, ok.has, ok.cab, ok.hd, ok.frames, ok.stk, ok.exf, ok.bs, ok.bsz, ok.noex, ok.exfs, ok.funs, ok.frf⟩, I4.os, I4.bare, I4.base, I4.loc, I4.cell, I4.free, I4.freeC, fun p hp => ?_, I4.hok, I4.len⟩
  have hp' : p ∈ X.pn := by
    rcases List.mem_append.mp hp with z | z
    · exact z
    · exact absurd z (List.not_mem_nil)
  obtain ⟨h1, h2, h3, h4, h5⟩ := I3.pin p (List.mem_append_left _ hp')
  refine ⟨hk _ _ h1, h2, Nat.ne_of_lt (Nat.lt_of_lt_of_le (Heap.lt_size h1) hL), fun z => ?_, h5⟩
  have z' : p.1 ∈ frs X.stack := z
  rcases I3.ok.stk with e | ⟨e, ef⟩
  · rw [e] at z'
    exact h4 z'
  · rw [e] at z'
    obtain ⟨q, hq, hf⟩ := List.mem_filterMap.mp z'
    rcases List.mem_cons.mp hq with hq | hq
    · rw [hq, ef] at hf
      exact h3 (Option.some.inj hf).symm
    · exact h4 (List.mem_filterMap.mpr ⟨q, hq, hf⟩)
theorem lcH_core {Q : VK} {elt tg iter : Expr} {ifs : List Expr} {scope : Scope} {own : List (Str × Nat)} {pos pos' : Pos} {wi : TI} {g : TG} {tt : TT} {te : TE} {use : Option (Value → Sem Unit)} {Qf : Value → Shared → Prop}
    (hc : HotC X) (hN : X.N.Nodup) (I : Inv X pins σ H s) (hi : PIH X tg iter wi) (ok : BlkOk X.N X.env.scope scope own)
    (hg : ∀ (s : Shared) (H : Hp) (C : Addr) (cl : List (Str × Addr)) (fp : List Addr), PG (blkH X s H scope (compEnvC scope cl C X.env) fp) tg g) (ht : ∀ (s : Shared) (H : Hp) (C : Addr) (cl : List (Str × Addr)) (fp : List Addr), PTs (blkH X s H scope (compEnvC scope cl C X.env) fp) ifs tt)
    (he : ∀ (s : Shared) (H : Hp) (C : Addr) (cl : List (Str × Addr)) (fp : List Addr), PE (blkH X s H scope (compEnvC scope cl C X.env) fp) elt te) (hs : ∀ x, foldedSetIterable iter X.env x = pure x)
    (h : tLc wi g tt te (own.map (·.2)) σ H Q)
    (hRR : ∀ D C s' m H', Inv X pins σ H' s' → Q (.ref D) H' → s'.heap.Ns C m → FpOk X pins H' C → compPost (model X.prog X.w) X.A X.xe use Qf (.ref D) C (.ok .next) s') :
    wpAny (model X.prog X.w) X.A (comprehension (.ListComp elt [⟨tg, iter, ifs, 0⟩] scope pos) scope X.env pos' (newList []) false (eval iter X.env) use) Qf X.xe s := by
  have hfree : ∀ y ∈ scope.names, y.2 = .free → ∃ c, X.env.cells.lookup y.1 = some c := fun y hy e => by
    rcases ok.free y hy e with k | k
    · exact I.ok.has _ (.inl k)
    · exact I.ok.has _ (.inr k)
  refine wpAny_comprehension_free (use := use) rfl hs (closure_ok hfree) ok.kind (fun y hy e => by rw [ok.uniq y hy, e])
    (thn (hi.run pins s σ H _ I h) fun xv s1 hx => thn hx fun itv s2 h2 => ?_)
  obtain ⟨it, fp, tn, J, H2, e, I2, T, st2, f2, q⟩ := h2
  subst e
  refine wpAny_newObj_type (newEnv_comp ?_) (by show 0 ≤ sizeLine; decide)
  generalize hD : s2.heap.objs.size = D
  have hDn : H2 D = none := I2.hok.fresh (Nat.le_of_eq hD)
  obtain ⟨W, ⟨m0, w0⟩, turn⟩ := q D hDn
  generalize hs3 : ({ s2 with heap := s2.heap.push { cls := .type "list", data := .seq ([] : List Value).toArray } } : Shared) = s3
  have I3 : Inv X pins σ (upd H2 D (.lst [])) s3 := by
    rw [← hs3]
    refine I2.laid (t' := s2.toks) (fun b o e => Heap.get?_push_of_some _ e) (Nat.le_of_eq hD) ⟨Nat.zero_le _, [], 0, .nil, ?_⟩
    rw [← hD]
    exact Heap.get?_push_size _ rfl
  have h3 : s3.heap = s2.heap.push { cls := .type "list", data := .seq ([] : List Value).toArray } := by rw [← hs3]
  have sz : ∀ b ∈ fp, b < s2.heap.objs.size := fun b hb => by
    obtain ⟨o, e, _⟩ := T.obj _ _ st2 b hb
    exact Heap.lt_size e
  have f3 : ∀ b ∈ fp, FpOk X pins (upd H2 D (.lst [])) b ∧ b < s3.heap.objs.size := fun b hb => by
    have hlt := sz b hb
    refine ⟨⟨?_, (f2 b hb).2⟩, by rw [h3, Heap.size_push]; exact Nat.lt_succ_of_lt hlt⟩
    rw [upd_ne (by rw [← hD]; exact Nat.ne_of_lt hlt)]
    exact (f2 b hb).1
  have st3 : tn 0 s3.heap := T.keep _ _ _ st2 fun b _ o e => by rw [h3]; exact Heap.get?_push_of_some _ e
  have I4 := block_start I3 ok hN f3
  have pg := hg s3 (upd H2 D (.lst [])) s3.heap.objs.size (cellsFrom (s3.heap.objs.size + 1) scope.names (cloFrom X.env.cells scope.names [])) fp
  have pt := ht s3 (upd H2 D (.lst [])) s3.heap.objs.size (cellsFrom (s3.heap.objs.size + 1) scope.names (cloFrom X.env.cells scope.names [])) fp
  have pe := he s3 (upd H2 D (.lst [])) s3.heap.objs.size (cellsFrom (s3.heap.objs.size + 1) scope.names (cloFrom X.env.cells scope.names [])) fp
  show codeAny _ _ (.compStart (.ListComp elt [⟨tg, iter, ifs, 0⟩] scope pos) 0 (.ref it) (.ref D) (compEnvC scope (cellsFrom (s3.heap.objs.size + 1) scope.names (cloFrom X.env.cells scope.names [])) s3.heap.objs.size X.env)) (compPost (model X.prog X.w) X.A X.xe use Qf (.ref D) s3.heap.objs.size) { s3 with heap := pushCells (s3.heap.push { cls := .type "dict", data := .dict #[] }) scope.names }
  have nfp : ∀ b ∈ fp, (upd H2 D (.lst [])) b = none := fun b hb => (f3 b hb).1.1
  have I4' := inv_blkH I3 (ce := compEnvC scope (cellsFrom (s3.heap.objs.size + 1) scope.names (cloFrom X.env.cells scope.names [])) s3.heap.objs.size X.env) (Nat.le_refl _) (fun b o e => pushCells_keeps _ _ _ _ (Heap.get?_push_of_some _ e)) I4
  clear I4
  have I4 := I4'
  clear I4'
  generalize hce : compEnvC scope (cellsFrom (s3.heap.objs.size + 1) scope.names (cloFrom X.env.cells scope.names [])) s3.heap.objs.size X.env = ce at I4 pg pt pe ⊢
  have cL : ce.locals = s3.heap.objs.size := by subst hce; rfl
  generalize hH3 : upd H2 D (.lst []) = H3 at I3 I4 pg pt pe w0 nfp f3
  generalize hs4 : ({ s3 with heap := pushCells (s3.heap.push { cls := .type "dict", data := .dict #[] }) scope.names } : Shared) = s4 at I4 ⊢
  have st4 : tn 0 s4.heap := T.keep _ _ _ st3 fun b _ o e => by rw [← hs4]; exact pushCells_keeps _ _ _ _ (Heap.get?_push_of_some _ e)
  have hcB : HotC (blkH X s3 H3 scope ce fp) := hc
  have stat : ∀ {σ' : L2.St} {H' : Hp} {s' : Shared}, Inv (blkH X s3 H3 scope ce fp) [] σ' H' s' → (∀ b ∈ fp, H' b = none) → ∀ b ∈ fp, FpOk (blkH X s3 H3 scope ce fp) [] H' b := fun {σ' H' s'} I' hn b hb =>
    ⟨hn b hb, (I'.ok.exf b hb).1, I'.ok.exfs b hb, .inl hb, fun x c e => (I'.ok.exf b hb).2 x c e, fun p hp => (f3 b hb).1.2.2.2.2.2 p (by
      rcases List.mem_append.mp hp with z | z
      · exact List.mem_append_left _ z
      · exact absurd z (List.not_mem_nil))⟩
  have loop : codeAny (model X.prog X.w) X.A (.compLoop (.ListComp elt [⟨tg, iter, ifs, 0⟩] scope pos) 0 (.ref it) (.ref D) ce) (compPost (model X.prog X.w) X.A X.xe use Qf (.ref D) s3.heap.objs.size) s4 := by
    refine compLoop_any (fun n s' => ∃ i H', Inv (blkH X s3 H3 scope ce fp) [] (wipe σ (own.map (·.2))) H' s' ∧ tn i s'.heap ∧ (∀ b ∈ fp, H' b = none) ∧ W i n H') ?_ m0 ⟨0, H3, I4, st4, nfp, w0⟩
    rintro n s5 ⟨i, H5, I5, st5, n5, w5⟩
    rcases turn i n H5 w5 with ⟨stop, qq⟩ | ⟨go, Nx, hNx, step⟩
    · have td := T.done (blkH X s3 H3 scope ce fp) rfl rfl rfl hcB i [] s5 _ H5 (fun _ _ => False) I5 (stat I5 n5) st5 stop
      refine thnF td fun r s6 ⟨hr, I6⟩ => ?_
      subst hr
      have I7 : Inv X pins σ H5 s6 := I3.call' (ch := fp) I6.os I6.base I6.hok I6.bare fun b hb => ⟨(f3 b hb).1.2.2.2.1, (f3 b hb).1.2.1, (f3 b hb).1.2.2.2.2.1, (f3 b hb).1.2.2.2.2.2⟩
      have nC : H5 s3.heap.objs.size = none := by
        have z : H5 ce.locals = none := I6.free
        rw [cL] at z
        exact z
      obtain ⟨m, hn, _⟩ := I6.loc
      have hn : s6.heap.Ns ce.locals m := hn
      rw [cL] at hn
      exact hRR D s3.heap.objs.size s6 m H5 I7 qq hn (I3.fpOk (Nat.le_refl _) nC)
    · have ti := T.item (blkH X s3 H3 scope ce fp) rfl rfl rfl hcB i [] s5 _ H5 (fun _ _ => False) I5 (stat I5 n5) st5 go
      refine thnF ti fun r s6 ⟨u, hr, h6⟩ => ?_
      subst hr
      refine thnF h6 fun _ s7 ⟨x, H7, I7, r7, y7, st7, n7⟩ => ?_
      have I7' := I7.pinned (stat I7 n7) (T.obj _ _ st7)
      refine thnF (pg.run _ s7 _ H7 x u _ I7' r7 (step x H7 y7)) fun _ s8 ⟨σ8, H8, I8, hw8, q8⟩ => ?_
      refine thnF (pt.run _ s8 σ8 H8 _ I8 q8) fun b s9 ⟨H9, I9, q9⟩ => ?_
      have fin : ∀ {s' : Shared} {H' : Hp}, Inv (blkH X s3 H3 scope ce fp) ([] ++ pinsAt fp s7.heap) σ8 H' s' → Nx H' → ∃ m, m < n ∧ ∃ i H', Inv (blkH X s3 H3 scope ce fp) [] (wipe σ (own.map (·.2))) H' s' ∧ tn i s'.heap ∧ (∀ b ∈ fp, H' b = none) ∧ W i m H' := fun {s' H'} I' nx => by
        obtain ⟨m', hm, w'⟩ := hNx H' nx
        have pin' : ∀ b ∈ fp, ∀ o, s7.heap.get? b = some o → s'.heap.get? b = some o ∧ H' b = none := fun b hb o e =>
          let z := I'.pin (b, o) (List.mem_append_right _ (List.mem_append_right _ (mem_pinsAt hb e)))
          ⟨z.1, z.2.1⟩
        have hl : (wipe σ (own.map (·.2))).length = σ8.length := by rw [← hw8, wipe_length]
        refine ⟨m', hm, i + 1, H', (I'.unpinned (pins := [])).weak hl (fun j v e => ?_), T.keep _ _ _ st7 fun b hb o e => (pin' b hb o e).1, fun b hb => ?_, w'⟩
        · rw [← hw8] at e
          exact (wipe_some e).1
        · obtain ⟨o, e, _⟩ := T.obj _ _ st7 b hb
          exact (pin' b hb o e).2
      cases b with
      | false =>
        simp only [Bool.false_eq_true, if_false] at q9 ⊢
        exact fin I9 q9
      | true =>
        simp only [if_true] at q9 ⊢
        refine thnF (pe.run _ s9 σ8 H9 _ I9 q9) fun z s10 ⟨yv, H10, I10, r10, acc, hD10, hz10, nx⟩ => ?_
        exact app_ok (X := blkH X s3 H3 scope ce fp) I10 hD10 hz10 r10 fun s11 I11 => fin I11 nx
  exact codeAny_compStart_list loop (T.self X.A 0 _ _ _ st4 loop)
theorem pe_lcH {elt tg iter : Expr} {ifs : List Expr} {scope : Scope} {own : List (Str × Nat)} {pos : Pos} {wi : TI} {g : TG} {tt : TT} {te : TE} (hc : HotC X) (hN : X.N.Nodup) (hi : PIH X tg iter wi) (ok : BlkOk X.N X.env.scope scope own)
    (hg : ∀ (s : Shared) (H : Hp) (C : Addr) (cl : List (Str × Addr)) (fp : List Addr), PG (blkH X s H scope (compEnvC scope cl C X.env) fp) tg g) (ht : ∀ (s : Shared) (H : Hp) (C : Addr) (cl : List (Str × Addr)) (fp : List Addr), PTs (blkH X s H scope (compEnvC scope cl C X.env) fp) ifs tt)
    (he : ∀ (s : Shared) (H : Hp) (C : Addr) (cl : List (Str × Addr)) (fp : List Addr), PE (blkH X s H scope (compEnvC scope cl C X.env) fp) elt te) (hs : ∀ x, foldedSetIterable iter X.env x = pure x := by intro _; rfl) :
    PE X (.ListComp elt [⟨tg, iter, ifs, 0⟩] scope pos) (tLc wi g tt te (own.map (·.2))) := by
  refine ⟨fun pins s σ H Q I h => ?_⟩
  rw [eval_ListComp]
  refine lcH_core hc hN I hi ok hg ht he hs h fun D C s' m H' I' q hn f => ⟨m, hn, fun h'' sb => ?_⟩
  obtain ⟨f0, f1, f2, f3, f4, f5⟩ := f
  exact ⟨.ref D, H', I'.turned (t' := s'.toks) (fun b o hb e => (sb.2 b hb).trans e) f0 f1 f3 f4 f5, rfl, q⟩
/-! ### isinstance of the handled exception, where it is a pin -/
def rIsP (K : PySem.W.Frag) (cls : Value) (d : Option Addr) (a : Addr) : List V → Hp → VK → Prop := fun xs H Q => ∃ (D : Addr) (c : V) (cv : Value) (b : Bool), cls = .ref D ∧ d = none ∧ ExcC K D ∧ xs = [.ref a, c] ∧ (∀ u, RelV c u → u = cv) ∧ PySem.W.kitOne K (.ref D) cv = some b ∧ Q (.bl b) H
theorem call_isP {K : PySem.W.Frag} {a : Addr} {cls : Value} {d : Option Addr} {oe : Obj} (hK : X.K = K) (hp : (a, oe) ∈ X.pn) (hz : Zc cls d oe) (hf : ∃ vs, oe.data = .fields vs) : CallR X (.builtin "isinstance") (rIsP K cls d a) := by
  subst hK
  intro pins s σ H xs us Q I r h
  obtain ⟨D, c, cv, b, rfl, rfl, C, rfl, hcv, e, q⟩ := h
  cases r with
  | cons rx rr =>
    cases rr with
    | cons rt rr =>
      cases rr
      cases rx
      have ec := hcv _ rt
      subst ec
      obtain ⟨hget, _⟩ := I.pin (a, oe) (List.mem_append_left _ hp)
      obtain ⟨vs, hv⟩ := hf
      have J : PySem.W.InstAt s.heap a oe D none := by
        obtain ⟨oc, od, oda, osl⟩ := oe
        obtain ⟨h1, h2⟩ := hz
        dsimp only at h1 h2 hv
        subst h1 h2 hv
        exact ⟨hget, rfl, rfl, trivial⟩
      exact PySem.W.kia_one (PySem.W.handS_kitx_exc C.hg C.hk C.hs C.hd C.ha C.hn C.ht C.hm) I.kIn J e (fun z => nomatch z) fun tk => ⟨.bl b, H, I.kept (t' := tk) fun _ _ z => z, rfl, q⟩
end
end Tw
namespace Tw
open PySem PySem.Spec PyProof.Rows L2 L2H
/-! ### a def that is handed the handled exception -/
structure FnP (P : Program) (w : World) (K : PySem.W.Frag) (mg : Str → Option Value) (base : Heap) (CX : CXT) (k : Nat) (f : Addr) (fd : FuncData) (ps : List Str) (sp : Addr → Value → Option Addr → Sp) : Prop where
  len : ∀ a c d vs H Q E, sp a c d vs H Q E → vs.length = ps.length
  run : ∀ (A : Around) (outer : List Env) (s : Shared) (H : Hp) (args : Args) (us : List Value) (vs : List V) (Q : VK) (E : XK) (p : Addr × Obj) (c : Value) (d : Option Addr), Zc c d p.2 → RoomH k A → Hot1 A p → PinOk outer H s p → Env0 P w K mg base A outer s H → BindsTo s fd args (ps.zip us) → Vals vs us → sp p.1 c d vs H Q E →
    codeAny (model P w) A (.call (.ref f) args) (CR CX outer P w H s Q E) s
theorem fn_ofP {CX : CXT} {P : Program} {w : World} {K : PySem.W.Frag} {mg : Str → Option Value} {base : Heap} {k : Nat} {f : Addr} {name qual : Str} {params : Arguments} {body : List Stmt} {scope : Scope} {dV kV doc pm cdv ct oc : Value} {an od : Option Addr}
    {osl : Array (Option Value)} {N ps : List Str} {sp : Addr → Value → Option Addr → Sp} (lk : K.lookup f = some ⟨oc, od, .func (PySem.W.fnOf name qual params body scope dV kV doc pm an cdv ct), osl⟩) (hcd : PySem.W.codeIn K cdv qual = true) (S : FnScope N ps scope)
    (len : ∀ a c d vs H Q E, sp a c d vs H Q E → vs.length = ps.length)
    (hbody : ∀ (A : Around) (outer : List Env) (s : Shared) (H : Hp) (vs : List V) (Q : VK) (E : XK) (p : Addr × Obj) (c : Value) (d : Option Addr), Zc c d p.2 → Hot1 A p → RoomH k (A.deeper (envOfC qual scope s.heap.objs.size f cdv)) → sp p.1 c d vs H Q E →
      ∃ t, PSs (cxH CX P w K mg base N qual scope f cdv A outer s H E p) body t ∧ t { nx := fun _ H' => Q .non H', rt := Q } (L2.start N vs) H) :
    FnP P w K mg base CX (k + 1) f (PySem.W.fnOf name qual params body scope dV kV doc pm an cdv ct) ps sp := by
  refine ⟨len, fun A outer s H args us vs Q E p c d hz hr hot hpin e0 hb r hsp => ?_⟩
  have hl := len _ _ _ _ _ _ _ hsp
  have KX : K.In s.heap := e0.mod.kin.keeps fun b o e => (e0.bs b o e).1
  have lim : s.heap.NoLimit := e0.mod.nolimit.keeps fun b o e => (e0.bs b o e).1
  have hkind : ∀ y ∈ ps.zip us, scope.names.lookup y.1 = some .local ∨ (scope.names.lookup y.1 = some .cell ∧ ((cellsFrom (s.heap.objs.size + 1) scope.names []).lookup y.1).isSome = true) := fun ⟨n, v⟩ hy => by
    rcases S.par n (List.of_mem_zip hy).1 with q | q
    · exact .inl q
    · exact .inr ⟨q, PySem.W.cellsFrom_some _ _ _ (.inl q)⟩
  refine codeAny_call_function hr.depth (KX _ _ lk) rfl S.co S.gen rfl (PySem.W.codeRec_of KX hcd) (hb _ _ _ _ ?_)
  refine wpAny_newFunctionEnv_cells S.kind hkind fun env he s1 x => ?_
  subst he
  refine ⟨lim.keeps x.toInCall.keep, codeAny_func ?_⟩
  obtain ⟨t, ht, hq⟩ := hbody A outer s H vs Q E p c d hz hot (hr.deeper _) hsp
  have I : Inv (cxH CX P w K mg base N qual scope f cdv A outer s H E p) [] (L2.start N vs) H s1 := inv_startH S hpin e0 hl r x
  refine wpAny_mono (ht.run [] s1 (L2.start N vs) H _ I hq) (fun fl s' hs => ?_) fun e s' hs => hs
  have fin : ∀ {σ' : L2.St} {H' : Hp} {v : V} {u : Value}, Inv (cxH CX P w K mg base N qual scope f cdv A outer s H E p) [] σ' H' s' → RelV v u → Q v H' → CE outer P w H s Q u s' :=
    fun {σ' H' v u} J rv q => ⟨v, H', J.os, J.bare, J.base, J.hok, rv, q⟩
  cases fl with
  | ret u =>
    obtain ⟨v, σ', H', J, rv, q⟩ := hs
    exact fin J rv q
  | next =>
    obtain ⟨σ', H', J, q⟩ := hs
    exact fin (v := V.non) (u := Value.none) J rfl q
  | brk =>
    obtain ⟨_, _, _, q⟩ := hs
    exact False.elim q
  | cont =>
    obtain ⟨_, _, _, q⟩ := hs
    exact False.elim q
section
variable {P : Program} {w : World} {K : PySem.W.Frag} {mg : Str → Option Value} {base : Heap}
theorem Fun.okP {x qual : Str} {st : Stmt} {f : Addr} {fd : FuncData} {N ps : List Str} {k : Nat} {sp : Addr → Value → Option Addr → Sp} (F : Fun K x qual st f fd) (S : FnScope N ps (defScope st)) (len : ∀ a c d vs H Q E, sp a c d vs H Q E → vs.length = ps.length)
    (hbody : ∀ (cdv : Value) (A : Around) (outer : List Env) (s : Shared) (H : Hp) (vs : List V) (Q : VK) (E : XK) (p : Addr × Obj) (c : Value) (d : Option Addr), Zc c d p.2 → Hot1 A p → sp p.1 c d vs H Q E →
      ∃ t, PSs (cxH CX0 P w K mg base N qual (defScope st) f cdv A outer s H E p) (defBody st) t ∧ t { nx := fun _ H' => Q .non H', rt := Q } (L2.start N vs) H) : FnP P w K mg base CX0 (k + 1) f fd ps sp := by
  obtain ⟨oc, od, kV, doc, pm, an, cdv, ct, osl, rfl, lk, hcd⟩ := F.ex
  exact fn_ofP lk hcd S len fun A outer s H vs Q E p c d hz hot hr hsp => hbody cdv A outer s H vs Q E p c d hz hot hsp
/-- a def that may raise, nothing being handled -/
theorem Fun.okN {x qual : Str} {st : Stmt} {f : Addr} {fd : FuncData} {N ps : List Str} {k : Nat} {sp : Sp} (F : Fun K x qual st f fd) (S : FnScope N ps (defScope st)) (len : ∀ vs H Q E, sp vs H Q E → vs.length = ps.length)
    (hbody : ∀ (cdv : Value) (A : Around) (outer : List Env) (s : Shared) (H : Hp) (vs : List V) (Q : VK) (E : XK), Room k (A.deeper (envOfC qual (defScope st) s.heap.objs.size f cdv)) → sp vs H Q E →
      ∃ t, PSs (cxOf (L2N.CX P w) P w K mg base N qual (defScope st) f cdv A outer s H E) (defBody st) t ∧ t { nx := fun _ H' => Q .non H', rt := Q } (L2.start N vs) H) : FnOk P w K mg base (L2N.CX P w) (k + 1) f fd ps sp := by
  obtain ⟨oc, od, kV, doc, pm, an, cdv, ct, osl, rfl, lk, hcd⟩ := F.ex
  exact fn_of lk hcd S len fun A outer s H vs Q E hr hsp => hbody cdv A outer s H vs Q E hr hsp
end
section
variable {X : Cx} {CX : CXT} {k : Nat} {f C : Addr} {fd : FuncData} {ps : List Str} {sp : Addr → Value → Option Addr → Sp} {x : Str} {q pos : Pos} {e : Expr} {es : List Expr} {t : TA}
theorem pe_callP {a : Addr} {oe : Obj} {c : Value} {d : Option Addr} (F : FnP X.prog X.w X.K X.mg X.base CX0 k f fd ps sp) (hr : RoomH k X.A) (hot : Hot1 X.A (a, oe)) (hp : (a, oe) ∈ X.pn) (hz : Zc c d oe) (hg : Gl X x) (hm : X.mg x = some (.ref f)) (hk : PySem.W.keepIn X.K (.ref f) = true) (hb : Binds X.K fd ps [])
    (ha : PA X (e :: es) t) (hdb : (x == ("__debug__" : Str)) = false := by decide) (he : starEach (e :: es) X.env = (false, eval e X.env) :: starEach es X.env := by rfl) (hpl : (backTo pos (starEach es X.env)).any (·.1) = false := by rfl) :
    PE X (.Call (.Name x q) (e :: es) [] pos) (tCall (sp a c d) [] E0 t) := by
  refine ⟨fun pins s σ H Q I h => ?_⟩
  refine wpAny_Call_Name_kw (ld_glob I hg hm ?_ hdb)
  refine PySem.W.callWith_K (h₀ := X.base) I.ok.mod.kin hk (thn (ha.run pos pins s σ H _ I h) fun us s1 ⟨vs, H1, I1, r, q⟩ => ⟨I1.kIn, ?_⟩) he hpl
  have q : sp a c d (vs ++ []) H1 Q E0 := q
  rw [List.append_nil] at q
  have hl : us.length = ps.length := by rw [← r.length]; exact F.len _ _ _ _ _ _ _ q
  have b := hb s1 us I1.kIn (by rw [List.append_nil]; exact hl)
  rw [List.append_nil] at b
  have P1 := I1.pin (a, oe) (List.mem_append_left _ hp)
  have hpin : PinOk X.stack H1 s1 (a, oe) := ⟨P1.1, P1.2.1, fun hm => (List.mem_cons.mp (I1.stkSub a hm)).elim P1.2.2.1 P1.2.2.2.1, P1.2.2.2.2⟩
  refine wpAny_call (codeAny_mono (F.run X.A X.stack s1 H1 ⟨us, []⟩ us vs Q E0 (a, oe) c d hz hr hot hpin I1.env0 b r q) fun r s' hq => ?_)
  cases r with
  | error e => exact False.elim hq
  | ok fl =>
    cases fl with
    | ret u => exact I1.after hq
    | next => exact False.elim hq
    | brk => exact False.elim hq
    | cont => exact False.elim hq
/-- nothing is let out around -/
theorem takesN0 : L2N.Takes X (fun _ _ _ _ => False) := fun _ _ x => by
  obtain ⟨_, _, _, _, _, _, _, _, _, _, _, _, _, _, _, _, z⟩ := x
  exact z.elim
end
/-! ### what the written part says of an own exception class -/
structure ExF (K : PySem.W.Frag) (C : Addr) : Prop where
  x : PySem.W.excIn K C [.type "ValueError", .type "Exception", .type "BaseException", .type "object"] "ValueError.__new__" = true
  k : PySem.W.keepIn K (.ref C) = true
  t : PySem.W.typeIn K (.ref C) = some (.type "type")
  e : ExcC K C
theorem kit_ref {K : PySem.W.Frag} {D C : Addr} {b : Bool} (hd : PySem.W.hasDictIn K C = true) (ht : PySem.W.typeIn K (.ref C) = some (.type "type")) (hs : PySem.W.subIn K (.ref D) (.ref C) = some b) (hb : D = C → b = true) : PySem.W.kitOne K (.ref D) (.ref C) = some b := by
  unfold PySem.W.kitOne
  split
  · rename_i h
    have e : Value.ref D = Value.ref C := eq_of_beq h
    injection e with e
    rw [hb e]
  · obtain ⟨cd, hc, _⟩ := PySem.W.any_some hd
    show PySem.W.kitCls K (.ref D) (.ref C) = some b
    unfold PySem.W.kitCls
    show (if ((PySem.W.clsIn K C).isSome && PySem.W.typeIn K (.ref C) == some (.type "type")) = true then PySem.W.subIn K (.ref D) (.ref C) else none) = some b
    rw [if_pos (by rw [hc, ht] <;> rfl)]
    exact hs
theorem kit_bt {K : PySem.W.Frag} {D : Addr} {T : String} {b : Bool} (ht : PySem.W.kitMeta T = true) (hs : PySem.W.subIn K (.ref D) (.type T) = some b) : PySem.W.kitOne K (.ref D) (.type T) = some b := by
  unfold PySem.W.kitOne
  rw [if_neg (fun h => by have e := eq_of_beq h; cases e)]
  show PySem.W.kitCls K (.ref D) (.type T) = some b
  unfold PySem.W.kitCls
  show (if PySem.W.kitMeta T = true then PySem.W.subIn K (.ref D) (.type T) else none) = some b
  rw [if_pos ht]
  exact hs
section
variable {X : Cx}
/-- a call that lets nothing out after all -/
theorem passN : Passes (L2N.CX X.prog X.w) X E0 := fun _ _ _ _ _ _ _ h => by
  obtain ⟨_, _, _, _, _, _, _, _, _, _, _, _, z⟩ := h
  exact z.elim
theorem roomH_suite {k : Nat} {A : Around} {v : Option Value} (r : Room k A) : RoomH k (A.mark v) := ⟨r.dp, r.un⟩
/-- the handled exception of a suite -/
theorem hot_suite {A : Around} {a : Addr} {oe : Obj} {cls : Value} {d : Option Addr} (hz : L2N.Zn cls d oe) (hf : ∃ vs, oe.data = .fields vs) : Hot1 (A.mark (some (.ref a))) (a, oe) := by
  obtain ⟨vs, hv⟩ := hf
  exact ⟨rfl, vs, hv, hz.2.2 vs hv⟩
end
section
variable {K : PySem.W.Frag} {σ : L2.St} {H : Hp} {D : Ends}
open Evl
theorem s_dropS {ta : TA} {sp : Sp} {vs : List V} {E : L2.St → XK} (h : EvA ta σ H vs) (k : ∀ H1, Ex H H1 → sp vs H1 (fun _ H2 => D.nx σ H2) (E σ)) : tDrop (tCallS sp E ta) D σ H := h H (Ex.refl H) _ k
/-- if f(..) is not None, told by f's own promise -/
theorem s_ifNotN {ta : TA} {sp : Sp} {dvs vs : List V} {E : XK} {tu tw : TS} (h : EvA ta σ H vs) (k : ∀ H1, Ex H H1 → sp (vs ++ dvs) H1 (fun x H2 => rNotN x .non H2 fun z H' => ∃ c, z = .bl c ∧ (if c = true then tu D σ H' else tw D σ H')) E) :
    tIfS (tTest (tOp rNotN (tCall sp dvs E ta) (tC .non))) tu tw D σ H := h H (Ex.refl H) _ k
theorem rc_isP {a C Dd : Addr} {cls : Value} {d : Option Addr} {b : Bool} (h1 : cls = .ref Dd) (h2 : d = none) (ec : ExcC K Dd) (hk : PySem.W.kitOne K (.ref Dd) (.ref C) = some b) : RC (rIsP K cls d a) [.ref a, .ref C] H (.bl b) :=
  fun H1 _ _ q => ⟨Dd, .ref C, .ref C, b, h1, h2, ec, rfl, fun _ r => r, hk, q H1 (Ex.refl H1)⟩
theorem rc_isPT {a Dd : Addr} {T : String} {cls : Value} {d : Option Addr} {b : Bool} (h1 : cls = .ref Dd) (h2 : d = none) (ec : ExcC K Dd) (hk : PySem.W.kitOne K (.ref Dd) (.type T) = some b) : RC (rIsP K cls d a) [.ref a, .ty T] H (.bl b) :=
  fun H1 _ _ q => ⟨Dd, .ty T, .type T, b, h1, h2, ec, rfl, fun _ r => r, hk, q H1 (Ex.refl H1)⟩
/-- the refusal by its number -/
def sp_kind (K : PySem.W.Frag) (L : List Addr) : Addr → Value → Option Addr → Sp := fun a cls d vs H Q _ => ∃ (Dd : Addr) (j : Nat), cls = .ref Dd ∧ d = none ∧ vs = [.ref a] ∧ ExcC K Dd ∧ j < 10 ∧ (∀ i C, L[i]? = some C → PySem.W.kitOne K (.ref Dd) (.ref C) = some (decide (i = j))) ∧ RetV (.int (11 + (j : Int))) H Q
end
/-! ### the end of a list's walk, and sum, where an exception is handled -/
section
open PySem PySem.Calls HotX
variable {prog : Program} {w : World} {A : Around} {E : Value → Shared → Prop} {s : Shared}
def HotObj (x1 : Addr) (h : Heap) : Prop := ∃ (o : Obj) (vs : Array Value), h.get? x1 = some o ∧ o.data = .fields vs ∧ vs[2]? = some .none
theorem pyNext_list_end_hot {it l x1 : Addr} {i : Nat} {items : Array Value} {Q : Option Value → Shared → Prop} (hh : A.handled = some (.ref x1)) (hot : HotObj x1 s.heap)
    (hit : s.heap.IsListIter it l i) (hl : s.heap.IsList l items) (hx : items[i]? = none)
    (hQ : ∀ h', Heap.ExtBut it s.heap h' → Q none { s with heap := h' }) : wpAny (model prog w) A (pyNext (.ref it)) Q E s := by
  obtain ⟨o, ho, hc, hd⟩ := id hit
  obtain ⟨ol, hol, _, nl, hdl⟩ := hl
  obtain ⟨o1, vs1, h1, d1, c1⟩ := hot
  have nx : x1 ≠ it := fun z => by
    rw [z, ho] at h1
    cases h1
    rw [hd] at d1
    cases d1
    cases c1
  unfold pyNext
  refine wpAny_bind (wpAny_attempt (wpAny_callSpecial?_slot (name := Str.ofString "__next__") hit.typeIs slot_listiter_next
    (wpAny_call_entry slot_listiter_next hit.typeIs entry_listiter_next ?_ (args_listiter_next _))))
  show wpAny _ _ (field (.ref it) 0 >>= _) _ _ s
  refine wpAny_bind (wpAny_field ho hd (x := .ref l) rfl ?_)
  show wpAny _ _ (if (Value.ref l == Value.none) = true then _ else _) _ _ s
  rw [if_neg (show ¬ ((Value.ref l == Value.none) = true) from Bool.false_ne_true)]
  show wpAny _ _ (field (.ref it) 1 >>= _) _ _ s
  refine wpAny_bind (wpAny_field ho hd (x := .int i 0) rfl ?_)
  show wpAny _ _ (seqItems? (.ref l) >>= _) _ _ s
  refine wpAny_bind (wpAny_seqItems hol hdl ?_)
  simp only [Int.toNat_natCast, hx]
  refine wpAny_bind (wpAny_rule (wpAny_bind (wpAny_setField ho hd (by simp) ?_)))
  show wpAny _ _ (newExc (.type "StopIteration") [] >>= _) _ _ _
  refine wpAny_bind ?_
  simp only [newExc, newTuple]
  refine wpAny_bind (wpAny_newObj_type ?_ (by size_fits))
  refine wpAny_bind (m := firstArgMember _ _) (wpAny_of_eq (a := Value.none) (by first | rfl | (simp only [firstArgMember]; rfl)) ?_)
  refine wpAny_newObj_type ?_ (by size_fits)
  have h1' := (Heap.get?_update_other s.heap (Obj.mapFields (·.setIfInBounds 0 .none)) (Ne.symm nx)).trans h1
  refine raiseNew_hot ⟨hh, o1, vs1, Heap.get?_push_of_some _ (Heap.get?_push_of_some _ h1'), d1, c1⟩ (Nat.ne_of_lt (Heap.lt_size (Heap.get?_push_of_some _ h1'))) (Heap.get?_push_size _ rfl) rfl (by first | (simp; done) | (simp; omega) | (simp only [Array.size_append]; simp; omega)) ?_
  refine wpAny_bind (wpAny_isInstance (T := "StopIteration") (b := true) ⟨_, Heap.get?_update_self _ (Heap.get?_push_size _ rfl) rfl, rfl⟩ isSubtype_stop ?_)
  refine wpAny_pure (hQ _ fun b o hb e => ?_)
  have e1 := (Heap.get?_update_other s.heap (Obj.mapFields (·.setIfInBounds 0 .none)) (Ne.symm hb)).trans e
  rw [Heap.get?_update_other _ _ (Nat.ne_of_gt (Heap.lt_size (Heap.get?_push_of_some _ e1)))]
  exact Heap.get?_push_of_some _ (Heap.get?_push_of_some _ e1)
theorem walksH {I ax x1 : Addr} (hh : A.handled = some (.ref x1)) (hne : ax ≠ I) (hx : x1 ≠ I) (items : Array Value) :
    Walks prog w A I [I, ax, x1] [I] items.size (fun i v => items[i]? = some v) (fun i h => (h.IsListIter I ax i ∧ h.IsList ax items) ∧ HotObj x1 h) where
  sub := fun b hb => by simp at hb; simp [hb]
  frame := fun _ _ _ st hk => ⟨⟨st.1.1.at fun o e => hk I (by simp) o e, st.1.2.at fun o e => hk ax (by simp) o e⟩, by
    obtain ⟨o, vs, h1, h2⟩ := st.2
    exact ⟨o, vs, hk x1 (by simp) o h1, h2⟩⟩
  item := fun i s Q E hi st hQ => by
    refine wpAny_pyNext_list_item st.1.1 st.1.2 (x := items[i]) (by simp [hi]) fun h' hit' hs' => ?_
    refine hQ _ h' s.toks (by simp [hi]) ⟨⟨hit', st.1.2.extBut hs'.extBut hne⟩, ?_⟩ fun b o hb e => hs'.extBut b o (fun h => hb (by simp [h])) e
    obtain ⟨o, vs, h1, h2⟩ := st.2
    exact ⟨o, vs, hs'.extBut x1 o hx h1, h2⟩
  done := fun s Q E st hQ => pyNext_list_end_hot hh st.2 st.1.1 st.1.2 (by simp) fun h' he' => hQ h' s.toks fun b o hb e => he' b o (fun h => hb (by simp [h])) e
  self := fun _ _ _ _ st hQ => wpAny_pyIter_listiter st.1.1 hQ
theorem sum_hot {l x1 : Addr} {xs : Array (Int × Tok)} {Q : Value → Shared → Prop} (hh : A.handled = some (.ref x1)) (hot : HotObj x1 s.heap) (hl : s.heap.IsList l (intItems xs))
    (h : ∀ h' tk t', (∀ b o, s.heap.get? b = some o → h'.get? b = some o) → Q (.int (preSum (numAt xs) xs.size) t') { s with heap := h', toks := tk }) :
    wpAny (model prog w) A (call (.builtin "sum") [.ref l]) Q E s := by
  refine call_sum_walkG (iter_intList hl fun s₂ e st hfp hlI => ?_)
  subst e
  obtain ⟨o, vs, h1, h2, h3⟩ := hot
  have hlt := Heap.lt_size h1
  refine ⟨_, _, _, _, _, _, numAt xs, rfl, walksH (A := A.in1) (x1 := x1) hh hlI (Nat.ne_of_lt hlt) (intItems xs), ⟨st, o, vs, Heap.get?_push_of_some _ h1, h2, h3⟩, fun b hb => ?_, (fun _ _ => intItems_at), fun h' tk t' hk => ?_⟩
  · rcases List.mem_cons.mp hb with z | z
    · exact hfp b (by rw [z]; exact List.mem_cons_self ..)
    · rcases List.mem_cons.mp z with z | z
      · exact hfp b (by rw [z]; simp)
      · rw [List.mem_singleton.mp z]
        show x1 < (s.heap.push _).objs.size
        rw [Heap.size_push]
        exact Nat.lt_succ_of_lt hlt
  · have := h h' tk t' (old_kept hk)
    simpa [intItems] using this
end
section
variable {X : Cx}
open PyProof.Rows L2 L2H
theorem cr_sumH (hc : HotC X) : CallR X (.builtin "sum") (rSum X.K) := by
  intro pins s σ H vs us Q I r h
  obtain ⟨a, ns, rfl, hs, q⟩ := h
  obtain ⟨its, rv, hl, _⟩ := I.list hs
  rw [Vals.ref1 r]
  obtain ⟨p, ⟨hh, v1, e1, c1⟩, hp⟩ := hc
  have P1 := (I.pin p (List.mem_append_left _ hp)).1
  obtain ⟨xs, e⟩ := rv.ints.allInts.items
  have hn : numsOf (intItems xs).toList = ns := by rw [← e]; exact rv.ints.numsOf
  rw [nums_intItems] at hn
  have hl' := hl.isList
  rw [e] at hl'
  refine sum_hot hh ⟨p.2, v1, P1, e1, c1⟩ hl' fun h' tk t' hk => ?_
  rw [preSum_eq, List.take_of_length_le (by simp), hn]
  exact ⟨.int _, H, I.kept hk, ⟨_, rfl⟩, q⟩
/-- an item of a list, the written part named -/
theorem ixL {K : PySem.W.Frag} (h : X.K = K) : IxR X (rIxL K) := by
  rw [← h]
  exact ix_list
end
end Tw
set_option Elab.async false
set_option linter.all false
set_option maxRecDepth 100000
set_option maxHeartbeats 2000000
/-! enumerate(l, start=c); a tuple's parts given to names; reversed(range(n)). -/
namespace TwE
open PySem PySem.Spec PyProof.Rows L2 Evl Tw
open PySem.Sem (wp)
/-! ### a class called with keywords -/
section
variable {M : Model} {A : Around} {E : Value → Shared → Prop} {s : Shared} {env : Env}
theorem cw_typeKw {pos : Pos} {T : String} {e : Expr} {es : List Expr} {kws : List Keyword} {Q : Value → Shared → Prop}
    (hall : (backToKw pos (keywordEach kws env)).all (·.1.isSome) = true)
    (h : wpAny M A (spliced (backTo pos (starEach (e :: es) env))) (fun vs s1 => wpAny M A (evalAll ((backToKw pos (keywordEach kws env)).map (·.2)))
      (fun ks s2 => wpAny M A (call (.type T) vs (((backToKw pos (keywordEach kws env)).filterMap (·.1)).zip ks)) Q E s2) E s1) E s)
    (ha : starEach (e :: es) env = (false, eval e env) :: starEach es env) (hp : (backTo pos (starEach es env)).any (·.1) = false)
    (hk : (backToKw pos (keywordEach kws env)).any (·.1.isNone) = false) :
    wpAny M A (callWith pos (.type T) [] (backTo pos (starEach (e :: es) env)) (backToKw pos (keywordEach kws env))) Q E s := by
  have hp1 : (backTo pos (starEach (e :: es) env)).any (·.1) = false := by
    rw [ha]
    show (false || (backTo pos (starEach es env)).any (·.1)) = false
    rw [hp] <;> rfl
  unfold callWith
  refine wpAny_bind (wpAny_holding (wpAny_mono (evalArgs_kw2 (Q := fun a s1 => wpAny M A (call (.type T) ([] ++ a.pos) a.kw) Q E s1) hall h ha) (fun a s1 h1 => wpAny_bind (wpAny_standAt ?_)) fun _ _ x => x))
  simp only [hp1, hk, Bool.or_false]
  refine wpAny_bind (wpAny_pure ?_)
  exact wpAny_bind (wpAny_mono h1 (fun r s2 hr => wpAny_bind (wpAny_holding (wpAny_point (wpAny_pure hr)))) fun _ _ x => x)
end
/-! ### enumerate from a count on -/
/-- pairs of a number from c on and what the list at l has there -/
def ItC (K : PySem.W.Frag) (l : Addr) (c : Int) : It where
  go := fun i H => ∃ (ys : List V) (y : V), SqL K H l ys ∧ ys[i]? = some y
  yld := fun i H v H' => ∃ (T : Addr) (y : V), v = .ref T ∧ H T = none ∧ H' = upd H T (.tup [.int (c + (i : Int)), y]) ∧ ∀ ys, SqL K H l ys → ys[i]? = some y
  stop := fun i H => ∃ ys : List V, SqL K H l ys ∧ ys.length ≤ i
/-- what stands between two turns -/
def TnC (l : Addr) (c : Int) (e j : Addr) (i : Nat) (h : Heap) : Prop := (∃ old, IsEnum h e j (c + (i : Int)) old) ∧ h.IsListIter j l i ∧ e ≠ j
theorem apart_li {h : Heap} {l j : Addr} {i : Nat} {its : Array Value} (h1 : h.IsList l its) (h2 : h.IsListIter j l i) : l ≠ j := fun z => by
  obtain ⟨o, g, c, _⟩ := h1
  obtain ⟨o2, g2, c2, _⟩ := h2
  rw [z, g2] at g
  cases g
  rw [c2] at c
  exact absurd c (by decide)
theorem apart_le {h : Heap} {l e j : Addr} {i : Int} {old : Value} {its : Array Value} (h1 : h.IsList l its) (h2 : IsEnum h e j i old) : e ≠ l := fun z => by
  obtain ⟨o, g, c, _⟩ := h1
  rw [← z, h2] at g
  cases g
  exact absurd (Value.type.inj c : ("enumerate" : String) = "list") (by decide)
theorem end_of {prog : Program} {w : World} {A : Around} {E : Value → Shared → Prop} {s : Shared} {e j l : Addr} {i : Nat} {c : Int} {its : Array Value} {old : Value} {Q : Option Value → Shared → Prop} (hh : A.in1.handled = none) (he : IsEnum s.heap e j c old) (hj : s.heap.IsListIter j l i) (hl : s.heap.IsList l its) (hx : its[i]? = none) (hQ : ∀ h1, Heap.ExtBut j s.heap h1 → Q none { s with heap := h1 }) : wpAny (model prog w) A (pyNext (.ref e)) Q E s := by
  have hT : s.TypeIs (.ref e) "enumerate" := ⟨_, he, rfl⟩
  unfold pyNext
  refine wpAny_bind (wpAny_attempt (wpAny_callSpecial?_slot (name := Str.ofString "__next__") hT F.slot_enumerate_next (wpAny_call_entry F.slot_enumerate_next hT F.entry_enumerate_next ?_ (F.args_enumerate_next_1 _))))
  show wpAny _ _ (field (.ref e) 2 >>= fun _ => _) _ _ _
  refine wpAny_bind (wpAny_field he rfl (x := .ref j) rfl (wpAny_bind (wpAny_nextOf_list_end hh hj hl hx fun h1 x hb hx1 => ?_)))
  obtain ⟨o, ho, hc⟩ := hx1
  exact wpAny_bind (wpAny_isInstance (T := "StopIteration") (b := true) ⟨o, ho, hc⟩ isSubtype_stop (wpAny_pure (hQ _ hb)))
theorem turnC {P : Program} {w : World} {K : PySem.W.Frag} {es : List Expr} {nn : Nat} {tp : Pos} (l e j : Addr) (c : Int) : Turn P w K (.Tuple es nn tp) (ItC K l c) [e, j] e (TnC l c e j) where
  mem := List.mem_cons_self ..
  obj := fun i h st b hb => by
    obtain ⟨⟨old, he⟩, ⟨o, ho, hc, hd⟩, _⟩ := st
    rcases List.mem_cons.mp hb with rfl | hb
    · exact ⟨_, he, fun v q => nomatch q⟩
    · rw [List.mem_singleton.mp hb]
      exact ⟨o, ho, fun v q => by rw [hd] at q; cases q⟩
  keep := fun i h h' st k => ⟨st.1.imp fun _ he => k e (List.mem_cons_self ..) _ he, st.2.1.at fun o q => k j (List.mem_cons_of_mem _ (List.mem_singleton.mpr rfl)) o q, st.2.2⟩
  item := fun X hP hw hK hcalm i pins s σ H E I hf st hg => by
    subst hP hw hK
    obtain ⟨⟨old, he⟩, hj, ne⟩ := st
    obtain ⟨ys, y, hS, hy⟩ := hg
    obtain ⟨its, rv, pl, hz⟩ := I.list hS
    obtain ⟨u, hu, ru⟩ := rv.get hy
    have hiu : i < its.length := (List.getElem?_eq_some_iff.mp hu).1
    have es : e < s.heap.objs.size := Heap.lt_size he
    have js : j < s.heap.objs.size := by
      obtain ⟨_, q, _⟩ := hj
      exact Heap.lt_size q
    have nlj := apart_li pl.isList hj
    have nel := apart_le pl.isList he
    have hh : X.A.in1.handled = none := I.ok.hd hcalm
    refine wpAny_pyNext_enum_itemC (Draws.list (prog := X.prog) (w := X.w) hh j l nlj its.toArray) he ⟨hj, pl.isList⟩ (by simpa using hiu) ne (fun q => ?_) fun x h1 tk hx ho hst hT hsz hk => ?_
    · rcases List.mem_cons.mp q with q | q
      · exact ne q
      · exact nel (List.mem_singleton.mp q)
    have hxu : x = u := by
      have a1 : its[i]? = some x := by simpa using hx
      rw [hu] at a1
      exact (Option.some.inj a1).symm
    subst hxu
    refine ⟨.ref s.heap.objs.size, rfl, ?_⟩
    refine wpAny_letOwnedTupleGo_enum (s := { s with heap := h1, toks := tk + 1 }) ho fun h2 he2 sb => ?_
    have tup2 : h2.get? s.heap.objs.size = some { cls := .type "tuple", data := .seq #[.int (c + (i : Int)) tk, x] } := (sb.2 _ (Nat.ne_of_gt es)).trans hT
    have okT : ObjOk X.prog X.w (upd H s.heap.objs.size (.tup [.int (c + (i : Int)), y])) h2 s.heap.objs.size (.tup [.int (c + (i : Int)), y]) :=
      ⟨show 2 ≤ sizeLine by decide, [.int (c + (i : Int)) tk, x], .cons ⟨tk, rfl⟩ (.cons ru .nil), _, tup2, rfl, _, rfl⟩
    have I2 : Inv X pins σ (upd H s.heap.objs.size (.tup [.int (c + (i : Int)), y])) { s with heap := h2, toks := tk + 1 } :=
      I.turnedNew (ch := [e, j]) (fun b ob hb q => (sb.2 b fun z => hb (by rw [z]; exact List.mem_cons_self ..)).trans (hk b ob (fun z => hb (by rw [z]; exact List.mem_cons_self ..)) (fun z => hb (by rw [z]; exact List.mem_cons_of_mem _ (List.mem_singleton.mpr rfl))) q)) hf (Nat.le_refl _) okT
    refine ⟨.ref s.heap.objs.size, _, I2, rfl, ⟨s.heap.objs.size, y, rfl, I.hok.fresh (Nat.le_refl _), rfl, fun zs hzs => ?_⟩, ⟨⟨x, ?_⟩, hst.1.at fun o q => (sb.2 j ne.symm).trans q, ne⟩, fun b hb => ?_⟩
    · rw [I.list_inj hzs hS]
      exact hy
    · have e1 : c + ((i + 1 : Nat) : Int) = c + (i : Int) + 1 := by omega
      rw [e1]
      exact he2
    · have bs : b < s.heap.objs.size := by
        rcases List.mem_cons.mp hb with z | z
        · rw [z]; exact es
        · rw [List.mem_singleton.mp z]; exact js
      rw [upd_ne (Nat.ne_of_lt bs)]
      exact (hf b hb).1
  done := fun X hP hw hK hcalm i pins s σ H E I hf st hg => by
    subst hP hw hK
    obtain ⟨⟨old, he⟩, hj, ne⟩ := st
    obtain ⟨ys, hS, hy⟩ := hg
    obtain ⟨its, rv, pl, hz⟩ := I.list hS
    have hlen := rv.length
    obtain ⟨f0, f1, f2, f3, f4, f5⟩ := hf j (List.mem_cons_of_mem _ (List.mem_singleton.mpr rfl))
    have hh : X.A.in1.handled = none := I.ok.hd hcalm
    exact end_of hh he hj pl.isList (Array.getElem?_eq_none (by rw [List.size_toArray]; omega)) fun h1 eb => ⟨rfl, I.turned (t' := s.toks) (fun b o hb q => eb b o hb q) f0 f1 f3 f4 f5⟩
  self := fun A i s Q E st h => by
    obtain ⟨⟨_, he⟩, _⟩ := st
    exact wpAny_pyIter_enum he h
/-- what is walked: enumerate(l, start=c) -/
def iEnC (K : PySem.W.Frag) (ta tk : TA) : TI := fun σ H R => ta σ H fun vs H1 => tk σ H1 fun ks H2 => ∃ (l : Addr) (ys : List V) (c : Int), vs = [.ref l] ∧ ks = [.int c] ∧ -(2 ^ 62) ≤ c ∧ c < 2 ^ 62 ∧ SqL K H2 l ys ∧ R (ItC K l c) H2
theorem pi_enumC {X : Cx} {e e2 : Expr} {ta tk : TA} {np pos tp kp : Pos} {es : List Expr} {nn : Nat} (hg : Gl X "enumerate") (hm : X.mg "enumerate" = none) (ha : PA X [e] ta) (hk : PK X [⟨some "start", e2, kp⟩] tk)
    (hs : starEach [e] X.env = (false, eval e X.env) :: starEach [] X.env := by rfl) (hall : (backToKw pos (keywordEach [⟨some "start", e2, kp⟩] X.env)).all (·.1.isSome) = true := by rfl)
    (hks : (backToKw pos (keywordEach [⟨some "start", e2, kp⟩] X.env)).filterMap (·.1) = [("start" : Str)] := by rfl) (hp : (backTo pos (starEach [] X.env)).any (·.1) = false := by rfl)
    (hn : (backToKw pos (keywordEach [⟨some "start", e2, kp⟩] X.env)).any (·.1.isNone) = false := by rfl) :
    PI X (.Tuple es nn tp) (.Call (.Name "enumerate" np) [e] [⟨some "start", e2, kp⟩] pos) (iEnC X.K ta tk) := by
  refine ⟨fun pins s σ H R I h => ?_⟩
  refine wpAny_Call_Name_kw (ld_blt I hg hm boot_enumerate (cw_typeKw hall (thn (ha.run pos pins s σ H _ I h) fun us s1 ⟨vs, H1, I1, r1, q1⟩ => thn (hk.run pos pins s1 σ H1 _ I1 q1) fun ws s2 ⟨ks, H2, I2, r2, q2⟩ => ?_) hs hp hn))
  rw [hks]
  obtain ⟨l, ys, c, rfl, rfl, c0, c1, hS, q⟩ := q2
  cases r1 with
  | cons ra rb =>
    cases rb
    cases ra
    cases r2 with
    | cons rc rd =>
      cases rd
      obtain ⟨t, rfl⟩ := rc
      obtain ⟨its, rv, pl, hz⟩ := I2.list hS
      refine enum_begins_start (s := s2) (k := c) (t := t) (begins_list l its.toArray) pl.isList (by omega) (by omega) fun h1 he hit hsz keep => ?_
      refine wpAny_pyIter_enum he ?_
      have hj : h1.IsListIter s2.heap.objs.size l 0 := ⟨_, hit, rfl, rfl⟩
      have e0 : c + ((0 : Nat) : Int) = c := by omega
      refine ⟨s2.heap.objs.size + 1, [s2.heap.objs.size + 1, s2.heap.objs.size], _, ItC X.K l c, H2, rfl, I2.kept (t' := s2.toks) keep, turnC l (s2.heap.objs.size + 1) s2.heap.objs.size c, ⟨⟨.none, by rw [e0]; exact he⟩, hj, Nat.succ_ne_self _⟩, fun b hb => ?_, q⟩
      have le : s2.heap.objs.size ≤ b := by
        rcases List.mem_cons.mp hb with z | z
        · rw [z]; exact Nat.le_add_right _ _
        · rw [List.mem_singleton.mp z]; exact Nat.le_refl _
      exact I2.fpOk le (I2.hok.fresh le)
theorem walkC {K : PySem.W.Frag} {l : Addr} {xs : List V} {c : Int} : Walk (ItC K l c) xs.length (fun H => SqL K H l xs) (YPair (fun i => some (.int (c + (i : Int)))) (fun i => xs[i]?)) :=
  ⟨fun i _ hi q => ⟨xs, xs[i], q, List.getElem?_eq_getElem hi⟩, fun _ q => ⟨xs, q, Nat.le_refl _⟩, fun i H v H' _ q y => by
    obtain ⟨T, x, h1, h2, h3, h4⟩ := y
    exact ⟨T, _, x, h1, h2, h3, rfl, h4 xs q⟩⟩
section
variable {K : PySem.W.Frag} {σ : L2.St} {H H' : Hp} {ta tb te tx : TE} {D : Ends} {tu tz : TS} {v : V}
theorem s_forC {ta tk : TA} {a : Addr} {xs : List V} {c : Int} {j1 j2 : Nat} (h : EvA ta σ H [.ref a]) (hc : EvA tk σ H [.int c]) (b0 : -100000 ≤ c) (b1 : c ≤ 100000) (hx : SqL K H a xs) (Pv : Nat → L2.St → Hp → Prop) (h0 : ∀ H1, Ex H H1 → Pv 0 σ H1)
    (hl : ∀ i σ' H', i ≤ xs.length → Pv i σ' H' → SqL K H' a xs)
    (hs : ∀ i x σ' H' H2, xs[i]? = some x → Pv i σ' H' → Ex H' H2 → tu { D with nx := Pv (i + 1), ct := Pv (i + 1), bk := D.nx } ((σ'.set j1 (some (.int (c + (i : Int))))).set j2 (some x)) H2) (hd : ∀ σ' H', Pv xs.length σ' H' → D.nx σ' H') :
    tFor (iEnC K ta tk) (gTup K 2 (gCons (gName j1) (gCons (gName j2) gNil))) tu D σ H :=
  h H (Ex.refl H) _ fun H1 e1 => hc H1 e1 _ fun H2 e2 => ⟨a, xs, c, rfl, rfl, by omega, by omega, ex_l (e1.trans e2) hx, for_it walkC Pv (h0 H2 (e1.trans e2)) hl (fun i x σ' H' H'' hi p y => by
    obtain ⟨T, x1, x2, rfl, hT, rfl, hx1, hx2⟩ := y
    cases hx1
    exact ⟨T, _, rfl, .inl (.inl upd_same), rfl, _, _, rfl, _, _, rfl, rfl, hs i x2 σ' H' _ hx2 p (Ex.new hT)⟩) hd⟩
theorem q_forC {ta tk : TA} {a : Addr} {xs : List V} {c : Int} {j1 j2 : Nat} (h : EvA ta σ H [.ref a]) (hc : EvA tk σ H [.int c]) (b0 : -100000 ≤ c) (b1 : c ≤ 100000) (hx : SqL K H a xs) (Pv : Nat → L2.St → Hp → Prop) (h0 : ∀ H1, Ex H H1 → Pv 0 σ H1)
    (hl : ∀ i σ' H', i ≤ xs.length → Pv i σ' H' → SqL K H' a xs)
    (hs : ∀ i x σ' H' H2, xs[i]? = some x → Pv i σ' H' → Ex H' H2 → tu { D with nx := Pv (i + 1), ct := Pv (i + 1), bk := tz D } ((σ'.set j1 (some (.int (c + (i : Int))))).set j2 (some x)) H2) (hd : ∀ σ' H', Pv xs.length σ' H' → tz D σ' H') :
    tSeq (tFor (iEnC K ta tk) (gTup K 2 (gCons (gName j1) (gCons (gName j2) gNil))) tu) tz D σ H := s_forC (D := { D with nx := tz D }) h hc b0 b1 hx Pv h0 hl hs hd
/-- for j in reversed(range(n)) -/
theorem s_forRv {j : Nat} {n : Int} (h : Ev ta σ H (.int n)) (h0n : 0 ≤ n) (hn : n ≤ 100000) (Pv : Nat → L2.St → Hp → Prop) (h0 : ∀ H1, Ex H H1 → Pv 0 σ H1)
    (hs : ∀ (i : Nat) σ' H', (i : Int) < n → Pv i σ' H' → tu { D with nx := Pv (i + 1), ct := Pv (i + 1), bk := D.nx } (σ'.set j (some (.int (n - 1 - (i : Int))))) H') (hd : ∀ σ' H', Pv n.toNat σ' H' → D.nx σ' H') :
    tFor (iRevR (tRg1 ta)) (gName j) tu D σ H := h H (Ex.refl H) _ fun H1 e => by
  refine ⟨n, rfl, by omega, by omega, by omega, by omega, ?_⟩
  have en : (n - 0).toNat = n.toNat := by omega
  rw [en]
  refine for_it walk_rangeC Pv (h0 H1 e) (fun _ _ _ _ _ => trivial) (fun i x σ' H' H'' hi p y => ?_) hd
  obtain ⟨rfl, rfl⟩ := y
  have ei : (0 : Int) + ((n.toNat : Nat) : Int) - 1 + ((i : Nat) : Int) * (-1) = n - 1 - (i : Int) := by omega
  show tu _ (σ'.set j (some (.int _))) _
  rw [ei]
  exact hs i σ' _ (by omega) p
theorem q_forRv {j : Nat} {n : Int} (h : Ev ta σ H (.int n)) (h0n : 0 ≤ n) (hn : n ≤ 100000) (Pv : Nat → L2.St → Hp → Prop) (h0 : ∀ H1, Ex H H1 → Pv 0 σ H1)
    (hs : ∀ (i : Nat) σ' H', (i : Int) < n → Pv i σ' H' → tu { D with nx := Pv (i + 1), ct := Pv (i + 1), bk := tz D } (σ'.set j (some (.int (n - 1 - (i : Int))))) H') (hd : ∀ σ' H', Pv n.toNat σ' H' → tz D σ' H') :
    tSeq (tFor (iRevR (tRg1 ta)) (gName j) tu) tz D σ H := s_forRv (D := { D with nx := tz D }) h h0n hn Pv h0 hs hd
/-- a tuple's two parts given to names -/
theorem g2 {p : Addr} {x y : V} {i j : Nat} {Q : L2.St → Hp → Prop} (hp : SqT K H p [x, y]) (k : Q ((σ.set i (some x)).set j (some y)) H) : gTup K 2 (gCons (gName i) (gCons (gName j) gNil)) (.ref p) σ H Q :=
  ⟨p, _, rfl, hp, rfl, _, _, rfl, _, _, rfl, rfl, k⟩
/-- i, j = f(..), told by f's own promise -/
theorem q_un2A {ta : TA} {sp : Sp} {dvs vs : List V} {E : XK} {g : TG} (h : EvA ta σ H vs) (k : ∀ H1, Ex H H1 → sp (vs ++ dvs) H1 (fun v H2 => g v σ H2 (tz D)) E) : tSeq (tAsg (tCall sp dvs E ta) g) tz D σ H := h H (Ex.refl H) _ k
theorem s_un2A {ta : TA} {sp : Sp} {dvs vs : List V} {E : XK} {g : TG} (h : EvA ta σ H vs) (k : ∀ H1, Ex H H1 → sp (vs ++ dvs) H1 (fun v H2 => g v σ H2 D.nx) E) : tAsg (tCall sp dvs E ta) g D σ H := h H (Ex.refl H) _ k
/-- i, j = a new tuple -/
theorem q_un2 {x y : V} {i j : Nat} (h : EvU te σ H [x, y]) (k : ∀ H1, Ex H H1 → tz D ((σ.set i (some x)).set j (some y)) H1) : tSeq (tAsg te (gTup K 2 (gCons (gName i) (gCons (gName j) gNil)))) tz D σ H :=
  h H (Ex.refl H) _ fun p H1 _ e1 hp => g2 (st_of hp) (k H1 e1)
theorem s_un2 {x y : V} {i j : Nat} (h : EvU te σ H [x, y]) (k : ∀ H1, Ex H H1 → D.nx ((σ.set i (some x)).set j (some y)) H1) : tAsg te (gTup K 2 (gCons (gName i) (gCons (gName j) gNil))) D σ H :=
  h H (Ex.refl H) _ fun p H1 _ e1 hp => g2 (st_of hp) (k H1 e1)
end
/-- x ** y of any whole numbers whose power stays within bounds -/
def CPowE (i j : Int) : Prop := 0 ≤ j ∧ (Builtin.Int.intBits i : Int) * j ≤ 2 ^ 27
theorem op_powE {X : Cx} : OpR X (binaryOp .Pow) (rI CPowE fun i j => .int (i ^ j.toNat)) := opI fun _ _ _ _ _ _ _ hc q => pow_int hc.1 hc.2 q
theorem slE {X : Cx} {K : PySem.W.Frag} (h : X.K = K) : SlR X (rSlL K) := by
  subst h
  exact sl_list
theorem pe_joinE {X : Cx} {K : PySem.W.Frag} {o e : Expr} {to te : TE} {ap pos : Pos} (h : X.K = K) (ho : PE X o to) (he : PE X e te) (hs : starEach [e] X.env = [(false, eval e X.env)] := by rfl) (hbase : attributeBase o "join" X.env (eval o X.env) = eval o X.env := by rfl) (hline : (ap.endLine == pos.line) = true := by rfl) :
    PE X (.Call (.Attribute o "join" ap) [e] [] pos) (tM1 (fun x xs H Q => ∃ a p, ∃ ys : List Str, x = .str a ∧ xs = [.ref p] ∧ (SqL K H p (ys.map V.str) ∨ SqT K H p (ys.map V.str)) ∧ (ys.map (·.length)).sum + ys.length * a.length ≤ 16777216 ∧ Q (.str (Txt.join a ys)) H) to te) := by
  subst h
  exact pe_join ho he hs hbase hline
theorem ixTE {X : Cx} {K : PySem.W.Frag} (h : X.K = K) : IxR X (rIxT K) := by
  subst h
  exact ix_tup
/-- a new tuple is told -/
def RetU (xs : List V) (H : Hp) (Q : VK) : Prop := ∀ p H2, H p = none → Ex H H2 → H2 p = some (.tup xs) → Q (.ref p) H2
end TwE
/-! Own classes: a field as a target among others, a method that may raise called in a try. -/
set_option Elab.async false
set_option linter.all false
set_option maxRecDepth 100000
set_option maxHeartbeats 4000000
namespace TwO
open PySem PySem.Spec PyProof.Rows L2
section
variable {X : Cx} {CX : CXT} {k : Nat} {g C : Addr} {fd : FuncData} {ps : List Str} {sp : Sp} {E : L2.St → XK} {f m : Str} {pos apos : Pos} {e o : Expr} {es : List Expr} {ta : TE} {t : TA}
/-- a field as a target -/
def gFld (K : PySem.W.Frag) (ta : TE) (f : Str) : TG := fun v σ H Q => ta σ H fun x H1 => ∃ a C dx fs, x = .ref a ∧ H1 a = some (.ins C dx fs) ∧ Cls K C ∧ NoAttr K C f ∧ fs.length < 1000 ∧ Q σ (upd H1 a (.ins C dx (putF f v fs)))
theorem pg_fld (ho : PE X o ta)
    (ha : ∀ v, assign (.Attribute o f pos) X.env v = (do
      let ov ← holding [v] (eval o X.env)
      standAt pos.atName
      holding [v, ov] (setAttr ov f v)
      release [v, ov] []) := by intro _; rfl) : PG X (.Attribute o f pos) (gFld X.K ta f) := by
  refine ⟨fun pins s σ H v u Q I r h => ?_⟩
  rw [ha]
  refine wpAny_bind (wpAny_holding (thn (ho.run pins s σ H _ I h) fun ov s1 ⟨x, H1, I1, r1, a, C, dx, fs, ex, ea, c, n, l, q1⟩ => ?_))
  subst ex
  obtain rfl : ov = Value.ref a := r1
  refine wpAny_bind (wpAny_standAt (wpAny_bind (wpAny_holding (setattr_ok I1 ea c n l r fun s3 I3 => ?_))))
  exact wpAny_release ⟨σ, _, I3, q1⟩
/-- o.m(e, ..), where the exceptions are told by the place -/
def tMethE (C : Addr) (m : Str) (sp : Sp) (E : L2.St → XK) (ta : TE) (t : TA) : TE := fun σ H Q => ta σ H fun x H1 => ∃ a dx fs, x = .ref a ∧ H1 a = some (.ins C dx fs) ∧ fs.lookup m = none ∧ t σ H1 fun vs H2 => sp (x :: vs) H2 Q (E σ)
theorem pe_methE {pl : Sem Bool} (he : PE X o ta) (c : Cls X.K C) (hm : Meth X.K C m g) (F : FnOk X.prog X.w X.K X.mg X.base CX k g fd ps sp) (hr : Room k X.A) (hb : Binds X.K fd ps []) (hx : ∀ σ, PassesAt CX X σ (E σ)) (ha : PA X (e :: es) t)
    (hst : starEach (e :: es) X.env = (false, eval e X.env) :: starEach es X.env := by rfl) (hpl : (backTo pos (starEach es X.env)).any (·.1) = false := by rfl)
    (ht : eval (.Call (.Attribute o m apos) (e :: es) [] pos) X.env = (do
      let ov ← eval o X.env
      standAt apos.atName
      let (f, first) ← holding [ov] (getMethod ov m pl)
      callWith pos f first (backTo pos (starEach (e :: es) X.env)) (backToKw pos (keywordEach [] X.env))) := by rfl) :
    PE X (.Call (.Attribute o m apos) (e :: es) [] pos) (tMethE C m sp E ta t) := by
  refine ⟨fun pins s σ H Q I h => ?_⟩
  refine PySem.W.methodCall_KW (pl := pl) (thn (he.run pins s σ H _ I h) fun u s1 ⟨x, H1, I1, rx, a, dx, fs, ex, ea, l, q⟩ => ?_) ht
  subst ex
  obtain rfl : u = Value.ref a := rx
  refine getmeth_ok I1 ea c hm l ?_
  refine PySem.W.callWith_K (first := [.ref a]) (h₀ := X.base) I.ok.mod.kin hm.kp (thn (ha.run pos pins s1 σ H1 _ I1 q) fun us s2 ⟨vs, H2, I2, r, q2⟩ => ⟨I2.kIn, ?_⟩) hst hpl
  exact run_fnS (us := .ref a :: us) (vs := .ref a :: vs) F hr hb (hx σ) I2 (.cons rfl r) q2
theorem pe_methE0 {pl : Sem Bool} (he : PE X o ta) (c : Cls X.K C) (hm : Meth X.K C m g) (F : FnOk X.prog X.w X.K X.mg X.base CX k g fd ps sp) (hr : Room k X.A) (hb : Binds X.K fd ps []) (hx : ∀ σ, PassesAt CX X σ (E σ))
    (ht : eval (.Call (.Attribute o m apos) [] [] pos) X.env = (do
      let ov ← eval o X.env
      standAt apos.atName
      let (f, first) ← holding [ov] (getMethod ov m pl)
      callWith pos f first (backTo pos (starEach [] X.env)) (backToKw pos (keywordEach [] X.env))) := by rfl) :
    PE X (.Call (.Attribute o m apos) [] [] pos) (tMethE C m sp E ta tNil) := by
  refine ⟨fun pins s σ H Q I h => ?_⟩
  refine PySem.W.methodCall_KW (pl := pl) (thn (he.run pins s σ H _ I h) fun u s1 ⟨x, H1, I1, rx, a, dx, fs, ex, ea, l, q⟩ => ?_) ht
  subst ex
  obtain rfl : u = Value.ref a := rx
  refine getmeth_ok I1 ea c hm l ?_
  exact PySem.W.callWith_K0 (first := [.ref a]) I1.kIn hm.kp (run_fnS (us := [.ref a]) (vs := [.ref a]) F hr hb (hx σ) I1 (.cons rfl .nil) q)
/-- C(e, ..), where the exceptions are told by the place -/
def tMakeE (C : Addr) (sp : Sp) (E : L2.St → XK) (t : TA) : TE := fun σ H Q => t σ H fun vs H1 => ∀ x dx, H1 x = none → H1 dx = none → dx ≠ x → sp (.ref x :: vs) (upd (upd H1 dx (.own x)) x (.ins C dx [])) (fun v H2 => v = .non ∧ Q (.ref x) H2) (E σ)
theorem run_makeE {pins : List (Addr × Obj)} {σ : L2.St} {H : Hp} {s : Shared} {Q : VK} {us : List Value} {vs : List V} (M : Mk X.K C g) (F : FnOk X.prog X.w X.K X.mg X.base CX k g fd ps sp) (hr : Room (k + 1) X.A) (hb : Binds X.K fd ps [])
    (hx : PassesAt CX X σ (E σ)) (I : Inv X pins σ H s) (r : Vals vs us)
    (h : ∀ x dx, H x = none → H dx = none → dx ≠ x → sp (.ref x :: vs) (upd (upd H dx (.own x)) x (.ins C dx [])) (fun v H2 => v = .non ∧ Q (.ref x) H2) (E σ)) :
    wpAny (model X.prog X.w) X.A (call (.ref C) us) (EP X pins σ Q) X.xe s := by
  have hq := h (s.heap.objs.size + 1) s.heap.objs.size (I.hok.fresh (Nat.le_succ _)) (I.hok.fresh (Nat.le_refl _)) (Nat.ne_of_lt (Nat.lt_succ_self _))
  have I2 := Inv.made (C := C) I
  have r2 : Vals (V.ref (s.heap.objs.size + 1) :: vs) (Value.ref (s.heap.objs.size + 1) :: us) := .cons rfl r
  have hl : (Value.ref (s.heap.objs.size + 1) :: us ++ []).length = ps.length := by
    have e := r2.length
    rw [F.len _ _ _ _ hq] at e
    rw [List.append_nil]
    exact e.symm
  have b := hb _ (Value.ref (s.heap.objs.size + 1) :: us) I2.kIn hl
  rw [List.append_nil] at b
  refine wpAny_call (make_map (f := g) I.kIn M.makes M.init (beq_iff_eq.mp M.fn) (codeAny_mono (F.run _ X.stack _ _ ⟨Value.ref (s.heap.objs.size + 1) :: us, []⟩ (Value.ref (s.heap.objs.size + 1) :: us) _ _ (E σ) (hr.make C us [])
    (I2.env0.make C us []) b r2 hq) fun r s' hq' => ?_))
  cases r with
  | error e => exact hx pins _ _ e s' I2 hq'
  | ok fl =>
    cases fl with
    | ret u =>
      obtain ⟨v, H', I3, rv, ev, q3⟩ := I2.after hq'
      subst ev
      exact ⟨rv, ⟨V.ref (s.heap.objs.size + 1), H', I3, rfl, q3⟩⟩
    | next => exact False.elim hq'
    | brk => exact False.elim hq'
    | cont => exact False.elim hq'
theorem pe_makeE {x : Str} {p : Pos} (M : Mk X.K C g) (F : FnOk X.prog X.w X.K X.mg X.base CX k g fd ps sp) (hr : Room (k + 1) X.A) (hg : Gl X x) (hm : X.mg x = some (.ref C)) (hb : Binds X.K fd ps []) (hx : ∀ σ, PassesAt CX X σ (E σ))
    (ha : PA X (e :: es) t) (hdb : (x == ("__debug__" : Str)) = false := by decide) (he : starEach (e :: es) X.env = (false, eval e X.env) :: starEach es X.env := by rfl) (hpl : (backTo pos (starEach es X.env)).any (·.1) = false := by rfl) :
    PE X (.Call (.Name x p) (e :: es) [] pos) (tMakeE C sp E t) := by
  refine ⟨fun pins s σ H Q I h => ?_⟩
  refine wpAny_Call_Name_kw (ld_glob I hg hm ?_ hdb)
  refine PySem.W.callWith_K (h₀ := X.base) I.ok.mod.kin M.kp (thn (ha.run pos pins s σ H _ I h) fun us s1 ⟨vs, H1, I1, r, q⟩ => ⟨I1.kIn, ?_⟩) he hpl
  exact run_makeE M F hr hb (hx σ) I1 r q
end
end TwO
set_option Elab.async false
set_option linter.all false
set_option maxRecDepth 100000
set_option maxHeartbeats 2000000
/-! generator expressions over lists and ranges of ints, in any, all, sum. -/
namespace TwG
open PySem PySem.Spec PyProof.Rows L2 GxR

section
variable {X : Cx} {pins : List (Addr × Obj)} {σ : L2.St} {H H1 : Hp} {s s1 : Shared}

/-- the generator g of n items, the i-th one F i, in the state s5; H1: what was held before -/
def ReadyG (X : Cx) (pins : List (Addr × Obj)) (σ : L2.St) (H1 : Hp) (P : Addr) (n : Nat) (F : Nat → Value → Prop) (g : Addr) (s5 : Shared) : Prop :=
  ∃ (fp wr : List Addr) (G : Array GenState → Array GenState → Prop) (St : Nat → Shared → Prop),
    WalksS X.prog X.w X.A.in1 g fp wr G n (fun j y => ∃ i, (List.range n)[j]? = some i ∧ F i y) St ∧ St 0 s5 ∧ (∀ b ∈ fp, b < s5.heap.objs.size) ∧
    ∀ s', Moved wr G s5 s' → ∃ H2, Tabbed P H1 H2 ∧ Inv X pins σ H2 s'

/-- the element of the i-th item, over all that stood at s1 but the table at P -/
def EltG (X : Cx) (scope : Scope) (P : Addr) (x : Str) (elt : Expr) (s1 : Shared) (val F : Nat → Value → Prop) : Prop :=
  ∀ (cenv : Env) (A' : Around) (E' : Value → Shared → Prop) (i : Nat) (v : Value) (s₂ : Shared) (m₂ : Str → Option Value), A'.handled = none → cenv.scope = scope →
    cenv.cells = cloFrom X.env.cells scope.names [] → val i v → s₂.heap.Ns cenv.locals m₂ → m₂ x = some v →
    (∀ b o, b ≠ P → s1.heap.get? b = some o → s₂.heap.get? b = some o) →
    wpAny (model X.prog X.w) A' (eval elt cenv) (fun y s₃ => F i y ∧ Keeps s₂ s₃) E' s₂

theorem gen_core {c P : Addr} {elt : Expr} {x : Str} {gpos : Pos} {scope : Scope} {k : Nat} {Q' : Value → Shared → Prop} {o : Obj} {n : Nat} {val F : Nat → Value → Prop} {fp : List Addr} {St : Nat → Heap → Prop}
    (hr : Room k X.A) (TB : TabB X.base X.mg c P) (hcode : X.env.code = .ref c) (I1 : Inv X pins σ H1 s1) (hT : TabG H1 P)
    (W : ∀ A' : Around, A'.handled = none → Walks X.prog X.w A' s1.heap.objs.size fp [s1.heap.objs.size] n val St) (hfp : ∀ b ∈ fp, b ≤ s1.heap.objs.size)
    (hst : ∀ h3 : Heap, (∀ b u, b ≠ P → (s1.heap.push o).get? b = some u → h3.get? b = some u) → St 0 h3)
    (hel : EltG X scope P x elt s1 val F) (hQ : ∀ g s5, ReadyG X pins σ H1 P n F g s5 → Q' (.ref g) s5) :
    (s1.heap.push o).NoLimit ∧ wpAny (model X.prog X.w) X.A (genexprCode X.env gpos (X.env.qual ++ "<genexpr>") scope) (fun code s₃ =>
      wpAny (model X.prog X.w) X.A (builtinsFor X.env.globals X.env.builtins) (fun bi s₄ =>
        ∃ Ia fp wr n₀ Pf St₀ pz F, Value.ref s1.heap.objs.size = .ref Ia ∧ (∀ A' : Around, A'.handled = none → Walks X.prog X.w A' Ia fp wr n₀ Pf St₀) ∧ St₀ 0 s₄.heap ∧ (∀ b ∈ fp, b < s₄.heap.objs.size) ∧ s₄.heap.NoLimit ∧ cStatics ∉ wr ∧
          (∀ href : Heap, (∀ b o, s₄.heap.get? b = some o → href.get? b = some o) →
            QuietGen X.prog X.w (genEnv scope (cloFrom X.env.cells scope.names []) s₄.heap.objs.size code bi X.env) x [] elt (List.range s₄.heap.objs.size) wr Pf pz F href) ∧
          (∀ a h₅ tk gs, gs.bare = true → s₄.heap.objs.size < a → h₅.objs.size = a + 1 → (∀ b o, s₄.heap.get? b = some o → h₅.get? b = some o) →
            WalksS X.prog X.w X.A.in4 a (a :: s₄.heap.objs.size :: List.range s₄.heap.objs.size) (s₄.heap.objs.size :: wr) (GenOnlyQ s₄.gens.size) (passing pz n₀ 0).length
              (fun j y => ∃ i, (passing pz n₀ 0)[j]? = some i ∧ F i y) (GenAt X.prog X.w X.A.in4 a s₄.gens.size s₄.heap.objs.size (List.range s₄.heap.objs.size) wr pz n₀ F) →
            GenAt X.prog X.w X.A.in4 a s₄.gens.size s₄.heap.objs.size (List.range s₄.heap.objs.size) wr pz n₀ F 0 { s₄ with gens := s₄.gens.push gs, toks := tk, heap := h₅ } →
            Q' (.ref a) { s₄ with gens := s₄.gens.push gs, toks := tk, heap := h₅ })) X.xe s₃) X.xe { s1 with heap := s1.heap.push o } := by
  obtain ⟨ps, hP, ht⟩ := hT
  have hPs : s1.heap.get? P = some { cls := .none, data := .fields ps } := I1.hok P _ hP
  have hPlt : P < s1.heap.objs.size := Heap.lt_size hPs
  have hP2 : (s1.heap.push o).get? P = some { cls := .none, data := .fields ps } := Heap.get?_push_of_some _ hPs
  have cd : PySem.W.CodeHd (s1.heap.push o) c P := TB.code.keeps fun b u e => Heap.get?_push_of_some _ (I1.bk b u e)
  have lim2 : (s1.heap.push o).NoLimit := I1.nolimit.push o
  have sz2 : (s1.heap.push o).objs.size = s1.heap.objs.size + 1 := Heap.size_push ..
  have cont : ∀ (code : Value) (h3 : Heap) (tk : Nat) (ps' : Array Value), Heap.ExtBut P (s1.heap.push o) h3 → (s1.heap.push o).objs.size ≤ h3.objs.size → h3.get? P = some { cls := .none, data := .fields ps' } → (∃ more, ps' = ps ++ more) → TriplesOk ps'.toList →
      wpAny (model X.prog X.w) X.A (builtinsFor X.env.globals X.env.builtins) (fun bi s₄ =>
        ∃ Ia fp wr n₀ Pf St₀ pz F, Value.ref s1.heap.objs.size = .ref Ia ∧ (∀ A' : Around, A'.handled = none → Walks X.prog X.w A' Ia fp wr n₀ Pf St₀) ∧ St₀ 0 s₄.heap ∧ (∀ b ∈ fp, b < s₄.heap.objs.size) ∧ s₄.heap.NoLimit ∧ cStatics ∉ wr ∧
          (∀ href : Heap, (∀ b o, s₄.heap.get? b = some o → href.get? b = some o) →
            QuietGen X.prog X.w (genEnv scope (cloFrom X.env.cells scope.names []) s₄.heap.objs.size code bi X.env) x [] elt (List.range s₄.heap.objs.size) wr Pf pz F href) ∧
          (∀ a h₅ tk gs, gs.bare = true → s₄.heap.objs.size < a → h₅.objs.size = a + 1 → (∀ b o, s₄.heap.get? b = some o → h₅.get? b = some o) →
            WalksS X.prog X.w X.A.in4 a (a :: s₄.heap.objs.size :: List.range s₄.heap.objs.size) (s₄.heap.objs.size :: wr) (GenOnlyQ s₄.gens.size) (passing pz n₀ 0).length
              (fun j y => ∃ i, (passing pz n₀ 0)[j]? = some i ∧ F i y) (GenAt X.prog X.w X.A.in4 a s₄.gens.size s₄.heap.objs.size (List.range s₄.heap.objs.size) wr pz n₀ F) →
            GenAt X.prog X.w X.A.in4 a s₄.gens.size s₄.heap.objs.size (List.range s₄.heap.objs.size) wr pz n₀ F 0 { s₄ with gens := s₄.gens.push gs, toks := tk, heap := h₅ } →
            Q' (.ref a) { s₄ with gens := s₄.gens.push gs, toks := tk, heap := h₅ })) X.xe { s1 with heap := h3, toks := tk } := by
    intro code h3 tk ps' hx hsz hP3 hmore ht3
    obtain ⟨bm, ob, e1, e2, e3, e4, e5, e6, e7, e8⟩ := TB.bm
    have hcP : cStatics ≠ P := fun e => by
      obtain ⟨_, hns, _⟩ := I1.nolimit
      obtain ⟨o', es, ep, ho, hd, _⟩ := hns
      rw [e, hPs] at ho
      cases ho
      cases hd
    have hcl : cStatics < s1.heap.objs.size := let ⟨_, hns, _⟩ := I1.nolimit; hns.lt
    have keep3 : ∀ b u, b ≠ P → s1.heap.get? b = some u → h3.get? b = some u := fun b u hb e => hx b u hb (Heap.get?_push_of_some _ e)
    refine wpAny_builtinsFor (m := X.mg) (by rw [I1.ok.glob]; exact ((I1.mod.glob.keeps I1.bk).push o).extBut hx TB.gP) e1 e2 (keep3 _ _ e4 (I1.bk _ _ e5)) e6 e7 e8 ?_
    refine ⟨s1.heap.objs.size, fp, [s1.heap.objs.size], n, val, St, (fun _ => true), F, rfl, W, hst h3 hx, ?_, lim2.extBut hx hcP, ?_, ?_, ?_⟩
    · intro b hb
      have q := hfp b hb
      have q2 : s1.heap.objs.size < h3.objs.size := by omega
      exact Nat.lt_of_le_of_lt q q2
    · intro z
      rcases List.mem_cons.mp z with z | z
      · exact Nat.ne_of_lt hcl z
      · cases z
    · intro href hhref
      refine ⟨fun A' E' i v s₂ m₂ hA hPv hn hm hk => ?_, fun A' E' i v s₂ m₂ hA hPv hp hn hm hk => ?_⟩
      · simp only [List.forIn_nil]
        exact wpAny_pure ⟨rfl, keeps_refl _⟩
      · refine hel _ A' E' i v s₂ m₂ hA rfl rfl hPv hn hm fun b u hb e => ?_
        have hl := Heap.lt_size e
        refine hk b (List.mem_range.mpr ?_) (fun z => ?_) u (hhref b u (keep3 b u hb e))
        · show b < h3.objs.size
          exact Nat.lt_of_lt_of_le hl (by omega)
        · rcases List.mem_cons.mp z with z | z
          · rw [z] at hl
            exact Nat.lt_irrefl _ hl
          · cases z
    · intro g h5 tk5 gs hgb hag hsz5 hk5 W5 hat
      simp only [GxR.passing_true] at W5
      rw [List.length_range] at W5
      refine hQ g _ ⟨_, _, _, _, W5.in4_1, hat, ?_, fun s' hm => ?_⟩
      · intro b hb
        show b < h5.objs.size
        have e5 : h5.objs.size = g + 1 := hsz5
        have h8 : h3.objs.size < g := hag
        rw [e5]
        rcases List.mem_cons.mp hb with z | z
        · rw [z]
          exact Nat.lt_succ_self g
        · rcases List.mem_cons.mp z with z | z
          · rw [z]
            exact Nat.lt_succ_of_lt h8
          · have z2 := List.mem_range.mp z
            have h7 : b < h3.objs.size := z2
            exact Nat.lt_succ_of_lt (Nat.lt_trans h7 h8)
      · obtain ⟨more, em⟩ := hmore
        have nwr : ∀ b u, s1.heap.get? b = some u → b ∉ h3.objs.size :: [s1.heap.objs.size] := fun b u e hb => by
          have hl := Heap.lt_size e
          rcases List.mem_cons.mp hb with z | z
          · rw [z] at hl
            have h9 : (h3.objs.size : Nat) < s1.heap.objs.size := hl
            omega
          · rcases List.mem_cons.mp z with z | z
            · rw [z] at hl
              exact Nat.lt_irrefl _ hl
            · cases z
        have J := inv_tab (more := more) (h' := s'.heap) (g' := s'.gens) (d' := s'.drawn) (t' := s'.toks) I1 hP (fun b u hb e => hm.heap b u (nwr b u e) (hk5 b u (keep3 b u hb e)))
          (by rw [← em]; exact hm.heap P _ (nwr P _ hPs) (hk5 P _ hP3)) (AllBare.movedS (I1.bare.push hgb) hm)
        rw [sh_eta s1 s' hm.os] at J
        refine ⟨upd H1 P (.tbl (ps ++ more)), ⟨⟨ps ++ more, upd_same, by rw [← em]; exact ht3⟩, fun b hb => upd_ne hb⟩, J⟩
  refine ⟨lim2, ?_⟩
  cases hf : codeAmong gpos ps.toList with
  | none =>
    refine wpAny_genexprCodeX hcode (cd.code hP2 ht) (cd.tab hP2) hf fun c' h' tk hx hge hlt hco' _ htab' _ => ?_
    obtain ⟨o1, vs, f1, tf, fl, tg, inF, tx, tt, op, _, _, _, _, _, _, _, _, _, htr, _⟩ := hco'
    exact cont _ h' tk _ hx (Nat.le_trans hge (Nat.le_of_lt hlt)) htab'.2 ⟨_, rfl⟩ htr
  | some cv =>
    refine wpAny_genexprCode_hit hcode (cd.code hP2 ht) hf ?_
    exact cont cv (s1.heap.push o) s1.toks ps (Heap.ExtBut.refl _ _) (Nat.le_refl _) hP2 ⟨#[], by simp⟩ ht

theorem range_get {n j i : Nat} (h : (List.range n)[j]? = some i) : j = i ∧ j < n := by
  obtain ⟨hj, ej⟩ := List.getElem?_eq_some_iff.mp h
  rw [List.getElem_range] at ej
  rw [List.length_range] at hj
  exact ⟨ej, hj⟩

/-- an element that reads its own name alone: of an int z with Pz what Fz tells -/
def EltI (prog : Program) (w : World) (scope : Scope) (x : Str) (elt : Expr) (Pz : Int → Prop) (Fz : Int → Value → Prop) : Prop :=
  ∀ (cenv : Env) (A' : Around) (E' : Value → Shared → Prop) (z : Int) (t : Tok) (s₂ : Shared) (m₂ : Str → Option Value), cenv.scope = scope → Pz z → s₂.heap.Ns cenv.locals m₂ → m₂ x = some (.int z t) →
    wpAny (model prog w) A' (eval elt cenv) (fun y s₃ => Fz z y ∧ Keeps s₂ s₃) E' s₂

theorem gen_ints {c P : Addr} {elt iter : Expr} {x : Str} {px gpos : Pos} {scope : Scope} {te : TE} {k : Nat} {Pz : Int → Prop} {Fz : Int → Value → Prop} {Q' : Value → Shared → Prop} {R : List Int → Hp → Prop}
    (hr : Room k X.A) (TB : TabB X.base X.mg c P) (hcode : X.env.code = .ref c) (S : GenS X.env scope x) (hi : PE X iter te) (hel : EltI X.prog X.w scope x elt Pz Fz)
    (hs : ∀ v, genFold iter X.env v = pure v) (I : Inv X pins σ H s)
    {T0 : VK} (h : te σ H T0) (h0 : ∀ v H1, T0 v H1 → ∃ (a : Addr) (zs : List Int), v = .ref a ∧ SqL X.K H1 a (zs.map V.int) ∧ (∀ z ∈ zs, Pz z) ∧ TabG H1 P ∧ R zs H1)
    (hQ : ∀ zs H1 g s5, R zs H1 → ReadyG X pins σ H1 P zs.length (fun i y => ∃ z, zs[i]? = some z ∧ Fz z y) g s5 → Q' (.ref g) s5) :
    wpAny (model X.prog X.w) X.A (eval (.GeneratorExp elt [⟨.Name x px, iter, [], 0⟩] scope gpos) X.env) Q' X.xe s := by
  refine wpAny_GeneratorExp_walksQ hr.hd S.co (closure_ok S.free) S.cell S.dot S.loc S.kind (by have := hr.dp; omega) ?_ hs
  refine thn (hi.run pins s σ H _ I h) fun xv s1 ⟨v, H1, I1, r1, q1⟩ => ?_
  obtain ⟨yl, zs, rfl, hyl, hPz, hT, q1⟩ := h0 _ _ q1
  obtain rfl : xv = Value.ref yl := r1
  obtain ⟨its, rv, hl, hz⟩ := I1.list hyl
  have hIL := hl.isList
  have hlen : its.length = zs.length := by rw [← rv.length, List.length_map]
  have hat : ∀ (i : Nat) (v : Value), its.toArray[i]? = some v → ∃ (z : Int) (u : Tok), zs[i]? = some z ∧ v = .int z u := fun i v hv => by
    have hv2 : its[i]? = some v := by simpa using hv
    have hi2 : i < its.length := (List.getElem?_eq_some_iff.mp hv2).1
    obtain ⟨a, ha⟩ : ∃ a, zs[i]? = some a := ⟨zs[i]'(by omega), List.getElem?_eq_getElem _⟩
    have hb : (zs.map V.int)[i]? = some (V.int a) := by rw [List.getElem?_map, ha] <;> rfl
    obtain ⟨u, hu, ru⟩ := rv.get hb
    rw [hv2] at hu
    cases hu
    obtain ⟨t, e⟩ := (show ∃ t, v = Value.int a t from ru)
    exact ⟨a, t, ha, e⟩
  have hylt : yl < s1.heap.objs.size := by
    obtain ⟨_, e, _⟩ := _root_.id hIL
    exact Heap.lt_size e
  have hylP : yl ≠ P := fun z => by
    obtain ⟨ps, hP, _⟩ := hT
    have hPs : s1.heap.get? P = some { cls := .none, data := .fields ps } := I1.hok P _ hP
    obtain ⟨_, e, hc1, _, hd1⟩ := _root_.id hIL
    rw [z, hPs] at e
    cases e
    cases hd1
  refine wpAny_pyIter_list hIL ?_
  have hn5 : its.toArray.size = zs.length := by rw [List.size_toArray, hlen]
  refine gen_core (n := zs.length) (val := fun i v => its.toArray[i]? = some v) (F := fun i y => ∃ z, zs[i]? = some z ∧ Fz z y) (fp := [s1.heap.objs.size, yl])
    (St := fun i h => h.IsListIter s1.heap.objs.size yl i ∧ h.IsList yl its.toArray) hr TB hcode I1 hT (fun A' hA => ?_) (fun b hb => ?_) (fun h3 hx => ?_) ?_ fun g s5 hG => hQ zs H1 g s5 q1 hG
  · rw [← hn5]
    exact Walks.list hA _ _ (Nat.ne_of_lt hylt) _
  · rcases List.mem_cons.mp hb with z | z
    · exact Nat.le_of_eq z
    · rcases List.mem_cons.mp z with z | z
      · rw [z]
        exact Nat.le_of_lt hylt
      · cases z
  · have hPlt : P < s1.heap.objs.size := by
      obtain ⟨ps, hP, _⟩ := hT
      exact Heap.lt_size (I1.hok P _ hP)
    constructor
    · exact Heap.IsListIter.at (h := s1.heap.push _) ⟨_, Heap.get?_push_size _ rfl, rfl, rfl⟩ fun u e => hx _ u (Nat.ne_of_gt hPlt) e
    · obtain ⟨ob, e, r⟩ := _root_.id hIL
      exact ⟨ob, hx _ _ hylP (Heap.get?_push_of_some _ e), r⟩
  · intro cenv A' E' i v s₂ m₂ hA hsc hce hv hn hm hk
    obtain ⟨z, u, hzz, rfl⟩ := hat i v hv
    exact wpAny_mono (hel cenv A' E' z u s₂ m₂ hsc (hPz z (List.mem_of_getElem? hzz)) hn hm) (fun y s3 r => ⟨⟨z, hzz, r.1⟩, r.2⟩) fun _ _ e => e

theorem gen_rngP {Y : Type} {c P : Addr} {elt iter : Expr} {x : Str} {px gpos : Pos} {scope : Scope} {te : TE} {k : Nat} {F : Int → Int → Y → Nat → Value → Prop} {Q' : Value → Shared → Prop} {R : Int → Int → Y → Hp → Prop}
    (hr : Room k X.A) (TB : TabB X.base X.mg c P) (hcode : X.env.code = .ref c) (S : GenS X.env scope x) (hi : PE X iter te)
    (hel : ∀ lo hi y0 H1 s1, Inv X pins σ H1 s1 → TabG H1 P → R lo hi y0 H1 → EltG X scope P x elt s1 (fun i v => i < (hi - lo).toNat ∧ ∃ t, v = .int (lo + (i : Nat)) t) (F lo hi y0))
    (hs : ∀ v, genFold iter X.env v = pure v) (I : Inv X pins σ H s)
    {T0 : VK} (h : te σ H T0) (h0 : ∀ v H1, T0 v H1 → ∃ (r : Addr) (lo hi : Int) (y0 : Y), v = .ref r ∧ H1 r = some (.rng lo hi) ∧ (-(2 ^ 62) ≤ lo ∧ lo < 2 ^ 62 ∧ -(2 ^ 62) ≤ hi ∧ hi < 2 ^ 62) ∧ TabG H1 P ∧ R lo hi y0 H1)
    (hQ : ∀ lo hi y0 H1 g s5, R lo hi y0 H1 → ReadyG X pins σ H1 P (hi - lo).toNat (F lo hi y0) g s5 → Q' (.ref g) s5) :
    wpAny (model X.prog X.w) X.A (eval (.GeneratorExp elt [⟨.Name x px, iter, [], 0⟩] scope gpos) X.env) Q' X.xe s := by
  refine wpAny_GeneratorExp_walksQ hr.hd S.co (closure_ok S.free) S.cell S.dot S.loc S.kind (by have := hr.dp; omega) ?_ hs
  refine thn (hi.run pins s σ H _ I h) fun xv s1 ⟨v, H1, I1, r1, q1⟩ => ?_
  obtain ⟨r, lo, hh, y0, rfl, hrr, ⟨b1, b2, b3, b4⟩, hT, q1⟩ := h0 _ _ q1
  obtain rfl : xv = Value.ref r := r1
  obtain ⟨t, u, v, hro⟩ : ∃ t u v, s1.heap.get? r = some { cls := .type "range", data := .fields #[.int lo t, .int hh u, .int 1 v] } := I1.hok r _ hrr
  refine wpAny_pyIter_range (a := lo) (b := hh) (c := 1) (t := t) (u := u) (v := v) hro (small_one b1 b2 b3 b4) ?_
  have hPlt : P < s1.heap.objs.size := by
    obtain ⟨ps, hP, _⟩ := hT
    exact Heap.lt_size (I1.hok P _ hP)
  refine gen_core (n := (hh - lo).toNat) (val := fun i v => i < (hh - lo).toNat ∧ ∃ t, v = .int (lo + (i : Nat)) t) (F := F lo hh y0) (fp := [s1.heap.objs.size])
    (St := fun i h => IsRangeIter h s1.heap.objs.size (lo + (i : Nat) * 1) (((hh - lo).toNat : Int) - (i : Nat)) 1) hr TB hcode I1 hT (fun A' hA => ?_) (fun b hb => ?_) (fun h3 hx => ?_) (hel lo hh y0 H1 s1 I1 hT q1) fun g s5 hG => hQ lo hh y0 H1 g s5 q1 hG
  · have W := (Walks.range (prog := X.prog) (w := X.w) hA s1.heap.objs.size lo 1 (hh - lo).toNat).bound
    exact W.weaken fun i v ⟨h1, t, e⟩ => ⟨h1, t, by rw [e, Int.mul_one]⟩
  · rcases List.mem_cons.mp hb with z | z
    · exact Nat.le_of_eq z
    · cases z
  · have e1 : lo + ((0 : Nat) : Int) * 1 = lo := by simp
    have e2 : (((hh - lo).toNat : Nat) : Int) - ((0 : Nat) : Int) = Builtin.Range.rangeSize lo hh 1 := by rw [rangeSize_one]; split <;> omega
    show IsRangeIter _ _ (lo + ((0 : Nat) : Int) * 1) ((((hh - lo).toNat : Nat) : Int) - ((0 : Nat) : Int)) 1
    rw [e1, e2]
    exact hx _ _ (Nat.ne_of_gt hPlt) (Heap.get?_push_size _ rfl)

/-! ### any, sum over a list of ints; all over a range -/
theorem truth_of {n : Nat} {F : Nat → Value → Prop} {tr : Nat → Bool} (h : ∀ i y, i < n → F i y → y = .bool (tr i)) : TruthOf X.prog X.w X.A.in1 (fun j y => ∃ i, (List.range n)[j]? = some i ∧ F i y) tr := by
  intro j y sj Qj Ej hy hQj
  obtain ⟨i, hij, hF⟩ := hy
  obtain ⟨rfl, hj⟩ := range_get hij
  rw [h _ y hj hF]
  exact wpAny_truthy_bool hQj

def trI (pb : Int → Bool) (zs : List Int) (j : Nat) : Bool := match zs[j]? with
  | some z => pb z
  | none => false
theorem any_trI (zs : List Int) (pb : Int → Bool) : (List.range zs.length).any (trI pb zs) = zs.any pb := by
  have tr_some : ∀ {j z}, zs[j]? = some z → trI pb zs j = pb z := fun h => by unfold trI; rw [h]
  rw [Bool.eq_iff_iff, List.any_eq_true, List.any_eq_true]
  constructor
  · intro ⟨j, hj, h⟩
    have hj' := List.mem_range.mp hj
    rw [tr_some (List.getElem?_eq_getElem hj')] at h
    exact ⟨zs[j], List.getElem_mem hj', h⟩
  · intro ⟨b, hb, h⟩
    obtain ⟨j, hj, e⟩ := List.getElem_of_mem hb
    refine ⟨j, List.mem_range.mpr hj, ?_⟩
    rw [tr_some (List.getElem?_eq_getElem hj), e]
    exact h
/-- any(test for x in e), e a list of ints -/
def tAnyI (K : PySem.W.Frag) (P : Addr) (pb : Int → Bool) (te : TE) : TE := fun σ H Q => te σ H fun v H1 => ∃ (a : Addr) (zs : List Int), v = .ref a ∧ SqL K H1 a (zs.map V.int) ∧ TabG H1 P ∧ ∀ H2, Tabbed P H1 H2 → Q (.bl (zs.any pb)) H2
theorem pe_anyI {c P : Addr} {elt iter : Expr} {x : Str} {px p pos gpos : Pos} {scope : Scope} {pb : Int → Bool} {te : TE} {k : Nat}
    (hr : Room k X.A) (hg : Gl X "any") (hm : X.mg "any" = none) (TB : TabB X.base X.mg c P) (hcode : X.env.code = .ref c) (S : GenS X.env scope x) (hi : PE X iter te) (hel : EltI X.prog X.w scope x elt (fun _ => True) fun z y => y = .bool (pb z))
    (hs : ∀ v, genFold iter X.env v = pure v)
    (he : starEach [.GeneratorExp elt [⟨.Name x px, iter, [], 0⟩] scope gpos] X.env = (false, eval (.GeneratorExp elt [⟨.Name x px, iter, [], 0⟩] scope gpos) X.env) :: starEach [] X.env := by rfl) :
    PE X (.Call (.Name "any" p) [.GeneratorExp elt [⟨.Name x px, iter, [], 0⟩] scope gpos] [] pos) (tAnyI X.K P pb te) := by
  refine ⟨fun pins s σ H Q I h => ?_⟩
  refine wpAny_Call_Name_kw (ld_blt I hg hm boot_any ?_)
  refine PyProof.Rows.callWith_builtin1 ?_ he (by rfl)
  rw [he]
  show wpAny _ _ (spliced ((false, eval (.GeneratorExp elt [⟨.Name x px, iter, [], 0⟩] scope gpos) X.env) :: backTo pos (starEach [] X.env))) _ _ s
  refine Calls.spliced_cons (gen_ints (R := fun zs H1 => ∀ H2, Tabbed P H1 H2 → Q (.bl (zs.any pb)) H2) hr TB hcode S hi hel hs I h (fun v H1 q => ?_) fun zs H1 g s5 hR hG => ?_)
  · obtain ⟨a, zs, e, hq, hT, q⟩ := q
    exact ⟨a, zs, e, hq, fun _ _ => trivial, hT, q⟩
  obtain ⟨fp, wr, G, St, W, hst, hfp, hI⟩ := hG
  refine Calls.spliced_nil ?_
  refine call_any_walkS (W.self 0 _ _ _ hst ⟨g, fp, wr, G, _, _, St, trI pb zs, rfl, W, hst, truth_of fun i y hi ⟨z, e, hy⟩ => ?_, fun s' hmv => ?_⟩)
  · rw [hy]
    unfold trI
    rw [e]
  obtain ⟨H2, hT, J⟩ := hI s' hmv
  refine ⟨.bl _, H2, J, rfl, ?_⟩
  rw [any_trI zs pb]
  exact hR H2 hT
theorem preSum_get (f : Int → Int) (zs : List Int) (val : Nat → Int) (h : ∀ i z, zs[i]? = some z → val i = f z) : ∀ n, n ≤ zs.length → preSum val n = ((zs.take n).map f).sum
  | 0, _ => rfl
  | n + 1, hn => by
    have hx : zs[n]? = some zs[n] := List.getElem?_eq_getElem hn
    show preSum val n + val n = _
    rw [preSum_get f zs val h n (Nat.le_of_succ_le hn), h n _ hx, List.take_succ, hx, List.map_append, List.sum_append]
    simp
/-- sum(f x for x in e), e a list of ints with Pz -/
def tSumI (K : PySem.W.Frag) (P : Addr) (Pz : Int → Prop) (f : Int → Int) (te : TE) : TE := fun σ H Q => te σ H fun v H1 => ∃ (a : Addr) (zs : List Int), v = .ref a ∧ SqL K H1 a (zs.map V.int) ∧ (∀ z ∈ zs, Pz z) ∧ TabG H1 P ∧ ∀ H2, Tabbed P H1 H2 → Q (.int (zs.map f).sum) H2
theorem pe_sumI {c P : Addr} {elt iter : Expr} {x : Str} {px p pos gpos : Pos} {scope : Scope} {Pz : Int → Prop} {f : Int → Int} {te : TE} {k : Nat}
    (hr : Room k X.A) (hg : Gl X "sum") (hm : X.mg "sum" = none) (hb : bootBuiltins "sum" = some (.builtin "sum")) (TB : TabB X.base X.mg c P) (hcode : X.env.code = .ref c) (S : GenS X.env scope x) (hi : PE X iter te)
    (hel : EltI X.prog X.w scope x elt Pz fun z y => ∃ t, y = .int (f z) t)
    (hs : ∀ v, genFold iter X.env v = pure v)
    (he : starEach [.GeneratorExp elt [⟨.Name x px, iter, [], 0⟩] scope gpos] X.env = (false, eval (.GeneratorExp elt [⟨.Name x px, iter, [], 0⟩] scope gpos) X.env) :: starEach [] X.env := by rfl) :
    PE X (.Call (.Name "sum" p) [.GeneratorExp elt [⟨.Name x px, iter, [], 0⟩] scope gpos] [] pos) (tSumI X.K P Pz f te) := by
  refine ⟨fun pins s σ H Q I h => ?_⟩
  refine wpAny_Call_Name_kw (ld_blt I hg hm hb ?_)
  refine PyProof.Rows.callWith_builtin1 ?_ he (by rfl)
  rw [he]
  show wpAny _ _ (spliced ((false, eval (.GeneratorExp elt [⟨.Name x px, iter, [], 0⟩] scope gpos) X.env) :: backTo pos (starEach [] X.env))) _ _ s
  refine Calls.spliced_cons (gen_ints (R := fun zs H1 => ∀ H2, Tabbed P H1 H2 → Q (.int (zs.map f).sum) H2) hr TB hcode S hi hel hs I h (fun _ _ q => q) fun zs H1 g s5 hR hG => ?_)
  obtain ⟨fp, wr, G, St, W, hst, hfp, hI⟩ := hG
  refine Calls.spliced_nil ?_
  refine call_sum_walkAnyS (W.self 0 _ _ _ hst ⟨g, fp, wr, G, _, _, St, fun j => (zs[j]?.map f).getD 0, rfl, W, hst, hfp, fun j y hy => ?_, fun s' t' hmv => ?_⟩)
  · obtain ⟨i, hij, z, e, t, ey⟩ := hy
    obtain ⟨rfl, hj⟩ := range_get hij
    exact ⟨t, by rw [ey]; show _ = Value.int ((zs[j]?.map f).getD 0) t; rw [e]; rfl⟩
  obtain ⟨H2, hT, J⟩ := hI s' hmv
  refine ⟨.int _, H2, J, ⟨t', rfl⟩, ?_⟩
  rw [preSum_get f zs _ (fun i z e => by rw [e]; rfl) zs.length (Nat.le_refl _), List.take_length]
  exact hR H2 hT
/-- all(test for x in range) -/
def tAllR (P : Addr) (C : L2.St → Hp → Int → Int → (Int → Bool) → Prop) (te : TE) : TE := fun σ H Q => te σ H fun v H1 => ∃ (r : Addr) (lo hi : Int) (pb : Int → Bool), v = .ref r ∧ H1 r = some (.rng lo hi) ∧ (-(2 ^ 62) ≤ lo ∧ lo < 2 ^ 62 ∧ -(2 ^ 62) ≤ hi ∧ hi < 2 ^ 62) ∧ TabG H1 P ∧ C σ H1 lo hi pb ∧
  ∀ H2, Tabbed P H1 H2 → Q (.bl ((List.range (hi - lo).toNat).all fun i => pb (lo + (i : Nat)))) H2
theorem pe_allR {c P : Addr} {elt iter : Expr} {x : Str} {px p pos gpos : Pos} {scope : Scope} {C : L2.St → Hp → Int → Int → (Int → Bool) → Prop} {te : TE} {k : Nat}
    (hr : Room k X.A) (hg : Gl X "all") (hm : X.mg "all" = none) (hb : bootBuiltins "all" = some (.builtin "all")) (TB : TabB X.base X.mg c P) (hcode : X.env.code = .ref c) (S : GenS X.env scope x) (hi : PE X iter te)
    (hel : ∀ pins σ lo hi pb H1 s1, Inv X pins σ H1 s1 → TabG H1 P → C σ H1 lo hi pb → EltG X scope P x elt s1 (fun i v => i < (hi - lo).toNat ∧ ∃ t, v = .int (lo + (i : Nat)) t) fun i y => y = .bool (pb (lo + (i : Nat))))
    (hs : ∀ v, genFold iter X.env v = pure v)
    (he : starEach [.GeneratorExp elt [⟨.Name x px, iter, [], 0⟩] scope gpos] X.env = (false, eval (.GeneratorExp elt [⟨.Name x px, iter, [], 0⟩] scope gpos) X.env) :: starEach [] X.env := by rfl) :
    PE X (.Call (.Name "all" p) [.GeneratorExp elt [⟨.Name x px, iter, [], 0⟩] scope gpos] [] pos) (tAllR P C te) := by
  refine ⟨fun pins s σ H Q I h => ?_⟩
  refine wpAny_Call_Name_kw (ld_blt I hg hm hb ?_)
  refine PyProof.Rows.callWith_builtin1 ?_ he (by rfl)
  rw [he]
  show wpAny _ _ (spliced ((false, eval (.GeneratorExp elt [⟨.Name x px, iter, [], 0⟩] scope gpos) X.env) :: backTo pos (starEach [] X.env))) _ _ s
  refine Calls.spliced_cons (gen_rngP (Y := Int → Bool) (F := fun lo hi pb i y => y = .bool (pb (lo + (i : Nat)))) (R := fun lo hi pb H1 => C σ H1 lo hi pb ∧ ∀ H2, Tabbed P H1 H2 → Q (.bl ((List.range (hi - lo).toNat).all fun i => pb (lo + (i : Nat)))) H2)
    hr TB hcode S hi (fun lo hi pb H1 s1 I1 hT hR => hel pins σ lo hi pb H1 s1 I1 hT hR.1) hs I h (fun _ _ q => q) fun lo hi pb H1 g s5 hR hG => ?_)
  obtain ⟨fp, wr, G, St, W, hst, hfp, hI⟩ := hG
  refine Calls.spliced_nil ?_
  refine call_all_walkS (W.self 0 _ _ _ hst ⟨g, fp, wr, G, _, _, St, fun i => pb (lo + (i : Nat)), rfl, W, hst, truth_of fun i y hi hy => hy, fun s' hmv => ?_⟩)
  obtain ⟨H2, hT, J⟩ := hI s' hmv
  exact ⟨.bl _, H2, J, rfl, hR.2 H2 hT⟩
end

/-! ### elements -/
/-- x < 0 -/
theorem elt_neg {prog : Program} {w : World} {scope : Scope} {x : Str} {j : Nat} {p1 p2 p3 : Pos} (hk : scope.kind = .function) (hl : scope.names.lookup x = some .local) (hd : (x == ("__debug__" : Str)) = false := by decide) :
    EltI prog w scope x (.Compare (.Name x p1) [.Lt] [.Constant (.int 0) j p2] p3) (fun _ => True) fun z y => y = .bool (decide (z < 0)) := by
  intro cenv A' E' z t s₂ m₂ hs _ hn hm
  refine wpAny_Compare1 ?_
  refine wpAny_Name (wpAny_loadName_local (by rw [hs]; exact hk) (show cenv.scope.names.lookup x = some .local by rw [hs]; exact hl) hn hm ?_) hd
  refine wpAny_Constant_int ?_
  exact PySem.P.lt_int ⟨rfl, keeps_tok _ _⟩
/-- x * x -/
theorem elt_sq {prog : Program} {w : World} {scope : Scope} {x : Str} {p1 p2 p3 : Pos} (hk : scope.kind = .function) (hl : scope.names.lookup x = some .local) (hd : (x == ("__debug__" : Str)) = false := by decide) :
    EltI prog w scope x (.BinOp (.Name x p1) .Mult (.Name x p2) p3) (fun z => CMulW z z) fun z y => ∃ t, y = .int (z * z) t := by
  intro cenv A' E' z t s₂ m₂ hs hz hn hm
  have ld : ∀ {p : Pos} {Q : Value → Shared → Prop}, Q (.int z t) s₂ → wpAny (model prog w) A' (eval (.Name x p) cenv) Q E' s₂ := fun h =>
    wpAny_Name (wpAny_loadName_local (by rw [hs]; exact hk) (show cenv.scope.names.lookup x = some .local by rw [hs]; exact hl) hn hm h) hd
  refine wpAny_BinOp (ld (ld ?_))
  exact PySem.P.mul_int ⟨⟨_, rfl⟩, keeps_tok _ _⟩ hz.ok

/-- what is known where x[k] > x[k - 1] is asked -/
def upC (K : PySem.W.Frag) (i : Nat) : L2.St → Hp → Int → Int → (Int → Bool) → Prop := fun σ H lo hi pb => ∃ (a : Addr) (zs : List Int), σ[i]? = some (some (.ref a)) ∧ SqL K H a (zs.map V.int) ∧ zs.length < 2 ^ 62 ∧ 1 ≤ lo ∧ hi ≤ zs.length ∧
  pb = fun k => decide (zs.getD (k - 1).toNat 0 < zs.getD k.toNat 0)
theorem cell_read {X : Cx} {pins : List (Addr × Obj)} {σ : L2.St} {H1 : Hp} {s1 : Shared} {P : Addr} {i : Nat} {x : Str} {v : V} {scope : Scope} (I1 : Inv X pins σ H1 s1) (hT : TabG H1 P) (hN : X.N[i]? = some x) (hv : X.env.scope.names.lookup x = some .cell) (hl : scope.names.lookup x = some .free) (hσ : σ[i]? = some (some v)) :
    ∃ c u, RelV v u ∧ (cloFrom X.env.cells scope.names []).lookup x = some c ∧ c ≠ P ∧ s1.heap.IsCell c (some u) := by
  obtain ⟨m, hn, hlo⟩ := I1.loc
  obtain ⟨u, r, l⟩ := hlo i x v hN hσ (.inr (.inl hv))
  rcases l with ⟨hk, _⟩ | ⟨_, c, hc, hcell⟩
  · have hk : X.env.scope.names.lookup x = some .local := hk
    rw [hv] at hk
    cases hk
  · have hy : (x, NameKind.free) ∈ scope.names := PySem.mem_of_lookup hl
    obtain ⟨c', e'⟩ := mem_lookup (cloFrom_has (cells := X.env.cells) (acc := []) hy)
    have ec : c' = c := by
      rcases cloFrom_mem (PySem.mem_of_lookup e') with hm | ⟨_, e⟩
      · cases hm
      · rw [hc] at e
        exact e
    rw [ec] at e'
    refine ⟨c, u, r, e', fun z => ?_, hcell⟩
    obtain ⟨ps, hP, _⟩ := hT
    have hPs : s1.heap.get? P = some { cls := .none, data := .fields ps } := I1.hok P _ hP
    obtain ⟨o, ho, hd⟩ := hcell
    rw [z, hPs] at ho
    cases ho
    cases hd
theorem elt_up {X : Cx} {P : Addr} {scope : Scope} {x k : Str} {i j : Nat} {p1 p2 p3 p4 p5 p6 p7 p8 p9 : Pos} (hk : scope.kind = .function) (hkl : scope.names.lookup k = some .local) (hl : scope.names.lookup x = some .free)
    (hN : X.N[i]? = some x) (hv : X.env.scope.names.lookup x = some .cell) (hd : (k == ("__debug__" : Str)) = false := by decide) (hdx : (x == ("__debug__" : Str)) = false := by decide) (hcd : (x == ("__classdict__" : Str)) = false := by decide)
    (pins : List (Addr × Obj)) (σ : L2.St) (lo hi : Int) (pb : Int → Bool) (H1 : Hp) (s1 : Shared) (I1 : Inv X pins σ H1 s1) (hT : TabG H1 P) (hC : upC X.K i σ H1 lo hi pb) :
    EltG X scope P k (.Compare (.Subscript (.Name x p1) (.Name k p2) p3) [.Gt] [.Subscript (.Name x p4) (.BinOp (.Name k p5) .Sub (.Constant (.int 1) j p6) p7) p8] p9) s1
      (fun i v => i < (hi - lo).toNat ∧ ∃ t, v = .int (lo + (i : Nat)) t) fun i y => y = .bool (pb (lo + (i : Nat))) := by
  obtain ⟨a, zs, hσ, hq, hzl, hlo, hhi, hpb⟩ := hC
  obtain ⟨c, u, r, hc, hcP, hcell⟩ := cell_read I1 hT hN hv hl hσ
  obtain rfl : u = Value.ref a := r
  obtain ⟨its, rv, hpl, hz⟩ := I1.list hq
  have hIL := hpl.isList
  have haP : a ≠ P := fun z => by
    obtain ⟨ps, hP, _⟩ := hT
    have hPs : s1.heap.get? P = some { cls := .none, data := .fields ps } := I1.hok P _ hP
    obtain ⟨_, e, hc1, _, hd1⟩ := _root_.id hIL
    rw [z, hPs] at e
    cases e
    cases hd1
  have hat : ∀ (n : Nat), n < zs.length → ∃ t, its.toArray[n]? = some (.int (zs.getD n 0) t) := fun n hn => by
    have hb : (zs.map V.int)[n]? = some (V.int (zs.getD n 0)) := by
      rw [List.getElem?_map, List.getElem?_eq_getElem hn, List.getD_eq_getElem?_getD, List.getElem?_eq_getElem hn]
      rfl
    obtain ⟨u, hu, t, e⟩ := rv.get hb
    exact ⟨t, by rw [← e]; simpa using hu⟩
  intro cenv A' E' n v s₂ m₂ hA hsc hce hval hn hm hkeep
  obtain ⟨hnl, t, rfl⟩ := hval
  have kk : cenv.scope.kind = .function := by rw [hsc]; exact hk
  have kl : cenv.kindOf k = some .local := (show cenv.scope.names.lookup k = some .local by rw [hsc]; exact hkl)
  have kx : cenv.kindOf x = some .free := (show cenv.scope.names.lookup x = some .free by rw [hsc]; exact hl)
  have hcc : cenv.cells.lookup x = some c := by rw [hce]; exact hc
  have ldk : ∀ {p : Pos} {Q : Value → Shared → Prop} {tk : Nat}, Q (.int (lo + (n : Nat)) t) { s₂ with toks := tk } → wpAny (model X.prog X.w) A' (eval (.Name k p) cenv) Q E' { s₂ with toks := tk } := fun h =>
    wpAny_Name (wpAny_loadName_local kk kl (show Heap.Ns s₂.heap cenv.locals m₂ from hn) hm h) hd
  have hcell2 : s₂.heap.IsCell c (some (.ref a)) := by
    obtain ⟨o, ho, hd⟩ := hcell
    exact ⟨o, hkeep _ _ hcP ho, hd⟩
  have ldx : ∀ {p : Pos} {Q : Value → Shared → Prop} {tk : Nat}, Q (.ref a) { s₂ with toks := tk } → wpAny (model X.prog X.w) A' (eval (.Name x p) cenv) Q E' { s₂ with toks := tk } := fun h =>
    wpAny_Name (wpAny_loadName_free kk kx hcc (show Heap.IsCell s₂.heap c (some (.ref a)) from hcell2) h hcd) hdx
  have hIL2 : s₂.heap.IsList a its.toArray := by
    obtain ⟨ob, e, r⟩ := _root_.id hIL
    exact ⟨ob, hkeep _ _ haP e, r⟩
  have e0 : ({ s₂ with toks := s₂.toks } : Shared) = s₂ := rfl
  have i1 : (lo + (n : Nat)).toNat < zs.length := by omega
  have i2 : (lo + (n : Nat) - 1).toNat < zs.length := by omega
  obtain ⟨t1, g1⟩ := hat _ i1
  obtain ⟨t2, g2⟩ := hat _ i2
  rw [← e0]
  refine wpAny_Compare1 (Subscript_Name (ldx (ldk ⟨"list", _, slot_list_getitem.lookup, Heap.IsList.typeIs (s := { s₂ with toks := s₂.toks }) hIL2, wpAny_getItem_list (s := { s₂ with toks := s₂.toks }) hIL2 (by omega) (by omega) g1 ?_⟩)))
  refine Subscript_BinOp (ldx (wpAny_BinOp (ldk (wpAny_Constant_int (PySem.P.sub_int ?_)))))
  refine ⟨"list", _, slot_list_getitem.lookup, Heap.IsList.typeIs (s := { s₂ with toks := _ }) hIL2, wpAny_getItem_list (s := { s₂ with toks := _ }) hIL2 (by omega) (by omega) g2 ?_⟩
  refine PySem.P.gt_int ⟨?_, keeps_tok _ _⟩
  rw [hpb]
end TwG
set_option Elab.async false
set_option linter.all false
set_option maxRecDepth 100000
set_option maxHeartbeats 2000000
/-! list(zip(a, b)) of two lists, as a value. -/
namespace TwZ
open PySem PySem.Spec PyProof.Rows L2
open PySem.Sem (wp)
theorem wpAny_loadIfAlive {M : Model} {A : Around} {E : Value → Shared → Prop} {s : Shared} {a : Addr} {Q : Option Obj → Shared → Prop} (h : Q (s.heap.get? a) s) : wpAny M A (loadIfAlive a) Q E s := fun Γ p _ => h

/-- a zip whose last tuple T is still held -/
abbrev IsZipA (h : Heap) (z TI TO T : Addr) (b : Bool) : Prop :=
  h.get? z = some { cls := .type "zip", dict := none, data := .fields #[rawInt T, .bool b, .bool false, .ref TI, .ref TO], slots := #[] }

section
variable {prog : Program} {w : World} {A : Around} {E : Value → Shared → Prop} {s : Shared}
theorem not_free {z TI TO T : Addr} {b : Bool} {Q : Bool → Shared → Prop} (hz : IsZipA s.heap z TI TO T b) (hT : (s.heap.get? T).isSome = true) (hQ : ∀ h', IsZipA h' z TI TO T true → Heap.SameBut z s.heap h' → Q false { s with heap := h' }) :
    wpAny (model prog w) A (Builtin.SmallTypes.ownedTupleIsFree (.ref z)) Q E s := by
  unfold Builtin.SmallTypes.ownedTupleIsFree
  refine wpAny_bind (wpAny_field hz rfl (x := rawInt T) rfl ?_)
  show wpAny _ _ (loadIfAlive (Int.toNat (T : Int)) >>= _) _ _ _
  refine wpAny_bind (wpAny_loadIfAlive ?_)
  have e : Int.toNat (T : Int) = T := rfl
  rw [e]
  obtain ⟨o, ho⟩ := Option.isSome_iff_exists.mp hT
  rw [ho]
  simp only [Option.isNone_some, Bool.false_eq_true, if_false]
  cases b with
  | false =>
    refine wpAny_bind (wpAny_field hz rfl (x := .bool false) rfl ?_)
    rw [if_pos (by decide)]
    refine wpAny_bind (wpAny_setField_rec hz (by simp) fun h1 hz1 hs1 => wpAny_pure (hQ h1 hz1 hs1))
  | true =>
    refine wpAny_bind (wpAny_field hz rfl (x := .bool true) rfl ?_)
    rw [if_neg (by decide)]
    first
      | exact wpAny_pure (hQ s.heap hz (Heap.SameBut.refl _ _))
      | exact wpAny_bind (wpAny_pure (wpAny_pure (hQ s.heap hz (Heap.SameBut.refl _ _))))

theorem zipA_next_item {z TI TO T i1 i2 l1 l2 : Addr} {k1 k2 : Nat} {b : Bool} {xs ys : Array Value} {x y : Value} {Q : Value → Shared → Prop} (D : ZipApart z TI TO i1 i2 l1 l2)
    (hz : IsZipA s.heap z TI TO T b) (hT : (s.heap.get? T).isSome = true) (hTI : IsPair s.heap TI (.ref i1) (.ref i2))
    (h1 : s.heap.IsListIter i1 l1 k1) (h2 : s.heap.IsListIter i2 l2 k2) (hl1 : s.heap.IsList l1 xs) (hl2 : s.heap.IsList l2 ys) (hx : xs[k1]? = some x) (hy : ys[k2]? = some y)
    (hQ : ∀ h', IsZipA h' z TI TO T true → h'.IsListIter i1 l1 (k1 + 1) → h'.IsListIter i2 l2 (k2 + 1) → IsPair h' s.heap.objs.size x y → h'.objs.size = s.heap.objs.size + 1 →
      (∀ c o, c ≠ z → c ≠ i1 → c ≠ i2 → s.heap.get? c = some o → h'.get? c = some o) → Q (.ref s.heap.objs.size) { s with heap := h' }) :
    wpAny (model prog w) A (Builtin.«zip.__next__» ⟨[.ref z], []⟩) (fun fin s' => ∃ v, fin = .done (.ret v) ∧ Q v s') E s := by
  show wpAny _ _ (field (.ref z) 2 >>= _) _ _ _
  refine wpAny_bind (wpAny_field hz rfl (x := .bool false) rfl ?_)
  show wpAny _ _ (field (.ref z) 3 >>= _) _ _ _
  refine wpAny_bind (wpAny_field hz rfl (x := .ref TI) rfl ?_)
  refine wpAny_bind (wpAny_seqItems hTI rfl ?_)
  show wpAny _ _ (Builtin.SmallTypes.ownedTupleIsFree (.ref z) >>= _) _ _ _
  refine wpAny_bind (not_free hz hT fun h₁ hz₁ hs₁ => ?_)
  simp only [Bool.false_eq_true, if_false]
  have hk₁ : ∀ c o, c ≠ z → s.heap.get? c = some o → h₁.get? c = some o := fun c o c1 e => hs₁.extBut _ _ c1 e
  have hsz₁ : h₁.objs.size = s.heap.objs.size := hs₁.1
  refine wpAny_bind ?_
  simp only [← Array.forIn_toList, List.forIn_cons, List.forIn_nil]
  refine wpAny_bind (wpAny_bind (wpAny_holding ?_))
  show wpAny _ _ (Builtin.SmallTypes.nextOf (.ref i1) >>= _) _ _ _
  refine wpAny_bind (wpAny_nextOf_list_item (h1.extBut hs₁.extBut D.i1z) (hl1.extBut hs₁.extBut D.l1z) hx fun h₂ h1₂ hs₂ => wpAny_pure ?_)
  refine wpAny_pure ?_
  refine wpAny_bind (wpAny_bind (wpAny_holding ?_))
  show wpAny _ _ (Builtin.SmallTypes.nextOf (.ref i2) >>= _) _ _ _
  refine wpAny_bind (wpAny_nextOf_list_item ((h2.extBut hs₁.extBut D.i2z).extBut hs₂.extBut D.i12.symm) ((hl2.extBut hs₁.extBut D.l2z).extBut hs₂.extBut D.l2i1) hy fun h₃ h2₃ hs₃ => wpAny_pure ?_)
  refine wpAny_pure (wpAny_pure ?_)
  have sz : h₃.objs.size = s.heap.objs.size := by rw [hs₃.1, hs₂.1, hs₁.1]
  have hz₃ : IsZipA h₃ z TI TO T true := hs₃.extBut _ _ D.i2z.symm (hs₂.extBut _ _ D.i1z.symm hz₁)
  show wpAny _ _ (newTuple [x, y] >>= _) _ _ _
  refine wpAny_bind (wpAny_newTuple ?_)
  refine wpAny_pure ⟨_, rfl, ?_⟩
  show Q (.ref h₃.objs.size) _
  rw [sz]
  refine hQ _ (Heap.get?_push_of_some _ hz₃) ((h1₂.extBut hs₃.extBut D.i12).at fun o e => Heap.get?_push_of_some _ e) (h2₃.at fun o e => Heap.get?_push_of_some _ e) ?_ (by rw [Heap.size_push, sz]) fun c o c1 c2 c3 e => Heap.get?_push_of_some _ (hs₃.extBut _ _ c3 (hs₂.extBut _ _ c2 (hk₁ c o c1 e)))
  rw [← sz]
  exact Heap.get?_push_size _ rfl

theorem zipA_next_end {z TI TO T i1 i2 l1 l2 : Addr} {k1 k2 : Nat} {b : Bool} {xs ys : Array Value} {Q : Fin → Shared → Prop} (hh : A.handled = none) (D : ZipApart z TI TO i1 i2 l1 l2)
    (hz : IsZipA s.heap z TI TO T b) (hT : (s.heap.get? T).isSome = true) (hTI : IsPair s.heap TI (.ref i1) (.ref i2))
    (h1 : s.heap.IsListIter i1 l1 k1) (h2 : s.heap.IsListIter i2 l2 k2) (hl1 : s.heap.IsList l1 xs) (hl2 : s.heap.IsList l2 ys) (hend : xs[k1]? = none ∨ ys[k2]? = none)
    (hE : ∀ h' e, (∀ c o, c ≠ z → c ≠ i1 → c ≠ i2 → s.heap.get? c = some o → h'.get? c = some o) → (∃ o, h'.get? e = some o ∧ o.cls = .type "StopIteration") → E (.ref e) { s with heap := h' }) :
    wpAny (model prog w) A (Builtin.«zip.__next__» ⟨[.ref z], []⟩) Q E s := by
  show wpAny _ _ (field (.ref z) 2 >>= _) _ _ _
  refine wpAny_bind (wpAny_field hz rfl (x := .bool false) rfl ?_)
  show wpAny _ _ (field (.ref z) 3 >>= _) _ _ _
  refine wpAny_bind (wpAny_field hz rfl (x := .ref TI) rfl ?_)
  refine wpAny_bind (wpAny_seqItems hTI rfl ?_)
  show wpAny _ _ (Builtin.SmallTypes.ownedTupleIsFree (.ref z) >>= _) _ _ _
  refine wpAny_bind (not_free hz hT fun h₁ hz₁ hs₁ => ?_)
  simp only [Bool.false_eq_true, if_false]
  have hk₁ : ∀ c o, c ≠ z → s.heap.get? c = some o → h₁.get? c = some o := fun c o c1 e => hs₁.extBut _ _ c1 e
  refine wpAny_bind ?_
  simp only [← Array.forIn_toList, List.forIn_cons, List.forIn_nil]
  refine wpAny_bind (wpAny_bind (wpAny_holding ?_))
  show wpAny _ _ (Builtin.SmallTypes.nextOf (.ref i1) >>= _) _ _ _
  cases hx : xs[k1]? with
  | none =>
    refine wpAny_bind (wpAny_nextOf_list_end hh (h1.extBut hs₁.extBut D.i1z) (hl1.extBut hs₁.extBut D.l1z) hx fun h₂ e hs₂ he => ?_)
    exact hE h₂ e (fun c o c1 c2 _ x => hs₂ _ _ c2 (hk₁ c o c1 x)) he
  | some x =>
    have hy : ys[k2]? = none := by rcases hend with h | h; rw [hx] at h; cases h; exact h
    refine wpAny_bind (wpAny_nextOf_list_item (h1.extBut hs₁.extBut D.i1z) (hl1.extBut hs₁.extBut D.l1z) hx fun h₂ h1₂ hs₂ => wpAny_pure ?_)
    refine wpAny_pure ?_
    refine wpAny_bind (wpAny_bind (wpAny_holding ?_))
    show wpAny _ _ (Builtin.SmallTypes.nextOf (.ref i2) >>= _) _ _ _
    refine wpAny_bind (wpAny_nextOf_list_end hh ((h2.extBut hs₁.extBut D.i2z).extBut hs₂.extBut D.i12.symm) ((hl2.extBut hs₁.extBut D.l2z).extBut hs₂.extBut D.l2i1) hy fun h₃ e hs₃ he => ?_)
    exact hE h₃ e (fun c o c1 c2 c3 x => hs₃ _ _ c3 (hs₂.extBut _ _ c2 (hk₁ c o c1 x))) he

theorem pyNext_zipA_item {z TI TO T i1 i2 l1 l2 : Addr} {k1 k2 : Nat} {b : Bool} {xs ys : Array Value} {x y : Value} {Q : Option Value → Shared → Prop} (D : ZipApart z TI TO i1 i2 l1 l2)
    (hz : IsZipA s.heap z TI TO T b) (hT : (s.heap.get? T).isSome = true) (hTI : IsPair s.heap TI (.ref i1) (.ref i2))
    (h1 : s.heap.IsListIter i1 l1 k1) (h2 : s.heap.IsListIter i2 l2 k2) (hl1 : s.heap.IsList l1 xs) (hl2 : s.heap.IsList l2 ys) (hx : xs[k1]? = some x) (hy : ys[k2]? = some y)
    (hQ : ∀ h', IsZipA h' z TI TO T true → h'.IsListIter i1 l1 (k1 + 1) → h'.IsListIter i2 l2 (k2 + 1) → IsPair h' s.heap.objs.size x y → h'.objs.size = s.heap.objs.size + 1 →
      (∀ c o, c ≠ z → c ≠ i1 → c ≠ i2 → s.heap.get? c = some o → h'.get? c = some o) → Q (some (.ref s.heap.objs.size)) { s with heap := h' }) :
    wpAny (model prog w) A (pyNext (.ref z)) Q E s := by
  have hT2 : s.TypeIs (.ref z) "zip" := ⟨_, hz, rfl⟩
  unfold pyNext
  exact wpAny_bind (wpAny_attempt (wpAny_callSpecial?_slot (name := Str.ofString "__next__") hT2 F.slot_zip_next
    (wpAny_call_entry F.slot_zip_next hT2 F.entry_zip_next
      (zipA_next_item D hz hT hTI h1 h2 hl1 hl2 hx hy fun h' a1 a3 a4 a5 a6 a7 => wpAny_pure (hQ h' a1 a3 a4 a5 a6 a7)) (F.args_zip_next_1 _))))
theorem pyNext_zipA_end {z TI TO T i1 i2 l1 l2 : Addr} {k1 k2 : Nat} {b : Bool} {xs ys : Array Value} {Q : Option Value → Shared → Prop} (hh : A.handled = none) (D : ZipApart z TI TO i1 i2 l1 l2)
    (hz : IsZipA s.heap z TI TO T b) (hT : (s.heap.get? T).isSome = true) (hTI : IsPair s.heap TI (.ref i1) (.ref i2))
    (h1 : s.heap.IsListIter i1 l1 k1) (h2 : s.heap.IsListIter i2 l2 k2) (hl1 : s.heap.IsList l1 xs) (hl2 : s.heap.IsList l2 ys) (hend : xs[k1]? = none ∨ ys[k2]? = none)
    (hQ : ∀ h', (∀ c o, c ≠ z → c ≠ i1 → c ≠ i2 → s.heap.get? c = some o → h'.get? c = some o) → Q none { s with heap := h' }) : wpAny (model prog w) A (pyNext (.ref z)) Q E s := by
  have hT2 : s.TypeIs (.ref z) "zip" := ⟨_, hz, rfl⟩
  unfold pyNext
  refine wpAny_bind (wpAny_attempt (wpAny_callSpecial?_slot (name := Str.ofString "__next__") hT2 F.slot_zip_next
    (wpAny_call_entry F.slot_zip_next hT2 F.entry_zip_next (zipA_next_end hh D hz hT hTI h1 h2 hl1 hl2 hend fun h' e hk he => ?_) (F.args_zip_next_1 _))))
  obtain ⟨o, ho, hc⟩ := he
  refine wpAny_bind (wpAny_isInstance (T := "StopIteration") (b := true) ⟨o, ho, hc⟩ isSubtype_stop ?_)
  exact wpAny_pure (hQ _ hk)

/-- the zip at z at its i-th turn, fresh or with a tuple held -/
structure ZS (z TI TO i1 i2 l1 l2 : Addr) (xs ys : Array Value) (i : Nat) (h : Heap) : Prop where
  ti : IsPair h TI (.ref i1) (.ref i2)
  a1 : h.IsListIter i1 l1 i
  a2 : h.IsListIter i2 l2 i
  b1 : h.IsList l1 xs
  b2 : h.IsList l2 ys
  to : ∃ a b, IsPair h TO a b
  st : IsZip h z TI TO .none ∨ ∃ T b, IsZipA h z TI TO T b ∧ (h.get? T).isSome = true
theorem ZS.keeps {z TI TO i1 i2 l1 l2 : Addr} {xs ys : Array Value} {i : Nat} {h h' : Heap} {S : Addr} (x : ZS z TI TO i1 i2 l1 l2 xs ys i h) (hk : ∀ b o, b ≠ S → h.get? b = some o → h'.get? b = some o) (hS : ∃ o, h'.get? S = some o)
    (nS : S ≠ z ∧ S ≠ TI ∧ S ≠ TO ∧ S ≠ i1 ∧ S ≠ i2 ∧ S ≠ l1 ∧ S ≠ l2) : ZS z TI TO i1 i2 l1 l2 xs ys i h' := by
  obtain ⟨n1, n2, n3, n4, n5, n6, n7⟩ := nS
  refine ⟨hk _ _ (Ne.symm n2) x.ti, x.a1.at fun o e => hk _ o (Ne.symm n4) e, x.a2.at fun o e => hk _ o (Ne.symm n5) e, x.b1.at fun o e => hk _ o (Ne.symm n6) e, x.b2.at fun o e => hk _ o (Ne.symm n7) e, (let ⟨a, b, ho⟩ := x.to; ⟨a, b, hk _ _ (Ne.symm n3) ho⟩), ?_⟩
  rcases x.st with hz | ⟨T, b, hz, hT⟩
  · exact .inl (hk _ _ (Ne.symm n1) hz)
  · refine .inr ⟨T, b, hk _ _ (Ne.symm n1) hz, ?_⟩
    by_cases e : T = S
    · rw [e]
      exact Option.isSome_iff_exists.mpr hS
    · obtain ⟨o, ho⟩ := Option.isSome_iff_exists.mp hT
      exact Option.isSome_iff_exists.mpr ⟨o, hk _ _ e ho⟩
theorem ZS.item {z TI TO i1 i2 l1 l2 : Addr} {xs ys : Array Value} {i : Nat} {x y : Value} {Q : Option Value → Shared → Prop} (D : ZipApart z TI TO i1 i2 l1 l2) (Z : ZS z TI TO i1 i2 l1 l2 xs ys i s.heap) (hx : xs[i]? = some x) (hy : ys[i]? = some y)
    (hQ : ∀ h', ZS z TI TO i1 i2 l1 l2 xs ys (i + 1) h' → IsPair h' s.heap.objs.size x y → (∀ c o, c ≠ z → c ≠ TO → c ≠ i1 → c ≠ i2 → s.heap.get? c = some o → h'.get? c = some o) → Q (some (.ref s.heap.objs.size)) { s with heap := h' }) :
    wpAny (model prog w) A (pyNext (.ref z)) Q E s := by
  have lt : ∀ {c o}, s.heap.get? c = some o → c ≠ s.heap.objs.size := fun e => Nat.ne_of_lt (Heap.lt_size e)
  obtain ⟨a, b0, ho⟩ := Z.to
  rcases Z.st with hz | ⟨T, b, hz, hT⟩
  · refine wpAny_pyNext_zip_item D hz Z.ti ho Z.a1 Z.a2 Z.b1 Z.b2 hx hy fun h' c1 c2 c3 c4 c5 c6 hk => hQ h' ⟨hk _ _ D.TIz D.TITO D.TIi1 D.TIi2 Z.ti, c3, c4, Z.b1.at fun o e => hk _ o D.l1z D.l1TO D.l1i1 D.l1i2 e, Z.b2.at fun o e => hk _ o D.l2z D.l2TO D.l2i1 D.l2i2 e, ⟨_, _, c2⟩, .inr ⟨s.heap.objs.size, false, c1, ?_⟩⟩ c5 hk
    rw [c5]
    rfl
  · refine pyNext_zipA_item D hz hT Z.ti Z.a1 Z.a2 Z.b1 Z.b2 hx hy fun h' c1 c3 c4 c5 c6 hk => hQ h' ⟨hk _ _ D.TIz D.TIi1 D.TIi2 Z.ti, c3, c4, Z.b1.at fun o e => hk _ o D.l1z D.l1i1 D.l1i2 e, Z.b2.at fun o e => hk _ o D.l2z D.l2i1 D.l2i2 e, ⟨_, _, hk _ _ D.TOz D.TOi1 D.TOi2 ho⟩, .inr ⟨T, true, c1, ?_⟩⟩ c5 (fun c o e1 _ e3 e4 e => hk c o e1 e3 e4 e)
    obtain ⟨oT, hoT⟩ := Option.isSome_iff_exists.mp hT
    by_cases e1 : T = z
    · rw [e1, c1]; rfl
    · by_cases e2 : T = i1
      · obtain ⟨o', ho', _⟩ := c3
        rw [e2, ho']; rfl
      · by_cases e3 : T = i2
        · obtain ⟨o', ho', _⟩ := c4
          rw [e3, ho']; rfl
        · rw [hk _ _ e1 e2 e3 hoT]; rfl
theorem ZS.done {z TI TO i1 i2 l1 l2 : Addr} {xs ys : Array Value} {i : Nat} {Q : Option Value → Shared → Prop} (hh : A.handled = none) (D : ZipApart z TI TO i1 i2 l1 l2) (Z : ZS z TI TO i1 i2 l1 l2 xs ys i s.heap) (hend : xs[i]? = none ∨ ys[i]? = none)
    (hQ : ∀ h', (∀ c o, c ≠ z → c ≠ TO → c ≠ i1 → c ≠ i2 → s.heap.get? c = some o → h'.get? c = some o) → Q none { s with heap := h' }) : wpAny (model prog w) A (pyNext (.ref z)) Q E s := by
  obtain ⟨a, b0, ho⟩ := Z.to
  rcases Z.st with hz | ⟨T, b, hz, hT⟩
  · exact wpAny_pyNext_zip_end hh D hz Z.ti ho Z.a1 Z.a2 Z.b1 Z.b2 hend hQ
  · exact pyNext_zipA_end hh D hz hT Z.ti Z.a1 Z.a2 Z.b1 Z.b2 hend fun h' hk => hQ h' fun c o e1 _ e3 e4 e => hk c o e1 e3 e4 e
end

/-- the tuples ts made so far -/
def Made (xs ys : Array Value) (bad : Addr → Prop) (ts : List Addr) (h : Heap) : Prop := ∀ (j : Nat) (t : Addr), ts[j]? = some t → ∃ x y, xs[j]? = some x ∧ ys[j]? = some y ∧ IsPair h t x y ∧ ¬ bad t
section
variable {prog : Program} {w : World} {A : Around} {R : Result → Shared → Prop}
theorem extend_zip {z TI TO i1 i2 l1 l2 S : Addr} {xs ys : Array Value} (hh : A.handled = none) (D : ZipApart z TI TO i1 i2 l1 l2) (nS : S ≠ z ∧ S ≠ TI ∧ S ≠ TO ∧ S ≠ i1 ∧ S ≠ i2 ∧ S ≠ l1 ∧ S ≠ l2) (n : Nat) (hn : n ≤ sizeLine) (hnx : n = min xs.size ys.size) (res : Value) (h0 : Heap) :
    ∀ (k i : Nat) (s : Shared) (ts : List Addr) (c : Nat), n - i = k → i ≤ n → ZS z TI TO i1 i2 l1 l2 xs ys i s.heap → s.heap.get? S = some { cls := .type "list", dict := none, data := .seq (ts.map Value.ref).toArray c, slots := #[] } → ts.length = i →
    Made xs ys (fun t => t < h0.objs.size ∨ t = z ∨ t = TO ∨ t = i1 ∨ t = i2 ∨ t = S) ts s.heap → (∀ b o, b ≠ z → b ≠ TO → b ≠ i1 → b ≠ i2 → b ≠ S → h0.get? b = some o → s.heap.get? b = some o) → h0.objs.size ≤ s.heap.objs.size →
    (∀ h' ts' c', (∀ b o, b ≠ z → b ≠ TO → b ≠ i1 → b ≠ i2 → b ≠ S → h0.get? b = some o → h'.get? b = some o) → h'.get? S = some { cls := .type "list", dict := none, data := .seq (ts'.map Value.ref).toArray c', slots := #[] } → ts'.length = n →
      Made xs ys (fun t => t < h0.objs.size ∨ t = z ∨ t = TO ∨ t = i1 ∨ t = i2 ∨ t = S) ts' h' → ts'.Nodup → R (.ok (.ret res)) { s with heap := h' }) → ts.Nodup →
    codeAny (model prog w) A (.builtin "list.extend.loop" ⟨[.ref S, .ref z, res], []⟩) R s := by
  obtain ⟨n1, n2, n3, n4, n5, n6, n7⟩ := nS
  intro k
  induction k with
  | zero =>
    intro i s ts c hk hi Z hS hl hM hkeep hsz hR hnd
    have hin : i = n := by omega
    refine codeAny_builtin F.entry_extend_loop ?_
    rw [Around.under_plainId F.plain_extend_loop _]
    show wpAny _ A.in1 (pyNext (.ref z) >>= _) _ _ s
    refine wpAny_bind (ZS.done (A := A.in1) hh D Z ?_ fun h' hk' => ?_)
    · rw [hin, hnx]
      rcases Nat.le_total xs.size ys.size with q | q
      · left
        rw [Nat.min_eq_left q]
        simp
      · right
        rw [Nat.min_eq_right q]
        simp
    refine wpAny_pure (hR h' ts c (fun b o e1 e2 e3 e4 e5 e => hk' b o e1 e2 e3 e4 (hkeep b o e1 e2 e3 e4 e5 e)) (hk' _ _ n1 n3 n4 n5 hS) (by omega) (fun j t hj => ?_) hnd)
    obtain ⟨x, y, ex, ey, hp, hb⟩ := hM j t hj
    have hb2 : ¬ (t < h0.objs.size ∨ t = z ∨ t = TO ∨ t = i1 ∨ t = i2 ∨ t = S) := hb
    exact ⟨x, y, ex, ey, hk' _ _ (fun q => hb2 (by simp [q])) (fun q => hb2 (by simp [q])) (fun q => hb2 (by simp [q])) (fun q => hb2 (by simp [q])) hp, hb⟩
  | succ k ih =>
    intro i s ts c hk hi Z hS hl hM hkeep hsz hR hnd
    have hlt : i < n := by omega
    have hix : i < xs.size := by omega
    have hiy : i < ys.size := by omega
    refine codeAny_builtin F.entry_extend_loop ?_
    rw [Around.under_plainId F.plain_extend_loop _]
    show wpAny _ A.in1 (pyNext (.ref z) >>= _) _ _ s
    refine wpAny_bind (ZS.item (A := A.in1) D Z (Array.getElem?_eq_getElem hix) (Array.getElem?_eq_getElem hiy) fun h' Z' hp hk' => ?_)
    have hS' := hk' _ _ n1 n3 n4 n5 hS
    show wpAny _ A.in1 (updateSeq S (·.push (.ref s.heap.objs.size)) >>= _) _ _ _
    refine wpAny_bind ?_
    have szS : ((ts.map Value.ref).toArray : Array Value).size = i := by simp [hl]
    have ne : ∀ {b o}, s.heap.get? b = some o → s.heap.objs.size ≠ b := fun e => Nat.ne_of_gt (Heap.lt_size e)
    have hTs : s.heap.objs.size ≠ S := ne hS
    have upd : ∀ b o, b ≠ S → h'.get? b = some o → (h'.update S (Obj.mapSeq (·.push (.ref s.heap.objs.size)))).get? b = some o := fun b o hb e => (Heap.get?_update_other _ _ (Ne.symm hb)).trans e
    have hS2 := Heap.get?_update_self (Obj.mapSeq (·.push (Value.ref s.heap.objs.size))) hS' rfl
    have hz0 : s.heap.objs.size ≠ z := by
      rcases Z.st with hz | ⟨_, _, hz, _⟩
      · exact ne hz
      · exact ne hz
    have hzTO : s.heap.objs.size ≠ TO := let ⟨_, _, ho⟩ := Z.to; ne ho
    have hz1 : s.heap.objs.size ≠ i1 := let ⟨_, e, _⟩ := Z.a1; ne e
    have hz2 : s.heap.objs.size ≠ i2 := let ⟨_, e, _⟩ := Z.a2; ne e
    have hM1 : Made xs ys (fun t => t < h0.objs.size ∨ t = z ∨ t = TO ∨ t = i1 ∨ t = i2 ∨ t = S) (ts ++ [s.heap.objs.size]) (h'.update S (Obj.mapSeq (·.push (.ref s.heap.objs.size)))) := fun j t hj => by
      rw [List.getElem?_append] at hj
      split at hj
      · obtain ⟨x, y, ex, ey, hp, hb⟩ := hM j t hj
        have hb2 : ¬ (t < h0.objs.size ∨ t = z ∨ t = TO ∨ t = i1 ∨ t = i2 ∨ t = S) := hb
        exact ⟨x, y, ex, ey, upd _ _ (fun q => hb2 (by simp [q])) (hk' _ _ (fun q => hb2 (by simp [q])) (fun q => hb2 (by simp [q])) (fun q => hb2 (by simp [q])) (fun q => hb2 (by simp [q])) hp), hb⟩
      · rename_i hji
        have e1 : j - ts.length = 0 := by
          have := (List.getElem?_eq_some_iff.mp hj).1
          simp at this
          omega
        have e2 : j = i := by omega
        rw [e1] at hj
        simp at hj
        subst hj e2
        refine ⟨_, _, Array.getElem?_eq_getElem hix, Array.getElem?_eq_getElem hiy, upd _ _ hTs hp, ?_⟩
        intro q
        rcases q with q | q | q | q | q | q
        · exact absurd (show s.heap.objs.size < h0.objs.size from q) (by omega)
        · exact hz0 q
        · exact hzTO q
        · exact hz1 q
        · exact hz2 q
        · exact hTs q
    have hnd1 : (ts ++ [s.heap.objs.size]).Nodup := by
      refine List.nodup_append.mpr ⟨hnd, by simp, fun a ha b hb => ?_⟩
      obtain ⟨j, hj⟩ := List.getElem?_of_mem ha
      obtain ⟨x, y, _, _, hp, _⟩ := hM j a hj
      rw [List.mem_singleton.mp hb]
      exact Nat.ne_of_lt (Heap.lt_size hp)
    have hsz1 : h0.objs.size ≤ (h'.update S (Obj.mapSeq (·.push (.ref s.heap.objs.size)))).objs.size := by
      have q := Heap.lt_size (upd _ _ hTs hp)
      have q2 : s.heap.objs.size < (h'.update S (Obj.mapSeq (·.push (.ref s.heap.objs.size)))).objs.size := q
      omega
    have hS3 : (h'.update S (Obj.mapSeq (·.push (.ref s.heap.objs.size)))).get? S = some { cls := .type "list", dict := none, data := .seq ((ts ++ [s.heap.objs.size]).map Value.ref).toArray (c + 1), slots := #[] } := by
      rw [hS2]
      simp [Obj.mapSeq]
    refine wpAny_updateSeq hS' rfl (wpAny_pure ⟨plainId_quiet F.plain_extend_loop _, ih (i + 1) _ (ts ++ [s.heap.objs.size]) _ (by omega) hlt (Z'.keeps (fun b o hb e => upd b o hb e) ⟨_, hS2⟩ ⟨n1, n2, n3, n4, n5, n6, n7⟩) hS3 (by simp [hl]) hM1
      (fun b o e1 e2 e3 e4 e5 e => upd _ _ e5 (hk' _ _ e1 e2 e3 e4 (hkeep b o e1 e2 e3 e4 e5 e))) hsz1 hR hnd1⟩) (by rw [szS]; omega) (by show (Array.push _ _).size ≤ sizeLine + 1; rw [Array.size_push, szS]; omega)
end

theorem zip_no_len : typeLookup (.type "zip") "__len__" = pure none := by rw [typeLookup_type, builtinLookup_eq_fast]; kernel_rfl
theorem zip_no_hint : typeLookup (.type "zip") "__length_hint__" = pure none := by rw [typeLookup_type, builtinLookup_eq_fast]; kernel_rfl
section
variable {prog : Program} {w : World} {A : Around} {E : Value → Shared → Prop} {s : Shared}
theorem ZS.type {z TI TO i1 i2 l1 l2 : Addr} {xs ys : Array Value} {i : Nat} (Z : ZS z TI TO i1 i2 l1 l2 xs ys i s.heap) : s.TypeIs (.ref z) "zip" := by
  rcases Z.st with hz | ⟨_, _, hz, _⟩
  · exact ⟨_, hz, rfl⟩
  · exact ⟨_, hz, rfl⟩
theorem call_list_zip {z TI TO i1 i2 l1 l2 : Addr} {xs ys : Array Value} {Q : Value → Shared → Prop} (hh : A.handled = none) (D : ZipApart z TI TO i1 i2 l1 l2) (h0 : Heap) (Z : ZS z TI TO i1 i2 l1 l2 xs ys 0 s.heap) (hz : IsZip s.heap z TI TO .none) (n : Nat) (hn : n ≤ sizeLine) (hnx : n = min xs.size ys.size)
    (hk0 : ∀ b o, h0.get? b = some o → s.heap.get? b = some o) (hs0 : h0.objs.size ≤ s.heap.objs.size)
    (hQ : ∀ h' ts c, (∀ b o, b ≠ z → b ≠ TO → b ≠ i1 → b ≠ i2 → b ≠ s.heap.objs.size → h0.get? b = some o → h'.get? b = some o) → h'.get? s.heap.objs.size = some { cls := .type "list", dict := none, data := .seq (ts.map Value.ref).toArray c, slots := #[] } → ts.length = n →
      Made xs ys (fun t => t < h0.objs.size ∨ t = z ∨ t = TO ∨ t = i1 ∨ t = i2 ∨ t = s.heap.objs.size) ts h' → ts.Nodup → Q (.ref s.heap.objs.size) { s with heap := h' }) :
    wpAny (model prog w) A (call (.type "list") [.ref z]) Q E s := by
  have ne : ∀ {b o}, s.heap.get? b = some o → s.heap.objs.size ≠ b := fun e => Nat.ne_of_gt (Heap.lt_size e)
  have nS : s.heap.objs.size ≠ z ∧ s.heap.objs.size ≠ TI ∧ s.heap.objs.size ≠ TO ∧ s.heap.objs.size ≠ i1 ∧ s.heap.objs.size ≠ i2 ∧ s.heap.objs.size ≠ l1 ∧ s.heap.objs.size ≠ l2 := by
    obtain ⟨_, _, hTO⟩ := Z.to
    obtain ⟨_, e1, _⟩ := Z.a1
    obtain ⟨_, e2, _⟩ := Z.a2
    obtain ⟨_, e3, _⟩ := Z.b1
    obtain ⟨_, e4, _⟩ := Z.b2
    exact ⟨ne hz, ne Z.ti, ne hTO, ne e1, ne e2, ne e3, ne e4⟩
  refine callType_codes (Q₁ := fun obj s₁ => obj = .ref s.heap.objs.size ∧ s₁ = { s with heap := s.heap.push { cls := .type "list", data := .seq #[] } }) PySem.F.called_list (PySem.F.typeCall_list_1 _) PySem.F.entry_list_init
    (code_list_new _ ⟨rfl, rfl⟩) fun obj s₁ h₁ => ?_
  obtain ⟨rfl, rfl⟩ := h₁
  have hS : (s.heap.push { cls := .type "list", data := .seq #[] }).get? s.heap.objs.size = some { cls := .type "list", data := .seq #[] } := Heap.get?_push_size _ rfl
  refine ⟨⟨_, hS, rfl⟩, PySem.F.args_list_init_2 _ _, ?_⟩
  generalize hSe : s.heap.objs.size = S at *
  have push : ∀ b o, s.heap.get? b = some o → (s.heap.push { cls := .type "list", data := .seq #[] }).get? b = some o := fun b o e => Heap.get?_push_of_some _ e
  have Z1 : ZS z TI TO i1 i2 l1 l2 xs ys 0 (s.heap.push { cls := .type "list", data := .seq #[] }) := Z.keeps (S := S) (fun b o _ e => push b o e) ⟨_, hS⟩ nS
  generalize hh1 : s.heap.push { cls := .type "list", data := .seq #[] } = h1 at *
  show wpAny _ A.in1.in1 (do let old ← Builtin.List.listItems (.ref S); Builtin.List.listUpdate (.ref S) (fun _ => #[]); letGo old.toList.reverse; Builtin.List.listExtendWith (.ref S) (.ref z) .none) _ _ _
  refine wpAny_bind ?_
  unfold Builtin.List.listItems
  refine wpAny_bind (wpAny_seqItems hS rfl (wpAny_pure ?_))
  show wpAny _ A.in1.in1 (updateSeq S (fun _ => #[]) >>= fun _ => letGo (#[] : Array Value).toList.reverse >>= fun _ => Builtin.List.listExtendWith (.ref S) (.ref z) .none) _ _ _
  refine wpAny_bind (wpAny_updateSeq hS rfl ?_)
  have hS₂ := Heap.get?_update_self (Obj.mapSeq (fun _ => (#[] : Array Value))) hS rfl
  have oth : ∀ b o, b ≠ S → h1.get? b = some o → (h1.update S (Obj.mapSeq (fun _ => (#[] : Array Value)))).get? b = some o :=
    fun b o hb e => (Heap.get?_update_other _ _ (Ne.symm hb)).trans e
  have Z2 := Z1.keeps (S := S) oth ⟨_, hS₂⟩ nS
  generalize hh2 : h1.update S (Obj.mapSeq (fun _ => (#[] : Array Value))) = h2 at *
  refine wpAny_bind (wpAny_letGo ?_)
  unfold Builtin.List.listExtendWith
  refine wpAny_bind (wpAny_typeOf (ZS.type (s := { s with heap := h2 }) Z2) ?_)
  have q1 : Builtin.List.listSameRef (.ref S) (.ref z) = false := by simp [Builtin.List.listSameRef, nS.1]
  have q2 : (Value.type "zip" == Value.type "list") = false := by decide
  have q3 : (Value.type "zip" == Value.type "tuple") = false := by decide
  simp only [q1, q2, q3, Bool.or_false, Bool.false_eq_true, if_false]
  have hz2 : ∃ f0, IsZip h2 z TI TO f0 := by
    subst hh2
    exact ⟨_, oth _ _ (Ne.symm nS.1) (push _ _ hz)⟩
  obtain ⟨f0, hz2⟩ := hz2
  refine wpAny_bind (wpAny_pyIter_zip (s := { s with heap := h2 }) hz2 ?_)
  refine wpAny_bind (wpAny_holding ?_)
  unfold Builtin.List.listLengthHint
  refine wpAny_bind (wpAny_specialOf (ZS.type (s := { s with heap := h2 }) Z2) zip_no_len ?_)
  show wpAny _ A.in1.in1 (specialOf (Value.ref z) (Str.ofString "__length_hint__") >>= _) _ _ _
  refine wpAny_bind (wpAny_specialOf (ZS.type (s := { s with heap := h2 }) Z2) zip_no_hint ?_)
  refine wpAny_pure ?_
  show wpAny _ A.in1.in1 (rule "list.extend.makes-room" >>= fun _ => Builtin.List.listTouch (.ref S) >>= fun _ =>
    again (.builtin "list.extend.loop" ⟨[.ref S, .ref z, .none], []⟩)) _ _ _
  refine wpAny_bind (wpAny_rule ?_)
  refine wpAny_bind ?_
  show wpAny _ A.in1.in1 (updateSeq S (·.push .none) >>= fun _ => updateSeq S (·.pop)) _ _ _
  refine wpAny_bind (wpAny_updateSeq hS₂ rfl ?_)
  have hS₃ := Heap.get?_update_self (Obj.mapSeq (·.push Value.none)) hS₂ rfl
  refine wpAny_updateSeq (hz := by seq_fits) hS₃ rfl ?_
  have hS₄ := Heap.get?_update_self (Obj.mapSeq (·.pop)) hS₃ rfl
  have oth2 : ∀ b o, b ≠ S → h2.get? b = some o → ((h2.update S (Obj.mapSeq (·.push Value.none))).update S (Obj.mapSeq (·.pop))).get? b = some o :=
    fun b o hb e => (Heap.get?_update_other _ _ (Ne.symm hb)).trans ((Heap.get?_update_other _ _ (Ne.symm hb)).trans e)
  have Z3 := Z2.keeps (S := S) oth2 ⟨_, hS₄⟩ nS
  generalize hh3 : (h2.update S (Obj.mapSeq (·.push Value.none))).update S (Obj.mapSeq (·.pop)) = h3 at *
  have up : ∀ b o, s.heap.get? b = some o → b ≠ S → h3.get? b = some o := fun b o e hb => oth2 b o hb (oth b o hb (push b o e))
  refine wpAny_pure ⟨plainId_quiet PySem.F.plain_extend_loop _, extend_zip (A := A.in1) hh D nS n hn hnx .none h0 n 0 { s with heap := h3 } [] _ (Nat.sub_zero _) (Nat.zero_le _) Z3 hS₄ rfl (fun j t hj => by simp at hj) (fun b o e1 e2 e3 e4 e5 e => up b o (hk0 b o e) e5) ?_ (fun h' ts c a1 a2 a3 a4 a5 => ⟨rfl, hQ h' ts c a1 a2 a3 a4 a5⟩) List.nodup_nil⟩
  have e1 : s.heap.objs.size ≤ h3.objs.size := by
    rw [← hh3, ← hh2, ← hh1]
    simp only [Heap.size_update, Heap.size_push]
    omega
  exact Nat.le_trans (by rw [hSe]; exact hs0) e1
end

section
variable {X : Cx} {pins : List (Addr × Obj)} {σ : L2.St} {H H' : Hp} {s : Shared}
/-- new objects laid, many at once -/
theorem inv_many {h' : Heap} {t' : Nat} (I : Inv X pins σ H s) (k : ∀ b u, s.heap.get? b = some u → h'.get? b = some u) (hH : ∀ b u, H b = some u → H' b = some u) (hn : ∀ b, H b = none → H' b ≠ none → s.heap.objs.size ≤ b) (hok : HOk X.prog X.w H' h') :
    Inv X pins σ H' { s with heap := h', toks := t' } := by
  refine I.step (g' := s.gens) (d' := s.drawn) (ch := []) (fun b hb => absurd hb (by simp)) (fun b o _ _ _ e _ => k b o e) (fun b o _ _ _ e _ => ⟨o.slots, k b o e⟩) (fun b o _ e n => ?_)
    (fun b o _ e => ⟨o, k b o e⟩) (fun b xs e => hH b _ e) (fun b o u e => hH b _ e) (fun b ps e => ⟨#[], by rw [hH b _ e]; simp⟩) (fun m hn => hn.keeps k) hok I.bare
  cases q : H' b with
  | none => rfl
  | some u => exact absurd (Nat.lt_of_lt_of_le (Heap.lt_size e) (hn b n (by rw [q]; simp))) (Nat.lt_irrefl _)
/-- H and the pairs ps told in a list -/
def more (H : Hp) : List (Addr × HO) → Hp
  | [] => H
  | p :: r => upd (more H r) p.1 p.2
theorem more_out {H : Hp} {b : Addr} : ∀ {ps : List (Addr × HO)}, b ∉ ps.map (·.1) → more H ps b = H b
  | [], _ => rfl
  | p :: r, h => by
    have h2 : ¬ b ∈ p.1 :: r.map (·.1) := h
    show upd (more H r) p.1 p.2 b = _
    rw [upd_ne fun e => h2 (by rw [e]; exact List.mem_cons_self)]
    exact more_out fun e => h2 (List.mem_cons_of_mem _ e)
theorem more_in {H : Hp} {b : Addr} {o : HO} : ∀ {ps : List (Addr × HO)}, (ps.map (·.1)).Nodup → (b, o) ∈ ps → more H ps b = some o
  | p :: r, hn, h => by
    have hn2 := List.nodup_cons.mp (show (p.1 :: r.map (·.1)).Nodup from hn)
    show upd (more H r) p.1 p.2 b = _
    rcases List.mem_cons.mp h with e | e
    · rw [← e]
      exact upd_same
    · rw [upd_ne (fun q => hn2.1 (by rw [← q]; exact List.mem_map.mpr ⟨_, e, rfl⟩))]
      exact more_in hn2.2 e
theorem more_some {H : Hp} {b : Addr} {u : HO} : ∀ {ps : List (Addr × HO)}, more H ps b = some u → (b, u) ∈ ps ∨ H b = some u
  | [], h => .inr h
  | p :: r, h => by
    have h : upd (more H r) p.1 p.2 b = some u := h
    by_cases e : b = p.1
    · rw [e, upd_same] at h
      cases h
      rw [e]
      exact .inl List.mem_cons_self
    · rw [upd_ne e] at h
      rcases more_some h with q | q
      · exact .inl (List.mem_cons_of_mem _ q)
      · exact .inr q
theorem vals_refs : ∀ ts : List Addr, Vals (ts.map V.ref) (ts.map Value.ref)
  | [] => .nil
  | _ :: r => .cons rfl (vals_refs r)

/-- what list(zip(..)) leaves: the new list l of new pairs ts -/
structure Zipped (H H2 : Hp) (xs ys : List V) (l : Addr) (ts : List Addr) : Prop where
  len : ts.length = min xs.length ys.length
  nodup : ts.Nodup
  out : l ∉ ts
  keep : ∀ b u, H b = some u → H2 b = some u
  new : H l = none
  news : ∀ t ∈ ts, H t = none
  lst : H2 l = some (.lst (ts.map V.ref))
  pair : ∀ (j : Nat) (t : Addr), ts[j]? = some t → ∃ x y, xs[j]? = some x ∧ ys[j]? = some y ∧ H2 t = some (.tup [x, y])
  rest : ∀ b, H b = none → b ≠ l → b ∉ ts → H2 b = none
/-- list(zip(a, b)) of two lists -/
def tListZip (K : PySem.W.Frag) (ta : TA) : TE := fun σ H Q => ta σ H fun vs H1 => ∃ a b xs ys, vs = [.ref a, .ref b] ∧ SqL K H1 a xs ∧ SqL K H1 b ys ∧ ∀ l ts H2, Zipped H1 H2 xs ys l ts → Q (.ref l) H2
theorem pe_listZip {e e2 : Expr} {ta : TA} {p p2 q pos : Pos} (hh : X.A.handled = none) (hgl : Gl X "list") (hml : X.mg "list" = none) (hg : Gl X "zip") (hm : X.mg "zip" = none) (ha : PA X [e, e2] ta)
    (hs : starEach [e, e2] X.env = (false, eval e X.env) :: starEach [e2] X.env := by rfl) (hpl : (backTo q (starEach [e2] X.env)).any (·.1) = false := by rfl)
    (hs2 : starEach [.Call (.Name "zip" p2) [e, e2] [] q] X.env = (false, eval (.Call (.Name "zip" p2) [e, e2] [] q) X.env) :: starEach [] X.env := by rfl) :
    PE X (.Call (.Name "list" p) [.Call (.Name "zip" p2) [e, e2] [] q] [] pos) (tListZip X.K ta) := by
  refine ⟨fun pins s σ H Q I h => ?_⟩
  refine wpAny_Call_Name_kw (ld_blt I hgl hml PyProof.Rows.boot_list ?_)
  refine PyProof.Rows.callWith_type1 ?_ hs2 (by rfl)
  rw [hs2]
  show wpAny _ _ (spliced ((false, eval (.Call (.Name "zip" p2) [e, e2] [] q) X.env) :: backTo pos (starEach [] X.env))) _ _ s
  refine Calls.spliced_cons (Call_ (ld_blt I hg hm PyProof.Rows.boot_zip (PyProof.Rows.callWith_type1 (thn (ha.run q pins s σ H _ I h) fun us s1 ⟨vs, H1, I1, r1, q1⟩ => ?_) hs hpl)))
  obtain ⟨a, b, xs, ys, ex, hqx, hqy, q1⟩ := q1
  subst ex
  obtain ⟨ua, ub, rfl, ra, rb⟩ := vals2 r1
  obtain rfl : ua = Value.ref a := ra
  obtain rfl : ub = Value.ref b := rb
  obtain ⟨its, rv, p1, hx1⟩ := I1.list hqx
  obtain ⟨its2, rv2, p2', hx2⟩ := I1.list hqy
  refine call_zip_2 p1.isList p2'.isList fun h' hz hTI hTO h1 h2 hsz hk => ?_
  refine Calls.spliced_nil ?_
  have lx := rv.length
  have ly := rv2.length
  refine call_list_zip (s := { s1 with heap := h' }) (xs := its.toArray) (ys := its2.toArray) (i1 := s1.heap.objs.size) (i2 := s1.heap.objs.size + 1) (TI := s1.heap.objs.size + 2) (TO := s1.heap.objs.size + 3) hh (PySem.W.ktu_apart s1.heap.objs.size a b p1.lt p2'.lt) s1.heap
    ⟨hTI, h1, h2, p1.isList.at fun o e => hk _ o e, p2'.isList.at fun o e => hk _ o e, ⟨_, _, hTO⟩, .inl hz⟩ hz (min xs.length ys.length) (by omega) (by rw [List.size_toArray, List.size_toArray, lx, ly]) (fun b o e => hk b o e) (by show s1.heap.objs.size ≤ h'.objs.size; omega)
    fun h3 ts c hkeep hl hlen hM hnd => ?_
  have hl : h3.get? h'.objs.size = some { cls := .type "list", dict := none, data := .seq (ts.map Value.ref).toArray c, slots := #[] } := hl
  show EP X pins σ Q (.ref h'.objs.size) { s1 with heap := h3, toks := s1.toks }
  have hM : Made its.toArray its2.toArray (fun t => t < s1.heap.objs.size ∨ t = s1.heap.objs.size + 4 ∨ t = s1.heap.objs.size + 3 ∨ t = s1.heap.objs.size ∨ t = s1.heap.objs.size + 1 ∨ t = h'.objs.size) ts h3 := hM
  have hge : ∀ t ∈ ts, s1.heap.objs.size ≤ t ∧ t ≠ h'.objs.size := fun t ht => by
    obtain ⟨j, hj⟩ := List.getElem?_of_mem ht
    obtain ⟨_, _, _, _, _, hb⟩ := hM j t hj
    have hb : ¬ (t < s1.heap.objs.size ∨ t = s1.heap.objs.size + 4 ∨ t = s1.heap.objs.size + 3 ∨ t = s1.heap.objs.size ∨ t = s1.heap.objs.size + 1 ∨ t = h'.objs.size) := hb
    exact ⟨Nat.le_of_not_lt fun q => hb (.inl q), fun q => hb (by simp [q])⟩
  have hlge : s1.heap.objs.size ≤ h'.objs.size := by omega
  have kp : ∀ b o, s1.heap.get? b = some o → h3.get? b = some o := fun b o e => by
    have q := Heap.lt_size e
    have q : (b : Nat) < s1.heap.objs.size := q
    have hsz : h'.objs.size = s1.heap.objs.size + 5 := hsz
    refine hkeep b o ?_ ?_ ?_ ?_ ?_ e
    · exact Nat.ne_of_lt (Nat.lt_of_lt_of_le q (Nat.le_add_right _ _))
    · exact Nat.ne_of_lt (Nat.lt_of_lt_of_le q (Nat.le_add_right _ _))
    · exact Nat.ne_of_lt q
    · exact Nat.ne_of_lt (Nat.lt_of_lt_of_le q (Nat.le_add_right _ _))
    · exact Nat.ne_of_lt (Nat.lt_of_lt_of_le q hlge)
  generalize hps : ts.zip ((xs.zip ys).map fun p => HO.tup [p.1, p.2]) = ps
  have hkeys : ps.map (·.1) = ts := by
    rw [← hps]
    refine List.map_fst_zip ?_
    rw [List.length_map, List.length_zip, hlen]
    exact Nat.le_refl _
  have hlts : h'.objs.size ∉ ts := fun q => (hge _ q).2 rfl
  have hnd2 : (((h'.objs.size, HO.lst (ts.map V.ref)) :: ps).map (·.1)).Nodup := by
    show (h'.objs.size :: ps.map (·.1)).Nodup
    rw [hkeys]
    exact List.nodup_cons.mpr ⟨hlts, hnd⟩
  have hat : ∀ (j : Nat) (t : Addr), ts[j]? = some t → ∃ x y, xs[j]? = some x ∧ ys[j]? = some y ∧ (t, HO.tup [x, y]) ∈ ps := fun j t hj => by
    have hjl : j < ts.length := (List.getElem?_eq_some_iff.mp hj).1
    have jx : j < xs.length := by omega
    have jy : j < ys.length := by omega
    refine ⟨xs[j], ys[j], List.getElem?_eq_getElem jx, List.getElem?_eq_getElem jy, ?_⟩
    rw [← hps]
    refine List.mem_of_getElem? (i := j) ?_
    rw [List.getElem?_zip_eq_some]
    refine ⟨hj, ?_⟩
    have e : (xs.zip ys)[j]? = some (xs[j], ys[j]) := List.getElem?_zip_eq_some.mpr ⟨List.getElem?_eq_getElem jx, List.getElem?_eq_getElem jy⟩
    rw [List.getElem?_map, e]
    rfl
  have hof : ∀ (t : Addr) (u : HO), (t, u) ∈ ps → ∃ (j : Nat) (x y : V), ts[j]? = some t ∧ xs[j]? = some x ∧ ys[j]? = some y ∧ u = .tup [x, y] := fun t u hm => by
    rw [← hps] at hm
    obtain ⟨j, hj⟩ := List.getElem?_of_mem hm
    rw [List.getElem?_zip_eq_some] at hj
    obtain ⟨j1, j2⟩ := hj
    rw [List.getElem?_map] at j2
    obtain ⟨p, hp, e⟩ := Option.map_eq_some_iff.mp j2
    obtain ⟨g1, g2⟩ := List.getElem?_zip_eq_some.mp hp
    exact ⟨j, p.1, p.2, j1, g1, g2, e.symm⟩
  have fresh : ∀ b, s1.heap.objs.size ≤ b → H1 b = none := fun b e => I1.hok.fresh e
  have hold : ∀ b u, H1 b = some u → more H1 ((h'.objs.size, HO.lst (ts.map V.ref)) :: ps) b = some u := fun b u e => by
    rw [more_out, e]
    show b ∉ h'.objs.size :: ps.map (·.1)
    rw [hkeys]
    intro q
    rcases List.mem_cons.mp q with q | q
    · rw [q, fresh _ hlge] at e
      cases e
    · rw [fresh _ (hge _ q).1] at e
      cases e
  have Z : Zipped H1 (more H1 ((h'.objs.size, HO.lst (ts.map V.ref)) :: ps)) xs ys h'.objs.size ts :=
    ⟨hlen, hnd, hlts, hold, fresh _ hlge, fun t ht => fresh _ (hge t ht).1, more_in hnd2 List.mem_cons_self,
      fun j t hj => let ⟨x, y, ex, ey, hm⟩ := hat j t hj; ⟨x, y, ex, ey, more_in hnd2 (List.mem_cons_of_mem _ hm)⟩,
      fun b e1 e2 e3 => by
        rw [more_out, e1]
        show b ∉ h'.objs.size :: ps.map (·.1)
        rw [hkeys]
        intro q
        rcases List.mem_cons.mp q with q | q
        · exact e2 q
        · exact e3 q⟩
  refine ⟨.ref h'.objs.size, _, inv_many (t' := s1.toks) I1 kp hold (fun b e1 e2 => ?_) (fun b u e => ?_), rfl, q1 _ _ _ Z⟩
  · cases q : more H1 ((h'.objs.size, HO.lst (ts.map V.ref)) :: ps) b with
    | none => exact absurd q e2
    | some u =>
      rcases more_some q with q | q
      · rcases List.mem_cons.mp q with q | q
        · cases q
          exact hlge
        · obtain ⟨j, _, _, hj, _⟩ := hof b u q
          exact (hge b (List.mem_of_getElem? hj)).1
      · rw [e1] at q
        cases q
  · rcases more_some e with q | q
    · rcases List.mem_cons.mp q with q | q
      · cases q
        exact ⟨by rw [List.length_map]; omega, ts.map Value.ref, c, vals_refs ts, hl⟩
      · obtain ⟨j, x, y, hj, hx, hy, eu⟩ := hof b u q
        subst eu
        obtain ⟨x', y', ex', ey', hp, _⟩ := hM j b hj
        obtain ⟨u1, hu1, r1'⟩ := rv.get hx
        obtain ⟨u2, hu2, r2'⟩ := rv2.get hy
        have e1 : x' = u1 := by
          have : its[j]? = some x' := by simpa using ex'
          rw [hu1] at this
          exact (Option.some.inj this).symm
        have e2 : y' = u2 := by
          have : its2[j]? = some y' := by simpa using ey'
          rw [hu2] at this
          exact (Option.some.inj this).symm
        subst e1 e2
        exact ⟨by show 2 ≤ sizeLine; decide, [x', y'], .cons r1' (.cons r2' .nil), _, hp, rfl, _, rfl⟩
    · exact (I1.hok b u q).stay (fun d v _ e => kp d v e) (fun d e => hold d _ e) fun d xs e => hold d _ e
end
end TwZ
set_option Elab.async false
set_option linter.all false
set_option maxRecDepth 100000
set_option maxHeartbeats 2000000
/-! defs whose code object has a table: their promise, their end. -/
namespace TwT
open PySem PySem.Spec PyProof.Rows L2 GxR Tw
/-- H' is H grown, but for the table at P, which is a table still -/
def ExT (P : Addr) (H H' : Hp) : Prop := TabG H' P ∧ ∀ b o, b ≠ P → H b = some o → H' b = some o
theorem ExT.refl {P : Addr} {H : Hp} (h : TabG H P) : ExT P H H := ⟨h, fun _ _ _ e => e⟩
theorem TabG.ex {P : Addr} {H H' : Hp} (h : TabG H P) (e : ∀ b o, H b = some o → H' b = some o) : TabG H' P := let ⟨ps, h1, h2⟩ := h; ⟨ps, e _ _ h1, h2⟩
theorem ExT.of_tabbed {P : Addr} {H H' : Hp} (h : Tabbed P H H') : ExT P H H' := ⟨h.1, fun b o hb e => by rw [h.2 b hb]; exact e⟩
theorem ExT.of_ex {P : Addr} {H H' : Hp} (h : TabG H P) (e : ∀ b o, H b = some o → H' b = some o) : ExT P H H' := ⟨TabG.ex h e, fun b o _ q => e b o q⟩
theorem ExT.trans {P : Addr} {H H' H2 : Hp} (h : ExT P H H') (h2 : ExT P H' H2) : ExT P H H2 := ⟨h2.1, fun b o hb e => h2.2 b o hb (h.2 b o hb e)⟩
theorem sql_tab {K : PySem.W.Frag} {P : Addr} {H H' : Hp} {a : Addr} {xs : List V} (hT : TabG H P) (e : ExT P H H') (h : SqL K H a xs) : SqL K H' a xs := by
  obtain ⟨ps, hP, _⟩ := hT
  rcases h with h | h
  · rcases h with h | ⟨o, h⟩
    · exact .inl (.inl (e.2 _ _ (fun q => by rw [q, hP] at h; cases h) h))
    · exact .inl (.inr ⟨o, e.2 _ _ (fun q => by rw [q, hP] at h; cases h) h⟩)
  · exact .inr h
theorem lst_tab {P : Addr} {H H' : Hp} {a : Addr} {xs : List V} (hT : TabG H P) (e : ExT P H H') (h : H a = some (.lst xs)) : H' a = some (.lst xs) := by
  obtain ⟨ps, hP, _⟩ := hT
  exact e.2 _ _ (fun q => by rw [q, hP] at h; cases h) h
theorem triples_nil {H : Hp} {P : Addr} (h : H P = some (.tbl #[])) : TabG H P := ⟨#[], h, trivial⟩

/-- the scope of a generator expression in the def's own frame -/
theorem genS_by {env : Env} {n : Nat} {sc scope : Scope} {x : Str} (he : env.cells = cellsFrom n sc.names []) (h1 : scope.kind = .function) (h2 : scope.isCoroutine = false) (h3 : scope.names.all (fun y => y.2 != .cell) = true) (h4 : scope.names.lookup (".0" : Str) = some NameKind.local) (h5 : scope.names.lookup x = some .local)
    (h6 : scope.names.all (fun y => y.2 != .free || sc.names.lookup y.1 == some .cell) = true) : GenS env scope x := by
  refine ⟨h1, h2, fun y hy e => ?_, h4, h5, fun y hy e => ?_⟩
  · have q := List.all_eq_true.mp h3 y hy
    rw [e] at q
    cases q
  · have q := List.all_eq_true.mp h6 y hy
    rw [e] at q
    have q : sc.names.lookup y.1 = some .cell := by simpa using q
    obtain ⟨c, hc⟩ := cell_has (n := n) q
    exact ⟨c, by rw [he]; exact hc⟩

theorem pe_joinK {X : Cx} {K : PySem.W.Frag} {o e : Expr} {to te : TE} {apos pos : Pos} (h : X.K = K) (ho : PE X o to) (he : PE X e te) (hs : starEach [e] X.env = [(false, eval e X.env)] := by rfl) (hbase : attributeBase o "join" X.env (eval o X.env) = eval o X.env := by rfl) (hline : (apos.endLine == pos.line) = true := by rfl) :
    PE X (.Call (.Attribute o "join" apos) [e] [] pos) (tM1 (fun x xs H Q => ∃ a p, ∃ ys : List Str, x = .str a ∧ xs = [.ref p] ∧ (SqL K H p (ys.map V.str) ∨ SqT K H p (ys.map V.str)) ∧
      (ys.map (·.length)).sum + ys.length * a.length ≤ 16777216 ∧ Q (.str (Txt.join a ys)) H) to te) := by
  subst h
  exact pe_join ho he hs hbase hline
def CPowW (i j : Int) : Prop := 0 ≤ j ∧ (Builtin.Int.intBits i : Int) * j ≤ 2 ^ 27
theorem op_powW {X : Cx} : OpR X (binaryOp .Pow) (rI CPowW fun i j => .int (i ^ j.toNat)) := opI fun _ _ _ _ _ _ _ hc q => PyProof.Rows.pow_int hc.1 hc.2 q
theorem slL {X : Cx} {K : PySem.W.Frag} (h : X.K = K) : SlR X (rSlL K) := by
  subst h
  exact sl_list
section
variable {P : Program} {w : World} {K : PySem.W.Frag} {mg : Str → Option Value} {base : Heap}
/-- a def whose code object is known -/
theorem _root_.L2.Fun.okC {x qual : Str} {st : Stmt} {f c : Addr} {fd : FuncData} {N ps : List Str} {k : Nat} {sp : Sp} (F : Fun K x qual st f fd) (hc : fd.code = .ref c) (S : FnScope N ps (defScope st)) (len : ∀ vs H Q E, sp vs H Q E → vs.length = ps.length)
    (hbody : ∀ (A : Around) (outer : List Env) (s : Shared) (H : Hp) (vs : List V) (Q : VK) (E : XK), Room k (A.deeper (envOfC qual (defScope st) s.heap.objs.size f (.ref c))) → sp vs H Q E →
      ∃ t, PSs (cxOf CX0 P w K mg base N qual (defScope st) f (.ref c) A outer s H E).nox (defBody st) t ∧ t { nx := fun _ H' => Q .non H', rt := Q } (L2.start N vs) H) : FnOk P w K mg base CX0 (k + 1) f fd ps sp := by
  obtain ⟨oc, od, kV, doc, pm, an, cdv, ct, osl, rfl, lk, hcd⟩ := F.ex
  obtain rfl : cdv = .ref c := hc
  refine fn_of lk hcd S len fun A outer s H vs Q E hr hsp => ?_
  obtain ⟨t, h, q⟩ := hbody A outer s H vs Q E hr hsp
  exact ⟨t, h.nox, q⟩
/-- the same, of a def that may raise -/
theorem _root_.L2.Fun.okNC {x qual : Str} {st : Stmt} {f c : Addr} {fd : FuncData} {N ps : List Str} {k : Nat} {sp : Sp} (F : Fun K x qual st f fd) (hc : fd.code = .ref c) (S : FnScope N ps (defScope st)) (len : ∀ vs H Q E, sp vs H Q E → vs.length = ps.length)
    (hbody : ∀ (A : Around) (outer : List Env) (s : Shared) (H : Hp) (vs : List V) (Q : VK) (E : XK), Room k (A.deeper (envOfC qual (defScope st) s.heap.objs.size f (.ref c))) → sp vs H Q E →
      ∃ t, PSs (cxOf (L2N.CX P w) P w K mg base N qual (defScope st) f (.ref c) A outer s H E) (defBody st) t ∧ t { nx := fun _ H' => Q .non H', rt := Q } (L2.start N vs) H) : FnOk P w K mg base (L2N.CX P w) (k + 1) f fd ps sp := by
  obtain ⟨oc, od, kV, doc, pm, an, cdv, ct, osl, rfl, lk, hcd⟩ := F.ex
  obtain rfl : cdv = .ref c := hc
  exact fn_of lk hcd S len fun A outer s H vs Q E hr hsp => hbody A outer s H vs Q E hr hsp
end
open LamX
/-- what the top tells of the tables -/
def TabsOf (q : Program) (K : PySem.W.Frag) (h : Heap) : Prop := ∀ (x : Str) (d : DefRec) (c P : Addr), (PyProof.Rows.recsOf q).find? (fun e => e.name == x) = some d → PySem.W.tabIn K x = some (c, P) → PySem.W.CodeHd h c P ∧ h.get? P = some (PySem.W.tabObj #[])
theorem walk_ofG {l : PySem.W.OpenLaw} {n k : Nat} {q : Program} {loose : List Str} {XP : (Str → Option Value) → Heap → Prop} {YP : World → Heap → Prop} {d : DefRec} {K : Params → PySem.W.Frag} {CX : World → CXT} {x : Str}
    (hn : l.most = some n) (hn2 : n ≤ sizeLine) (hdf : d.params.defaults = []) (hr : Room k callerA) (hY : ∀ (w : World) (h : Heap), YP w h → (K w.params).In h)
    (F : ∀ (w : World) (mg : Str → Option Value) (fa : Addr) (h : Heap), (K w.params).In h → h.Ns mainGlobals mg → mg d.name = some (.ref fa) → TabsOf q (K w.params) h → LawAtS l w (K w.params) (CX w) k n x mg fa h)
    (hCX : ∀ (w : World) (H : Hp) (s : Shared) (e : Value) (s' : Shared), CX w [] H s (fun _ _ _ => False) e s' → False) :
    PySem.W.WalkO q loose XP YP l.row.toRowW d [] (fun f vs => PySem.call f vs) := by
  refine Att.attach_callB hn hdf fun w s₀ s₁ mg mb fa o pm cd doc a vs ns G Y ho hd hcd hmg hobj hints hlen hbits hg => ?_
  have KX := hY w _ Y
  obtain ⟨fd, cs, sp, hT, nT, C, hb, hsp, hF⟩ := F w mg fa _ KX G.T.g hmg fun x d c P h1 h2 => PySem.W.tab_of G.T KX h1 h2
  exact law_callTs KX G.T.g G.T.b G.T.builtins G.T.nolimit hg hT nT C G.T.bmain hobj hints (Nat.le_trans hlen hn2) hr hF hb (fun H hH hS => hsp H a ns hlen hbits hH hS) fun H e s' => hCX w H s₁ e s'
theorem tab_in {K : PySem.W.Frag} {x : Str} {f c P : Addr} {oc qa : Value} {od qb : Option Addr} {fd : FuncData} {sl qs : Array (Option Value)} {qv : Array Value} (a : PySem.W.nsIn K mainGlobals x = some (some (.ref f))) (l : K.lookup f = some ⟨oc, od, .func fd, sl⟩) (hc : fd.code = .ref c) (q : K.lookup c = some ⟨qa, qb, .fields qv, qs⟩) (v : qv[11]? = some (.ref P)) :
    PySem.W.tabIn K x = some (c, P) := by
  unfold PySem.W.tabIn
  rw [a]
  dsimp only
  rw [l]
  dsimp only
  rw [hc]
  dsimp only
  rw [q]
  dsimp only
  rw [v]
end TwT
set_option Elab.async false
set_option linter.all false
set_option maxRecDepth 100000
set_option maxHeartbeats 1000000
namespace Pf
open PySem PySem.Spec PyProof.Rows L2 Evl Tw L2H GxR TwT
def topS (i : Nat) : Stmt := PySem.Challenge.pw_textwrapper_k14_whole_page_kept.main.body.getD i (.Pass ⟨0, 0, 0, 0⟩)
abbrev s_line_of : Stmt := topS 13
abbrev N_line_of : List Str := ["words", "begin", "end"]
theorem sc_line_of : FnScope N_line_of ["words", "begin", "end"] (defScope s_line_of) := ⟨rfl, rfl, rfl, by decide +kernel, rfl, by decide +kernel, by decide +kernel⟩
abbrev s_sizes_from : Stmt := topS 14
abbrev N_sizes_from : List Str := ["words", "width", "begin", "sizes", "size", "place"]
theorem sc_sizes_from : FnScope N_sizes_from ["words", "width", "begin"] (defScope s_sizes_from) := ⟨rfl, rfl, rfl, by decide +kernel, rfl, by decide +kernel, by decide +kernel⟩
abbrev s_long_word : Stmt := topS 15
abbrev N_long_word : List Str := ["words", "width", "place", "word"]
theorem sc_long_word : FnScope N_long_word ["words", "width"] (defScope s_long_word) := ⟨rfl, rfl, rfl, by decide +kernel, rfl, by decide +kernel, by decide +kernel⟩
abbrev s_check_width : Stmt := topS 16
abbrev N_check_width : List Str := ["width"]
theorem sc_check_width : FnScope N_check_width ["width"] (defScope s_check_width) := ⟨rfl, rfl, rfl, by decide +kernel, rfl, by decide +kernel, by decide +kernel⟩
abbrev s_check_words : Stmt := topS 17
abbrev N_check_words : List Str := ["words", "width"]
theorem sc_check_words : FnScope N_check_words ["words", "width"] (defScope s_check_words) := ⟨rfl, rfl, rfl, by decide +kernel, rfl, by decide +kernel, by decide +kernel⟩
abbrev s_lines_of : Stmt := topS 19
abbrev N_lines_of : List Str := ["words", "starts", "begin", "end"]
theorem sc_lines_of : FnScope N_lines_of ["words", "starts"] (defScope s_lines_of) := ⟨rfl, rfl, rfl, by decide +kernel, rfl, by decide +kernel, by decide +kernel⟩
abbrev s_bounds_of : Stmt := topS 20
abbrev N_bounds_of : List Str := ["words", "starts", "ends"]
theorem sc_bounds_of : FnScope N_bounds_of ["words", "starts"] (defScope s_bounds_of) := ⟨rfl, rfl, rfl, by decide +kernel, rfl, by decide +kernel, by decide +kernel⟩
abbrev s_check_starts : Stmt := topS 21
abbrev N_check_starts : List Str := ["words", "starts"]
theorem sc_check_starts : FnScope N_check_starts ["words", "starts"] (defScope s_check_starts) := ⟨rfl, rfl, rfl, by decide +kernel, rfl, by decide +kernel, by decide +kernel⟩
abbrev s_are_starts : Stmt := topS 22
abbrev N_are_starts : List Str := ["words", "starts"]
theorem sc_are_starts : FnScope N_are_starts ["words", "starts"] (defScope s_are_starts) := ⟨rfl, rfl, rfl, by decide +kernel, rfl, by decide +kernel, by decide +kernel⟩
abbrev s_table_of : Stmt := topS 24
abbrev N_table_of : List Str := ["words", "width", "table", "begin", "least", "_"]
theorem sc_table_of : FnScope N_table_of ["words", "width"] (defScope s_table_of) := ⟨rfl, rfl, rfl, by decide +kernel, rfl, by decide +kernel, by decide +kernel⟩
abbrev s_best_starts : Stmt := topS 25
abbrev N_best_starts : List Str := ["words", "width", "table", "starts", "begin", "_"]
theorem sc_best_starts : FnScope N_best_starts ["words", "width"] (defScope s_best_starts) := ⟨rfl, rfl, rfl, by decide +kernel, rfl, by decide +kernel, by decide +kernel⟩
abbrev s_first_line : Stmt := topS 26
abbrev N_first_line : List Str := ["words", "width", "begin", "table", "sizes"]
theorem sc_first_line : FnScope N_first_line ["words", "width", "begin", "table"] (defScope s_first_line) := ⟨rfl, rfl, rfl, by decide +kernel, rfl, by decide +kernel, by decide +kernel⟩
abbrev s_best_line : Stmt := topS 27
abbrev N_best_line : List Str := ["counts", "begin", "rest", "least", "best", "end", "count", "total"]
theorem sc_best_line : FnScope N_best_line ["counts", "begin", "rest"] (defScope s_best_line) := ⟨rfl, rfl, rfl, by decide +kernel, rfl, by decide +kernel, by decide +kernel⟩
abbrev s_squares_of : Stmt := topS 28
abbrev N_squares_of : List Str := ["width", "sizes", "size"]
theorem sc_squares_of : FnScope N_squares_of ["width", "sizes"] (defScope s_squares_of) := ⟨rfl, rfl, rfl, by decide +kernel, rfl, by decide +kernel, by decide +kernel⟩
abbrev s_words_of : Stmt := topS 30
abbrev N_words_of : List Str := ["text"]
theorem sc_words_of : FnScope N_words_of ["text"] (defScope s_words_of) := ⟨rfl, rfl, rfl, by decide +kernel, rfl, by decide +kernel, by decide +kernel⟩
abbrev s_is_word : Stmt := topS 31
abbrev N_is_word : List Str := ["text"]
theorem sc_is_word : FnScope N_is_word ["text"] (defScope s_is_word) := ⟨rfl, rfl, rfl, by decide +kernel, rfl, by decide +kernel, by decide +kernel⟩
abbrev s_l_cell_at : Stmt := topS 36
abbrev N_l_cell_at : List Str := ["_law_script", "_law_k"]
theorem sc_l_cell_at : FnScope N_l_cell_at ["_law_script", "_law_k"] (defScope s_l_cell_at) := ⟨rfl, rfl, rfl, by decide +kernel, rfl, by decide +kernel, by decide +kernel⟩
abbrev s_l_sign_by : Stmt := topS 37
abbrev N_l_sign_by : List Str := ["_law_cell", "_law_some"]
theorem sc_l_sign_by : FnScope N_l_sign_by ["_law_cell"] (defScope s_l_sign_by) := ⟨rfl, rfl, rfl, by decide +kernel, rfl, by decide +kernel, by decide +kernel⟩
abbrev s_l_word_by : Stmt := topS 38
abbrev N_l_word_by : List Str := ["_law_cell", "_law_size", "_law_k"]
theorem sc_l_word_by : FnScope N_l_word_by ["_law_cell"] (defScope s_l_word_by) := ⟨rfl, rfl, rfl, by decide +kernel, rfl, by decide +kernel, by decide +kernel⟩
abbrev s_l_whole : Stmt := topS 39
abbrev N_l_whole : List Str := ["_law_found"]
theorem sc_l_whole : FnScope N_l_whole ["_law_found"] (defScope s_l_whole) := ⟨rfl, rfl, rfl, by decide +kernel, rfl, by decide +kernel, by decide +kernel⟩
abbrev s_l_wholes : Stmt := topS 40
abbrev N_l_wholes : List Str := ["_law_found", "_law_one"]
theorem sc_l_wholes : FnScope N_l_wholes ["_law_found"] (defScope s_l_wholes) := ⟨rfl, rfl, rfl, by decide +kernel, rfl, by decide +kernel, by decide +kernel⟩
abbrev s_l_texts : Stmt := topS 41
abbrev N_l_texts : List Str := ["_law_found", "_law_due_here", "_law_k"]
theorem sc_l_texts : FnScope N_l_texts ["_law_found", "_law_due_here"] (defScope s_l_texts) := ⟨rfl, rfl, rfl, by decide +kernel, rfl, by decide +kernel, by decide +kernel⟩
abbrev s_l_longest : Stmt := topS 42
abbrev N_l_longest : List Str := ["_law_row", "_law_most", "_law_word"]
theorem sc_l_longest : FnScope N_l_longest ["_law_row"] (defScope s_l_longest) := ⟨rfl, rfl, rfl, by decide +kernel, rfl, by decide +kernel, by decide +kernel⟩
abbrev s_l_table_right : Stmt := topS 43
abbrev N_l_table_right : List Str := ["_law_row", "_law_width", "_law_found", "_law_at", "_law_size", "_law_met", "_law_end", "_law_price"]
theorem sc_l_table_right : FnScope N_l_table_right ["_law_row", "_law_width", "_law_found"] (defScope s_l_table_right) := ⟨rfl, rfl, rfl, by decide +kernel, rfl, by decide +kernel, by decide +kernel⟩
abbrev s_l_starts_by_table : Stmt := topS 44
abbrev N_l_starts_by_table : List Str := ["_law_row", "_law_width", "_law_told_here", "_law_found", "_law_at", "_law_size", "_law_goal", "_law_end"]
theorem sc_l_starts_by_table : FnScope N_l_starts_by_table ["_law_row", "_law_width", "_law_told_here"] (defScope s_l_starts_by_table) := ⟨rfl, rfl, rfl, by decide +kernel, rfl, by decide +kernel, by decide +kernel⟩
abbrev s_l_page_width : Stmt := topS 45
abbrev N_l_page_width : List Str := ["_law_cell"]
theorem sc_l_page_width : FnScope N_l_page_width ["_law_cell"] (defScope s_l_page_width) := ⟨rfl, rfl, rfl, by decide +kernel, rfl, by decide +kernel, by decide +kernel⟩
abbrev s_l_page_by : Stmt := topS 46
abbrev N_l_page_by : List Str := ["_law_width", "_law_e"]
theorem sc_l_page_by : FnScope N_l_page_by ["_law_width"] (defScope s_l_page_by) := ⟨rfl, rfl, rfl, by decide +kernel, rfl, by decide +kernel, by decide +kernel⟩
abbrev s_l_kind : Stmt := topS 47
abbrev N_l_kind : List Str := ["_law_e", "_law_flags", "_law_k"]
theorem sc_l_kind : FnScope N_l_kind ["_law_e"] (defScope s_l_kind) := ⟨rfl, rfl, rfl, by decide +kernel, rfl, by decide +kernel, by decide +kernel⟩
abbrev s_l_told : Stmt := topS 48
abbrev N_l_told : List Str := ["_law_page", "_law_deed", "_law_e"]
theorem sc_l_told : FnScope N_l_told ["_law_page", "_law_deed"] (defScope s_l_told) := ⟨rfl, rfl, rfl, by decide +kernel, rfl, by decide +kernel, by decide +kernel⟩
abbrev s_l_due : Stmt := topS 49
abbrev N_l_due : List Str := ["_law_row", "_law_width", "_law_past", "_law_deed"]
theorem sc_l_due : FnScope N_l_due ["_law_row", "_law_width", "_law_past", "_law_deed"] (defScope s_l_due) := ⟨rfl, rfl, rfl, by decide +kernel, rfl, by decide +kernel, by decide +kernel⟩
abbrev s_l_alike_by : Stmt := topS 50
abbrev N_l_alike_by : List Str := ["_law_cell", "_law_size", "_law_at"]
theorem sc_l_alike_by : FnScope N_l_alike_by ["_law_cell", "_law_size"] (defScope s_l_alike_by) := ⟨rfl, rfl, rfl, by decide +kernel, rfl, by decide +kernel, by decide +kernel⟩
abbrev s_l_place_by : Stmt := topS 51
abbrev N_l_place_by : List Str := ["_law_more", "_law_count"]
theorem sc_l_place_by : FnScope N_l_place_by ["_law_more", "_law_count"] (defScope s_l_place_by) := ⟨rfl, rfl, rfl, by decide +kernel, rfl, by decide +kernel, by decide +kernel⟩
abbrev s_l_deed_by : Stmt := topS 52
abbrev N_l_deed_by : List Str := ["_law_cell", "_law_count", "_law_kind_here", "_law_more", "_law_word", "_law_at", "_law_great"]
theorem sc_l_deed_by : FnScope N_l_deed_by ["_law_cell", "_law_count"] (defScope s_l_deed_by) := ⟨rfl, rfl, rfl, by decide +kernel, rfl, by decide +kernel, by decide +kernel⟩
abbrev s_l_one_told : Stmt := topS 53
abbrev N_l_one_told : List Str := ["_law_page", "_law_place"]
theorem sc_l_one_told : FnScope N_l_one_told ["_law_page", "_law_place"] (defScope s_l_one_told) := ⟨rfl, rfl, rfl, by decide +kernel, rfl, by decide +kernel, by decide +kernel⟩
abbrev s_l_all_told : Stmt := topS 54
abbrev N_l_all_told : List Str := ["_law_page", "_law_way", "_law_told_here", "_law_orders", "_law_place"]
theorem sc_l_all_told : FnScope N_l_all_told ["_law_page", "_law_way"] (defScope s_l_all_told) := ⟨rfl, rfl, rfl, by decide +kernel, rfl, by decide +kernel, by decide +kernel⟩
abbrev s_l_shows : Stmt := topS 55
abbrev N_l_shows : List Str := ["_law_row", "_law_width", "_law_told_here", "_law_held", "_law_starts", "_law_ends", "_law_k"]
theorem sc_l_shows : FnScope N_l_shows ["_law_row", "_law_width", "_law_told_here", "_law_held"] (defScope s_l_shows) := ⟨rfl, rfl, rfl, by decide +kernel, rfl, by decide +kernel, by decide +kernel⟩
abbrev s_l_stands : Stmt := topS 56
abbrev N_l_stands : List Str := ["_law_page", "_law_row", "_law_width", "_law_fully", "_law_held", "_law_way", "_law_told_here"]
theorem sc_l_stands : FnScope N_l_stands ["_law_page", "_law_row", "_law_width", "_law_fully", "_law_held", "_law_way"] (defScope s_l_stands) := ⟨rfl, rfl, rfl, by decide +kernel, rfl, by decide +kernel, by decide +kernel⟩
abbrev s_l_deeds_by : Stmt := topS 57
abbrev N_l_deeds_by : List Str := ["_law_cell", "_law_count", "_law_width", "_law_filled", "_law_deed", "_law_k"]
theorem sc_l_deeds_by : FnScope N_l_deeds_by ["_law_cell", "_law_count", "_law_width", "_law_filled"] (defScope s_l_deeds_by) := ⟨rfl, rfl, rfl, by decide +kernel, rfl, by decide +kernel, by decide +kernel⟩
abbrev s_l_answered : Stmt := topS 58
abbrev N_l_answered : List Str := ["_law_found", "_law_row", "_law_deed", "_law_due_here"]
theorem sc_l_answered : FnScope N_l_answered ["_law_found", "_law_row", "_law_deed", "_law_due_here"] (defScope s_l_answered) := ⟨rfl, rfl, rfl, by decide +kernel, rfl, by decide +kernel, by decide +kernel⟩
abbrev s_l_after : Stmt := topS 59
abbrev N_l_after : List Str := ["_law_row", "_law_width", "_law_past", "_law_deed"]
theorem sc_l_after : FnScope N_l_after ["_law_row", "_law_width", "_law_past", "_law_deed"] (defScope s_l_after) := ⟨rfl, rfl, rfl, by decide +kernel, rfl, by decide +kernel, by decide +kernel⟩
abbrev s_l_step : Stmt := topS 60
abbrev N_l_step : List Str := ["_law_page", "_law_now", "_law_deed", "_law_due_here"]
theorem sc_l_step : FnScope N_l_step ["_law_page", "_law_now", "_law_deed"] (defScope s_l_step) := ⟨rfl, rfl, rfl, by decide +kernel, rfl, by decide +kernel, by decide +kernel⟩
abbrev s_l_made_good : Stmt := topS 61
abbrev N_l_made_good : List Str := ["_law_due_here", "_law_deed"]
theorem sc_l_made_good : FnScope N_l_made_good ["_law_due_here", "_law_deed"] (defScope s_l_made_good) := ⟨rfl, rfl, rfl, by decide +kernel, rfl, by decide +kernel, by decide +kernel⟩
abbrev s_law : Stmt := topS 62
abbrev N_law : List Str := ["_law_script", "_law_width", "_law_page", "_law_low", "_law_now", "_law_filled", "_law_held", "_law_cell", "_law_deeds", "_law_deed", "_law_one", "_law_found", "_law_other", "_law_pair"]
theorem sc_law : FnScope N_law ["_law_script"] (defScope s_law) := ⟨rfl, rfl, rfl, by decide +kernel, rfl, by decide +kernel, by decide +kernel⟩
abbrev s_p_init : Stmt := inClass (topS 34) 0
abbrev N_p_init : List Str := ["self", "width"]
theorem sc_p_init : FnScope N_p_init ["self", "width"] (defScope s_p_init) := ⟨rfl, rfl, rfl, by decide +kernel, rfl, by decide +kernel, by decide +kernel⟩
abbrev s_p_put : Stmt := inClass (topS 34) 1
abbrev N_p_put : List Str := ["self", "at", "word"]
theorem sc_p_put : FnScope N_p_put ["self", "at", "word"] (defScope s_p_put) := ⟨rfl, rfl, rfl, by decide +kernel, rfl, by decide +kernel, by decide +kernel⟩
abbrev s_p_drop : Stmt := inClass (topS 34) 2
abbrev N_p_drop : List Str := ["self", "at", "word"]
theorem sc_p_drop : FnScope N_p_drop ["self", "at"] (defScope s_p_drop) := ⟨rfl, rfl, rfl, by decide +kernel, rfl, by decide +kernel, by decide +kernel⟩
abbrev s_p_widen : Stmt := inClass (topS 34) 3
abbrev N_p_widen : List Str := ["self", "width"]
theorem sc_p_widen : FnScope N_p_widen ["self", "width"] (defScope s_p_widen) := ⟨rfl, rfl, rfl, by decide +kernel, rfl, by decide +kernel, by decide +kernel⟩
abbrev s_p_undo : Stmt := inClass (topS 34) 4
abbrev N_p_undo : List Str := ["self"]
theorem sc_p_undo : FnScope N_p_undo ["self"] (defScope s_p_undo) := ⟨rfl, rfl, rfl, by decide +kernel, rfl, by decide +kernel, by decide +kernel⟩
abbrev s_p_change : Stmt := inClass (topS 34) 5
abbrev N_p_change : List Str := ["self", "words", "width"]
theorem sc_p_change : FnScope N_p_change ["self", "words", "width"] (defScope s_p_change) := ⟨rfl, rfl, rfl, by decide +kernel, rfl, by decide +kernel, by decide +kernel⟩
abbrev s_p_words_now : Stmt := inClass (topS 34) 6
abbrev N_p_words_now : List Str := ["self"]
theorem sc_p_words_now : FnScope N_p_words_now ["self"] (defScope s_p_words_now) := ⟨rfl, rfl, rfl, by decide +kernel, rfl, by decide +kernel, by decide +kernel⟩
abbrev s_p_width_now : Stmt := inClass (topS 34) 7
abbrev N_p_width_now : List Str := ["self"]
theorem sc_p_width_now : FnScope N_p_width_now ["self"] (defScope s_p_width_now) := ⟨rfl, rfl, rfl, by decide +kernel, rfl, by decide +kernel, by decide +kernel⟩
abbrev s_p_table_now : Stmt := inClass (topS 34) 8
abbrev N_p_table_now : List Str := ["self"]
theorem sc_p_table_now : FnScope N_p_table_now ["self"] (defScope s_p_table_now) := ⟨rfl, rfl, rfl, by decide +kernel, rfl, by decide +kernel, by decide +kernel⟩
abbrev s_p_starts_now : Stmt := inClass (topS 34) 9
abbrev N_p_starts_now : List Str := ["self"]
theorem sc_p_starts_now : FnScope N_p_starts_now ["self"] (defScope s_p_starts_now) := ⟨rfl, rfl, rfl, by decide +kernel, rfl, by decide +kernel, by decide +kernel⟩
abbrev s_p_lines_now : Stmt := inClass (topS 34) 10
abbrev N_p_lines_now : List Str := ["self"]
theorem sc_p_lines_now : FnScope N_p_lines_now ["self"] (defScope s_p_lines_now) := ⟨rfl, rfl, rfl, by decide +kernel, rfl, by decide +kernel, by decide +kernel⟩
/-- where the defs and classes stand -/
structure Ad where
  f_line_of : Addr
  d_line_of : FuncData
  f_sizes_from : Addr
  d_sizes_from : FuncData
  f_long_word : Addr
  d_long_word : FuncData
  f_check_width : Addr
  d_check_width : FuncData
  f_check_words : Addr
  d_check_words : FuncData
  f_lines_of : Addr
  d_lines_of : FuncData
  f_bounds_of : Addr
  d_bounds_of : FuncData
  f_check_starts : Addr
  d_check_starts : FuncData
  f_are_starts : Addr
  d_are_starts : FuncData
  f_table_of : Addr
  d_table_of : FuncData
  f_best_starts : Addr
  d_best_starts : FuncData
  f_first_line : Addr
  d_first_line : FuncData
  f_best_line : Addr
  d_best_line : FuncData
  f_squares_of : Addr
  d_squares_of : FuncData
  f_words_of : Addr
  d_words_of : FuncData
  f_is_word : Addr
  d_is_word : FuncData
  f_l_cell_at : Addr
  d_l_cell_at : FuncData
  f_l_sign_by : Addr
  d_l_sign_by : FuncData
  f_l_word_by : Addr
  d_l_word_by : FuncData
  f_l_whole : Addr
  d_l_whole : FuncData
  f_l_wholes : Addr
  d_l_wholes : FuncData
  f_l_texts : Addr
  d_l_texts : FuncData
  f_l_longest : Addr
  d_l_longest : FuncData
  f_l_table_right : Addr
  d_l_table_right : FuncData
  f_l_starts_by_table : Addr
  d_l_starts_by_table : FuncData
  f_l_page_width : Addr
  d_l_page_width : FuncData
  f_l_page_by : Addr
  d_l_page_by : FuncData
  f_l_kind : Addr
  d_l_kind : FuncData
  f_l_told : Addr
  d_l_told : FuncData
  f_l_due : Addr
  d_l_due : FuncData
  f_l_alike_by : Addr
  d_l_alike_by : FuncData
  f_l_place_by : Addr
  d_l_place_by : FuncData
  f_l_deed_by : Addr
  d_l_deed_by : FuncData
  f_l_one_told : Addr
  d_l_one_told : FuncData
  f_l_all_told : Addr
  d_l_all_told : FuncData
  f_l_shows : Addr
  d_l_shows : FuncData
  f_l_stands : Addr
  d_l_stands : FuncData
  f_l_deeds_by : Addr
  d_l_deeds_by : FuncData
  f_l_answered : Addr
  d_l_answered : FuncData
  f_l_after : Addr
  d_l_after : FuncData
  f_l_step : Addr
  d_l_step : FuncData
  f_l_made_good : Addr
  d_l_made_good : FuncData
  f_law : Addr
  d_law : FuncData
  f_p_init : Addr
  d_p_init : FuncData
  f_p_put : Addr
  d_p_put : FuncData
  f_p_drop : Addr
  d_p_drop : FuncData
  f_p_widen : Addr
  d_p_widen : FuncData
  f_p_undo : Addr
  d_p_undo : FuncData
  f_p_change : Addr
  d_p_change : FuncData
  f_p_words_now : Addr
  d_p_words_now : FuncData
  f_p_width_now : Addr
  d_p_width_now : FuncData
  f_p_table_now : Addr
  d_p_table_now : FuncData
  f_p_starts_now : Addr
  d_p_starts_now : FuncData
  f_p_lines_now : Addr
  d_p_lines_now : FuncData
  k_are_starts : Addr
  p_are_starts : Addr
  c_WrapError : Addr
  c_NoWidth : Addr
  c_LongWord : Addr
  c_NoStarts : Addr
  c_TooWide : Addr
  c_TooFew : Addr
  c_TooMany : Addr
  c_NoPlace : Addr
  c_NoWord : Addr
  c_Full : Addr
  c_NoWayBack : Addr
  c_Page : Addr
/-- what the top has left -/
structure Txt (K : PySem.W.Frag) (mg : Str → Option Value) (A : Ad) : Prop where
  F_line_of : Fun K "line_of" "line_of" s_line_of A.f_line_of A.d_line_of
  g_line_of : mg "line_of" = some (.ref A.f_line_of)
  b_line_of : Binds K A.d_line_of ["words", "begin", "end"] []
  F_sizes_from : Fun K "sizes_from" "sizes_from" s_sizes_from A.f_sizes_from A.d_sizes_from
  g_sizes_from : mg "sizes_from" = some (.ref A.f_sizes_from)
  b_sizes_from : Binds K A.d_sizes_from ["words", "width", "begin"] []
  F_long_word : Fun K "long_word" "long_word" s_long_word A.f_long_word A.d_long_word
  g_long_word : mg "long_word" = some (.ref A.f_long_word)
  b_long_word : Binds K A.d_long_word ["words", "width"] []
  F_check_width : Fun K "check_width" "check_width" s_check_width A.f_check_width A.d_check_width
  g_check_width : mg "check_width" = some (.ref A.f_check_width)
  b_check_width : Binds K A.d_check_width ["width"] []
  F_check_words : Fun K "check_words" "check_words" s_check_words A.f_check_words A.d_check_words
  g_check_words : mg "check_words" = some (.ref A.f_check_words)
  b_check_words : Binds K A.d_check_words ["words", "width"] []
  F_lines_of : Fun K "lines_of" "lines_of" s_lines_of A.f_lines_of A.d_lines_of
  g_lines_of : mg "lines_of" = some (.ref A.f_lines_of)
  b_lines_of : Binds K A.d_lines_of ["words", "starts"] []
  F_bounds_of : Fun K "bounds_of" "bounds_of" s_bounds_of A.f_bounds_of A.d_bounds_of
  g_bounds_of : mg "bounds_of" = some (.ref A.f_bounds_of)
  b_bounds_of : Binds K A.d_bounds_of ["words", "starts"] []
  F_check_starts : Fun K "check_starts" "check_starts" s_check_starts A.f_check_starts A.d_check_starts
  g_check_starts : mg "check_starts" = some (.ref A.f_check_starts)
  b_check_starts : Binds K A.d_check_starts ["words", "starts"] []
  F_are_starts : Fun K "are_starts" "are_starts" s_are_starts A.f_are_starts A.d_are_starts
  g_are_starts : mg "are_starts" = some (.ref A.f_are_starts)
  b_are_starts : Binds K A.d_are_starts ["words", "starts"] []
  F_table_of : Fun K "table_of" "table_of" s_table_of A.f_table_of A.d_table_of
  g_table_of : mg "table_of" = some (.ref A.f_table_of)
  b_table_of : Binds K A.d_table_of ["words", "width"] []
  F_best_starts : Fun K "best_starts" "best_starts" s_best_starts A.f_best_starts A.d_best_starts
  g_best_starts : mg "best_starts" = some (.ref A.f_best_starts)
  b_best_starts : Binds K A.d_best_starts ["words", "width"] []
  F_first_line : Fun K "first_line" "first_line" s_first_line A.f_first_line A.d_first_line
  g_first_line : mg "first_line" = some (.ref A.f_first_line)
  b_first_line : Binds K A.d_first_line ["words", "width", "begin", "table"] []
  F_best_line : Fun K "best_line" "best_line" s_best_line A.f_best_line A.d_best_line
  g_best_line : mg "best_line" = some (.ref A.f_best_line)
  b_best_line : Binds K A.d_best_line ["counts", "begin", "rest"] []
  F_squares_of : Fun K "squares_of" "squares_of" s_squares_of A.f_squares_of A.d_squares_of
  g_squares_of : mg "squares_of" = some (.ref A.f_squares_of)
  b_squares_of : Binds K A.d_squares_of ["width", "sizes"] []
  F_words_of : Fun K "words_of" "words_of" s_words_of A.f_words_of A.d_words_of
  g_words_of : mg "words_of" = some (.ref A.f_words_of)
  b_words_of : Binds K A.d_words_of ["text"] []
  F_is_word : Fun K "is_word" "is_word" s_is_word A.f_is_word A.d_is_word
  g_is_word : mg "is_word" = some (.ref A.f_is_word)
  b_is_word : Binds K A.d_is_word ["text"] []
  F_l_cell_at : Fun K "_law_cell_at" "_law_cell_at" s_l_cell_at A.f_l_cell_at A.d_l_cell_at
  g_l_cell_at : mg "_law_cell_at" = some (.ref A.f_l_cell_at)
  b_l_cell_at : Binds K A.d_l_cell_at ["_law_script", "_law_k"] []
  F_l_sign_by : Fun K "_law_sign_by" "_law_sign_by" s_l_sign_by A.f_l_sign_by A.d_l_sign_by
  g_l_sign_by : mg "_law_sign_by" = some (.ref A.f_l_sign_by)
  b_l_sign_by : Binds K A.d_l_sign_by ["_law_cell"] []
  F_l_word_by : Fun K "_law_word_by" "_law_word_by" s_l_word_by A.f_l_word_by A.d_l_word_by
  g_l_word_by : mg "_law_word_by" = some (.ref A.f_l_word_by)
  b_l_word_by : Binds K A.d_l_word_by ["_law_cell"] []
  F_l_whole : Fun K "_law_whole" "_law_whole" s_l_whole A.f_l_whole A.d_l_whole
  g_l_whole : mg "_law_whole" = some (.ref A.f_l_whole)
  b_l_whole : Binds K A.d_l_whole ["_law_found"] []
  F_l_wholes : Fun K "_law_wholes" "_law_wholes" s_l_wholes A.f_l_wholes A.d_l_wholes
  g_l_wholes : mg "_law_wholes" = some (.ref A.f_l_wholes)
  b_l_wholes : Binds K A.d_l_wholes ["_law_found"] []
  F_l_texts : Fun K "_law_texts" "_law_texts" s_l_texts A.f_l_texts A.d_l_texts
  g_l_texts : mg "_law_texts" = some (.ref A.f_l_texts)
  b_l_texts : Binds K A.d_l_texts ["_law_found", "_law_due_here"] []
  F_l_longest : Fun K "_law_longest" "_law_longest" s_l_longest A.f_l_longest A.d_l_longest
  g_l_longest : mg "_law_longest" = some (.ref A.f_l_longest)
  b_l_longest : Binds K A.d_l_longest ["_law_row"] []
  F_l_table_right : Fun K "_law_table_right" "_law_table_right" s_l_table_right A.f_l_table_right A.d_l_table_right
  g_l_table_right : mg "_law_table_right" = some (.ref A.f_l_table_right)
  b_l_table_right : Binds K A.d_l_table_right ["_law_row", "_law_width", "_law_found"] []
  F_l_starts_by_table : Fun K "_law_starts_by_table" "_law_starts_by_table" s_l_starts_by_table A.f_l_starts_by_table A.d_l_starts_by_table
  g_l_starts_by_table : mg "_law_starts_by_table" = some (.ref A.f_l_starts_by_table)
  b_l_starts_by_table : Binds K A.d_l_starts_by_table ["_law_row", "_law_width", "_law_told_here"] []
  F_l_page_width : Fun K "_law_page_width" "_law_page_width" s_l_page_width A.f_l_page_width A.d_l_page_width
  g_l_page_width : mg "_law_page_width" = some (.ref A.f_l_page_width)
  b_l_page_width : Binds K A.d_l_page_width ["_law_cell"] []
  F_l_page_by : Fun K "_law_page_by" "_law_page_by" s_l_page_by A.f_l_page_by A.d_l_page_by
  g_l_page_by : mg "_law_page_by" = some (.ref A.f_l_page_by)
  b_l_page_by : Binds K A.d_l_page_by ["_law_width"] []
  F_l_kind : Fun K "_law_kind" "_law_kind" s_l_kind A.f_l_kind A.d_l_kind
  g_l_kind : mg "_law_kind" = some (.ref A.f_l_kind)
  b_l_kind : Binds K A.d_l_kind ["_law_e"] []
  F_l_told : Fun K "_law_told" "_law_told" s_l_told A.f_l_told A.d_l_told
  g_l_told : mg "_law_told" = some (.ref A.f_l_told)
  b_l_told : Binds K A.d_l_told ["_law_page", "_law_deed"] []
  F_l_due : Fun K "_law_due" "_law_due" s_l_due A.f_l_due A.d_l_due
  g_l_due : mg "_law_due" = some (.ref A.f_l_due)
  b_l_due : Binds K A.d_l_due ["_law_row", "_law_width", "_law_past", "_law_deed"] []
  F_l_alike_by : Fun K "_law_alike_by" "_law_alike_by" s_l_alike_by A.f_l_alike_by A.d_l_alike_by
  g_l_alike_by : mg "_law_alike_by" = some (.ref A.f_l_alike_by)
  b_l_alike_by : Binds K A.d_l_alike_by ["_law_cell", "_law_size"] []
  F_l_place_by : Fun K "_law_place_by" "_law_place_by" s_l_place_by A.f_l_place_by A.d_l_place_by
  g_l_place_by : mg "_law_place_by" = some (.ref A.f_l_place_by)
  b_l_place_by : Binds K A.d_l_place_by ["_law_more", "_law_count"] []
  F_l_deed_by : Fun K "_law_deed_by" "_law_deed_by" s_l_deed_by A.f_l_deed_by A.d_l_deed_by
  g_l_deed_by : mg "_law_deed_by" = some (.ref A.f_l_deed_by)
  b_l_deed_by : Binds K A.d_l_deed_by ["_law_cell", "_law_count"] []
  F_l_one_told : Fun K "_law_one_told" "_law_one_told" s_l_one_told A.f_l_one_told A.d_l_one_told
  g_l_one_told : mg "_law_one_told" = some (.ref A.f_l_one_told)
  b_l_one_told : Binds K A.d_l_one_told ["_law_page", "_law_place"] []
  F_l_all_told : Fun K "_law_all_told" "_law_all_told" s_l_all_told A.f_l_all_told A.d_l_all_told
  g_l_all_told : mg "_law_all_told" = some (.ref A.f_l_all_told)
  b_l_all_told : Binds K A.d_l_all_told ["_law_page", "_law_way"] []
  F_l_shows : Fun K "_law_shows" "_law_shows" s_l_shows A.f_l_shows A.d_l_shows
  g_l_shows : mg "_law_shows" = some (.ref A.f_l_shows)
  b_l_shows : Binds K A.d_l_shows ["_law_row", "_law_width", "_law_told_here", "_law_held"] []
  F_l_stands : Fun K "_law_stands" "_law_stands" s_l_stands A.f_l_stands A.d_l_stands
  g_l_stands : mg "_law_stands" = some (.ref A.f_l_stands)
  b_l_stands : Binds K A.d_l_stands ["_law_page", "_law_row", "_law_width", "_law_fully", "_law_held", "_law_way"] []
  F_l_deeds_by : Fun K "_law_deeds_by" "_law_deeds_by" s_l_deeds_by A.f_l_deeds_by A.d_l_deeds_by
  g_l_deeds_by : mg "_law_deeds_by" = some (.ref A.f_l_deeds_by)
  b_l_deeds_by : Binds K A.d_l_deeds_by ["_law_cell", "_law_count", "_law_width", "_law_filled"] []
  F_l_answered : Fun K "_law_answered" "_law_answered" s_l_answered A.f_l_answered A.d_l_answered
  g_l_answered : mg "_law_answered" = some (.ref A.f_l_answered)
  b_l_answered : Binds K A.d_l_answered ["_law_found", "_law_row", "_law_deed", "_law_due_here"] []
  F_l_after : Fun K "_law_after" "_law_after" s_l_after A.f_l_after A.d_l_after
  g_l_after : mg "_law_after" = some (.ref A.f_l_after)
  b_l_after : Binds K A.d_l_after ["_law_row", "_law_width", "_law_past", "_law_deed"] []
  F_l_step : Fun K "_law_step" "_law_step" s_l_step A.f_l_step A.d_l_step
  g_l_step : mg "_law_step" = some (.ref A.f_l_step)
  b_l_step : Binds K A.d_l_step ["_law_page", "_law_now", "_law_deed"] []
  F_l_made_good : Fun K "_law_made_good" "_law_made_good" s_l_made_good A.f_l_made_good A.d_l_made_good
  g_l_made_good : mg "_law_made_good" = some (.ref A.f_l_made_good)
  b_l_made_good : Binds K A.d_l_made_good ["_law_due_here", "_law_deed"] []
  F_law : Fun K "law" "law" s_law A.f_law A.d_law
  g_law : mg "law" = some (.ref A.f_law)
  b_law : Binds K A.d_law ["_law_script"] []
  F_p_init : Fun K "__init__" "Page.__init__" s_p_init A.f_p_init A.d_p_init
  mk_Page : Mk K A.c_Page A.f_p_init
  b_p_init : Binds K A.d_p_init ["self", "width"] []
  F_p_put : Fun K "put" "Page.put" s_p_put A.f_p_put A.d_p_put
  me_p_put : Meth K A.c_Page "put" A.f_p_put
  b_p_put : Binds K A.d_p_put ["self", "at", "word"] []
  F_p_drop : Fun K "drop" "Page.drop" s_p_drop A.f_p_drop A.d_p_drop
  me_p_drop : Meth K A.c_Page "drop" A.f_p_drop
  b_p_drop : Binds K A.d_p_drop ["self", "at"] []
  F_p_widen : Fun K "widen" "Page.widen" s_p_widen A.f_p_widen A.d_p_widen
  me_p_widen : Meth K A.c_Page "widen" A.f_p_widen
  b_p_widen : Binds K A.d_p_widen ["self", "width"] []
  F_p_undo : Fun K "undo" "Page.undo" s_p_undo A.f_p_undo A.d_p_undo
  me_p_undo : Meth K A.c_Page "undo" A.f_p_undo
  b_p_undo : Binds K A.d_p_undo ["self"] []
  F_p_change : Fun K "change" "Page.change" s_p_change A.f_p_change A.d_p_change
  me_p_change : Meth K A.c_Page "change" A.f_p_change
  b_p_change : Binds K A.d_p_change ["self", "words", "width"] []
  F_p_words_now : Fun K "words_now" "Page.words_now" s_p_words_now A.f_p_words_now A.d_p_words_now
  me_p_words_now : Meth K A.c_Page "words_now" A.f_p_words_now
  b_p_words_now : Binds K A.d_p_words_now ["self"] []
  F_p_width_now : Fun K "width_now" "Page.width_now" s_p_width_now A.f_p_width_now A.d_p_width_now
  me_p_width_now : Meth K A.c_Page "width_now" A.f_p_width_now
  b_p_width_now : Binds K A.d_p_width_now ["self"] []
  F_p_table_now : Fun K "table_now" "Page.table_now" s_p_table_now A.f_p_table_now A.d_p_table_now
  me_p_table_now : Meth K A.c_Page "table_now" A.f_p_table_now
  b_p_table_now : Binds K A.d_p_table_now ["self"] []
  F_p_starts_now : Fun K "starts_now" "Page.starts_now" s_p_starts_now A.f_p_starts_now A.d_p_starts_now
  me_p_starts_now : Meth K A.c_Page "starts_now" A.f_p_starts_now
  b_p_starts_now : Binds K A.d_p_starts_now ["self"] []
  F_p_lines_now : Fun K "lines_now" "Page.lines_now" s_p_lines_now A.f_p_lines_now A.d_p_lines_now
  me_p_lines_now : Meth K A.c_Page "lines_now" A.f_p_lines_now
  b_p_lines_now : Binds K A.d_p_lines_now ["self"] []
  g_MOST_WORDS : ∃ t, mg "MOST_WORDS" = some (.int 120 t)
  hc_are_starts : A.d_are_starts.code = .ref A.k_are_starts
  m_ValueError : mg "ValueError" = none
  m_all : mg "all" = none
  m_bool : mg "bool" = none
  m_enumerate : mg "enumerate" = none
  m_int : mg "int" = none
  m_isinstance : mg "isinstance" = none
  m_len : mg "len" = none
  m_list : mg "list" = none
  m_max : mg "max" = none
  m_range : mg "range" = none
  m_reversed : mg "reversed" = none
  m_str : mg "str" = none
  m_sum : mg "sum" = none
  m_zip : mg "zip" = none
  gc_WrapError : mg "WrapError" = some (.ref A.c_WrapError)
  gc_NoWidth : mg "NoWidth" = some (.ref A.c_NoWidth)
  gc_LongWord : mg "LongWord" = some (.ref A.c_LongWord)
  gc_NoStarts : mg "NoStarts" = some (.ref A.c_NoStarts)
  gc_TooWide : mg "TooWide" = some (.ref A.c_TooWide)
  gc_TooFew : mg "TooFew" = some (.ref A.c_TooFew)
  gc_TooMany : mg "TooMany" = some (.ref A.c_TooMany)
  gc_NoPlace : mg "NoPlace" = some (.ref A.c_NoPlace)
  gc_NoWord : mg "NoWord" = some (.ref A.c_NoWord)
  gc_Full : mg "Full" = some (.ref A.c_Full)
  gc_NoWayBack : mg "NoWayBack" = some (.ref A.c_NoWayBack)
  gc_Page : mg "Page" = some (.ref A.c_Page)
  cl_Page : Cls K A.c_Page
  tyO_Page : PySem.W.typeIn K (.ref A.c_Page) = some (.type "type")
  sbO_Page : PySem.W.subIn K (.ref A.c_Page) (.ref A.c_Page) = some true
  i6O_Page : PySem.W.findIn K (.ref A.c_Page) "__class__" = some (some (.builtin "object.__class__"))
  i7O_Page : PySem.W.specialIn K (.builtin "object.__class__") "__get__" = some (some (.builtin "getset_descriptor.__get__"))
  i8O_Page : PySem.W.takesIn K (.builtin "object.__class__") = some true
  i9O_Page : PySem.W.mroIn K A.c_Page (.type "object") = some true
  na_Page_past : NoAttr K A.c_Page "past"
  na_Page_width : NoAttr K A.c_Page "width"
  na_Page_words : NoAttr K A.c_Page "words"
  hd_WrapError : PySem.W.hasDictIn K A.c_WrapError = true
  ty_WrapError : PySem.W.typeIn K (.ref A.c_WrapError) = some (.type "type")
  hd_NoWidth : PySem.W.hasDictIn K A.c_NoWidth = true
  ty_NoWidth : PySem.W.typeIn K (.ref A.c_NoWidth) = some (.type "type")
  hd_LongWord : PySem.W.hasDictIn K A.c_LongWord = true
  ty_LongWord : PySem.W.typeIn K (.ref A.c_LongWord) = some (.type "type")
  hd_NoStarts : PySem.W.hasDictIn K A.c_NoStarts = true
  ty_NoStarts : PySem.W.typeIn K (.ref A.c_NoStarts) = some (.type "type")
  hd_TooWide : PySem.W.hasDictIn K A.c_TooWide = true
  ty_TooWide : PySem.W.typeIn K (.ref A.c_TooWide) = some (.type "type")
  hd_TooFew : PySem.W.hasDictIn K A.c_TooFew = true
  ty_TooFew : PySem.W.typeIn K (.ref A.c_TooFew) = some (.type "type")
  hd_TooMany : PySem.W.hasDictIn K A.c_TooMany = true
  ty_TooMany : PySem.W.typeIn K (.ref A.c_TooMany) = some (.type "type")
  hd_NoPlace : PySem.W.hasDictIn K A.c_NoPlace = true
  ty_NoPlace : PySem.W.typeIn K (.ref A.c_NoPlace) = some (.type "type")
  hd_NoWord : PySem.W.hasDictIn K A.c_NoWord = true
  ty_NoWord : PySem.W.typeIn K (.ref A.c_NoWord) = some (.type "type")
  hd_Full : PySem.W.hasDictIn K A.c_Full = true
  ty_Full : PySem.W.typeIn K (.ref A.c_Full) = some (.type "type")
  hd_NoWayBack : PySem.W.hasDictIn K A.c_NoWayBack = true
  ty_NoWayBack : PySem.W.typeIn K (.ref A.c_NoWayBack) = some (.type "type")
  bw : PySem.W.subIn K (.ref A.c_WrapError) (.type "BaseException") = some true
  ex_NoWidth : ExF K A.c_NoWidth
  sv_NoWidth : PySem.W.subIn K (.ref A.c_NoWidth) (.type "ValueError") = some true
  sb_NoWidth_WrapError : PySem.W.subIn K (.ref A.c_NoWidth) (.ref A.c_WrapError) = some true
  sb_NoWidth_NoWidth : PySem.W.subIn K (.ref A.c_NoWidth) (.ref A.c_NoWidth) = some true
  sb_NoWidth_LongWord : PySem.W.subIn K (.ref A.c_NoWidth) (.ref A.c_LongWord) = some false
  ne_NoWidth_LongWord : A.c_NoWidth ≠ A.c_LongWord
  sb_NoWidth_NoStarts : PySem.W.subIn K (.ref A.c_NoWidth) (.ref A.c_NoStarts) = some false
  ne_NoWidth_NoStarts : A.c_NoWidth ≠ A.c_NoStarts
  sb_NoWidth_TooWide : PySem.W.subIn K (.ref A.c_NoWidth) (.ref A.c_TooWide) = some false
  ne_NoWidth_TooWide : A.c_NoWidth ≠ A.c_TooWide
  sb_NoWidth_TooFew : PySem.W.subIn K (.ref A.c_NoWidth) (.ref A.c_TooFew) = some false
  ne_NoWidth_TooFew : A.c_NoWidth ≠ A.c_TooFew
  sb_NoWidth_TooMany : PySem.W.subIn K (.ref A.c_NoWidth) (.ref A.c_TooMany) = some false
  ne_NoWidth_TooMany : A.c_NoWidth ≠ A.c_TooMany
  sb_NoWidth_NoPlace : PySem.W.subIn K (.ref A.c_NoWidth) (.ref A.c_NoPlace) = some false
  ne_NoWidth_NoPlace : A.c_NoWidth ≠ A.c_NoPlace
  sb_NoWidth_NoWord : PySem.W.subIn K (.ref A.c_NoWidth) (.ref A.c_NoWord) = some false
  ne_NoWidth_NoWord : A.c_NoWidth ≠ A.c_NoWord
  sb_NoWidth_Full : PySem.W.subIn K (.ref A.c_NoWidth) (.ref A.c_Full) = some false
  ne_NoWidth_Full : A.c_NoWidth ≠ A.c_Full
  sb_NoWidth_NoWayBack : PySem.W.subIn K (.ref A.c_NoWidth) (.ref A.c_NoWayBack) = some false
  ne_NoWidth_NoWayBack : A.c_NoWidth ≠ A.c_NoWayBack
  ex_LongWord : ExF K A.c_LongWord
  sv_LongWord : PySem.W.subIn K (.ref A.c_LongWord) (.type "ValueError") = some true
  sb_LongWord_WrapError : PySem.W.subIn K (.ref A.c_LongWord) (.ref A.c_WrapError) = some true
  sb_LongWord_NoWidth : PySem.W.subIn K (.ref A.c_LongWord) (.ref A.c_NoWidth) = some false
  ne_LongWord_NoWidth : A.c_LongWord ≠ A.c_NoWidth
  sb_LongWord_LongWord : PySem.W.subIn K (.ref A.c_LongWord) (.ref A.c_LongWord) = some true
  sb_LongWord_NoStarts : PySem.W.subIn K (.ref A.c_LongWord) (.ref A.c_NoStarts) = some false
  ne_LongWord_NoStarts : A.c_LongWord ≠ A.c_NoStarts
  sb_LongWord_TooWide : PySem.W.subIn K (.ref A.c_LongWord) (.ref A.c_TooWide) = some false
  ne_LongWord_TooWide : A.c_LongWord ≠ A.c_TooWide
  sb_LongWord_TooFew : PySem.W.subIn K (.ref A.c_LongWord) (.ref A.c_TooFew) = some false
  ne_LongWord_TooFew : A.c_LongWord ≠ A.c_TooFew
  sb_LongWord_TooMany : PySem.W.subIn K (.ref A.c_LongWord) (.ref A.c_TooMany) = some false
  ne_LongWord_TooMany : A.c_LongWord ≠ A.c_TooMany
  sb_LongWord_NoPlace : PySem.W.subIn K (.ref A.c_LongWord) (.ref A.c_NoPlace) = some false
  ne_LongWord_NoPlace : A.c_LongWord ≠ A.c_NoPlace
  sb_LongWord_NoWord : PySem.W.subIn K (.ref A.c_LongWord) (.ref A.c_NoWord) = some false
  ne_LongWord_NoWord : A.c_LongWord ≠ A.c_NoWord
  sb_LongWord_Full : PySem.W.subIn K (.ref A.c_LongWord) (.ref A.c_Full) = some false
  ne_LongWord_Full : A.c_LongWord ≠ A.c_Full
  sb_LongWord_NoWayBack : PySem.W.subIn K (.ref A.c_LongWord) (.ref A.c_NoWayBack) = some false
  ne_LongWord_NoWayBack : A.c_LongWord ≠ A.c_NoWayBack
  ex_NoStarts : ExF K A.c_NoStarts
  sv_NoStarts : PySem.W.subIn K (.ref A.c_NoStarts) (.type "ValueError") = some true
  sb_NoStarts_WrapError : PySem.W.subIn K (.ref A.c_NoStarts) (.ref A.c_WrapError) = some true
  sb_NoStarts_NoWidth : PySem.W.subIn K (.ref A.c_NoStarts) (.ref A.c_NoWidth) = some false
  ne_NoStarts_NoWidth : A.c_NoStarts ≠ A.c_NoWidth
  sb_NoStarts_LongWord : PySem.W.subIn K (.ref A.c_NoStarts) (.ref A.c_LongWord) = some false
  ne_NoStarts_LongWord : A.c_NoStarts ≠ A.c_LongWord
  sb_NoStarts_NoStarts : PySem.W.subIn K (.ref A.c_NoStarts) (.ref A.c_NoStarts) = some true
  sb_NoStarts_TooWide : PySem.W.subIn K (.ref A.c_NoStarts) (.ref A.c_TooWide) = some false
  ne_NoStarts_TooWide : A.c_NoStarts ≠ A.c_TooWide
  sb_NoStarts_TooFew : PySem.W.subIn K (.ref A.c_NoStarts) (.ref A.c_TooFew) = some false
  ne_NoStarts_TooFew : A.c_NoStarts ≠ A.c_TooFew
  sb_NoStarts_TooMany : PySem.W.subIn K (.ref A.c_NoStarts) (.ref A.c_TooMany) = some false
  ne_NoStarts_TooMany : A.c_NoStarts ≠ A.c_TooMany
  sb_NoStarts_NoPlace : PySem.W.subIn K (.ref A.c_NoStarts) (.ref A.c_NoPlace) = some false
  ne_NoStarts_NoPlace : A.c_NoStarts ≠ A.c_NoPlace
  sb_NoStarts_NoWord : PySem.W.subIn K (.ref A.c_NoStarts) (.ref A.c_NoWord) = some false
  ne_NoStarts_NoWord : A.c_NoStarts ≠ A.c_NoWord
  sb_NoStarts_Full : PySem.W.subIn K (.ref A.c_NoStarts) (.ref A.c_Full) = some false
  ne_NoStarts_Full : A.c_NoStarts ≠ A.c_Full
  sb_NoStarts_NoWayBack : PySem.W.subIn K (.ref A.c_NoStarts) (.ref A.c_NoWayBack) = some false
  ne_NoStarts_NoWayBack : A.c_NoStarts ≠ A.c_NoWayBack
  ex_NoPlace : ExF K A.c_NoPlace
  sv_NoPlace : PySem.W.subIn K (.ref A.c_NoPlace) (.type "ValueError") = some true
  sb_NoPlace_WrapError : PySem.W.subIn K (.ref A.c_NoPlace) (.ref A.c_WrapError) = some true
  sb_NoPlace_NoWidth : PySem.W.subIn K (.ref A.c_NoPlace) (.ref A.c_NoWidth) = some false
  ne_NoPlace_NoWidth : A.c_NoPlace ≠ A.c_NoWidth
  sb_NoPlace_LongWord : PySem.W.subIn K (.ref A.c_NoPlace) (.ref A.c_LongWord) = some false
  ne_NoPlace_LongWord : A.c_NoPlace ≠ A.c_LongWord
  sb_NoPlace_NoStarts : PySem.W.subIn K (.ref A.c_NoPlace) (.ref A.c_NoStarts) = some false
  ne_NoPlace_NoStarts : A.c_NoPlace ≠ A.c_NoStarts
  sb_NoPlace_TooWide : PySem.W.subIn K (.ref A.c_NoPlace) (.ref A.c_TooWide) = some false
  ne_NoPlace_TooWide : A.c_NoPlace ≠ A.c_TooWide
  sb_NoPlace_TooFew : PySem.W.subIn K (.ref A.c_NoPlace) (.ref A.c_TooFew) = some false
  ne_NoPlace_TooFew : A.c_NoPlace ≠ A.c_TooFew
  sb_NoPlace_TooMany : PySem.W.subIn K (.ref A.c_NoPlace) (.ref A.c_TooMany) = some false
  ne_NoPlace_TooMany : A.c_NoPlace ≠ A.c_TooMany
  sb_NoPlace_NoPlace : PySem.W.subIn K (.ref A.c_NoPlace) (.ref A.c_NoPlace) = some true
  sb_NoPlace_NoWord : PySem.W.subIn K (.ref A.c_NoPlace) (.ref A.c_NoWord) = some false
  ne_NoPlace_NoWord : A.c_NoPlace ≠ A.c_NoWord
  sb_NoPlace_Full : PySem.W.subIn K (.ref A.c_NoPlace) (.ref A.c_Full) = some false
  ne_NoPlace_Full : A.c_NoPlace ≠ A.c_Full
  sb_NoPlace_NoWayBack : PySem.W.subIn K (.ref A.c_NoPlace) (.ref A.c_NoWayBack) = some false
  ne_NoPlace_NoWayBack : A.c_NoPlace ≠ A.c_NoWayBack
  ex_NoWord : ExF K A.c_NoWord
  sv_NoWord : PySem.W.subIn K (.ref A.c_NoWord) (.type "ValueError") = some true
  sb_NoWord_WrapError : PySem.W.subIn K (.ref A.c_NoWord) (.ref A.c_WrapError) = some true
  sb_NoWord_NoWidth : PySem.W.subIn K (.ref A.c_NoWord) (.ref A.c_NoWidth) = some false
  ne_NoWord_NoWidth : A.c_NoWord ≠ A.c_NoWidth
  sb_NoWord_LongWord : PySem.W.subIn K (.ref A.c_NoWord) (.ref A.c_LongWord) = some false
  ne_NoWord_LongWord : A.c_NoWord ≠ A.c_LongWord
  sb_NoWord_NoStarts : PySem.W.subIn K (.ref A.c_NoWord) (.ref A.c_NoStarts) = some false
  ne_NoWord_NoStarts : A.c_NoWord ≠ A.c_NoStarts
  sb_NoWord_TooWide : PySem.W.subIn K (.ref A.c_NoWord) (.ref A.c_TooWide) = some false
  ne_NoWord_TooWide : A.c_NoWord ≠ A.c_TooWide
  sb_NoWord_TooFew : PySem.W.subIn K (.ref A.c_NoWord) (.ref A.c_TooFew) = some false
  ne_NoWord_TooFew : A.c_NoWord ≠ A.c_TooFew
  sb_NoWord_TooMany : PySem.W.subIn K (.ref A.c_NoWord) (.ref A.c_TooMany) = some false
  ne_NoWord_TooMany : A.c_NoWord ≠ A.c_TooMany
  sb_NoWord_NoPlace : PySem.W.subIn K (.ref A.c_NoWord) (.ref A.c_NoPlace) = some false
  ne_NoWord_NoPlace : A.c_NoWord ≠ A.c_NoPlace
  sb_NoWord_NoWord : PySem.W.subIn K (.ref A.c_NoWord) (.ref A.c_NoWord) = some true
  sb_NoWord_Full : PySem.W.subIn K (.ref A.c_NoWord) (.ref A.c_Full) = some false
  ne_NoWord_Full : A.c_NoWord ≠ A.c_Full
  sb_NoWord_NoWayBack : PySem.W.subIn K (.ref A.c_NoWord) (.ref A.c_NoWayBack) = some false
  ne_NoWord_NoWayBack : A.c_NoWord ≠ A.c_NoWayBack
  ex_Full : ExF K A.c_Full
  sv_Full : PySem.W.subIn K (.ref A.c_Full) (.type "ValueError") = some true
  sb_Full_WrapError : PySem.W.subIn K (.ref A.c_Full) (.ref A.c_WrapError) = some true
  sb_Full_NoWidth : PySem.W.subIn K (.ref A.c_Full) (.ref A.c_NoWidth) = some false
  ne_Full_NoWidth : A.c_Full ≠ A.c_NoWidth
  sb_Full_LongWord : PySem.W.subIn K (.ref A.c_Full) (.ref A.c_LongWord) = some false
  ne_Full_LongWord : A.c_Full ≠ A.c_LongWord
  sb_Full_NoStarts : PySem.W.subIn K (.ref A.c_Full) (.ref A.c_NoStarts) = some false
  ne_Full_NoStarts : A.c_Full ≠ A.c_NoStarts
  sb_Full_TooWide : PySem.W.subIn K (.ref A.c_Full) (.ref A.c_TooWide) = some false
  ne_Full_TooWide : A.c_Full ≠ A.c_TooWide
  sb_Full_TooFew : PySem.W.subIn K (.ref A.c_Full) (.ref A.c_TooFew) = some false
  ne_Full_TooFew : A.c_Full ≠ A.c_TooFew
  sb_Full_TooMany : PySem.W.subIn K (.ref A.c_Full) (.ref A.c_TooMany) = some false
  ne_Full_TooMany : A.c_Full ≠ A.c_TooMany
  sb_Full_NoPlace : PySem.W.subIn K (.ref A.c_Full) (.ref A.c_NoPlace) = some false
  ne_Full_NoPlace : A.c_Full ≠ A.c_NoPlace
  sb_Full_NoWord : PySem.W.subIn K (.ref A.c_Full) (.ref A.c_NoWord) = some false
  ne_Full_NoWord : A.c_Full ≠ A.c_NoWord
  sb_Full_Full : PySem.W.subIn K (.ref A.c_Full) (.ref A.c_Full) = some true
  sb_Full_NoWayBack : PySem.W.subIn K (.ref A.c_Full) (.ref A.c_NoWayBack) = some false
  ne_Full_NoWayBack : A.c_Full ≠ A.c_NoWayBack
  ex_NoWayBack : ExF K A.c_NoWayBack
  sv_NoWayBack : PySem.W.subIn K (.ref A.c_NoWayBack) (.type "ValueError") = some true
  sb_NoWayBack_WrapError : PySem.W.subIn K (.ref A.c_NoWayBack) (.ref A.c_WrapError) = some true
  sb_NoWayBack_NoWidth : PySem.W.subIn K (.ref A.c_NoWayBack) (.ref A.c_NoWidth) = some false
  ne_NoWayBack_NoWidth : A.c_NoWayBack ≠ A.c_NoWidth
  sb_NoWayBack_LongWord : PySem.W.subIn K (.ref A.c_NoWayBack) (.ref A.c_LongWord) = some false
  ne_NoWayBack_LongWord : A.c_NoWayBack ≠ A.c_LongWord
  sb_NoWayBack_NoStarts : PySem.W.subIn K (.ref A.c_NoWayBack) (.ref A.c_NoStarts) = some false
  ne_NoWayBack_NoStarts : A.c_NoWayBack ≠ A.c_NoStarts
  sb_NoWayBack_TooWide : PySem.W.subIn K (.ref A.c_NoWayBack) (.ref A.c_TooWide) = some false
  ne_NoWayBack_TooWide : A.c_NoWayBack ≠ A.c_TooWide
  sb_NoWayBack_TooFew : PySem.W.subIn K (.ref A.c_NoWayBack) (.ref A.c_TooFew) = some false
  ne_NoWayBack_TooFew : A.c_NoWayBack ≠ A.c_TooFew
  sb_NoWayBack_TooMany : PySem.W.subIn K (.ref A.c_NoWayBack) (.ref A.c_TooMany) = some false
  ne_NoWayBack_TooMany : A.c_NoWayBack ≠ A.c_TooMany
  sb_NoWayBack_NoPlace : PySem.W.subIn K (.ref A.c_NoWayBack) (.ref A.c_NoPlace) = some false
  ne_NoWayBack_NoPlace : A.c_NoWayBack ≠ A.c_NoPlace
  sb_NoWayBack_NoWord : PySem.W.subIn K (.ref A.c_NoWayBack) (.ref A.c_NoWord) = some false
  ne_NoWayBack_NoWord : A.c_NoWayBack ≠ A.c_NoWord
  sb_NoWayBack_Full : PySem.W.subIn K (.ref A.c_NoWayBack) (.ref A.c_Full) = some false
  ne_NoWayBack_Full : A.c_NoWayBack ≠ A.c_Full
  sb_NoWayBack_NoWayBack : PySem.W.subIn K (.ref A.c_NoWayBack) (.ref A.c_NoWayBack) = some true
/-- the tables of code objects -/
structure Tb (mg : Str → Option Value) (base : Heap) (A : Ad) : Prop where
  tb_are_starts : GxR.TabB base mg A.k_are_starts A.p_are_starts
/-! ### the words that a law makes of its cells -/
/-- a word of the law's: of signs of words, of one to 300 -/
def Wd (z : Str) : Prop := (∀ c ∈ TL.tl z, Ws c) ∧ 1 ≤ z.length ∧ z.length ≤ 300
theorem Wd.txs {z : Str} (h : Wd z) : Txs z := fun c hc => .inr (.inr (h.1 c hc))
theorem Wd.lt {z : Str} (h : Wd z) : ∀ c ∈ TL.tl z, c < 1114112 := h.txs.lt
def one (c : Nat) : Str := ⟨#[c]⟩
theorem one_len (c : Nat) : (one c).length = 1 := rfl
theorem sum_ones (n : Nat) (g : Nat → Nat) : (((List.range n).map fun i => one (g i)).map (·.length)).sum = n := by
  rw [List.map_map]
  induction n with
  | zero => rfl
  | succ m ih => rw [List.range_succ, List.map_append, List.sum_append, ih] <;> rfl
theorem ws_join {ps : List Str} (h : ∀ p ∈ ps, ∀ c ∈ TL.tl p, Ws c) : ∀ c ∈ TL.tl (Txt.join Str.empty ps), Ws c := fun c hc => by
  rw [TL.join_eq, TL.tl_join] at hc
  rcases joinL_mem _ _ c hc with q | ⟨p, q, q2⟩
  · simp [TL.tl, Str.empty] at q
  · obtain ⟨z, hz, rfl⟩ := List.mem_map.mp q
    exact h z hz c q2
theorem ws_mul {z : Str} (h : ∀ c ∈ TL.tl z, Ws c) (k : Int) : ∀ c ∈ TL.tl (Txt.mul z k), Ws c := fun c hc => by
  unfold Txt.mul at hc
  split at hc
  · simp [TL.tl, Str.empty] at hc
  · split at hc
    · exact h c hc
    · have go : ∀ (n : Nat) (acc : Array Nat), (∀ d ∈ acc.toList, Ws d) → ∀ d ∈ ((List.replicate n z.cps).foldl (· ++ ·) acc).toList, Ws d := by
        intro n
        induction n with
        | zero => exact fun acc ha => ha
        | succ n ih =>
          intro acc ha
          rw [List.replicate_succ, List.foldl_cons]
          refine ih _ fun d hd => ?_
          rw [Array.toList_append] at hd
          rcases List.mem_append.mp hd with hd | hd
          · exact ha d hd
          · exact h d hd
      exact go _ _ (fun d hd => by simp at hd) c hc
theorem ws_one (c : Int) : ∀ d ∈ TL.tl (one (sgn c)), Ws d := fun d hd => by
  rw [show TL.tl (one (sgn c)) = [sgn c] from rfl] at hd
  rw [List.mem_singleton.mp hd]
  exact sgn_ws c
theorem ws_app {x y : Str} (h : ∀ c ∈ TL.tl x, Ws c) (k : ∀ c ∈ TL.tl y, Ws c) : ∀ c ∈ TL.tl (x ++ y), Ws c := fun c hc => by
  rw [TL.tl_append] at hc
  rcases List.mem_append.mp hc with hc | hc
  · exact h c hc
  · exact k c hc
theorem len_mul1 {z : Str} (hz : z.length = 1) {k : Int} (hk : 0 ≤ k) : ((Txt.mul z k).length : Int) = k := by
  have e := len_mul z k
  rw [hz, if_neg (by simp; omega)] at e
  omega
def wsize (c : Int) : Int := if c / 7 % 81 = 2 then 1 + c / 567 % 300 else if c / 7 % 9 = 1 then 1 + c / 63 % 40 else 1 + c % 7
theorem wsize_in (c : Int) : 1 ≤ wsize c ∧ wsize c ≤ 300 := by
  unfold wsize
  split
  · omega
  · split <;> omega
def wordOf (c : Int) : Str := Txt.join Str.empty ((List.range (wsize c).toNat).map fun (i : Nat) => one (sgn (c / 3 + (i : Int) * (1 + c % 5))))
theorem wordOf_wd (c : Int) : Wd (wordOf c) := by
  have h := wsize_in c
  have e : (wordOf c).length = (wsize c).toNat := by
    unfold wordOf
    rw [len_join0, sum_ones (wsize c).toNat fun i => sgn (c / 3 + (i : Int) * (1 + c % 5))]
  refine ⟨ws_join fun p hp => ?_, by omega, by omega⟩
  obtain ⟨i, _, rfl⟩ := List.mem_map.mp hp
  exact ws_one _
def signA : Str := ⟨#[97]⟩
theorem signA_eq : Str.ofString "a" = signA := by decide +kernel
theorem ws_a : ∀ d ∈ TL.tl signA, Ws d := by
  intro d hd
  rw [show TL.tl signA = [97] from rfl] at hd
  rw [List.mem_singleton.mp hd]
  exact ⟨by decide, by decide⟩
def alikeOf (c s : Int) : Str := Txt.mul signA (c / 93 % s) ++ one (sgn c) ++ Txt.mul signA (s - 1 - c / 93 % s)
theorem alikeOf_wd (c : Int) {s : Int} (h1 : 1 ≤ s) (h2 : s ≤ 4) : Wd (alikeOf c s) := by
  have a0 : 0 ≤ c / 93 % s := Int.emod_nonneg _ (by omega)
  have a1 : c / 93 % s < s := Int.emod_lt_of_pos _ (by omega)
  have l1 := len_mul1 (z := signA) rfl a0
  have l2 := len_mul1 (z := signA) rfl (show 0 ≤ s - 1 - c / 93 % s by omega)
  refine ⟨ws_app (ws_app (ws_mul ws_a _) (ws_one c)) (ws_mul ws_a _), ?_, ?_⟩
  · unfold alikeOf
    rw [len_app, len_app, one_len]
    omega
  · unfold alikeOf
    rw [len_app, len_app, one_len]
    omega
def wideOf (m k : Int) : Int := 1 + (m + k * k) % 3 + 5 * (if k % 7 = m % 7 then 1 else 0)
theorem wideOf_in (m k : Int) : 1 ≤ wideOf m k ∧ wideOf m k ≤ 8 := by
  unfold wideOf
  split <;> omega
def manyOf (m : Int) : Int := m * 48271 % 9973 % (if m / 12 % 4 = 3 then 1600 else 450)
theorem manyOf_in (m : Int) : 0 ≤ manyOf m ∧ manyOf m < 1600 := by
  unfold manyOf
  split <;> omega
def row0 (cells : List Int) (m : Int) : List Str := if m % 4 = 1 then ((List.replicate 6 (cells.map wordOf)).flatten).take (m / 4 % 150).toNat else cells.map wordOf
def row1 (cells : List Int) (m : Int) : List Str := if m % 4 = 2 then cells.map fun c => alikeOf c (1 + m / 4 % 4) else row0 cells m
def wordsOf (cells : List Int) (m : Int) : List Str := if m % 12 = 3 then (List.range (manyOf m).toNat).map fun (k : Nat) => Txt.mul (one (sgn (m + (k : Int)))) (wideOf m (k : Int)) else row1 cells m
theorem words_wd (cells : List Int) (m : Int) : ∀ z ∈ wordsOf cells m, Wd z := by
  have h0 : ∀ z ∈ cells.map wordOf, Wd z := fun z hz => by
    obtain ⟨c, _, rfl⟩ := List.mem_map.mp hz
    exact wordOf_wd c
  have h1 : ∀ z ∈ row0 cells m, Wd z := by
    unfold row0
    split
    · intro z hz
      have hz' := List.mem_of_mem_take hz
      obtain ⟨l, hl, hzl⟩ := List.mem_flatten.mp hz'
      rw [(List.mem_replicate.mp hl).2] at hzl
      exact h0 z hzl
    · exact h0
  have h2 : ∀ z ∈ row1 cells m, Wd z := by
    unfold row1
    split
    · intro z hz
      obtain ⟨c, _, rfl⟩ := List.mem_map.mp hz
      exact alikeOf_wd c (by omega) (by omega)
    · exact h1
  unfold wordsOf
  split
  · intro z hz
    obtain ⟨k, _, rfl⟩ := List.mem_map.mp hz
    have hw := wideOf_in m (k : Int)
    have hl := len_mul1 (z := one (sgn (m + (k : Int)))) rfl (show 0 ≤ wideOf m (k : Int) by omega)
    exact ⟨ws_mul (ws_one _) _, by omega, by omega⟩
  · exact h2
theorem words_len (cells : List Int) (m : Int) (h : cells.length ≤ 63) : (wordsOf cells m).length ≤ 1600 := by
  have hm := manyOf_in m
  unfold wordsOf row1 row0
  split
  · rw [List.length_map, List.length_range]
    omega
  · split
    · rw [List.length_map]
      omega
    · split
      · rw [List.length_take]
        have : m / 4 % 150 < 150 := by omega
        omega
      · rw [List.length_map]
        omega
theorem sum_le_mul : ∀ (l : List Str) (n : Nat), (∀ z ∈ l, z.length ≤ n) → (l.map (·.length)).sum ≤ n * l.length
  | [], _, _ => Nat.zero_le _
  | a :: r, n, h => by
    have h1 := h a (List.mem_cons_self ..)
    have h2 := sum_le_mul r n fun z hz => h z (List.mem_cons_of_mem _ hz)
    rw [List.map_cons, List.sum_cons, List.length_cons, Nat.mul_succ]
    omega

/-! ### lines -/
def blankS : Str := ⟨#[32]⟩
def lineOf (ws : List Str) (b e : Nat) : Str := Txt.join blankS ((ws.drop b).take (e - b))
def sizeN (ws : List Str) (b e : Nat) : Nat := (lineOf ws b e).length
theorem ev_blk {σ : L2.St} {H : Hp} : Ev (tC (.str (Str.ofString " "))) σ H (.str blankS) := ev_blank
theorem cut_words {ws : List Str} {b e : Nat} (h1 : b ≤ e) (h2 : e ≤ ws.length) : cutV (ws.map V.str) (some (b : Int)) (some (e : Int)) = ((ws.drop b).take (e - b)).map V.str := by
  unfold cutV
  rw [HT.sIx_nat, HT.sIx_nat, List.length_map, Nat.min_eq_left h2, Nat.min_eq_left (by omega), ← List.map_drop, ← List.map_take]
theorem line_fits {ws : List Str} (hz : ∀ z ∈ ws, z.length ≤ 300) (hl : ws.length ≤ 2000) (b e : Nat) : (((ws.drop b).take (e - b)).map (·.length)).sum + ((ws.drop b).take (e - b)).length * blankS.length ≤ 1000000 := by
  have h1 := sum_le_mul ((ws.drop b).take (e - b)) 300 fun z hz' => hz z (List.mem_of_mem_drop (List.mem_of_mem_take hz'))
  have h2 : ((ws.drop b).take (e - b)).length ≤ ws.length := by
    rw [List.length_take, List.length_drop]
    omega
  have h3 : blankS.length = 1 := rfl
  rw [h3]
  omega
theorem sizeN_le {ws : List Str} (hz : ∀ z ∈ ws, z.length ≤ 300) (hl : ws.length ≤ 2000) (b e : Nat) : sizeN ws b e ≤ 1000000 := by
  have h := line_fits hz hl b e
  have h2 := len_join blankS ((ws.drop b).take (e - b))
  unfold sizeN lineOf
  omega
def sp_size (K : PySem.W.Frag) : Sp := fun vs H Q _ => ∃ (p : Addr) (ws : List Str) (b e : Nat), vs = [.ref p, .int b, .int e] ∧ SqL K H p (ws.map V.str) ∧ (∀ z ∈ ws, z.length ≤ 300) ∧ ws.length ≤ 2000 ∧ b ≤ e ∧ e ≤ ws.length ∧ RetV (.int (sizeN ws b e)) H Q

/-! ### sizes by sums, starts that fit, the quick starts -/
def pre (ws : List Str) (i : Nat) : Nat := ((ws.take i).map fun z => z.length + 1).sum
theorem sum_succ : ∀ l : List Str, (l.map fun z => z.length + 1).sum = (l.map (·.length)).sum + l.length
  | [] => rfl
  | a :: r => by
    rw [List.map_cons, List.sum_cons, sum_succ r, List.map_cons, List.sum_cons, List.length_cons]
    omega
theorem pre_split {ws : List Str} {b e : Nat} (h : b ≤ e) : pre ws e = pre ws b + (((ws.drop b).take (e - b)).map fun z => z.length + 1).sum := by
  unfold pre
  have q : ws.take e = ws.take b ++ (ws.drop b).take (e - b) := by
    have q2 := List.take_add (l := ws) (i := b) (j := e - b)
    rw [show b + (e - b) = e by omega] at q2
    exact q2
  rw [q, List.map_append, List.sum_append]
theorem size_pre {ws : List Str} {b e : Nat} (h : b < e) (he : e ≤ ws.length) : sizeN ws b e + 1 + pre ws b = pre ws e := by
  have h1 := pre_split (ws := ws) (b := b) (e := e) (by omega)
  have h2 := len_join blankS ((ws.drop b).take (e - b))
  have h3 : ¬ (ws.drop b).take (e - b) = [] := fun q => by
    have q2 := congrArg List.length q
    rw [List.length_take, List.length_drop, List.length_nil] at q2
    omega
  rw [if_neg h3, show blankS.length = 1 from rfl, Nat.mul_one] at h2
  rw [sum_succ] at h1
  unfold sizeN lineOf
  omega
theorem pre_mono {ws : List Str} {b e : Nat} (h : b ≤ e) : pre ws b ≤ pre ws e := by
  rw [pre_split h]
  exact Nat.le_add_right _ _
theorem size_mono {ws : List Str} {b e b' e' : Nat} (h : b < e) (hb : b' ≤ b) (he : e ≤ e') (hn : e' ≤ ws.length) : sizeN ws b e ≤ sizeN ws b' e' := by
  have h1 := size_pre h (Nat.le_trans he hn)
  have h2 := size_pre (show b' < e' by omega) hn
  have h3 := pre_mono (ws := ws) hb
  have h4 := pre_mono (ws := ws) he
  omega
theorem pre_succ {ws : List Str} {i : Nat} {z : Str} (h : ws[i]? = some z) : pre ws (i + 1) = pre ws i + z.length + 1 := by
  unfold pre
  rw [List.take_add_one, h, List.map_append, List.sum_append]
  show _ + (z.length + 1 + 0) = _
  omega
theorem size_one {ws : List Str} {i : Nat} {z : Str} (h : ws[i]? = some z) : sizeN ws i (i + 1) = z.length := by
  have hi := (List.getElem?_eq_some_iff.mp h).1
  have h1 := size_pre (ws := ws) (show i < i + 1 by omega) (by omega)
  rw [pre_succ h] at h1
  omega
theorem size_succ {ws : List Str} {b i : Nat} {z : Str} (hb : b < i) (h : ws[i]? = some z) : sizeN ws b (i + 1) = sizeN ws b i + 1 + z.length := by
  have hi := (List.getElem?_eq_some_iff.mp h).1
  have h1 := size_pre (ws := ws) (show b < i + 1 by omega) (by omega)
  have h2 := size_pre (ws := ws) hb (by omega)
  rw [pre_succ h] at h1
  omega
/-- behind the k-th of the starts -/
def ends (S : List Nat) (n : Nat) : List Nat := S.drop 1 ++ [n]
theorem ends_at {S : List Nat} {n k : Nat} (hk : k < S.length) : (ends S n)[k]? = some (if h : k + 1 < S.length then S[k + 1] else n) := by
  unfold ends
  by_cases h : k + 1 < S.length
  · rw [dif_pos h, List.getElem?_append_left (by rw [List.length_drop]; omega), List.getElem?_drop, Nat.add_comm, List.getElem?_eq_getElem h]
  · rw [dif_neg h, List.getElem?_append_right (by rw [List.length_drop]; omega), List.length_drop]
    rw [show k - (S.length - 1) = 0 by omega] <;> rfl
/-- starts of lines that fit -/
structure FitS (ws : List Str) (w : Int) (S : List Nat) : Prop where
  nil : S = [] → ws = []
  zero : ∀ s : Nat, S[0]? = some s → s = 0
  fit : ∀ (k s e : Nat), S[k]? = some s → (ends S ws.length)[k]? = some e → s < e ∧ e ≤ ws.length ∧ (sizeN ws s e : Int) ≤ w
theorem FitS.next {ws : List Str} {w : Int} {S : List Nat} (f : FitS ws w S) {k : Nat} (hk : k + 1 < S.length) : S[k] < S[k + 1] ∧ S[k + 1] < ws.length ∧ (sizeN ws S[k] S[k + 1] : Int) ≤ w := by
  have h1 := f.fit k S[k] S[k + 1] (List.getElem?_eq_getElem (by omega)) (by rw [ends_at (by omega), dif_pos hk])
  have h2 := f.fit (k + 1) S[k + 1] (if h : k + 1 + 1 < S.length then S[k + 1 + 1] else ws.length) (List.getElem?_eq_getElem hk) (ends_at hk)
  exact ⟨h1.1, by omega, h1.2.2⟩
theorem FitS.last {ws : List Str} {w : Int} {S : List Nat} (f : FitS ws w S) {k : Nat} (hk : k + 1 = S.length) : S[k] < ws.length ∧ (sizeN ws S[k] ws.length : Int) ≤ w := by
  have h1 := f.fit k S[k] ws.length (List.getElem?_eq_getElem (by omega)) (by rw [ends_at (by omega), dif_neg (by omega)])
  exact ⟨h1.1, h1.2.2⟩
/-- each takes as many words as fit -/
def Full (ws : List Str) (w : Int) (S : List Nat) : Prop := ∀ (k : Nat) (h : k + 1 < S.length), w < (sizeN ws S[k] (S[k + 1] + 1) : Int)
theorem full_ahead {ws : List Str} {w : Int} {S O : List Nat} (fs : FitS ws w S) (hS : Full ws w S) (fo : FitS ws w O) : ∀ (k : Nat) (h1 : k < S.length) (h2 : k < O.length), O[k] ≤ S[k]
  | 0, h1, h2 => by
    rw [fs.zero S[0] (List.getElem?_eq_getElem h1), fo.zero O[0] (List.getElem?_eq_getElem h2)]
    exact Nat.le_refl _
  | k + 1, h1, h2 => by
    have ih := full_ahead fs hS fo k (by omega) (by omega)
    have a := fs.next (k := k) h1
    have b := fo.next (k := k) h2
    have c := hS k h1
    refine Nat.le_of_not_lt fun q => ?_
    have m := size_mono (ws := ws) (b := S[k]) (e := S[k + 1] + 1) (b' := O[k]) (e' := O[k + 1]) (by omega) ih (by omega) (by omega)
    omega
theorem full_few {ws : List Str} {w : Int} {S O : List Nat} (fs : FitS ws w S) (hS : Full ws w S) (fo : FitS ws w O) : S.length ≤ O.length := by
  refine Nat.le_of_not_lt fun q => ?_
  rcases Nat.eq_zero_or_pos O.length with h0 | h0
  · have e := fo.nil (List.length_eq_zero_iff.mp h0)
    have a := fs.fit 0 S[0] (if h : 0 + 1 < S.length then S[0 + 1] else ws.length) (List.getElem?_eq_getElem (by omega)) (ends_at (by omega))
    rw [e] at a
    have : ([] : List Str).length = 0 := rfl
    omega
  · obtain ⟨m, hm⟩ : ∃ m, O.length = m + 1 := ⟨O.length - 1, by omega⟩
    have ih := full_ahead fs hS fo m (by omega) (by omega)
    have a := fs.next (k := m) (by omega)
    have b := fo.last (k := m) (by omega)
    have c := hS m (by omega)
    have mo := size_mono (ws := ws) (b := S[m]) (e := S[m + 1] + 1) (b' := O[m]) (e' := ws.length) (by omega) ih (by omega) (Nat.le_refl _)
    omega
/-- the quick starts of the first i words: built from the left -/
structure Part (ws : List Str) (w : Int) (i : Nat) (S : List Nat) : Prop where
  nil : S = [] → i = 0
  zero : ∀ s : Nat, S[0]? = some s → s = 0
  le : i ≤ ws.length
  next : ∀ (k : Nat) (h : k + 1 < S.length), S[k] < S[k + 1] ∧ (sizeN ws S[k] S[k + 1] : Int) ≤ w ∧ w < (sizeN ws S[k] (S[k + 1] + 1) : Int)
  last : ∀ (k : Nat) (h : k + 1 = S.length), S[k] < i ∧ (sizeN ws S[k] i : Int) ≤ w
theorem Part.fit {ws : List Str} {w : Int} {S : List Nat} (p : Part ws w ws.length S) : FitS ws w S ∧ Full ws w S := by
  have below : ∀ d k (h : k + 1 + d = S.length), S[k] < ws.length := by
    intro d
    induction d with
    | zero => exact fun k h => (p.last k h).1
    | succ d ih =>
      intro k h
      have a := (p.next k (by omega)).1
      have b := ih (k + 1) (by omega)
      omega
  refine ⟨⟨fun h => List.length_eq_zero_iff.mp (p.nil h), p.zero, fun k s e hs he => ?_⟩, fun k h => (p.next k h).2.2⟩
  obtain ⟨hk, rfl⟩ := List.getElem?_eq_some_iff.mp hs
  rw [ends_at hk] at he
  by_cases h : k + 1 < S.length
  · rw [dif_pos h] at he
    cases he
    have a := p.next k h
    have b := below (S.length - (k + 2)) (k + 1) (by omega)
    exact ⟨a.1, by omega, a.2.1⟩
  · rw [dif_neg h] at he
    cases he
    have a := p.last k (by omega)
    exact ⟨a.1, Nat.le_refl _, a.2⟩
theorem Part.zero0 {ws : List Str} {w : Int} : Part ws w 0 [] := ⟨fun _ => rfl, fun s h => by simp at h, Nat.zero_le _, fun k h => absurd h (by simp), fun k h => absurd h (by simp)⟩
/-- one more word on the last line -/
theorem Part.more {ws : List Str} {w : Int} {i : Nat} {S : List Nat} (p : Part ws w i S) (hi : i < ws.length) (hS : S ≠ []) (h : ∀ (k : Nat) (hk : k + 1 = S.length), (sizeN ws S[k] (i + 1) : Int) ≤ w) : Part ws w (i + 1) S :=
  ⟨fun q => absurd q hS, p.zero, hi, p.next, fun k hk => ⟨by have := (p.last k hk).1; omega, h k hk⟩⟩
/-- a new line -/
theorem Part.new {ws : List Str} {w : Int} {i : Nat} {S : List Nat} {z : Str} (p : Part ws w i S) (hi : ws[i]? = some z) (hz : (z.length : Int) ≤ w) (h : ∀ (k : Nat) (hk : k + 1 = S.length), w < (sizeN ws S[k] (i + 1) : Int)) : Part ws w (i + 1) (S ++ [i]) := by
  have hil := (List.getElem?_eq_some_iff.mp hi).1
  refine ⟨fun q => by simp at q, fun s hs => ?_, hil, fun k hk => ?_, fun k hk => ?_⟩
  · rcases Nat.eq_zero_or_pos S.length with h0 | h0
    · have e := List.length_eq_zero_iff.mp h0
      rw [e] at hs
      have := p.nil e
      cases hs
      exact this
    · rw [List.getElem?_append_left h0] at hs
      exact p.zero s hs
  · rw [List.length_append, List.length_singleton] at hk
    have e1 : (S ++ [i])[k]'(by rw [List.length_append, List.length_singleton]; omega) = S[k] := List.getElem_append_left (by omega)
    by_cases h2 : k + 1 < S.length
    · have e2 : (S ++ [i])[k + 1]'(by rw [List.length_append, List.length_singleton]; omega) = S[k + 1] := List.getElem_append_left h2
      rw [e1, e2]
      exact p.next k h2
    · have h3 : k + 1 = S.length := by omega
      have e2 : (S ++ [i])[k + 1]'(by rw [List.length_append, List.length_singleton]; omega) = i := by
        rw [List.getElem_append_right (by omega)]
        simp [h3]
      rw [e1, e2]
      have a := p.last k h3
      exact ⟨a.1, a.2, h k h3⟩
  · rw [List.length_append, List.length_singleton] at hk
    have e2 : (S ++ [i])[k]'(by rw [List.length_append, List.length_singleton]; omega) = i := by
      have h3 : k = S.length := by omega
      subst h3
      simp
    rw [e2, size_one hi]
    exact ⟨by omega, hz⟩

/-! ### the least sum -/
def WidB (w : Int) : Prop := w.natAbs < 2 ^ 120
/-- m words from b on are as many as fit -/
structure IsCnt (ws : List Str) (w : Int) (b m : Nat) : Prop where
  le : b + m ≤ ws.length
  fit : ∀ i, i < m → (sizeN ws b (b + 1 + i) : Int) ≤ w
  most : b + m < ws.length → w < (sizeN ws b (b + m + 1) : Int)
theorem IsCnt.uniq {ws : List Str} {w : Int} {b m m' : Nat} (h : IsCnt ws w b m) (h' : IsCnt ws w b m') : m = m' := by
  rcases Nat.lt_trichotomy m m' with q | q | q
  · have a1 := h.most (by have := h'.le; omega)
    have a2 := h'.fit m q
    rw [show b + 1 + m = b + m + 1 by omega] at a2
    omega
  · exact q
  · have a1 := h'.most (by have := h.le; omega)
    have a2 := h.fit m' q
    rw [show b + 1 + m' = b + m' + 1 by omega] at a2
    omega
theorem IsCnt.in_ {ws : List Str} {w : Int} {b m e : Nat} (h : IsCnt ws w b m) (hb : b < e) (he : e ≤ ws.length) (hf : (sizeN ws b e : Int) ≤ w) : e ≤ b + m := by
  refine Nat.le_of_not_lt fun q => ?_
  have a1 := h.most (by omega)
  have a2 := size_mono (ws := ws) (b := b) (e := b + m + 1) (b' := b) (e' := e) (by omega) (Nat.le_refl _) (by omega) he
  omega
theorem IsCnt.out {ws : List Str} {w : Int} {b m e : Nat} (h : IsCnt ws w b m) (hb : b < e) (he : e ≤ b + m) : (sizeN ws b e : Int) ≤ w := by
  have := h.fit (e - b - 1) (by omega)
  rw [show b + 1 + (e - b - 1) = e by omega] at this
  exact this
def sizesL (ws : List Str) (b m : Nat) : List Int := (List.range m).map fun i => (sizeN ws b (b + 1 + i) : Int)
def countsL (ws : List Str) (w : Int) (b m : Nat) : List Int := (List.range m).map fun i => (w - (sizeN ws b (b + 1 + i) : Int)) ^ (2 : Int).toNat
/-- what a line counts -/
def price (ws : List Str) (w : Int) (b e : Nat) : Int := if e = ws.length then 0 else (w - (sizeN ws b e : Int)) ^ (2 : Int).toNat
theorem sq_nn (x : Int) : 0 ≤ x ^ (2 : Int).toNat := by
  show 0 ≤ x ^ 2
  rw [show x ^ 2 = x * x by rw [Int.pow_succ, Int.pow_succ, Int.pow_zero, Int.one_mul]]
  rw [← Int.natAbs_mul_self]
  exact Int.natCast_nonneg _
theorem price_nn (ws : List Str) (w : Int) (b e : Nat) : 0 ≤ price ws w b e := by
  unfold price
  split
  · exact Int.le_refl _
  · exact sq_nn _
/-- the best line of the first i: its sum, its end -/
def bestN (c : Nat → Int) (r : Nat → Option Int) (b : Nat) : Nat → Option (Int × Nat)
  | 0 => none
  | i + 1 => match r (b + 1 + i) with
    | none => bestN c r b i
    | some t => match bestN c r b i with
      | none => some (c i + t, b + 1 + i)
      | some (l, e) => if c i + t ≤ l then some (c i + t, b + 1 + i) else some (l, e)
theorem bestN_none {c : Nat → Int} {r : Nat → Option Int} {b : Nat} : ∀ {i : Nat}, bestN c r b i = none → ∀ j, j < i → r (b + 1 + j) = none
  | 0, _, j, hj => absurd hj (Nat.not_lt_zero _)
  | i + 1, h, j, hj => by
    unfold bestN at h
    cases hr : r (b + 1 + i) with
    | none =>
      rw [hr] at h
      rcases Nat.lt_or_ge j i with q | q
      · exact bestN_none h j q
      · rw [show j = i by omega]
        exact hr
    | some t =>
      rw [hr] at h
      exfalso
      revert h
      cases bestN c r b i with
      | none => exact fun h => nomatch h
      | some p =>
        show (if _ then _ else _) = none → False
        split <;> exact fun h => nomatch h
theorem bestN_some {c : Nat → Int} {r : Nat → Option Int} {b : Nat} : ∀ {i : Nat} {l : Int} {e : Nat}, bestN c r b i = some (l, e) → (∃ j t, j < i ∧ e = b + 1 + j ∧ r e = some t ∧ l = c j + t) ∧
    ∀ j, j < i → ∀ t, r (b + 1 + j) = some t → l ≤ c j + t ∧ (e < b + 1 + j → l < c j + t)
  | 0, _, _, h => nomatch h
  | i + 1, l, e, h => by
    unfold bestN at h
    cases hr : r (b + 1 + i) with
    | none =>
      rw [hr] at h
      obtain ⟨⟨j, t, h1, h2, h3, h4⟩, h5⟩ := bestN_some h
      refine ⟨⟨j, t, by omega, h2, h3, h4⟩, fun j' hj' t' ht' => ?_⟩
      rcases Nat.lt_or_ge j' i with q | q
      · exact h5 j' q t' ht'
      · rw [show j' = i by omega, hr] at ht'
        cases ht'
    | some t =>
      rw [hr] at h
      cases hb : bestN c r b i with
      | none =>
        rw [hb] at h
        cases h
        refine ⟨⟨i, t, Nat.lt_succ_self _, rfl, hr, rfl⟩, fun j' hj' t' ht' => ?_⟩
        rcases Nat.lt_or_ge j' i with q | q
        · rw [bestN_none hb j' q] at ht'
          cases ht'
        · have ej : j' = i := by omega
          subst ej
          rw [hr] at ht'
          cases ht'
          exact ⟨Int.le_refl _, fun q => absurd q (Nat.lt_irrefl _)⟩
      | some p =>
        obtain ⟨l0, e0⟩ := p
        rw [hb] at h
        obtain ⟨⟨j, t0, h1, h2, h3, h4⟩, h5⟩ := bestN_some hb
        by_cases hle : c i + t ≤ l0
        · have h' : some (c i + t, b + 1 + i) = some (l, e) := by
            rw [← h]
            exact (if_pos hle).symm
          cases h'
          refine ⟨⟨i, t, Nat.lt_succ_self _, rfl, hr, rfl⟩, fun j' hj' t' ht' => ?_⟩
          rcases Nat.lt_or_ge j' i with q | q
          · have := (h5 j' q t' ht').1
            exact ⟨by omega, fun q2 => by omega⟩
          · have ej : j' = i := by omega
            subst ej
            rw [hr] at ht'
            cases ht'
            exact ⟨Int.le_refl _, fun q => absurd q (Nat.lt_irrefl _)⟩
        · have h' : some (l0, e0) = some (l, e) := by
            rw [← h]
            exact (if_neg hle).symm
          cases h'
          refine ⟨⟨j, t0, by omega, h2, h3, h4⟩, fun j' hj' t' ht' => ?_⟩
          rcases Nat.lt_or_ge j' i with q | q
          · exact h5 j' q t' ht'
          · have ej : j' = i := by omega
            subst ej
            rw [hr] at ht'
            cases ht'
            exact ⟨by omega, fun _ => by omega⟩
/-- a line from k to e that fits -/
def Fits (ws : List Str) (w : Int) (k e : Nat) : Prop := k < e ∧ e ≤ ws.length ∧ (sizeN ws k e : Int) ≤ w
/-- t is the table from i on -/
structure TabFrom (ws : List Str) (w : Int) (t : Nat → Int) (i : Nat) : Prop where
  last : t ws.length = 0
  nn : ∀ k, i ≤ k → k ≤ ws.length → 0 ≤ t k
  le : ∀ k e, i ≤ k → Fits ws w k e → t k ≤ price ws w k e + t e
  eq : ∀ k, i ≤ k → k < ws.length → ∃ e, Fits ws w k e ∧ t k = price ws w k e + t e
abbrev IsTab (ws : List Str) (w : Int) (t : Nat → Int) : Prop := TabFrom ws w t 0
theorem TabFrom.uniq {ws : List Str} {w : Int} {t t' : Nat → Int} {i : Nat} (h : TabFrom ws w t i) (h' : TabFrom ws w t' i) : ∀ d k, k + d = ws.length → i ≤ k → t k = t' k := by
  intro d
  induction d using Nat.strongRecOn with
  | ind d ih =>
    intro k hk hi
    rcases Nat.eq_zero_or_pos d with h0 | h0
    · rw [show k = ws.length by omega, h.last, h'.last]
    · obtain ⟨e, f, q⟩ := h.eq k hi (by omega)
      obtain ⟨e', f', q'⟩ := h'.eq k hi (by omega)
      have a1 := h.le k e' hi f'
      have a2 := h'.le k e hi f
      have b1 := ih (ws.length - e) (by have := f.1; omega) e (by have := f.2.1; omega) (by have := f.1; omega)
      have b2 := ih (ws.length - e') (by have := f'.1; omega) e' (by have := f'.2.1; omega) (by have := f'.1; omega)
      omega
/-- the first of the best lines: the longest of the least -/
structure IsGoal (ws : List Str) (w : Int) (t : Nat → Int) (k e : Nat) : Prop where
  fit : Fits ws w k e
  eq : t k = price ws w k e + t e
  most : ∀ e', e < e' → Fits ws w k e' → t k < price ws w k e' + t e'
theorem IsGoal.uniq {ws : List Str} {w : Int} {t : Nat → Int} {k e e' : Nat} (h : IsGoal ws w t k e) (h' : IsGoal ws w t k e') : e = e' := by
  rcases Nat.lt_trichotomy e e' with q | q | q
  · have a1 := h.most e' q h'.fit
    have a2 := h'.eq
    omega
  · exact q
  · have a1 := h'.most e q h.fit
    have a2 := h.eq
    omega
/-- what first_line tells of a place -/
structure IsFirst (ws : List Str) (w : Int) (t : Nat → Int) (k : Nat) (l : Int) (e : Nat) : Prop where
  fit : Fits ws w k e
  nn : 0 ≤ l
  eq : l = price ws w k e + t e
  le : ∀ e', Fits ws w k e' → l ≤ price ws w k e' + t e'
  most : ∀ e', e < e' → Fits ws w k e' → l < price ws w k e' + t e'
theorem first_all {ws : List Str} {w : Int} {t : Nat → Int} {k m : Nat} (hc : IsCnt ws w k m) (hk : k < ws.length) (hm : k + m = ws.length) (h0 : t ws.length = 0) (hnn : ∀ e, k < e → e ≤ ws.length → 0 ≤ t e) : IsFirst ws w t k 0 ws.length :=
  ⟨⟨hk, Nat.le_refl _, hc.out hk (by omega)⟩, Int.le_refl _, by rw [h0, price, if_pos rfl] <;> rfl, fun e' f => by have := price_nn ws w k e'; have := hnn e' f.1 f.2.1; omega, fun e' q f => by have := f.2.1; omega⟩
theorem first_best {ws : List Str} {w : Int} {t : Nat → Int} {k m : Nat} (hc : IsCnt ws w k m) (hk : k < ws.length) (hm : k + m ≠ ws.length) (hone : (sizeN ws k (k + 1) : Int) ≤ w) (hnn : ∀ e, k < e → e ≤ ws.length → 0 ≤ t e) :
    ∃ l e, bestN (fun i => (w - (sizeN ws k (k + 1 + i) : Int)) ^ (2 : Int).toNat) (fun e => some (t e)) k m = some (l, e) ∧ IsFirst ws w t k l e := by
  have hle := hc.le
  cases hb : bestN (fun i => (w - (sizeN ws k (k + 1 + i) : Int)) ^ (2 : Int).toNat) (fun e => some (t e)) k m with
  | none =>
    have h1 := hc.in_ (Nat.lt_succ_self k) hk hone
    exact nomatch bestN_none hb 0 (by omega)
  | some p =>
    obtain ⟨l, e⟩ := p
    obtain ⟨⟨j, tt, h1, h2, h3, h4⟩, h5⟩ := bestN_some hb
    cases h3
    subst h2
    have hp : ∀ e', k < e' → e' ≤ k + m → price ws w k e' = (w - (sizeN ws k e' : Int)) ^ (2 : Int).toNat := fun e' _ q => if_neg (by omega)
    refine ⟨l, _, rfl, ⟨by omega, by omega, hc.fit j h1⟩, ?_, ?_, fun e' f => ?_, fun e' q f => ?_⟩
    · have a1 := sq_nn (w - (sizeN ws k (k + 1 + j) : Int))
      have a2 := hnn (k + 1 + j) (by omega) (by omega)
      omega
    · rw [hp _ (by omega) (by omega)]
      exact h4
    · have q := hc.in_ f.1 f.2.1 f.2.2
      have f1 := f.1
      rw [hp e' f1 q]
      have := (h5 (e' - k - 1) (by omega) (t e') (by rw [show k + 1 + (e' - k - 1) = e' by omega])).1
      rw [show k + 1 + (e' - k - 1) = e' by omega] at this
      exact this
    · have q2 := hc.in_ f.1 f.2.1 f.2.2
      have f1 := f.1
      rw [hp e' f1 q2]
      have := (h5 (e' - k - 1) (by omega) (t e') (by rw [show k + 1 + (e' - k - 1) = e' by omega])).2 (by omega)
      rw [show k + 1 + (e' - k - 1) = e' by omega] at this
      exact this
/-- the table's last place alone -/
theorem TabFrom.zero {ws : List Str} {w : Int} : TabFrom ws w (fun _ => 0) ws.length :=
  ⟨rfl, fun _ _ _ => Int.le_refl _, fun k e h f => by have := f.1; have := f.2.1; omega, fun k h h2 => by omega⟩
/-- one place more -/
theorem TabFrom.more {ws : List Str} {w : Int} {t : Nat → Int} {k : Nat} {l : Int} {e : Nat} (h : TabFrom ws w t (k + 1)) (hk : k < ws.length) (f : IsFirst ws w t k l e) : TabFrom ws w (fun j => if j = k then l else t j) k := by
  refine ⟨?_, fun j hj hj2 => ?_, fun j e' hj fe => ?_, fun j hj hj2 => ?_⟩
  · show (if ws.length = k then l else t ws.length) = 0
    rw [if_neg (by omega)]
    exact h.last
  · show 0 ≤ if j = k then l else t j
    split
    · exact f.nn
    · exact h.nn j (by omega) hj2
  · have := fe.1
    show (if j = k then l else t j) ≤ price ws w j e' + (if e' = k then l else t e')
    rw [if_neg (show ¬ e' = k by omega)]
    by_cases q : j = k
    · subst q
      rw [if_pos rfl]
      exact f.le e' fe
    · rw [if_neg q]
      exact h.le j e' (by omega) fe
  · by_cases q : j = k
    · subst q
      refine ⟨e, f.fit, ?_⟩
      have := f.fit.1
      show (if j = j then l else t j) = price ws w j e + (if e = j then l else t e)
      rw [if_pos rfl, if_neg (by omega)]
      exact f.eq
    · obtain ⟨e', fe, he⟩ := h.eq j (by omega) hj2
      refine ⟨e', fe, ?_⟩
      have := fe.1
      show (if j = k then l else t j) = price ws w j e' + (if e' = k then l else t e')
      rw [if_neg q, if_neg (by omega)]
      exact he
def tabL (t : Nat → Int) (n : Nat) : List Int := (List.range (n + 1)).map t
theorem tabL_len (t : Nat → Int) (n : Nat) : (tabL t n).length = n + 1 := by
  unfold tabL
  rw [List.length_map, List.length_range]
theorem tabL_at {t : Nat → Int} {n k : Nat} (h : k ≤ n) : (tabL t n)[k]? = some (t k) := by
  unfold tabL
  rw [List.getElem?_map, List.getElem?_range (by omega)] <;> rfl
theorem tab_at {t : Nat → Int} {n k : Nat} (h : k ≤ n) : ((tabL t n).map V.int)[k]? = some (.int (t k)) := by
  rw [List.getElem?_map, tabL_at h] <;> rfl
theorem tabL_congr {t t' : Nat → Int} {n : Nat} (h : ∀ k, k ≤ n → t k = t' k) : tabL t n = tabL t' n := by
  unfold tabL
  exact List.map_congr_left fun k hk => h k (by have := List.mem_range.mp hk; omega)
theorem tab_uniq {ws : List Str} {w : Int} {t t' : Nat → Int} (h : IsTab ws w t) (h' : IsTab ws w t') : ∀ k, k ≤ ws.length → t k = t' k := fun k hk => h.uniq h' (ws.length - k) k (by omega) (Nat.zero_le _)
/-- from a to b, by lines that G allows, begun at S -/
inductive WalkTo (G : Nat → Nat → Prop) : Nat → List Nat → Nat → Prop
  | nil (a : Nat) : WalkTo G a [] a
  | cons {a e b : Nat} {S : List Nat} : G a e → WalkTo G e S b → WalkTo G a (a :: S) b
theorem WalkTo.snoc {G : Nat → Nat → Prop} {a b e : Nat} {S : List Nat} (h : WalkTo G a S b) (g : G b e) : WalkTo G a (S ++ [b]) e := by
  induction h with
  | nil a => exact .cons g (.nil _)
  | cons g1 _ ih => exact .cons g1 (ih g)
theorem WalkTo.uniq {G : Nat → Nat → Prop} (hu : ∀ a e e', G a e → G a e' → e = e') (hlt : ∀ a e, G a e → a < e) {b : Nat} {S S' : List Nat} {a : Nat} (h : WalkTo G a S b) : WalkTo G a S' b → S = S' := by
  have up : ∀ {x y : Nat} {T : List Nat}, WalkTo G x T y → x ≤ y := fun hw => by
    induction hw with
    | nil => exact Nat.le_refl _
    | cons g _ ih =>
      have := hlt _ _ g
      omega
  induction h generalizing S' with
  | nil a =>
    intro h'
    cases h' with
    | nil => rfl
    | cons g hw =>
      have := hlt _ _ g
      have := up hw
      omega
  | cons g hw ih =>
    intro h'
    cases h' with
    | nil =>
      have := hlt _ _ g
      have := up hw
      omega
    | cons g' hw' =>
      have e1 := hu _ _ _ g g'
      subst e1
      rw [ih hw']
theorem IsFirst.goal {ws : List Str} {w : Int} {t : Nat → Int} {k : Nat} {l : Int} {e : Nat} (h : IsFirst ws w t k l e) (ht : IsTab ws w t) : IsGoal ws w t k e := by
  have hk : k < ws.length := Nat.lt_of_lt_of_le h.fit.1 h.fit.2.1
  obtain ⟨e', f', q'⟩ := ht.eq k (Nat.zero_le _) hk
  have a1 := ht.le k e (Nat.zero_le _) h.fit
  have a2 := h.le e' f'
  have a3 := h.eq
  refine ⟨h.fit, by omega, fun e2 q f => ?_⟩
  have := h.most e2 q f
  omega
/-- the starts that the table leads to -/
abbrev BestW (ws : List Str) (w : Int) (t : Nat → Int) (S : List Nat) : Prop := WalkTo (IsGoal ws w t) 0 S ws.length
theorem goal_uniq {ws : List Str} {w : Int} {t : Nat → Int} {S S' : List Nat} (h : BestW ws w t S) (h' : BestW ws w t S') : S = S' := h.uniq (fun _ _ _ a b => a.uniq b) (fun _ _ a => a.fit.1) h'
theorem walk_len {G : Nat → Nat → Prop} (hlt : ∀ a e, G a e → a < e) {a b : Nat} {S : List Nat} (h : WalkTo G a S b) : a + S.length ≤ b := by
  induction h with
  | nil => exact Nat.le_refl _
  | cons g _ ih =>
    have := hlt _ _ g
    rw [List.length_cons]
    omega
def tabZ (t : Nat → Int) (n j : Nat) : List Int := (List.range (n + 1)).map fun k => if j ≤ k then t k else 0
theorem tabZ_len (t : Nat → Int) (n j : Nat) : (tabZ t n j).length = n + 1 := by
  unfold tabZ
  rw [List.length_map, List.length_range]
theorem tabZ_at {t : Nat → Int} {n j k : Nat} (h : k ≤ n) (hj : j ≤ k) : (tabZ t n j)[k]? = some (t k) := by
  unfold tabZ
  rw [List.getElem?_map, List.getElem?_range (by omega)]
  show some (if j ≤ k then t k else 0) = _
  rw [if_pos hj]
theorem tabZ_zero (t : Nat → Int) (n : Nat) : tabZ t n 0 = tabL t n := by
  unfold tabZ tabL
  exact List.map_congr_left fun k _ => if_pos (Nat.zero_le _)
theorem tabZ_start (n : Nat) : (List.replicate ((n : Int) + 1).toNat [V.int 0]).flatten = (tabZ (fun _ => 0) n n).map V.int := by
  rw [show ((n : Int) + 1).toNat = n + 1 by omega]
  unfold tabZ
  rw [List.map_map]
  refine List.ext_getElem? fun j => ?_
  have hl : (List.replicate (n + 1) [V.int 0]).flatten = List.replicate (n + 1) (V.int 0) := by
    induction n + 1 with
    | zero => rfl
    | succ m ih => rw [List.replicate_succ, List.flatten_cons, ih] <;> rfl
  rw [hl, List.getElem?_map, List.getElem?_replicate]
  by_cases hj : j < n + 1
  · rw [if_pos hj, List.getElem?_range hj]
    show some (V.int 0) = some (V.int (if n ≤ j then 0 else 0))
    split <;> rfl
  · rw [if_neg hj, List.getElem?_eq_none (by rw [List.length_range]; omega)] <;> rfl
theorem tabZ_set {t : Nat → Int} {n k : Nat} {l : Int} (hk : k < n) : ((tabZ t n (k + 1)).map V.int).set k (.int l) = (tabZ (fun j => if j = k then l else t j) n k).map V.int := by
  refine List.ext_getElem? fun j => ?_
  rw [List.getElem?_set, List.length_map, tabZ_len]
  by_cases hj : k = j
  · subst hj
    rw [if_pos rfl, if_pos (by omega), List.getElem?_map, tabZ_at (by omega) (Nat.le_refl _)]
    show some (V.int l) = some (V.int (if k = k then l else t k))
    rw [if_pos rfl]
  · rw [if_neg hj, List.getElem?_map, List.getElem?_map]
    unfold tabZ
    rw [List.getElem?_map, List.getElem?_map]
    by_cases h2 : j < n + 1
    · rw [List.getElem?_range h2]
      show some (V.int (if k + 1 ≤ j then t j else 0)) = some (V.int (if k ≤ j then (if j = k then l else t j) else 0))
      rw [if_neg (show ¬ j = k by omega)]
      by_cases h3 : k ≤ j
      · rw [if_pos h3, if_pos (by omega)]
      · rw [if_neg h3, if_neg (by omega)]
    · rw [List.getElem?_eq_none (by rw [List.length_range]; omega)] <;> rfl

/-! ### walks -/
/-- the place behind the first line -/
def nextOf (S : List Nat) (n : Nat) : Nat := (S ++ [n]).getD 0 0
theorem ends_cons (a : Nat) (S : List Nat) (n : Nat) : ends (a :: S) n = S ++ [n] := rfl
theorem ends_shift (a : Nat) (S : List Nat) (n k : Nat) (hk : k < S.length) : (ends (a :: S) n).getD (k + 1) 0 = (ends S n).getD k 0 := by
  rw [ends_cons]
  match S, hk with
  | b :: r, _ => rfl
theorem walk_next {G : Nat → Nat → Prop} {e n : Nat} {S : List Nat} (h : WalkTo G e S n) : nextOf S n = e := by
  cases h with
  | nil => rfl
  | cons _ _ => rfl
theorem WalkTo.mono {G G' : Nat → Nat → Prop} (hg : ∀ a e, G a e → G' a e) {a b : Nat} {S : List Nat} (h : WalkTo G a S b) : WalkTo G' a S b := by
  induction h with
  | nil => exact .nil _
  | cons g _ ih => exact .cons (hg _ _ g) ih
/-- starts that fit, as a walk -/
theorem walk_of_fit {ws : List Str} {w : Int} : ∀ {S : List Nat} {a : Nat}, (S = [] → a = ws.length) → (∀ s, S[0]? = some s → s = a) → (∀ (k s e : Nat), S[k]? = some s → (ends S ws.length)[k]? = some e → Fits ws w s e) → WalkTo (Fits ws w) a S ws.length
  | [], a, h1, _, _ => by
    rw [h1 rfl]
    exact .nil _
  | b :: S, a, _, h2, h3 => by
    have hb := h2 b rfl
    subst hb
    have hf := h3 0 b (nextOf S ws.length) rfl (by
      rw [ends_cons]
      cases S <;> rfl)
    refine .cons hf (walk_of_fit (fun q => ?_) (fun s hs => ?_) fun k s e hs he => ?_)
    · rw [q] <;> rfl
    · cases S with
      | nil => cases hs
      | cons c r =>
        cases hs
        rfl
    · refine h3 (k + 1) s e hs ?_
      rw [ends_cons]
      cases S with
      | nil => cases hs
      | cons c r => exact he
theorem FitS.walk {ws : List Str} {w : Int} {S : List Nat} (f : FitS ws w S) : WalkTo (Fits ws w) 0 S ws.length :=
  walk_of_fit (fun q => by rw [f.nil q] <;> rfl) f.zero fun k s e h1 h2 => f.fit k s e h1 h2
theorem walk_fitS {ws : List Str} {w : Int} {S : List Nat} (h : WalkTo (Fits ws w) 0 S ws.length) : FitS ws w S := by
  have go : ∀ {a n : Nat} {S : List Nat}, WalkTo (Fits ws w) a S n → n = ws.length → ∀ (k s e : Nat), S[k]? = some s → (ends S n)[k]? = some e → s < e ∧ e ≤ ws.length ∧ (sizeN ws s e : Int) ≤ w := fun hw => by
    induction hw with
    | nil => exact fun _ k s e hs => by simp at hs
    | cons g hw ih =>
      rename_i a e0 b S'
      intro hn k s e hs he
      rw [ends_cons] at he
      cases k with
      | zero =>
        cases hs
        have : e = e0 := by
          cases hw with
          | nil =>
            cases he
            rfl
          | cons _ _ =>
            cases he
            rfl
        subst this
        exact g
      | succ k =>
        refine ih hn k s e hs ?_
        cases hw with
        | nil => cases hs
        | cons _ _ => exact he
  refine ⟨fun q => ?_, fun s hs => ?_, fun k s e hs he => go h rfl k s e hs he⟩
  · rw [q] at h
    generalize hn : ws.length = n at h
    cases h
    exact List.length_eq_zero_iff.mp hn
  · revert hs
    generalize hn : ws.length = n at h
    cases h with
    | nil =>
      intro hs
      simp at hs
    | cons _ _ =>
      intro hs
      cases hs
      rfl

local macro_rules | `(tactic| walk_at "rv") => `(tactic| (first
  | exact rv_I0
  | exact rv_I (by decide)
  | exact rv_I ⟨by omega, by omega⟩
  | exact rv_I (.inl ⟨by omega, by omega⟩)
  | exact rv_I (.inr ⟨by omega, by omega⟩)
  | exact rv_eq rfl
  | exact rv_ne rfl
  | exact rv_isB
  | exact rv_isN
  | exact rv_notN))
local macro_rules | `(tactic| walk_at "ev") => `(tactic| (first
  | exact ev_c
  | exact ev_var rfl
  | (apply ev_op; (walk_at "ev"); (walk_at "ev"); (walk_at "rv"))
  | (apply ev_un; (walk_at "ev"); (exact ru_neg))
  | (apply ev_cb; (walk_at "ea"); (walk_at "rc"))
  | (apply ev_call; (walk_at "ea"); (walk_at "sp"))))
local macro_rules | `(tactic| walk_at "ea") => `(tactic| (first
  | exact ea_nil
  | (apply ea_cons; (walk_at "ev"); (walk_at "ea"))))
local macro_rules | `(tactic| walk_at "rc") => `(tactic| (first
  | exact rc_lenL (by assumption)
  | exact rc_lenS (by omega)
  | exact rc_isStr
  | exact rc_isList (by assumption)))
local macro_rules | `(tactic| walk_at "et") => `(tactic| (first
  | (apply et_test; (walk_at "ev"))
  | (apply et_B; (walk_at "ev"))
  | (apply et_not; (walk_at "et"))))

section
variable {P : Program} {w : World} {K : PySem.W.Frag} {mg : Str → Option Value} {base : Heap} {A : Ad}
/-! ### _law_cell_at -/
def sp_cell_at (K : PySem.W.Frag) : Sp := fun vs H Q _ => ∃ (a : Addr) (ns : List Int) (j : Nat), vs = [.ref a, .int j] ∧ SqL K H a (ns.map V.int) ∧ RetV (.int (ns.getD j 0)) H Q
theorem ok_l_cell_at (T : Txt K mg A) : FnOk P w K mg base CX0 1 A.f_l_cell_at A.d_l_cell_at ["_law_script", "_law_k"] (sp_cell_at K) := by
  refine T.F_l_cell_at.ok sc_l_cell_at (fun vs H Q E h => ?_) (fun cdv Ar outer s H vs Q E hr h => ?_)
  · obtain ⟨a, ns, j, rfl, _⟩ := h
    rfl
  · obtain ⟨a, ns, j, rfl, hS, k⟩ := h
    refine ⟨_, (pss_cons (ps_if (pt_cmpR op_lt (pv 1) (pe_callB call_len_seq (by rfl) T.m_len PySem.boot_len (pa_cons (pv 0) pa_nil)) (nomark _))
  (pss_one (ps_ret (pe_ix (ixL (K := K) rfl) (pv 0) (pv 1) (fun _ _ => rfl))))
  pss_nil)
  (pss_one (ps_ret pe_int))), ?_⟩
    refine q_when (b := decide ((j : Int) < ((ns.map V.int).length : Nat))) (by walk_at "et") (fun hb H1 e1 => ?_) (fun hb H1 e1 => ?_)
    · have hj : j < ns.length := by
        have q := of_decide_eq_true hb
        rw [List.length_map] at q
        omega
      have hS1 := ex_l e1 hS
      refine s_ret (v := .int (ns.getD j 0)) (ev_op (ev_var rfl) (ev_var rfl) (rv_ixL hS1 (atI_nat ?_))) fun H2 e2 => k H2 (e1.trans e2)
      rw [List.getElem?_map, List.getD_eq_getElem?_getD, List.getElem?_eq_getElem hj] <;> rfl
    · have hj : ns.length ≤ j := by
        have q := of_decide_eq_false hb
        rw [List.length_map] at q
        omega
      refine s_ret ev_c fun H2 e2 => ?_
      have e : ns.getD j 0 = 0 := by
        rw [List.getD_eq_getElem?_getD, List.getElem?_eq_none hj] <;> rfl
      rw [e] at k
      exact k H2 (e1.trans e2)
/-! ### _law_sign_by -/
def sp_sign_by (K : PySem.W.Frag) : Sp := fun vs H Q _ => ∃ (c : Int), vs = [.int c] ∧ RetV (.str ⟨#[sgn c]⟩) H Q
def alphA : Str := "!\"#$&'()*+,-./0123456789:;<=>?@ABCDEFGHIJKLMNOPQRSTUVWXYZ[\\]^_`"
def alphB : Str := "abcdefghijklmnopqrstuvwxyz{|}~"
theorem alph_tl : (alphA ++ alphB).cps.toList = sgnL := by decide +kernel
theorem alph_len : alphA.length + alphB.length ≤ 100000 := by decide +kernel
theorem alph_len2 : (alphA ++ alphB).length ≤ 100000 := by decide +kernel
theorem ok_l_sign_by (T : Txt K mg A) : FnOk P w K mg base CX0 1 A.f_l_sign_by A.d_l_sign_by ["_law_cell"] (sp_sign_by K) := by
  refine T.F_l_sign_by.ok sc_l_sign_by (fun vs H Q E h => ?_) (fun cdv Ar outer s H vs Q E hr h => ?_)
  · obtain ⟨c, rfl, _⟩ := h
    rfl
  · obtain ⟨c, rfl, k⟩ := h
    refine ⟨_, (pss_cons (ps_set (i := 1) sc_l_sign_by.nd rfl (.inl rfl) pe_str)
  (pss_cons (ps_set (i := 1) sc_l_sign_by.nd rfl (.inl rfl) (pe_op op_add_str (pv 1) pe_str))
  (pss_one (ps_ret (pe_ix ix_str (pv 1) (pe_op op_mod (pv 0) pe_int) (fun _ _ => rfl)))))), ?_⟩
    refine q_asg (v := .str alphA) ev_c fun H1 e1 => ?_
    refine q_asg (v := .str (alphA ++ alphB)) (ev_op (ev_var rfl) ev_c (rv_addS alph_len)) fun H2 e2 => ?_
    refine s_ret (v := .str ⟨#[sgn c]⟩) (ev_op (ev_var rfl) (ev_op (ev_var rfl) ev_c (rv_I (by decide))) (rv_ixS alph_len2 ?_)) fun H3 e3 => k H3 ((e1.trans e2).trans e3)
    rw [alph_tl]
    exact at_sgn c
/-! ### the defs that make the words -/
def sp_word_by (K : PySem.W.Frag) : Sp := fun vs H Q _ => ∃ c : Int, vs = [.int c] ∧ RetV (.str (wordOf c)) H Q
theorem ok_l_word_by (T : Txt K mg A) : FnOk P w K mg base CX0 2 A.f_l_word_by A.d_l_word_by ["_law_cell"] (sp_word_by K) := by
  refine T.F_l_word_by.ok sc_l_word_by (fun vs H Q E h => ?_) (fun cdv Ar outer s H vs Q E hr h => ?_)
  · obtain ⟨c, rfl, _⟩ := h
    rfl
  · obtain ⟨c, rfl, k⟩ := h
    refine ⟨_, (pss_cons (ps_set (i := 1) sc_l_word_by.nd rfl (.inl rfl) (pe_op op_add pe_int (pe_op op_mod (pv 0) pe_int)))
  (pss_cons (ps_if (pt_cmpR op_eq (pe_op op_mod (pe_op op_fdiv (pv 0) pe_int) pe_int) pe_int (nomark _))
  (pss_one (ps_set (i := 1) sc_l_word_by.nd rfl (.inl rfl) (pe_op op_add pe_int (pe_op op_mod (pe_op op_fdiv (pv 0) pe_int) pe_int))))
  pss_nil)
  (pss_cons (ps_if (pt_cmpR op_eq (pe_op op_mod (pe_op op_fdiv (pv 0) pe_int) pe_int) pe_int (nomark _))
  (pss_one (ps_set (i := 1) sc_l_word_by.nd rfl (.inl rfl) (pe_op op_add pe_int (pe_op op_mod (pe_op op_fdiv (pv 0) pe_int) pe_int))))
  pss_nil)
  (pss_one (ps_ret (TwT.pe_joinK (K := K) rfl pe_str (pe_lc (own := [("_law_k", 2)]) (tt := tYes) rfl sc_l_word_by.nd (pi_range1 (by rfl) T.m_range (pa_cons (pv 1) pa_nil)) (blkOk_by (N := N_l_word_by) (sc := defScope s_l_word_by) (by decide +kernel)) (fun _ _ _ _ _ => (pg_name (i := 2) sc_l_word_by.nd rfl (.inl rfl))) (fun _ _ _ _ _ => pts_nil) (fun _ _ _ _ _ => (pe_call (ok_l_sign_by T) (hr.mono (by decide)) rfl T.g_l_sign_by T.F_l_sign_by.kp T.b_l_sign_by .nil pass0 (pa_cons (pe_op op_add (pe_op op_fdiv (pv 0) pe_int) (pe_op op_mul (pv 2) (pe_op op_add pe_int (pe_op op_mod (pv 0) pe_int)))) pa_nil)))))))))), ?_⟩
    refine q_asg (v := .int (1 + c % 7)) (by walk_at "ev") fun H1 e1 => ?_
    refine q_ifAsg (i := 1) (b := decide (V.int (c / 7 % 9) = V.int 1)) (v := .int (if c / 7 % 9 = 1 then 1 + c / 63 % 40 else 1 + c % 7)) (by walk_at "et") (fun hb => ?_) (fun hb => ?_) fun H2 e2 => ?_
    · have h := of_decide_eq_true hb
      rw [if_pos (by injection h)]
      walk_at "ev"
    · have h := of_decide_eq_false hb
      rw [if_neg (fun q => h (by rw [q]))]
      rfl
    refine q_ifAsg (i := 1) (b := decide (V.int (c / 7 % 81) = V.int 2)) (v := .int (wsize c)) (by walk_at "et") (fun hb => ?_) (fun hb => ?_) fun H3 e3 => ?_
    · have h := of_decide_eq_true hb
      have h' : c / 7 % 81 = 2 := by injection h
      have ew : wsize c = 1 + c / 567 % 300 := if_pos h'
      rw [ew]
      walk_at "ev"
    · have h := of_decide_eq_false hb
      have h' : ¬ c / 7 % 81 = 2 := fun q => h (by rw [q])
      have ew : wsize c = if c / 7 % 9 = 1 then 1 + c / 63 % 40 else 1 + c % 7 := if_neg h'
      rw [ew]
      rfl
    have hn := wsize_in c
    have hys : ((List.range (wsize c).toNat).map fun i : Nat => V.str (one (sgn (c / 3 + (i : Int) * (1 + c % 5))))) = ((List.range (wsize c).toNat).map fun i : Nat => one (sgn (c / 3 + (i : Int) * (1 + c % 5)))).map V.str := by
      rw [List.map_map] <;> rfl
    refine s_ret (v := .str (wordOf c)) (ev_joinL ev_none (el_is (el_lcR (fun i : Nat => V.str (one (sgn (c / 3 + (i : Int) * (1 + c % 5))))) (ea_cons (ev_var rfl) ea_nil) (by omega) (fun _ => rfl) fun i H4 e4 hi => ?_) hys) ?_) fun H4 e4 => k H4 (((e1.trans e2).trans e3).trans e4)
    · exact ev_call (ea_cons (x := .int (c / 3 + (i : Int) * (1 + c % 5))) (by walk_at "ev") ea_nil) fun H5 e5 Q q E => ⟨_, rfl, q⟩
    · rw [sum_ones (wsize c).toNat fun i => sgn (c / 3 + (i : Int) * (1 + c % 5))]
      show _ + _ * 0 ≤ _
      omega

/-! ### words nearly alike -/
def sp_alike_by (K : PySem.W.Frag) : Sp := fun vs H Q _ => ∃ c s : Int, vs = [.int c, .int s] ∧ 1 ≤ s ∧ s ≤ 4 ∧ RetV (.str (alikeOf c s)) H Q
theorem ok_l_alike_by (T : Txt K mg A) : FnOk P w K mg base CX0 2 A.f_l_alike_by A.d_l_alike_by ["_law_cell", "_law_size"] (sp_alike_by K) := by
  refine T.F_l_alike_by.ok sc_l_alike_by (fun vs H Q E h => ?_) (fun cdv Ar outer s H vs Q E hr h => ?_)
  · obtain ⟨c, s, rfl, _⟩ := h
    rfl
  · obtain ⟨c, sz, rfl, h1, h2, k⟩ := h
    refine ⟨_, (pss_cons (ps_set (i := 2) sc_l_alike_by.nd rfl (.inl rfl) (pe_op op_mod (pe_op op_fdiv (pv 0) pe_int) (pv 1)))
  (pss_one (ps_ret (pe_op op_add_str (pe_op op_add_str (pe_op op_mulS pe_str (pv 2)) (pe_call (ok_l_sign_by T) (hr.mono (by decide)) rfl T.g_l_sign_by T.F_l_sign_by.kp T.b_l_sign_by .nil pass0 (pa_cons (pv 0) pa_nil))) (pe_op op_mulS pe_str (pe_op op_sub (pe_op op_sub (pv 1) pe_int) (pv 2))))))), ?_⟩
    have a0 : 0 ≤ c / 93 % sz := Int.emod_nonneg _ (by omega)
    have a1 : c / 93 % sz < sz := Int.emod_lt_of_pos _ (by omega)
    have l1 := len_mul1 (z := signA) rfl a0
    have l2 := len_mul1 (z := signA) rfl (show 0 ≤ sz - 1 - c / 93 % sz by omega)
    have ea : ∀ {σ : L2.St} {H : Hp}, Ev (tC (.str (Str.ofString "a"))) σ H (.str signA) := ev_is ev_c (congrArg V.str signA_eq)
    refine q_asg (v := .int (c / 93 % sz)) (ev_op (ev_op (ev_var rfl) ev_c (rv_I ⟨by decide, by decide⟩)) (ev_var rfl) (rv_I (by omega))) fun H1 e1 => ?_
    refine s_ret (v := .str (alikeOf c sz)) (ev_op (ev_op (ev_op ea (ev_var rfl) (rv_mulS (L := 1) (N := 4) (Nat.le_refl 1) (by omega) a0 (by decide) (by decide))) (ev_call (ea_cons (ev_var rfl) ea_nil) fun H5 e5 Q q E => ⟨_, rfl, q⟩) (rv_addS ?_)) (ev_op ea (by walk_at "ev") (rv_mulS (L := 1) (N := 4) (Nat.le_refl 1) (by omega) (by omega) (by decide) (by decide))) (rv_addS ?_)) fun H4 e4 => k H4 (e1.trans e4)
    · show _ + 1 ≤ _
      omega
    · rw [len_app]
      show _ + 1 + _ ≤ _
      omega

/-! ### _law_kind: the refusal by its number -/
def kinds (A : Ad) : List Addr := [A.c_NoWidth, A.c_LongWord, A.c_NoStarts, A.c_TooWide, A.c_TooFew, A.c_TooMany, A.c_NoPlace, A.c_NoWord, A.c_Full, A.c_NoWayBack]
theorem kind_sum (j : Nat) (hj : j < 10) : ((List.range 10).map fun k : Nat => (11 + (k : Int)) * (if decide (k = j) = true then 1 else 0)).sum = 11 + (j : Int) := by
  have h : j = 0 ∨ j = 1 ∨ j = 2 ∨ j = 3 ∨ j = 4 ∨ j = 5 ∨ j = 6 ∨ j = 7 ∨ j = 8 ∨ j = 9 := by omega
  rcases h with h | h | h | h | h | h | h | h | h | h <;> rw [h] <;> decide
theorem ok_l_kind (T : Txt K mg A) : FnP P w K mg base CX0 1 A.f_l_kind A.d_l_kind ["_law_e"] (sp_kind K (kinds A)) := by
  refine Fun.okP T.F_l_kind sc_l_kind (fun a c d vs H Q E h => ?_) (fun cdv Ar outer s H vs Q E p c d hz hot h => ?_)
  · obtain ⟨Dd, j, _, _, rfl, _⟩ := h
    rfl
  · obtain ⟨Dd, j, hc, hd, rfl, hec, hj, hk, k⟩ := h
    have hfp : ∃ vs, p.2.data = .fields vs := ⟨hot.2.choose, hot.2.choose_spec.1⟩
    have hcx : HotC (cxH CX0 P w K mg base N_l_kind "_law_kind" (defScope s_l_kind) A.f_l_kind cdv Ar outer s H E p) := ⟨p, hot, List.mem_singleton.mpr rfl⟩
    have hcx := hcx
    refine ⟨_, (pss_cons (ps_set (i := 1) sc_l_kind.nd rfl (.inr rfl) (pe_lst (pa_cons (pe_callB (call_isP (K := K) rfl (List.mem_singleton.mpr rfl) hz hfp) (by rfl) T.m_isinstance (by decide +kernel) (pa_cons (pv 0) (pa_cons (pe_glob (v := .ref A.c_NoWidth) rfl T.gc_NoWidth rfl) pa_nil))) (pa_cons (pe_callB (call_isP (K := K) rfl (List.mem_singleton.mpr rfl) hz hfp) (by rfl) T.m_isinstance (by decide +kernel) (pa_cons (pv 0) (pa_cons (pe_glob (v := .ref A.c_LongWord) rfl T.gc_LongWord rfl) pa_nil))) (pa_cons (pe_callB (call_isP (K := K) rfl (List.mem_singleton.mpr rfl) hz hfp) (by rfl) T.m_isinstance (by decide +kernel) (pa_cons (pv 0) (pa_cons (pe_glob (v := .ref A.c_NoStarts) rfl T.gc_NoStarts rfl) pa_nil))) (pa_cons (pe_callB (call_isP (K := K) rfl (List.mem_singleton.mpr rfl) hz hfp) (by rfl) T.m_isinstance (by decide +kernel) (pa_cons (pv 0) (pa_cons (pe_glob (v := .ref A.c_TooWide) rfl T.gc_TooWide rfl) pa_nil))) pa_nil))))))
  (pss_cons (ps_set (i := 1) sc_l_kind.nd rfl (.inr rfl) (pe_op op_cat (pv 1) (pe_lst (pa_cons (pe_callB (call_isP (K := K) rfl (List.mem_singleton.mpr rfl) hz hfp) (by rfl) T.m_isinstance (by decide +kernel) (pa_cons (pv 0) (pa_cons (pe_glob (v := .ref A.c_TooFew) rfl T.gc_TooFew rfl) pa_nil))) (pa_cons (pe_callB (call_isP (K := K) rfl (List.mem_singleton.mpr rfl) hz hfp) (by rfl) T.m_isinstance (by decide +kernel) (pa_cons (pv 0) (pa_cons (pe_glob (v := .ref A.c_TooMany) rfl T.gc_TooMany rfl) pa_nil))) (pa_cons (pe_callB (call_isP (K := K) rfl (List.mem_singleton.mpr rfl) hz hfp) (by rfl) T.m_isinstance (by decide +kernel) (pa_cons (pv 0) (pa_cons (pe_glob (v := .ref A.c_NoPlace) rfl T.gc_NoPlace rfl) pa_nil))) (pa_cons (pe_callB (call_isP (K := K) rfl (List.mem_singleton.mpr rfl) hz hfp) (by rfl) T.m_isinstance (by decide +kernel) (pa_cons (pv 0) (pa_cons (pe_glob (v := .ref A.c_NoWord) rfl T.gc_NoWord rfl) pa_nil))) pa_nil)))))))
  (pss_cons (ps_set (i := 1) sc_l_kind.nd rfl (.inr rfl) (pe_op op_cat (pv 1) (pe_lst (pa_cons (pe_callB (call_isP (K := K) rfl (List.mem_singleton.mpr rfl) hz hfp) (by rfl) T.m_isinstance (by decide +kernel) (pa_cons (pv 0) (pa_cons (pe_glob (v := .ref A.c_Full) rfl T.gc_Full rfl) pa_nil))) (pa_cons (pe_callB (call_isP (K := K) rfl (List.mem_singleton.mpr rfl) hz hfp) (by rfl) T.m_isinstance (by decide +kernel) (pa_cons (pv 0) (pa_cons (pe_glob (v := .ref A.c_NoWayBack) rfl T.gc_NoWayBack rfl) pa_nil))) pa_nil)))))
  (pss_one (ps_ret (pe_callB (cr_sumH hcx) (by rfl) T.m_sum (by decide +kernel) (pa_cons (pe_lcH (own := [("_law_k", 2)]) (tt := tYes) hcx sc_l_kind.nd (pi_range1H (by rfl) T.m_range (pa_cons pe_int pa_nil)) (blkOk_by (N := N_l_kind) (sc := defScope s_l_kind) (by decide +kernel)) (fun _ _ _ _ _ => (pg_name (i := 2) sc_l_kind.nd rfl (.inl rfl))) (fun _ _ _ _ _ => pts_nil) (fun _ _ _ _ _ => (pe_op op_mul (pe_op op_add pe_int (pv 2)) (pe_callTy call_int1 (by rfl) T.m_int (by decide +kernel) (pa_cons (pe_ix (ixL (K := K) rfl) (pv 1) (pv 2) (fun _ _ => rfl)) pa_nil))))) pa_nil))))))), ?_⟩
    have one_ : ∀ (i : Nat) (C : Addr) {σ : L2.St} {H' : Hp}, (kinds A)[i]? = some C → σ[0]? = some (some (.ref p.1)) → Ev (tCB (rIsP K c d p.1) (tCons (tVar 0) (tCons (tC (.ref C)) tNil))) σ H' (.bl (decide (i = j))) := fun i C σ H' hi h0 =>
      ev_cb (ea_cons (ev_var h0) (ea_cons ev_c ea_nil)) (rc_isP hc hd hec (hk i C hi))
    refine q_asgL (xs := [.bl (decide (0 = j)), .bl (decide (1 = j)), .bl (decide (2 = j)), .bl (decide (3 = j))]) (el_lst (ea_cons (one_ 0 _ rfl rfl) (ea_cons (one_ 1 _ rfl rfl) (ea_cons (one_ 2 _ rfl rfl) (ea_cons (one_ 3 _ rfl rfl) ea_nil)))) (show 4 ≤ 100000 by decide)) fun l1 H1 p1 e1 h1 => ?_
    refine q_asgL (el_cat (ev_var rfl) h1 (el_lst (ea_cons (one_ 4 _ rfl rfl) (ea_cons (one_ 5 _ rfl rfl) (ea_cons (one_ 6 _ rfl rfl) (ea_cons (one_ 7 _ rfl rfl) ea_nil)))) (show 4 ≤ 100000 by decide)) (show 4 + 4 ≤ 100000 by decide)) fun l2 H2 p2 e2 h2 => ?_
    refine q_asgL (el_cat (ev_var rfl) h2 (el_lst (ea_cons (one_ 8 _ rfl rfl) (ea_cons (one_ 9 _ rfl rfl) ea_nil)) (show 2 ≤ 100000 by decide)) (show 8 + 2 ≤ 100000 by decide)) fun l3 H3 p3 e3 h3 => ?_
    have hfl : ∀ i : Nat, i < 10 → ([V.bl (decide (0 = j)), .bl (decide (1 = j)), .bl (decide (2 = j)), .bl (decide (3 = j))] ++ [V.bl (decide (4 = j)), .bl (decide (5 = j)), .bl (decide (6 = j)), .bl (decide (7 = j))] ++ [V.bl (decide (8 = j)), .bl (decide (9 = j))])[i]? = some (.bl (decide (i = j))) := fun i hi => by
      have h : i = 0 ∨ i = 1 ∨ i = 2 ∨ i = 3 ∨ i = 4 ∨ i = 5 ∨ i = 6 ∨ i = 7 ∨ i = 8 ∨ i = 9 := by omega
      rcases h with h | h | h | h | h | h | h | h | h | h <;> rw [h] <;> rfl
    have ks := kind_sum j hj
    refine s_ret (v := .int (11 + (j : Int))) (ev_is (ev_sumN (ns := (List.range 10).map fun k : Nat => (11 + (k : Int)) * (if decide (k = j) = true then 1 else 0)) (el_is (el_lcR (n := 10) (fun k : Nat => V.int ((11 + (k : Int)) * (if decide (k = j) = true then 1 else 0))) (ea_cons ev_c ea_nil) (by decide) (fun _ => rfl) fun i H4 e4 hi => ?_) (by rw [List.map_map] <;> rfl))) (by rw [ks])) fun H4 e4 => k H4 (((e1.trans e2).trans e3).trans e4)
    refine ev_op (ev_op ev_c (ev_var rfl) rv_I0) (ev_cb (ea_cons (ev_op (ev_var rfl) (ev_var rfl) (rv_ixL (sq_of (e4 _ _ h3)) (atI_nat (hfl i (by omega))))) ea_nil) rc_intB) (rv_I (.inl ⟨by omega, by omega⟩))

/-! ### _law_texts, of equal lists -/
def sp_texts (K : PySem.W.Frag) : Sp := fun vs H Q _ => ∃ (p q : Addr) (l : List Str), vs = [.ref p, .ref q] ∧ SqL K H p (l.map V.str) ∧ SqL K H q (l.map V.str) ∧ l.length ≤ 60000 ∧ RetV (.bl true) H Q
theorem ok_l_texts (T : Txt K mg A) : FnOk P w K mg base CX0 1 A.f_l_texts A.d_l_texts ["_law_found", "_law_due_here"] (sp_texts K) := by
  refine T.F_l_texts.ok sc_l_texts (fun vs H Q E h => ?_) (fun cdv Ar outer s H vs Q E hr h => ?_)
  · obtain ⟨p, q, l, rfl, _⟩ := h
    rfl
  · obtain ⟨p, q, l, rfl, hp, hq, hlen, k⟩ := h
    refine ⟨_, (pss_cons (ps_if (PW.pt (pw_or (pt_not (pt_val (pe_callB call_isi (by rfl) T.m_isinstance (by decide +kernel) (pa_cons (pv 0) (pa_cons (pe_bltn (v := .ty "list") (by rfl) T.m_list (by decide +kernel) rfl) pa_nil))))) (pw_or1 (pt_cmpR op_ne (pe_callB call_len_seq (by rfl) T.m_len PySem.boot_len (pa_cons (pv 0) pa_nil)) (pe_callB call_len_seq (by rfl) T.m_len PySem.boot_len (pa_cons (pv 1) pa_nil)) (nomark _)))))
  (pss_one (ps_ret pe_bl))
  pss_nil)
  (pss_cons (ps_for PassesOwn.never rfl (pi_range1 (by rfl) T.m_range (pa_cons (pe_callB call_len_seq (by rfl) T.m_len PySem.boot_len (pa_cons (pv 1) pa_nil)) pa_nil)) (pg_name (i := 2) sc_l_texts.nd rfl (.inl rfl))
  (pss_one (ps_if (PW.pt (pw_or (pt_not (pt_val (pe_callB call_isi (by rfl) T.m_isinstance (by decide +kernel) (pa_cons (pe_ix (ixL (K := K) rfl) (pv 0) (pv 2) (fun _ _ => rfl)) (pa_cons (pe_bltn (v := .ty "str") (by rfl) T.m_str (by decide +kernel) rfl) pa_nil))))) (pw_or1 (pt_cmpR op_ne (pe_ix (ixL (K := K) rfl) (pv 0) (pv 2) (fun _ _ => rfl)) (pe_ix (ixL (K := K) rfl) (pv 1) (pv 2) (fun _ _ => rfl)) (nomark _)))))
  (pss_one (ps_ret pe_bl))
  pss_nil)))
  (pss_one (ps_ret pe_bl)))), ?_⟩
    refine q_when (b := false) (et_is (et_or (et_not (et_B (ev_cb (ea_cons (ev_var rfl) (ea_cons ev_c ea_nil)) (rc_isList hp)))) fun _ => et_test (ev_op (ev_cb (ea_cons (ev_var rfl) ea_nil) (rc_lenL hp)) (ev_cb (ea_cons (ev_var rfl) ea_nil) (rc_lenL hq)) (rv_ne rfl))) (by simp)) (fun hb => nomatch hb) (fun _ H1 e1 => ?_)
    have hl : (l.map V.str).length = l.length := List.length_map ..
    refine q_forR1 (n := (l.map V.str).length) (ea_cons (ev_cb (ea_cons (ev_var rfl) ea_nil) (rc_lenL (ex_l e1 hq))) ea_nil) (by omega) (fun i σ' H' => ∃ x, σ' = [some (.ref p), some (.ref q), x] ∧ Ex H H')
      (fun H2 e2 => ⟨none, rfl, e1.trans e2⟩) ?_ ?_
    · rintro i σ' H' hi ⟨x, rfl, e⟩
      have hi' : i < l.length := by omega
      have g : (l.map V.str)[i]? = some (.str l[i]) := by
        rw [List.getElem?_map, List.getElem?_eq_getElem hi'] <;> rfl
      have e1 : Ev (tOp (rIxL K) (tVar 0) (tVar 2)) [some (.ref p), some (.ref q), some (.int (i : Int))] H' (.str l[i]) := ev_op (ev_var rfl) (ev_var rfl) (rv_ixL (ex_l e hp) (atI_nat g))
      have e2 : Ev (tOp (rIxL K) (tVar 1) (tVar 2)) [some (.ref p), some (.ref q), some (.int (i : Int))] H' (.str l[i]) := ev_op (ev_var rfl) (ev_var rfl) (rv_ixL (ex_l e hq) (atI_nat g))
      refine s_when (b := false) (et_is (et_or (et_not (et_B (ev_cb (ea_cons e1 (ea_cons ev_c ea_nil)) rc_isStr))) fun _ => et_test (ev_op e1 e2 (rv_ne rfl))) (by simp)) (fun hb => nomatch hb) (fun _ H2 e2 => ?_)
      exact ⟨_, rfl, e.trans e2⟩
    · rintro σ' H' ⟨x, rfl, e⟩
      exact s_ret (v := .bl true) ev_c fun H2 e2 => k H2 (e.trans e2)
def sp_whole (K : PySem.W.Frag) : Sp := fun vs H Q _ => ∃ i : Int, vs = [.int i] ∧ RetV (.bl true) H Q
theorem ok_l_whole (T : Txt K mg A) : FnOk P w K mg base CX0 1 A.f_l_whole A.d_l_whole ["_law_found"] (sp_whole K) := by
  refine T.F_l_whole.ok sc_l_whole (fun vs H Q E h => ?_) (fun cdv Ar outer s H vs Q E hr h => ?_)
  · obtain ⟨i, rfl, _⟩ := h
    rfl
  · obtain ⟨i, rfl, k⟩ := h
    refine ⟨_, (pss_one (ps_ret (pe_and (pe_callB call_isi (by rfl) T.m_isinstance (by decide +kernel) (pa_cons (pv 0) (pa_cons (pe_bltn (v := .ty "int") (by rfl) T.m_int (by decide +kernel) rfl) pa_nil))) (pe_one (pe_not (pe_callB call_isi (by rfl) T.m_isinstance (by decide +kernel) (pa_cons (pv 0) (pa_cons (pe_bltn (v := .ty "bool") (by rfl) T.m_bool (by decide +kernel) rfl) pa_nil)))))))), ?_⟩
    exact s_ret (v := .bl true) (ev_is (ev_andV (ev_cb (ea_cons (ev_var rfl) (ea_cons ev_c ea_nil)) rc_isInt) fun _ => ev_notV (ev_cb (ea_cons (ev_var rfl) (ea_cons ev_c ea_nil)) rc_isIntB)) rfl) fun H1 e1 => k H1 e1

/-! ### whole numbers -/
def sp_wholes (K : PySem.W.Frag) : Sp := fun vs H Q _ => ∃ (p : Addr) (zs : List Int), vs = [.ref p] ∧ SqL K H p (zs.map V.int) ∧ RetV (.bl true) H Q
theorem ok_l_wholes (T : Txt K mg A) : FnOk P w K mg base CX0 2 A.f_l_wholes A.d_l_wholes ["_law_found"] (sp_wholes K) := by
  refine T.F_l_wholes.ok sc_l_wholes (fun vs H Q E h => ?_) (fun cdv Ar outer s H vs Q E hr h => ?_)
  · obtain ⟨p, zs, rfl, _⟩ := h
    rfl
  · obtain ⟨p, zs, rfl, hS, k⟩ := h
    refine ⟨_, (pss_cons (ps_if (pt_not (pt_val (pe_callB call_isi (by rfl) T.m_isinstance (by decide +kernel) (pa_cons (pv 0) (pa_cons (pe_bltn (v := .ty "list") (by rfl) T.m_list (by decide +kernel) rfl) pa_nil)))))
  (pss_one (ps_ret pe_bl))
  pss_nil)
  (pss_cons (ps_for PassesOwn.never rfl (pi_list (pv 0)) (pg_name (i := 1) sc_l_wholes.nd rfl (.inl rfl))
  (pss_one (ps_if (pt_not (pt_val (pe_call (ok_l_whole T) (hr.mono (by decide)) rfl T.g_l_whole T.F_l_whole.kp T.b_l_whole .nil pass0 (pa_cons (pv 1) pa_nil))))
  (pss_one (ps_ret pe_bl))
  pss_nil)))
  (pss_one (ps_ret pe_bl)))), ?_⟩
    refine q_when (b := false) (et_is (a := !true) (et_not (et_B (ev_cb (ea_cons (ev_var rfl) (ea_cons ev_c ea_nil)) (rc_isList hS)))) rfl) (fun hb => nomatch hb) (fun _ H1 e1 => ?_)
    refine q_forLn (ev_var rfl) (ex_l e1 hS) (fun i σ' H' => ∃ x, σ' = [some (.ref p), x] ∧ Ex H H') (fun H2 e2 => ⟨none, rfl, e1.trans e2⟩) (fun i σ' H' _ ⟨_, _, e⟩ => ex_l e hS) ?_ ?_
    · rintro i x σ' H' hi ⟨x', rfl, e⟩
      obtain ⟨c, rfl⟩ : ∃ c : Int, x = V.int c := by
        rw [List.getElem?_map] at hi
        obtain ⟨c, _, hc⟩ := Option.map_eq_some_iff.mp hi
        exact ⟨c, hc.symm⟩
      refine s_when (b := false) (et_is (a := !true) (et_not (et_B (ev_call (ea_cons (ev_var rfl) ea_nil) fun H3 e3 Q' q E' => ⟨_, rfl, q⟩))) rfl) (fun hb => nomatch hb) (fun _ H2 e2 => ⟨_, rfl, e.trans e2⟩)
    · rintro σ' H' ⟨x, rfl, e⟩
      exact s_ret (v := .bl true) ev_c fun H2 e2 => k H2 (e.trans e2)

def longest (ws : List Str) : Int := ws.foldl (fun (m : Int) z => max m (z.length : Int)) 0
def sp_longest (K : PySem.W.Frag) : Sp := fun vs H Q _ => ∃ (p : Addr) (ws : List Str), vs = [.ref p] ∧ SqL K H p (ws.map V.str) ∧ (∀ z ∈ ws, z.length ≤ 300) ∧ RetV (.int (longest ws)) H Q
theorem ok_l_longest (T : Txt K mg A) : FnOk P w K mg base CX0 1 A.f_l_longest A.d_l_longest ["_law_row"] (sp_longest K) := by
  refine T.F_l_longest.ok sc_l_longest (fun vs H Q E h => ?_) (fun cdv Ar outer s H vs Q E hr h => ?_)
  · obtain ⟨p, ws, rfl, _⟩ := h
    rfl
  · obtain ⟨p, ws, rfl, hS, hz, k⟩ := h
    refine ⟨_, (pss_cons (ps_set (i := 1) sc_l_longest.nd rfl (.inl rfl) pe_int)
  (pss_cons (ps_for PassesOwn.never rfl (pi_list (pv 0)) (pg_name (i := 2) sc_l_longest.nd rfl (.inl rfl))
  (pss_one (ps_set (i := 1) sc_l_longest.nd rfl (.inl rfl) (pe_callB (call_max2 rfl) (by rfl) T.m_max (by decide +kernel) (pa_cons (pv 1) (pa_cons (pe_callB call_len_str (by rfl) T.m_len PySem.boot_len (pa_cons (pv 2) pa_nil)) pa_nil))))))
  (pss_one (ps_ret (pv 1))))), ?_⟩
    refine q_asg (v := .int 0) ev_c fun H1 e1 => ?_
    refine q_forLn (ev_var rfl) (ex_l e1 hS) (fun i σ' H' => ∃ x, σ' = [some (.ref p), some (.int ((ws.take i).foldl (fun (m : Int) z => max m (z.length : Int)) 0)), x] ∧ Ex H H')
      (fun H2 e2 => ⟨none, rfl, e1.trans e2⟩) (fun i σ' H' _ ⟨_, _, e⟩ => ex_l e hS) ?_ ?_
    · rintro i x σ' H' hi ⟨x', rfl, e⟩
      obtain ⟨y, hy, rfl⟩ : ∃ y, ws[i]? = some y ∧ V.str y = x := by
        rw [List.getElem?_map] at hi
        exact Option.map_eq_some_iff.mp hi
      have hyl := hz y (List.mem_of_getElem? hy)
      have hn : (ws.take (i + 1)).foldl (fun (m : Int) z => max m (z.length : Int)) 0 = max ((ws.take i).foldl (fun (m : Int) z => max m (z.length : Int)) 0) (y.length : Int) := by
        rw [List.take_add_one, hy, List.foldl_append] <;> rfl
      refine s_asg (v := .int (max ((ws.take i).foldl (fun (m : Int) z => max m (z.length : Int)) 0) (y.length : Int))) (ev_maxx (ev_var rfl) (ev_cb (ea_cons (ev_var rfl) ea_nil) (rc_lenS (by omega)))) fun H2 e2 => ?_
      exact ⟨_, by rw [hn] <;> rfl, e.trans e2⟩
    · rintro σ' H' ⟨x, rfl, e⟩
      rw [List.length_map, List.take_length]
      exact s_ret (ev_var rfl) fun H2 e2 => k H2 (e.trans e2)

theorem longest_in (ws : List Str) (h : ∀ z ∈ ws, z.length ≤ 300) : 0 ≤ longest ws ∧ longest ws ≤ 300 := by
  have go : ∀ (l : List Str) (m : Int), (∀ z ∈ l, z.length ≤ 300) → 0 ≤ m → m ≤ 300 → 0 ≤ l.foldl (fun (m : Int) z => max m (z.length : Int)) m ∧ l.foldl (fun (m : Int) z => max m (z.length : Int)) m ≤ 300 := by
    intro l
    induction l with
    | nil => exact fun m _ h h2 => ⟨h, h2⟩
    | cons a r ih => exact fun m hz h h2 => ih (max m (a.length : Int)) (fun z hz' => hz z (List.mem_cons_of_mem _ hz')) (by omega) (by have := hz a (List.mem_cons_self ..); omega)
  exact go ws 0 h (by decide) (by decide)
theorem longest_ge (ws : List Str) : ∀ z ∈ ws, (z.length : Int) ≤ longest ws := by
  have go : ∀ (l : List Str) (m : Int), m ≤ l.foldl (fun (m : Int) z => max m (z.length : Int)) m ∧ ∀ z ∈ l, (z.length : Int) ≤ l.foldl (fun (m : Int) z => max m (z.length : Int)) m := by
    intro l
    induction l with
    | nil => exact fun m => ⟨Int.le_refl _, fun z h => absurd h (List.not_mem_nil)⟩
    | cons a r ih =>
      intro m
      obtain ⟨h1, h2⟩ := ih (max m (a.length : Int))
      rw [List.foldl_cons]
      refine ⟨by omega, fun z hz => ?_⟩
      rcases List.mem_cons.mp hz with q | q
      · rw [q]; omega
      · exact h2 z q
  exact (go ws 0).2
theorem longest_of (ws : List Str) {w : Int} (hw : 0 ≤ w) (h : w < longest ws) : ∃ z ∈ ws, w < (z.length : Int) := by
  have go : ∀ (l : List Str) (m : Int), m ≤ w → w < l.foldl (fun (m : Int) z => max m (z.length : Int)) m → ∃ z ∈ l, w < (z.length : Int) := by
    intro l
    induction l with
    | nil => exact fun m h1 h2 => absurd h2 (by show ¬ w < m; omega)
    | cons a r ih =>
      intro m h1 h2
      rw [List.foldl_cons] at h2
      by_cases q : w < (a.length : Int)
      · exact ⟨a, List.mem_cons_self .., q⟩
      · obtain ⟨z, hz, q2⟩ := ih (max m (a.length : Int)) (by omega) h2
        exact ⟨z, List.mem_cons_of_mem _ hz, q2⟩
  exact go ws 0 hw h

/-! ### textwrapper.measure: widths -/
def sp_check_width (A : Ad) : Sp := fun vs H Q E => ∃ w : Int, vs = [.int w] ∧ (w < 1 → ∀ H', Ex H H' → E (.ref A.c_NoWidth) none H') ∧ (1 ≤ w → RetV .non H Q)
theorem ok_check_width (T : Txt K mg A) : FnOk P w K mg base (L2N.CX P w) 1 A.f_check_width A.d_check_width ["width"] (sp_check_width A) := by
  refine Fun.okN T.F_check_width sc_check_width (fun vs H Q E h => ?_) (fun cdv Ar outer s H vs Q E hr h => ?_)
  · obtain ⟨i, rfl, _⟩ := h
    rfl
  · obtain ⟨i, rfl, h1, h2⟩ := h
    refine ⟨_, (pss_one (ps_if (pt_cmpR op_lt (pv 0) pe_int (nomark _))
  (pss_one (L2N.ps_raise rfl (L2N.takes_of rfl rfl rfl rfl) (L2N.pmk_own PySem.F.excBase_ValueError T.ex_NoWidth.x T.gc_NoWidth T.ex_NoWidth.k (raises_own T.ex_NoWidth.e.hs T.ex_NoWidth.t) rfl)))
  pss_nil)), ?_⟩
    refine s_when (b := decide (i < 1)) (by walk_at "et") (fun hb H1 e1 => ?_) (fun hb H1 e1 => ?_)
    · exact h1 (of_decide_eq_true hb) H1 e1
    · have := of_decide_eq_false hb
      exact h2 (by omega) H1 e1
def firstLong (ws : List Str) (w : Int) : Option Nat := ws.findIdx? fun z => decide (w < (z.length : Int))
def optV : Option Nat → V
  | none => .non
  | some k => .int (k : Int)
theorem fl_some {ws : List Str} {w : Int} {i : Nat} {y : Str} (h : ∀ z ∈ ws.take i, ¬ w < (z.length : Int)) (hy : ws[i]? = some y) (hl : w < (y.length : Int)) : firstLong ws w = some i := by
  unfold firstLong
  rw [List.findIdx?_eq_some_iff_getElem]
  obtain ⟨hi, e⟩ := List.getElem?_eq_some_iff.mp hy
  refine ⟨hi, by rw [e]; exact decide_eq_true hl, fun j hj => ?_⟩
  have hm : ws[j] ∈ ws.take i := by
    rw [List.mem_take_iff_getElem]
    exact ⟨j, by omega, rfl⟩
  simp only [decide_eq_true_eq]
  exact h _ hm
theorem fl_none {ws : List Str} {w : Int} (h : ∀ z ∈ ws, ¬ w < (z.length : Int)) : firstLong ws w = none := by
  unfold firstLong
  rw [List.findIdx?_eq_none_iff]
  exact fun z hz => decide_eq_false (h z hz)
def sp_long_word (K : PySem.W.Frag) (A : Ad) : Sp := fun vs H Q E => ∃ (p : Addr) (ws : List Str) (w : Int), vs = [.ref p, .int w] ∧ SqL K H p (ws.map V.str) ∧ (∀ z ∈ ws, z.length ≤ 300) ∧ (w < 1 → ∀ H', Ex H H' → E (.ref A.c_NoWidth) none H') ∧ (1 ≤ w → RetV (optV (firstLong ws w)) H Q)
theorem ok_long_word (T : Txt K mg A) : FnOk P w K mg base (L2N.CX P w) 2 A.f_long_word A.d_long_word ["words", "width"] (sp_long_word K A) := by
  refine Fun.okN T.F_long_word sc_long_word (fun vs H Q E h => ?_) (fun cdv Ar outer s H vs Q E hr h => ?_)
  · obtain ⟨p, ws, i, rfl, _⟩ := h
    rfl
  · obtain ⟨p, ws, wd, rfl, hS, hz, h1, h2⟩ := h
    refine ⟨_, (pss_cons (ps_expr (pe_call (ok_check_width T) (hr.mono (by decide)) rfl T.g_check_width T.F_check_width.kp T.b_check_width .nil (L2N.passes_call (L2N.takes_of rfl rfl rfl rfl) (fun _ _ _ _ h => h)) (pa_cons (pv 1) pa_nil)))
  (pss_cons (ps_for PassesOwn.leaving rfl (pi_enum (by rfl) T.m_enumerate (pa_cons (pv 0) pa_nil)) (pg_tup rfl (pgs_cons (pg_name (i := 2) sc_long_word.nd rfl (.inl rfl)) (pgs_cons (pg_name (i := 3) sc_long_word.nd rfl (.inl rfl)) pgs_nil)))
  (pss_one (ps_if (pt_cmpR op_gt (pe_callB call_len_str (by rfl) T.m_len PySem.boot_len (pa_cons (pv 3) pa_nil)) (pv 1) (nomark _))
  (pss_one (ps_ret (pv 2)))
  pss_nil)))
  (pss_one (ps_ret pe_non)))), ?_⟩
    refine q_dropA (ea_cons (ev_var rfl) ea_nil) fun H1 e1 => ⟨wd, rfl, fun hw H' e' => h1 hw H' (e1.trans e'), fun hw H2 e2 => ?_⟩
    have k := h2 hw
    refine q_forE (ea_cons (ev_var rfl) ea_nil) (ex_l (e1.trans e2) hS) (fun i σ' H' => ∃ x1 x2, σ' = [some (.ref p), some (.int wd), x1, x2] ∧ Ex H H' ∧ ∀ z ∈ ws.take i, ¬ wd < (z.length : Int))
      (fun H3 e3 => ⟨none, none, rfl, (e1.trans e2).trans e3, fun z hz' => absurd hz' (List.not_mem_nil)⟩) (fun i σ' H' _ ⟨_, _, _, e, _⟩ => ex_l e hS) ?_ ?_
    · rintro i x σ' H' H3 hi ⟨x1, x2, rfl, e, hn⟩ e3
      obtain ⟨y, hy, rfl⟩ : ∃ y, ws[i]? = some y ∧ V.str y = x := by
        rw [List.getElem?_map] at hi
        exact Option.map_eq_some_iff.mp hi
      have hyl := hz y (List.mem_of_getElem? hy)
      refine s_when (b := decide (wd < (y.length : Int))) (et_test (ev_op (ev_cb (ea_cons (ev_var rfl) ea_nil) (rc_lenS (by omega))) (ev_var rfl) rv_I0)) (fun hb H4 e4 => ?_) (fun hb H4 e4 => ?_)
      · rw [fl_some hn hy (of_decide_eq_true hb)] at k
        exact s_ret (ev_var rfl) fun H5 e5 => k H5 (((e.trans e3).trans e4).trans e5)
      · refine ⟨_, _, rfl, (e.trans e3).trans e4, fun z hz' => ?_⟩
        rw [List.take_add_one, hy] at hz'
        rcases List.mem_append.mp hz' with q | q
        · exact hn z q
        · rw [List.mem_singleton.mp q]
          exact of_decide_eq_false hb
    · rintro σ' H' ⟨x1, x2, rfl, e, hn⟩
      rw [List.length_map, List.take_length] at hn
      rw [fl_none hn] at k
      exact s_ret (v := .non) ev_c fun H5 e5 => k H5 (e.trans e5)

/-! ### check_words, quick_starts -/
def sp_check_words (K : PySem.W.Frag) (A : Ad) : Sp := fun vs H Q E => ∃ (p : Addr) (ws : List Str) (w : Int), vs = [.ref p, .int w] ∧ SqL K H p (ws.map V.str) ∧ (∀ z ∈ ws, z.length ≤ 300) ∧ (w < 1 → ∀ H', Ex H H' → E (.ref A.c_NoWidth) none H') ∧
  (1 ≤ w → (∃ z ∈ ws, w < (z.length : Int)) → ∀ H', Ex H H' → E (.ref A.c_LongWord) none H') ∧ (1 ≤ w → (∀ z ∈ ws, (z.length : Int) ≤ w) → RetV .non H Q)
theorem fl_has {ws : List Str} {w : Int} {i : Nat} (h : firstLong ws w = some i) : ∃ z ∈ ws, w < (z.length : Int) := by
  unfold firstLong at h
  rw [List.findIdx?_eq_some_iff_getElem] at h
  obtain ⟨hi, e, _⟩ := h
  exact ⟨ws[i], List.getElem_mem hi, of_decide_eq_true e⟩
theorem fl_hasnt {ws : List Str} {w : Int} (h : firstLong ws w = none) : ∀ z ∈ ws, (z.length : Int) ≤ w := fun z hz => by
  unfold firstLong at h
  rw [List.findIdx?_eq_none_iff] at h
  have q := of_decide_eq_false (h z hz)
  omega
theorem ok_check_words (T : Txt K mg A) : FnOk P w K mg base (L2N.CX P w) 3 A.f_check_words A.d_check_words ["words", "width"] (sp_check_words K A) := by
  refine Fun.okN T.F_check_words sc_check_words (fun vs H Q E h => ?_) (fun cdv Ar outer s H vs Q E hr h => ?_)
  · obtain ⟨p, ws, i, rfl, _⟩ := h
    rfl
  · obtain ⟨p, ws, wd, rfl, hS, hz, h1, h2, h3⟩ := h
    refine ⟨_, (pss_one (ps_if (pt_cmpR op_notN1 (pe_call (ok_long_word T) (hr.mono (by decide)) rfl T.g_long_word T.F_long_word.kp T.b_long_word .nil (L2N.passes_call (L2N.takes_of rfl rfl rfl rfl) (fun _ _ _ _ h => h)) (pa_cons (pv 0) (pa_cons (pv 1) pa_nil))) pe_non (nomark _))
  (pss_one (L2N.ps_raise rfl (L2N.takes_of rfl rfl rfl rfl) (L2N.pmk_own PySem.F.excBase_ValueError T.ex_LongWord.x T.gc_LongWord T.ex_LongWord.k (raises_own T.ex_LongWord.e.hs T.ex_LongWord.t) rfl)))
  pss_nil)), ?_⟩
    refine s_ifNotN (ea_cons (ev_var rfl) (ea_cons (ev_var rfl) ea_nil)) fun H1 e1 => ⟨p, ws, wd, rfl, ex_l e1 hS, hz, fun hw H' e' => h1 hw H' (e1.trans e'), fun hw H2 e2 => ?_⟩
    cases hf : firstLong ws wd with
    | none => exact ⟨rfl, false, rfl, h3 hw (fl_hasnt hf) H2 (e1.trans e2)⟩
    | some i => exact ⟨rfl, true, rfl, h2 hw (fl_has hf) H2 (e1.trans e2)⟩

/-! ### textwrapper.measure, textwrapper.least: the table -/
theorem s_retP {ta : TA} {sp : Sp} {dvs : List V} {E : XK} {P : List V → Hp → Prop} {σ : L2.St} {H : Hp} {D : Ends} (h : ArgP ta σ H P) (k : ∀ vs H1, Ex H H1 → P vs H1 → sp (vs ++ dvs) H1 (fun v H2 => D.rt v H2) E) : tRet (tCall sp dvs E ta) D σ H := h H (Ex.refl H) _ k
theorem el_repZ {ta tb : TE} {σ : L2.St} {H : Hp} {n : Nat} (h : EvL ta σ H [.int 0]) (hb : Ev tb σ H (.int ((n : Int) + 1))) (hn : n ≤ 2000) : EvL (tOp rRep ta tb) σ H ((tabZ (fun _ => 0) n n).map V.int) := fun H1 e Q q =>
  h H1 e _ fun p H2 _ e2 hp => hb H2 (e.trans e2) _ fun H3 e3 => ⟨p, _, _, rfl, rfl, e3 _ _ hp, by omega, by omega, sz_of (by show 1 * _ ≤ _; omega), fun r hr => by
    rw [tabZ_start n]
    exact q r _ (fresh_back (e2.trans e3) hr) ((e2.trans e3).trans (Ex.new hr)) upd_same⟩
def sp_sizes_from (K : PySem.W.Frag) : Sp := fun vs H Q _ => ∃ (p : Addr) (ws : List Str) (w : Int) (b : Nat), vs = [.ref p, .int w, .int b] ∧ SqL K H p (ws.map V.str) ∧ (∀ z ∈ ws, z.length ≤ 300) ∧ ws.length ≤ 2000 ∧ b ≤ ws.length ∧ ∀ m, IsCnt ws w b m → RetL ((sizesL ws b m).map V.int) H Q
theorem sizesL_succ (ws : List Str) (b i : Nat) : (sizesL ws b i).map V.int ++ [V.int (sizeN ws b (b + 1 + i) : Int)] = (sizesL ws b (i + 1)).map V.int := by
  unfold sizesL
  rw [List.range_succ, List.map_append, List.map_append] <;> rfl
theorem sizesL_len (ws : List Str) (b i : Nat) : (sizesL ws b i).length = i := by
  unfold sizesL
  rw [List.length_map, List.length_range]
def szA (ws : List Str) (b i : Nat) : Int := if i = 0 then -1 else (sizeN ws b (b + i) : Int)
theorem szA_succ {ws : List Str} {b i : Nat} {z : Str} (h : ws[b + i]? = some z) : szA ws b i + 1 + (z.length : Int) = (sizeN ws b (b + 1 + i) : Int) := by
  unfold szA
  by_cases q : i = 0
  · subst q
    rw [if_pos rfl, show b + 1 + 0 = b + 0 + 1 by omega]
    have h' := size_one h
    rw [show b + 0 = b by omega] at *
    omega
  · rw [if_neg q, show b + 1 + i = b + i + 1 by omega, size_succ (show b < b + i by omega) h]
    omega
theorem ok_sizes_from (T : Txt K mg A) : FnOk P w K mg base CX0 1 A.f_sizes_from A.d_sizes_from ["words", "width", "begin"] (sp_sizes_from K) := by
  refine T.F_sizes_from.ok sc_sizes_from (fun vs H Q E h => ?_) (fun cdv Ar outer s H vs Q E hr h => ?_)
  · obtain ⟨p, ws, wd, b, rfl, _⟩ := h
    rfl
  · obtain ⟨p, ws, wd, b, rfl, hS, hz, hl, hb, k⟩ := h
    refine ⟨_, (pss_cons (ps_set (i := 3) sc_sizes_from.nd rfl (.inl rfl) (pe_lst pa_nil))
  (pss_cons (ps_set (i := 4) sc_sizes_from.nd rfl (.inl rfl) (pe_un un_neg pe_int))
  (pss_cons (ps_for PassesOwn.never rfl (pi_range2 (by rfl) T.m_range (pa_cons (pv 2) (pa_cons (pe_callB call_len_seq (by rfl) T.m_len PySem.boot_len (pa_cons (pv 0) pa_nil)) pa_nil))) (pg_name (i := 5) sc_sizes_from.nd rfl (.inl rfl))
  (pss_cons (ps_set (i := 4) sc_sizes_from.nd rfl (.inl rfl) (pe_op op_add (pe_op op_add (pv 4) pe_int) (pe_callB call_len_str (by rfl) T.m_len PySem.boot_len (pa_cons (pe_ix (ixL (K := K) rfl) (pv 0) (pv 5) (fun _ _ => rfl)) pa_nil))))
  (pss_cons (ps_if (pt_cmpR op_gt (pv 4) (pv 1) (nomark _))
  (pss_one (ps_ret (pv 3)))
  pss_nil)
  (pss_one (ps_expr (pe_bm PySem.F.plainAttrs_list PySem.F.slot_list_append PySem.F.type_list_append mt_append (pv 3) (pa_cons (pv 4) pa_nil)))))))
  (pss_one (ps_ret (pv 3)))))), ?_⟩
    have nl : (ws.map V.str).length = ws.length := List.length_map ..
    refine q_asgL (xs := []) (el_lst ea_nil (Nat.zero_le _)) fun l H1 l0 e1 hl1 => ?_
    refine q_asg (v := .int (-1)) (ev_un ev_c ru_neg) fun H2 e2 => ?_
    have e12 := e1.trans e2
    refine q_forR2 (lo := b) (n := (ws.map V.str).length) (ea_cons (ev_var rfl) (ea_cons (ev_cb (ea_cons (ev_var rfl) ea_nil) (rc_lenL (ex_l e12 hS))) ea_nil)) ⟨by omega, by omega, by omega, by omega⟩
      (fun i σ' H' => ∃ x, σ' = [some (.ref p), some (.int wd), some (.int b), some (.ref l), some (.int (szA ws b i)), x] ∧ Ex H H' ∧ H' l = some (.lst ((sizesL ws b i).map V.int)) ∧ ∀ j, j < i → (sizeN ws b (b + 1 + j) : Int) ≤ wd)
      (fun H3 e3 => ⟨none, rfl, e12.trans e3, e3 _ _ (e2 _ _ hl1), fun j hj => absurd hj (Nat.not_lt_zero _)⟩) ?_ ?_
    · rintro i σ' H' hi ⟨x, rfl, e, hlS, hf⟩
      have hbi : b + i < ws.length := by omega
      have hy : ws[b + i]? = some ws[b + i] := List.getElem?_eq_getElem hbi
      have hyl := hz ws[b + i] (List.getElem_mem hbi)
      have g : (ws.map V.str)[b + i]? = some (.str ws[b + i]) := by
        rw [List.getElem?_map, hy] <;> rfl
      refine q_asg (v := .int (sizeN ws b (b + 1 + i) : Int)) (ev_is (ev_op (ev_op (ev_var rfl) ev_c rv_I0) (ev_cb (ea_cons (ev_op (ev_var rfl) (ev_var rfl) (rv_ixL (ex_l e hS) (by rw [show (b : Int) + (i : Int) = ((b + i : Nat) : Int) by omega]; exact atI_nat g))) ea_nil) (rc_lenS (by omega))) rv_I0) (by rw [szA_succ hy])) fun H3 e3 => ?_
      refine q_when (b := decide (wd < (sizeN ws b (b + 1 + i) : Int))) (et_test (ev_op (ev_var rfl) (ev_var rfl) rv_I0)) (fun hb2 H4 e4 => ?_) (fun hb2 H4 e4 => ?_)
      · have e34 := (e.trans e3).trans e4
        exact s_ret (v := .ref l) (ev_var rfl) fun H5 e5 => k i ⟨by omega, hf, fun _ => by have := of_decide_eq_true hb2; rw [show b + i + 1 = b + 1 + i by omega]; exact this⟩ l H5 l0 (e34.trans e5) (e5 _ _ (e4 _ _ (e3 _ _ hlS)))
      · have hle : (sizeN ws b (b + 1 + i) : Int) ≤ wd := by
          have := of_decide_eq_false hb2
          omega
        refine s_app (e4 _ _ (e3 _ _ hlS)) (ev_var rfl) (ev_var rfl) (by rw [List.length_map, sizesL_len]; omega) fun H5 e5 => ?_
        refine ⟨some (.int ((b : Int) + (i : Int))), ?_, Ex.mut (((e.trans e3).trans e4).trans e5) l0, ?_, fun j hj => ?_⟩
        · rw [show szA ws b (i + 1) = (sizeN ws b (b + 1 + i) : Int) by unfold szA; rw [if_neg (by omega), show b + (i + 1) = b + 1 + i by omega]] <;> rfl
        · rw [sizesL_succ]
          exact upd_same
        · rcases Nat.lt_or_ge j i with q | q
          · exact hf j q
          · rw [show j = i by omega]
            exact hle
    · rintro σ' H' ⟨x, rfl, e, hlS, hf⟩
      rw [show (((ws.map V.str).length : Int) - (b : Int)).toNat = ws.length - b by omega] at hlS hf
      exact s_ret (v := .ref l) (ev_var rfl) fun H5 e5 => k (ws.length - b) ⟨by omega, hf, fun q => by omega⟩ l H5 l0 (e.trans e5) (e5 _ _ hlS)
def sp_squares (K : PySem.W.Frag) : Sp := fun vs H Q _ => ∃ (q : Addr) (zs : List Int) (w : Int), vs = [.int w, .ref q] ∧ SqL K H q (zs.map V.int) ∧ (∀ z ∈ zs, z.natAbs ≤ 1000000) ∧ zs.length ≤ 2000 ∧ WidB w ∧ RetL ((zs.map fun z => (w - z) ^ (2 : Int).toNat).map V.int) H Q
theorem ok_squares_of (T : Txt K mg A) : FnOk P w K mg base CX0 1 A.f_squares_of A.d_squares_of ["width", "sizes"] (sp_squares K) := by
  refine T.F_squares_of.ok sc_squares_of (fun vs H Q E h => ?_) (fun cdv Ar outer s H vs Q E hr h => ?_)
  · obtain ⟨q, zs, wd, rfl, _⟩ := h
    rfl
  · obtain ⟨q, zs, wd, rfl, hS, hz, hl, hw, k⟩ := h
    refine ⟨_, (pss_one (ps_ret (pe_lc (own := [("size", 2)]) (tt := tYes) rfl sc_squares_of.nd (pi_list (pv 1)) (blkOk_by (N := N_squares_of) (sc := defScope s_squares_of) (by decide +kernel)) (fun _ _ _ _ _ => (pg_name (i := 2) sc_squares_of.nd rfl (.inl rfl))) (fun _ _ _ _ _ => pts_nil) (fun _ _ _ _ _ => (pe_op TwE.op_powE (pe_op op_sub (pv 0) (pv 2)) pe_int))))), ?_⟩
    have nz : (zs.map V.int).length = zs.length := List.length_map ..
    have el : (List.range (zs.map V.int).length).map (fun i => V.int ((wd - zs.getD i 0) ^ (2 : Int).toNat)) = (zs.map fun z => (wd - z) ^ (2 : Int).toNat).map V.int := by
      rw [nz, List.map_map]
      refine List.ext_getElem? fun j => ?_
      rw [List.getElem?_map, List.getElem?_map]
      by_cases hj : j < zs.length
      · rw [List.getElem?_range hj, List.getElem?_eq_getElem hj]
        show some (V.int ((wd - zs.getD j 0) ^ (2 : Int).toNat)) = _
        rw [List.getD_eq_getElem?_getD, List.getElem?_eq_getElem hj] <;> rfl
      · rw [List.getElem?_eq_none (by rw [List.length_range]; omega), List.getElem?_eq_none (by omega)] <;> rfl
    refine s_retL (xs := (zs.map fun z => (wd - z) ^ (2 : Int).toNat).map V.int) (el_is (el_lcX (fun i => V.int ((wd - zs.getD i 0) ^ (2 : Int).toNat)) (ev_var rfl) hS (by omega) (fun _ => rfl) fun i x H1 e1 hi => ?_) el) fun l H1 l0 e1 h1 => k l H1 l0 e1 h1
    rw [List.getElem?_map] at hi
    obtain ⟨z, hzi, rfl⟩ := Option.map_eq_some_iff.mp hi
    have ez : zs.getD i 0 = z := by
      rw [List.getD_eq_getElem?_getD, hzi] <;> rfl
    rw [ez]
    have hzb := hz z (List.mem_of_getElem? hzi)
    have hb2 : (wd - z).natAbs < 2 ^ 121 := by
      unfold WidB at hw
      omega
    have hbits := PyProof.Rows.intBits_le hb2
    exact ev_op (ev_op (ev_var rfl) (ev_var rfl) rv_I0) ev_c (rv_I ⟨by decide, by omega⟩)
def optI : Option Int → V
  | none => .non
  | some x => .int x
def pairV : Option (Int × Nat) → List V
  | none => [.non, .non]
  | some (l, e) => [.int l, .int (e : Int)]
def lstV : Option (Int × Nat) → V
  | none => .non
  | some (l, _) => .int l
def endV : Option (Int × Nat) → V
  | none => .non
  | some (_, e) => .int (e : Int)
def sp_best_line (K : PySem.W.Frag) : Sp := fun vs H Q _ => ∃ (c r : Addr) (cs : List Int) (rs : List (Option Int)) (b : Nat), vs = [.ref c, .int b, .ref r] ∧ SqL K H c (cs.map V.int) ∧ SqL K H r (rs.map optI) ∧ cs.length ≤ 2000 ∧ b + cs.length < rs.length ∧ rs.length ≤ 3000 ∧
  TwE.RetU (pairV (bestN (fun i => cs.getD i 0) (fun e => rs.getD e none) b cs.length)) H Q
theorem ok_best_line (T : Txt K mg A) : FnOk P w K mg base CX0 1 A.f_best_line A.d_best_line ["counts", "begin", "rest"] (sp_best_line K) := by
  refine T.F_best_line.ok sc_best_line (fun vs H Q E h => ?_) (fun cdv Ar outer s H vs Q E hr h => ?_)
  · obtain ⟨c, r, cs, rs, b, rfl, _⟩ := h
    rfl
  · obtain ⟨c, r, cs, rs, b, rfl, hc, hR, hcl, hbr, hrl, k⟩ := h
    refine ⟨_, (pss_cons (ps_set (i := 3) sc_best_line.nd rfl (.inl rfl) pe_non)
  (pss_cons (ps_set (i := 4) sc_best_line.nd rfl (.inl rfl) pe_non)
  (pss_cons (ps_for PassesOwn.never rfl (TwE.pi_enumC (by rfl) T.m_enumerate (pa_cons (pv 0) pa_nil) (pk_cons (pe_op op_add (pv 1) pe_int) pk_nil)) (pg_tup rfl (pgs_cons (pg_name (i := 5) sc_best_line.nd rfl (.inl rfl)) (pgs_cons (pg_name (i := 6) sc_best_line.nd rfl (.inl rfl)) pgs_nil)))
  (pss_cons (ps_if (pt_cmpR op_isN1 (pe_ix (ixL (K := K) rfl) (pv 2) (pv 5) (fun _ _ => rfl)) pe_non (nomark _))
  (pss_one ps_continue)
  pss_nil)
  (pss_cons (ps_set (i := 7) sc_best_line.nd rfl (.inl rfl) (pe_op op_add (pv 6) (pe_ix (ixL (K := K) rfl) (pv 2) (pv 5) (fun _ _ => rfl))))
  (pss_one (ps_if (PW.pt (pw_or (pt_cmpR op_isN1 (pv 3) pe_non (nomark _)) (pw_or1 (pt_cmpR op_le (pv 7) (pv 3) (nomark _)))))
  (pss_cons (ps_set (i := 3) sc_best_line.nd rfl (.inl rfl) (pv 7))
  (pss_one (ps_set (i := 4) sc_best_line.nd rfl (.inl rfl) (pv 5))))
  pss_nil)))))
  (pss_one (ps_ret (pe_tup (pa_cons (pv 3) (pa_cons (pv 4) pa_nil)))))))), ?_⟩
    have nc : (cs.map V.int).length = cs.length := List.length_map ..
    refine q_asg (v := .non) ev_c fun H1 e1 => ?_
    refine q_asg (v := .non) ev_c fun H2 e2 => ?_
    have e12 := e1.trans e2
    refine TwE.q_forC (c := (b : Int) + 1) (ea_cons (ev_var rfl) ea_nil) (ea_cons (ev_op (ev_var rfl) ev_c rv_I0) ea_nil) (by omega) (by omega) (ex_l e12 hc)
      (fun i σ' H' => ∃ x5 x6 x7, σ' = [some (.ref c), some (.int b), some (.ref r), some (lstV (bestN (fun i => cs.getD i 0) (fun e => rs.getD e none) b i)), some (endV (bestN (fun i => cs.getD i 0) (fun e => rs.getD e none) b i)), x5, x6, x7] ∧ Ex H H')
      (fun H3 e3 => ⟨none, none, none, rfl, e12.trans e3⟩) (fun i σ' H' _ ⟨_, _, _, _, e⟩ => ex_l e hc) ?_ ?_
    · rintro i x σ' H' H3 hi ⟨x5, x6, x7, rfl, e⟩ e3
      have hil : i < cs.length := by
        have := (List.getElem?_eq_some_iff.mp hi).1
        omega
      have hx : x = .int (cs.getD i 0) := by
        rw [List.getElem?_map, List.getElem?_eq_getElem hil] at hi
        rw [List.getD_eq_getElem?_getD, List.getElem?_eq_getElem hil]
        exact (Option.some.inj hi).symm
      subst hx
      have hri : b + 1 + i < rs.length := by omega
      have g : (rs.map optI)[b + 1 + i]? = some (optI (rs.getD (b + 1 + i) none)) := by
        rw [List.getElem?_map, List.getElem?_eq_getElem hri, List.getD_eq_getElem?_getD, List.getElem?_eq_getElem hri] <;> rfl
      have ei : (b : Int) + 1 + (i : Int) = ((b + 1 + i : Nat) : Int) := by omega
      have rd : ∀ {σ : L2.St} {H' : Hp}, Ex H H' → σ[2]? = some (some (.ref r)) → σ[5]? = some (some (.int ((b : Int) + 1 + (i : Int)))) → Ev (tOp (rIxL K) (tVar 2) (tVar 5)) σ H' (optI (rs.getD (b + 1 + i) none)) := fun e h2 h5 => ev_op (ev_var h2) (ev_var h5) (rv_ixL (ex_l e hR) (by rw [ei]; exact atI_nat g))
      have e03 := e.trans e3
      have hs : bestN (fun i => cs.getD i 0) (fun e => rs.getD e none) b (i + 1) = match rs.getD (b + 1 + i) none with
        | none => bestN (fun i => cs.getD i 0) (fun e => rs.getD e none) b i
        | some t => match bestN (fun i => cs.getD i 0) (fun e => rs.getD e none) b i with
          | none => some (cs.getD i 0 + t, b + 1 + i)
          | some (l, e) => if cs.getD i 0 + t ≤ l then some (cs.getD i 0 + t, b + 1 + i) else some (l, e) := rfl
      rw [hs]
      revert rd
      generalize bestN (fun i => cs.getD i 0) (fun e => rs.getD e none) b i = st
      cases rs.getD (b + 1 + i) none with
      | none =>
        intro rd
        exact q_when (b := true) (et_is (et_test (ev_op (rd e03 rfl rfl) ev_c rv_isN)) rfl) (fun _ H4 e4 => ⟨_, _, _, rfl, e03.trans e4⟩) (fun hb => nomatch hb)
      | some t =>
        intro rd
        refine q_when (b := false) (et_is (et_test (ev_op (rd e03 rfl rfl) ev_c rv_isN)) rfl) (fun hb => nomatch hb) (fun _ H4 e4 => ?_)
        refine q_asg (v := .int (cs.getD i 0 + t)) (ev_op (ev_var rfl) (rd (e03.trans e4) rfl rfl) rv_I0) fun H5 e5 => ?_
        have e05 := (e03.trans e4).trans e5
        cases st with
        | none =>
          refine s_when (b := true) (et_is (et_or (a := true) (b := true) (et_is (et_test (ev_op (ev_var rfl) ev_c rv_isN)) rfl) fun q => nomatch q) rfl) (fun _ H6 e6 => ?_) (fun hb => nomatch hb)
          refine q_asg (ev_var rfl) fun H7 e7 => ?_
          refine s_asg (ev_var rfl) fun H8 e8 => ⟨some (.int ((b : Int) + 1 + (i : Int))), some (.int (cs.getD i 0)), some (.int (cs.getD i 0 + t)), ?_, ((e05.trans e6).trans e7).trans e8⟩
          show _ = [_, _, _, some (V.int (cs.getD i 0 + t)), some (V.int ((b + 1 + i : Nat) : Int)), _, _, _]
          rw [← ei]
          rfl
        | some pr =>
          obtain ⟨l, en⟩ := pr
          refine s_when (b := decide (cs.getD i 0 + t ≤ l)) (et_is (et_or (a := false) (et_is (et_test (ev_op (ev_var rfl) ev_c rv_isN)) rfl) fun _ => et_test (ev_op (ev_var rfl) (ev_var rfl) rv_I0)) (Bool.false_or _)) (fun hb H6 e6 => ?_) (fun hb H6 e6 => ?_)
          · have hle := of_decide_eq_true hb
            refine q_asg (ev_var rfl) fun H7 e7 => ?_
            refine s_asg (ev_var rfl) fun H8 e8 => ⟨some (.int ((b : Int) + 1 + (i : Int))), some (.int (cs.getD i 0)), some (.int (cs.getD i 0 + t)), ?_, ((e05.trans e6).trans e7).trans e8⟩
            show _ = [_, _, _, some (lstV (if cs.getD i 0 + t ≤ l then some (cs.getD i 0 + t, b + 1 + i) else some (l, en))), some (endV (if cs.getD i 0 + t ≤ l then some (cs.getD i 0 + t, b + 1 + i) else some (l, en))), _, _, _]
            rw [if_pos hle]
            show _ = [_, _, _, some (V.int (cs.getD i 0 + t)), some (V.int ((b + 1 + i : Nat) : Int)), _, _, _]
            rw [← ei]
            rfl
          · have hle := of_decide_eq_false hb
            refine ⟨some (.int ((b : Int) + 1 + (i : Int))), some (.int (cs.getD i 0)), some (.int (cs.getD i 0 + t)), ?_, e05.trans e6⟩
            show _ = [_, _, _, some (lstV (if cs.getD i 0 + t ≤ l then some (cs.getD i 0 + t, b + 1 + i) else some (l, en))), some (endV (if cs.getD i 0 + t ≤ l then some (cs.getD i 0 + t, b + 1 + i) else some (l, en))), _, _, _]
            rw [if_neg hle]
            rfl
    · rintro σ' H' ⟨x5, x6, x7, rfl, e⟩
      rw [nc]
      generalize hst : bestN (fun i => cs.getD i 0) (fun e => rs.getD e none) b cs.length = st at k
      refine s_retU (xs := pairV st) ?_ fun p H5 p0 e5 h5 => k p H5 (fresh_back e p0) (e.trans e5) h5
      have hp : pairV st = [lstV st, endV st] := by
        cases st with
        | none => rfl
        | some pr => rfl
      rw [hp]
      exact eu_tup (ea_cons (ev_var rfl) (ea_cons (ev_var rfl) ea_nil)) (show 2 ≤ 100000 by decide)

def sp_first_line (K : PySem.W.Frag) : Sp := fun vs H Q _ => ∃ (p q : Addr) (ws : List Str) (T : List Int) (w : Int) (b : Nat) (t : Nat → Int), vs = [.ref p, .int w, .int b, .ref q] ∧ SqL K H p (ws.map V.str) ∧ SqL K H q (T.map V.int) ∧ (∀ z ∈ ws, z.length ≤ 300) ∧ ws.length ≤ 2000 ∧ WidB w ∧ b < ws.length ∧ T.length = ws.length + 1 ∧
  (∀ e, b < e → e ≤ ws.length → T[e]? = some (t e) ∧ 0 ≤ t e) ∧ t ws.length = 0 ∧ (sizeN ws b (b + 1) : Int) ≤ w ∧ ∀ l e, IsFirst ws w t b l e → TwE.RetU [.int l, .int (e : Int)] H Q
theorem bestN_congr {c c' : Nat → Int} {r r' : Nat → Option Int} {b : Nat} : ∀ {i : Nat}, (∀ j, j < i → c j = c' j ∧ r (b + 1 + j) = r' (b + 1 + j)) → bestN c r b i = bestN c' r' b i
  | 0, _ => rfl
  | i + 1, h => by
    have ih := bestN_congr (i := i) fun j hj => h j (by omega)
    obtain ⟨h1, h2⟩ := h i (Nat.lt_succ_self i)
    unfold bestN
    rw [ih, h1, h2]
theorem squaresL (ws : List Str) (w : Int) (b m : Nat) : (sizesL ws b m).map (fun z => (w - z) ^ (2 : Int).toNat) = countsL ws w b m := by
  unfold sizesL countsL
  rw [List.map_map] <;> rfl
theorem countsL_at {ws : List Str} {w : Int} {b m j : Nat} (h : j < m) : (countsL ws w b m).getD j 0 = (w - (sizeN ws b (b + 1 + j) : Int)) ^ (2 : Int).toNat := by
  unfold countsL
  rw [List.getD_eq_getElem?_getD, List.getElem?_map, List.getElem?_range h] <;> rfl
theorem countsL_len (ws : List Str) (w : Int) (b m : Nat) : (countsL ws w b m).length = m := by
  unfold countsL
  rw [List.length_map, List.length_range]
theorem sizesL_in {ws : List Str} (hz : ∀ z ∈ ws, z.length ≤ 300) (hl : ws.length ≤ 2000) (b m : Nat) : ∀ z ∈ sizesL ws b m, z.natAbs ≤ 1000000 := fun z h => by
  obtain ⟨i, _, rfl⟩ := List.mem_map.mp h
  have := sizeN_le hz hl b (b + 1 + i)
  omega
theorem ok_first_line (T : Txt K mg A) : FnOk P w K mg base CX0 2 A.f_first_line A.d_first_line ["words", "width", "begin", "table"] (sp_first_line K) := by
  refine T.F_first_line.ok sc_first_line (fun vs H Q E h => ?_) (fun cdv Ar outer s H vs Q E hr h => ?_)
  · obtain ⟨p, q, ws, tt, wd, b, t, rfl, _⟩ := h
    rfl
  · obtain ⟨p, q, ws, tt, wd, b, t, rfl, hS, hT, hz, hl, hw, hb, hTl, hTt, ht0, hone, k⟩ := h
    refine ⟨_, (pss_cons (ps_set (i := 4) sc_first_line.nd rfl (.inl rfl) (pe_call (ok_sizes_from T) (hr.mono (by decide)) rfl T.g_sizes_from T.F_sizes_from.kp T.b_sizes_from .nil pass0 (pa_cons (pv 0) (pa_cons (pv 1) (pa_cons (pv 2) pa_nil)))))
  (pss_cons (ps_if (pt_cmpR op_eq (pe_op op_add (pv 2) (pe_callB call_len_seq (by rfl) T.m_len PySem.boot_len (pa_cons (pv 4) pa_nil))) (pe_callB call_len_seq (by rfl) T.m_len PySem.boot_len (pa_cons (pv 0) pa_nil)) (nomark _))
  (pss_one (ps_ret (pe_tup (pa_cons pe_int (pa_cons (pe_callB call_len_seq (by rfl) T.m_len PySem.boot_len (pa_cons (pv 0) pa_nil)) pa_nil)))))
  pss_nil)
  (pss_one (ps_ret (pe_call (ok_best_line T) (hr.mono (by decide)) rfl T.g_best_line T.F_best_line.kp T.b_best_line .nil pass0 (pa_cons (pe_call (ok_squares_of T) (hr.mono (by decide)) rfl T.g_squares_of T.F_squares_of.kp T.b_squares_of .nil pass0 (pa_cons (pv 1) (pa_cons (pv 4) pa_nil))) (pa_cons (pv 2) (pa_cons (pv 3) pa_nil)))))))), ?_⟩
    have nl : (ws.map V.str).length = ws.length := List.length_map ..
    refine q_asgA (ea_cons (ev_var rfl) (ea_cons (ev_var rfl) (ea_cons (ev_var rfl) ea_nil))) fun H1 e1 => ⟨p, ws, wd, b, rfl, ex_l e1 hS, hz, hl, by omega, fun m hm l H2 l0 e2 hl2 => ?_⟩
    have e12 := e1.trans e2
    have ml : ((sizesL ws b m).map V.int).length = m := by rw [List.length_map, sizesL_len]
    refine q_when (b := decide (V.int ((b : Int) + (m : Int)) = V.int (ws.length : Int))) (et_test (ev_op (ev_is (ev_op (ev_var rfl) (ev_cb (ea_cons (ev_var rfl) ea_nil) (rc_lenL (sq_of hl2))) rv_I0) (by rw [ml])) (ev_is (ev_cb (ea_cons (ev_var rfl) ea_nil) (rc_lenL (ex_l e12 hS))) (by rw [nl])) (rv_eq rfl))) (fun hb2 H3 e3 => ?_) (fun hb2 H3 e3 => ?_)
    · have hmn : b + m = ws.length := by
        have h := of_decide_eq_true hb2
        injection h with h
        omega
      have hf := first_all hm hb hmn ht0 fun e h1 h2 => (hTt e h1 h2).2
      exact s_retU (eu_tup (ea_cons ev_c (ea_cons (ev_is (ev_cb (ea_cons (ev_var rfl) ea_nil) (rc_lenL (ex_l (e12.trans e3) hS))) (by rw [nl])) ea_nil)) (show 2 ≤ 100000 by decide)) fun p2 H4 p0 e4 h4 => k 0 ws.length hf p2 H4 (fresh_back (e12.trans e3) p0) ((e12.trans e3).trans e4) h4
    · have hmn : b + m ≠ ws.length := fun q => of_decide_eq_false hb2 (by congr 1; omega)
      have hml := hm.le
      obtain ⟨ll, e, hbest, hf⟩ := first_best hm hb hmn hone fun e h1 h2 => (hTt e h1 h2).2
      refine s_retP (ap_consL (xs := (countsL ws wd b m).map V.int) (el_call (ea_cons (ev_var rfl) (ea_cons (ev_var rfl) ea_nil)) fun H4 e4 Q' qq E' => ⟨l, sizesL ws b m, wd, rfl, sq_of (e4 _ _ (e3 _ _ hl2)), sizesL_in hz hl b m, by rw [sizesL_len]; omega, hw, by rw [squaresL]; exact qq⟩) (ap_cons (ev_var rfl) (ap_cons (ev_var rfl) ap_nil)) fun _ _ _ => trivial) ?_
      rintro vs H4 e4 ⟨c, r, rfl, hc, r2, rfl, r3, rfl, rfl⟩
      have hrs : (tt.map some).map optI = tt.map V.int := by
        rw [List.map_map] <;> rfl
      refine ⟨c, q, countsL ws wd b m, tt.map some, b, rfl, sq_of hc, by rw [hrs]; exact ex_l ((e12.trans e3).trans e4) hT, by rw [countsL_len]; omega, by rw [countsL_len, List.length_map]; omega, by rw [List.length_map]; omega, ?_⟩
      have hbn : bestN (fun i => (countsL ws wd b m).getD i 0) (fun e => (tt.map some).getD e none) b (countsL ws wd b m).length = some (ll, e) := by
        rw [countsL_len, ← hbest]
        refine bestN_congr fun j hj => ⟨countsL_at hj, ?_⟩
        show (tt.map some).getD (b + 1 + j) none = some (t (b + 1 + j))
        rw [List.getD_eq_getElem?_getD, List.getElem?_map, (hTt (b + 1 + j) (by omega) (by omega)).1] <;> rfl
      rw [hbn]
      exact fun p2 H5 p0 e5 h5 => k ll e hf p2 H5 (fresh_back ((e12.trans e3).trans e4) p0) (((e12.trans e3).trans e4).trans e5) h5
def sp_table_of (K : PySem.W.Frag) (A : Ad) : Sp := fun vs H Q E => ∃ (p : Addr) (ws : List Str) (w : Int), vs = [.ref p, .int w] ∧ SqL K H p (ws.map V.str) ∧ (∀ z ∈ ws, z.length ≤ 300) ∧ ws.length ≤ 2000 ∧ WidB w ∧ (w < 1 → ∀ H', Ex H H' → E (.ref A.c_NoWidth) none H') ∧
  (1 ≤ w → (∃ z ∈ ws, w < (z.length : Int)) → ∀ H', Ex H H' → E (.ref A.c_LongWord) none H') ∧ (1 ≤ w → (∀ z ∈ ws, (z.length : Int) ≤ w) → ∀ t, IsTab ws w t → RetL ((tabL t ws.length).map V.int) H Q)
theorem one_fits {ws : List Str} {w : Int} (h : ∀ z ∈ ws, (z.length : Int) ≤ w) {b : Nat} (hb : b < ws.length) : (sizeN ws b (b + 1) : Int) ≤ w := by
  rw [size_one (List.getElem?_eq_getElem hb)]
  exact h _ (List.getElem_mem hb)
theorem ok_table_of (T : Txt K mg A) : FnOk P w K mg base (L2N.CX P w) 4 A.f_table_of A.d_table_of ["words", "width"] (sp_table_of K A) := by
  refine Fun.okN T.F_table_of sc_table_of (fun vs H Q E h => ?_) (fun cdv Ar outer s H vs Q E hr h => ?_)
  · obtain ⟨p, ws, i, rfl, _⟩ := h
    rfl
  · obtain ⟨p, ws, wd, rfl, hS, hz, hl, hwB, h1, h2, h3⟩ := h
    refine ⟨_, (pss_cons (ps_expr (pe_call (ok_check_words T) (hr.mono (by decide)) rfl T.g_check_words T.F_check_words.kp T.b_check_words .nil (L2N.passes_call (L2N.takes_of rfl rfl rfl rfl) (fun _ _ _ _ h => h)) (pa_cons (pv 0) (pa_cons (pv 1) pa_nil))))
  (pss_cons (ps_set (i := 2) sc_table_of.nd rfl (.inl rfl) (pe_op op_rep (pe_lst (pa_cons pe_int pa_nil)) (pe_op op_add (pe_callB call_len_seq (by rfl) T.m_len PySem.boot_len (pa_cons (pv 0) pa_nil)) pe_int)))
  (pss_cons (ps_for PassesOwn.leaving rfl (pi_revR (by rfl) T.m_reversed (prg_1 (by rfl) T.m_range (pe_callB call_len_seq (by rfl) T.m_len PySem.boot_len (pa_cons (pv 0) pa_nil)))) (pg_name (i := 3) sc_table_of.nd rfl (.inl rfl))
  (pss_cons (ps_asg (pe_call (ok_first_line T) (hr.mono (by decide)) rfl T.g_first_line T.F_first_line.kp T.b_first_line .nil pass0 (pa_cons (pv 0) (pa_cons (pv 1) (pa_cons (pv 3) (pa_cons (pv 2) pa_nil))))) (pg_tup rfl (pgs_cons (pg_name (i := 4) sc_table_of.nd rfl (.inl rfl)) (pgs_cons (pg_name (i := 5) sc_table_of.nd rfl (.inl rfl)) pgs_nil))))
  (pss_one (ps_asg (pv 4) (pg_sub (pv 2) (pv 3) set_list)))))
  (pss_one (ps_ret (pv 2)))))), ?_⟩
    have nl : (ws.map V.str).length = ws.length := List.length_map ..
    refine q_dropA (ea_cons (ev_var rfl) (ea_cons (ev_var rfl) ea_nil)) fun H1 e1 => ⟨p, ws, wd, rfl, ex_l e1 hS, hz, fun hw H' e' => h1 hw H' (e1.trans e'), fun hw hx H' e' => h2 hw hx H' (e1.trans e'), fun hw hx H2 e2 => ?_⟩
    have k := h3 hw hx
    have e12 := e1.trans e2
    refine q_asgL (xs := (tabZ (fun _ => 0) ws.length ws.length).map V.int) (el_repZ (el_lst (ea_cons ev_c ea_nil) (show 1 ≤ 100000 by decide)) (ev_is (ev_op (ev_cb (ea_cons (ev_var rfl) ea_nil) (rc_lenL (ex_l e12 hS))) ev_c rv_I0) (by rw [nl])) hl) fun l H3 l0 e3 hl3 => ?_
    have e13 := e12.trans e3
    have l00 := fresh_back e12 l0
    refine TwE.q_forRv (n := (ws.length : Int)) (ev_is (ev_cb (ea_cons (ev_var rfl) ea_nil) (rc_lenL (ex_l e13 hS))) (by rw [nl])) (by omega) (by omega)
      (fun i σ' H' => ∃ t x3 x4 x5, σ' = [some (.ref p), some (.int wd), some (.ref l), x3, x4, x5] ∧ Ex H H' ∧ H' l = some (.lst ((tabZ t ws.length (ws.length - i)).map V.int)) ∧ TabFrom ws wd t (ws.length - i)) (fun H4 e4 => ⟨fun _ => 0, none, none, none, rfl, e13.trans e4, e4 _ _ hl3, TabFrom.zero⟩) ?_ ?_
    · rintro i σ' H' hi ⟨t, x3, x4, x5, rfl, e, hlT, hT⟩
      obtain ⟨b, hb⟩ : ∃ b, ws.length - i = b + 1 := ⟨ws.length - i - 1, by omega⟩
      have eb : (ws.length : Int) - 1 - (i : Int) = (b : Int) := by omega
      have hbn : b < ws.length := by omega
      rw [hb] at hlT hT
      rw [eb]
      refine TwE.q_un2A (ea_cons (ev_var rfl) (ea_cons (ev_var rfl) (ea_cons (ev_var rfl) (ea_cons (ev_var rfl) ea_nil)))) fun H4 e4 => ⟨p, l, ws, _, wd, b, t, rfl, ex_l (e.trans e4) hS, sq_of (e4 _ _ hlT), hz, hl, hwB, hbn, tabZ_len .., fun e' f1 f2 => ⟨tabZ_at f2 f1, hT.nn e' f1 f2⟩, hT.last, one_fits hx hbn, fun ll en hf u H5 _ e5 hu => TwE.g2 (st_of hu) ?_⟩
      refine s_setL (j := b) (v := .int ll) (e5 _ _ (e4 _ _ hlT)) (ev_var rfl) (ev_var rfl) (ev_var rfl) (by rw [List.length_map, tabZ_len]; omega) fun H6 e6 => ⟨fun j => if j = b then ll else t j, _, _, _, rfl, Ex.mut (((e.trans e4).trans e5).trans e6) l00, ?_, ?_⟩
      · rw [show ws.length - (i + 1) = b by omega, ← tabZ_set hbn]
        exact upd_same
      · rw [show ws.length - (i + 1) = b by omega]
        exact hT.more hbn hf
    · rintro σ' H' ⟨t, x3, x4, x5, rfl, e, hlT, hT⟩
      rw [Int.toNat_natCast, Nat.sub_self] at hlT hT
      rw [tabZ_zero] at hlT
      exact s_ret (v := .ref l) (ev_var rfl) fun H5 e5 => k t hT l H5 l00 (e.trans e5) (e5 _ _ hlT)

def nats (S : List Nat) : List V := S.map fun (k : Nat) => V.int (k : Int)
theorem nats_len (S : List Nat) : (nats S).length = S.length := List.length_map ..
theorem nats_at {S : List Nat} {k s : Nat} (h : S[k]? = some s) : (nats S)[k]? = some (.int (s : Int)) := by
  unfold nats
  rw [List.getElem?_map, h] <;> rfl
theorem nats_snoc (S : List Nat) (i : Nat) : nats S ++ [.int (i : Int)] = nats (S ++ [i]) := by
  unfold nats
  rw [List.map_append] <;> rfl

theorem nats_ints (S : List Nat) : nats S = (S.map fun (k : Nat) => (k : Int)).map V.int := by
  unfold nats
  rw [List.map_map] <;> rfl

/-! ### best_starts -/
def sp_best (K : PySem.W.Frag) (A : Ad) : Sp := fun vs H Q E => ∃ (p : Addr) (ws : List Str) (w : Int), vs = [.ref p, .int w] ∧ SqL K H p (ws.map V.str) ∧ (∀ z ∈ ws, z.length ≤ 300) ∧ ws.length ≤ 2000 ∧ WidB w ∧ (w < 1 → ∀ H', Ex H H' → E (.ref A.c_NoWidth) none H') ∧
  (1 ≤ w → (∃ z ∈ ws, w < (z.length : Int)) → ∀ H', Ex H H' → E (.ref A.c_LongWord) none H') ∧ (1 ≤ w → (∀ z ∈ ws, (z.length : Int) ≤ w) → ∀ t S, IsTab ws w t → BestW ws w t S → RetL (nats S) H Q)
theorem ok_best_starts (T : Txt K mg A) : FnOk P w K mg base (L2N.CX P w) 5 A.f_best_starts A.d_best_starts ["words", "width"] (sp_best K A) := by
  refine Fun.okN T.F_best_starts sc_best_starts (fun vs H Q E h => ?_) (fun cdv Ar outer s H vs Q E hr h => ?_)
  · obtain ⟨p, ws, i, rfl, _⟩ := h
    rfl
  · obtain ⟨p, ws, wd, rfl, hS, hz, hl, hwB, h1, h2, h3⟩ := h
    refine ⟨_, (pss_cons (ps_set (i := 2) sc_best_starts.nd rfl (.inl rfl) (pe_call (ok_table_of T) (hr.mono (by decide)) rfl T.g_table_of T.F_table_of.kp T.b_table_of .nil (L2N.passes_call (L2N.takes_of rfl rfl rfl rfl) (fun _ _ _ _ h => h)) (pa_cons (pv 0) (pa_cons (pv 1) pa_nil))))
  (pss_cons (ps_set (i := 3) sc_best_starts.nd rfl (.inl rfl) (pe_lst pa_nil))
  (pss_cons (ps_set (i := 4) sc_best_starts.nd rfl (.inl rfl) pe_int)
  (pss_cons (ps_while PassesOwn.leaving (pt_cmpR op_lt (pv 4) (pe_callB call_len_seq (by rfl) T.m_len PySem.boot_len (pa_cons (pv 0) pa_nil)) (nomark _))
  (pss_cons (ps_expr (pe_bm PySem.F.plainAttrs_list PySem.F.slot_list_append PySem.F.type_list_append mt_append (pv 3) (pa_cons (pv 4) pa_nil)))
  (pss_one (ps_asg (pe_call (ok_first_line T) (hr.mono (by decide)) rfl T.g_first_line T.F_first_line.kp T.b_first_line .nil pass0 (pa_cons (pv 0) (pa_cons (pv 1) (pa_cons (pv 4) (pa_cons (pv 2) pa_nil))))) (pg_tup rfl (pgs_cons (pg_name (i := 5) sc_best_starts.nd rfl (.inl rfl)) (pgs_cons (pg_name (i := 4) sc_best_starts.nd rfl (.inl rfl)) pgs_nil)))))))
  (pss_one (ps_ret (pv 3))))))), ?_⟩
    have nl : (ws.map V.str).length = ws.length := List.length_map ..
    refine q_asgA (ea_cons (ev_var rfl) (ea_cons (ev_var rfl) ea_nil)) fun H1 e1 => ⟨p, ws, wd, rfl, ex_l e1 hS, hz, hl, hwB, fun hw H' e' => h1 hw H' (e1.trans e'), fun hw hx H' e' => h2 hw hx H' (e1.trans e'), fun hw hx t hT tb H2 tb0 e2 htb => ?_⟩
    have k := h3 hw hx t
    have e12 := e1.trans e2
    refine q_asgL (xs := []) (el_lst ea_nil (Nat.zero_le _)) fun l H3 l0 e3 hl3 => ?_
    have l00 := fresh_back e12 l0
    have tl : tb ≠ l := fun q => by
      rw [q, l0] at htb
      cases htb
    refine q_asg (v := .int ((0 : Nat) : Int)) ev_c fun H4 e4 => ?_
    have e14 := (e12.trans e3).trans e4
    refine q_while (fun m σ' H' => ∃ S at_ x, σ' = [some (.ref p), some (.int wd), some (.ref tb), some (.ref l), some (.int ((at_ : Nat) : Int)), x] ∧ Ex H H' ∧ H' tb = some (.lst ((tabL t ws.length).map V.int)) ∧ H' l = some (.lst (nats S)) ∧ WalkTo (IsGoal ws wd t) 0 S at_ ∧ at_ ≤ ws.length ∧ m = ws.length - at_) ws.length
      ⟨[], 0, none, rfl, e14, e4 _ _ (e3 _ _ htb), e4 _ _ hl3, .nil 0, Nat.zero_le _, rfl⟩ ?_
    rintro m σ' H' ⟨S, at_, x, rfl, e, htb', hlS, hW, hle, rfl⟩
    refine ⟨decide (((at_ : Nat) : Int) < (ws.length : Int)), et_test (ev_op (ev_var rfl) (ev_is (ev_cb (ea_cons (ev_var rfl) ea_nil) (rc_lenL (ex_l e hS))) (by rw [nl])) rv_I0), fun hb H5 e5 => ?_, fun hb H5 e5 => ?_⟩
    · have hat : at_ < ws.length := by
        have := of_decide_eq_true hb
        omega
      have hSl := walk_len (fun _ _ g => g.fit.1) hW
      refine ⟨fun σ2 H2 => ∃ S' a' x, σ2 = [some (.ref p), some (.int wd), some (.ref tb), some (.ref l), some (.int ((a' : Nat) : Int)), x] ∧ Ex H H2 ∧ H2 tb = some (.lst ((tabL t ws.length).map V.int)) ∧ H2 l = some (.lst (nats S')) ∧ WalkTo (IsGoal ws wd t) 0 S' a' ∧ a' ≤ ws.length ∧ at_ < a', fun σ2 H2 ⟨S', a', x, q1, q2, q3, q4, q5, q6, q7⟩ => ⟨ws.length - a', by omega, S', a', x, q1, q2, q3, q4, q5, q6, rfl⟩, ?_⟩
      refine q_app (xs := nats S) (v := .int (at_ : Int)) (e5 _ _ hlS) (ev_var rfl) (ev_var rfl) (by rw [nats_len]; omega) fun H6 e6 => ?_
      have hl7 : upd H6 l (.lst (nats S ++ [.int (at_ : Int)])) l = some (.lst (nats S ++ [.int (at_ : Int)])) := upd_same
      have ht7 : upd H6 l (.lst (nats S ++ [.int (at_ : Int)])) tb = some (.lst ((tabL t ws.length).map V.int)) := by
        rw [upd_ne tl]
        exact e6 _ _ (e5 _ _ htb')
      have e07 : Ex H (upd H6 l (.lst (nats S ++ [.int (at_ : Int)]))) := Ex.mut ((e.trans e5).trans e6) l00
      revert hl7 ht7 e07
      generalize upd H6 l (.lst (nats S ++ [.int (at_ : Int)])) = H7
      intro hl7 ht7 e07
      refine TwE.s_un2A (ea_cons (ev_var rfl) (ea_cons (ev_var rfl) (ea_cons (ev_var rfl) (ea_cons (ev_var rfl) ea_nil)))) fun H8 e8 => ⟨p, tb, ws, tabL t ws.length, wd, at_, t, rfl, ex_l (e07.trans e8) hS, sq_of (e8 _ _ ht7), hz, hl, hwB, hat, tabL_len .., fun e' f1 f2 => ⟨tabL_at f2, hT.nn e' (Nat.zero_le _) f2⟩, hT.last, one_fits hx hat, fun ll en hf u H9 _ e9 hu => TwE.g2 (st_of hu) ⟨S ++ [at_], en, _, rfl, (e07.trans e8).trans e9, e9 _ _ (e8 _ _ ht7), ?_, hW.snoc (hf.goal hT), hf.fit.2.1, hf.fit.1⟩⟩
      rw [← nats_snoc]
      exact e9 _ _ (e8 _ _ hl7)
    · have hat : at_ = ws.length := by
        have := of_decide_eq_false hb
        omega
      subst hat
      exact s_ret (v := .ref l) (ev_var rfl) fun H6 e6 => k S hT hW l H6 l00 ((e.trans e5).trans e6) (e6 _ _ (e5 _ _ hlS))

/-! ### the law's own look at the table -/
theorem price_mul {ws : List Str} {w : Int} {b e : Nat} (he : e ≤ ws.length) : (w - (sizeN ws b e : Int)) ^ (2 : Int).toNat * (if decide ((e : Int) < (ws.length : Int)) = true then 1 else 0) = price ws w b e := by
  unfold price
  by_cases h : e = ws.length
  · rw [if_pos h, if_neg (by rw [h]; simp), Int.mul_zero]
  · rw [if_neg h, if_pos (decide_eq_true (by omega)), Int.mul_one]
theorem tab_last {t : Nat → Int} {n : Nat} : atI ((tabL t n).map V.int) (-1) = some (.int (t n)) := by
  have e : ixN ((tabL t n).map V.int).length (-1) = some n := by
    unfold ixN
    rw [if_neg (by decide), List.length_map, tabL_len, if_pos (by omega)]
    congr 1
    omega
  unfold atI
  rw [e]
  exact tab_at (Nat.le_refl _)
def sp_table_right (K : PySem.W.Frag) : Sp := fun vs H Q _ => ∃ (p q : Addr) (ws : List Str) (w : Int) (t : Nat → Int), vs = [.ref p, .int w, .ref q] ∧ SqL K H p (ws.map V.str) ∧ SqL K H q ((tabL t ws.length).map V.int) ∧ (∀ z ∈ ws, z.length ≤ 300) ∧ ws.length ≤ 2000 ∧ WidB w ∧ IsTab ws w t ∧ RetV (.bl true) H Q
theorem ok_l_table_right (T : Txt K mg A) : FnOk P w K mg base CX0 3 A.f_l_table_right A.d_l_table_right ["_law_row", "_law_width", "_law_found"] (sp_table_right K) := by
  refine T.F_l_table_right.ok sc_l_table_right (fun vs H Q E h => ?_) (fun cdv Ar outer s H vs Q E hr h => ?_)
  · obtain ⟨p, q, ws, wd, t, rfl, _⟩ := h
    rfl
  · obtain ⟨p, q, ws, wd, t, rfl, hp, hq, hz, hl, hw, hT, k⟩ := h
    refine ⟨_, (pss_cons (ps_if (PW.pt (pw_or (pt_not (pt_val (pe_call (ok_l_wholes T) (hr.mono (by decide)) rfl T.g_l_wholes T.F_l_wholes.kp T.b_l_wholes .nil pass0 (pa_cons (pv 2) pa_nil)))) (pw_or (pt_cmpR op_ne (pe_callB call_len_seq (by rfl) T.m_len PySem.boot_len (pa_cons (pv 2) pa_nil)) (pe_op op_add (pe_callB call_len_seq (by rfl) T.m_len PySem.boot_len (pa_cons (pv 0) pa_nil)) pe_int) (nomark _)) (pw_or1 (pt_cmpR op_ne (pe_ix (ixL (K := K) rfl) (pv 2) (pe_un un_neg pe_int) (fun _ _ => rfl)) pe_int (nomark _))))))
  (pss_one (ps_ret pe_bl))
  pss_nil)
  (pss_cons (ps_for PassesOwn.never rfl (pi_range1 (by rfl) T.m_range (pa_cons (pe_callB call_len_seq (by rfl) T.m_len PySem.boot_len (pa_cons (pv 0) pa_nil)) pa_nil)) (pg_name (i := 3) sc_l_table_right.nd rfl (.inl rfl))
  (pss_cons (ps_set (i := 4) sc_l_table_right.nd rfl (.inl rfl) (pe_un un_neg pe_int))
  (pss_cons (ps_set (i := 5) sc_l_table_right.nd rfl (.inl rfl) pe_bl)
  (Evl.pss_cut (ps_for PassesOwn.never rfl (pi_range2 (by rfl) T.m_range (pa_cons (pe_op op_add (pv 3) pe_int) (pa_cons (pe_op op_add (pe_callB call_len_seq (by rfl) T.m_len PySem.boot_len (pa_cons (pv 0) pa_nil)) pe_int) pa_nil))) (pg_name (i := 6) sc_l_table_right.nd rfl (.inl rfl))
  (pss_cons (ps_set (i := 4) sc_l_table_right.nd rfl (.inl rfl) (pe_op op_add (pe_op op_add (pv 4) pe_int) (pe_callB call_len_str (by rfl) T.m_len PySem.boot_len (pa_cons (pe_ix (ixL (K := K) rfl) (pv 0) (pe_op op_sub (pv 6) pe_int) (fun _ _ => rfl)) pa_nil))))
  (pss_cons (ps_if (pt_cmpR op_gt (pv 4) (pv 1) (nomark _))
  (pss_one ps_break)
  pss_nil)
  (pss_cons (ps_set (i := 7) sc_l_table_right.nd rfl (.inl rfl) (pe_op op_add (pe_ix (ixL (K := K) rfl) (pv 2) (pv 6) (fun _ _ => rfl)) (pe_op op_mul (pe_op TwE.op_powE (pe_op op_sub (pv 1) (pv 4)) pe_int) (pe_callTy call_int1 (by rfl) T.m_int (by decide +kernel) (pa_cons (pe_cmpR op_lt (pv 6) (pe_callB call_len_seq (by rfl) T.m_len PySem.boot_len (pa_cons (pv 0) pa_nil)) (nomark _)) pa_nil)))))
  (pss_cons (ps_if (pt_cmpR op_gt (pe_ix (ixL (K := K) rfl) (pv 2) (pv 3) (fun _ _ => rfl)) (pv 7) (nomark _))
  (pss_one (ps_ret pe_bl))
  pss_nil)
  (pss_one (ps_set (i := 5) sc_l_table_right.nd rfl (.inl rfl) (pe_or (pv 5) (pe_one (pe_cmpR op_eq (pe_ix (ixL (K := K) rfl) (pv 2) (pv 3) (fun _ _ => rfl)) (pv 7) (nomark _)))))))))))
  (pss_one (ps_if (pt_not (pt_val (pv 5)))
  (pss_one (ps_ret pe_bl))
  pss_nil))))))
  (pss_one (ps_ret pe_bl)))), ?_⟩
    have nl : (ws.map V.str).length = ws.length := List.length_map ..
    have nt : ((tabL t ws.length).map V.int).length = ws.length + 1 := by rw [List.length_map, tabL_len]
    refine q_when (b := false) (et_is (a := !true || ((!decide (V.int ((ws.length : Int) + 1) = V.int ((ws.length : Int) + 1))) || !decide (V.int (t ws.length) = V.int 0))) (et_or (et_not (et_B (ev_call (ea_cons (ev_var rfl) ea_nil) fun H1 e1 Q' qq E' => ⟨q, _, rfl, ex_l e1 hq, qq⟩))) fun _ => et_or (et_test (ev_op (ev_is (ev_cb (ea_cons (ev_var rfl) ea_nil) (rc_lenL hq)) (by rw [nt] <;> rfl)) (ev_op (ev_is (ev_cb (ea_cons (ev_var rfl) ea_nil) (rc_lenL hp)) (by rw [nl])) ev_c rv_I0) (rv_ne rfl))) fun _ => et_test (ev_op (ev_op (ev_var rfl) (ev_un ev_c ru_neg) (rv_ixL hq tab_last)) ev_c (rv_ne rfl))) (by rw [hT.last]; simp)) (fun hb => nomatch hb) (fun _ H1 e1 => ?_)
    refine q_forR1 (n := (ws.map V.str).length) (ea_cons (ev_cb (ea_cons (ev_var rfl) ea_nil) (rc_lenL (ex_l e1 hp))) ea_nil) (by omega) (fun i σ' H' => ∃ x3 x4 x5 x6 x7, σ' = [some (.ref p), some (.int wd), some (.ref q), x3, x4, x5, x6, x7] ∧ Ex H H') (fun H2 e2 => ⟨none, none, none, none, none, rfl, e1.trans e2⟩) ?_ ?_
    · rintro a σ' H' ha ⟨x3, x4, x5, x6, x7, rfl, e⟩
      have han : a < ws.length := by omega
      refine q_asg (v := .int (-1)) (ev_un ev_c ru_neg) fun H2 e2 => ?_
      refine q_asg (v := .bl false) ev_c fun H3 e3 => ?_
      have e03 := (e.trans e2).trans e3
      obtain ⟨em, fm, qm⟩ := hT.eq a (Nat.zero_le _) han
      refine q_cut (M := fun σ2 H2 => ∃ sz x6 x7, σ2 = [some (.ref p), some (.int wd), some (.ref q), some (.int (a : Int)), some (.int sz), some (.bl true), x6, x7] ∧ Ex H H2) ?_ ?_
      · refine s_forR2 (lo := (a : Int) + 1) (n := (ws.length : Int) + 1) (ea_cons (ev_op (ev_var rfl) ev_c rv_I0) (ea_cons (ev_op (ev_is (ev_cb (ea_cons (ev_var rfl) ea_nil) (rc_lenL (ex_l e03 hp))) (by rw [nl])) ev_c rv_I0) ea_nil)) ⟨by omega, by omega, by omega, by omega⟩
          (fun i σ2 H2 => ∃ (met : Bool) (x6 x7 : Option V), σ2 = [some (.ref p), some (.int wd), some (.ref q), some (.int (a : Int)), some (.int (szA ws a i)), some (.bl met), x6, x7] ∧ Ex H H2 ∧ (∀ j, j < i → (sizeN ws a (a + 1 + j) : Int) ≤ wd) ∧ ∀ j, j < i → em = a + 1 + j → met = true)
          (fun H4 e4 => ⟨false, _, _, rfl, e03.trans e4, fun j hj => absurd hj (Nat.not_lt_zero _), fun j hj => absurd hj (Nat.not_lt_zero _)⟩) ?_ ?_
        · rintro i σ2 H4 hi ⟨met, x6', x7', rfl, e4, hf, hm⟩
          have hai : a + i < ws.length := by omega
          have hy : ws[a + i]? = some ws[a + i] := List.getElem?_eq_getElem hai
          have hyl := hz ws[a + i] (List.getElem_mem hai)
          have g : (ws.map V.str)[a + i]? = some (.str ws[a + i]) := by
            rw [List.getElem?_map, hy] <;> rfl
          have ee : (a : Int) + 1 + (i : Int) = ((a + 1 + i : Nat) : Int) := by omega
          have ee1 : ((a + 1 + i : Nat) : Int) - 1 = ((a + i : Nat) : Int) := by omega
          rw [ee]
          refine q_asg (v := .int (sizeN ws a (a + 1 + i) : Int)) (ev_is (ev_op (ev_op (ev_var rfl) ev_c rv_I0) (ev_cb (ea_cons (ev_op (ev_var rfl) (ev_op (ev_var rfl) ev_c rv_I0) (rv_ixL (ex_l e4 hp) (by rw [ee1]; exact atI_nat g))) ea_nil) (rc_lenS (by omega))) rv_I0) (by rw [szA_succ hy])) fun H5 e5 => ?_
          refine q_when (b := decide (wd < (sizeN ws a (a + 1 + i) : Int))) (et_test (ev_op (ev_var rfl) (ev_var rfl) rv_I0)) (fun hb H6 e6 => ?_) (fun hb H6 e6 => ?_)
          · have hb := of_decide_eq_true hb
            have hmet : met = true := by
              have f1 := fm.1
              rcases Nat.lt_or_ge em (a + 1 + i) with q2 | q2
              · exact hm (em - a - 1) (by omega) (by omega)
              · have := size_mono (ws := ws) (b := a) (e := a + 1 + i) (b' := a) (e' := em) (by omega) (Nat.le_refl _) q2 fm.2.1
                have := fm.2.2
                omega
            subst hmet
            exact ⟨_, _, _, rfl, (e4.trans e5).trans e6⟩
          · have hle : (sizeN ws a (a + 1 + i) : Int) ≤ wd := by
              have := of_decide_eq_false hb
              omega
            have hfit : Fits ws wd a (a + 1 + i) := ⟨by omega, by omega, hle⟩
            have htle := hT.le a (a + 1 + i) (Nat.zero_le _) hfit
            have hsz := sizeN_le hz hl a (a + 1 + i)
            have hb2 : (wd - (sizeN ws a (a + 1 + i) : Int)).natAbs < 2 ^ 121 := by
              unfold WidB at hw
              omega
            have hbits := PyProof.Rows.intBits_le hb2
            have e46 := (e4.trans e5).trans e6
            refine q_asg (v := .int (t (a + 1 + i) + price ws wd a (a + 1 + i))) (ev_op (ev_op (ev_var rfl) (ev_var rfl) (rv_ixL (ex_l e46 hq) (atI_nat (tab_at (by omega))))) (ev_is (ev_op (ev_op (ev_op (ev_var rfl) (ev_var rfl) rv_I0) ev_c (rv_I ⟨by decide, by omega⟩)) (ev_cb (ea_cons (ev_op (ev_var rfl) (ev_is (ev_cb (ea_cons (ev_var rfl) ea_nil) (rc_lenL (ex_l e46 hp))) (by rw [nl])) rv_I0) ea_nil) rc_intB) (rv_I (.inr (by split <;> exact ⟨by decide, by decide⟩)))) (by rw [price_mul (by omega)])) rv_I0) fun H7 e7 => ?_
            have e47 := e46.trans e7
            have ta : ∀ {σ : L2.St} {H' : Hp}, Ex H H' → σ[2]? = some (some (.ref q)) → σ[3]? = some (some (.int (a : Int))) → Ev (tOp (rIxL K) (tVar 2) (tVar 3)) σ H' (.int (t a)) := fun e h2 h3 => ev_op (ev_var h2) (ev_var h3) (rv_ixL (ex_l e hq) (atI_nat (tab_at (by omega))))
            refine q_when (b := false) (et_is (et_test (ev_op (ta e47 rfl rfl) (ev_var rfl) rv_I0)) (decide_eq_false (by omega))) (fun hb => nomatch hb) (fun _ H8 e8 => ?_)
            refine s_asg (v := .bl (met || decide (V.int (t a) = V.int (t (a + 1 + i) + price ws wd a (a + 1 + i))))) (ev_orV (ev_var rfl) fun _ => ev_op (ta (e47.trans e8) rfl rfl) (ev_var rfl) (rv_eq rfl)) fun H9 e9 => ⟨met || decide (V.int (t a) = V.int (t (a + 1 + i) + price ws wd a (a + 1 + i))), some (.int ((a + 1 + i : Nat) : Int)), some (.int (t (a + 1 + i) + price ws wd a (a + 1 + i))), ?_, (e47.trans e8).trans e9, fun j hj => ?_, fun j hj hje => ?_⟩
            · rw [show szA ws a (i + 1) = (sizeN ws a (a + 1 + i) : Int) by unfold szA; rw [if_neg (by omega), show a + (i + 1) = a + 1 + i by omega]] <;> rfl
            · rcases Nat.lt_or_ge j i with q2 | q2
              · exact hf j q2
              · rw [show j = i by omega]
                exact hle
            · rcases Nat.lt_or_ge j i with q2 | q2
              · rw [hm j q2 hje] <;> rfl
              · have ej : j = i := by omega
                subst ej
                rw [hje] at qm
                rw [decide_eq_true (show V.int (t a) = V.int (t (a + 1 + j) + price ws wd a (a + 1 + j)) by rw [qm, Int.add_comm]), Bool.or_true]
        · rintro σ2 H4 ⟨met, x6', x7', rfl, e4, hf, hm⟩
          have hmet : met = true := hm (em - a - 1) (by have := fm.1; have := fm.2.1; omega) (by have := fm.1; omega)
          subst hmet
          exact ⟨_, _, _, rfl, e4⟩
      · rintro σ2 H4 ⟨sz, x6', x7', rfl, e4⟩
        exact s_when (b := false) (et_is (a := !true) (et_not (et_B (ev_var rfl))) rfl) (fun hb => nomatch hb) (fun _ H5 e5 => ⟨_, _, _, _, _, rfl, e4.trans e5⟩)
    · rintro σ' H' ⟨x3, x4, x5, x6, x7, rfl, e⟩
      exact s_ret (v := .bl true) ev_c fun H2 e2 => k H2 (e.trans e2)

/-! ### the law's own walk by the table -/
def sp_starts_by (K : PySem.W.Frag) : Sp := fun vs H Q _ => ∃ (p q : Addr) (ws : List Str) (w : Int) (t : Nat → Int), vs = [.ref p, .int w, .ref q] ∧ SqL K H p (ws.map V.str) ∧ SqL K H q ((tabL t ws.length).map V.int) ∧ (∀ z ∈ ws, z.length ≤ 300) ∧ ws.length ≤ 2000 ∧ WidB w ∧ IsTab ws w t ∧ ∀ S, BestW ws w t S → RetL (nats S) H Q
theorem ok_l_starts_by_table (T : Txt K mg A) : FnOk P w K mg base CX0 3 A.f_l_starts_by_table A.d_l_starts_by_table ["_law_row", "_law_width", "_law_told_here"] (sp_starts_by K) := by
  refine T.F_l_starts_by_table.ok sc_l_starts_by_table (fun vs H Q E h => ?_) (fun cdv Ar outer s H vs Q E hr h => ?_)
  · obtain ⟨p, q, ws, wd, t, rfl, _⟩ := h
    rfl
  · obtain ⟨p, q, ws, wd, t, rfl, hp, hq, hz, hl, hw, hT, k⟩ := h
    refine ⟨_, (pss_cons (ps_set (i := 3) sc_l_starts_by_table.nd rfl (.inl rfl) (pe_lst pa_nil))
  (pss_cons (ps_set (i := 4) sc_l_starts_by_table.nd rfl (.inl rfl) pe_int)
  (pss_cons (ps_while PassesOwn.never (pt_cmpR op_lt (pv 4) (pe_callB call_len_seq (by rfl) T.m_len PySem.boot_len (pa_cons (pv 0) pa_nil)) (nomark _))
  (pss_cons (ps_expr (pe_bm PySem.F.plainAttrs_list PySem.F.slot_list_append PySem.F.type_list_append mt_append (pv 3) (pa_cons (pv 4) pa_nil)))
  (pss_cons (ps_set (i := 5) sc_l_starts_by_table.nd rfl (.inl rfl) (pe_un un_neg pe_int))
  (pss_cons (ps_set (i := 6) sc_l_starts_by_table.nd rfl (.inl rfl) (pe_op op_add (pv 4) pe_int))
  (Evl.pss_cut (ps_for PassesOwn.never rfl (pi_range2 (by rfl) T.m_range (pa_cons (pe_op op_add (pv 4) pe_int) (pa_cons (pe_op op_add (pe_callB call_len_seq (by rfl) T.m_len PySem.boot_len (pa_cons (pv 0) pa_nil)) pe_int) pa_nil))) (pg_name (i := 7) sc_l_starts_by_table.nd rfl (.inl rfl))
  (pss_cons (ps_set (i := 5) sc_l_starts_by_table.nd rfl (.inl rfl) (pe_op op_add (pe_op op_add (pv 5) pe_int) (pe_callB call_len_str (by rfl) T.m_len PySem.boot_len (pa_cons (pe_ix (ixL (K := K) rfl) (pv 0) (pe_op op_sub (pv 7) pe_int) (fun _ _ => rfl)) pa_nil))))
  (pss_cons (ps_if (pt_cmpR op_gt (pv 5) (pv 1) (nomark _))
  (pss_one ps_break)
  pss_nil)
  (pss_one (ps_if (pt_cmpR op_eq (pe_ix (ixL (K := K) rfl) (pv 2) (pv 4) (fun _ _ => rfl)) (pe_op op_add (pe_ix (ixL (K := K) rfl) (pv 2) (pv 7) (fun _ _ => rfl)) (pe_op op_mul (pe_op TwE.op_powE (pe_op op_sub (pv 1) (pv 5)) pe_int) (pe_callTy call_int1 (by rfl) T.m_int (by decide +kernel) (pa_cons (pe_cmpR op_lt (pv 7) (pe_callB call_len_seq (by rfl) T.m_len PySem.boot_len (pa_cons (pv 0) pa_nil)) (nomark _)) pa_nil)))) (nomark _))
  (pss_one (ps_set (i := 6) sc_l_starts_by_table.nd rfl (.inl rfl) (pv 7)))
  pss_nil)))))
  (pss_one (ps_set (i := 4) sc_l_starts_by_table.nd rfl (.inl rfl) (pv 6))))))))
  (pss_one (ps_ret (pv 3)))))), ?_⟩
    have nl : (ws.map V.str).length = ws.length := List.length_map ..
    refine q_asgL (xs := []) (el_lst ea_nil (Nat.zero_le _)) fun l H1 l0 e1 hl1 => ?_
    refine q_asg (v := .int ((0 : Nat) : Int)) ev_c fun H2 e2 => ?_
    have e12 := e1.trans e2
    refine q_while (fun m σ' H' => ∃ S at_ x5 x6 x7, σ' = [some (.ref p), some (.int wd), some (.ref q), some (.ref l), some (.int ((at_ : Nat) : Int)), x5, x6, x7] ∧ Ex H H' ∧ H' l = some (.lst (nats S)) ∧ WalkTo (IsGoal ws wd t) 0 S at_ ∧ at_ ≤ ws.length ∧ m = ws.length - at_) ws.length
      ⟨[], 0, none, none, none, rfl, e12, e2 _ _ hl1, .nil 0, Nat.zero_le _, rfl⟩ ?_
    rintro m σ' H' ⟨S, a, x5, x6, x7, rfl, e, hlS, hW, hle, rfl⟩
    refine ⟨decide (((a : Nat) : Int) < (ws.length : Int)), et_test (ev_op (ev_var rfl) (ev_is (ev_cb (ea_cons (ev_var rfl) ea_nil) (rc_lenL (ex_l e hp))) (by rw [nl])) rv_I0), fun hb H3 e3 => ?_, fun hb H3 e3 => ?_⟩
    · have han : a < ws.length := by
        have := of_decide_eq_true hb
        omega
      have hSl := walk_len (fun _ _ g => g.fit.1) hW
      refine ⟨fun σ2 H2 => ∃ S' a' x5 x6 x7, σ2 = [some (.ref p), some (.int wd), some (.ref q), some (.ref l), some (.int ((a' : Nat) : Int)), x5, x6, x7] ∧ Ex H H2 ∧ H2 l = some (.lst (nats S')) ∧ WalkTo (IsGoal ws wd t) 0 S' a' ∧ a' ≤ ws.length ∧ a < a', fun σ2 H2 ⟨S', a', x5, x6, x7, q1, q2, q4, q5, q6, q7⟩ => ⟨ws.length - a', by omega, S', a', x5, x6, x7, q1, q2, q4, q5, q6, rfl⟩, ?_⟩
      refine q_app (xs := nats S) (v := .int (a : Int)) (e3 _ _ hlS) (ev_var rfl) (ev_var rfl) (by rw [nats_len]; omega) fun H4 e4 => ?_
      have hl5 : upd H4 l (.lst (nats S ++ [.int (a : Int)])) l = some (.lst (nats (S ++ [a]))) := by
        rw [← nats_snoc]
        exact upd_same
      have e05 : Ex H (upd H4 l (.lst (nats S ++ [.int (a : Int)]))) := Ex.mut ((e.trans e3).trans e4) l0
      revert hl5 e05
      generalize upd H4 l (.lst (nats S ++ [.int (a : Int)])) = H5
      intro hl5 e05
      refine q_asg (v := .int (-1)) (ev_un ev_c ru_neg) fun H6 e6 => ?_
      refine q_asg (v := .int ((a + 1 : Nat) : Int)) (ev_is (ev_op (ev_var rfl) ev_c rv_I0) (congrArg V.int (by omega))) fun H7 e7 => ?_
      have e07 := (e05.trans e6).trans e7
      have l7 := e7 _ _ (e6 _ _ hl5)
      obtain ⟨em, fm, qm⟩ := hT.eq a (Nat.zero_le _) han
      have goal_of : ∀ {i g : Nat}, i ≤ ws.length - a → (∀ j, j < i → (sizeN ws a (a + 1 + j) : Int) ≤ wd) → (a + i < ws.length → wd < (sizeN ws a (a + 1 + i) : Int)) → ((∃ j, j < i ∧ g = a + 1 + j ∧ t a = price ws wd a g + t g) ∨ ∀ j, j < i → ¬ t a = price ws wd a (a + 1 + j) + t (a + 1 + j)) → (∀ j, j < i → t a = price ws wd a (a + 1 + j) + t (a + 1 + j) → a + 1 + j ≤ g) → IsGoal ws wd t a g := fun {i g} hi hf hbr hg hmost => by
        have below : ∀ e', Fits ws wd a e' → e' ≤ a + i := fun e' f => by
          refine Nat.le_of_not_lt fun q2 => ?_
          have f1 := f.2.1
          have := hbr (by omega)
          have := size_mono (ws := ws) (b := a) (e := a + 1 + i) (b' := a) (e' := e') (by omega) (Nat.le_refl _) (by omega) f1
          have := f.2.2
          omega
        have bm := below em fm
        have m1 := fm.1
        rcases hg with ⟨j, hj, rfl, hge⟩ | hno
        · refine ⟨⟨by omega, by omega, hf j hj⟩, hge, fun e' he f => ?_⟩
          have be := below e' f
          have f1 := f.1
          have le := hT.le a e' (Nat.zero_le _) f
          have ee : a + 1 + (e' - a - 1) = e' := by omega
          have := hmost (e' - a - 1) (by omega)
          rw [ee] at this
          by_cases q2 : t a = price ws wd a e' + t e'
          · have := this q2
            omega
          · omega
        · have ee : a + 1 + (em - a - 1) = em := by omega
          have := hno (em - a - 1) (by omega)
          rw [ee] at this
          exact absurd qm this
      refine q_cut (M := fun σ2 H2 => ∃ sz g x7, σ2 = [some (.ref p), some (.int wd), some (.ref q), some (.ref l), some (.int (a : Int)), some (.int sz), some (.int ((g : Nat) : Int)), x7] ∧ Ex H H2 ∧ H2 l = some (.lst (nats (S ++ [a]))) ∧ IsGoal ws wd t a g) ?_ ?_
      · refine s_forR2 (lo := (a : Int) + 1) (n := (ws.length : Int) + 1) (ea_cons (ev_op (ev_var rfl) ev_c rv_I0) (ea_cons (ev_op (ev_is (ev_cb (ea_cons (ev_var rfl) ea_nil) (rc_lenL (ex_l e07 hp))) (by rw [nl])) ev_c rv_I0) ea_nil)) ⟨by omega, by omega, by omega, by omega⟩
          (fun i σ2 H2 => ∃ (g : Nat) (x7 : Option V), σ2 = [some (.ref p), some (.int wd), some (.ref q), some (.ref l), some (.int (a : Int)), some (.int (szA ws a i)), some (.int ((g : Nat) : Int)), x7] ∧ Ex H H2 ∧ H2 l = some (.lst (nats (S ++ [a]))) ∧ (∀ j, j < i → (sizeN ws a (a + 1 + j) : Int) ≤ wd) ∧ ((∃ j, j < i ∧ g = a + 1 + j ∧ t a = price ws wd a g + t g) ∨ ∀ j, j < i → ¬ t a = price ws wd a (a + 1 + j) + t (a + 1 + j)) ∧ ∀ j, j < i → t a = price ws wd a (a + 1 + j) + t (a + 1 + j) → a + 1 + j ≤ g)
          (fun H8 e8 => ⟨a + 1, _, rfl, e07.trans e8, e8 _ _ l7, fun j hj => absurd hj (Nat.not_lt_zero _), .inr fun j hj => absurd hj (Nat.not_lt_zero _), fun j hj => absurd hj (Nat.not_lt_zero _)⟩) ?_ ?_
        · rintro i σ2 H8 hi ⟨g, x7', rfl, e8, l8, hf, hg, hm⟩
          have hai : a + i < ws.length := by omega
          have hy : ws[a + i]? = some ws[a + i] := List.getElem?_eq_getElem hai
          have hyl := hz ws[a + i] (List.getElem_mem hai)
          have gx : (ws.map V.str)[a + i]? = some (.str ws[a + i]) := by
            rw [List.getElem?_map, hy] <;> rfl
          have ee : (a : Int) + 1 + (i : Int) = ((a + 1 + i : Nat) : Int) := by omega
          have ee1 : ((a + 1 + i : Nat) : Int) - 1 = ((a + i : Nat) : Int) := by omega
          rw [ee]
          refine q_asg (v := .int (sizeN ws a (a + 1 + i) : Int)) (ev_is (ev_op (ev_op (ev_var rfl) ev_c rv_I0) (ev_cb (ea_cons (ev_op (ev_var rfl) (ev_op (ev_var rfl) ev_c rv_I0) (rv_ixL (ex_l e8 hp) (by rw [ee1]; exact atI_nat gx))) ea_nil) (rc_lenS (by omega))) rv_I0) (by rw [szA_succ hy])) fun H9 e9 => ?_
          refine q_when (b := decide (wd < (sizeN ws a (a + 1 + i) : Int))) (et_test (ev_op (ev_var rfl) (ev_var rfl) rv_I0)) (fun hb H10 e10 => ?_) (fun hb H10 e10 => ?_)
          · have hb := of_decide_eq_true hb
            exact ⟨_, g, _, rfl, (e8.trans e9).trans e10, e10 _ _ (e9 _ _ l8), goal_of (by omega) hf (fun _ => hb) hg hm⟩
          · have hle : (sizeN ws a (a + 1 + i) : Int) ≤ wd := by
              have := of_decide_eq_false hb
              omega
            have hsz := sizeN_le hz hl a (a + 1 + i)
            have hb2 : (wd - (sizeN ws a (a + 1 + i) : Int)).natAbs < 2 ^ 121 := by
              unfold WidB at hw
              omega
            have hbits := PyProof.Rows.intBits_le hb2
            have e810 := (e8.trans e9).trans e10
            have hsa : szA ws a (i + 1) = (sizeN ws a (a + 1 + i) : Int) := by
              unfold szA
              rw [if_neg (by omega), show a + (i + 1) = a + 1 + i by omega]
            have hf' : ∀ j, j < i + 1 → (sizeN ws a (a + 1 + j) : Int) ≤ wd := fun j hj => by
              rcases Nat.lt_or_ge j i with q2 | q2
              · exact hf j q2
              · rw [show j = i by omega]
                exact hle
            refine s_when (b := decide (V.int (t a) = V.int (t (a + 1 + i) + price ws wd a (a + 1 + i)))) (et_test (ev_op (ev_op (ev_var rfl) (ev_var rfl) (rv_ixL (ex_l e810 hq) (atI_nat (tab_at (by omega))))) (ev_op (ev_op (ev_var rfl) (ev_var rfl) (rv_ixL (ex_l e810 hq) (atI_nat (tab_at (by omega))))) (ev_is (ev_op (ev_op (ev_op (ev_var rfl) (ev_var rfl) rv_I0) ev_c (rv_I ⟨by decide, by omega⟩)) (ev_cb (ea_cons (ev_op (ev_var rfl) (ev_is (ev_cb (ea_cons (ev_var rfl) ea_nil) (rc_lenL (ex_l e810 hp))) (by rw [nl])) rv_I0) ea_nil) rc_intB) (rv_I (.inr (by split <;> exact ⟨by decide, by decide⟩)))) (by rw [price_mul (by omega)])) rv_I0) (rv_eq rfl))) (fun hb H11 e11 => ?_) (fun hb H11 e11 => ?_)
            · have heq : t a = price ws wd a (a + 1 + i) + t (a + 1 + i) := by
                have h := of_decide_eq_true hb
                injection h with h
                omega
              refine s_asg (ev_var rfl) fun H12 e12 => ⟨a + 1 + i, some (.int ((a + 1 + i : Nat) : Int)), by rw [hsa]; rfl, (e810.trans e11).trans e12, e12 _ _ (e11 _ _ (e10 _ _ (e9 _ _ l8))), hf', .inl ⟨i, Nat.lt_succ_self _, rfl, heq⟩, fun j hj _ => by omega⟩
            · have hne : ¬ t a = price ws wd a (a + 1 + i) + t (a + 1 + i) := fun q2 => of_decide_eq_false hb (congrArg V.int (by omega))
              refine ⟨g, some (.int ((a + 1 + i : Nat) : Int)), by rw [hsa]; rfl, e810.trans e11, e11 _ _ (e10 _ _ (e9 _ _ l8)), hf', ?_, fun j hj hje => ?_⟩
              · rcases hg with ⟨j, hj, h1, h2⟩ | hno
                · exact .inl ⟨j, by omega, h1, h2⟩
                · refine .inr fun j hj => ?_
                  rcases Nat.lt_or_ge j i with q2 | q2
                  · exact hno j q2
                  · rw [show j = i by omega]
                    exact hne
              · rcases Nat.lt_or_ge j i with q2 | q2
                · exact hm j q2 hje
                · rw [show j = i by omega] at hje
                  exact absurd hje hne
        · rintro σ2 H8 ⟨g, x7', rfl, e8, l8, hf, hg, hm⟩
          exact ⟨_, g, _, rfl, e8, l8, goal_of (by omega) hf (fun q2 => by omega) hg hm⟩
      · rintro σ2 H8 ⟨sz, g, x7', rfl, e8, l8, hG⟩
        exact s_asg (ev_var rfl) fun H9 e9 => ⟨S ++ [a], g, _, _, _, rfl, e8.trans e9, e9 _ _ l8, hW.snoc hG, hG.fit.2.1, hG.fit.1⟩
    · have hat : a = ws.length := by
        have := of_decide_eq_false hb
        omega
      subst hat
      exact s_ret (v := .ref l) (ev_var rfl) fun H6 e6 => k S hW l H6 l0 ((e.trans e3).trans e6) (e6 _ _ (e3 _ _ hlS))

/-! ### textwrapper.breaks: starts -/
def risingB (zs : List Int) : Bool := (List.range (zs.length - 1)).all fun i => decide (zs.getD i 0 < zs.getD (i + 1) 0)
def goodB (n : Nat) (zs : List Int) : Bool := if zs = [] then decide (n = 0) else decide (zs.getD 0 0 = 0) && decide (zs.getD (zs.length - 1) 0 < (n : Int)) && risingB zs
theorem rising_of {zs : List Int} (h : risingB zs = true) : ∀ i, i + 1 < zs.length → zs.getD i 0 < zs.getD (i + 1) 0 := fun i hi => by
  have q := List.all_eq_true.mp h i (List.mem_range.mpr (by omega))
  exact of_decide_eq_true q
theorem rising_le {zs : List Int} (h : risingB zs = true) : ∀ d i, i + d < zs.length → zs.getD i 0 + (d : Int) ≤ zs.getD (i + d) 0
  | 0, i, _ => by simp
  | d + 1, i, hi => by
    have q := rising_le h d i (by omega)
    have q2 := rising_of h (i + d) (by omega)
    have e : i + (d + 1) = i + d + 1 := by omega
    rw [e]
    omega
theorem good_zero {zs : List Int} (h : zs ≠ []) : goodB 0 zs = false := by
  unfold goodB
  rw [if_neg h]
  cases h1 : risingB zs with
  | false => simp
  | true =>
    have hl : 0 < zs.length := List.length_pos_iff.mpr h
    have q := rising_le h1 (zs.length - 1) 0 (by omega)
    rw [Nat.zero_add] at q
    by_cases h2 : zs.getD 0 0 = 0
    · have : ¬ zs.getD (zs.length - 1) 0 < ((0 : Nat) : Int) := by omega
      rw [decide_eq_false this]
      simp
    · rw [decide_eq_false h2]
      simp
theorem ex_fresh {H : Hp} {p : Addr} {o : HO} (h : H p = none) : Ex H (upd H p o) := fun b u e => by
  rw [upd_ne (ne_of_none e h)]
  exact e
theorem s_retAllR {p : Addr} {C : L2.St → Hp → Int → Int → (Int → Bool) → Prop} {ta : TA} {σ : L2.St} {H : Hp} {D : Ends} {lo hi : Int} (h : EvA ta σ H [.int lo, .int hi])
    (k : ∀ H1 (r : Addr), Ex H H1 → ∃ pb, (-(2 ^ 62) ≤ lo ∧ lo < 2 ^ 62 ∧ -(2 ^ 62) ≤ hi ∧ hi < 2 ^ 62) ∧ TabG H1 p ∧ C σ H1 lo hi pb ∧ ∀ H2, Tabbed p H1 H2 → D.rt (.bl ((List.range (hi - lo).toNat).all fun i => pb (lo + (i : Nat)))) H2) :
    tRet (TwG.tAllR p C (tCB (fun vs H Q => ∃ i j, vs = [V.int i, V.int j] ∧ ∀ (p : Addr), H p = none → Q (V.ref p) (upd H p (HO.rng i j))) ta)) D σ H :=
  h H (Ex.refl H) _ fun H1 e1 => ⟨lo, hi, rfl, fun r hr => let ⟨pb, h1, h2, h3, h4⟩ := k (upd H1 r (.rng lo hi)) r (e1.trans (ex_fresh hr)); ⟨r, lo, hi, pb, rfl, upd_same, h1, h2, h3, h4⟩⟩
def RetT (p : Addr) (v : V) (H : Hp) (Q : VK) : Prop := ∀ H', ExT p H H' → Q v H'
def sp_are_starts (K : PySem.W.Frag) (A : Ad) : Sp := fun vs H Q _ => ∃ (p q : Addr) (ws : List Str) (zs : List Int), vs = [.ref p, .ref q] ∧ SqL K H p (ws.map V.str) ∧ SqL K H q (zs.map V.int) ∧ zs.length ≤ 100000 ∧ TabG H A.p_are_starts ∧ RetT A.p_are_starts (.bl (goodB ws.length zs)) H Q
theorem ok_are_starts (T : Txt K mg A) (B : Tb mg base A) : FnOk P w K mg base CX0 1 A.f_are_starts A.d_are_starts ["words", "starts"] (sp_are_starts K A) := by
  refine Fun.okC T.F_are_starts T.hc_are_starts sc_are_starts (fun vs H Q E h => ?_) (fun Ar outer s H vs Q E hr h => ?_)
  · obtain ⟨p, q, ws, zs, rfl, _⟩ := h
    rfl
  · obtain ⟨p, q, ws, zs, rfl, hp, hq, hlen, hT, k⟩ := h
    refine ⟨_, (pss_cons (ps_if (PW.pt (pw_or (pt_not (pt_truth (pv 0) (fun _ => rfl))) (pw_or1 (pt_not (pt_truth (pv 1) (fun _ => rfl))))))
  (pss_one (ps_ret (pe_and (pe_notT (pv 0)) (pe_one (pe_notT (pv 1))))))
  pss_nil)
  (pss_cons (ps_if (PW.pt (pw_or (pt_cmpR op_ne (pe_ix (ixL (K := K) rfl) (pv 1) pe_int (fun _ _ => rfl)) pe_int (nomark _)) (pw_or1 (pt_cmpR op_ge (pe_ix (ixL (K := K) rfl) (pv 1) (pe_un un_neg pe_int) (fun _ _ => rfl)) (pe_callB call_len_seq (by rfl) T.m_len PySem.boot_len (pa_cons (pv 0) pa_nil)) (nomark _)))))
  (pss_one (ps_ret pe_bl))
  pss_nil)
  (pss_one (ps_ret (TwG.pe_allR (C := TwG.upC K 1) hr (by rfl) T.m_all (by decide +kernel) B.tb_are_starts rfl (TwT.genS_by (sc := defScope s_are_starts) rfl rfl rfl (by decide +kernel) rfl rfl (by decide +kernel)) (pe_callTy cr_range2 (by rfl) T.m_range (by decide +kernel) (pa_cons pe_int (pa_cons (pe_callB call_len_seq (by rfl) T.m_len PySem.boot_len (pa_cons (pv 1) pa_nil)) pa_nil))) (TwG.elt_up (X := _) rfl rfl rfl rfl rfl) (fun _ => rfl)))))), ?_⟩
    have nlz : (zs.map V.int).length = zs.length := List.length_map ..
    have ew : (ws.map V.str).isEmpty = decide (ws.length = 0) := by cases ws <;> rfl
    have ez : (zs.map V.int).isEmpty = decide (zs = []) := by cases zs <;> rfl
    refine q_when (b := decide (ws.length = 0) || decide (zs = [])) (et_is (et_or (et_not (et_tru (ev_var rfl) hp)) fun _ => et_not (et_tru (ev_var rfl) hq)) (by rw [ew, ez]; simp)) (fun hb H1 e1 => ?_) (fun hb H1 e1 => ?_)
    · refine s_ret (v := .bl (goodB ws.length zs)) (ev_is (ev_andV (ev_notT (ev_var rfl) (ex_l e1 hp)) fun _ => ev_notT (ev_var rfl) (ex_l e1 hq)) ?_) fun H2 e2 => k H2 (ExT.of_ex hT (e1.trans e2))
      rw [ew, ez]
      by_cases h1 : zs = []
      · subst h1
        simp [goodB]
      · have h2 : ws.length = 0 := by
          rw [decide_eq_false h1, Bool.or_false] at hb
          exact of_decide_eq_true hb
        rw [h2, good_zero h1, decide_eq_false h1]
        simp
    · rw [Bool.or_eq_false_iff] at hb
      have h1 : zs ≠ [] := of_decide_eq_false hb.2
      have hl : 0 < zs.length := List.length_pos_iff.mpr h1
      have at_ : ∀ i, i < zs.length → (zs.map V.int)[i]? = some (.int (zs.getD i 0)) := fun i hi => by
        rw [List.getElem?_map, List.getElem?_eq_getElem hi, List.getD_eq_getElem?_getD, List.getElem?_eq_getElem hi]
        rfl
      have a0 := at_ 0 hl
      have aN : atI (zs.map V.int) (-1) = some (.int (zs.getD (zs.length - 1) 0)) := by
        have e : ixN (zs.map V.int).length (-1) = some (zs.length - 1) := by
          unfold ixN
          rw [if_neg (by decide), if_pos (by omega), nlz]
          congr 1
          omega
        unfold atI
        rw [e]
        exact at_ _ (by omega)
      refine q_when (b := decide (zs.getD 0 0 ≠ 0) || decide ((ws.length : Int) ≤ zs.getD (zs.length - 1) 0)) (et_is (et_or (et_test (ev_op (ev_op (ev_var rfl) ev_c (rv_ixL (ex_l e1 hq) (atI_nat a0))) ev_c (rv_ne rfl))) fun _ => et_test (ev_op (ev_op (ev_var rfl) (ev_un ev_c ru_neg) (rv_ixL (ex_l e1 hq) aN)) (ev_cb (ea_cons (ev_var rfl) ea_nil) (rc_lenL (ex_l e1 hp))) rv_I0)) ?_) (fun hb2 H2 e2 => ?_) (fun hb2 H2 e2 => ?_)
      · by_cases q1 : zs.getD 0 0 = 0
        · rw [q1]
          simp
        · simp only [V.int.injEq]
          rw [decide_eq_false q1, decide_eq_true (show zs.getD 0 0 ≠ 0 from q1)]
          simp
      · refine s_ret (v := .bl false) ev_c fun H3 e3 => ?_
        have e : goodB ws.length zs = false := by
          unfold goodB
          rw [if_neg h1]
          rw [Bool.or_eq_true] at hb2
          rcases hb2 with q1 | q1
          · rw [decide_eq_false (of_decide_eq_true q1)]
            simp
          · have q2 := of_decide_eq_true q1
            rw [decide_eq_false (show ¬ zs.getD (zs.length - 1) 0 < (ws.length : Int) by omega)]
            simp
        rw [← e]
        exact k H3 (ExT.of_ex hT ((e1.trans e2).trans e3))
      · rw [Bool.or_eq_false_iff] at hb2
        have g1 := of_decide_eq_false hb2.1
        have g2 := of_decide_eq_false hb2.2
        have e12 := e1.trans e2
        refine s_retAllR (ea_cons ev_c (ea_cons (ev_cb (ea_cons (ev_var rfl) ea_nil) (rc_lenL (ex_l e12 hq))) ea_nil)) fun H3 p0 e3 => ⟨fun k => decide (zs.getD (k - 1).toNat 0 < zs.getD k.toNat 0), ⟨by decide, by decide, by omega, by omega⟩, ?_, ?_, fun H4 h4 => ?_⟩
        · exact TabG.ex hT fun b o e => e12.trans e3 b o e
        · exact ⟨q, zs, rfl, ex_l (e12.trans e3) hq, by omega, by decide, by rw [nlz]; exact Int.le_refl _, rfl⟩
        · have e : goodB ws.length zs = ((List.range (((zs.map V.int).length : Int) - 1).toNat).all fun i => decide (zs.getD ((1 + (i : Nat) : Int) - 1).toNat 0 < zs.getD (1 + (i : Nat) : Int).toNat 0)) := by
            unfold goodB
            rw [if_neg h1, decide_eq_true (show zs.getD 0 0 = 0 by omega), decide_eq_true (show zs.getD (zs.length - 1) 0 < (ws.length : Int) by omega), nlz]
            have en : ((zs.length : Int) - 1).toNat = zs.length - 1 := by omega
            rw [en]
            show (true && true && risingB zs) = _
            rw [Bool.true_and, Bool.true_and]
            unfold risingB
            congr 1
            funext i
            have e1 : ((1 + (i : Nat) : Int) - 1).toNat = i := by omega
            have e2 : (1 + (i : Nat) : Int).toNat = i + 1 := by omega
            rw [e1, e2]
          show Q (.bl _) H4
          rw [← e]
          exact k H4 ((ExT.of_ex hT (e12.trans e3)).trans (ExT.of_tabbed h4))
theorem s_ifNotC {ta : TA} {sp : Sp} {dvs vs : List V} {E : XK} {tu tw : TS} {σ : L2.St} {H : Hp} {D : Ends} (h : EvA ta σ H vs) (k : ∀ H1, Ex H H1 → sp (vs ++ dvs) H1 (fun x H2 => ∃ c, x = .bl c ∧ (if (!c) = true then tu D σ H2 else tw D σ H2)) E) :
    tIfS (tNot (tB (tCall sp dvs E ta))) tu tw D σ H := h H (Ex.refl H) _ k
def sp_check_starts (K : PySem.W.Frag) (A : Ad) : Sp := fun vs H Q E => ∃ (p q : Addr) (ws : List Str) (zs : List Int), vs = [.ref p, .ref q] ∧ SqL K H p (ws.map V.str) ∧ SqL K H q (zs.map V.int) ∧ zs.length ≤ 100000 ∧ TabG H A.p_are_starts ∧
  (goodB ws.length zs = false → ∀ H', ExT A.p_are_starts H H' → E (.ref A.c_NoStarts) none H') ∧ (goodB ws.length zs = true → RetT A.p_are_starts .non H Q)
theorem ok_check_starts (T : Txt K mg A) (B : Tb mg base A) : FnOk P w K mg base (L2N.CX P w) 2 A.f_check_starts A.d_check_starts ["words", "starts"] (sp_check_starts K A) := by
  refine Fun.okN T.F_check_starts sc_check_starts (fun vs H Q E h => ?_) (fun cdv Ar outer s H vs Q E hr h => ?_)
  · obtain ⟨p, q, ws, zs, rfl, _⟩ := h
    rfl
  · obtain ⟨p, q, ws, zs, rfl, hp, hq, hlen, hT, k1, k2⟩ := h
    refine ⟨_, (pss_one (ps_if (pt_not (pt_val (pe_call (ok_are_starts T B) (hr.mono (by decide)) rfl T.g_are_starts T.F_are_starts.kp T.b_are_starts .nil pass0 (pa_cons (pv 0) (pa_cons (pv 1) pa_nil)))))
  (pss_one (L2N.ps_raise rfl (L2N.takes_of rfl rfl rfl rfl) (L2N.pmk_own PySem.F.excBase_ValueError T.ex_NoStarts.x T.gc_NoStarts T.ex_NoStarts.k (raises_own T.ex_NoStarts.e.hs T.ex_NoStarts.t) rfl)))
  pss_nil)), ?_⟩
    refine s_ifNotC (ea_cons (ev_var rfl) (ea_cons (ev_var rfl) ea_nil)) fun H1 e1 => ⟨p, q, ws, zs, rfl, ex_l e1 hp, ex_l e1 hq, hlen, TabG.ex hT e1, fun H2 e2 => ?_⟩
    have e := (ExT.of_ex hT e1).trans e2
    cases hg : goodB ws.length zs with
    | true => exact ⟨true, rfl, k2 hg H2 e⟩
    | false => exact ⟨false, rfl, k1 hg H2 e⟩
/-! ### pairs -/
def Pairs (H : Hp) (l : Addr) (xs ys : List V) : Prop := ∃ ts : List Addr, H l = some (.lst (ts.map V.ref)) ∧ ts.length = min xs.length ys.length ∧ ∀ (j : Nat) (t : Addr), ts[j]? = some t → ∃ x y, xs[j]? = some x ∧ ys[j]? = some y ∧ H t = some (.tup [x, y])
def EvP (te : TE) (σ : L2.St) (H : Hp) (xs ys : List V) : Prop := ∀ H1, Ex H H1 → ∀ Q : VK, (∀ l H2, Ex H1 H2 → Pairs H2 l xs ys → Q (.ref l) H2) → te σ H1 Q
theorem s_retZip {ta : TA} {a b : Addr} {xs ys : List V} {σ : L2.St} {H : Hp} {D : Ends} (h : EvA ta σ H [.ref a, .ref b]) (ha : SqL K H a xs) (hb : SqL K H b ys) (k : ∀ l H1, Ex H H1 → Pairs H1 l xs ys → D.rt (.ref l) H1) : tRet (TwZ.tListZip K ta) D σ H :=
  h H (Ex.refl H) _ fun H1 e1 => ⟨a, b, xs, ys, rfl, ex_l e1 ha, ex_l e1 hb, fun l ts H2 z => k l H2 (e1.trans z.keep) ⟨ts, z.lst, z.len, z.pair⟩⟩
theorem el_lcP {xs ys : List V} {tl : TE} {te : TE} {j1 j2 : Nat} {vs : List Nat} {σ : L2.St} {H : Hp} (v : Nat → V) (h : EvP tl σ H xs ys) (hz : xs.length ≤ 40000) (hw : ∀ x y, wipe (((wipe σ vs).set j1 (some x)).set j2 (some y)) vs = wipe σ vs)
    (he : ∀ (i : Nat) (x y : V) H1, Ex H H1 → xs[i]? = some x → ys[i]? = some y → Ev te (((wipe σ vs).set j1 (some x)).set j2 (some y)) H1 (v i)) :
    EvL (tLc (iList K tl) (gTup K 2 (gCons (gName j1) (gCons (gName j2) gNil))) tYes te vs) σ H ((List.range (min xs.length ys.length)).map v) := fun H0 e Q q => h H0 e _ fun a H1 e1 hP => by
  obtain ⟨ts, hx, hlen, hp⟩ := hP
  refine ⟨a, rfl, ⟨_, sq_of hx⟩, fun Dl hD => ?_⟩
  rw [← hlen, ← given_all] at q
  refine lc_list (xs := ts.map V.ref) (Cw H1 (fun _ => true) v Dl) ⟨hD, Ex.new hD, upd_same⟩ (fun i H' _ p => sq_of (p.2.1 a _ hx)) (fun i x H' hi p => ?_) (fun H' p => q Dl H' (fresh_back e1 p.1) (e1.trans p.2.1) (by rw [List.length_map] at p; exact p.2.2))
  rw [List.getElem?_map] at hi
  obtain ⟨t, ht, rfl⟩ := Option.map_eq_some_iff.mp hi
  obtain ⟨x, y, h1, h2, h3⟩ := hp i t ht
  have hil := (List.getElem?_eq_some_iff.mp ht).1
  exact ⟨t, [x, y], rfl, st_of (p.2.1 t _ h3), rfl, x, [y], rfl, y, [], rfl, rfl, hw x y, cw_turn p (by omega) (et_yes) fun _ => he i x y H1 (e.trans e1) h1 h2⟩
/-! ### bounds, lines -/
def endsOf (n : Nat) (zs : List Int) : List Int := zs.drop 1 ++ [(n : Int)]
def sp_bounds (K : PySem.W.Frag) : Sp := fun vs H Q _ => ∃ (p q : Addr) (ws : List Str) (zs : List Int), vs = [.ref p, .ref q] ∧ SqL K H p (ws.map V.str) ∧ SqL K H q (zs.map V.int) ∧ zs.length ≤ 40000 ∧ ∀ l H', Ex H H' → Pairs H' l (zs.map V.int) ((endsOf ws.length zs).map V.int) → Q (.ref l) H'
theorem cut_tail (zs : List Int) : cutV (zs.map V.int) (some 1) none = (zs.drop 1).map V.int := by
  have q : HT.sIx (zs.map V.int).length 0 (some 1) = min 1 (zs.map V.int).length := HT.sIx_nat (zs.map V.int).length 0 1
  unfold cutV
  rw [q]
  show List.take ((zs.map V.int).length - min 1 (zs.map V.int).length) _ = _
  rw [List.length_map, List.map_drop]
  cases zs with
  | nil => rfl
  | cons z r =>
    have e : min 1 (z :: r).length = 1 := by rw [List.length_cons]; omega
    rw [e]
    show List.take (r.length + 1 - 1) (r.map V.int) = r.map V.int
    rw [Nat.add_sub_cancel]
    exact List.take_of_length_le (by rw [List.length_map]; exact Nat.le_refl _)
theorem ok_bounds_of (T : Txt K mg A) : FnOk P w K mg base CX0 1 A.f_bounds_of A.d_bounds_of ["words", "starts"] (sp_bounds K) := by
  refine T.F_bounds_of.ok sc_bounds_of (fun vs H Q E h => ?_) (fun cdv Ar outer s H vs Q E hr h => ?_)
  · obtain ⟨p, q, ws, zs, rfl, _⟩ := h
    rfl
  · obtain ⟨p, q, ws, zs, rfl, hp, hq, hlen, k⟩ := h
    refine ⟨_, (pss_cons (ps_set (i := 2) sc_bounds_of.nd rfl (.inl rfl) (pe_op op_cat (pe_slice (TwT.slL (K := K) rfl) (pv 1) (po_some pe_int) po_none) (pe_lst (pa_cons (pe_callB call_len_seq (by rfl) T.m_len PySem.boot_len (pa_cons (pv 0) pa_nil)) pa_nil))))
  (pss_one (ps_ret (TwZ.pe_listZip hr.hd (by rfl) T.m_list (by rfl) T.m_zip (pa_cons (pv 1) (pa_cons (pv 2) pa_nil)))))), ?_⟩
    have nlw : (ws.map V.str).length = ws.length := List.length_map ..
    refine q_asgL (xs := (endsOf ws.length zs).map V.int) (el_is (el_catN (el_sl (ev_var rfl) (eo_some ev_c) eo_none hq) (el_lst (ea_cons (ev_cb (ea_cons (ev_var rfl) ea_nil) (rc_lenL hp)) ea_nil) (show 1 ≤ 100000 by decide)) ?_) ?_) fun l H1 l0 e1 h1 => ?_
    · rw [cut_tail, List.length_map, List.length_drop]
      show _ + 1 ≤ 100000
      omega
    · rw [cut_tail]
      unfold endsOf
      rw [List.map_append, nlw]
      rfl
    · exact s_retZip (ea_cons (ev_var rfl) (ea_cons (ev_var rfl) ea_nil)) (ex_l e1 hq) (sq_of h1) fun l2 H2 e2 hP => k l2 H2 (e1.trans e2) hP
/-! ### the lines -/
theorem getI {zs : List Int} {i : Nat} {x : V} (h : (zs.map V.int)[i]? = some x) : i < zs.length ∧ x = .int (zs.getD i 0) := by
  rw [List.getElem?_map] at h
  obtain ⟨z, hz, rfl⟩ := Option.map_eq_some_iff.mp h
  refine ⟨(List.getElem?_eq_some_iff.mp hz).1, ?_⟩
  rw [List.getD_eq_getElem?_getD, hz]
  rfl
theorem good_parts {n : Nat} {zs : List Int} (h : goodB n zs = true) (hne : zs ≠ []) : zs.getD 0 0 = 0 ∧ zs.getD (zs.length - 1) 0 < (n : Int) ∧ risingB zs = true := by
  unfold goodB at h
  rw [if_neg hne, Bool.and_eq_true, Bool.and_eq_true] at h
  exact ⟨of_decide_eq_true h.1.1, of_decide_eq_true h.1.2, h.2⟩
theorem good_line {n : Nat} {zs : List Int} (h : goodB n zs = true) : ∀ i, i < zs.length → 0 ≤ zs.getD i 0 ∧ zs.getD i 0 < (endsOf n zs).getD i 0 ∧ (endsOf n zs).getD i 0 ≤ (n : Int) := fun i hi => by
  have hne : zs ≠ [] := fun e => by rw [e] at hi; exact absurd hi (Nat.not_lt_zero _)
  obtain ⟨h0, h1, h2⟩ := good_parts h hne
  have q := rising_le h2 i 0 (by omega)
  rw [Nat.zero_add] at q
  have ql := rising_le h2 (zs.length - 1 - i) i (by omega)
  have el : i + (zs.length - 1 - i) = zs.length - 1 := by omega
  rw [el] at ql
  have dl : (zs.drop 1).length = zs.length - 1 := List.length_drop
  unfold endsOf
  by_cases hi2 : i + 1 < zs.length
  · have e : (zs.drop 1 ++ [(n : Int)]).getD i 0 = zs.getD (i + 1) 0 := by
      rw [List.getD_eq_getElem?_getD, List.getElem?_append_left (by omega), List.getElem?_drop, List.getD_eq_getElem?_getD, Nat.add_comm]
    have r := rising_of h2 i hi2
    have q3 := rising_le h2 (zs.length - 1 - (i + 1)) (i + 1) (by omega)
    have el3 : i + 1 + (zs.length - 1 - (i + 1)) = zs.length - 1 := by omega
    rw [el3] at q3
    rw [e]
    omega
  · have e : (zs.drop 1 ++ [(n : Int)]).getD i 0 = (n : Int) := by
      have : i - (zs.drop 1).length = 0 := by omega
      rw [List.getD_eq_getElem?_getD, List.getElem?_append_right (by omega), this]
      rfl
    rw [e]
    omega
theorem good_len {n : Nat} {zs : List Int} (h : goodB n zs = true) : zs.length ≤ n := by
  by_cases hne : zs = []
  · rw [hne]
    exact Nat.zero_le _
  · have hl : 0 < zs.length := List.length_pos_iff.mpr hne
    obtain ⟨h0, h1, h2⟩ := good_parts h hne
    have q := rising_le h2 (zs.length - 1) 0 (by omega)
    rw [Nat.zero_add] at q
    omega
def linesOf (ws : List Str) (zs : List Int) : List Str := (List.range zs.length).map fun i => lineOf ws (zs.getD i 0).toNat ((endsOf ws.length zs).getD i 0).toNat

/-! ### textwrapper.measure -/
def sp_line_of (K : PySem.W.Frag) : Sp := fun vs H Q _ => ∃ (p : Addr) (ws : List Str) (b e : Nat), vs = [.ref p, .int b, .int e] ∧ SqL K H p (ws.map V.str) ∧ (∀ z ∈ ws, z.length ≤ 300) ∧ ws.length ≤ 2000 ∧ b ≤ e ∧ e ≤ ws.length ∧ RetV (.str (lineOf ws b e)) H Q
theorem ok_line_of (T : Txt K mg A) : FnOk P w K mg base CX0 1 A.f_line_of A.d_line_of ["words", "begin", "end"] (sp_line_of K) := by
  refine T.F_line_of.ok sc_line_of (fun vs H Q E h => ?_) (fun cdv Ar outer s H vs Q E hr h => ?_)
  · obtain ⟨p, ws, b, e, rfl, _⟩ := h
    rfl
  · obtain ⟨p, ws, b, e, rfl, hS, hz, hl, h1, h2, k⟩ := h
    refine ⟨_, (pss_one (ps_ret (TwT.pe_joinK (K := K) rfl pe_str (pe_slice (TwT.slL (K := K) rfl) (pv 0) (po_some (pv 1)) (po_some (pv 2)))))), ?_⟩
    refine s_ret (v := .str (lineOf ws b e)) (ev_joinL ev_blk (el_is (el_sl (ev_var rfl) (eo_some (ev_var rfl)) (eo_some (ev_var rfl)) hS) (cut_words h1 h2)) ?_) fun H1 e1 => k H1 e1
    have := line_fits hz hl b e
    omega

theorem ext_back {P : Addr} {H H' : Hp} {l : Addr} (e : ExT P H H') (h : H' l = none) : H l = none := by
  cases c : H l with
  | none => rfl
  | some o =>
    by_cases q : l = P
    · obtain ⟨ps, h1, h2⟩ := e.1
      rw [q, h1] at h
      cases h
    · rw [e.2 l o q c] at h
      cases h
def sp_lines_of (K : PySem.W.Frag) (A : Ad) : Sp := fun vs H Q E => ∃ (p q : Addr) (ws : List Str) (zs : List Int), vs = [.ref p, .ref q] ∧ SqL K H p (ws.map V.str) ∧ SqL K H q (zs.map V.int) ∧ zs.length ≤ 40000 ∧ (∀ z ∈ ws, z.length ≤ 300) ∧ ws.length ≤ 2000 ∧ TabG H A.p_are_starts ∧
  (goodB ws.length zs = false → ∀ H', ExT A.p_are_starts H H' → E (.ref A.c_NoStarts) none H') ∧ (goodB ws.length zs = true → ∀ l H', ExT A.p_are_starts H H' → H l = none → H' l = some (.lst ((linesOf ws zs).map V.str)) → Q (.ref l) H')
theorem ok_lines_of (T : Txt K mg A) (B : Tb mg base A) : FnOk P w K mg base (L2N.CX P w) 3 A.f_lines_of A.d_lines_of ["words", "starts"] (sp_lines_of K A) := by
  refine Fun.okN T.F_lines_of sc_lines_of (fun vs H Q E h => ?_) (fun cdv Ar outer s H vs Q E hr h => ?_)
  · obtain ⟨p, q, ws, zs, rfl, _⟩ := h
    rfl
  · obtain ⟨p, q, ws, zs, rfl, hp, hq, hlen, hz, hl, hT, k1, k2⟩ := h
    refine ⟨_, (pss_cons (ps_expr (pe_call (ok_check_starts T B) (hr.mono (by decide)) rfl T.g_check_starts T.F_check_starts.kp T.b_check_starts .nil (L2N.passes_call (L2N.takes_of rfl rfl rfl rfl) (fun _ _ _ _ h => h)) (pa_cons (pv 0) (pa_cons (pv 1) pa_nil))))
  (pss_one (ps_ret (pe_lc (own := [("begin", 2), ("end", 3)]) (g := gTup K 2 (gCons (gName 2) (gCons (gName 3) gNil))) (tt := tYes) rfl sc_lines_of.nd (pi_list (pe_call (ok_bounds_of T) (hr.mono (by decide)) rfl T.g_bounds_of T.F_bounds_of.kp T.b_bounds_of .nil pass0 (pa_cons (pv 0) (pa_cons (pv 1) pa_nil)))) (blkOk_by (N := N_lines_of) (sc := defScope s_lines_of) (by decide +kernel)) (fun _ _ _ _ _ => (by
        apply pg_tup (n := 2)
        all_goals try rfl
        apply pgs_cons
        all_goals try rfl
        focus exact pg_name (i := 2) sc_lines_of.nd rfl (.inl rfl)
        apply pgs_cons
        all_goals try rfl
        focus exact pg_name (i := 3) sc_lines_of.nd rfl (.inl rfl)
        exact pgs_nil)) (fun _ _ _ _ _ => pts_nil) (fun _ _ _ _ _ => (pe_call (ok_line_of T) (hr.mono (by decide)) rfl T.g_line_of T.F_line_of.kp T.b_line_of .nil pass0 (pa_cons (pv 0) (pa_cons (pv 2) (pa_cons (pv 3) pa_nil))))))))), ?_⟩
    refine q_dropA (ea_cons (ev_var rfl) (ea_cons (ev_var rfl) ea_nil)) fun H1 e1 => ⟨p, q, ws, zs, rfl, ex_l e1 hp, ex_l e1 hq, by omega, TabG.ex hT e1, fun hg H2 e2 => k1 hg H2 ((ExT.of_ex hT e1).trans e2), fun hg H2 e2 => ?_⟩
    have e := (ExT.of_ex hT e1).trans e2
    have hp2 := sql_tab hT e hp
    have hq2 := sql_tab hT e hq
    have gl := good_line hg
    have dl : (zs.drop 1).length = zs.length - 1 := List.length_drop
    have hlens : min (zs.map V.int).length ((endsOf ws.length zs).map V.int).length = zs.length := by
      rw [List.length_map, List.length_map]
      unfold endsOf
      rw [List.length_append, dl]
      show min zs.length (zs.length - 1 + 1) = zs.length
      omega
    refine s_retL (xs := (linesOf ws zs).map V.str) (el_is (el_lcP (xs := zs.map V.int) (ys := (endsOf ws.length zs).map V.int) (fun i => V.str (lineOf ws (zs.getD i 0).toNat ((endsOf ws.length zs).getD i 0).toNat)) (fun H3 e3 Q' k => ?_) (by rw [List.length_map]; omega) (fun _ _ => rfl) fun i x y H3 e3 hx hy => ?_) ?_) fun l H3 l0 e3 h3 => k2 hg l H3 (e.trans (ExT.of_ex e.1 e3)) (ext_back e l0) h3
    · exact (ea_cons (ev_var rfl) (ea_cons (ev_var rfl) ea_nil)) H3 (Ex.refl H3) _ fun H4 e4 => ⟨p, q, ws, zs, rfl, ex_l (e3.trans e4) hp2, ex_l (e3.trans e4) hq2, hlen, fun l H5 e5 hP => k l H5 (e4.trans e5) hP⟩
    · obtain ⟨hi, rfl⟩ := getI hx
      obtain ⟨hi2, rfl⟩ := getI hy
      obtain ⟨g1, g2, g3⟩ := gl i hi
      have c1 : (((zs.getD i 0).toNat : Nat) : Int) = zs.getD i 0 := Int.toNat_of_nonneg g1
      have c2 : ((((endsOf ws.length zs).getD i 0).toNat : Nat) : Int) = (endsOf ws.length zs).getD i 0 := Int.toNat_of_nonneg (by omega)
      refine ev_call (ea_cons (ev_var rfl) (ea_cons (ev_var rfl) (ea_cons (ev_var rfl) ea_nil))) fun H4 e4 Q' qq E' => ⟨p, ws, (zs.getD i 0).toNat, ((endsOf ws.length zs).getD i 0).toNat, by rw [c1, c2]; rfl, ex_l (e3.trans e4) hp2, hz, hl, by omega, by omega, qq⟩
    · rw [hlens]
      unfold linesOf
      rw [List.map_map]
      rfl

/-! ### fields -/
theorem ev_fld {ta : TE} {σ : L2.St} {H : Hp} {a C dx : Addr} {fs : List (Str × V)} {f : Str} {v : V} (h : Ev ta σ H (.ref a)) (hp : H a = some (.ins C dx fs)) (c : Cls K C) (n : NoAttr K C f) (l : fs.lookup f = some v) : Ev (tFld K ta f) σ H v :=
  fun H1 e Q q => h H1 e _ fun H2 e2 => ⟨a, C, dx, fs, v, rfl, e2 _ _ (e _ _ hp), c, n, l, q H2 e2⟩
theorem s_fld {ta tv : TE} {σ : L2.St} {H : Hp} {D : Ends} {a C dx : Addr} {fs : List (Str × V)} {f : Str} {v : V} (hv : Ev tv σ H v) (h : Ev ta σ H (.ref a)) (hp : H a = some (.ins C dx fs)) (c : Cls K C) (n : NoAttr K C f) (hl : fs.length < 1000)
    (k : ∀ H1, Ex H H1 → D.nx σ (upd H1 a (.ins C dx (putF f v fs)))) : sFld K ta tv f D σ H :=
  hv H (Ex.refl H) _ fun H1 e1 => h H1 e1 _ fun H2 e2 => ⟨a, C, dx, fs, rfl, e2 _ _ (e1 _ _ hp), c, n, hl, k H2 (e1.trans e2)⟩
theorem s_fldL {ta tv : TE} {σ : L2.St} {H : Hp} {D : Ends} {a C dx : Addr} {fs : List (Str × V)} {f : Str} {xs : List V} (hv : EvL tv σ H xs) (h : Ev ta σ H (.ref a)) (hp : H a = some (.ins C dx fs)) (c : Cls K C) (n : NoAttr K C f) (hl : fs.length < 1000)
    (k : ∀ p H1, H p = none → Ex H H1 → H1 p = some (.lst xs) → D.nx σ (upd H1 a (.ins C dx (putF f (.ref p) fs)))) : sFld K ta tv f D σ H :=
  hv H (Ex.refl H) _ fun p H1 p0 e1 hp1 => h H1 e1 _ fun H2 e2 => ⟨a, C, dx, fs, rfl, e2 _ _ (e1 _ _ hp), c, n, hl, k p H2 p0 (e1.trans e2) (e2 _ _ hp1)⟩
theorem q_fld {ta tv : TE} {tz : TS} {σ : L2.St} {H : Hp} {D : Ends} {a C dx : Addr} {fs : List (Str × V)} {f : Str} {v : V} (hv : Ev tv σ H v) (h : Ev ta σ H (.ref a)) (hp : H a = some (.ins C dx fs)) (c : Cls K C) (n : NoAttr K C f) (hl : fs.length < 1000)
    (k : ∀ H1, Ex H H1 → tz D σ (upd H1 a (.ins C dx (putF f v fs)))) : tSeq (sFld K ta tv f) tz D σ H := s_fld (D := { D with nx := tz D }) hv h hp c n hl k
theorem q_fldL {ta tv : TE} {tz : TS} {σ : L2.St} {H : Hp} {D : Ends} {a C dx : Addr} {fs : List (Str × V)} {f : Str} {xs : List V} (hv : EvL tv σ H xs) (h : Ev ta σ H (.ref a)) (hp : H a = some (.ins C dx fs)) (c : Cls K C) (n : NoAttr K C f) (hl : fs.length < 1000)
    (k : ∀ p H1, H p = none → Ex H H1 → H1 p = some (.lst xs) → tz D σ (upd H1 a (.ins C dx (putF f (.ref p) fs)))) : tSeq (sFld K ta tv f) tz D σ H := s_fldL (D := { D with nx := tz D }) hv h hp c n hl k
theorem s_retCA {ta : TA} {sp : Sp} {dvs vs : List V} {E : XK} {σ : L2.St} {H : Hp} {D : Ends} (h : EvA ta σ H vs) (k : ∀ H1, Ex H H1 → sp (vs ++ dvs) H1 (fun v H2 => D.rt v H2) E) : tRet (tCall sp dvs E ta) D σ H := h H (Ex.refl H) _ k
/-! ### the page -/
def pgF (wl : Addr) (w : Int) (pl : Addr) : List (Str × V) := [("words", .ref wl), ("width", .int w), ("past", .ref pl)]
theorem nwW : (("width" : Str) == "words") = false := by decide +kernel
theorem npW : (("past" : Str) == "words") = false := by decide +kernel
theorem npI : (("past" : Str) == "width") = false := by decide +kernel
theorem eqS (f : Str) : (f == f) = true := beq_self_eq_true f
theorem pg_words (wl : Addr) (w : Int) (pl : Addr) : (pgF wl w pl).lookup ("words" : Str) = some (.ref wl) := by
  unfold pgF
  rw [List.lookup_cons, eqS] <;> rfl
theorem pg_width (wl : Addr) (w : Int) (pl : Addr) : (pgF wl w pl).lookup ("width" : Str) = some (.int w) := by
  unfold pgF
  rw [List.lookup_cons, nwW]
  show List.lookup _ _ = _
  rw [List.lookup_cons, eqS] <;> rfl
theorem pg_past (wl : Addr) (w : Int) (pl : Addr) : (pgF wl w pl).lookup ("past" : Str) = some (.ref pl) := by
  unfold pgF
  rw [List.lookup_cons, npW]
  show List.lookup _ _ = _
  rw [List.lookup_cons, npI]
  show List.lookup _ _ = _
  rw [List.lookup_cons, eqS] <;> rfl
theorem pg_no (wl : Addr) (w : Int) (pl : Addr) {m : Str} (h1 : (m == ("words" : Str)) = false) (h2 : (m == ("width" : Str)) = false) (h3 : (m == ("past" : Str)) = false) : (pgF wl w pl).lookup m = none := by
  unfold pgF
  rw [List.lookup_cons, h1]
  show List.lookup _ _ = _
  rw [List.lookup_cons, h2]
  show List.lookup _ _ = _
  rw [List.lookup_cons, h3] <;> rfl
theorem nWw : ¬ (("words" : Str) = "width") := by decide +kernel
theorem nWp : ¬ (("words" : Str) = "past") := by decide +kernel
theorem nIp : ¬ (("width" : Str) = "past") := by decide +kernel
theorem put_words (wl x : Addr) (w : Int) (pl : Addr) : putF "words" (.ref x) (pgF wl w pl) = pgF x w pl := by
  show (if ("words" : Str) = "words" then _ else _) = _
  rw [if_pos rfl] <;> rfl
theorem put_width (wl : Addr) (w v : Int) (pl : Addr) : putF "width" (.int v) (pgF wl w pl) = pgF wl v pl := by
  show (if ("words" : Str) = "width" then _ else (("words" : Str), V.ref wl) :: (if ("width" : Str) = "width" then _ else _)) = _
  rw [if_neg nWw, if_pos rfl] <;> rfl
theorem put_new (wl : Addr) (w : Int) (pl : Addr) : putF "past" (.ref pl) (putF "width" (.int w) (putF "words" (.ref wl) [])) = pgF wl w pl := by
  have e1 : putF "words" (.ref wl) ([] : List (Str × V)) = ([(("words" : Str), V.ref wl)] : List (Str × V)) := rfl
  have e2 : putF "width" (.int w) ([(("words" : Str), V.ref wl)] : List (Str × V)) = ([(("words" : Str), V.ref wl), (("width" : Str), V.int w)] : List (Str × V)) := by
    show (if ("words" : Str) = "width" then _ else (("words" : Str), V.ref wl) :: [(("width" : Str), V.int w)]) = _
    rw [if_neg nWw]
  rw [e1, e2]
  show (if ("words" : Str) = "past" then _ else (("words" : Str), V.ref wl) :: (if ("width" : Str) = "past" then _ else (("width" : Str), V.int w) :: [(("past" : Str), V.ref pl)])) = _
  rw [if_neg nWp, if_neg nIp] <;> rfl
/-- what stood, stands, but for two places -/
def ExS (p pl : Addr) (H H' : Hp) : Prop := ∀ b o, b ≠ p → b ≠ pl → H b = some o → H' b = some o
theorem ExS.refl (p pl : Addr) (H : Hp) : ExS p pl H H := fun _ _ _ _ h => h
theorem ExS.trans {p pl : Addr} {H H1 H2 : Hp} (a : ExS p pl H H1) (b : ExS p pl H1 H2) : ExS p pl H H2 := fun x o h1 h2 h => b x o h1 h2 (a x o h1 h2 h)
theorem ExS.of {p pl : Addr} {H H' : Hp} (e : Ex H H') : ExS p pl H H' := fun b o _ _ h => e b o h
theorem ExS.setP {p pl : Addr} {H : Hp} {o : HO} : ExS p pl H (upd H p o) := fun b o' h1 _ h => by
  rw [upd_ne h1]
  exact h
theorem ExS.setL {p pl : Addr} {H : Hp} {o : HO} : ExS p pl H (upd H pl o) := fun b o' _ h2 h => by
  rw [upd_ne h2]
  exact h
/-- one state of the past -/
def Ls (X : List Addr) (H : Hp) : Prop := ∀ x ∈ X, ∃ xs, H x = some (.lst xs)
structure Out (X : List Addr) (H : Hp) (pl wl : Addr) : Prop where
  out : wl ∉ X
  pin : pl ∈ X
  ls : Ls X H
theorem out_ne {X : List Addr} {pl wl : Addr} (h : wl ∉ X) (k : pl ∈ X) : wl ≠ pl := fun q => h (by rw [q]; exact k)
theorem Out.ne {X : List Addr} {H : Hp} {pl wl : Addr} (h : Out X H pl wl) : wl ≠ pl := out_ne h.out h.pin
theorem Ls.grow {X : List Addr} {H H' : Hp} (h : Ls X H) (e : Ex H H') : Ls X H' := fun x hx => by
  obtain ⟨xs, q⟩ := h x hx
  exact ⟨xs, e _ _ q⟩
theorem Ls.stay {X : List Addr} {H H' : Hp} {p pl : Addr} (h : Ls X H) (e : ExS p pl H H') (hp : ∃ C dx fs, H p = some (.ins C dx fs)) (hpl : ∃ xs, H' pl = some (.lst xs)) : Ls X H' := fun x hx => by
  obtain ⟨xs, q⟩ := h x hx
  obtain ⟨C, dx, fs, hp⟩ := hp
  by_cases c : x = pl
  · rw [c]
    exact hpl
  · refine ⟨xs, e _ _ (fun c2 => ?_) c q⟩
    rw [c2, hp] at q
    cases q
def OneP (H : Hp) (X : List Addr) (t : Addr) (e : List Str × Int) : Prop := ∃ wl, wl ∉ X ∧ H t = some (.tup [.ref wl, .int e.2]) ∧ H wl = some (.lst (e.1.map V.str))
def PastP (H : Hp) (X : List Addr) (ts : List Addr) (past : List (List Str × Int)) : Prop := ts.length = past.length ∧ ∀ (i : Nat) (t : Addr) (e : List Str × Int), ts[i]? = some t → past[i]? = some e → OneP H X t e
def PageAt (A : Ad) (H : Hp) (p pl : Addr) (X : List Addr) (row : List Str) (w : Int) (past : List (List Str × Int)) : Prop := ∃ (dx wl : Addr) (ts : List Addr), H p = some (.ins A.c_Page dx (pgF wl w pl)) ∧ Out X H pl wl ∧ H wl = some (.lst (row.map V.str)) ∧ H pl = some (.lst (ts.map V.ref)) ∧ PastP H X ts past
theorem OneP.stay {H H' : Hp} {p pl t : Addr} {X : List Addr} {e : List Str × Int} (h : OneP H X t e) (hin : pl ∈ X) (x : ExS p pl H H') (hp : ∃ C dx fs, H p = some (.ins C dx fs)) (hpl : ∃ xs, H pl = some (.lst xs)) : OneP H' X t e := by
  obtain ⟨wl, h1, h2, h3⟩ := h
  obtain ⟨C, dx, fs, hp⟩ := hp
  obtain ⟨xs, hpl⟩ := hpl
  refine ⟨wl, h1, x _ _ (fun q => ?_) (fun q => ?_) h2, x _ _ (fun q => ?_) (out_ne h1 hin) h3⟩
  · rw [q, hp] at h2
    cases h2
  · rw [q, hpl] at h2
    cases h2
  · rw [q, hp] at h3
    cases h3
theorem PageAt.grow {H H' : Hp} {p pl : Addr} {X : List Addr} {row : List Str} {w : Int} {past : List (List Str × Int)} (h : PageAt A H p pl X row w past) (e : Ex H H') : PageAt A H' p pl X row w past := by
  obtain ⟨dx, wl, ts, h1, h2, h3, h4, h5, h6⟩ := h
  refine ⟨dx, wl, ts, e _ _ h1, ⟨h2.out, h2.pin, h2.ls.grow e⟩, e _ _ h3, e _ _ h4, h5, fun i t x a b => ?_⟩
  obtain ⟨wl2, g1, g2, g3⟩ := h6 i t x a b
  exact ⟨wl2, g1, e _ _ g2, e _ _ g3⟩
def sp_change (K : PySem.W.Frag) (A : Ad) : Sp := fun vs H Q _ => ∃ (p pl r : Addr) (X : List Addr) (row row' : List Str) (w w' : Int) (past : List (List Str × Int)), vs = [.ref p, .ref r, .int w'] ∧ PageAt A H p pl X row w past ∧ r ∉ X ∧ H r = some (.lst (row'.map V.str)) ∧ past.length ≤ 50000 ∧
  ∀ H', ExS p pl H H' → PageAt A H' p pl X row' w' (past ++ [(row, w)]) → Q .non H'
theorem ok_p_change (T : Txt K mg A) : FnOk P w K mg base CX0 1 A.f_p_change A.d_p_change ["self", "words", "width"] (sp_change K A) := by
  refine T.F_p_change.ok sc_p_change (fun vs H Q E h => ?_) (fun cdv Ar outer s H vs Q E hr h => ?_)
  · obtain ⟨p, pl, r, X, row, row', w, w', past, rfl, _⟩ := h
    rfl
  · obtain ⟨p, pl, r, X, row, row', w, w', past, rfl, ⟨dx, wl, ts, h1, h2, h3, h4, h5, h6⟩, hr1, hr2, hpl, k⟩ := h
    refine ⟨_, (pss_cons (ps_expr (pe_bm PySem.F.plainAttrs_list PySem.F.slot_list_append PySem.F.type_list_append mt_append (pe_fld (pv 0) rfl) (pa_cons (pe_tup (pa_cons (pe_fld (pv 0) rfl) (pa_cons (pe_fld (pv 0) rfl) pa_nil))) pa_nil)))
  (pss_cons (ps_fld (pv 0) (pv 1) rfl)
  (pss_one (ps_fld (pv 0) (pv 2) rfl)))), ?_⟩
    refine q_appU h4 (ev_fld (ev_var rfl) h1 T.cl_Page T.na_Page_past (pg_past _ _ _)) (eu_tup (vs := [.ref wl, .int w]) (ea_cons (ev_fld (ev_var rfl) h1 T.cl_Page T.na_Page_words (pg_words _ _ _)) (ea_cons (ev_fld (ev_var rfl) h1 T.cl_Page T.na_Page_width (pg_width _ _ _)) ea_nil)) (show 2 ≤ 100000 by decide)) (by rw [List.length_map]; omega) fun t H1 t0 e1 ht => ?_
    have npl : p ≠ pl := fun q => by
      rw [q, h4] at h1
      cases h1
    have hp1 : (upd H1 pl (.lst (ts.map V.ref ++ [V.ref t]))) p = some (.ins A.c_Page dx (pgF wl w pl)) := by
      rw [upd_ne npl]
      exact e1 _ _ h1
    refine q_fld (ev_var rfl) (ev_var rfl) hp1 T.cl_Page T.na_Page_words (show 3 < 1000 by decide) fun H2 e2 => ?_
    rw [put_words]
    refine s_fld (ev_var rfl) (ev_var rfl) upd_same T.cl_Page T.na_Page_width (show 3 < 1000 by decide) fun H3 e3 => ?_
    rw [put_width]
    have x1 : ExS p pl H (upd H3 p (.ins A.c_Page dx (pgF r w' pl))) := ((((ExS.of e1).trans ExS.setL).trans (ExS.of e2)).trans ExS.setP).trans ((ExS.of e3).trans ExS.setP)
    have hl3 : (upd H3 p (.ins A.c_Page dx (pgF r w' pl))) pl = some (.lst (ts.map V.ref ++ [V.ref t])) := by
      rw [upd_ne npl.symm]
      refine e3 _ _ ?_
      rw [upd_ne npl.symm]
      exact e2 _ _ upd_same
    have rp : r ≠ p := fun q => by
      rw [q, h1] at hr2
      cases hr2
    have tp : t ≠ p := fun q => by
      rw [q, h1] at t0
      cases t0
    have tpl : t ≠ pl := fun q => by
      rw [q, h4] at t0
      cases t0
    have wp : wl ≠ p := fun q => by
      rw [q, h1] at h3
      cases h3
    refine k _ x1 ⟨dx, r, ts ++ [t], upd_same, ⟨hr1, h2.pin, h2.ls.stay x1 ⟨_, _, _, h1⟩ ⟨_, hl3⟩⟩, x1 _ _ rp (out_ne hr1 h2.pin) hr2, by rw [List.map_append]; exact hl3, by rw [List.length_append, List.length_append, h5] <;> rfl, fun i u e hu he => ?_⟩
    rcases Nat.lt_or_ge i ts.length with c | c
    · rw [List.getElem?_append_left c] at hu
      rw [List.getElem?_append_left (by omega)] at he
      exact (h6 i u e hu he).stay h2.pin x1 ⟨_, _, _, h1⟩ ⟨_, h4⟩
    · rw [List.getElem?_append_right c] at hu
      rw [List.getElem?_append_right (by omega)] at he
      have ei : i - ts.length = 0 := by
        have := (List.getElem?_eq_some_iff.mp hu).1
        rw [List.length_singleton] at this
        omega
      rw [ei] at hu
      rw [← h5, ei] at he
      cases hu
      cases he
      have ht3 : H3 t = some (.tup [.ref wl, .int w]) := by
        refine e3 _ _ ?_
        rw [upd_ne tp]
        refine e2 _ _ ?_
        rw [upd_ne tpl]
        exact ht
      exact ⟨wl, h2.out, by rw [upd_ne tp]; exact ht3, x1 _ _ wp h2.ne h3⟩
def sp_words_now (K : PySem.W.Frag) (A : Ad) : Sp := fun vs H Q _ => ∃ (p pl : Addr) (X : List Addr) (row : List Str) (w : Int) (past : List (List Str × Int)), vs = [.ref p] ∧ PageAt A H p pl X row w past ∧ RetL (row.map V.str) H Q
theorem ok_p_words_now (T : Txt K mg A) : FnOk P w K mg base CX0 1 A.f_p_words_now A.d_p_words_now ["self"] (sp_words_now K A) := by
  refine T.F_p_words_now.ok sc_p_words_now (fun vs H Q E h => ?_) (fun cdv Ar outer s H vs Q E hr h => ?_)
  · obtain ⟨p, pl, X, row, w, past, rfl, _⟩ := h
    rfl
  · obtain ⟨p, pl, X, row, w, past, rfl, ⟨dx, wl, ts, h1, h2, h3, h4, h5⟩, k⟩ := h
    refine ⟨_, (pss_one (ps_ret (pe_callTy call_list_of (by rfl) T.m_list (by decide +kernel) (pa_cons (pe_fld (pv 0) rfl) pa_nil)))), ?_⟩
    exact s_retL (xs := row.map V.str) (el_listOf (ev_fld (ev_var rfl) h1 T.cl_Page T.na_Page_words (pg_words _ _ _)) (sq_of h3)) fun l H1 l0 e1 hl => k l H1 l0 e1 hl
def sp_width_now (K : PySem.W.Frag) (A : Ad) : Sp := fun vs H Q _ => ∃ (p pl : Addr) (X : List Addr) (row : List Str) (w : Int) (past : List (List Str × Int)), vs = [.ref p] ∧ PageAt A H p pl X row w past ∧ RetV (.int w) H Q
theorem ok_p_width_now (T : Txt K mg A) : FnOk P w K mg base CX0 1 A.f_p_width_now A.d_p_width_now ["self"] (sp_width_now K A) := by
  refine T.F_p_width_now.ok sc_p_width_now (fun vs H Q E h => ?_) (fun cdv Ar outer s H vs Q E hr h => ?_)
  · obtain ⟨p, pl, X, row, w, past, rfl, _⟩ := h
    rfl
  · obtain ⟨p, pl, X, row, w, past, rfl, ⟨dx, wl, ts, h1, h2, h3, h4, h5⟩, k⟩ := h
    refine ⟨_, (pss_one (ps_ret (pe_fld (pv 0) rfl))), ?_⟩
    exact s_ret (ev_fld (ev_var rfl) h1 T.cl_Page T.na_Page_width (pg_width _ _ _)) fun H1 e1 => k H1 e1
/-! ### making a page, its tables -/
def sp_init (K : PySem.W.Frag) (A : Ad) : Sp := fun vs H Q E => ∃ (p dx : Addr) (X : List Addr) (w : Int), vs = [.ref p, .int w] ∧ H p = some (.ins A.c_Page dx []) ∧ Ls X H ∧ (w < 1 → ∀ H', Ex H H' → E (.ref A.c_NoWidth) none H') ∧
  (1 ≤ w → ∀ H' pl, (∀ b o, b ≠ p → H b = some o → H' b = some o) → H pl = none → PageAt A H' p pl (pl :: X) [] w [] → Q .non H')
theorem ok_p_init (T : Txt K mg A) : FnOk P w K mg base (L2N.CX P w) 2 A.f_p_init A.d_p_init ["self", "width"] (sp_init K A) := by
  refine Fun.okN T.F_p_init sc_p_init (fun vs H Q E h => ?_) (fun cdv Ar outer s H vs Q E hr h => ?_)
  · obtain ⟨p, dx, X, w, rfl, _⟩ := h
    rfl
  · obtain ⟨p, dx, X, w, rfl, hp, hX, h1, h2⟩ := h
    refine ⟨_, (pss_cons (ps_expr (pe_call (ok_check_width T) (hr.mono (by decide)) rfl T.g_check_width T.F_check_width.kp T.b_check_width .nil (L2N.passes_call (L2N.takes_of rfl rfl rfl rfl) (fun _ _ _ _ h => h)) (pa_cons (pv 1) pa_nil)))
  (pss_cons (ps_fld (pv 0) (pe_lst pa_nil) rfl)
  (pss_cons (ps_fld (pv 0) (pv 1) rfl)
  (pss_one (ps_fld (pv 0) (pe_lst pa_nil) rfl))))), ?_⟩
    refine q_dropA (ea_cons (ev_var rfl) ea_nil) fun H1 e1 => ⟨w, rfl, fun hw H' e' => h1 hw H' (e1.trans e'), fun hw H2 e2 => ?_⟩
    have k := h2 hw
    have hp2 := e2 _ _ (e1 _ _ hp)
    refine q_fldL (xs := []) (el_lst ea_nil (Nat.zero_le _)) (ev_var rfl) hp2 T.cl_Page T.na_Page_words (show 0 < 1000 by decide) fun wl H3 wl0 e3 hwl => ?_
    have wp : wl ≠ p := fun q => by
      rw [q, hp2] at wl0
      cases wl0
    refine q_fld (ev_var rfl) (ev_var rfl) upd_same T.cl_Page T.na_Page_width (show 1 < 1000 by decide) fun H4 e4 => ?_
    refine s_fldL (xs := []) (el_lst ea_nil (Nat.zero_le _)) (ev_var rfl) upd_same T.cl_Page T.na_Page_past (show 2 < 1000 by decide) fun pl H5 pl0 e5 hpl => ?_
    rw [put_new]
    have w4 : (upd H4 p (.ins A.c_Page dx (putF "width" (.int w) (putF "words" (.ref wl) [])))) wl = some (.lst []) := by
      rw [upd_ne wp]
      refine e4 _ _ ?_
      rw [upd_ne wp]
      exact hwl
    have plp : pl ≠ p := fun q => by
      rw [q, upd_same] at pl0
      cases pl0
    have wpl : wl ≠ pl := fun q => by
      rw [← q, w4] at pl0
      cases pl0
    have xall : ∀ b o, b ≠ p → H b = some o → H5 b = some o := fun b o hb ho => by
      refine e5 _ _ ?_
      rw [upd_ne hb]
      refine e4 _ _ ?_
      rw [upd_ne hb]
      exact e3 _ _ (e2 _ _ (e1 _ _ ho))
    refine k _ pl (fun b o hb ho => by rw [upd_ne hb]; exact xall b o hb ho) ?_ ⟨dx, wl, [], upd_same, ⟨fun q => ?_, List.mem_cons_self .., fun x hx => ?_⟩, by rw [upd_ne wp]; exact e5 _ _ w4, by rw [upd_ne plp]; exact hpl, rfl, fun i t e a b => by simp at a⟩
    rotate_left
    · rcases List.mem_cons.mp q with c | c
      · exact wpl c
      · obtain ⟨xs, hx⟩ := hX wl c
        have c2 := e2 _ _ (e1 _ _ hx)
        rw [wl0] at c2
        cases c2
    · rcases List.mem_cons.mp hx with c | c
      · rw [c, upd_ne plp]
        exact ⟨_, hpl⟩
      · obtain ⟨xs, hx⟩ := hX x c
        have xp : x ≠ p := fun q => by
          rw [q, hp] at hx
          cases hx
        rw [upd_ne xp]
        exact ⟨xs, xall x _ xp hx⟩
    cases c : H pl with
    | none => rfl
    | some o =>
      have c2 : (upd H4 p (.ins A.c_Page dx (putF "width" (.int w) (putF "words" (.ref wl) [])))) pl = some o := by
        rw [upd_ne plp]
        refine e4 _ _ ?_
        rw [upd_ne plp]
        exact e3 _ _ (e2 _ _ (e1 _ _ c))
      rw [c2] at pl0
      cases pl0
def Good (row : List Str) (w : Int) : Prop := 1 ≤ w ∧ WidB w ∧ row.length ≤ 120 ∧ (∀ z ∈ row, z.length ≤ 300) ∧ ∀ z ∈ row, (z.length : Int) ≤ w
def sp_table_now (K : PySem.W.Frag) (A : Ad) : Sp := fun vs H Q _ => ∃ (p pl : Addr) (X : List Addr) (row : List Str) (w : Int) (past : List (List Str × Int)), vs = [.ref p] ∧ PageAt A H p pl X row w past ∧ Good row w ∧ ∀ t, IsTab row w t → RetL ((tabL t row.length).map V.int) H Q
theorem ok_p_table_now (T : Txt K mg A) : FnOk P w K mg base (L2N.CX P w) 5 A.f_p_table_now A.d_p_table_now ["self"] (sp_table_now K A) := by
  refine Fun.okN T.F_p_table_now sc_p_table_now (fun vs H Q E h => ?_) (fun cdv Ar outer s H vs Q E hr h => ?_)
  · obtain ⟨p, pl, X, row, w, past, rfl, _⟩ := h
    rfl
  · obtain ⟨p, pl, X, row, w, past, rfl, ⟨dx, wl, ts, h1, h2, h3, h4, h5⟩, ⟨g1, g2, g3, g4, g5⟩, k⟩ := h
    refine ⟨_, (pss_one (ps_ret (pe_call (ok_table_of T) (hr.mono (by decide)) rfl T.g_table_of T.F_table_of.kp T.b_table_of .nil (L2N.passes_call (L2N.takes_of rfl rfl rfl rfl) (fun _ _ _ _ h => h)) (pa_cons (pe_fld (pv 0) rfl) (pa_cons (pe_fld (pv 0) rfl) pa_nil))))), ?_⟩
    refine s_retCA (ea_cons (ev_fld (ev_var rfl) h1 T.cl_Page T.na_Page_words (pg_words _ _ _)) (ea_cons (ev_fld (ev_var rfl) h1 T.cl_Page T.na_Page_width (pg_width _ _ _)) ea_nil)) fun H1 e1 => ⟨wl, row, w, rfl, sq_of (e1 _ _ h3), g4, by omega, g2, fun q => absurd q (by omega), fun _ ⟨z, hz, q⟩ => absurd (g5 z hz) (by omega), fun _ _ t ht l H2 l0 e2 hl => k t ht l H2 (fresh_back e1 l0) (e1.trans e2) hl⟩
def sp_starts_now (K : PySem.W.Frag) (A : Ad) : Sp := fun vs H Q _ => ∃ (p pl : Addr) (X : List Addr) (row : List Str) (w : Int) (past : List (List Str × Int)), vs = [.ref p] ∧ PageAt A H p pl X row w past ∧ Good row w ∧ ∀ t S, IsTab row w t → BestW row w t S → RetL (nats S) H Q
theorem ok_p_starts_now (T : Txt K mg A) : FnOk P w K mg base (L2N.CX P w) 6 A.f_p_starts_now A.d_p_starts_now ["self"] (sp_starts_now K A) := by
  refine Fun.okN T.F_p_starts_now sc_p_starts_now (fun vs H Q E h => ?_) (fun cdv Ar outer s H vs Q E hr h => ?_)
  · obtain ⟨p, pl, X, row, w, past, rfl, _⟩ := h
    rfl
  · obtain ⟨p, pl, X, row, w, past, rfl, ⟨dx, wl, ts, h1, h2, h3, h4, h5⟩, ⟨g1, g2, g3, g4, g5⟩, k⟩ := h
    refine ⟨_, (pss_one (ps_ret (pe_call (ok_best_starts T) (hr.mono (by decide)) rfl T.g_best_starts T.F_best_starts.kp T.b_best_starts .nil (L2N.passes_call (L2N.takes_of rfl rfl rfl rfl) (fun _ _ _ _ h => h)) (pa_cons (pe_fld (pv 0) rfl) (pa_cons (pe_fld (pv 0) rfl) pa_nil))))), ?_⟩
    refine s_retCA (ea_cons (ev_fld (ev_var rfl) h1 T.cl_Page T.na_Page_words (pg_words _ _ _)) (ea_cons (ev_fld (ev_var rfl) h1 T.cl_Page T.na_Page_width (pg_width _ _ _)) ea_nil)) fun H1 e1 => ⟨wl, row, w, rfl, sq_of (e1 _ _ h3), g4, by omega, g2, fun q => absurd q (by omega), fun _ ⟨z, hz, q⟩ => absurd (g5 z hz) (by omega), fun _ _ t S ht hS l H2 l0 e2 hl => k t S ht hS l H2 (fresh_back e1 l0) (e1.trans e2) hl⟩
/-! ### widen, drop, undo -/
theorem q_methA {C : Addr} {m : Str} {ta : TE} {t : TA} {sp : Sp} {dvs vs : List V} {E : XK} {tz : TS} {σ : L2.St} {H : Hp} {D : Ends} {a dx : Addr} {fs : List (Str × V)} (ha : Ev ta σ H (.ref a)) (hp : H a = some (.ins C dx fs)) (hm : fs.lookup m = none) (h : EvA t σ H vs)
    (k : ∀ H1, Ex H H1 → sp (.ref a :: (vs ++ dvs)) H1 (fun _ H2 => tz D σ H2) E) : tSeq (tDrop (tMeth C m sp dvs E ta t)) tz D σ H :=
  ha H (Ex.refl H) _ fun H1 e1 => ⟨a, dx, fs, rfl, e1 _ _ hp, hm, h H1 e1 _ fun H2 e2 => k H2 (e1.trans e2)⟩
theorem s_methA {C : Addr} {m : Str} {ta : TE} {t : TA} {sp : Sp} {dvs vs : List V} {E : XK} {σ : L2.St} {H : Hp} {D : Ends} {a dx : Addr} {fs : List (Str × V)} (ha : Ev ta σ H (.ref a)) (hp : H a = some (.ins C dx fs)) (hm : fs.lookup m = none) (h : EvA t σ H vs)
    (k : ∀ H1, Ex H H1 → sp (.ref a :: (vs ++ dvs)) H1 (fun _ H2 => D.nx σ H2) E) : tDrop (tMeth C m sp dvs E ta t) D σ H :=
  ha H (Ex.refl H) _ fun H1 e1 => ⟨a, dx, fs, rfl, e1 _ _ hp, hm, h H1 e1 _ fun H2 e2 => k H2 (e1.trans e2)⟩
theorem q_methP {C : Addr} {m : Str} {ta : TE} {t : TA} {sp : Sp} {dvs : List V} {E : XK} {tz : TS} {σ : L2.St} {H : Hp} {D : Ends} {a dx : Addr} {fs : List (Str × V)} {P : List V → Hp → Prop} (ha : Ev ta σ H (.ref a)) (hp : H a = some (.ins C dx fs)) (hm : fs.lookup m = none) (h : ArgP t σ H P)
    (k : ∀ vs H1, Ex H H1 → P vs H1 → sp (.ref a :: (vs ++ dvs)) H1 (fun _ H2 => tz D σ H2) E) : tSeq (tDrop (tMeth C m sp dvs E ta t)) tz D σ H :=
  ha H (Ex.refl H) _ fun H1 e1 => ⟨a, dx, fs, rfl, e1 _ _ hp, hm, h H1 e1 _ fun vs H2 e2 hP => k vs H2 (e1.trans e2) hP⟩
theorem s_methP {C : Addr} {m : Str} {ta : TE} {t : TA} {sp : Sp} {dvs : List V} {E : XK} {σ : L2.St} {H : Hp} {D : Ends} {a dx : Addr} {fs : List (Str × V)} {P : List V → Hp → Prop} (ha : Ev ta σ H (.ref a)) (hp : H a = some (.ins C dx fs)) (hm : fs.lookup m = none) (h : ArgP t σ H P)
    (k : ∀ vs H1, Ex H H1 → P vs H1 → sp (.ref a :: (vs ++ dvs)) H1 (fun _ H2 => D.nx σ H2) E) : tDrop (tMeth C m sp dvs E ta t) D σ H :=
  ha H (Ex.refl H) _ fun H1 e1 => ⟨a, dx, fs, rfl, e1 _ _ hp, hm, h H1 e1 _ fun vs H2 e2 hP => k vs H2 (e1.trans e2) hP⟩
theorem m_change (wl : Addr) (w : Int) (pl : Addr) : (pgF wl w pl).lookup ("change" : Str) = none := pg_no _ _ _ (by decide +kernel) (by decide +kernel) (by decide +kernel)
def sp_widen (K : PySem.W.Frag) (A : Ad) : Sp := fun vs H Q E => ∃ (p pl : Addr) (X : List Addr) (row : List Str) (w w' : Int) (past : List (List Str × Int)), vs = [.ref p, .int w'] ∧ PageAt A H p pl X row w past ∧ (∀ z ∈ row, z.length ≤ 300) ∧ past.length ≤ 50000 ∧
  (w' < 1 → ∀ H', Ex H H' → E (.ref A.c_NoWidth) none H') ∧ (1 ≤ w' → (∃ z ∈ row, w' < (z.length : Int)) → ∀ H', Ex H H' → E (.ref A.c_LongWord) none H') ∧
  (1 ≤ w' → (∀ z ∈ row, (z.length : Int) ≤ w') → ∀ H', ExS p pl H H' → PageAt A H' p pl X row w' (past ++ [(row, w)]) → Q .non H')
theorem ok_p_widen (T : Txt K mg A) : FnOk P w K mg base (L2N.CX P w) 4 A.f_p_widen A.d_p_widen ["self", "width"] (sp_widen K A) := by
  refine Fun.okN T.F_p_widen sc_p_widen (fun vs H Q E h => ?_) (fun cdv Ar outer s H vs Q E hr h => ?_)
  · obtain ⟨p, pl, X, row, w, w', past, rfl, _⟩ := h
    rfl
  · obtain ⟨p, pl, X, row, w, w', past, rfl, hP, hz, hpl, k1, k2, k3⟩ := h
    obtain ⟨dx, wl, ts, h1, h2, h3, h4, h5⟩ := id hP
    refine ⟨_, (pss_cons (ps_expr (pe_call (ok_check_words T) (hr.mono (by decide)) rfl T.g_check_words T.F_check_words.kp T.b_check_words .nil (L2N.passes_call (L2N.takes_of rfl rfl rfl rfl) (fun _ _ _ _ h => h)) (pa_cons (pe_fld (pv 0) rfl) (pa_cons (pv 1) pa_nil))))
  (pss_one (ps_expr (pe_meth (pv 0) T.cl_Page T.me_p_change (ok_p_change T) (hr.mono (by decide)) T.b_p_change .nil pass0 (pa_cons (pe_fld (pv 0) rfl) (pa_cons (pv 1) pa_nil)))))), ?_⟩
    refine q_dropA (ea_cons (ev_fld (ev_var rfl) h1 T.cl_Page T.na_Page_words (pg_words _ _ _)) (ea_cons (ev_var rfl) ea_nil)) fun H1 e1 => ⟨wl, row, w', rfl, sq_of (e1 _ _ h3), hz, fun hw H' e' => k1 hw H' (e1.trans e'), fun hw hx H' e' => k2 hw hx H' (e1.trans e'), fun hw hx H2 e2 => ?_⟩
    have e12 := e1.trans e2
    refine s_methA (ev_var rfl) (e12 _ _ h1) (m_change _ _ _) (ea_cons (ev_fld (ev_var rfl) (e12 _ _ h1) T.cl_Page T.na_Page_words (pg_words _ _ _)) (ea_cons (ev_var rfl) ea_nil)) fun H3 e3 => ⟨p, pl, wl, X, row, row, w, w', past, rfl, hP.grow (e12.trans e3), h2.out, e3 _ _ (e12 _ _ h3), hpl, fun H' x q => k3 hw hx H' ((ExS.of (e12.trans e3)).trans x) q⟩
theorem ap_consF {te : TE} {tr : TA} {P : List V → Hp → Prop} {xs : List V} {σ : L2.St} {H : Hp} (h : EvL te σ H xs) (hr : ArgP tr σ H P) : ArgP (tCons te tr) σ H (fun vs H' => ∃ p r, vs = .ref p :: r ∧ H p = none ∧ H' p = some (.lst xs) ∧ P r H') := fun H1 e Q q =>
  h H1 e _ fun p H2 p0 e2 hp => hr H2 (e.trans e2) _ fun vs H3 e3 hP => q _ H3 (e2.trans e3) ⟨p, vs, rfl, fresh_back e p0, e3 _ _ hp, hP⟩
def dropAt (row : List Str) (j : Nat) : List Str := row.take j ++ row.drop (j + 1)
theorem cut_pre (row : List Str) (j : Nat) : cutV (row.map V.str) none (some (j : Int)) = (row.take j).map V.str := by
  unfold cutV
  rw [HT.sIx_none, HT.sIx_nat, List.drop_zero, Nat.sub_zero, List.length_map, List.map_take]
  rcases Nat.le_total j row.length with h | h
  · rw [Nat.min_eq_left h]
  · rw [Nat.min_eq_right h, List.take_of_length_le (i := j) (by rw [List.length_map]; exact h), List.take_of_length_le (by rw [List.length_map]; exact Nat.le_refl _)]
theorem cut_post (row : List Str) (j : Nat) : cutV (row.map V.str) (some (j : Int)) none = (row.drop j).map V.str := by
  unfold cutV
  rw [HT.sIx_none, HT.sIx_nat, List.length_map, List.map_drop]
  rcases Nat.le_total j row.length with h | h
  · rw [Nat.min_eq_left h, List.take_of_length_le (by rw [List.length_drop, List.length_map]; omega)]
  · rw [Nat.min_eq_right h, Nat.sub_self, List.take_zero, List.drop_of_length_le (by rw [List.length_map]; exact h)]
def sp_drop (K : PySem.W.Frag) (A : Ad) : Sp := fun vs H Q E => ∃ (p pl : Addr) (X : List Addr) (row : List Str) (w at_ : Int) (past : List (List Str × Int)), vs = [.ref p, .int at_] ∧ PageAt A H p pl X row w past ∧ row.length ≤ 2000 ∧ past.length ≤ 50000 ∧
  ((at_ < 0 ∨ (row.length : Int) ≤ at_) → ∀ H', Ex H H' → E (.ref A.c_NoPlace) none H') ∧
  (∀ (j : Nat) (hj : j < row.length), at_ = (j : Int) → ∀ H', ExS p pl H H' → PageAt A H' p pl X (dropAt row j) w (past ++ [(row, w)]) → Q (.str row[j]) H')
theorem ok_p_drop (T : Txt K mg A) : FnOk P w K mg base (L2N.CX P w) 2 A.f_p_drop A.d_p_drop ["self", "at"] (sp_drop K A) := by
  refine Fun.okN T.F_p_drop sc_p_drop (fun vs H Q E h => ?_) (fun cdv Ar outer s H vs Q E hr h => ?_)
  · obtain ⟨p, pl, X, row, w, at_, past, rfl, _⟩ := h
    rfl
  · obtain ⟨p, pl, X, row, w, at_, past, rfl, hP, hl, hpl, k1, k2⟩ := h
    obtain ⟨dx, wl, ts, h1, h2, h3, h4, h5⟩ := id hP
    refine ⟨_, (pss_cons (ps_if (PW.pt (pw_or (pt_cmpR op_lt (pv 1) pe_int (nomark _)) (pw_or1 (pt_cmpR op_ge (pv 1) (pe_callB call_len_seq (by rfl) T.m_len PySem.boot_len (pa_cons (pe_fld (pv 0) rfl) pa_nil)) (nomark _)))))
  (pss_one (L2N.ps_raise rfl (L2N.takes_of rfl rfl rfl rfl) (L2N.pmk_own PySem.F.excBase_ValueError T.ex_NoPlace.x T.gc_NoPlace T.ex_NoPlace.k (raises_own T.ex_NoPlace.e.hs T.ex_NoPlace.t) rfl)))
  pss_nil)
  (pss_cons (ps_set (i := 2) sc_p_drop.nd rfl (.inl rfl) (pe_ix (ixL (K := K) rfl) (pe_fld (pv 0) rfl) (pv 1) (fun _ _ => rfl)))
  (pss_cons (ps_expr (pe_meth (pv 0) T.cl_Page T.me_p_change (ok_p_change T) (hr.mono (by decide)) T.b_p_change .nil pass0 (pa_cons (pe_op op_cat (pe_slice (TwT.slL (K := K) rfl) (pe_fld (pv 0) rfl) po_none (po_some (pv 1))) (pe_slice (TwT.slL (K := K) rfl) (pe_fld (pv 0) rfl) (po_some (pe_op op_add (pv 1) pe_int)) po_none)) (pa_cons (pe_fld (pv 0) rfl) pa_nil))))
  (pss_one (ps_ret (pv 2)))))), ?_⟩
    have nl : (row.map V.str).length = row.length := List.length_map ..
    have fw : ∀ {σ : L2.St} {H' : Hp}, Ex H H' → σ[0]? = some (some (.ref p)) → Ev (tFld K (tVar 0) "words") σ H' (.ref wl) := fun e g => ev_fld (ev_var g) (e _ _ h1) T.cl_Page T.na_Page_words (pg_words _ _ _)
    refine q_when (b := decide (at_ < 0) || decide ((row.length : Int) ≤ at_)) (et_or (et_test (ev_op (ev_var rfl) ev_c rv_I0)) fun _ => et_test (ev_op (ev_var rfl) (ev_is (ev_cb (ea_cons (fw (Ex.refl H) rfl) ea_nil) (rc_lenL (sq_of h3))) (by rw [nl])) rv_I0)) (fun hb H1 e1 => ?_) (fun hb H1 e1 => ?_)
    · refine k1 ?_ H1 e1
      rw [Bool.or_eq_true] at hb
      rcases hb with q | q
      · exact .inl (of_decide_eq_true q)
      · exact .inr (of_decide_eq_true q)
    · rw [Bool.or_eq_false_iff] at hb
      have a0 := of_decide_eq_false hb.1
      have a1 := of_decide_eq_false hb.2
      obtain ⟨j, rfl⟩ : ∃ j : Nat, at_ = (j : Int) := ⟨at_.toNat, by omega⟩
      have hj : j < row.length := by omega
      refine q_asg (v := .str row[j]) (ev_op (fw e1 rfl) (ev_var rfl) (rv_ixL (sq_of (e1 _ _ h3)) (atI_nat (by rw [List.getElem?_map, List.getElem?_eq_getElem hj] <;> rfl)))) fun H2 e2 => ?_
      have e12 := e1.trans e2
      refine q_methP (ev_var rfl) (e12 _ _ h1) (m_change _ _ _) (ap_consF (xs := (dropAt row j).map V.str) (el_is (el_catN (el_sl (hi := some (j : Int)) (fw e12 rfl) eo_none (eo_some (ev_var rfl)) (sq_of (e12 _ _ h3))) (el_sl (lo := some ((j + 1 : Nat) : Int)) (fw e12 rfl) (eo_some (ev_is (ev_op (ev_var rfl) ev_c rv_I0) (congrArg V.int (by omega)))) eo_none (sq_of (e12 _ _ h3))) ?_) ?_) (ap_cons (ev_fld (ev_var rfl) (e12 _ _ h1) T.cl_Page T.na_Page_width (pg_width _ _ _)) ap_nil)) ?_
      · rw [cut_pre, cut_post, List.length_map, List.length_map, List.length_take, List.length_drop]
        omega
      · rw [cut_pre, cut_post, ← List.map_append] <;> rfl
      · rintro vs H3 e3 ⟨r, r2, rfl, r0, hr3, r3, rfl, rfl⟩
        refine ⟨p, pl, r, X, row, dropAt row j, w, w, past, rfl, hP.grow (e12.trans e3), fun q => ?_, hr3, hpl, fun H' x q => ?_⟩
        · obtain ⟨xs, hx⟩ := h2.ls r q
          rw [e12 _ _ hx] at r0
          cases r0
        · exact s_ret (v := .str row[j]) (ev_var rfl) fun H5 e5 => k2 j hj rfl H5 (((ExS.of (e12.trans e3)).trans x).trans (ExS.of e5)) (q.grow e5)
theorem s_pop {te : TE} {g : TG} {σ : L2.St} {H : Hp} {D : Ends} {l : Addr} {xs : List V} {y : V} (h : Ev te σ H (.ref l)) (hl : H l = some (.lst xs)) (hy : xs[xs.length - 1]? = some y) (k : ∀ H1, Ex H H1 → g y σ (upd H1 l (.lst xs.dropLast)) D.nx) : tAsg (tBM0 K "list" rPop te) g D σ H :=
  h H (Ex.refl H) _ fun H1 e1 => ⟨Or.inl ⟨rfl, xs, sq_of (e1 _ _ hl)⟩, l, xs, y, rfl, rfl, e1 _ _ hl, hy, k H1 e1⟩
def sp_undo (K : PySem.W.Frag) (A : Ad) : Sp := fun vs H Q E => ∃ (p pl : Addr) (X : List Addr) (row : List Str) (w : Int) (past : List (List Str × Int)), vs = [.ref p] ∧ PageAt A H p pl X row w past ∧
  (past = [] → ∀ H', Ex H H' → E (.ref A.c_NoWayBack) none H') ∧ (∀ past0 e, past = past0 ++ [e] → ∀ H', ExS p pl H H' → PageAt A H' p pl X e.1 e.2 past0 → Q .non H')
theorem ok_p_undo (T : Txt K mg A) : FnOk P w K mg base (L2N.CX P w) 1 A.f_p_undo A.d_p_undo ["self"] (sp_undo K A) := by
  refine Fun.okN T.F_p_undo sc_p_undo (fun vs H Q E h => ?_) (fun cdv Ar outer s H vs Q E hr h => ?_)
  · obtain ⟨p, pl, X, row, w, past, rfl, _⟩ := h
    rfl
  · obtain ⟨p, pl, X, row, w, past, rfl, ⟨dx, wl, ts, h1, h2, h3, h4, h5, h6⟩, k1, k2⟩ := h
    refine ⟨_, (pss_cons (ps_if (pt_not (pt_truth (pe_fld (pv 0) rfl) (fun _ => rfl)))
  (pss_one (L2N.ps_raise rfl (L2N.takes_of rfl rfl rfl rfl) (L2N.pmk_own PySem.F.excBase_ValueError T.ex_NoWayBack.x T.gc_NoWayBack T.ex_NoWayBack.k (raises_own T.ex_NoWayBack.e.hs T.ex_NoWayBack.t) rfl)))
  pss_nil)
  (pss_one (ps_asg (pe_bm0 PySem.F.plainAttrs_list PySem.F.slot_list_pop PySem.F.type_list_pop mt_pop (pe_fld (pv 0) rfl)) (pg_tup rfl (pgs_cons (TwO.pg_fld (pv 0)) (pgs_cons (TwO.pg_fld (pv 0)) pgs_nil)))))), ?_⟩
    have fp : ∀ {σ : L2.St} {H' : Hp}, Ex H H' → σ[0]? = some (some (.ref p)) → Ev (tFld K (tVar 0) "past") σ H' (.ref pl) := fun e g => ev_fld (ev_var g) (e _ _ h1) T.cl_Page T.na_Page_past (pg_past _ _ _)
    refine q_when (b := !(!(ts.map V.ref).isEmpty)) (et_not (et_tru (fp (Ex.refl H) rfl) (sq_of h4))) (fun hb H1 e1 => ?_) (fun hb H1 e1 => ?_)
    · refine k1 ?_ H1 e1
      rw [Bool.not_not, List.isEmpty_iff, List.map_eq_nil_iff] at hb
      rw [hb] at h5
      exact List.length_eq_zero_iff.mp h5.symm
    · rw [Bool.not_not, List.isEmpty_eq_false_iff, ne_eq, List.map_eq_nil_iff] at hb
      obtain ⟨ts0, t, rfl⟩ : ∃ ts0 t, ts = ts0 ++ [t] := ⟨ts.dropLast, ts.getLast hb, (List.dropLast_concat_getLast hb).symm⟩
      have hpe : past ≠ [] := fun q => by
        rw [q, List.length_append] at h5
        cases h5
      obtain ⟨past0, e, rfl⟩ : ∃ past0 e, past = past0 ++ [e] := ⟨past.dropLast, past.getLast hpe, (List.dropLast_concat_getLast hpe).symm⟩
      have hl0 : ts0.length = past0.length := by
        rw [List.length_append, List.length_append] at h5
        exact Nat.add_right_cancel h5
      obtain ⟨wl2, g1, g2, g3⟩ := h6 ts0.length t e (by simp) (by rw [hl0]; simp)
      have npl : p ≠ pl := fun q => by
        rw [q, h4] at h1
        cases h1
      have tp : t ≠ p := fun q => by
        rw [q, h1] at g2
        cases g2
      have tpl : t ≠ pl := fun q => by
        rw [q, h4] at g2
        cases g2
      have wp : wl2 ≠ p := fun q => by
        rw [q, h1] at g3
        cases g3
      refine s_pop (y := .ref t) (fp e1 rfl) (e1 _ _ h4) (by rw [List.map_append]; simp) fun H2 e2 => ?_
      have e12 := e1.trans e2
      have edl : ((ts0 ++ [t]).map V.ref).dropLast = ts0.map V.ref := by rw [List.map_append]; simp
      rw [edl]
      have hp2 : (upd H2 pl (.lst (ts0.map V.ref))) p = some (.ins A.c_Page dx (pgF wl w pl)) := by
        rw [upd_ne npl]
        exact e12 _ _ h1
      refine ⟨t, [.ref wl2, .int e.2], rfl, SqT.of (by rw [upd_ne tpl]; exact e12 _ _ g2), rfl, _, _, rfl, ⟨_, rfl, p, _, dx, _, rfl, hp2, T.cl_Page, T.na_Page_words, show 3 < 1000 by decide, _, _, rfl, ?_⟩⟩
      rw [put_words]
      refine ⟨_, rfl, p, _, dx, _, rfl, upd_same, T.cl_Page, T.na_Page_width, show 3 < 1000 by decide, rfl, ?_⟩
      rw [put_width]
      have x1 : ExS p pl H (upd (upd (upd H2 pl (.lst (ts0.map V.ref))) p (.ins A.c_Page dx (pgF wl2 w pl))) p (.ins A.c_Page dx (pgF wl2 e.2 pl))) := (((ExS.of e12).trans ExS.setL).trans ExS.setP).trans ExS.setP
      have hl5 : (upd (upd (upd H2 pl (.lst (ts0.map V.ref))) p (.ins A.c_Page dx (pgF wl2 w pl))) p (.ins A.c_Page dx (pgF wl2 e.2 pl))) pl = some (.lst (ts0.map V.ref)) := by
        rw [upd_ne npl.symm, upd_ne npl.symm]
        exact upd_same
      refine k2 past0 e rfl _ x1 ⟨dx, wl2, ts0, upd_same, ⟨g1, h2.pin, h2.ls.stay x1 ⟨_, _, _, h1⟩ ⟨_, hl5⟩⟩, x1 _ _ wp (out_ne g1 h2.pin) g3, by rw [upd_ne npl.symm, upd_ne npl.symm]; exact upd_same, hl0, fun i u x hu hx => ?_⟩
      exact (h6 i u x (by rw [List.getElem?_append_left (List.getElem?_eq_some_iff.mp hu).1]; exact hu) (by rw [List.getElem?_append_left (List.getElem?_eq_some_iff.mp hx).1]; exact hx)).stay h2.pin x1 ⟨_, _, _, h1⟩ ⟨_, h4⟩
/-! ### words_of, is_word -/
def sp_words_of (K : PySem.W.Frag) : Sp := fun vs H Q _ => ∃ (z : Str), vs = [.str z] ∧ z.length ≤ 60000 ∧ RetL ((Txt.words z).map V.str) H Q
theorem ok_words_of (T : Txt K mg A) : FnOk P w K mg base CX0 1 A.f_words_of A.d_words_of ["text"] (sp_words_of K) := by
  refine T.F_words_of.ok sc_words_of (fun vs H Q E h => ?_) (fun cdv Ar outer s H vs Q E hr h => ?_)
  · obtain ⟨z, rfl, _⟩ := h
    rfl
  · obtain ⟨z, rfl, hlen, k⟩ := h
    refine ⟨_, (pss_one (ps_ret (pe_words (pv 0)))), ?_⟩
    exact s_retL (el_words (a := z) (ev_var rfl) (by omega)) fun p H2 hp e2 h2 => k p H2 hp e2 h2
def sp_is_word (K : PySem.W.Frag) : Sp := fun vs H Q _ => ∃ (z : Str), vs = [.str z] ∧ Txs z ∧ z.length ≤ 1000 ∧ RetV (.bl (decide (Txt.words z = [z]))) H Q
theorem ok_is_word (T : Txt K mg A) : FnOk P w K mg base CX0 2 A.f_is_word A.d_is_word ["text"] (sp_is_word K) := by
  refine T.F_is_word.ok sc_is_word (fun vs H Q E h => ?_) (fun cdv Ar outer s H vs Q E hr h => ?_)
  · obtain ⟨z, rfl, _⟩ := h
    rfl
  · obtain ⟨z, rfl, hz, hlen, k⟩ := h
    refine ⟨_, (pss_one (ps_ret (pe_cmpR (op_eqD hr.units) (pe_call (ok_words_of T) (hr.mono (by decide)) rfl T.g_words_of T.F_words_of.kp T.b_words_of .nil pass0 (pa_cons (pv 0) pa_nil)) (pe_lst (pa_cons (pv 0) pa_nil)) (nomark _)))), ?_⟩
    refine s_ret (v := .bl (decide (Txt.words z = [z]))) (ev_opLL (xs := (Txt.words z).map V.str) (ys := [z].map V.str) (el_call (ea_cons (ev_var rfl) ea_nil) fun H1 e1 Q q E => ⟨z, rfl, by omega, q⟩) (el_lst (ea_cons (ev_var rfl) ea_nil) (Nat.le_of_ble_eq_true rfl)) fun p q H1 hp hq e1 => rv_eqS (sq_of hp) (sq_of hq) ?_ ?_) fun H2 e2 => k H2 e2
    · exact fun y hy c hc => (Ts.lt (.inr (.inr (((words_ok hz).2.2 y hy).2 c hc))))
    · intro y hy c hc
      rw [List.mem_singleton.mp hy] at hc
      exact (hz c hc).lt
/-! ### put -/
theorem q_dropP {ta : TA} {sp : Sp} {dvs : List V} {E : XK} {tz : TS} {σ : L2.St} {H : Hp} {D : Ends} {P : List V → Hp → Prop} (h : ArgP ta σ H P) (k : ∀ vs H1, Ex H H1 → P vs H1 → sp (vs ++ dvs) H1 (fun _ H2 => tz D σ H2) E) : tSeq (tDrop (tCall sp dvs E ta)) tz D σ H := h H (Ex.refl H) _ k
def putAt (row : List Str) (j : Nat) (z : Str) : List Str := row.take j ++ [z] ++ row.drop j
def IsW (z : Str) : Prop := Txt.words z = [z]
def sp_put (K : PySem.W.Frag) (A : Ad) : Sp := fun vs H Q E => ∃ (p pl : Addr) (X : List Addr) (row : List Str) (w at_ : Int) (z : Str) (past : List (List Str × Int)), vs = [.ref p, .int at_, .str z] ∧ PageAt A H p pl X row w past ∧ row.length ≤ 2000 ∧ past.length ≤ 50000 ∧ 1 ≤ w ∧ Txs z ∧ z.length ≤ 1000 ∧ (IsW z → z.length ≤ 300) ∧
  ((at_ < 0 ∨ (row.length : Int) < at_) → ∀ H', Ex H H' → E (.ref A.c_NoPlace) none H') ∧
  (0 ≤ at_ → at_ ≤ (row.length : Int) → ¬ IsW z → ∀ H', Ex H H' → E (.ref A.c_NoWord) none H') ∧
  (0 ≤ at_ → at_ ≤ (row.length : Int) → IsW z → w < (z.length : Int) → ∀ H', Ex H H' → E (.ref A.c_LongWord) none H') ∧
  (0 ≤ at_ → at_ ≤ (row.length : Int) → IsW z → (z.length : Int) ≤ w → 120 ≤ row.length → ∀ H', Ex H H' → E (.ref A.c_Full) none H') ∧
  (∀ j : Nat, j ≤ row.length → at_ = (j : Int) → IsW z → (z.length : Int) ≤ w → row.length < 120 → ∀ H', ExS p pl H H' → PageAt A H' p pl X (putAt row j z) w (past ++ [(row, w)]) → Q .non H')
theorem ok_p_put (T : Txt K mg A) : FnOk P w K mg base (L2N.CX P w) 4 A.f_p_put A.d_p_put ["self", "at", "word"] (sp_put K A) := by
  refine Fun.okN T.F_p_put sc_p_put (fun vs H Q E h => ?_) (fun cdv Ar outer s H vs Q E hr h => ?_)
  · obtain ⟨p, pl, X, row, w, at_, z, past, rfl, _⟩ := h
    rfl
  · obtain ⟨p, pl, X, row, w, at_, z, past, rfl, hP, hl, hpl, hw1, hT, hz1, hz3, k1, k2, k3, k4, k5⟩ := h
    obtain ⟨dx, wl, ts, h1, h2, h3, h4, h5⟩ := id hP
    refine ⟨_, (pss_cons (ps_if (PW.pt (pw_or (pt_cmpR op_lt (pv 1) pe_int (nomark _)) (pw_or1 (pt_cmpR op_gt (pv 1) (pe_callB call_len_seq (by rfl) T.m_len PySem.boot_len (pa_cons (pe_fld (pv 0) rfl) pa_nil)) (nomark _)))))
  (pss_one (L2N.ps_raise rfl (L2N.takes_of rfl rfl rfl rfl) (L2N.pmk_own PySem.F.excBase_ValueError T.ex_NoPlace.x T.gc_NoPlace T.ex_NoPlace.k (raises_own T.ex_NoPlace.e.hs T.ex_NoPlace.t) rfl)))
  pss_nil)
  (pss_cons (ps_if (pt_not (pt_val (pe_call (ok_is_word T) (hr.mono (by decide)) rfl T.g_is_word T.F_is_word.kp T.b_is_word .nil pass0 (pa_cons (pv 2) pa_nil))))
  (pss_one (L2N.ps_raise rfl (L2N.takes_of rfl rfl rfl rfl) (L2N.pmk_own PySem.F.excBase_ValueError T.ex_NoWord.x T.gc_NoWord T.ex_NoWord.k (raises_own T.ex_NoWord.e.hs T.ex_NoWord.t) rfl)))
  pss_nil)
  (pss_cons (ps_expr (pe_call (ok_check_words T) (hr.mono (by decide)) rfl T.g_check_words T.F_check_words.kp T.b_check_words .nil (L2N.passes_call (L2N.takes_of rfl rfl rfl rfl) (fun _ _ _ _ h => h)) (pa_cons (pe_lst (pa_cons (pv 2) pa_nil)) (pa_cons (pe_fld (pv 0) rfl) pa_nil))))
  (pss_cons (ps_if (pt_cmpR op_ge (pe_callB call_len_seq (by rfl) T.m_len PySem.boot_len (pa_cons (pe_fld (pv 0) rfl) pa_nil)) (pe_glob (v := .int 120) rfl (Classical.choose_spec T.g_MOST_WORDS) ⟨_, rfl⟩) (nomark _))
  (pss_one (L2N.ps_raise rfl (L2N.takes_of rfl rfl rfl rfl) (L2N.pmk_own PySem.F.excBase_ValueError T.ex_Full.x T.gc_Full T.ex_Full.k (raises_own T.ex_Full.e.hs T.ex_Full.t) rfl)))
  pss_nil)
  (pss_one (ps_expr (pe_meth (pv 0) T.cl_Page T.me_p_change (ok_p_change T) (hr.mono (by decide)) T.b_p_change .nil pass0 (pa_cons (pe_op op_cat (pe_op op_cat (pe_slice (TwT.slL (K := K) rfl) (pe_fld (pv 0) rfl) po_none (po_some (pv 1))) (pe_lst (pa_cons (pv 2) pa_nil))) (pe_slice (TwT.slL (K := K) rfl) (pe_fld (pv 0) rfl) (po_some (pv 1)) po_none)) (pa_cons (pe_fld (pv 0) rfl) pa_nil))))))))), ?_⟩
    have nl : (row.map V.str).length = row.length := List.length_map ..
    have fw : ∀ {σ : L2.St} {H' : Hp}, Ex H H' → σ[0]? = some (some (.ref p)) → Ev (tFld K (tVar 0) "words") σ H' (.ref wl) := fun e g => ev_fld (ev_var g) (e _ _ h1) T.cl_Page T.na_Page_words (pg_words _ _ _)
    have fi : ∀ {σ : L2.St} {H' : Hp}, Ex H H' → σ[0]? = some (some (.ref p)) → Ev (tFld K (tVar 0) "width") σ H' (.int w) := fun e g => ev_fld (ev_var g) (e _ _ h1) T.cl_Page T.na_Page_width (pg_width _ _ _)
    refine q_when (b := decide (at_ < 0) || decide ((row.length : Int) < at_)) (et_or (et_test (ev_op (ev_var rfl) ev_c rv_I0)) fun _ => et_test (ev_op (ev_var rfl) (ev_is (ev_cb (ea_cons (fw (Ex.refl H) rfl) ea_nil) (rc_lenL (sq_of h3))) (by rw [nl])) rv_I0)) (fun hb H1 e1 => ?_) (fun hb H1 e1 => ?_)
    · refine k1 ?_ H1 e1
      rw [Bool.or_eq_true] at hb
      rcases hb with q | q
      · exact .inl (of_decide_eq_true q)
      · exact .inr (of_decide_eq_true q)
    rw [Bool.or_eq_false_iff] at hb
    have a0 := of_decide_eq_false hb.1
    have a1 := of_decide_eq_false hb.2
    refine q_when (b := !decide (Txt.words z = [z])) (et_not (et_B (ev_call (ea_cons (ev_var rfl) ea_nil) fun H2 e2 Q' q E' => ⟨z, rfl, hT, hz1, q⟩))) (fun hb2 H2 e2 => ?_) (fun hb2 H2 e2 => ?_)
    · refine k2 (by omega) (by omega) (fun q => ?_) H2 (e1.trans e2)
      rw [decide_eq_true (show Txt.words z = [z] from q)] at hb2
      cases hb2
    have hW : IsW z := by
      by_cases c : Txt.words z = [z]
      · exact c
      · rw [decide_eq_false c] at hb2
        cases hb2
    have e12 := e1.trans e2
    refine q_dropP (ap_consL (xs := [z].map V.str) (el_lst (ea_cons (ev_var rfl) ea_nil) (show 1 ≤ 100000 by decide)) (ap_cons (fi e12 rfl) ap_nil) fun _ _ _ => trivial) ?_
    rintro vs H3 e3 ⟨q1, r, rfl, hq1, r2, rfl, rfl⟩
    have e13 := e12.trans e3
    refine ⟨q1, [z], w, rfl, sq_of hq1, fun x hx => by rw [List.mem_singleton.mp hx]; exact hz3 hW, fun c => absurd c (by omega), fun _ ⟨x, hx, q⟩ H' e' => ?_, fun _ hx H4 e4 => ?_⟩
    · rw [List.mem_singleton.mp hx] at q
      exact k3 (by omega) (by omega) hW q H' (e13.trans e')
    have hzw : (z.length : Int) ≤ w := hx z (List.mem_singleton.mpr rfl)
    have e14 := e13.trans e4
    refine q_when (b := decide ((120 : Int) ≤ (row.length : Int))) (et_test (ev_op (ev_is (ev_cb (ea_cons (fw e14 rfl) ea_nil) (rc_lenL (sq_of (e14 _ _ h3)))) (by rw [nl])) ev_c rv_I0)) (fun hb3 H5 e5 => ?_) (fun hb3 H5 e5 => ?_)
    · have := of_decide_eq_true hb3
      exact k4 (by omega) (by omega) hW hzw (by omega) H5 (e14.trans e5)
    have hlt := of_decide_eq_false hb3
    obtain ⟨j, rfl⟩ : ∃ j : Nat, at_ = (j : Int) := ⟨at_.toNat, by omega⟩
    have e15 := e14.trans e5
    refine s_methP (ev_var rfl) (e15 _ _ h1) (m_change _ _ _) (ap_consF (xs := (putAt row j z).map V.str) (el_is (el_catN (el_catN (el_sl (hi := some (j : Int)) (fw e15 rfl) eo_none (eo_some (ev_var rfl)) (sq_of (e15 _ _ h3))) (el_lst (vs := [.str z]) (ea_cons (ev_var rfl) ea_nil) (show 1 ≤ 100000 by decide)) ?_) (el_sl (lo := some (j : Int)) (fw e15 rfl) (eo_some (ev_var rfl)) eo_none (sq_of (e15 _ _ h3))) ?_) ?_) (ap_cons (fi e15 rfl) ap_nil)) ?_
    · rw [cut_pre, List.length_map, List.length_take]
      show _ + 1 ≤ _
      omega
    · rw [cut_pre, cut_post, List.length_append, List.length_map, List.length_map, List.length_take, List.length_drop]
      show _ + 1 + _ ≤ _
      omega
    · rw [cut_pre, cut_post]
      unfold putAt
      rw [List.map_append, List.map_append] <;> rfl
    · rintro vs H6 e6 ⟨r, r2, rfl, r0, hr3, r3, rfl, rfl⟩
      refine ⟨p, pl, r, X, row, putAt row j z, w, w, past, rfl, hP.grow (e15.trans e6), fun q => ?_, hr3, hpl, fun H' x q => k5 j (by omega) rfl hW hzw (by omega) H' ((ExS.of (e15.trans e6)).trans x) q⟩
      obtain ⟨xs, hx⟩ := h2.ls r q
      rw [e15 _ _ hx] at r0
      cases r0

/-! ### the lines of a page -/
theorem s_retAP {ta : TA} {sp : Sp} {dvs : List V} {E : XK} {σ : L2.St} {H : Hp} {D : Ends} {P : List V → Hp → Prop} (h : ArgP ta σ H P) (k : ∀ vs H1, Ex H H1 → P vs H1 → sp (vs ++ dvs) H1 (fun v H2 => D.rt v H2) E) : tRet (tCall sp dvs E ta) D σ H := h H (Ex.refl H) _ k
/-- a new list told demonically as an argument -/
theorem ap_consM {te : TE} {tr : TA} {P : List V → Hp → Prop} {R : List V → Prop} {σ : L2.St} {H : Hp} (h : ∀ H1, Ex H H1 → ∀ Q : VK, (∀ p xs H2, H1 p = none → Ex H1 H2 → H2 p = some (.lst xs) → R xs → Q (.ref p) H2) → te σ H1 Q) (hr : ArgP tr σ H P) :
    ArgP (tCons te tr) σ H (fun vs H' => ∃ p r xs, vs = .ref p :: r ∧ H p = none ∧ H' p = some (.lst xs) ∧ R xs ∧ P r H') := fun H1 e Q q =>
  h H1 e _ fun p xs H2 p0 e2 hp hR => hr H2 (e.trans e2) _ fun vs H3 e3 hP => q _ H3 (e2.trans e3) ⟨p, vs, xs, rfl, fresh_back e p0, e3 _ _ hp, hR, hP⟩
def zsOf (S : List Nat) : List Int := S.map fun (k : Nat) => (k : Int)
theorem zsN (S : List Nat) : (zsOf S).map V.int = nats S := by
  unfold zsOf nats
  rw [List.map_map] <;> rfl
theorem zsN_len (S : List Nat) : (zsOf S).length = S.length := List.length_map ..
theorem zsN_getD (S : List Nat) {i : Nat} (h : i < S.length) : (zsOf S).getD i 0 = ((S.getD i 0 : Nat) : Int) := by
  unfold zsOf
  rw [List.getD_eq_getElem?_getD, List.getElem?_map, List.getElem?_eq_getElem h, List.getD_eq_getElem?_getD, List.getElem?_eq_getElem h] <;> rfl
theorem fit_good {ws : List Str} {w : Int} {S : List Nat} (f : FitS ws w S) : goodB ws.length (zsOf S) = true := by
  unfold goodB
  by_cases hS : S = []
  · subst hS
    rw [if_pos (show zsOf [] = [] from rfl)]
    exact decide_eq_true (by rw [f.nil rfl] <;> rfl)
  · have hpos : 0 < S.length := List.length_pos_iff.mpr hS
    have hg : ∀ i (h : i < S.length), S.getD i 0 = S[i] := fun i h => by rw [List.getD_eq_getElem?_getD, List.getElem?_eq_getElem h] <;> rfl
    rw [if_neg (show ¬ zsOf S = [] from fun q => hS (List.map_eq_nil_iff.mp q)), Bool.and_eq_true, Bool.and_eq_true]
    refine ⟨⟨decide_eq_true ?_, decide_eq_true ?_⟩, List.all_eq_true.mpr fun i hi => decide_eq_true ?_⟩
    · rw [zsN_getD S hpos, hg 0 hpos, f.zero S[0] (List.getElem?_eq_getElem hpos)] <;> rfl
    · rw [zsN_len]
      have hl : S.length - 1 < S.length := by omega
      obtain ⟨a1, a2, a3⟩ := f.fit (S.length - 1) S[S.length - 1] _ (List.getElem?_eq_getElem hl) (ends_at hl)
      rw [zsN_getD S hl, hg _ hl]
      omega
    · have hi2 := List.mem_range.mp hi
      rw [zsN_len] at hi2
      have h1 : i < S.length := by omega
      have h2 : i + 1 < S.length := by omega
      obtain ⟨a1, a2, a3⟩ := f.fit i S[i] S[i + 1] (List.getElem?_eq_getElem h1) (by rw [ends_at h1, dif_pos h2])
      rw [zsN_getD S h1, zsN_getD S h2, hg _ h1, hg _ h2]
      omega
def sp_lines_now (K : PySem.W.Frag) (A : Ad) : Sp := fun vs H Q _ => ∃ (p pl : Addr) (X : List Addr) (row : List Str) (w : Int) (past : List (List Str × Int)), vs = [.ref p] ∧ PageAt A H p pl X row w past ∧ Good row w ∧ TabG H A.p_are_starts ∧
  ∀ t S, IsTab row w t → BestW row w t S → ∀ l H', ExT A.p_are_starts H H' → H l = none → H' l = some (.lst ((linesOf row (zsOf S)).map V.str)) → Q (.ref l) H'
theorem m_starts (wl : Addr) (w : Int) (pl : Addr) : (pgF wl w pl).lookup ("starts_now" : Str) = none := pg_no _ _ _ (by decide +kernel) (by decide +kernel) (by decide +kernel)
theorem ok_p_lines_now (T : Txt K mg A) (B : Tb mg base A) : FnOk P w K mg base (L2N.CX P w) 7 A.f_p_lines_now A.d_p_lines_now ["self"] (sp_lines_now K A) := by
  refine Fun.okN T.F_p_lines_now sc_p_lines_now (fun vs H Q E h => ?_) (fun cdv Ar outer s H vs Q E hr h => ?_)
  · obtain ⟨p, pl, X, row, w, past, rfl, _⟩ := h
    rfl
  · obtain ⟨p, pl, X, row, w, past, rfl, hP, hG, hT, k⟩ := h
    obtain ⟨dx, wl, ts, h1, h2, h3, h4, h5⟩ := id hP
    obtain ⟨g1, g2, g3, g4, g5⟩ := id hG
    refine ⟨_, (pss_one (ps_ret (pe_call (ok_lines_of T B) (hr.mono (by decide)) rfl T.g_lines_of T.F_lines_of.kp T.b_lines_of .nil (L2N.passes_call (L2N.takes_of rfl rfl rfl rfl) (fun _ _ _ _ h => h)) (pa_cons (pe_fld (pv 0) rfl) (pa_cons (pe_meth0 (pv 0) T.cl_Page T.me_p_starts_now (ok_p_starts_now T) (hr.mono (by decide)) T.b_p_starts_now .nil (L2N.passes_call (L2N.takes_of rfl rfl rfl rfl) (fun _ _ _ _ h => h))) pa_nil))))), ?_⟩
    refine s_retAP (ap_cons (ev_fld (ev_var rfl) h1 T.cl_Page T.na_Page_words (pg_words _ _ _)) (ap_consM (R := fun xs => ∃ t S, xs = nats S ∧ IsTab row w t ∧ BestW row w t S) (fun H1 e1 Q' q' => ?_) ap_nil)) ?_
    · exact ⟨_, rfl, p, dx, _, rfl, e1 _ _ h1, m_starts _ _ _, ⟨p, pl, X, row, w, past, rfl, hP.grow e1, hG, fun t S ht hS l H2 l0 e2 hl => q' l _ H2 l0 e2 hl ⟨t, S, rfl, ht, hS⟩⟩⟩
    · rintro vs H1 e1 ⟨r, rfl, q1, r2, xs, rfl, q0, hq, ⟨t, S, rfl, ht, hS⟩, rfl⟩
      have fS := walk_fitS (hS.mono fun _ _ g => g.fit)
      have hSl := walk_len (fun _ _ g => g.fit.1) hS
      refine ⟨wl, q1, row, zsOf S, rfl, sq_of (e1 _ _ h3), by rw [zsN]; exact sq_of hq, by rw [zsN_len]; omega, g4, by omega, TabG.ex hT e1, fun c => ?_, fun _ l H' e' l0 hl => k t S ht hS l H' ((ExT.of_ex hT e1).trans e') (fresh_back e1 l0) hl⟩
      rw [fit_good fS] at c
      cases c

/-! ### the law's widths and places -/
theorem ten30 : (10 : Int) ^ (30 : Int).toNat = 1000000000000000000000000000000 := by decide
theorem ev_t30 {σ : L2.St} {H : Hp} : Ev (tOp (rI CPow fun i j => .int (i ^ j.toNat)) (tC (.int 10)) (tC (.int 30))) σ H (.int 1000000000000000000000000000000) := ev_is (ev_op ev_c ev_c (rv_I ⟨by decide, by decide, by decide⟩)) (by rw [ten30])
def sp_page_width (K : PySem.W.Frag) : Sp := fun vs H Q _ => ∃ c : Int, vs = [.int c] ∧ ∀ w : Int, 1 ≤ w → w ≤ 1000000000000000000000000000000 → RetV (.int w) H Q
theorem ok_l_page_width (T : Txt K mg A) : FnOk P w K mg base CX0 1 A.f_l_page_width A.d_l_page_width ["_law_cell"] (sp_page_width K) := by
  refine T.F_l_page_width.ok sc_l_page_width (fun vs H Q E h => ?_) (fun cdv Ar outer s H vs Q E hr h => ?_)
  · obtain ⟨c, rfl, _⟩ := h
    rfl
  · obtain ⟨c, rfl, k⟩ := h
    refine ⟨_, (pss_cons (ps_if (pt_cmpR op_eq (pe_op op_mod (pe_op op_fdiv (pv 0) pe_int) pe_int) pe_int (nomark _))
  (pss_one (ps_ret (pe_ix (ixL (K := K) rfl) (pe_lst (pa_cons (pe_op op_add pe_int (pe_op op_mod (pe_op op_fdiv (pv 0) pe_int) pe_int)) (pa_cons (pe_op op_pow pe_int pe_int) pa_nil))) (pe_op op_fdiv (pe_op op_mod (pe_op op_fdiv (pv 0) pe_int) pe_int) pe_int) (fun _ _ => rfl))))
  pss_nil)
  (pss_one (ps_ret (pe_op op_add pe_int (pe_op op_mod (pv 0) pe_int))))), ?_⟩
    refine q_when (b := decide (V.int (c / 24 % 3) = V.int 1)) (et_test (ev_op (ev_op (ev_op (ev_var rfl) ev_c (rv_I ⟨by decide, by decide⟩)) ev_c (rv_I (by decide))) ev_c (rv_eq rfl))) (fun hb H1 e1 => ?_) (fun hb H1 e1 => ?_)
    · have hl : c / 72 % 5 / 4 = 0 ∨ c / 72 % 5 / 4 = 1 := by omega
      rcases hl with hl | hl
      · exact s_ret (v := .int (25 + c / 72 % 120)) (ev_opL1 (y := .int 0) (xs := [.int (25 + c / 72 % 120), .int 1000000000000000000000000000000]) (el_lst (ea_cons (ev_op ev_c (ev_op (ev_op (ev_var rfl) ev_c (rv_I ⟨by decide, by decide⟩)) ev_c (rv_I (by decide))) rv_I0) (ea_cons ev_t30 ea_nil)) (show 2 ≤ 100000 by decide)) (fun H3 e3 => ev_is (ev_op (ev_op (ev_op (ev_var rfl) ev_c (rv_I ⟨by decide, by decide⟩)) ev_c (rv_I (by decide))) ev_c (rv_I ⟨by decide, by decide⟩)) (by rw [hl])) fun p H3 hp e3 => rv_ixL (sq_of hp) rfl) fun H2 e2 => k _ (by omega) (by omega) H2 (e1.trans e2)
      · exact s_ret (v := .int 1000000000000000000000000000000) (ev_opL1 (y := .int 1) (xs := [.int (25 + c / 72 % 120), .int 1000000000000000000000000000000]) (el_lst (ea_cons (ev_op ev_c (ev_op (ev_op (ev_var rfl) ev_c (rv_I ⟨by decide, by decide⟩)) ev_c (rv_I (by decide))) rv_I0) (ea_cons ev_t30 ea_nil)) (show 2 ≤ 100000 by decide)) (fun H3 e3 => ev_is (ev_op (ev_op (ev_op (ev_var rfl) ev_c (rv_I ⟨by decide, by decide⟩)) ev_c (rv_I (by decide))) ev_c (rv_I ⟨by decide, by decide⟩)) (by rw [hl])) fun p H3 hp e3 => rv_ixL (sq_of hp) rfl) fun H2 e2 => k _ (by decide) (by decide) H2 (e1.trans e2)
    · exact s_ret (v := .int (1 + c % 24)) (ev_op ev_c (ev_op (ev_var rfl) ev_c (rv_I (by decide))) rv_I0) fun H2 e2 => k _ (by omega) (by omega) H2 (e1.trans e2)
def Far (a : Int) : Prop := -10000000000000000000000000000000 ≤ a ∧ a ≤ 10000000000000000000000000000000
def sp_place_by (K : PySem.W.Frag) : Sp := fun vs H Q _ => ∃ (m : Int) (n : Nat), vs = [.int m, .int (n : Int)] ∧ n ≤ 2000 ∧ ∀ a : Int, Far a → RetV (.int a) H Q
theorem ok_l_place_by (T : Txt K mg A) : FnOk P w K mg base CX0 1 A.f_l_place_by A.d_l_place_by ["_law_more", "_law_count"] (sp_place_by K) := by
  refine T.F_l_place_by.ok sc_l_place_by (fun vs H Q E h => ?_) (fun cdv Ar outer s H vs Q E hr h => ?_)
  · obtain ⟨c, n, rfl, _⟩ := h
    rfl
  · obtain ⟨c, n, rfl, hn, k⟩ := h
    refine ⟨_, (pss_cons (ps_if (pt_cmpR op_eq (pe_op op_mod (pe_op op_fdiv (pv 0) pe_int) pe_int) pe_int (nomark _))
  (pss_one (ps_ret (pe_ix (ixL (K := K) rfl) (pe_lst (pa_cons (pe_un un_neg pe_int) (pa_cons (pe_op op_add (pv 1) pe_int) (pa_cons (pe_op op_pow pe_int pe_int) (pa_cons (pe_un un_neg (pe_op op_pow pe_int pe_int)) pa_nil))))) (pe_op op_mod (pv 0) pe_int) (fun _ _ => rfl))))
  pss_nil)
  (pss_one (ps_ret (pe_op op_sub (pe_op op_mod (pv 0) (pe_op op_add (pv 1) pe_int)) pe_int)))), ?_⟩
    refine q_when (b := decide (V.int (c / 7 % 16) = V.int 1)) (et_test (ev_op (ev_op (ev_op (ev_var rfl) ev_c (rv_I ⟨by decide, by decide⟩)) ev_c (rv_I (by decide))) ev_c (rv_eq rfl))) (fun hb H1 e1 => ?_) (fun hb H1 e1 => ?_)
    · have hl : c % 4 = 0 ∨ c % 4 = 1 ∨ c % 4 = 2 ∨ c % 4 = 3 := by omega
      refine s_ret (v := ([V.int (-2), V.int ((n : Int) + 3), V.int 1000000000000000000000000000000, V.int (-1000000000000000000000000000000)].getD (c % 4).toNat .non)) (ev_opL1 (y := .int (c % 4)) (xs := [V.int (-2), V.int ((n : Int) + 3), V.int 1000000000000000000000000000000, V.int (-1000000000000000000000000000000)]) (el_lst (ea_cons (ev_un ev_c ru_neg) (ea_cons (ev_op (ev_var rfl) ev_c rv_I0) (ea_cons ev_t30 (ea_cons ?_ ea_nil)))) (show 4 ≤ 100000 by decide)) (fun H3 e3 => ev_op (ev_var rfl) ev_c (rv_I (by decide))) fun p H3 hp e3 => rv_ixL (sq_of hp) ?_) fun H2 e2 => ?_
      · exact ev_un ev_t30 ru_neg
      · rcases hl with q | q | q | q <;> rw [q] <;> rfl
      · rcases hl with q | q | q | q <;> rw [q]
        · exact k (-2) ⟨by decide, by decide⟩ H2 (e1.trans e2)
        · exact k ((n : Int) + 3) ⟨by omega, by omega⟩ H2 (e1.trans e2)
        · exact k 1000000000000000000000000000000 ⟨by decide, by decide⟩ H2 (e1.trans e2)
        · exact k (-1000000000000000000000000000000) ⟨by decide, by decide⟩ H2 (e1.trans e2)
    · have p0 : 0 < (n : Int) + 3 := by omega
      have a0 := Int.emod_nonneg c (show (n : Int) + 3 ≠ 0 by omega)
      have a1 := Int.emod_lt_of_pos c p0
      exact s_ret (v := .int (c % ((n : Int) + 3) - 1)) (ev_op (ev_op (ev_var rfl) (ev_op (ev_var rfl) ev_c rv_I0) (rv_I (by omega))) ev_c rv_I0) fun H2 e2 => k _ ⟨by omega, by omega⟩ H2 (e1.trans e2)
/-! ### a page made, or refused -/
theorem kinds_NoWidth (T : Txt K mg A) : ∀ i C, (kinds A)[i]? = some C → PySem.W.kitOne K (.ref A.c_NoWidth) (.ref C) = some (decide (i = 0)) := fun i C h => by
  have hi : i < 10 := (List.getElem?_eq_some_iff.mp h).1
  have hc : i = 0 ∨ i = 1 ∨ i = 2 ∨ i = 3 ∨ i = 4 ∨ i = 5 ∨ i = 6 ∨ i = 7 ∨ i = 8 ∨ i = 9 := by omega
  rcases hc with q | q | q | q | q | q | q | q | q | q <;> subst q <;> cases h
  · exact kit_ref T.hd_NoWidth T.ty_NoWidth T.sb_NoWidth_NoWidth fun _ => rfl
  · exact kit_ref T.hd_LongWord T.ty_LongWord T.sb_NoWidth_LongWord fun q => absurd q T.ne_NoWidth_LongWord
  · exact kit_ref T.hd_NoStarts T.ty_NoStarts T.sb_NoWidth_NoStarts fun q => absurd q T.ne_NoWidth_NoStarts
  · exact kit_ref T.hd_TooWide T.ty_TooWide T.sb_NoWidth_TooWide fun q => absurd q T.ne_NoWidth_TooWide
  · exact kit_ref T.hd_TooFew T.ty_TooFew T.sb_NoWidth_TooFew fun q => absurd q T.ne_NoWidth_TooFew
  · exact kit_ref T.hd_TooMany T.ty_TooMany T.sb_NoWidth_TooMany fun q => absurd q T.ne_NoWidth_TooMany
  · exact kit_ref T.hd_NoPlace T.ty_NoPlace T.sb_NoWidth_NoPlace fun q => absurd q T.ne_NoWidth_NoPlace
  · exact kit_ref T.hd_NoWord T.ty_NoWord T.sb_NoWidth_NoWord fun q => absurd q T.ne_NoWidth_NoWord
  · exact kit_ref T.hd_Full T.ty_Full T.sb_NoWidth_Full fun q => absurd q T.ne_NoWidth_Full
  · exact kit_ref T.hd_NoWayBack T.ty_NoWayBack T.sb_NoWidth_NoWayBack fun q => absurd q T.ne_NoWidth_NoWayBack
theorem kinds_LongWord (T : Txt K mg A) : ∀ i C, (kinds A)[i]? = some C → PySem.W.kitOne K (.ref A.c_LongWord) (.ref C) = some (decide (i = 1)) := fun i C h => by
  have hi : i < 10 := (List.getElem?_eq_some_iff.mp h).1
  have hc : i = 0 ∨ i = 1 ∨ i = 2 ∨ i = 3 ∨ i = 4 ∨ i = 5 ∨ i = 6 ∨ i = 7 ∨ i = 8 ∨ i = 9 := by omega
  rcases hc with q | q | q | q | q | q | q | q | q | q <;> subst q <;> cases h
  · exact kit_ref T.hd_NoWidth T.ty_NoWidth T.sb_LongWord_NoWidth fun q => absurd q T.ne_LongWord_NoWidth
  · exact kit_ref T.hd_LongWord T.ty_LongWord T.sb_LongWord_LongWord fun _ => rfl
  · exact kit_ref T.hd_NoStarts T.ty_NoStarts T.sb_LongWord_NoStarts fun q => absurd q T.ne_LongWord_NoStarts
  · exact kit_ref T.hd_TooWide T.ty_TooWide T.sb_LongWord_TooWide fun q => absurd q T.ne_LongWord_TooWide
  · exact kit_ref T.hd_TooFew T.ty_TooFew T.sb_LongWord_TooFew fun q => absurd q T.ne_LongWord_TooFew
  · exact kit_ref T.hd_TooMany T.ty_TooMany T.sb_LongWord_TooMany fun q => absurd q T.ne_LongWord_TooMany
  · exact kit_ref T.hd_NoPlace T.ty_NoPlace T.sb_LongWord_NoPlace fun q => absurd q T.ne_LongWord_NoPlace
  · exact kit_ref T.hd_NoWord T.ty_NoWord T.sb_LongWord_NoWord fun q => absurd q T.ne_LongWord_NoWord
  · exact kit_ref T.hd_Full T.ty_Full T.sb_LongWord_Full fun q => absurd q T.ne_LongWord_Full
  · exact kit_ref T.hd_NoWayBack T.ty_NoWayBack T.sb_LongWord_NoWayBack fun q => absurd q T.ne_LongWord_NoWayBack
theorem kinds_NoStarts (T : Txt K mg A) : ∀ i C, (kinds A)[i]? = some C → PySem.W.kitOne K (.ref A.c_NoStarts) (.ref C) = some (decide (i = 2)) := fun i C h => by
  have hi : i < 10 := (List.getElem?_eq_some_iff.mp h).1
  have hc : i = 0 ∨ i = 1 ∨ i = 2 ∨ i = 3 ∨ i = 4 ∨ i = 5 ∨ i = 6 ∨ i = 7 ∨ i = 8 ∨ i = 9 := by omega
  rcases hc with q | q | q | q | q | q | q | q | q | q <;> subst q <;> cases h
  · exact kit_ref T.hd_NoWidth T.ty_NoWidth T.sb_NoStarts_NoWidth fun q => absurd q T.ne_NoStarts_NoWidth
  · exact kit_ref T.hd_LongWord T.ty_LongWord T.sb_NoStarts_LongWord fun q => absurd q T.ne_NoStarts_LongWord
  · exact kit_ref T.hd_NoStarts T.ty_NoStarts T.sb_NoStarts_NoStarts fun _ => rfl
  · exact kit_ref T.hd_TooWide T.ty_TooWide T.sb_NoStarts_TooWide fun q => absurd q T.ne_NoStarts_TooWide
  · exact kit_ref T.hd_TooFew T.ty_TooFew T.sb_NoStarts_TooFew fun q => absurd q T.ne_NoStarts_TooFew
  · exact kit_ref T.hd_TooMany T.ty_TooMany T.sb_NoStarts_TooMany fun q => absurd q T.ne_NoStarts_TooMany
  · exact kit_ref T.hd_NoPlace T.ty_NoPlace T.sb_NoStarts_NoPlace fun q => absurd q T.ne_NoStarts_NoPlace
  · exact kit_ref T.hd_NoWord T.ty_NoWord T.sb_NoStarts_NoWord fun q => absurd q T.ne_NoStarts_NoWord
  · exact kit_ref T.hd_Full T.ty_Full T.sb_NoStarts_Full fun q => absurd q T.ne_NoStarts_Full
  · exact kit_ref T.hd_NoWayBack T.ty_NoWayBack T.sb_NoStarts_NoWayBack fun q => absurd q T.ne_NoStarts_NoWayBack
theorem kinds_NoPlace (T : Txt K mg A) : ∀ i C, (kinds A)[i]? = some C → PySem.W.kitOne K (.ref A.c_NoPlace) (.ref C) = some (decide (i = 6)) := fun i C h => by
  have hi : i < 10 := (List.getElem?_eq_some_iff.mp h).1
  have hc : i = 0 ∨ i = 1 ∨ i = 2 ∨ i = 3 ∨ i = 4 ∨ i = 5 ∨ i = 6 ∨ i = 7 ∨ i = 8 ∨ i = 9 := by omega
  rcases hc with q | q | q | q | q | q | q | q | q | q <;> subst q <;> cases h
  · exact kit_ref T.hd_NoWidth T.ty_NoWidth T.sb_NoPlace_NoWidth fun q => absurd q T.ne_NoPlace_NoWidth
  · exact kit_ref T.hd_LongWord T.ty_LongWord T.sb_NoPlace_LongWord fun q => absurd q T.ne_NoPlace_LongWord
  · exact kit_ref T.hd_NoStarts T.ty_NoStarts T.sb_NoPlace_NoStarts fun q => absurd q T.ne_NoPlace_NoStarts
  · exact kit_ref T.hd_TooWide T.ty_TooWide T.sb_NoPlace_TooWide fun q => absurd q T.ne_NoPlace_TooWide
  · exact kit_ref T.hd_TooFew T.ty_TooFew T.sb_NoPlace_TooFew fun q => absurd q T.ne_NoPlace_TooFew
  · exact kit_ref T.hd_TooMany T.ty_TooMany T.sb_NoPlace_TooMany fun q => absurd q T.ne_NoPlace_TooMany
  · exact kit_ref T.hd_NoPlace T.ty_NoPlace T.sb_NoPlace_NoPlace fun _ => rfl
  · exact kit_ref T.hd_NoWord T.ty_NoWord T.sb_NoPlace_NoWord fun q => absurd q T.ne_NoPlace_NoWord
  · exact kit_ref T.hd_Full T.ty_Full T.sb_NoPlace_Full fun q => absurd q T.ne_NoPlace_Full
  · exact kit_ref T.hd_NoWayBack T.ty_NoWayBack T.sb_NoPlace_NoWayBack fun q => absurd q T.ne_NoPlace_NoWayBack
theorem kinds_NoWord (T : Txt K mg A) : ∀ i C, (kinds A)[i]? = some C → PySem.W.kitOne K (.ref A.c_NoWord) (.ref C) = some (decide (i = 7)) := fun i C h => by
  have hi : i < 10 := (List.getElem?_eq_some_iff.mp h).1
  have hc : i = 0 ∨ i = 1 ∨ i = 2 ∨ i = 3 ∨ i = 4 ∨ i = 5 ∨ i = 6 ∨ i = 7 ∨ i = 8 ∨ i = 9 := by omega
  rcases hc with q | q | q | q | q | q | q | q | q | q <;> subst q <;> cases h
  · exact kit_ref T.hd_NoWidth T.ty_NoWidth T.sb_NoWord_NoWidth fun q => absurd q T.ne_NoWord_NoWidth
  · exact kit_ref T.hd_LongWord T.ty_LongWord T.sb_NoWord_LongWord fun q => absurd q T.ne_NoWord_LongWord
  · exact kit_ref T.hd_NoStarts T.ty_NoStarts T.sb_NoWord_NoStarts fun q => absurd q T.ne_NoWord_NoStarts
  · exact kit_ref T.hd_TooWide T.ty_TooWide T.sb_NoWord_TooWide fun q => absurd q T.ne_NoWord_TooWide
  · exact kit_ref T.hd_TooFew T.ty_TooFew T.sb_NoWord_TooFew fun q => absurd q T.ne_NoWord_TooFew
  · exact kit_ref T.hd_TooMany T.ty_TooMany T.sb_NoWord_TooMany fun q => absurd q T.ne_NoWord_TooMany
  · exact kit_ref T.hd_NoPlace T.ty_NoPlace T.sb_NoWord_NoPlace fun q => absurd q T.ne_NoWord_NoPlace
  · exact kit_ref T.hd_NoWord T.ty_NoWord T.sb_NoWord_NoWord fun _ => rfl
  · exact kit_ref T.hd_Full T.ty_Full T.sb_NoWord_Full fun q => absurd q T.ne_NoWord_Full
  · exact kit_ref T.hd_NoWayBack T.ty_NoWayBack T.sb_NoWord_NoWayBack fun q => absurd q T.ne_NoWord_NoWayBack
theorem kinds_Full (T : Txt K mg A) : ∀ i C, (kinds A)[i]? = some C → PySem.W.kitOne K (.ref A.c_Full) (.ref C) = some (decide (i = 8)) := fun i C h => by
  have hi : i < 10 := (List.getElem?_eq_some_iff.mp h).1
  have hc : i = 0 ∨ i = 1 ∨ i = 2 ∨ i = 3 ∨ i = 4 ∨ i = 5 ∨ i = 6 ∨ i = 7 ∨ i = 8 ∨ i = 9 := by omega
  rcases hc with q | q | q | q | q | q | q | q | q | q <;> subst q <;> cases h
  · exact kit_ref T.hd_NoWidth T.ty_NoWidth T.sb_Full_NoWidth fun q => absurd q T.ne_Full_NoWidth
  · exact kit_ref T.hd_LongWord T.ty_LongWord T.sb_Full_LongWord fun q => absurd q T.ne_Full_LongWord
  · exact kit_ref T.hd_NoStarts T.ty_NoStarts T.sb_Full_NoStarts fun q => absurd q T.ne_Full_NoStarts
  · exact kit_ref T.hd_TooWide T.ty_TooWide T.sb_Full_TooWide fun q => absurd q T.ne_Full_TooWide
  · exact kit_ref T.hd_TooFew T.ty_TooFew T.sb_Full_TooFew fun q => absurd q T.ne_Full_TooFew
  · exact kit_ref T.hd_TooMany T.ty_TooMany T.sb_Full_TooMany fun q => absurd q T.ne_Full_TooMany
  · exact kit_ref T.hd_NoPlace T.ty_NoPlace T.sb_Full_NoPlace fun q => absurd q T.ne_Full_NoPlace
  · exact kit_ref T.hd_NoWord T.ty_NoWord T.sb_Full_NoWord fun q => absurd q T.ne_Full_NoWord
  · exact kit_ref T.hd_Full T.ty_Full T.sb_Full_Full fun _ => rfl
  · exact kit_ref T.hd_NoWayBack T.ty_NoWayBack T.sb_Full_NoWayBack fun q => absurd q T.ne_Full_NoWayBack
theorem kinds_NoWayBack (T : Txt K mg A) : ∀ i C, (kinds A)[i]? = some C → PySem.W.kitOne K (.ref A.c_NoWayBack) (.ref C) = some (decide (i = 9)) := fun i C h => by
  have hi : i < 10 := (List.getElem?_eq_some_iff.mp h).1
  have hc : i = 0 ∨ i = 1 ∨ i = 2 ∨ i = 3 ∨ i = 4 ∨ i = 5 ∨ i = 6 ∨ i = 7 ∨ i = 8 ∨ i = 9 := by omega
  rcases hc with q | q | q | q | q | q | q | q | q | q <;> subst q <;> cases h
  · exact kit_ref T.hd_NoWidth T.ty_NoWidth T.sb_NoWayBack_NoWidth fun q => absurd q T.ne_NoWayBack_NoWidth
  · exact kit_ref T.hd_LongWord T.ty_LongWord T.sb_NoWayBack_LongWord fun q => absurd q T.ne_NoWayBack_LongWord
  · exact kit_ref T.hd_NoStarts T.ty_NoStarts T.sb_NoWayBack_NoStarts fun q => absurd q T.ne_NoWayBack_NoStarts
  · exact kit_ref T.hd_TooWide T.ty_TooWide T.sb_NoWayBack_TooWide fun q => absurd q T.ne_NoWayBack_TooWide
  · exact kit_ref T.hd_TooFew T.ty_TooFew T.sb_NoWayBack_TooFew fun q => absurd q T.ne_NoWayBack_TooFew
  · exact kit_ref T.hd_TooMany T.ty_TooMany T.sb_NoWayBack_TooMany fun q => absurd q T.ne_NoWayBack_TooMany
  · exact kit_ref T.hd_NoPlace T.ty_NoPlace T.sb_NoWayBack_NoPlace fun q => absurd q T.ne_NoWayBack_NoPlace
  · exact kit_ref T.hd_NoWord T.ty_NoWord T.sb_NoWayBack_NoWord fun q => absurd q T.ne_NoWayBack_NoWord
  · exact kit_ref T.hd_Full T.ty_Full T.sb_NoWayBack_Full fun q => absurd q T.ne_NoWayBack_Full
  · exact kit_ref T.hd_NoWayBack T.ty_NoWayBack T.sb_NoWayBack_NoWayBack fun _ => rfl
theorem ve_meta : PySem.W.kitMeta "ValueError" = true := by decide +kernel
theorem s_retMk {C : Addr} {sp : Sp} {E : L2.St → XK} {ta : TA} {vs : List V} {σ : L2.St} {H : Hp} {D : Ends} (h : EvA ta σ H vs) (k : ∀ H1, Ex H H1 → ∀ x dx, H1 x = none → H1 dx = none → dx ≠ x → sp (.ref x :: vs) (upd (upd H1 dx (.own x)) x (.ins C dx [])) (fun v H2 => v = .non ∧ D.rt (.ref x) H2) (E σ)) : tRet (TwO.tMakeE C sp E ta) D σ H := h H (Ex.refl H) _ k
def sp_page_by (K : PySem.W.Frag) (A : Ad) : Sp := fun vs H Q _ => ∃ (X : List Addr) (w : Int), vs = [.int w] ∧ Ls X H ∧ (w < 1 → RetV (.int 1) H Q) ∧
  (1 ≤ w → ∀ p pl H', Ex H H' → H p = none → H pl = none → PageAt A H' p pl (pl :: X) [] w [] → Q (.ref p) H')
theorem ok_l_page_by (T : Txt K mg A) : FnOk P w K mg base CX0 4 A.f_l_page_by A.d_l_page_by ["_law_width"] (sp_page_by K A) := by
  refine T.F_l_page_by.ok sc_l_page_by (fun vs H Q E h => ?_) (fun cdv Ar outer s H vs Q E hr h => ?_)
  · obtain ⟨X, c, rfl, _⟩ := h
    rfl
  · obtain ⟨X, w, rfl, hX, k1, k2⟩ := h
    refine ⟨_, (pss_one (L2N.ps_try_as (i := 1) (Wout := fun _ _ _ _ => False) rfl rfl sc_l_page_by.nd rfl rfl ⟨rfl, by decide, .inl T.gc_NoWidth⟩ takesN0 (fun W pn xe tk pw => (pss_one (ps_ret (TwO.pe_makeE T.mk_Page (ok_p_init T) (hr.mono (by decide)) rfl T.gc_Page T.b_p_init (fun σ => L2N.passAt tk σ) (pa_cons (pv 0) pa_nil))))) (fun a oe cls d pn hz hf => (pss_one (ps_ret (pe_callTy call_int1 (by rfl) T.m_int (by decide +kernel) (pa_cons (pe_and (pe_callB (call_isP (K := K) (a := a) rfl (List.mem_cons_self ..) hz.zc hf) (by rfl) T.m_isinstance (by decide +kernel) (pa_cons (pv 1) (pa_cons (pe_glob (v := .ref A.c_WrapError) rfl T.gc_WrapError rfl) pa_nil))) (pe_one (pe_callB (call_isP (K := K) (a := a) rfl (List.mem_cons_self ..) hz.zc hf) (by rfl) T.m_isinstance (by decide +kernel) (pa_cons (pv 1) (pa_cons (pe_bltn (v := .ty "ValueError") (by rfl) T.m_ValueError (by decide +kernel) rfl) pa_nil))))) pa_nil))))))), ?_⟩
    refine s_retMk (ea_cons (ev_var rfl) ea_nil) fun H1 e1 x dx x0 dx0 nx => ?_
    have e2 : Ex H1 (upd (upd H1 dx (.own x)) x (.ins A.c_Page dx [])) := fun b o e => by
      rw [upd_ne (ne_of_none e x0), upd_ne (ne_of_none e dx0)]
      exact e
    refine ⟨x, dx, X, w, rfl, upd_same, (hX.grow e1).grow e2, fun hw H' e' => ?_, fun hw H' pl hx hpl0 hP => ⟨rfl, k2 hw x pl H' (fun b o hb => ?_) (fresh_back e1 x0) (fresh_back (e1.trans e2) hpl0) hP⟩⟩
    · refine ⟨true, PySem.W.exm_ref T.ex_NoWidth.e.hs T.hd_NoWidth T.ty_NoWidth T.sb_NoWidth_NoWidth, fun _ a ha => ?_, fun q => nomatch q⟩
      exact s_ret (v := .int 1) (ev_is (ev_cb (ea_cons (ev_andV (a := true) (b := true) (ev_cb (ea_cons (ev_var rfl) (ea_cons ev_c ea_nil)) (rc_isP rfl rfl T.ex_NoWidth.e (kit_ref T.hd_WrapError T.ty_WrapError T.sb_NoWidth_WrapError fun _ => rfl))) fun _ => ev_cb (ea_cons (ev_var rfl) (ea_cons ev_c ea_nil)) (rc_isPT rfl rfl T.ex_NoWidth.e (kit_bt ve_meta T.sv_NoWidth))) ea_nil) rc_intB) rfl) fun H5 e5 => k1 hw H5 (((e1.trans e2).trans e').trans e5)
    · have hb1 := e1 _ _ hb
      exact hx b o (ne_of_none hb1 x0) (e2 _ _ hb1)

/-! ### words, by their signs -/
theorem fold_run (A : List Str) : ∀ (l : List Nat) (u : Str), (∀ c ∈ l, Unicode.isSpace c = false) → ∃ u', l.foldl KWd.step (A, u) = (A, u') ∧ TL.tl u' = TL.tl u ++ l
  | [], u, _ => ⟨u, rfl, by rw [List.append_nil]⟩
  | c :: l, u, h => by
    have e1 : KWd.step (A, u) c = (A, u ++ ⟨#[c]⟩) := if_neg (by rw [h c (List.mem_cons_self ..)]; exact Bool.false_ne_true)
    obtain ⟨u', h1, h2⟩ := fold_run A l (u ++ ⟨#[c]⟩) fun d hd => h d (List.mem_cons_of_mem _ hd)
    refine ⟨u', by rw [List.foldl_cons, e1]; exact h1, ?_⟩
    rw [h2, TL.tl_append, tl_one, List.append_assoc] <;> rfl
theorem isW_iff {z : Str} (h : Txs z) : IsW z ↔ (z.length ≠ 0 ∧ ∀ c ∈ TL.tl z, Ws c) := by
  constructor
  · intro q
    exact (words_ok h).2.2 z (by rw [show Txt.words z = [z] from q]; exact List.mem_singleton.mpr rfl)
  · rintro ⟨h0, hw⟩
    show Txt.words z = [z]
    obtain ⟨u, h1, h2⟩ := fold_run [] (TL.tl z) Str.empty fun c hc => space_ws c (hw c hc)
    have eu : u = z := by
      apply TL.ext_tl
      rw [h2] <;> rfl
    have e : z.cps.toList.foldl KWd.step ([], Str.empty) = ([], z) := by
      rw [eu] at h1
      exact h1
    rw [KWd.words_scan, KWd.scan, e]
    exact if_neg h0
theorem isW_of_wd {z : Str} (h : Wd z) : IsW z := (isW_iff h.txs).mpr ⟨by have := h.2.1; omega, h.1⟩
instance (z : Str) : Decidable (IsW z) := inferInstanceAs (Decidable (Txt.words z = [z]))
def badB (z : Str) : Bool := decide (V.str z = V.str Str.empty) || (decide ((32 : Nat) ∈ z.cps.toList) || decide ((10 : Nat) ∈ z.cps.toList))
theorem bad_iff {z : Str} (h : Txs z) : badB z = !decide (IsW z) := by
  unfold badB
  by_cases q : IsW z
  · obtain ⟨q1, q2⟩ := (isW_iff h).mp q
    rw [decide_eq_true q, decide_eq_false (fun c => q1 (by injection c with c; rw [c] <;> rfl)), decide_eq_false (fun c => by have := q2 32 c; unfold Ws at this; omega), decide_eq_false (fun c => by have := q2 10 c; unfold Ws at this; omega)]
    rfl
  · rw [decide_eq_false q]
    by_cases h0 : z.length = 0
    · rw [decide_eq_true (show V.str z = V.str Str.empty from congrArg V.str (KWd.len0 h0))] <;> rfl
    by_cases h1 : (32 : Nat) ∈ z.cps.toList
    · rw [decide_eq_true h1, Bool.true_or, Bool.or_true] <;> rfl
    by_cases h2 : (10 : Nat) ∈ z.cps.toList
    · rw [decide_eq_true h2, Bool.or_true, Bool.or_true] <;> rfl
    refine absurd ((isW_iff h).mpr ⟨h0, fun c hc => ?_⟩) q
    rcases h c hc with t | t | t
    · rw [t] at hc
      exact absurd hc h1
    · rw [t] at hc
      exact absurd hc h2
    · exact t
/-! ### deeds -/
inductive Dd
  | put (a : Int) (z : Str) | drop (a : Int) | widen (v : Int) | undo | fill
def Dd.tup : Dd → List V
  | .put a z => [.str "put", .int a, .str z]
  | .drop a => [.str "drop", .int a]
  | .widen v => [.str "widen", .int v]
  | .undo => [.str "undo"]
  | .fill => [.str "fill"]
def Dd.Ok : Dd → Prop
  | .put a z => Far a ∧ Txs z ∧ z.length ≤ 1000 ∧ (IsW z → z.length ≤ 300)
  | .drop a => Far a
  | .widen v => Far v
  | .undo => True
  | .fill => False
def dueOf (row : List Str) (w : Int) (past : List (List Str × Int)) : Dd → Int
  | .put a z => if ¬ (0 ≤ a ∧ a ≤ (row.length : Int)) then 17 else if ¬ Txt.words z = [z] then 18 else if w < (z.length : Int) then 12 else if 120 ≤ row.length then 19 else 0
  | .drop a => if ¬ (0 ≤ a ∧ a < (row.length : Int)) then 17 else 0
  | .widen v => if v < 1 then 11 else if v < longest row then 12 else 0
  | .undo => if past = [] then 20 else 0
  | .fill => 0
theorem n_dp : ¬ (("drop" : Str) = "put") := by decide +kernel
theorem n_wp : ¬ (("widen" : Str) = "put") := by decide +kernel
theorem n_up : ¬ (("undo" : Str) = "put") := by decide +kernel
theorem n_wd : ¬ (("widen" : Str) = "drop") := by decide +kernel
theorem n_ud : ¬ (("undo" : Str) = "drop") := by decide +kernel
theorem n_uw : ¬ (("undo" : Str) = "widen") := by decide +kernel
theorem nV {x y : Str} (h : ¬ x = y) : decide (V.str x = V.str y) = false := decide_eq_false fun q => h (by injection q)
theorem ev_chain {r r' : R2} {ta tb tc : TE} {σ : L2.St} {H : Hp} {x y : V} {a b : Bool} (h1 : Ev ta σ H x) (h2 : Ev tb σ H y) (hr : RV r x y H (.bl a)) (h3 : a = true → ∃ z, Ev tc σ H z ∧ RV r' y z H (.bl b)) : Ev (tChain r r' ta tb tc) σ H (.bl (a && b)) := fun H1 e Q q =>
  h1 H1 e _ fun H2 e2 => h2 H2 (e.trans e2) _ fun H3 e3 => hr H3 ((e.trans e2).trans e3) _ fun H4 e4 => ⟨a, rfl, by
    cases a with
    | true =>
      obtain ⟨z, h5, h6⟩ := h3 rfl
      have e14 := ((e.trans e2).trans e3).trans e4
      exact h5 H4 e14 _ fun H5 e5 => h6 H5 (e14.trans e5) Q fun H6 e6 => q H6 ((((e2.trans e3).trans e4).trans e5).trans e6)
    | false => exact q H4 ((e2.trans e3).trans e4)⟩
theorem ev_orT {ta tb : TE} {σ : L2.St} {H : Hp} {i : Int} {v : V} (h1 : Ev ta σ H (.int i)) (h2 : i = 0 → Ev tb σ H v) : Ev (tOrT K ta tb) σ H (if i = 0 then v else .int i) := fun H1 e Q q => h1 H1 e _ fun H2 e2 => ⟨i != 0, rfl, by
  by_cases c : i = 0
  · rw [if_pos c] at q
    have e0 : (i != 0) = false := by simp [c]
    rw [e0]
    exact h2 c H2 (e.trans e2) Q fun H3 e3 => q H3 (e2.trans e3)
  · rw [if_neg c] at q
    have e0 : (i != 0) = true := by simp [c]
    rw [e0]
    exact q H2 e2⟩
theorem sgn_sp : (" " : Str) = ⟨#[32]⟩ := by decide +kernel
theorem sgn_lf : ("\n" : Str) = ⟨#[10]⟩ := by decide +kernel
theorem sgn_no : ("" : Str) = Str.empty := by decide +kernel
/-- the law's past: a list of tuples -/
def PastL (H : Hp) (X : List Addr) (l : Addr) (past : List (List Str × Int)) : Prop := ∃ ts : List Addr, H l = some (.lst (ts.map V.ref)) ∧ PastP H X ts past
def RowW (row : List Str) : Prop := ∀ z ∈ row, Wd z
def PastW (past : List (List Str × Int)) : Prop := ∀ e ∈ past, RowW e.1
def tupD (e : List Str × Int) : PyData := .tuple [.list (e.1.map PyData.str), .int e.2]
theorem dp_past {H : Hp} {X : List Addr} : ∀ (ts : List Addr) (past : List (List Str × Int)), PastP H X ts past → DpAll K H (ts.map V.ref) (past.map tupD)
  | [], [], _ => .nil
  | [], _ :: _, h => nomatch h.1
  | _ :: _, [], h => nomatch h.1
  | t :: ts, e :: past, h => by
    obtain ⟨wl, _, h1, h2⟩ := h.2 0 t e rfl rfl
    exact .cons (.tup (SqT.of h1) (.cons (dp_strs (sq_of h2)) (.cons (.int _) .nil))) (dp_past ts past ⟨Nat.succ.inj h.1, fun i t e a b => h.2 (i + 1) t e a b⟩)
theorem shaped_past {past : List (List Str × Int)} (h : PastW past) : SeqAt.shaped (.list (past.map tupD)) = true := by
  have c : PyData.canLayAll0 (past.map tupD) = true ∧ PyData.depthAll (past.map tupD) ≤ 2 := by
    revert h
    induction past with
    | nil => exact fun _ => ⟨by simp [PyData.canLayAll0], by simp [PyData.depthAll]⟩
    | cons e r ih =>
      intro hw
      obtain ⟨i1, i2⟩ := ih fun x hx => hw x (List.mem_cons_of_mem _ hx)
      have he := canLay_strs (l := e.1) fun z hz => (hw e (List.mem_cons_self ..) z hz).lt
      constructor
      · rw [List.map_cons, PyData.canLayAll0, i1, tupD, PyData.canLay0, PyData.canLayAll0, PyData.canLay0, he, PyData.canLayAll0, PyData.canLay0, PyData.canLayAll0] <;> rfl
      · rw [List.map_cons, PyData.depthAll, tupD, PyData.depth, PyData.depthAll, PyData.depth, depth_strs, PyData.depthAll, PyData.depth, PyData.depthAll]
        omega
  unfold SeqAt.shaped
  rw [PyData.canLay0, c.1, PyData.depth, decide_eq_true (by omega)] <;> rfl
theorem rv_pastNil {H : Hp} {X : List Addr} {l q : Addr} {past : List (List Str × Int)} (h : PastL H X l past) (hw : PastW past) (hq : H q = some (.lst [])) : RV (rEqD K) (.ref l) (.ref q) H (.bl (decide (past = []))) := by
  obtain ⟨ts, h1, h2⟩ := h
  have e : PyData.eqv (.list (past.map tupD)) (.list []) = decide (past = []) := by
    rw [PyData.eqv]
    cases past with
    | nil => simp [PyData.eqvAll]
    | cons a r => simp [PyData.eqvAll]
  rw [← e]
  exact rv_eqD (fun H1 e1 => .lst (ex_l e1 (sq_of h1)) (dp_past ts past ⟨h2.1, fun i t e a b => by
    obtain ⟨wl, g1, g2, g3⟩ := h2.2 i t e a b
    exact ⟨wl, g1, e1 _ _ g2, e1 _ _ g3⟩⟩)) (fun H1 e1 => .lst (ex_l e1 (sq_of hq)) .nil) (shaped_past hw) (by decide)
theorem OneP.grow {H H' : Hp} {X : List Addr} {t : Addr} {e : List Str × Int} (h : OneP H X t e) (x : Ex H H') : OneP H' X t e := by
  obtain ⟨wl, g1, g2, g3⟩ := h
  exact ⟨wl, g1, x _ _ g2, x _ _ g3⟩
theorem PastP.grow {H H' : Hp} {X ts : List Addr} {past : List (List Str × Int)} (h : PastP H X ts past) (x : Ex H H') : PastP H' X ts past := ⟨h.1, fun i t e a b => (h.2 i t e a b).grow x⟩
theorem PastL.grow {H H' : Hp} {X : List Addr} {l : Addr} {past : List (List Str × Int)} (h : PastL H X l past) (x : Ex H H') : PastL H' X l past := by
  obtain ⟨ts, h1, h2⟩ := h
  exact ⟨ts, x _ _ h1, h2.grow x⟩
def sp_due (K : PySem.W.Frag) : Sp := fun vs H Q _ => ∃ (r l t : Addr) (X : List Addr) (row : List Str) (w : Int) (past : List (List Str × Int)) (d : Dd), vs = [.ref r, .int w, .ref l, .ref t] ∧ H r = some (.lst (row.map V.str)) ∧ PastL H X l past ∧ PastW past ∧ H t = some (.tup d.tup) ∧ d.Ok ∧ (∀ z ∈ row, z.length ≤ 300) ∧ RetV (.int (dueOf row w past d)) H Q
theorem ev_ix {ta : TE} {σ : L2.St} {H : Hp} {t : Addr} {d : Dd} {i : Nat} {x : V} (h : Ev ta σ H (.ref t)) (ht : H t = some (.tup d.tup)) (hx : d.tup[i]? = some x) : Ev (tOp (rIxT K) ta (tC (.int (i : Int)))) σ H x := ev_op h ev_c (rv_ixT (SqT.of ht) (atI_nat hx))
theorem rv_in {c : Nat} {z : Str} {H : Hp} : RV (fun x y H Q => ∃ (c : Nat) (z : Str), x = V.str ⟨#[c]⟩ ∧ y = V.str z ∧ Q (.bl (decide (c ∈ z.cps.toList))) H) (.str ⟨#[c]⟩) (.str z) H (.bl (decide (c ∈ z.cps.toList))) := fun H1 _ Q q => ⟨c, z, rfl, rfl, q H1 (Ex.refl H1)⟩
theorem ok_l_due (T : Txt K mg A) : FnOk P w K mg base CX0 2 A.f_l_due A.d_l_due ["_law_row", "_law_width", "_law_past", "_law_deed"] (sp_due K) := by
  refine T.F_l_due.ok sc_l_due (fun vs H Q E h => ?_) (fun cdv Ar outer s H vs Q E hr h => ?_)
  · obtain ⟨r, l, t, X, row, w, past, d, rfl, _⟩ := h
    rfl
  · obtain ⟨r, l, t, X, row, w, past, d, rfl, hrow, hl, hpw, ht, hd, hz, k⟩ := h
    refine ⟨_, (pss_cons (ps_if (pt_cmpR op_eq (pe_ix (TwE.ixTE (K := K) rfl) (pv 3) pe_int (fun _ _ => rfl)) pe_str (nomark _))
  (pss_cons (ps_if (pt_not (pt_chain op_le op_le pe_int (pe_ix (TwE.ixTE (K := K) rfl) (pv 3) pe_int (fun _ _ => rfl)) (pe_callB call_len_seq (by rfl) T.m_len PySem.boot_len (pa_cons (pv 0) pa_nil))))
  (pss_one (ps_ret pe_int))
  pss_nil)
  (pss_cons (ps_if (PW.pt (pw_or (pt_cmpR op_eq (pe_ix (TwE.ixTE (K := K) rfl) (pv 3) pe_int (fun _ _ => rfl)) pe_str (nomark _)) (pw_or (pt_cmpR op_in_sign pe_str (pe_ix (TwE.ixTE (K := K) rfl) (pv 3) pe_int (fun _ _ => rfl)) (by rfl)) (pw_or1 (pt_cmpR op_in_sign pe_str (pe_ix (TwE.ixTE (K := K) rfl) (pv 3) pe_int (fun _ _ => rfl)) (by rfl))))))
  (pss_one (ps_ret pe_int))
  pss_nil)
  (pss_one (ps_ret (pe_orT (pe_op op_mul pe_int (pe_callTy call_int1 (by rfl) T.m_int (by decide +kernel) (pa_cons (pe_cmpR op_gt (pe_callB call_len_str (by rfl) T.m_len PySem.boot_len (pa_cons (pe_ix (TwE.ixTE (K := K) rfl) (pv 3) pe_int (fun _ _ => rfl)) pa_nil)) (pv 1) (nomark _)) pa_nil))) (pe_one (pe_op op_mul pe_int (pe_callTy call_int1 (by rfl) T.m_int (by decide +kernel) (pa_cons (pe_cmpR op_ge (pe_callB call_len_seq (by rfl) T.m_len PySem.boot_len (pa_cons (pv 0) pa_nil)) pe_int (nomark _)) pa_nil)))))))))
  pss_nil)
  (pss_cons (ps_if (pt_cmpR op_eq (pe_ix (TwE.ixTE (K := K) rfl) (pv 3) pe_int (fun _ _ => rfl)) pe_str (nomark _))
  (pss_one (ps_ret (pe_op op_mul pe_int (pe_callTy call_int1 (by rfl) T.m_int (by decide +kernel) (pa_cons (pe_not (pe_chain op_le op_lt pe_int (pe_ix (TwE.ixTE (K := K) rfl) (pv 3) pe_int (fun _ _ => rfl)) (pe_callB call_len_seq (by rfl) T.m_len PySem.boot_len (pa_cons (pv 0) pa_nil)))) pa_nil)))))
  pss_nil)
  (pss_cons (ps_if (pt_cmpR op_eq (pe_ix (TwE.ixTE (K := K) rfl) (pv 3) pe_int (fun _ _ => rfl)) pe_str (nomark _))
  (pss_one (ps_ret (pe_orT (pe_op op_mul pe_int (pe_callTy call_int1 (by rfl) T.m_int (by decide +kernel) (pa_cons (pe_cmpR op_lt (pe_ix (TwE.ixTE (K := K) rfl) (pv 3) pe_int (fun _ _ => rfl)) pe_int (nomark _)) pa_nil))) (pe_one (pe_op op_mul pe_int (pe_callTy call_int1 (by rfl) T.m_int (by decide +kernel) (pa_cons (pe_cmpR op_gt (pe_call (ok_l_longest T) (hr.mono (by decide)) rfl T.g_l_longest T.F_l_longest.kp T.b_l_longest .nil pass0 (pa_cons (pv 0) pa_nil)) (pe_ix (TwE.ixTE (K := K) rfl) (pv 3) pe_int (fun _ _ => rfl)) (nomark _)) pa_nil)))))))
  pss_nil)
  (pss_one (ps_ret (pe_op op_mul pe_int (pe_callTy call_int1 (by rfl) T.m_int (by decide +kernel) (pa_cons (pe_cmpR (op_eqD hr.units) (pv 2) (pe_lst pa_nil) (nomark _)) pa_nil)))))))), ?_⟩
    have nl : (row.map V.str).length = row.length := List.length_map ..
    have nr : ∀ {σ : L2.St} {H' : Hp}, Ex H H' → σ[0]? = some (some (.ref r)) → Ev (tCB (rLenS K) (tCons (tVar 0) tNil)) σ H' (.int (row.length : Int)) := fun e g => ev_is (ev_cb (ea_cons (ev_var g) ea_nil) (rc_lenL (sq_of (e _ _ hrow)))) (by rw [nl])
    cases d with
    | fill => exact absurd hd id
    | put a z =>
      obtain ⟨d1, d2, d3, d4⟩ := hd
      refine q_when (b := true) (et_is (et_test (ev_op (ev_ix (i := 0) (ev_var rfl) ht rfl) ev_c (rv_eq rfl))) (decide_eq_true rfl)) (fun _ H1 e1 => ?_) (fun hb => nomatch hb)
      have t1 := e1 _ _ ht
      refine q_when (b := !(decide (0 ≤ a) && decide (a ≤ (row.length : Int)))) (et_not (et_test (ev_chain ev_c (ev_ix (i := 1) (ev_var rfl) t1 rfl) rv_I0 fun _ => ⟨_, nr e1 rfl, rv_I0⟩))) (fun hb H2 e2 => ?_) (fun hb H2 e2 => ?_)
      · refine s_ret (v := .int 17) ev_c fun H3 e3 => ?_
        have c : ¬ (0 ≤ a ∧ a ≤ (row.length : Int)) := fun q => by
          rw [decide_eq_true q.1, decide_eq_true q.2] at hb
          cases hb
        have q := k H3 ((e1.trans e2).trans e3)
        rw [show dueOf row w past (.put a z) = 17 from if_pos c] at q
        exact q
      have c : 0 ≤ a ∧ a ≤ (row.length : Int) := by
        by_cases c1 : 0 ≤ a
        · by_cases c2 : a ≤ (row.length : Int)
          · exact ⟨c1, c2⟩
          · rw [decide_eq_false c2, Bool.and_false] at hb
            cases hb
        · rw [decide_eq_false c1] at hb
          cases hb
      have t2 := e2 _ _ t1
      have e12 := e1.trans e2
      have ez : ∀ {σ : L2.St} {H' : Hp}, Ex H2 H' → σ[3]? = some (some (.ref t)) → Ev (tOp (rIxT K) (tVar 3) (tC (.int 2))) σ H' (.str z) := fun e g => ev_ix (d := .put a z) (i := 2) (ev_var g) (e _ _ t2) rfl
      refine q_when (b := badB z) (et_is (et_or (et_test (ev_op (ez (Ex.refl H2) rfl) ev_none (rv_eq rfl))) fun _ => et_or (et_test (ev_op (ev_is ev_c (congrArg V.str sgn_sp)) (ez (Ex.refl H2) rfl) rv_in)) fun _ => et_test (ev_op (ev_is ev_c (congrArg V.str sgn_lf)) (ez (Ex.refl H2) rfl) rv_in)) rfl) (fun hb2 H3 e3 => ?_) (fun hb2 H3 e3 => ?_)
      · rw [bad_iff d2] at hb2
        have nW : ¬ Txt.words z = [z] := fun q => by
          rw [decide_eq_true (show IsW z from q)] at hb2
          cases hb2
        refine s_ret (v := .int 18) ev_c fun H4 e4 => ?_
        have q := k H4 ((e12.trans e3).trans e4)
        rw [show dueOf row w past (.put a z) = 18 from (if_neg (fun q => q c)).trans (if_pos nW)] at q
        exact q
      · rw [bad_iff d2] at hb2
        have hW : Txt.words z = [z] := by
          by_cases q : IsW z
          · exact q
          · rw [decide_eq_false q] at hb2
            cases hb2
        have e13 := e12.trans e3
        refine s_ret (v := .int (dueOf row w past (.put a z))) (ev_is (ev_orT (i := 12 * (if decide (w < (z.length : Int)) = true then 1 else 0)) (v := .int (19 * (if decide ((120 : Int) ≤ (row.length : Int)) = true then 1 else 0))) (ev_op ev_c (ev_cb (ea_cons (ev_op (ev_cb (ea_cons (ez e3 rfl) ea_nil) (rc_lenS (by omega))) (ev_var rfl) rv_I0) ea_nil) rc_intB) (rv_I (.inl ⟨by decide, by decide⟩))) fun _ => ev_op ev_c (ev_cb (ea_cons (ev_op (nr e13 rfl) ev_c rv_I0) ea_nil) rc_intB) (rv_I (.inl ⟨by decide, by decide⟩))) ?_) fun H4 e4 => k H4 (e13.trans e4)
        have ed : dueOf row w past (.put a z) = if w < (z.length : Int) then 12 else if 120 ≤ row.length then 19 else 0 := (if_neg (fun q => q c)).trans (if_neg (fun q => q hW))
        rw [ed]
        by_cases c1 : w < (z.length : Int)
        · rw [decide_eq_true c1, if_pos c1] <;> rfl
        · rw [decide_eq_false c1, if_neg c1]
          by_cases c2 : 120 ≤ row.length
          · rw [decide_eq_true (show (120 : Int) ≤ (row.length : Int) by omega), if_pos c2] <;> rfl
          · rw [decide_eq_false (show ¬ (120 : Int) ≤ (row.length : Int) by omega), if_neg c2] <;> rfl
    | drop a =>
      refine q_when (b := false) (et_is (et_test (ev_op (ev_ix (i := 0) (ev_var rfl) ht rfl) ev_c (rv_eq rfl))) (nV n_dp)) (fun hb => nomatch hb) (fun _ H1 e1 => ?_)
      have t1 := e1 _ _ ht
      refine q_when (b := true) (et_is (et_test (ev_op (ev_ix (i := 0) (ev_var rfl) t1 rfl) ev_c (rv_eq rfl))) (decide_eq_true rfl)) (fun _ H2 e2 => ?_) (fun hb => nomatch hb)
      have t2 := e2 _ _ t1
      have e12 := e1.trans e2
      refine s_ret (v := .int (dueOf row w past (.drop a))) (ev_is (ev_op (x := .int 17) (y := .int (if (!(decide (0 ≤ a) && decide (a < (row.length : Int)))) = true then 1 else 0)) ev_c (ev_cb (ea_cons (ev_notV (ev_chain ev_c (ev_ix (i := 1) (ev_var rfl) t2 rfl) rv_I0 fun _ => ⟨_, nr e12 rfl, rv_I0⟩)) ea_nil) rc_intB) (rv_I (.inl ⟨by decide, by decide⟩))) ?_) fun H4 e4 => k H4 (e12.trans e4)
      show V.int (17 * _) = V.int (if ¬ (0 ≤ a ∧ a < (row.length : Int)) then 17 else 0)
      by_cases c1 : 0 ≤ a
      · by_cases c2 : a < (row.length : Int)
        · rw [decide_eq_true c1, decide_eq_true c2, if_neg (show ¬ ¬ (0 ≤ a ∧ a < (row.length : Int)) from fun q => q ⟨c1, c2⟩)] <;> rfl
        · rw [decide_eq_true c1, decide_eq_false c2, if_pos (show ¬ (0 ≤ a ∧ a < (row.length : Int)) from fun q => c2 q.2)] <;> rfl
      · rw [decide_eq_false c1, if_pos (show ¬ (0 ≤ a ∧ a < (row.length : Int)) from fun q => c1 q.1)] <;> rfl
    | widen v =>
      refine q_when (b := false) (et_is (et_test (ev_op (ev_ix (i := 0) (ev_var rfl) ht rfl) ev_c (rv_eq rfl))) (nV n_wp)) (fun hb => nomatch hb) (fun _ H1 e1 => ?_)
      have t1 := e1 _ _ ht
      refine q_when (b := false) (et_is (et_test (ev_op (ev_ix (i := 0) (ev_var rfl) t1 rfl) ev_c (rv_eq rfl))) (nV n_wd)) (fun hb => nomatch hb) (fun _ H2 e2 => ?_)
      have t2 := e2 _ _ t1
      have e12 := e1.trans e2
      refine q_when (b := true) (et_is (et_test (ev_op (ev_ix (i := 0) (ev_var rfl) t2 rfl) ev_c (rv_eq rfl))) (decide_eq_true rfl)) (fun _ H3 e3 => ?_) (fun hb => nomatch hb)
      have t3 := e3 _ _ t2
      have e13 := e12.trans e3
      refine s_ret (v := .int (dueOf row w past (.widen v))) (ev_is (ev_orT (i := 11 * (if decide (v < 1) = true then 1 else 0)) (v := .int (12 * (if decide (v < longest row) = true then 1 else 0))) (ev_op ev_c (ev_cb (ea_cons (ev_op (ev_ix (i := 1) (ev_var rfl) t3 rfl) ev_c rv_I0) ea_nil) rc_intB) (rv_I (.inl ⟨by decide, by decide⟩))) fun _ => ev_op ev_c (ev_cb (ea_cons (ev_op (ev_call (ea_cons (ev_var rfl) ea_nil) fun H5 e5 Q' q E' => ⟨r, row, rfl, sq_of ((e13.trans e5) _ _ hrow), hz, q⟩) (ev_ix (i := 1) (ev_var rfl) t3 rfl) rv_I0) ea_nil) rc_intB) (rv_I (.inl ⟨by decide, by decide⟩))) ?_) fun H4 e4 => k H4 (e13.trans e4)
      show _ = V.int (if v < 1 then 11 else if v < longest row then 12 else 0)
      by_cases c1 : v < 1
      · rw [decide_eq_true c1, if_pos c1] <;> rfl
      · rw [decide_eq_false c1, if_neg c1]
        by_cases c2 : v < longest row
        · rw [decide_eq_true c2, if_pos c2] <;> rfl
        · rw [decide_eq_false c2, if_neg c2] <;> rfl
    | undo =>
      refine q_when (b := false) (et_is (et_test (ev_op (ev_ix (i := 0) (ev_var rfl) ht rfl) ev_c (rv_eq rfl))) (nV n_up)) (fun hb => nomatch hb) (fun _ H1 e1 => ?_)
      have t1 := e1 _ _ ht
      refine q_when (b := false) (et_is (et_test (ev_op (ev_ix (i := 0) (ev_var rfl) t1 rfl) ev_c (rv_eq rfl))) (nV n_ud)) (fun hb => nomatch hb) (fun _ H2 e2 => ?_)
      have t2 := e2 _ _ t1
      have e12 := e1.trans e2
      refine q_when (b := false) (et_is (et_test (ev_op (ev_ix (i := 0) (ev_var rfl) t2 rfl) ev_c (rv_eq rfl))) (nV n_uw)) (fun hb => nomatch hb) (fun _ H3 e3 => ?_)
      have e13 := e12.trans e3
      refine s_ret (v := .int (dueOf row w past .undo)) (ev_is (ev_op (x := .int 20) (y := .int (if decide (past = []) = true then 1 else 0)) ev_c (ev_cb (ea_cons (ev_opL (xs := []) (ev_var rfl) (el_lst ea_nil (Nat.zero_le _)) fun q H5 hq e5 => rv_pastNil (hl.grow (e13.trans e5)) hpw hq) ea_nil) rc_intB) (rv_I (.inl ⟨by decide, by decide⟩))) ?_) fun H4 e4 => k H4 (e13.trans e4)
      show V.int (20 * _) = V.int (if past = [] then 20 else 0)
      by_cases c : past = []
      · rw [decide_eq_true c, if_pos c] <;> rfl
      · rw [decide_eq_false c, if_neg c] <;> rfl

--SPLIT
/-! ### what stays where others change -/
def ExN (ms : List Addr) (H H' : Hp) : Prop := ∀ b o, b ∉ ms → H b = some o → H' b = some o
theorem ExN.refl (ms : List Addr) (H : Hp) : ExN ms H H := fun _ _ _ h => h
theorem ExN.trans {ms : List Addr} {H H1 H2 : Hp} (a : ExN ms H H1) (b : ExN ms H1 H2) : ExN ms H H2 := fun x o h1 h => b x o h1 (a x o h1 h)
theorem ExN.of {ms : List Addr} {H H' : Hp} (e : Ex H H') : ExN ms H H' := fun b o _ h => e b o h
theorem ExN.mono {ms ns : List Addr} {H H' : Hp} (e : ExN ms H H') (h : ∀ m ∈ ms, m ∈ ns) : ExN ns H H' := fun b o hb q => e b o (fun c => hb (h b c)) q
theorem ExN.of_s {p pl : Addr} {H H' : Hp} (e : ExS p pl H H') : ExN [p, pl] H H' := fun b o hb h => e b o (fun c => hb (by rw [c]; exact List.mem_cons_self ..)) (fun c => hb (by rw [c]; exact List.mem_cons_of_mem _ (List.mem_cons_self ..))) h
theorem ExN.of_t {P : Addr} {H H' : Hp} (e : ExT P H H') : ExN [P] H H' := fun b o hb h => e.2 b o (fun c => hb (by rw [c]; exact List.mem_cons_self ..)) h
theorem ExN.set {ms : List Addr} {m : Addr} {H H' : Hp} {o : HO} (e : ExN ms H H') (h : m ∈ ms) : ExN ms H (upd H' m o) := fun b o' hb q => by
  rw [upd_ne (fun c => hb (by rw [c]; exact h))]
  exact e b o' hb q
def Gd (ms X : List Addr) (H : Hp) : Prop := ∀ m ∈ ms, (m ∈ X ∧ ∃ xs, H m = some (.lst xs)) ∨ (∃ C dx fs, H m = some (.ins C dx fs)) ∨ ∃ a, H m = some (.tbl a)
theorem Gd.lst {ms X : List Addr} {H H' : Hp} {r : Addr} {xs : List V} (g : Gd ms X H) (e : ExN ms H H') (hr : r ∉ X) (h : H r = some (.lst xs)) : H' r = some (.lst xs) := e _ _ (fun c => by
  rcases g r c with ⟨q, _⟩ | ⟨C, dx, fs, q⟩ | ⟨a, q⟩
  · exact hr q
  · rw [h] at q
    cases q
  · rw [h] at q
    cases q) h
theorem Gd.tup {ms X : List Addr} {H H' : Hp} {r : Addr} {xs : List V} (g : Gd ms X H) (e : ExN ms H H') (h : H r = some (.tup xs)) : H' r = some (.tup xs) := e _ _ (fun c => by
  rcases g r c with ⟨_, ys, q⟩ | ⟨C, dx, fs, q⟩ | ⟨a, q⟩ <;>
  · rw [h] at q
    cases q) h
theorem Gd.app {ms ns X : List Addr} {H : Hp} (g : Gd ms X H) (k : Gd ns X H) : Gd (ms ++ ns) X H := fun m hm => by
  rcases List.mem_append.mp hm with c | c
  · exact g m c
  · exact k m c
theorem Gd.one_l {X : List Addr} {H : Hp} {m : Addr} (h : m ∈ X) (k : Ls X H) : Gd [m] X H := fun x hx => by
  rw [List.mem_singleton.mp hx]
  exact .inl ⟨h, k m h⟩
theorem Gd.one_t {X : List Addr} {H : Hp} {P : Addr} (h : TabG H P) : Gd [P] X H := fun x hx => by
  rw [List.mem_singleton.mp hx]
  obtain ⟨ps, h1, _⟩ := h
  exact .inr (.inr ⟨_, h1⟩)
theorem PageAt.gd {H : Hp} {p pl : Addr} {X : List Addr} {row : List Str} {w : Int} {past : List (List Str × Int)} (h : PageAt A H p pl X row w past) : Gd [p, pl] X H := by
  obtain ⟨dx, wl, ts, h1, h2, h3, h4, h5⟩ := h
  intro m hm
  rcases List.mem_cons.mp hm with c | c
  · rw [c]
    exact .inr (.inl ⟨_, _, _, h1⟩)
  · rw [List.mem_singleton.mp c]
    exact .inl ⟨h2.pin, _, h4⟩
theorem PageAt.ls {H : Hp} {p pl : Addr} {X : List Addr} {row : List Str} {w : Int} {past : List (List Str × Int)} (h : PageAt A H p pl X row w past) : Ls X H := by
  obtain ⟨dx, wl, ts, h1, h2, h3, h4, h5⟩ := h
  exact h2.ls
theorem ls_fresh {X : List Addr} {H : Hp} {r : Addr} (h : Ls X H) (h0 : H r = none) : r ∉ X := fun c => by
  obtain ⟨xs, q⟩ := h r c
  rw [h0] at q
  cases q
theorem Ls.keep {ms X : List Addr} {H H' : Hp} (h : Ls X H) (e : ExN ms H H') (k : ∀ m ∈ ms, m ∈ X → ∃ xs, H' m = some (.lst xs)) : Ls X H' := fun x hx => by
  by_cases c : x ∈ ms
  · exact k x c hx
  · obtain ⟨xs, q⟩ := h x hx
    exact ⟨xs, e x _ c q⟩
theorem OneP.keep {ms X : List Addr} {H H' : Hp} {t : Addr} {x : List Str × Int} (h : OneP H X t x) (g : Gd ms X H) (e : ExN ms H H') : OneP H' X t x := by
  obtain ⟨wl, h1, h2, h3⟩ := h
  exact ⟨wl, h1, g.tup e h2, g.lst e h1 h3⟩
theorem PastP.keep {ms X ts : List Addr} {H H' : Hp} {past : List (List Str × Int)} (h : PastP H X ts past) (g : Gd ms X H) (e : ExN ms H H') : PastP H' X ts past := ⟨h.1, fun i t x a b => (h.2 i t x a b).keep g e⟩
theorem PastL.keep {ms X : List Addr} {H H' : Hp} {l : Addr} {past : List (List Str × Int)} (h : PastL H X l past) (hl : l ∉ X) (g : Gd ms X H) (e : ExN ms H H') : PastL H' X l past := by
  obtain ⟨ts, h1, h2⟩ := h
  exact ⟨ts, g.lst e hl h1, h2.keep g e⟩
theorem PageAt.keep {ms : List Addr} {H H' : Hp} {p pl : Addr} {X : List Addr} {row : List Str} {w : Int} {past : List (List Str × Int)} (h : PageAt A H p pl X row w past) (g : Gd ms X H) (e : ExN ms H H') (hp : p ∉ ms) (hpl : pl ∉ ms) (k : ∀ m ∈ ms, m ∈ X → ∃ xs, H' m = some (.lst xs)) : PageAt A H' p pl X row w past := by
  obtain ⟨dx, wl, ts, h1, h2, h3, h4, h5⟩ := h
  exact ⟨dx, wl, ts, e _ _ hp h1, ⟨h2.out, h2.pin, h2.ls.keep e k⟩, g.lst e h2.out h3, e _ _ hpl h4, h5.keep g e⟩
/-- a new list, that rows are apart from -/
theorem PageAt.more {H H' : Hp} {p pl l : Addr} {X : List Addr} {row : List Str} {w : Int} {past : List (List Str × Int)} {xs : List V} (h : PageAt A H p pl X row w past) (e : Ex H H') (h0 : H l = none) (hl : H' l = some (.lst xs)) : PageAt A H' p pl (l :: X) row w past := by
  obtain ⟨dx, wl, ts, h1, h2, h3, h4, h5⟩ := h
  have no : ∀ {b : Addr} {o : HO}, b ∉ X → H b = some o → b ∉ l :: X := fun hb q c => by
    rcases List.mem_cons.mp c with c | c
    · rw [c, h0] at q
      cases q
    · exact hb c
  refine ⟨dx, wl, ts, e _ _ h1, ⟨no h2.out h3, List.mem_cons_of_mem _ h2.pin, fun x hx => ?_⟩, e _ _ h3, e _ _ h4, h5.1, fun i t x a b => ?_⟩
  · rcases List.mem_cons.mp hx with c | c
    · rw [c]
      exact ⟨_, hl⟩
    · obtain ⟨ys, q⟩ := h2.ls x c
      exact ⟨ys, e _ _ q⟩
  · obtain ⟨u, g1, g2, g3⟩ := h5.2 i t x a b
    exact ⟨u, no g1 g3, e _ _ g2, e _ _ g3⟩
def NowAt (H : Hp) (X : List Addr) (t : Addr) (row : List Str) (w : Int) (past : List (List Str × Int)) : Prop := ∃ r l, H t = some (.tup [.ref r, .int w, .ref l]) ∧ r ∉ X ∧ l ∉ X ∧ H r = some (.lst (row.map V.str)) ∧ PastL H X l past
theorem NowAt.keep {ms X : List Addr} {H H' : Hp} {t : Addr} {row : List Str} {w : Int} {past : List (List Str × Int)} (h : NowAt H X t row w past) (g : Gd ms X H) (e : ExN ms H H') : NowAt H' X t row w past := by
  obtain ⟨r, l, h1, h2, h3, h4, h5⟩ := h
  exact ⟨r, l, g.tup e h1, h2, h3, g.lst e h2 h4, h5.keep h3 g e⟩
theorem NowAt.grow {X : List Addr} {H H' : Hp} {t : Addr} {row : List Str} {w : Int} {past : List (List Str × Int)} (h : NowAt H X t row w past) (e : Ex H H') : NowAt H' X t row w past := by
  obtain ⟨r, l, h1, h2, h3, h4, h5⟩ := h
  exact ⟨r, l, e _ _ h1, h2, h3, e _ _ h4, h5.grow e⟩
/-! ### an answer -/
def Dd.tag : Dd → Str
  | .put _ _ => "put"
  | .drop _ => "drop"
  | .widen _ => "widen"
  | .undo => "undo"
  | .fill => "fill"
theorem tag0 (d : Dd) : d.tup[0]? = some (.str d.tag) := by cases d <;> rfl
inductive Ansd (row : List Str) (due : Int) : Dd → V → Prop
  | no {d : Dd} : due ≠ 0 → Ansd row due d (.int due)
  | drop {j : Nat} (hj : j < row.length) : due = 0 → Ansd row due (.drop (j : Int)) (.str row[j])
  | other {d : Dd} : due = 0 → ¬ d.tag = "drop" → Ansd row due d .non
def sp_answered (K : PySem.W.Frag) : Sp := fun vs H Q _ => ∃ (f : V) (r t : Addr) (row : List Str) (d : Dd) (due : Int), vs = [f, .ref r, .ref t, .int due] ∧ H r = some (.lst (row.map V.str)) ∧ H t = some (.tup d.tup) ∧ Ansd row due d f ∧ RetV (.bl true) H Q
theorem ok_l_answered (T : Txt K mg A) : FnOk P w K mg base CX0 2 A.f_l_answered A.d_l_answered ["_law_found", "_law_row", "_law_deed", "_law_due_here"] (sp_answered K) := by
  refine T.F_l_answered.ok sc_l_answered (fun vs H Q E h => ?_) (fun cdv Ar outer s H vs Q E hr h => ?_)
  · obtain ⟨f, r, t, row, d, due, rfl, _⟩ := h
    rfl
  · obtain ⟨f, r, t, row, d, due, rfl, hrow, ht, hA, k⟩ := h
    refine ⟨_, (pss_cons (ps_if (pt_cmpR op_ne (pv 3) pe_int (nomark _))
  (pss_one (ps_ret (pe_and (pe_call (ok_l_whole T) (hr.mono (by decide)) rfl T.g_l_whole T.F_l_whole.kp T.b_l_whole .nil pass0 (pa_cons (pv 0) pa_nil)) (pe_one (pe_cmpR op_eq (pv 0) (pv 3) (nomark _))))))
  pss_nil)
  (pss_cons (ps_if (pt_cmpR op_eq (pe_ix (TwE.ixTE (K := K) rfl) (pv 2) pe_int (fun _ _ => rfl)) pe_str (nomark _))
  (pss_one (ps_ret (pe_and (pe_callB call_isi (by rfl) T.m_isinstance (by decide +kernel) (pa_cons (pv 0) (pa_cons (pe_bltn (v := .ty "str") (by rfl) T.m_str (by decide +kernel) rfl) pa_nil))) (pe_one (pe_cmpR op_eq (pv 0) (pe_ix (ixL (K := K) rfl) (pv 1) (pe_ix (TwE.ixTE (K := K) rfl) (pv 2) pe_int (fun _ _ => rfl)) (fun _ _ => rfl)) (nomark _))))))
  pss_nil)
  (pss_one (ps_ret (pe_cmpR op_isN1 (pv 0) pe_non (nomark _)))))), ?_⟩
    cases hA with
    | no h0 =>
      refine q_when (b := true) (et_is (et_test (ev_op (ev_var rfl) ev_c (rv_ne rfl))) (by rw [decide_eq_false (fun q => h0 (by injection q))] <;> rfl)) (fun _ H1 e1 => ?_) (fun hb => nomatch hb)
      exact s_ret (v := .bl true) (ev_is (ev_andV (ev_call (ea_cons (ev_var rfl) ea_nil) fun H3 e3 Q' q E' => ⟨due, rfl, q⟩) fun _ => ev_op (ev_var rfl) (ev_var rfl) (rv_eq rfl)) (by simp)) fun H2 e2 => k H2 (e1.trans e2)
    | drop hj h0 =>
      rename_i j
      subst h0
      refine q_when (b := false) (et_test (ev_op (ev_var rfl) ev_c (rv_ne rfl))) (fun hb => nomatch hb) (fun _ H1 e1 => ?_)
      refine q_when (b := true) (et_is (et_test (ev_op (ev_ix (d := .drop (j : Int)) (i := 0) (ev_var rfl) (e1 _ _ ht) rfl) ev_c (rv_eq rfl))) (decide_eq_true rfl)) (fun _ H2 e2 => ?_) (fun hb => nomatch hb)
      have e12 := e1.trans e2
      exact s_ret (v := .bl true) (ev_is (ev_andV (ev_cb (ea_cons (ev_var rfl) (ea_cons ev_c ea_nil)) rc_isStr) fun _ => ev_op (ev_var rfl) (ev_op (ev_var rfl) (ev_ix (d := .drop (j : Int)) (i := 1) (ev_var rfl) (e12 _ _ ht) rfl) (rv_ixL (sq_of (e12 _ _ hrow)) (atI_nat (by rw [List.getElem?_map, List.getElem?_eq_getElem hj] <;> rfl)))) (rv_eq rfl)) (by simp)) fun H3 e3 => k H3 (e12.trans e3)
    | other h0 h1 =>
      subst h0
      refine q_when (b := false) (et_test (ev_op (ev_var rfl) ev_c (rv_ne rfl))) (fun hb => nomatch hb) (fun _ H1 e1 => ?_)
      refine q_when (b := false) (et_is (et_test (ev_op (ev_ix (d := d) (i := 0) (ev_var rfl) (e1 _ _ ht) (tag0 d)) ev_c (rv_eq rfl))) (nV h1)) (fun hb => nomatch hb) (fun _ H2 e2 => ?_)
      exact s_ret (v := .bl true) (ev_op (ev_var rfl) ev_c rv_isN) fun H3 e3 => k H3 ((e1.trans e2).trans e3)
/-! ### a deed, done or refused -/
def afterOf (row : List Str) (w : Int) (past : List (List Str × Int)) : Dd → List Str × Int × List (List Str × Int)
  | .put a z => (putAt row a.toNat z, w, past ++ [(row, w)])
  | .drop a => (dropAt row a.toNat, w, past ++ [(row, w)])
  | .widen v => (row, v, past ++ [(row, w)])
  | .undo => ((past.getLastD ([], 0)).1, (past.getLastD ([], 0)).2, past.dropLast)
  | .fill => (row, w, past)
theorem s_retME {C : Addr} {m : Str} {ta : TE} {t : TA} {sp : Sp} {vs : List V} {E : L2.St → XK} {σ : L2.St} {H : Hp} {D : Ends} {a dx : Addr} {fs : List (Str × V)} (ha : Ev ta σ H (.ref a)) (hp : H a = some (.ins C dx fs)) (hm : fs.lookup m = none) (h : EvA t σ H vs)
    (k : ∀ H1, Ex H H1 → sp (.ref a :: vs) H1 (fun v H2 => D.rt v H2) (E σ)) : tRet (TwO.tMethE C m sp E ta t) D σ H :=
  ha H (Ex.refl H) _ fun H1 e1 => ⟨a, dx, fs, rfl, e1 _ _ hp, hm, h H1 e1 _ fun H2 e2 => k H2 (e1.trans e2)⟩
theorem m_put (wl : Addr) (w : Int) (pl : Addr) : (pgF wl w pl).lookup ("put" : Str) = none := pg_no _ _ _ (by decide +kernel) (by decide +kernel) (by decide +kernel)
theorem m_drop (wl : Addr) (w : Int) (pl : Addr) : (pgF wl w pl).lookup ("drop" : Str) = none := pg_no _ _ _ (by decide +kernel) (by decide +kernel) (by decide +kernel)
theorem m_widen (wl : Addr) (w : Int) (pl : Addr) : (pgF wl w pl).lookup ("widen" : Str) = none := pg_no _ _ _ (by decide +kernel) (by decide +kernel) (by decide +kernel)
theorem m_undo (wl : Addr) (w : Int) (pl : Addr) : (pgF wl w pl).lookup ("undo" : Str) = none := pg_no _ _ _ (by decide +kernel) (by decide +kernel) (by decide +kernel)
theorem longest_lt {row : List Str} {v : Int} (h : v < longest row) (hv : 0 ≤ v) : ∃ z ∈ row, v < (z.length : Int) := longest_of row hv h
theorem longest_iff {row : List Str} {v : Int} (hv : 0 ≤ v) : (∃ z ∈ row, v < (z.length : Int)) ↔ v < longest row := ⟨fun ⟨z, hz, q⟩ => by have := longest_ge row z hz; omega, longest_of row hv⟩
def sp_told (K : PySem.W.Frag) (A : Ad) : Sp := fun vs H Q _ => ∃ (p pl t : Addr) (X : List Addr) (row : List Str) (w : Int) (past : List (List Str × Int)) (d : Dd), vs = [.ref p, .ref t] ∧ PageAt A H p pl X row w past ∧ H t = some (.tup d.tup) ∧ d.Ok ∧ Good row w ∧ past.length ≤ 50000 ∧
  (dueOf row w past d ≠ 0 → RetV (.int (dueOf row w past d)) H Q) ∧
  (dueOf row w past d = 0 → ∀ f H', Ansd row 0 d f → ExS p pl H H' → PageAt A H' p pl X (afterOf row w past d).1 (afterOf row w past d).2.1 (afterOf row w past d).2.2 → Q f H')
theorem ok_l_told (T : Txt K mg A) : FnOk P w K mg base CX0 6 A.f_l_told A.d_l_told ["_law_page", "_law_deed"] (sp_told K A) := by
  refine T.F_l_told.ok sc_l_told (fun vs H Q E h => ?_) (fun cdv Ar outer s H vs Q E hr h => ?_)
  · obtain ⟨p, pl, t, X, row, w, past, d, rfl, _⟩ := h
    rfl
  · obtain ⟨p, pl, t, X, row, w, past, d, rfl, hP, ht, hd, ⟨g1, g2, g3, g4, g5⟩, hpl, k1, k2⟩ := h
    refine ⟨_, (pss_one (L2N.ps_try_as (i := 2) (Wout := fun _ _ _ _ => False) rfl rfl sc_l_told.nd rfl rfl ⟨rfl, by decide, .inl T.gc_WrapError⟩ takesN0 (fun W pn xe tk pw => (pss_cons (ps_if (pt_cmpR op_eq (pe_ix (TwE.ixTE (K := K) rfl) (pv 1) pe_int (fun _ _ => rfl)) pe_str (nomark _))
  (pss_one (ps_ret (TwO.pe_methE (pv 0) T.cl_Page T.me_p_put (ok_p_put T) (hr.mono (by decide)) T.b_p_put (fun σ => L2N.passAt tk σ) (pa_cons (pe_ix (TwE.ixTE (K := K) rfl) (pv 1) pe_int (fun _ _ => rfl)) (pa_cons (pe_ix (TwE.ixTE (K := K) rfl) (pv 1) pe_int (fun _ _ => rfl)) pa_nil)))))
  pss_nil)
  (pss_cons (ps_if (pt_cmpR op_eq (pe_ix (TwE.ixTE (K := K) rfl) (pv 1) pe_int (fun _ _ => rfl)) pe_str (nomark _))
  (pss_one (ps_ret (TwO.pe_methE (pv 0) T.cl_Page T.me_p_drop (ok_p_drop T) (hr.mono (by decide)) T.b_p_drop (fun σ => L2N.passAt tk σ) (pa_cons (pe_ix (TwE.ixTE (K := K) rfl) (pv 1) pe_int (fun _ _ => rfl)) pa_nil))))
  pss_nil)
  (pss_cons (ps_if (pt_cmpR op_eq (pe_ix (TwE.ixTE (K := K) rfl) (pv 1) pe_int (fun _ _ => rfl)) pe_str (nomark _))
  (pss_one (ps_ret (TwO.pe_methE (pv 0) T.cl_Page T.me_p_widen (ok_p_widen T) (hr.mono (by decide)) T.b_p_widen (fun σ => L2N.passAt tk σ) (pa_cons (pe_ix (TwE.ixTE (K := K) rfl) (pv 1) pe_int (fun _ _ => rfl)) pa_nil))))
  pss_nil)
  (pss_one (ps_ret (TwO.pe_methE0 (pv 0) T.cl_Page T.me_p_undo (ok_p_undo T) (hr.mono (by decide)) T.b_p_undo (fun σ => L2N.passAt tk σ)))))))) (fun a oe cls d pn hz hf => (pss_one (ps_ret (pe_callP (a := a) (oe := oe) (ok_l_kind T) (roomH_suite (k := 1) (hr.mono (by decide))) (hot_suite hz hf) (List.mem_cons_self ..) hz.zc rfl T.g_l_kind T.F_l_kind.kp T.b_l_kind (pa_cons (pv 2) pa_nil))))))), ?_⟩
    obtain ⟨dx, wl, ts, hp, h2, h3, h4, h5⟩ := id hP
    cases d with
    | fill => exact absurd hd id
    | put a z =>
      obtain ⟨d1, d2, d3, d4⟩ := hd
      refine q_when (b := true) (et_is (et_test (ev_op (ev_ix (d := .put a z) (i := 0) (ev_var rfl) ht rfl) ev_c (rv_eq rfl))) (decide_eq_true rfl)) (fun _ H1 e1 => ?_) (fun hb => nomatch hb)
      have t1 := e1 _ _ ht
      refine s_retME (ev_var rfl) (e1 _ _ hp) (m_put _ _ _) (ea_cons (ev_ix (d := .put a z) (i := 1) (ev_var rfl) t1 rfl) (ea_cons (ev_ix (d := .put a z) (i := 2) (ev_var rfl) t1 rfl) ea_nil)) fun H2 e2 => ?_
      have e12 := e1.trans e2
      refine ⟨p, pl, X, row, w, a, z, past, rfl, hP.grow e12, by omega, hpl, g1, d2, d3, d4, fun c H' e' => ?_, fun c0 c1 c2 H' e' => ?_, fun c0 c1 c2 c3 H' e' => ?_, fun c0 c1 c2 c3 c4 H' e' => ?_, fun j c0 c1 c2 c3 c4 H' x hP2 => ?_⟩
      · have hd : dueOf row w past (.put a z) = 17 := if_pos (by omega)
        rw [hd] at k1
        refine ⟨true, PySem.W.exm_ref T.bw T.hd_WrapError T.ty_WrapError T.sb_NoPlace_WrapError, fun _ a ha => ?_, fun q => nomatch q⟩
        exact s_ret (v := .int 17) (ev_call (ea_cons (ev_var rfl) ea_nil) fun H5 e5 Q' q E' => ⟨A.c_NoPlace, 6, rfl, rfl, rfl, T.ex_NoPlace.e, by decide, kinds_NoPlace T, q⟩) fun H6 e6 => k1 (by decide) H6 ((e12.trans e').trans e6)
      · have hd : dueOf row w past (.put a z) = 18 := (if_neg (by omega)).trans (if_pos c2)
        rw [hd] at k1
        refine ⟨true, PySem.W.exm_ref T.bw T.hd_WrapError T.ty_WrapError T.sb_NoWord_WrapError, fun _ a ha => ?_, fun q => nomatch q⟩
        exact s_ret (v := .int 18) (ev_call (ea_cons (ev_var rfl) ea_nil) fun H5 e5 Q' q E' => ⟨A.c_NoWord, 7, rfl, rfl, rfl, T.ex_NoWord.e, by decide, kinds_NoWord T, q⟩) fun H6 e6 => k1 (by decide) H6 ((e12.trans e').trans e6)
      · have hd : dueOf row w past (.put a z) = 12 := (if_neg (by omega)).trans ((if_neg (fun q => q c2)).trans (if_pos c3))
        rw [hd] at k1
        refine ⟨true, PySem.W.exm_ref T.bw T.hd_WrapError T.ty_WrapError T.sb_LongWord_WrapError, fun _ a ha => ?_, fun q => nomatch q⟩
        exact s_ret (v := .int 12) (ev_call (ea_cons (ev_var rfl) ea_nil) fun H5 e5 Q' q E' => ⟨A.c_LongWord, 1, rfl, rfl, rfl, T.ex_LongWord.e, by decide, kinds_LongWord T, q⟩) fun H6 e6 => k1 (by decide) H6 ((e12.trans e').trans e6)
      · have hd : dueOf row w past (.put a z) = 19 := (if_neg (by omega)).trans ((if_neg (fun q => q c2)).trans ((if_neg (by omega)).trans (if_pos c4)))
        rw [hd] at k1
        refine ⟨true, PySem.W.exm_ref T.bw T.hd_WrapError T.ty_WrapError T.sb_Full_WrapError, fun _ a ha => ?_, fun q => nomatch q⟩
        exact s_ret (v := .int 19) (ev_call (ea_cons (ev_var rfl) ea_nil) fun H5 e5 Q' q E' => ⟨A.c_Full, 8, rfl, rfl, rfl, T.ex_Full.e, by decide, kinds_Full T, q⟩) fun H6 e6 => k1 (by decide) H6 ((e12.trans e').trans e6)
      · subst c1
        have hd : dueOf row w past (.put (j : Int) z) = 0 := (if_neg (by omega)).trans ((if_neg (fun q => q c2)).trans ((if_neg (by omega)).trans (if_neg (by omega))))
        exact k2 hd .non H' (.other rfl (fun q => n_dp q.symm)) ((ExS.of e12).trans x) hP2
    | drop a =>
      refine q_when (b := false) (et_is (et_test (ev_op (ev_ix (d := .drop a) (i := 0) (ev_var rfl) ht rfl) ev_c (rv_eq rfl))) (nV n_dp)) (fun hb => nomatch hb) (fun _ H1 e1 => ?_)
      have t1 := e1 _ _ ht
      refine q_when (b := true) (et_is (et_test (ev_op (ev_ix (d := .drop a) (i := 0) (ev_var rfl) t1 rfl) ev_c (rv_eq rfl))) (decide_eq_true rfl)) (fun _ H2 e2 => ?_) (fun hb => nomatch hb)
      have t2 := e2 _ _ t1
      have e12 := e1.trans e2
      refine s_retME (ev_var rfl) (e12 _ _ hp) (m_drop _ _ _) (ea_cons (ev_ix (d := .drop a) (i := 1) (ev_var rfl) t2 rfl) ea_nil) fun H3 e3 => ?_
      have e13 := e12.trans e3
      refine ⟨p, pl, X, row, w, a, past, rfl, hP.grow e13, by omega, hpl, fun c H' e' => ?_, fun j hj c1 H' x hP2 => ?_⟩
      · have hd : dueOf row w past (.drop a) = 17 := if_pos (by omega)
        rw [hd] at k1
        refine ⟨true, PySem.W.exm_ref T.bw T.hd_WrapError T.ty_WrapError T.sb_NoPlace_WrapError, fun _ a ha => ?_, fun q => nomatch q⟩
        exact s_ret (v := .int 17) (ev_call (ea_cons (ev_var rfl) ea_nil) fun H5 e5 Q' q E' => ⟨A.c_NoPlace, 6, rfl, rfl, rfl, T.ex_NoPlace.e, by decide, kinds_NoPlace T, q⟩) fun H6 e6 => k1 (by decide) H6 ((e13.trans e').trans e6)
      · subst c1
        have hd : dueOf row w past (.drop (j : Int)) = 0 := if_neg (by omega)
        exact k2 hd _ H' (.drop hj rfl) ((ExS.of e13).trans x) hP2
    | widen v =>
      refine q_when (b := false) (et_is (et_test (ev_op (ev_ix (d := .widen v) (i := 0) (ev_var rfl) ht rfl) ev_c (rv_eq rfl))) (nV n_wp)) (fun hb => nomatch hb) (fun _ H1 e1 => ?_)
      have t1 := e1 _ _ ht
      refine q_when (b := false) (et_is (et_test (ev_op (ev_ix (d := .widen v) (i := 0) (ev_var rfl) t1 rfl) ev_c (rv_eq rfl))) (nV n_wd)) (fun hb => nomatch hb) (fun _ H2 e2 => ?_)
      have t2 := e2 _ _ t1
      have e12 := e1.trans e2
      refine q_when (b := true) (et_is (et_test (ev_op (ev_ix (d := .widen v) (i := 0) (ev_var rfl) t2 rfl) ev_c (rv_eq rfl))) (decide_eq_true rfl)) (fun _ H3 e3 => ?_) (fun hb => nomatch hb)
      have t3 := e3 _ _ t2
      have e13 := e12.trans e3
      refine s_retME (ev_var rfl) (e13 _ _ hp) (m_widen _ _ _) (ea_cons (ev_ix (d := .widen v) (i := 1) (ev_var rfl) t3 rfl) ea_nil) fun H4 e4 => ?_
      have e14 := e13.trans e4
      refine ⟨p, pl, X, row, w, v, past, rfl, hP.grow e14, g4, hpl, fun c H' e' => ?_, fun c0 c1 H' e' => ?_, fun c0 c1 H' x hP2 => ?_⟩
      · have hd : dueOf row w past (.widen v) = 11 := if_pos c
        rw [hd] at k1
        refine ⟨true, PySem.W.exm_ref T.bw T.hd_WrapError T.ty_WrapError T.sb_NoWidth_WrapError, fun _ a ha => ?_, fun q => nomatch q⟩
        exact s_ret (v := .int 11) (ev_call (ea_cons (ev_var rfl) ea_nil) fun H5 e5 Q' q E' => ⟨A.c_NoWidth, 0, rfl, rfl, rfl, T.ex_NoWidth.e, by decide, kinds_NoWidth T, q⟩) fun H6 e6 => k1 (by decide) H6 ((e14.trans e').trans e6)
      · have hd : dueOf row w past (.widen v) = 12 := (if_neg (by omega)).trans (if_pos ((longest_iff (by omega)).mp c1))
        rw [hd] at k1
        refine ⟨true, PySem.W.exm_ref T.bw T.hd_WrapError T.ty_WrapError T.sb_LongWord_WrapError, fun _ a ha => ?_, fun q => nomatch q⟩
        exact s_ret (v := .int 12) (ev_call (ea_cons (ev_var rfl) ea_nil) fun H5 e5 Q' q E' => ⟨A.c_LongWord, 1, rfl, rfl, rfl, T.ex_LongWord.e, by decide, kinds_LongWord T, q⟩) fun H6 e6 => k1 (by decide) H6 ((e14.trans e').trans e6)
      · have hd : dueOf row w past (.widen v) = 0 := (if_neg (by omega)).trans (if_neg fun q => by
          obtain ⟨z, hz, q2⟩ := (longest_iff (by omega)).mpr q
          have := c1 z hz
          omega)
        exact k2 hd .non H' (.other rfl n_wd) ((ExS.of e14).trans x) hP2
    | undo =>
      refine q_when (b := false) (et_is (et_test (ev_op (ev_ix (d := .undo) (i := 0) (ev_var rfl) ht rfl) ev_c (rv_eq rfl))) (nV n_up)) (fun hb => nomatch hb) (fun _ H1 e1 => ?_)
      have t1 := e1 _ _ ht
      refine q_when (b := false) (et_is (et_test (ev_op (ev_ix (d := .undo) (i := 0) (ev_var rfl) t1 rfl) ev_c (rv_eq rfl))) (nV n_ud)) (fun hb => nomatch hb) (fun _ H2 e2 => ?_)
      have t2 := e2 _ _ t1
      have e12 := e1.trans e2
      refine q_when (b := false) (et_is (et_test (ev_op (ev_ix (d := .undo) (i := 0) (ev_var rfl) t2 rfl) ev_c (rv_eq rfl))) (nV n_uw)) (fun hb => nomatch hb) (fun _ H3 e3 => ?_)
      have e13 := e12.trans e3
      refine s_retME (ev_var rfl) (e13 _ _ hp) (m_undo _ _ _) ea_nil fun H4 e4 => ?_
      have e14 := e13.trans e4
      refine ⟨p, pl, X, row, w, past, rfl, hP.grow e14, fun c H' e' => ?_, fun past0 e c H' x hP2 => ?_⟩
      · have hd : dueOf row w past .undo = 20 := if_pos c
        rw [hd] at k1
        refine ⟨true, PySem.W.exm_ref T.bw T.hd_WrapError T.ty_WrapError T.sb_NoWayBack_WrapError, fun _ a ha => ?_, fun q => nomatch q⟩
        exact s_ret (v := .int 20) (ev_call (ea_cons (ev_var rfl) ea_nil) fun H5 e5 Q' q E' => ⟨A.c_NoWayBack, 9, rfl, rfl, rfl, T.ex_NoWayBack.e, by decide, kinds_NoWayBack T, q⟩) fun H6 e6 => k1 (by decide) H6 ((e14.trans e').trans e6)
      · subst c
        have hd : dueOf row w (past0 ++ [e]) .undo = 0 := if_neg (by simp)
        refine k2 hd .non H' (.other rfl n_ud) ((ExS.of e14).trans x) ?_
        show PageAt A H' p pl X ((past0 ++ [e]).getLastD ([], 0)).1 ((past0 ++ [e]).getLastD ([], 0)).2 (past0 ++ [e]).dropLast
        rw [List.getLastD_concat, List.dropLast_concat]
        exact hP2
/-! ### what stands behind a deed -/
theorem s_retTP {ta : TA} {σ : L2.St} {H : Hp} {D : Ends} {P : List V → Hp → Prop} (h : ArgP ta σ H P) (hn : ∀ vs H, P vs H → vs.length ≤ 100000) (k : ∀ vs H1 t, Ex H H1 → P vs H1 → H1 t = none → D.rt (.ref t) (upd H1 t (.tup vs))) : tRet (tTup ta) D σ H :=
  h H (Ex.refl H) _ fun vs H1 e1 hP => ⟨sz_of (hn vs H1 hP), fun t ht => k vs H1 t e1 hP ht⟩
theorem q_catT {tl : TE} {tt : TA} {tz : TS} {σ : L2.St} {H : Hp} {D : Ends} {i : Nat} {l : Addr} {xs vs : List V} (hl : Ev tl σ H (.ref l)) (h : H l = some (.lst xs)) (ht : EvA tt σ H vs) (hv : vs.length ≤ 1000) (hz : xs.length ≤ 90000)
    (k : ∀ u p H1, H u = none → H p = none → Ex H H1 → H1 u = some (.tup vs) → H1 p = some (.lst (xs ++ [.ref u])) → tz D (σ.set i (some (.ref p))) H1) : tSeq (tAsg (tOp rCat tl (tLst (tCons (tTup tt) tNil))) (gName i)) tz D σ H :=
  hl H (Ex.refl H) _ fun H1 e1 => ht H1 e1 _ fun H2 e2 => ⟨sz_of (by omega), fun u hu => ⟨sz_of (show 1 ≤ 100000 by decide), fun q hq => by
    have e12 := e1.trans e2
    have u0 := fresh_back e12 hu
    have e3 : Ex H (upd H2 u (.tup vs)) := e12.trans (Ex.new hu)
    have e4 : Ex H (upd (upd H2 u (.tup vs)) q (.lst [.ref u])) := e3.trans (Ex.new hq)
    have nuq : u ≠ q := fun c => by
      rw [c, upd_same] at hq
      cases hq
    refine ⟨l, q, xs, [.ref u], rfl, rfl, e4 _ _ h, upd_same, sz_of (show _ + 1 ≤ 100000 by omega), fun p hp => ?_⟩
    have nup : u ≠ p := fun c => by
      rw [← c, upd_ne nuq, upd_same] at hp
      cases hp
    refine k u p _ u0 (fresh_back e4 hp) (e4.trans (Ex.new hp)) ?_ upd_same
    rw [upd_ne nup, upd_ne nuq]
    exact upd_same⟩⟩
theorem cut_dl {xs : List V} {x : V} : cutV (xs ++ [x]) none (some (-1)) = xs := by
  have hl : (xs ++ [x]).length = xs.length + 1 := by simp
  have q : HT.sIx (xs ++ [x]).length (xs ++ [x]).length (some (-1)) = xs.length := by
    show (if (-1 : Int) < 0 then ((-1 : Int) + ((xs ++ [x]).length : Int)).toNat else min (-1 : Int).toNat (xs ++ [x]).length) = _
    rw [if_pos (by decide), hl]
    omega
  unfold cutV
  rw [HT.sIx_none, q, List.drop_zero, Nat.sub_zero]
  exact List.take_left
theorem PastP.snoc {H : Hp} {X ts : List Addr} {past : List (List Str × Int)} {u : Addr} {x : List Str × Int} (h : PastP H X ts past) (k : OneP H X u x) : PastP H X (ts ++ [u]) (past ++ [x]) := by
  have h5 := h.1
  refine ⟨by rw [List.length_append, List.length_append, h5] <;> rfl, fun i v e hu he => ?_⟩
  rcases Nat.lt_or_ge i ts.length with c | c
  · rw [List.getElem?_append_left c] at hu
    rw [List.getElem?_append_left (by omega)] at he
    exact h.2 i v e hu he
  · rw [List.getElem?_append_right c] at hu
    rw [List.getElem?_append_right (by omega)] at he
    have ei : i - ts.length = 0 := by
      have := (List.getElem?_eq_some_iff.mp hu).1
      rw [List.length_singleton] at this
      omega
    rw [ei] at hu
    rw [← h5, ei] at he
    cases hu
    cases he
    exact k
def sp_after (K : PySem.W.Frag) : Sp := fun vs H Q _ => ∃ (r l t : Addr) (X : List Addr) (row : List Str) (w : Int) (past : List (List Str × Int)) (d : Dd), vs = [.ref r, .int w, .ref l, .ref t] ∧ Ls X H ∧ r ∉ X ∧ l ∉ X ∧ H r = some (.lst (row.map V.str)) ∧ PastL H X l past ∧ H t = some (.tup d.tup) ∧ d.Ok ∧ dueOf row w past d = 0 ∧ row.length ≤ 2000 ∧ past.length ≤ 50000 ∧
  ∀ t' H', Ex H H' → NowAt H' X t' (afterOf row w past d).1 (afterOf row w past d).2.1 (afterOf row w past d).2.2 → Q (.ref t') H'
theorem ok_l_after (T : Txt K mg A) : FnOk P w K mg base CX0 1 A.f_l_after A.d_l_after ["_law_row", "_law_width", "_law_past", "_law_deed"] (sp_after K) := by
  refine T.F_l_after.ok sc_l_after (fun vs H Q E h => ?_) (fun cdv Ar outer s H vs Q E hr h => ?_)
  · obtain ⟨r, l, t, X, row, w, past, d, rfl, _⟩ := h
    rfl
  · obtain ⟨r, l, t, X, row, w, past, d, rfl, hX, hrX, hlX, hrow, hL, ht, hd, h0, hrl, hpl, k⟩ := h
    refine ⟨_, (pss_cons (ps_if (pt_cmpR op_eq (pe_ix (TwE.ixTE (K := K) rfl) (pv 3) pe_int (fun _ _ => rfl)) pe_str (nomark _))
  (pss_one (ps_ret (pe_tup (pa_cons (pe_ix (TwE.ixTE (K := K) rfl) (pe_ix (ixL (K := K) rfl) (pv 2) (pe_un un_neg pe_int) (fun _ _ => rfl)) pe_int (fun _ _ => rfl)) (pa_cons (pe_ix (TwE.ixTE (K := K) rfl) (pe_ix (ixL (K := K) rfl) (pv 2) (pe_un un_neg pe_int) (fun _ _ => rfl)) pe_int (fun _ _ => rfl)) (pa_cons (pe_slice (TwT.slL (K := K) rfl) (pv 2) po_none (po_some (pe_un un_neg pe_int))) pa_nil))))))
  pss_nil)
  (pss_cons (ps_set (i := 2) sc_l_after.nd rfl (.inl rfl) (pe_op op_cat (pv 2) (pe_lst (pa_cons (pe_tup (pa_cons (pv 0) (pa_cons (pv 1) pa_nil))) pa_nil))))
  (pss_cons (ps_if (pt_cmpR op_eq (pe_ix (TwE.ixTE (K := K) rfl) (pv 3) pe_int (fun _ _ => rfl)) pe_str (nomark _))
  (pss_one (ps_ret (pe_tup (pa_cons (pe_op op_cat (pe_op op_cat (pe_slice (TwT.slL (K := K) rfl) (pv 0) po_none (po_some (pe_ix (TwE.ixTE (K := K) rfl) (pv 3) pe_int (fun _ _ => rfl)))) (pe_lst (pa_cons (pe_ix (TwE.ixTE (K := K) rfl) (pv 3) pe_int (fun _ _ => rfl)) pa_nil))) (pe_slice (TwT.slL (K := K) rfl) (pv 0) (po_some (pe_ix (TwE.ixTE (K := K) rfl) (pv 3) pe_int (fun _ _ => rfl))) po_none)) (pa_cons (pv 1) (pa_cons (pv 2) pa_nil))))))
  pss_nil)
  (pss_cons (ps_if (pt_cmpR op_eq (pe_ix (TwE.ixTE (K := K) rfl) (pv 3) pe_int (fun _ _ => rfl)) pe_str (nomark _))
  (pss_one (ps_ret (pe_tup (pa_cons (pe_op op_cat (pe_slice (TwT.slL (K := K) rfl) (pv 0) po_none (po_some (pe_ix (TwE.ixTE (K := K) rfl) (pv 3) pe_int (fun _ _ => rfl)))) (pe_slice (TwT.slL (K := K) rfl) (pv 0) (po_some (pe_op op_add (pe_ix (TwE.ixTE (K := K) rfl) (pv 3) pe_int (fun _ _ => rfl)) pe_int)) po_none)) (pa_cons (pv 1) (pa_cons (pv 2) pa_nil))))))
  pss_nil)
  (pss_one (ps_ret (pe_tup (pa_cons (pv 0) (pa_cons (pe_ix (TwE.ixTE (K := K) rfl) (pv 3) pe_int (fun _ _ => rfl)) (pa_cons (pv 2) pa_nil)))))))))), ?_⟩
    obtain ⟨ts, hl, hPP⟩ := id hL
    have hn := hPP.1
    have two : ∀ (tag : d.tag ≠ "undo"), True := fun _ => trivial
    by_cases hu : d = .undo
    · subst hu
      have hpe : past ≠ [] := fun q => by
        rw [show dueOf row w past .undo = 20 from if_pos q] at h0
        cases h0
      obtain ⟨past0, e, rfl⟩ : ∃ past0 e, past = past0 ++ [e] := ⟨past.dropLast, past.getLast hpe, (List.dropLast_concat_getLast hpe).symm⟩
      have hte : ts ≠ [] := fun q => by
        rw [q, List.length_append] at hn
        cases hn
      obtain ⟨ts0, u, rfl⟩ : ∃ ts0 u, ts = ts0 ++ [u] := ⟨ts.dropLast, ts.getLast hte, (List.dropLast_concat_getLast hte).symm⟩
      have hn0 : ts0.length = past0.length := by
        rw [List.length_append, List.length_append] at hn
        exact Nat.add_right_cancel hn
      obtain ⟨wl, g1, g2, g3⟩ := hPP.2 ts0.length u e (by simp) (by rw [hn0]; simp)
      refine q_when (b := true) (et_is (et_test (ev_op (ev_ix (d := .undo) (i := 0) (ev_var rfl) ht rfl) ev_c (rv_eq rfl))) (decide_eq_true rfl)) (fun _ H1 e1 => ?_) (fun hb => nomatch hb)
      rw [List.map_append] at hl
      have lst : ∀ {σ : L2.St} {H' : Hp}, Ex H1 H' → σ[2]? = some (some (.ref l)) → Ev (tOp (rIxL K) (tVar 2) (tUn (rU fun i => .int (-i)) (tC (.int 1)))) σ H' (.ref u) := fun e2 g => ev_op (ev_var g) (ev_un ev_c ru_neg) (rv_ixL (sq_of ((e1.trans e2) _ _ hl)) (atI_last _ _))
      refine s_retTP (ap_cons (v := .ref wl) (ev_op (lst (Ex.refl H1) rfl) ev_c (rv_ixT (st_of (e1 _ _ g2)) rfl)) (ap_cons (v := .int e.2) (ev_op (lst (Ex.refl H1) rfl) ev_c (rv_ixT (st_of (e1 _ _ g2)) rfl)) (ap_consF (el_is (el_sl (hi := some (-1)) (ev_var rfl) eo_none (eo_some (ev_un ev_c ru_neg)) (sq_of (e1 _ _ hl))) cut_dl) ap_nil))) (fun vs H ⟨_, a, _, b, p, _, c, _, _, d⟩ => by rw [a, b, c, d]; exact (show 3 ≤ 100000 by decide)) ?_
      rintro vs H2 t2 e2 ⟨r1, rfl, r2, rfl, p, r3, rfl, p0, hp, rfl⟩ t20
      have e12 := e1.trans e2
      have e13 := e12.trans (Ex.new (o := .tup [.ref wl, .int e.2, .ref p]) t20)
      refine k t2 _ e13 ?_
      show NowAt _ X t2 ((past0 ++ [e]).getLastD ([], 0)).1 ((past0 ++ [e]).getLastD ([], 0)).2 (past0 ++ [e]).dropLast
      rw [List.getLastD_concat, List.dropLast_concat]
      refine ⟨wl, p, upd_same, g1, ls_fresh (hX.grow e1) p0, e13 _ _ g3, ts0, Ex.new t20 _ _ hp, hn0, fun i v x hv hx => ?_⟩
      exact (hPP.2 i v x (by rw [List.getElem?_append_left (List.getElem?_eq_some_iff.mp hv).1]; exact hv) (by rw [List.getElem?_append_left (List.getElem?_eq_some_iff.mp hx).1]; exact hx)).grow e13
    · have hut : ¬ d.tag = "undo" := by
        cases d with
        | undo => exact absurd rfl hu
        | put a z => exact fun q => n_up q.symm
        | drop a => exact fun q => n_ud q.symm
        | widen v => exact fun q => n_uw q.symm
        | fill => exact absurd hd id
      refine q_when (b := false) (et_is (et_test (ev_op (ev_ix (d := d) (i := 0) (ev_var rfl) ht (tag0 d)) ev_c (rv_eq rfl))) (nV hut)) (fun hb => nomatch hb) (fun _ H1 e1 => ?_)
      refine q_catT (ev_var rfl) (e1 _ _ hl) (vs := [.ref r, .int w]) (ea_cons (ev_var rfl) (ea_cons (ev_var rfl) ea_nil)) (show 2 ≤ 1000 by decide) (by rw [List.length_map]; omega) fun u p H2 u0 p0 e2 hu2 hp2 => ?_
      have e12 := e1.trans e2
      have t2 := e12 _ _ ht
      have r2 := e12 _ _ hrow
      have pX : p ∉ X := ls_fresh (hX.grow e1) p0
      have newP : ∀ H', Ex H2 H' → PastL H' X p (past ++ [(row, w)]) := fun H' e => ⟨ts ++ [u], by rw [List.map_append]; exact e _ _ hp2, (hPP.grow (e12.trans e)).snoc ⟨r, hrX, e _ _ hu2, e _ _ r2⟩⟩
      cases d with
      | undo => exact absurd rfl hu
      | fill => exact absurd hd id
      | put a z =>
        have ha : 0 ≤ a ∧ a ≤ (row.length : Int) := by
          by_cases c : 0 ≤ a ∧ a ≤ (row.length : Int)
          · exact c
          · rw [show dueOf row w past (.put a z) = 17 from if_pos c] at h0
            cases h0
        obtain ⟨j, rfl⟩ : ∃ j : Nat, a = (j : Int) := ⟨a.toNat, by omega⟩
        refine q_when (b := true) (et_is (et_test (ev_op (ev_ix (d := .put (j : Int) z) (i := 0) (ev_var rfl) t2 rfl) ev_c (rv_eq rfl))) (decide_eq_true rfl)) (fun _ H3 e3 => ?_) (fun hb => nomatch hb)
        have t3 := e3 _ _ t2
        have r3 := e3 _ _ r2
        refine s_retTP (ap_consF (xs := (putAt row j z).map V.str) (el_is (el_catN (el_catN (el_sl (hi := some (j : Int)) (ev_var rfl) eo_none (eo_some (ev_ix (d := .put (j : Int) z) (i := 1) (ev_var rfl) t3 rfl)) (sq_of r3)) (el_lst (vs := [.str z]) (ea_cons (ev_ix (d := .put (j : Int) z) (i := 2) (ev_var rfl) t3 rfl) ea_nil) (show 1 ≤ 100000 by decide)) ?_) (el_sl (lo := some (j : Int)) (ev_var rfl) (eo_some (ev_ix (d := .put (j : Int) z) (i := 1) (ev_var rfl) t3 rfl)) eo_none (sq_of r3)) ?_) ?_) (ap_cons (ev_var rfl) (ap_cons (ev_var rfl) ap_nil))) (fun vs H ⟨p, _, a, _, _, _, b, _, c, d⟩ => by rw [a, b, c, d]; exact (show 3 ≤ 100000 by decide)) ?_
        · rw [cut_pre, List.length_map, List.length_take]
          show _ + 1 ≤ _
          omega
        · rw [cut_pre, cut_post, List.length_append, List.length_map, List.length_map, List.length_take, List.length_drop]
          show _ + 1 + _ ≤ _
          omega
        · rw [cut_pre, cut_post]
          unfold putAt
          rw [List.map_append, List.map_append] <;> rfl
        · rintro vs H4 t4 e4 ⟨q, r1, rfl, q0, hq, r2', rfl, r3', rfl, rfl⟩ t40
          have e24 := e3.trans e4
          exact k t4 _ ((e12.trans e24).trans (Ex.new t40)) ⟨q, p, upd_same, ls_fresh ((hX.grow e12).grow e3) q0, pX, Ex.new t40 _ _ hq, newP _ (e24.trans (Ex.new t40))⟩
      | drop a =>
        have ha : 0 ≤ a ∧ a < (row.length : Int) := by
          by_cases c : 0 ≤ a ∧ a < (row.length : Int)
          · exact c
          · rw [show dueOf row w past (.drop a) = 17 from if_pos c] at h0
            cases h0
        obtain ⟨j, rfl⟩ : ∃ j : Nat, a = (j : Int) := ⟨a.toNat, by omega⟩
        refine q_when (b := false) (et_is (et_test (ev_op (ev_ix (d := .drop (j : Int)) (i := 0) (ev_var rfl) t2 rfl) ev_c (rv_eq rfl))) (nV n_dp)) (fun hb => nomatch hb) (fun _ H3 e3 => ?_)
        have t3 := e3 _ _ t2
        refine q_when (b := true) (et_is (et_test (ev_op (ev_ix (d := .drop (j : Int)) (i := 0) (ev_var rfl) t3 rfl) ev_c (rv_eq rfl))) (decide_eq_true rfl)) (fun _ H4 e4 => ?_) (fun hb => nomatch hb)
        have t4 := e4 _ _ t3
        have e24 := e3.trans e4
        have r4 := e24 _ _ r2
        refine s_retTP (ap_consF (xs := (dropAt row j).map V.str) (el_is (el_catN (el_sl (hi := some (j : Int)) (ev_var rfl) eo_none (eo_some (ev_ix (d := .drop (j : Int)) (i := 1) (ev_var rfl) t4 rfl)) (sq_of r4)) (el_sl (lo := some ((j + 1 : Nat) : Int)) (ev_var rfl) (eo_some (ev_is (ev_op (ev_ix (d := .drop (j : Int)) (i := 1) (ev_var rfl) t4 rfl) ev_c rv_I0) (congrArg V.int (by omega)))) eo_none (sq_of r4)) ?_) ?_) (ap_cons (ev_var rfl) (ap_cons (ev_var rfl) ap_nil))) (fun vs H ⟨p, _, a, _, _, _, b, _, c, d⟩ => by rw [a, b, c, d]; exact (show 3 ≤ 100000 by decide)) ?_
        · rw [cut_pre, cut_post, List.length_map, List.length_map, List.length_take, List.length_drop]
          omega
        · rw [cut_pre, cut_post, ← List.map_append] <;> rfl
        · rintro vs H5 t5 e5 ⟨q, r1, rfl, q0, hq, r2', rfl, r3', rfl, rfl⟩ t50
          have e25 := e24.trans e5
          exact k t5 _ ((e12.trans e25).trans (Ex.new t50)) ⟨q, p, upd_same, ls_fresh ((hX.grow e12).grow e24) q0, pX, Ex.new t50 _ _ hq, newP _ (e25.trans (Ex.new t50))⟩
      | widen v =>
        refine q_when (b := false) (et_is (et_test (ev_op (ev_ix (d := .widen v) (i := 0) (ev_var rfl) t2 rfl) ev_c (rv_eq rfl))) (nV n_wp)) (fun hb => nomatch hb) (fun _ H3 e3 => ?_)
        have t3 := e3 _ _ t2
        refine q_when (b := false) (et_is (et_test (ev_op (ev_ix (d := .widen v) (i := 0) (ev_var rfl) t3 rfl) ev_c (rv_eq rfl))) (nV n_wd)) (fun hb => nomatch hb) (fun _ H4 e4 => ?_)
        have t4 := e4 _ _ t3
        have e24 := e3.trans e4
        refine s_retTP (ap_cons (v := .ref r) (ev_var rfl) (ap_cons (ev_ix (d := .widen v) (i := 1) (ev_var rfl) t4 rfl) (ap_cons (ev_var rfl) ap_nil))) (fun vs H ⟨_, a, _, b, _, c, d⟩ => by rw [a, b, c, d]; exact (show 3 ≤ 100000 by decide)) ?_
        rintro vs H5 t5 e5 ⟨r1, rfl, r2', rfl, r3', rfl, rfl⟩ t50
        have e25 := e24.trans e5
        exact k t5 _ ((e12.trans e25).trans (Ex.new t50)) ⟨r, p, upd_same, hrX, pX, (e25.trans (Ex.new t50)) _ _ r2, newP _ (e25.trans (Ex.new t50))⟩
/-! ### one deed -/
theorem q_ifAns {spT spA : Sp} {ta tr : TA} {E1 E2 : XK} {tu tz : TS} {σ : L2.St} {H : Hp} {D : Ends} {vs : List V} (h : EvA ta σ H vs) (k : ∀ H1, Ex H H1 → spT (vs ++ []) H1 (fun x H2 => tr σ H2 fun xs H3 => spA ((x :: xs) ++ []) H3 (fun y H4 => ∃ c, y = .bl c ∧ (if (!c) = true then tu { D with nx := tz D } σ H4 else tz D σ H4)) E2) E1) :
    tSeq (tIfS (tNot (tB (tCall spA [] E2 (tCons (tCall spT [] E1 ta) tr)))) tu tNext) tz D σ H := h H (Ex.refl H) _ k
def sp_step (K : PySem.W.Frag) (A : Ad) : Sp := fun vs H Q _ => ∃ (p pl tn t : Addr) (X : List Addr) (row : List Str) (w : Int) (past : List (List Str × Int)) (d : Dd), vs = [.ref p, .ref tn, .ref t] ∧ PageAt A H p pl X row w past ∧ NowAt H X tn row w past ∧ H t = some (.tup d.tup) ∧ d.Ok ∧ Good row w ∧ past.length ≤ 50000 ∧ PastW past ∧
  (dueOf row w past d ≠ 0 → RetV (.ref tn) H Q) ∧
  (dueOf row w past d = 0 → ∀ t' H', ExS p pl H H' → PageAt A H' p pl X (afterOf row w past d).1 (afterOf row w past d).2.1 (afterOf row w past d).2.2 → NowAt H' X t' (afterOf row w past d).1 (afterOf row w past d).2.1 (afterOf row w past d).2.2 → Q (.ref t') H')
theorem ok_l_step (T : Txt K mg A) : FnOk P w K mg base CX0 7 A.f_l_step A.d_l_step ["_law_page", "_law_now", "_law_deed"] (sp_step K A) := by
  refine T.F_l_step.ok sc_l_step (fun vs H Q E h => ?_) (fun cdv Ar outer s H vs Q E hr h => ?_)
  · obtain ⟨p, pl, tn, t, X, row, w, past, d, rfl, _⟩ := h
    rfl
  · obtain ⟨p, pl, tn, t, X, row, w, past, d, rfl, hP, hN, ht, hd, hG, hpl, hpw, k1, k2⟩ := h
    refine ⟨_, (pss_cons (ps_set (i := 3) sc_l_step.nd rfl (.inl rfl) (pe_call (ok_l_due T) (hr.mono (by decide)) rfl T.g_l_due T.F_l_due.kp T.b_l_due .nil pass0 (pa_cons (pe_ix (TwE.ixTE (K := K) rfl) (pv 1) pe_int (fun _ _ => rfl)) (pa_cons (pe_ix (TwE.ixTE (K := K) rfl) (pv 1) pe_int (fun _ _ => rfl)) (pa_cons (pe_ix (TwE.ixTE (K := K) rfl) (pv 1) pe_int (fun _ _ => rfl)) (pa_cons (pv 2) pa_nil))))))
  (pss_cons (ps_if (pt_not (pt_val (pe_call (ok_l_answered T) (hr.mono (by decide)) rfl T.g_l_answered T.F_l_answered.kp T.b_l_answered .nil pass0 (pa_cons (pe_call (ok_l_told T) (hr.mono (by decide)) rfl T.g_l_told T.F_l_told.kp T.b_l_told .nil pass0 (pa_cons (pv 0) (pa_cons (pv 2) pa_nil))) (pa_cons (pe_ix (TwE.ixTE (K := K) rfl) (pv 1) pe_int (fun _ _ => rfl)) (pa_cons (pv 2) (pa_cons (pv 3) pa_nil)))))))
  (pss_one (ps_ret pe_non))
  pss_nil)
  (pss_cons (ps_if (pt_cmpR op_eq (pv 3) pe_int (nomark _))
  (pss_one (ps_ret (pe_call (ok_l_after T) (hr.mono (by decide)) rfl T.g_l_after T.F_l_after.kp T.b_l_after .nil pass0 (pa_cons (pe_ix (TwE.ixTE (K := K) rfl) (pv 1) pe_int (fun _ _ => rfl)) (pa_cons (pe_ix (TwE.ixTE (K := K) rfl) (pv 1) pe_int (fun _ _ => rfl)) (pa_cons (pe_ix (TwE.ixTE (K := K) rfl) (pv 1) pe_int (fun _ _ => rfl)) (pa_cons (pv 2) pa_nil)))))))
  pss_nil)
  (pss_one (ps_ret (pv 1)))))), ?_⟩
    obtain ⟨r, l, n1, n2, n3, n4, n5⟩ := id hN
    have ix : ∀ (i : Nat) (v : V) {σ : L2.St} {H' : Hp}, [V.ref r, .int w, .ref l][i]? = some v → H' tn = some (.tup [.ref r, .int w, .ref l]) → σ[1]? = some (some (.ref tn)) → Ev (tOp (rIxT K) (tVar 1) (tC (.int (i : Int)))) σ H' v := fun i v σ H' hi e g => ev_op (ev_var g) ev_c (rv_ixT (st_of e) (atI_nat hi))
    refine q_asg (v := .int (dueOf row w past d)) (ev_call (ea_cons (ix 0 _ rfl n1 rfl) (ea_cons (ix 1 _ rfl n1 rfl) (ea_cons (ix 2 _ rfl n1 rfl) (ea_cons (ev_var rfl) ea_nil)))) fun H5 e5 Q' q E' => ⟨r, l, t, X, row, w, past, d, rfl, e5 _ _ n4, n5.grow e5, hpw, e5 _ _ ht, hd, hG.2.2.2.1, q⟩) fun H1 e1 => ?_
    have hP1 := hP.grow e1
    have hN1 := hN.grow e1
    have t1 := e1 _ _ ht
    refine q_ifAns (ea_cons (ev_var rfl) (ea_cons (ev_var rfl) ea_nil)) fun H2 e2 => ⟨p, pl, t, X, row, w, past, d, rfl, hP1.grow e2, e2 _ _ t1, hd, hG, hpl, fun hdue H3 e3 => ?_, fun hdue f H3 hA x hP3 => ?_⟩
    · have e23 := e2.trans e3
      have e13 := e1.trans e23
      refine (ea_cons (ix 0 _ rfl (e13 _ _ n1) rfl) (ea_cons (ev_var rfl) (ea_cons (ev_var rfl) ea_nil))) H3 (Ex.refl H3) _ fun H4 e4 => ?_
      have e14 := e13.trans e4
      refine ⟨.int (dueOf row w past d), r, t, row, d, dueOf row w past d, rfl, e14 _ _ n4, e14 _ _ ht, .no hdue, fun H5 e5 => ⟨true, rfl, ?_⟩⟩
      rw [if_neg (show ¬ ((!true) = true) by decide)]
      show tSeq _ _ _ _ H5
      refine q_when (b := false) (et_is (et_test (ev_op (ev_var rfl) ev_c (rv_eq rfl))) (decide_eq_false (fun q => hdue (by injection q)))) (fun hb => nomatch hb) (fun _ H6 e6 => ?_)
      exact s_ret (v := .ref tn) (ev_var rfl) fun H7 e7 => k1 hdue H7 (((e14.trans e5).trans e6).trans e7)
    · have e12 := e1.trans e2
      have gd : Gd [p, pl] X H2 := (hP.grow e12).gd
      have eN : ExN [p, pl] H2 H3 := ExN.of_s x
      have n13 := gd.tup eN (e12 _ _ n1)
      have t3 := gd.tup eN (e12 _ _ ht)
      have r3 := gd.lst eN n2 (e12 _ _ n4)
      have p3 := (n5.grow e12).keep n3 gd eN
      refine (ea_cons (ix 0 _ rfl n13 rfl) (ea_cons (ev_var rfl) (ea_cons (ev_var rfl) ea_nil))) H3 (Ex.refl H3) _ fun H4 e4 => ?_
      rw [hdue]
      refine ⟨f, r, t, row, d, 0, rfl, e4 _ _ r3, e4 _ _ t3, hA, fun H5 e5 => ⟨true, rfl, ?_⟩⟩
      have e35 := e4.trans e5
      rw [if_neg (show ¬ ((!true) = true) by decide)]
      show tSeq _ _ _ _ H5
      refine q_when (b := true) (et_is (et_test (ev_op (ev_var rfl) ev_c (rv_eq rfl))) (decide_eq_true rfl)) (fun _ H6 e6 => ?_) (fun hb => nomatch hb)
      have e36 := e35.trans e6
      have n16 := e36 _ _ n13
      refine s_retCA (ea_cons (ix 0 _ rfl n16 rfl) (ea_cons (ix 1 _ rfl n16 rfl) (ea_cons (ix 2 _ rfl n16 rfl) (ea_cons (ev_var rfl) ea_nil)))) fun H7 e7 => ?_
      have e37 := e36.trans e7
      have x7 : ExS p pl H H7 := ((ExS.of e12).trans x).trans (ExS.of e37)
      exact ⟨r, l, t, X, row, w, past, d, rfl, (hP3.grow e37).ls, n2, n3, e37 _ _ r3, p3.grow e37, e37 _ _ t3, hd, hdue, by have := hG.2.2.1; omega, hpl, fun t' H8 e8 hN8 => k2 hdue t' H8 (x7.trans (ExS.of e8)) ((hP3.grow e37).grow e8) hN8⟩

--SPLIT
theorem yes_if {σ : L2.St} {H : Hp} {G F : Hp → Prop} (h : G H) : tYes σ H fun b H3 => if b = true then G H3 else F H3 := by
  show (if (true : Bool) = true then G H else F H)
  rw [if_pos rfl]
  exact h
/-! ### lists of deeds -/
def Deeds (H : Hp) (ts : List Addr) : Prop := ∀ t ∈ ts, ∃ d : Dd, H t = some (.tup d.tup) ∧ d.Ok
theorem Deeds.grow {H H' : Hp} {ts : List Addr} (h : Deeds H ts) (e : Ex H H') : Deeds H' ts := fun t ht => by
  obtain ⟨d, h1, h2⟩ := h t ht
  exact ⟨d, e _ _ h1, h2⟩
theorem Deeds.keep {ms X : List Addr} {H H' : Hp} {ts : List Addr} (h : Deeds H ts) (g : Gd ms X H) (e : ExN ms H H') : Deeds H' ts := fun t ht => by
  obtain ⟨d, h1, h2⟩ := h t ht
  exact ⟨d, g.tup e h1, h2⟩
theorem Deeds.app {H : Hp} {ts us : List Addr} (h : Deeds H ts) (k : Deeds H us) : Deeds H (ts ++ us) := fun t ht => by
  rcases List.mem_append.mp ht with c | c
  · exact h t c
  · exact k t c
def RetD (n : Nat) (H : Hp) (Q : VK) : Prop := ∀ l ts H2, H l = none → Ex H H2 → H2 l = some (.lst (ts.map V.ref)) → ts.length ≤ n → Deeds H2 ts → Q (.ref l) H2
def EvD (te : TE) (σ : L2.St) (H : Hp) (n : Nat) : Prop := ∀ H1, Ex H H1 → ∀ Q : VK, (∀ l ts H2, H1 l = none → Ex H1 H2 → H2 l = some (.lst (ts.map V.ref)) → ts.length ≤ n → Deeds H2 ts → Q (.ref l) H2) → te σ H1 Q
def ArgD (ta : TA) (σ : L2.St) (H : Hp) (n : Nat) : Prop := ∀ H1, Ex H H1 → ∀ Q : List V → Hp → Prop, (∀ ts H2, Ex H1 H2 → ts.length = n → Deeds H2 ts → Q (ts.map V.ref) H2) → ta σ H1 Q
section
variable {σ : L2.St} {H : Hp} {te ta tb : TE} {tr : TA} {n m : Nat} {D : Ends}
theorem ad_nil : ArgD tNil σ H 0 := fun H1 _ Q q => q [] H1 (Ex.refl H1) rfl fun t ht => absurd ht (List.not_mem_nil)
theorem Deeds.cons {H : Hp} {t : Addr} {ts : List Addr} {d : Dd} (h : H t = some (.tup d.tup)) (hd : d.Ok) (k : Deeds H ts) : Deeds H (t :: ts) := fun u hu => by
  rcases List.mem_cons.mp hu with c | c
  · rw [c]
    exact ⟨d, h, hd⟩
  · exact k u c
theorem ad_old {d : Dd} {t : Addr} (h : Ev te σ H (.ref t)) (ht : H t = some (.tup d.tup)) (hd : d.Ok) (hr : ArgD tr σ H n) : ArgD (tCons te tr) σ H (n + 1) := fun H1 e Q q =>
  h H1 e _ fun H2 e2 => hr H2 (e.trans e2) _ fun ts H3 e3 hl hD => q (t :: ts) H3 (e2.trans e3) (by rw [List.length_cons, hl]) (hD.cons (e3 _ _ (e2 _ _ (e _ _ ht))) hd)
theorem ad_new {d : Dd} (h : EvU te σ H d.tup) (hd : d.Ok) (hr : ArgD tr σ H n) : ArgD (tCons te tr) σ H (n + 1) := fun H1 e Q q =>
  h H1 e _ fun t H2 _ e2 ht => hr H2 (e.trans e2) _ fun ts H3 e3 hl hD => q (t :: ts) H3 (e2.trans e3) (by rw [List.length_cons, hl]) (hD.cons (e3 _ _ ht) hd)
theorem ed_lst (h : ArgD tr σ H n) (hn : n ≤ 100000) : EvD (tLst tr) σ H n := fun H1 e Q q =>
  h H1 e _ fun ts H2 e2 hl hD => ⟨sz_of (by rw [List.length_map]; omega), fun p hp => q p ts _ (fresh_back e2 hp) (e2.trans (Ex.new hp)) upd_same (by omega) (hD.grow (Ex.new hp))⟩
theorem ed_cat (ha : EvD ta σ H n) (hb : EvD tb σ H m) (hz : n + m ≤ 100000) : EvD (tOp rCat ta tb) σ H (n + m) := fun H1 e Q q =>
  ha H1 e _ fun l ts H2 _ e2 hl hn hD => hb H2 (e.trans e2) _ fun p us H3 _ e3 hp hm hD2 => ⟨l, p, ts.map V.ref, us.map V.ref, rfl, rfl, e3 _ _ hl, hp, sz_of (by rw [List.length_map, List.length_map]; omega), fun r hr =>
    q r (ts ++ us) _ (fresh_back (e2.trans e3) hr) ((e2.trans e3).trans (Ex.new hr)) (by rw [List.map_append]; exact upd_same) (by rw [List.length_append]; omega) (((hD.grow e3).app hD2).grow (Ex.new hr))⟩
theorem ed_call {sp : Sp} {E : XK} {vs : List V} (h : EvA tr σ H vs) (hs : ∀ H1, Ex H H1 → ∀ Q : VK, RetD n H1 Q → sp (vs ++ []) H1 Q E) : EvD (tCall sp [] E tr) σ H n := fun H1 e Q q =>
  h H1 e _ fun H2 e2 => hs H2 (e.trans e2) Q fun l ts H3 l0 e3 hl hn hD => q l ts H3 (fresh_back e2 l0) (e2.trans e3) hl hn hD
theorem s_retD (h : EvD te σ H n) (k : RetD n H D.rt) : tRet te D σ H := h H (Ex.refl H) _ k
theorem ed_mono (h : EvD te σ H n) (hn : n ≤ m) : EvD te σ H m := fun H1 e Q q => h H1 e Q fun l ts H2 l0 e2 hl hs hD => q l ts H2 l0 e2 hl (Nat.le_trans hs hn) hD
theorem ed_lcR {j : Nat} {vs : List Nat} {N : Nat} (d : Nat → Dd) (h : EvA tr σ H [.int (N : Int)]) (hN : N ≤ 1000) (hw : ∀ x, wipe ((wipe σ vs).set j (some x)) vs = wipe σ vs) (hd : ∀ i, (d i).Ok)
    (he : ∀ (i : Nat) H1, Ex H H1 → i < N → EvU te ((wipe σ vs).set j (some (.int (i : Int)))) H1 (d i).tup) : EvD (tLc (iRng1 tr) (gName j) tYes te vs) σ H N := fun H0 e Q q => h H0 e _ fun H1 e1 => ⟨(N : Int), rfl, by omega, by omega, fun Dl hD => by
  refine lc_range (lo := 0) (n := (N : Int).toNat) (fun i H' => Ex H1 H' ∧ ∃ ts : List Addr, H' Dl = some (.lst (ts.map V.ref)) ∧ ts.length = i ∧ Deeds H' ts) ⟨Ex.new hD, [], upd_same, rfl, fun t ht => absurd ht (List.not_mem_nil)⟩ (fun i H' hi p => ?_) (fun H' p => ?_)
  · obtain ⟨p1, ts, p2, p3, p4⟩ := p
    have e0 : (0 : Int) + (i : Int) = (i : Int) := Int.zero_add _
    show wipe ((wipe σ vs).set j (some (.int ((0 : Int) + (i : Int))))) vs = wipe σ vs ∧ tYes ((wipe σ vs).set j (some (.int ((0 : Int) + (i : Int))))) H' fun b H3 => if b = true then te ((wipe σ vs).set j (some (.int ((0 : Int) + (i : Int))))) H3 fun y H4 => ∃ acc, H4 Dl = some (.lst acc) ∧ acc.length < sizeLine ∧ (Ex H1 (upd H4 Dl (.lst (acc ++ [y]))) ∧ ∃ ts : List Addr, (upd H4 Dl (.lst (acc ++ [y]))) Dl = some (.lst (ts.map V.ref)) ∧ ts.length = i + 1 ∧ Deeds (upd H4 Dl (.lst (acc ++ [y]))) ts) else (Ex H1 H3 ∧ ∃ ts : List Addr, H3 Dl = some (.lst (ts.map V.ref)) ∧ ts.length = i + 1 ∧ Deeds H3 ts)
    rw [e0]
    refine ⟨hw _, ?_⟩
    refine yes_if ?_
    refine he i H' ((e.trans e1).trans p1) (by omega) H' (Ex.refl H') _ fun t H4 t0 e4 ht => ⟨ts.map V.ref, e4 _ _ p2, sz_lt (by rw [List.length_map]; omega), Ex.mut (p1.trans e4) hD, ts ++ [t], by rw [List.map_append]; exact upd_same, by rw [List.length_append, p3] <;> rfl, fun u hu => ?_⟩
    have all : ∃ d : Dd, H4 u = some (.tup d.tup) ∧ d.Ok := by
      rcases List.mem_append.mp hu with c | c
      · exact (p4.grow e4) u c
      · rw [List.mem_singleton.mp c]
        exact ⟨d i, ht, hd i⟩
    obtain ⟨d2, a1, a2⟩ := all
    refine ⟨d2, ?_, a2⟩
    rw [upd_ne fun c => by rw [c, e4 _ _ p2] at a1; cases a1]
    exact a1
  · obtain ⟨p1, ts, p2, p3, p4⟩ := p
    exact q Dl ts H' (fresh_back e1 hD) (e1.trans p1) p2 (by omega) p4⟩
end
/-! ### what makes a deed good -/
theorem isW_one {c : Nat} (h : Ws c) : IsW (⟨#[c]⟩ : Str) := (isW_iff (txs_one (.inr (.inr h)))).mpr ⟨show ¬ (1 = 0) by decide, fun d hd => by
  rw [tl_one] at hd
  rw [List.mem_singleton.mp hd]
  exact h⟩
theorem ok_one {c : Nat} (h : Ws c) : (Dd.put 0 ⟨#[c]⟩).Ok := ⟨⟨by decide, by decide⟩, txs_one (.inr (.inr h)), show 1 ≤ 1000 by decide, fun _ => show 1 ≤ 300 by decide⟩
def sp_made (K : PySem.W.Frag) : Sp := fun vs H Q _ => ∃ (due : Int) (t : Addr) (d : Dd), vs = [.int due, .ref t] ∧ H t = some (.tup d.tup) ∧ d.Ok ∧ RetD 2 H Q
theorem ok_l_made_good (T : Txt K mg A) : FnOk P w K mg base CX0 1 A.f_l_made_good A.d_l_made_good ["_law_due_here", "_law_deed"] (sp_made K) := by
  refine T.F_l_made_good.ok sc_l_made_good (fun vs H Q E h => ?_) (fun cdv Ar outer s H vs Q E hr h => ?_)
  · obtain ⟨due, t, d, rfl, _⟩ := h
    rfl
  · obtain ⟨due, t, d, rfl, ht, hd, k⟩ := h
    refine ⟨_, (pss_cons (ps_if (PW.pt (pw_and (pt_cmpR op_eq (pv 0) pe_int (nomark _)) (pw_and1 (pt_cmpR op_eq (pe_ix (TwE.ixTE (K := K) rfl) (pv 1) pe_int (fun _ _ => rfl)) pe_str (nomark _)))))
  (pss_one (ps_ret (pe_lst (pa_cons (pe_tup (pa_cons pe_str (pa_cons (pe_callB call_len_str (by rfl) T.m_len PySem.boot_len (pa_cons (pe_ix (TwE.ixTE (K := K) rfl) (pv 1) pe_int (fun _ _ => rfl)) pa_nil)) pa_nil))) (pa_cons (pv 1) pa_nil)))))
  pss_nil)
  (pss_cons (ps_if (pt_cmpR op_eq (pv 0) pe_int (nomark _))
  (pss_one (ps_ret (pe_lst (pa_cons (pe_tup (pa_cons pe_str (pa_cons pe_int pa_nil))) (pa_cons (pv 1) pa_nil)))))
  pss_nil)
  (pss_cons (ps_if (pt_cmpR op_eq (pv 0) pe_int (nomark _))
  (pss_one (ps_ret (pe_lst (pa_cons (pe_tup (pa_cons pe_str (pa_cons pe_int (pa_cons pe_str pa_nil)))) (pa_cons (pv 1) pa_nil)))))
  pss_nil)
  (pss_one (ps_ret (pe_lst pa_nil)))))), ?_⟩
    have kk : ∀ H1, Ex H H1 → RetD 2 H1 Q := fun H1 e1 l ts H2 l0 e2 hl hn hD => k l ts H2 (fresh_back e1 l0) (e1.trans e2) hl hn hD
    refine q_when (b := decide (V.int due = V.int 12) && decide (V.str d.tag = V.str "put")) (et_and (et_test (ev_op (ev_var rfl) ev_c (rv_eq rfl))) fun _ => et_test (ev_op (ev_ix (d := d) (i := 0) (ev_var rfl) ht (tag0 d)) ev_c (rv_eq rfl))) (fun hb H1 e1 => ?_) (fun hb H1 e1 => ?_)
    · rw [Bool.and_eq_true] at hb
      have h2 : d.tag = "put" := by
        have q := of_decide_eq_true hb.2
        injection q
      cases d with
      | drop a => exact absurd h2 n_dp
      | widen a => exact absurd h2 n_wp
      | undo => exact absurd h2 n_up
      | fill => exact absurd hd id
      | put a z =>
        have t1 := e1 _ _ ht
        have hz : z.length ≤ 1000 := hd.2.2.1
        exact s_retD (ed_lst (ad_new (d := .widen (z.length : Int)) (eu_tup (vs := Dd.tup (.widen (z.length : Int))) (ea_cons ev_c (ea_cons (ev_cb (ea_cons (ev_ix (d := .put a z) (i := 2) (ev_var rfl) t1 rfl) ea_nil) (rc_lenS (by omega))) ea_nil)) (show 2 ≤ 100000 by decide)) ⟨by omega, by omega⟩ (ad_old (d := .put a z) (ev_var rfl) t1 hd ad_nil)) (by decide)) (kk H1 e1)
    · refine q_when (b := decide (V.int due = V.int 19)) (et_test (ev_op (ev_var rfl) ev_c (rv_eq rfl))) (fun hb H2 e2 => ?_) (fun hb H2 e2 => ?_)
      · have e12 := e1.trans e2
        exact s_retD (ed_lst (ad_new (d := .drop 0) (eu_tup (vs := Dd.tup (.drop 0)) (ea_cons ev_c (ea_cons ev_c ea_nil)) (show 2 ≤ 100000 by decide)) ⟨by decide, by decide⟩ (ad_old (d := d) (ev_var rfl) (e12 _ _ ht) hd ad_nil)) (by decide)) (kk H2 e12)
      · refine q_when (b := decide (V.int due = V.int 20)) (et_test (ev_op (ev_var rfl) ev_c (rv_eq rfl))) (fun hb H3 e3 => ?_) (fun hb H3 e3 => ?_)
        · have e13 := (e1.trans e2).trans e3
          have ea : ∀ {σ : L2.St} {H : Hp}, Ev (tC (.str (Str.ofString "a"))) σ H (.str signA) := ev_is ev_c (congrArg V.str signA_eq)
          exact s_retD (ed_lst (ad_new (d := .put 0 signA) (eu_tup (vs := Dd.tup (.put 0 signA)) (ea_cons ev_c (ea_cons ev_c (ea_cons ea ea_nil))) (show 3 ≤ 100000 by decide)) (ok_one (c := 97) ⟨by decide, by decide⟩) (ad_old (d := d) (ev_var rfl) (e13 _ _ ht) hd ad_nil)) (by decide)) (kk H3 e13)
        · exact s_retD (ed_mono (ed_lst ad_nil (by decide)) (by decide)) (kk H3 ((e1.trans e2).trans e3))
/-! ### a deed by a number -/
theorem mul_all {S : Nat → Prop} {z : Str} (h : ∀ c ∈ TL.tl z, S c) (k : Int) : ∀ c ∈ TL.tl (Txt.mul z k), S c := fun c hc => by
  unfold Txt.mul at hc
  split at hc
  · simp [TL.tl, Str.empty] at hc
  · split at hc
    · exact h c hc
    · have go : ∀ (n : Nat) (acc : Array Nat), (∀ d ∈ acc.toList, S d) → ∀ d ∈ ((List.replicate n z.cps).foldl (· ++ ·) acc).toList, S d := by
        intro n
        induction n with
        | zero => exact fun acc ha => ha
        | succ n ih =>
          intro acc ha
          rw [List.replicate_succ, List.foldl_cons]
          refine ih _ fun d hd => ?_
          rw [Array.toList_append] at hd
          rcases List.mem_append.mp hd with hd | hd
          · exact ha d hd
          · exact h d hd
      exact go _ _ (fun d hd => by simp at hd) c hc
def OkW (z : Str) : Prop := Txs z ∧ z.length ≤ 1000 ∧ (IsW z → z.length ≤ 300)
theorem OkW.wd {z : Str} (h : Wd z) : OkW z := ⟨h.txs, by have := h.2.2; omega, fun _ => h.2.2⟩
def blOf (i : Int) : Nat := if i = 0 then 32 else 10
theorem bl_no (i : Int) : ¬ Ws (blOf i) := by
  unfold blOf
  split <;> exact fun q => absurd q.1 (by decide)
theorem bl_ts (i : Int) : Ts (blOf i) := by
  unfold blOf
  split
  · exact .inl rfl
  · exact .inr (.inl rfl)
def blankLf : Str := " \n"
theorem at_bl {i : Int} (h : i = 0 ∨ i = 1) : atI blankLf.cps.toList i = some (blOf i) := by
  rcases h with h | h <;> rw [h] <;> decide +kernel
theorem ev_bl {ti : TE} {σ : L2.St} {H : Hp} {i : Int} (h : Ev ti σ H (.int i)) (hi : i = 0 ∨ i = 1) : Ev (tOp rIxS (tC (.str " \n")) ti) σ H (.str ⟨#[blOf i]⟩) := ev_op (x := .str blankLf) ev_c h (rv_ixS (by decide +kernel) (at_bl hi))
theorem ev_slS {te : TE} {tl th : TO} {σ : L2.St} {H : Hp} {z : Str} {lo hi : Option Int} (h : Ev te σ H (.str z)) (h1 : EvO tl σ H lo) (h2 : EvO th σ H hi) (hz : z.length ≤ 100000) : Ev (tSl rSlS te tl th) σ H (.str (cutS z lo hi)) := fun H1 e Q q =>
  h H1 e _ fun H2 e2 => h1 H2 (e.trans e2) _ fun H3 e3 => h2 H3 ((e.trans e2).trans e3) _ fun H4 e4 => ⟨z, rfl, sz_of hz, q H4 ((e2.trans e3).trans e4)⟩
theorem cutS_ws {z : Str} {lo hi : Option Int} (h : ∀ c ∈ TL.tl z, Ws c) : ∀ c ∈ TL.tl (cutS z lo hi), Ws c := fun c hc => h c (List.mem_of_mem_drop (List.mem_of_mem_take (by
  have q : TL.tl (cutS z lo hi) = (z.cps.toList.drop (HT.sIx z.length 0 lo)).take (HT.sIx z.length z.length hi - HT.sIx z.length 0 lo) := rfl
  rw [q] at hc
  exact hc)))
theorem okW_mid {z : Str} (h : Wd z) (i a : Int) (b : Bool) : OkW (Txt.mul (cutS z none (some a) ++ ⟨#[blOf i]⟩ ++ cutS z (some a) none) (if b = true then 1 else 0)) := by
  have w1 := cutS_ws (lo := none) (hi := some a) h.1
  have w2 := cutS_ws (lo := some a) (hi := none) h.1
  have l1 := cutS_length z none (some a)
  have l2 := cutS_length z (some a) none
  have l3 := h.2.2
  have hu : Txs (cutS z none (some a) ++ ⟨#[blOf i]⟩ ++ cutS z (some a) none) := Txs.app (Txs.app (fun c hc => .inr (.inr (w1 c hc))) (txs_one (bl_ts i))) fun c hc => .inr (.inr (w2 c hc))
  have lu : (cutS z none (some a) ++ ⟨#[blOf i]⟩ ++ cutS z (some a) none).length ≤ 601 := by
    rw [len_app, len_app]
    show _ + 1 + _ ≤ _
    omega
  have hm : blOf i ∈ TL.tl (cutS z none (some a) ++ ⟨#[blOf i]⟩ ++ cutS z (some a) none) := by
    rw [TL.tl_append, TL.tl_append, tl_one]
    simp
  revert hu lu hm
  generalize cutS z none (some a) ++ ⟨#[blOf i]⟩ ++ cutS z (some a) none = u
  intro hu lu hm
  cases b with
  | true =>
    have e : Txt.mul u (if (true : Bool) = true then 1 else 0) = u := by
      rw [if_pos rfl]
      unfold Txt.mul
      rw [if_neg (by decide), if_pos (by rfl)]
    rw [e]
    exact ⟨hu, by omega, fun q => absurd (((isW_iff hu).mp q).2 _ hm) (bl_no i)⟩
  | false =>
    have e : Txt.mul u (if (false : Bool) = true then 1 else 0) = Str.empty := by
      rw [if_neg (by decide)]
      unfold Txt.mul
      rw [if_pos (by decide)]
    rw [e]
    exact ⟨txs_empty, by decide, fun _ => by decide⟩
theorem okW_bl (i k : Int) (h1 : 1 ≤ k) (h2 : k ≤ 2) : OkW (Txt.mul ⟨#[blOf i]⟩ k) := by
  have hl := len_mul1 (z := ⟨#[blOf i]⟩) rfl (show 0 ≤ k by omega)
  exact ⟨mul_txs (txs_one (bl_ts i)) k, by omega, fun _ => by omega⟩
theorem s_retTC {s : Str} {sp : Sp} {E : XK} {ta tr : TA} {vs : List V} {σ : L2.St} {H : Hp} {D : Ends} (h : EvA ta σ H vs) (k : ∀ H1, Ex H H1 → sp (vs ++ []) H1 (fun a H2 => tr σ H2 fun xs H3 => (V.str s :: a :: xs).length ≤ sizeLine ∧ ∀ p, H3 p = none → D.rt (.ref p) (upd H3 p (.tup (V.str s :: a :: xs)))) E) :
    tRet (tTup (tCons (tC (.str s)) (tCons (tCall sp [] E ta) tr))) D σ H := h H (Ex.refl H) _ k
def sp_deed_by (K : PySem.W.Frag) : Sp := fun vs H Q _ => ∃ (c : Int) (n : Nat), vs = [.int c, .int (n : Int)] ∧ n ≤ 2000 ∧ ∀ t d H', Ex H H' → H' t = some (.tup (Dd.tup d)) → (d.Ok ∨ d = .fill) → Q (.ref t) H'
theorem ok_l_deed_by (T : Txt K mg A) : FnOk P w K mg base CX0 3 A.f_l_deed_by A.d_l_deed_by ["_law_cell", "_law_count"] (sp_deed_by K) := by
  refine T.F_l_deed_by.ok sc_l_deed_by (fun vs H Q E h => ?_) (fun cdv Ar outer s H vs Q E hr h => ?_)
  · obtain ⟨c, n, rfl, _⟩ := h
    rfl
  · obtain ⟨c, n, rfl, hn, k⟩ := h
    refine ⟨_, (pss_cons (ps_set (i := 2) sc_l_deed_by.nd rfl (.inl rfl) (pe_op op_mod (pv 0) pe_int))
  (pss_cons (ps_set (i := 3) sc_l_deed_by.nd rfl (.inl rfl) (pe_op op_fdiv (pv 0) pe_int))
  (pss_cons (ps_if (pt_cmpR op_lt (pv 2) pe_int (nomark _))
  (pss_cons (ps_set (i := 4) sc_l_deed_by.nd rfl (.inl rfl) (pe_call (ok_l_word_by T) (hr.mono (by decide)) rfl T.g_l_word_by T.F_l_word_by.kp T.b_l_word_by .nil pass0 (pa_cons (pe_op op_fdiv (pv 3) pe_int) pa_nil)))
  (pss_cons (ps_if (pt_cmpR op_eq (pe_op op_mod (pv 3) pe_int) pe_int (nomark _))
  (pss_one (ps_set (i := 4) sc_l_deed_by.nd rfl (.inl rfl) (pe_call (ok_l_alike_by T) (hr.mono (by decide)) rfl T.g_l_alike_by T.F_l_alike_by.kp T.b_l_alike_by .nil pass0 (pa_cons (pe_op op_fdiv (pv 3) pe_int) (pa_cons (pe_op op_add pe_int (pe_op op_mod (pe_op op_fdiv (pv 3) pe_int) pe_int)) pa_nil)))))
  pss_nil)
  (Evl.pss_cut (ps_if (pt_cmpR op_eq (pe_op op_mod (pe_op op_fdiv (pv 3) pe_int) pe_int) pe_int (nomark _))
  (pss_cons (ps_set (i := 5) sc_l_deed_by.nd rfl (.inl rfl) (pe_op op_mod (pe_op op_fdiv (pv 3) pe_int) (pe_op op_add (pe_callB call_len_str (by rfl) T.m_len PySem.boot_len (pa_cons (pv 4) pa_nil)) pe_int)))
  (pss_cons (ps_set (i := 4) sc_l_deed_by.nd rfl (.inl rfl) (pe_op op_mulS (pe_op op_add_str (pe_op op_add_str (pe_slice sl_str (pv 4) po_none (po_some (pv 5))) (pe_ix ix_str pe_str (pe_op op_mod (pv 3) pe_int) (fun _ _ => rfl))) (pe_slice sl_str (pv 4) (po_some (pv 5)) po_none)) (pe_callTy call_int1 (by rfl) T.m_int (by decide +kernel) (pa_cons (pe_cmpR op_gt (pe_op op_mod (pv 3) pe_int) pe_int (nomark _)) pa_nil))))
  (pss_one (ps_if (pt_cmpR op_eq (pe_op op_mod (pv 3) pe_int) pe_int (nomark _))
  (pss_one (ps_set (i := 4) sc_l_deed_by.nd rfl (.inl rfl) (pe_op op_mulS (pe_ix ix_str pe_str (pe_op op_mod (pe_op op_fdiv (pv 3) pe_int) pe_int) (fun _ _ => rfl)) (pe_op op_add pe_int (pe_op op_mod (pe_op op_fdiv (pv 3) pe_int) pe_int)))))
  pss_nil))))
  pss_nil)
  (pss_one (ps_ret (pe_tup (pa_cons pe_str (pa_cons (pe_call (ok_l_place_by T) (hr.mono (by decide)) rfl T.g_l_place_by T.F_l_place_by.kp T.b_l_place_by .nil pass0 (pa_cons (pv 3) (pa_cons (pv 1) pa_nil))) (pa_cons (pv 4) pa_nil)))))))))
  pss_nil)
  (pss_cons (ps_if (pt_cmpR op_lt (pv 2) pe_int (nomark _))
  (pss_one (ps_ret (pe_tup (pa_cons pe_str (pa_cons (pe_call (ok_l_place_by T) (hr.mono (by decide)) rfl T.g_l_place_by T.F_l_place_by.kp T.b_l_place_by .nil pass0 (pa_cons (pv 3) (pa_cons (pv 1) pa_nil))) pa_nil)))))
  pss_nil)
  (pss_cons (ps_if (pt_cmpR op_lt (pv 2) pe_int (nomark _))
  (pss_cons (ps_set (i := 6) sc_l_deed_by.nd rfl (.inl rfl) (pe_ix (ixL (K := K) rfl) (pe_lst (pa_cons (pe_op op_pow pe_int pe_int) (pa_cons (pe_un un_neg (pe_op op_pow pe_int pe_int)) pa_nil))) (pe_op op_mod (pe_op op_fdiv (pv 3) pe_int) pe_int) (fun _ _ => rfl)))
  (pss_one (ps_ret (pe_tup (pa_cons pe_str (pa_cons (pe_ix (ixL (K := K) rfl) (pe_lst (pa_cons (pe_op op_sub (pe_op op_mod (pv 3) pe_int) pe_int) (pa_cons (pe_op op_add pe_int (pe_op op_mod (pe_op op_fdiv (pv 3) pe_int) pe_int)) (pa_cons (pv 6) (pa_cons (pe_op op_mod (pe_op op_fdiv (pv 3) pe_int) pe_int) pa_nil))))) (pe_op op_mod (pv 3) pe_int) (fun _ _ => rfl)) pa_nil))))))
  pss_nil)
  (pss_cons (ps_if (PW.pt (pw_and (pt_cmpR op_eq (pv 2) pe_int (nomark _)) (pw_and1 (pt_cmpR op_eq (pe_op op_mod (pv 3) pe_int) pe_int (nomark _)))))
  (pss_one (ps_ret (pe_tup (pa_cons pe_str pa_nil))))
  pss_nil)
  (pss_one (ps_ret (pe_tup (pa_cons pe_str pa_nil)))))))))), ?_⟩
    refine q_asg (v := .int (c % 16)) (ev_op (ev_var rfl) ev_c (rv_I (by decide))) fun H1 e1 => ?_
    refine q_asg (v := .int (c / 16)) (ev_op (ev_var rfl) ev_c (rv_I ⟨by decide, by decide⟩)) fun H2 e2 => ?_
    have e12 := e1.trans e2
    generalize c % 16 = kd
    generalize c / 16 = m
    refine q_when (b := decide (kd < 8)) (et_test (ev_op (ev_var rfl) ev_c rv_I0)) (fun hb H3 e3 => ?_) (fun hb H3 e3 => ?_)
    · have e13 := e12.trans e3
      refine q_asg (v := .str (wordOf (m / 50))) (ev_call (ea_cons (ev_op (ev_var rfl) ev_c (rv_I ⟨by decide, by decide⟩)) ea_nil) fun H5 e5 Q' q E' => ⟨_, rfl, q⟩) fun H4 e4 => ?_
      refine q_ifAsg (i := 4) (b := decide (V.int (m % 4) = V.int 3)) (v := .str (if m % 4 = 3 then alikeOf (m / 50) (1 + m / 8 % 4) else wordOf (m / 50))) (et_test (ev_op (ev_op (ev_var rfl) ev_c (rv_I (by decide))) ev_c (rv_eq rfl))) (fun hb => ?_) (fun hb => ?_) fun H5 e5 => ?_
      · have h := of_decide_eq_true hb
        rw [if_pos (by injection h)]
        exact ev_call (ea_cons (ev_op (ev_var rfl) ev_c (rv_I ⟨by decide, by decide⟩)) (ea_cons (ev_op ev_c (ev_op (ev_op (ev_var rfl) ev_c (rv_I ⟨by decide, by decide⟩)) ev_c (rv_I (by decide))) rv_I0) ea_nil)) fun H5 e5 Q' q E' => ⟨_, _, rfl, by omega, by omega, q⟩
      · have h := of_decide_eq_false hb
        rw [if_neg (fun q => h (by rw [q]))]
        rfl
      have hz : Wd (if m % 4 = 3 then alikeOf (m / 50) (1 + m / 8 % 4) else wordOf (m / 50)) := by
        split
        · exact alikeOf_wd _ (by omega) (by omega)
        · exact wordOf_wd _
      revert hz
      generalize (if m % 4 = 3 then alikeOf (m / 50) (1 + m / 8 % 4) else wordOf (m / 50)) = z
      intro hz
      have e15 := (e13.trans e4).trans e5
      refine q_cut (M := fun σ' H' => ∃ z x5, σ' = [some (.int c), some (.int (n : Int)), some (.int kd), some (.int m), some (.str z), x5, none] ∧ Ex H H' ∧ OkW z) ?_ ?_
      · refine s_when (b := decide (V.int (m / 50 % 19) = V.int 1)) (et_test (ev_op (ev_op (ev_op (ev_var rfl) ev_c (rv_I ⟨by decide, by decide⟩)) ev_c (rv_I (by decide))) ev_c (rv_eq rfl))) (fun hb H6 e6 => ?_) (fun hb H6 e6 => ⟨z, none, rfl, e15.trans e6, .wd hz⟩)
        have l3 := hz.2.2
        have lp : 0 < (z.length : Int) + 1 := by omega
        refine q_asg (v := .int (m / 950 % ((z.length : Int) + 1))) (ev_op (ev_op (ev_var rfl) ev_c (rv_I ⟨by decide, by decide⟩)) (ev_op (ev_cb (ea_cons (ev_var rfl) ea_nil) (rc_lenS (by omega))) ev_c rv_I0) (rv_I (by omega))) fun H7 e7 => ?_
        generalize m / 950 % ((z.length : Int) + 1) = at_
        have ok1 := okW_mid hz (m % 2) at_ (decide (0 < m % 7))
        have l1 := cutS_length z none (some at_)
        have l2 := cutS_length z (some at_) none
        obtain ⟨k1, hk1, k10, k11⟩ : ∃ k1 : Int, (if decide (0 < m % 7) = true then (1 : Int) else 0) = k1 ∧ 0 ≤ k1 ∧ k1 ≤ ((1 : Nat) : Int) := ⟨_, rfl, by split <;> omega, by split <;> omega⟩
        obtain ⟨u, hu, lu⟩ : ∃ u : Str, cutS z none (some at_) ++ ⟨#[blOf (m % 2)]⟩ ++ cutS z (some at_) none = u ∧ u.length ≤ 700 := ⟨_, rfl, by
          rw [len_app, len_app]
          show _ + 1 + _ ≤ _
          omega⟩
        rw [hk1, hu] at ok1
        refine q_asg (v := .str (Txt.mul u k1)) (ev_op (x := .str u) (y := .int k1) (ev_is (ev_op (ev_op (ev_slS (ev_var rfl) eo_none (eo_some (ev_var rfl)) (by omega)) (ev_bl (ev_op (ev_var rfl) ev_c (rv_I (by decide))) (by omega)) (rv_addS ?_)) (ev_slS (ev_var rfl) (eo_some (ev_var rfl)) eo_none (by omega)) (rv_addS ?_)) (congrArg V.str hu)) (ev_is (ev_cb (ea_cons (ev_op (ev_op (ev_var rfl) ev_c (rv_I (by decide))) ev_c rv_I0) ea_nil) rc_intB) (congrArg V.int hk1)) (rv_mulS (L := 700) (N := 1) lu k11 k10 (by decide) (by decide))) fun H8 e8 => ?_
        · show _ + 1 ≤ _
          omega
        · rw [len_app]
          show _ + 1 + _ ≤ _
          omega
        revert ok1
        generalize Txt.mul u k1 = z1
        intro ok1
        have e18 := ((e15.trans e6).trans e7).trans e8
        refine s_when (b := decide (V.int (m % 7) = V.int 1)) (et_test (ev_op (ev_op (ev_var rfl) ev_c (rv_I (by decide))) ev_c (rv_eq rfl))) (fun hb H9 e9 => ?_) (fun hb H9 e9 => ⟨z1, _, rfl, e18.trans e9, ok1⟩)
        refine s_asg (v := .str (Txt.mul ⟨#[blOf (m / 7 % 2)]⟩ (1 + m / 14 % 2))) (ev_op (ev_bl (ev_op (ev_op (ev_var rfl) ev_c (rv_I ⟨by decide, by decide⟩)) ev_c (rv_I (by decide))) (by omega)) (ev_op ev_c (ev_op (ev_op (ev_var rfl) ev_c (rv_I ⟨by decide, by decide⟩)) ev_c (rv_I (by decide))) rv_I0) (rv_mulS (L := 1) (N := 2) (Nat.le_refl 1) (by omega) (by omega) (by decide) (by decide))) fun H10 e10 => ⟨_, _, rfl, (e18.trans e9).trans e10, okW_bl _ _ (by omega) (by omega)⟩
      · rintro σ' H' ⟨z, x5, rfl, e, hz⟩
        refine s_retTC (ea_cons (ev_var rfl) (ea_cons (ev_var rfl) ea_nil)) fun H6 e6 => ⟨m, n, rfl, hn, fun a ha H7 e7 => ?_⟩
        refine (ea_cons (ev_var rfl) ea_nil) H7 (Ex.refl H7) _ fun H8 e8 => ⟨sz_of (show 3 ≤ 100000 by decide), fun p hp => k p (.put a z) _ ((((e.trans e6).trans e7).trans e8).trans (Ex.new hp)) upd_same (.inl ⟨ha, hz⟩)⟩
    · refine q_when (b := decide (kd < 11)) (et_test (ev_op (ev_var rfl) ev_c rv_I0)) (fun hb H4 e4 => ?_) (fun hb H4 e4 => ?_)
      · refine s_retTC (ea_cons (ev_var rfl) (ea_cons (ev_var rfl) ea_nil)) fun H6 e6 => ⟨m, n, rfl, hn, fun a ha H7 e7 => ?_⟩
        exact ⟨sz_of (show 2 ≤ 100000 by decide), fun p hp => k p (.drop a) _ (((((e12.trans e3).trans e4).trans e6).trans e7).trans (Ex.new hp)) upd_same (.inl ha)⟩
      have e14 := (e12.trans e3).trans e4
      refine q_when (b := decide (kd < 13)) (et_test (ev_op (ev_var rfl) ev_c rv_I0)) (fun hb H5 e5 => ?_) (fun hb H5 e5 => ?_)
      · have hl : m / 4 % 2 = 0 ∨ m / 4 % 2 = 1 := by omega
        refine q_asg (v := [V.int 1000000000000000000000000000000, V.int (-1000000000000000000000000000000)].getD (m / 4 % 2).toNat .non) (ev_opL1 (y := .int (m / 4 % 2)) (xs := [V.int 1000000000000000000000000000000, V.int (-1000000000000000000000000000000)]) (el_lst (ea_cons ev_t30 (ea_cons (ev_un ev_t30 ru_neg) ea_nil)) (show 2 ≤ 100000 by decide)) (fun H3 e3 => ev_op (ev_op (ev_var rfl) ev_c (rv_I ⟨by decide, by decide⟩)) ev_c (rv_I (by decide))) fun p H3 hp e3 => rv_ixL (sq_of hp) ?_) fun H6 e6 => ?_
        · rcases hl with q | q <;> rw [q] <;> rfl
        obtain ⟨g, hg, hg2⟩ : ∃ g : Int, [V.int 1000000000000000000000000000000, V.int (-1000000000000000000000000000000)].getD (m / 4 % 2).toNat .non = .int g ∧ Far g := by
          rcases hl with q | q <;> rw [q]
          · exact ⟨1000000000000000000000000000000, rfl, by decide, by decide⟩
          · exact ⟨-1000000000000000000000000000000, rfl, by decide, by decide⟩
        rw [hg]
        have hl4 : m % 4 = 0 ∨ m % 4 = 1 ∨ m % 4 = 2 ∨ m % 4 = 3 := by omega
        obtain ⟨v, hv, hv2⟩ : ∃ v : Int, atI [V.int (m % 42 - 1), V.int (42 + m / 4 % 120), V.int g, V.int (m / 4 % 42)] (m % 4) = some (.int v) ∧ Far v := by
          rcases hl4 with q | q | q | q <;> rw [q]
          · exact ⟨m % 42 - 1, rfl, by omega, by omega⟩
          · exact ⟨42 + m / 4 % 120, rfl, by omega, by omega⟩
          · exact ⟨g, rfl, hg2⟩
          · exact ⟨m / 4 % 42, rfl, by omega, by omega⟩
        refine s_retU (xs := Dd.tup (.widen v)) (eu_tup (vs := Dd.tup (.widen v)) (ea_cons ev_c (ea_cons (ev_opL1 (y := .int (m % 4)) (xs := [V.int (m % 42 - 1), V.int (42 + m / 4 % 120), V.int g, V.int (m / 4 % 42)]) (el_lst (ea_cons (ev_op (ev_op (ev_var rfl) ev_c (rv_I (by decide))) ev_c rv_I0) (ea_cons (ev_op ev_c (ev_op (ev_op (ev_var rfl) ev_c (rv_I ⟨by decide, by decide⟩)) ev_c (rv_I (by decide))) rv_I0) (ea_cons (ev_var rfl) (ea_cons (ev_op (ev_op (ev_var rfl) ev_c (rv_I ⟨by decide, by decide⟩)) ev_c (rv_I (by decide))) ea_nil)))) (show 4 ≤ 100000 by decide)) (fun H3 e3 => ev_op (ev_var rfl) ev_c (rv_I (by decide))) fun p H3 hp e3 => rv_ixL (sq_of hp) hv) ea_nil)) (show 2 ≤ 100000 by decide)) fun p H7 p0 e7 hp => k p (.widen v) H7 (((e14.trans e5).trans e6).trans e7) hp (.inl hv2)
      have e15 := e14.trans e5
      refine q_when (b := decide (V.int kd = V.int 15) && decide (V.int (m % 4) = V.int 1)) (et_and (et_test (ev_op (ev_var rfl) ev_c (rv_eq rfl))) fun _ => et_test (ev_op (ev_op (ev_var rfl) ev_c (rv_I (by decide))) ev_c (rv_eq rfl))) (fun hb H6 e6 => ?_) (fun hb H6 e6 => ?_)
      · exact s_retU (xs := Dd.tup .fill) (eu_tup (vs := Dd.tup .fill) (ea_cons ev_c ea_nil) (show 1 ≤ 100000 by decide)) fun p H7 p0 e7 hp => k p .fill H7 ((e15.trans e6).trans e7) hp (.inr rfl)
      · exact s_retU (xs := Dd.tup .undo) (eu_tup (vs := Dd.tup .undo) (ea_cons ev_c ea_nil) (show 1 ≤ 100000 by decide)) fun p H7 p0 e7 hp => k p .undo H7 ((e15.trans e6).trans e7) hp (.inl trivial)
/-! ### the deeds of a number -/
theorem n_pf : ¬ (("put" : Str) = "fill") := by decide +kernel
theorem n_df : ¬ (("drop" : Str) = "fill") := by decide +kernel
theorem n_wf : ¬ (("widen" : Str) = "fill") := by decide +kernel
theorem n_uf : ¬ (("undo" : Str) = "fill") := by decide +kernel
def sp_deeds_by (K : PySem.W.Frag) : Sp := fun vs H Q _ => ∃ (c : Int) (n : Nat) (wd : Int) (f : Bool), vs = [.int c, .int (n : Int), .int wd, .bl f] ∧ n ≤ 2000 ∧ RetD 120 H Q
theorem ok_l_deeds_by (T : Txt K mg A) : FnOk P w K mg base CX0 4 A.f_l_deeds_by A.d_l_deeds_by ["_law_cell", "_law_count", "_law_width", "_law_filled"] (sp_deeds_by K) := by
  refine T.F_l_deeds_by.ok sc_l_deeds_by (fun vs H Q E h => ?_) (fun cdv Ar outer s H vs Q E hr h => ?_)
  · obtain ⟨c, n, wd, f, rfl, _⟩ := h
    rfl
  · obtain ⟨c, n, wd, f, rfl, hn, k⟩ := h
    refine ⟨_, (pss_cons (ps_set (i := 4) sc_l_deeds_by.nd rfl (.inl rfl) (pe_call (ok_l_deed_by T) (hr.mono (by decide)) rfl T.g_l_deed_by T.F_l_deed_by.kp T.b_l_deed_by .nil pass0 (pa_cons (pv 0) (pa_cons (pv 1) pa_nil))))
  (pss_cons (ps_if (pt_cmpR op_ne (pe_ix (TwE.ixTE (K := K) rfl) (pv 4) pe_int (fun _ _ => rfl)) pe_str (nomark _))
  (pss_one (ps_ret (pe_lst (pa_cons (pv 4) pa_nil))))
  pss_nil)
  (pss_cons (ps_if (PW.pt (pw_or (pt_val (pv 3)) (pw_or (pt_cmpR op_gt (pv 1) pe_int (nomark _)) (pw_or1 (pt_cmpR op_gt (pv 2) pe_int (nomark _))))))
  (pss_one (ps_ret (pe_lst (pa_cons (pe_tup (pa_cons pe_str pa_nil)) pa_nil))))
  pss_nil)
  (pss_one (ps_ret (pe_lc (own := [("_law_k", 5)]) (tt := tYes) rfl sc_l_deeds_by.nd (pi_range1 (by rfl) T.m_range (pa_cons (pe_op op_sub pe_int (pv 1)) pa_nil)) (blkOk_by (N := N_l_deeds_by) (sc := defScope s_l_deeds_by) (by decide +kernel)) (fun _ _ _ _ _ => (pg_name (i := 5) sc_l_deeds_by.nd rfl (.inl rfl))) (fun _ _ _ _ _ => pts_nil) (fun _ _ _ _ _ => (pe_tup (pa_cons pe_str (pa_cons pe_int (pa_cons (pe_call (ok_l_sign_by T) (hr.mono (by decide)) rfl T.g_l_sign_by T.F_l_sign_by.kp T.b_l_sign_by .nil pass0 (pa_cons (pe_op op_add (pv 0) (pv 5)) pa_nil)) pa_nil))))))))))), ?_⟩
    have kk : ∀ H1, Ex H H1 → RetD 120 H1 Q := fun H1 e1 l ts H2 l0 e2 hl hn hD => k l ts H2 (fresh_back e1 l0) (e1.trans e2) hl hn hD
    refine q_asgA (ea_cons (ev_var rfl) (ea_cons (ev_var rfl) ea_nil)) fun H1 e1 => ⟨c, n, rfl, hn, fun t d H2 e2 ht hd => ?_⟩
    have e12 := e1.trans e2
    refine q_when (b := !decide (V.str d.tag = V.str "fill")) (et_test (ev_op (ev_ix (d := d) (i := 0) (ev_var rfl) ht (tag0 d)) ev_c (rv_ne rfl))) (fun hb H3 e3 => ?_) (fun hb H3 e3 => ?_)
    · have hd2 : d.Ok := by
        rcases hd with q | q
        · exact q
        · rw [q, decide_eq_true (show V.str Dd.fill.tag = V.str "fill" from rfl)] at hb
          cases hb
      exact s_retD (ed_mono (ed_lst (ad_old (d := d) (ev_var rfl) (e3 _ _ ht) hd2 ad_nil) (by decide)) (by decide)) (kk H3 (e12.trans e3))
    · refine q_when (b := f || (decide ((117 : Int) < (n : Int)) || decide (99 < wd))) (et_or (et_B (ev_var rfl)) fun _ => et_or (et_test (ev_op (ev_var rfl) ev_c rv_I0)) fun _ => et_test (ev_op (ev_var rfl) ev_c rv_I0)) (fun hb2 H4 e4 => ?_) (fun hb2 H4 e4 => ?_)
      · exact s_retD (ed_mono (ed_lst (ad_new (d := .undo) (eu_tup (vs := Dd.tup .undo) (ea_cons ev_c ea_nil) (show 1 ≤ 100000 by decide)) trivial ad_nil) (by decide)) (by decide)) (kk H4 ((e12.trans e3).trans e4))
      · rw [Bool.or_eq_false_iff, Bool.or_eq_false_iff] at hb2
        have hn2 := of_decide_eq_false hb2.2.1
        exact s_retD (ed_mono (ed_lcR (N := 119 - n) (fun i => .put 0 ⟨#[sgn (c + (i : Int))]⟩) (ea_cons (ev_is (ev_op ev_c (ev_var rfl) rv_I0) (congrArg V.int (by omega))) ea_nil) (by omega) (fun _ => rfl) (fun i => ok_one (sgn_ws _)) fun i H5 e5 hi => eu_tup (vs := Dd.tup (.put 0 ⟨#[sgn (c + (i : Int))]⟩)) (ea_cons ev_c (ea_cons ev_c (ea_cons (ev_call (ea_cons (ev_op (ev_var rfl) (ev_var rfl) rv_I0) ea_nil) fun H6 e6 Q' q E' => ⟨_, rfl, q⟩) ea_nil))) (show 3 ≤ 100000 by decide)) (by omega)) (kk H4 ((e12.trans e3).trans e4))

--SPLIT
/-! ### all that a page tells -/
theorem tab_keep {P : Addr} {ms : List Addr} {H H' : Hp} (h : TabG H P) (e : ExN ms H H') (hP : P ∉ ms) : TabG H' P := let ⟨ps, h1, h2⟩ := h; ⟨ps, e _ _ hP h1, h2⟩
theorem ls_tab {P x : Addr} {X : List Addr} {H : Hp} (hX : Ls X H) (h : TabG H P) (hx : x ∈ X) : x ≠ P := fun c => by
  obtain ⟨ps, h1, _⟩ := h
  obtain ⟨xs, q⟩ := hX x hx
  rw [c, h1] at q
  cases q
theorem PageAt.p_tab {H : Hp} {p pl P : Addr} {X : List Addr} {row : List Str} {w : Int} {past : List (List Str × Int)} (h : PageAt A H p pl X row w past) (hT : TabG H P) : p ≠ P := fun c => by
  obtain ⟨dx, wl, ts, h1, _⟩ := h
  obtain ⟨ps, q, _⟩ := hT
  rw [c, q] at h1
  cases h1
theorem PageAt.pin {H : Hp} {p pl : Addr} {X : List Addr} {row : List Str} {w : Int} {past : List (List Str × Int)} (h : PageAt A H p pl X row w past) : pl ∈ X := by
  obtain ⟨dx, wl, ts, h1, h2, _⟩ := h
  exact h2.pin
theorem PageAt.p_ls {H : Hp} {p pl : Addr} {X : List Addr} {row : List Str} {w : Int} {past : List (List Str × Int)} (h : PageAt A H p pl X row w past) : p ∉ X := fun c => by
  obtain ⟨dx, wl, ts, h1, h2, _⟩ := h
  obtain ⟨xs, q⟩ := h2.ls p c
  rw [h1] at q
  cases q
theorem PageAt.keepQ {H H' : Hp} {p pl P l : Addr} {X : List Addr} {row : List Str} {w : Int} {past : List (List Str × Int)} (h : PageAt A H p pl X row w past) (hT : TabG H P) (hl : l ∈ X) (hne : l ≠ pl) (e : ExN [P, l] H H') (hl' : ∃ xs, H' l = some (.lst xs)) : PageAt A H' p pl X row w past := by
  refine h.keep (ms := [P, l]) ((Gd.one_t hT).app (Gd.one_l hl h.ls)) e (fun c => ?_) (fun c => ?_) (fun m hm hx => ?_)
  · rcases List.mem_cons.mp c with c | c
    · exact h.p_tab hT c
    · exact h.p_ls (by rw [List.mem_singleton.mp c]; exact hl)
  · rcases List.mem_cons.mp c with c | c
    · exact ls_tab h.ls hT h.pin c
    · exact hne (List.mem_singleton.mp c).symm
  · rcases List.mem_cons.mp hm with c | c
    · exact absurd c (ls_tab h.ls hT hx)
    · rw [List.mem_singleton.mp c]
      exact hl'
theorem PageAt.keepT {H H' : Hp} {p pl P : Addr} {X : List Addr} {row : List Str} {w : Int} {past : List (List Str × Int)} (h : PageAt A H p pl X row w past) (hT : TabG H P) (e : ExT P H H') : PageAt A H' p pl X row w past := by
  refine h.keep (ms := [P]) (Gd.one_t hT) (ExN.of_t e) (fun c => h.p_tab hT (List.mem_singleton.mp c)) (fun c => ls_tab h.ls hT h.pin (List.mem_singleton.mp c)) (fun m hm hx => absurd (List.mem_singleton.mp hm) (ls_tab h.ls hT hx))
theorem best_to {ws : List Str} {w : Int} {t t' : Nat → Int} {S' : List Nat} (hT : IsTab ws w t) (hT' : IsTab ws w t') (hS' : BestW ws w t' S') : BestW ws w t S' := by
  have hcong := tab_uniq hT' hT
  have go : ∀ {a b : Nat} {S : List Nat}, WalkTo (IsGoal ws w t') a S b → WalkTo (IsGoal ws w t) a S b := fun hw => by
    induction hw with
    | nil => exact .nil _
    | cons g _ ih =>
      refine .cons ⟨g.fit, ?_, fun e' he f => ?_⟩ ih
      · rw [← hcong _ (Nat.le_of_lt (Nat.lt_of_lt_of_le g.fit.1 g.fit.2.1)), ← hcong _ g.fit.2.1]
        exact g.eq
      · rw [← hcong _ (Nat.le_of_lt (Nat.lt_of_lt_of_le g.fit.1 g.fit.2.1)), ← hcong _ f.2.1]
        exact g.most e' he f
  exact go hS'
/-- what stands at a place of the told list -/
def TdV (H : Hp) (X : List Addr) (row : List Str) (w : Int) : Nat → V → Prop
  | 0, v => v = .int w
  | 1, v => ∃ a, v = .ref a ∧ a ∉ X ∧ H a = some (.lst (row.map V.str))
  | 2, v => ∃ a t, v = .ref a ∧ a ∉ X ∧ IsTab row w t ∧ H a = some (.lst ((tabL t row.length).map V.int))
  | 3, v => ∃ a t S, v = .ref a ∧ a ∉ X ∧ IsTab row w t ∧ BestW row w t S ∧ H a = some (.lst (nats S))
  | 4, v => ∃ a t S, v = .ref a ∧ a ∉ X ∧ IsTab row w t ∧ BestW row w t S ∧ H a = some (.lst ((linesOf row (zsOf S)).map V.str))
  | _, _ => False
theorem TdV.keep {ms X : List Addr} {H H' : Hp} {row : List Str} {w : Int} (g : Gd ms X H) (e : ExN ms H H') : ∀ {k : Nat} {v : V}, TdV H X row w k v → TdV H' X row w k v
  | 0, _, h => h
  | 1, _, ⟨a, h1, h2, h3⟩ => ⟨a, h1, h2, g.lst e h2 h3⟩
  | 2, _, ⟨a, t, h1, h2, h3, h4⟩ => ⟨a, t, h1, h2, h3, g.lst e h2 h4⟩
  | 3, _, ⟨a, t, S, h1, h2, h3, h4, h5⟩ => ⟨a, t, S, h1, h2, h3, h4, g.lst e h2 h5⟩
  | 4, _, ⟨a, t, S, h1, h2, h3, h4, h5⟩ => ⟨a, t, S, h1, h2, h3, h4, g.lst e h2 h5⟩
  | _ + 5, _, h => h.elim
theorem TdV.less {X : List Addr} {l : Addr} {H : Hp} {row : List Str} {w : Int} : ∀ {k : Nat} {v : V}, TdV H (l :: X) row w k v → TdV H X row w k v
  | 0, _, h => h
  | 1, _, ⟨a, h1, h2, h3⟩ => ⟨a, h1, fun c => h2 (List.mem_cons_of_mem _ c), h3⟩
  | 2, _, ⟨a, t, h1, h2, h3⟩ => ⟨a, t, h1, fun c => h2 (List.mem_cons_of_mem _ c), h3⟩
  | 3, _, ⟨a, t, S, h1, h2, h3⟩ => ⟨a, t, S, h1, fun c => h2 (List.mem_cons_of_mem _ c), h3⟩
  | 4, _, ⟨a, t, S, h1, h2, h3⟩ => ⟨a, t, S, h1, fun c => h2 (List.mem_cons_of_mem _ c), h3⟩
  | _ + 5, _, h => h.elim
theorem s_retM {C : Addr} {m : Str} {ta : TE} {t : TA} {sp : Sp} {dvs vs : List V} {E : XK} {σ : L2.St} {H : Hp} {D : Ends} {a dx : Addr} {fs : List (Str × V)} (ha : Ev ta σ H (.ref a)) (hp : H a = some (.ins C dx fs)) (hm : fs.lookup m = none) (h : EvA t σ H vs)
    (k : ∀ H1, Ex H H1 → sp (.ref a :: (vs ++ dvs)) H1 (fun v H2 => D.rt v H2) E) : tRet (tMeth C m sp dvs E ta t) D σ H :=
  ha H (Ex.refl H) _ fun H1 e1 => ⟨a, dx, fs, rfl, e1 _ _ hp, hm, h H1 e1 _ fun H2 e2 => k H2 (e1.trans e2)⟩
theorem m_words_now (wl : Addr) (w : Int) (pl : Addr) : (pgF wl w pl).lookup ("words_now" : Str) = none := pg_no _ _ _ (by decide +kernel) (by decide +kernel) (by decide +kernel)
theorem m_width_now (wl : Addr) (w : Int) (pl : Addr) : (pgF wl w pl).lookup ("width_now" : Str) = none := pg_no _ _ _ (by decide +kernel) (by decide +kernel) (by decide +kernel)
theorem m_table_now (wl : Addr) (w : Int) (pl : Addr) : (pgF wl w pl).lookup ("table_now" : Str) = none := pg_no _ _ _ (by decide +kernel) (by decide +kernel) (by decide +kernel)
theorem m_lines_now (wl : Addr) (w : Int) (pl : Addr) : (pgF wl w pl).lookup ("lines_now" : Str) = none := pg_no _ _ _ (by decide +kernel) (by decide +kernel) (by decide +kernel)
def sp_one_told (K : PySem.W.Frag) (A : Ad) : Sp := fun vs H Q _ => ∃ (p pl : Addr) (X : List Addr) (row : List Str) (w : Int) (past : List (List Str × Int)) (k : Nat), vs = [.ref p, .int (k : Int)] ∧ k < 5 ∧ PageAt A H p pl X row w past ∧ Good row w ∧ TabG H A.p_are_starts ∧ ∀ v H', ExT A.p_are_starts H H' → TdV H' X row w k v → Q v H'
theorem ok_l_one_told (T : Txt K mg A) (B : Tb mg base A) : FnOk P w K mg base CX0 8 A.f_l_one_told A.d_l_one_told ["_law_page", "_law_place"] (sp_one_told K A) := by
  refine T.F_l_one_told.ok sc_l_one_told (fun vs H Q E h => ?_) (fun cdv Ar outer s H vs Q E hr h => ?_)
  · obtain ⟨p, pl, X, row, w, past, k, rfl, _⟩ := h
    rfl
  · obtain ⟨p, pl, X, row, w, past, k, rfl, hk, hP, hG, hT, kk⟩ := h
    refine ⟨_, (pss_cons (ps_if (pt_cmpR op_eq (pv 1) pe_int (nomark _))
  (pss_one (ps_ret (pe_meth0 (pv 0) T.cl_Page T.me_p_width_now (ok_p_width_now T) (hr.mono (by decide)) T.b_p_width_now .nil pass0)))
  pss_nil)
  (pss_cons (ps_if (pt_cmpR op_eq (pv 1) pe_int (nomark _))
  (pss_one (ps_ret (pe_meth0 (pv 0) T.cl_Page T.me_p_words_now (ok_p_words_now T) (hr.mono (by decide)) T.b_p_words_now .nil pass0)))
  pss_nil)
  (pss_cons (ps_if (pt_cmpR op_eq (pv 1) pe_int (nomark _))
  (pss_one (ps_ret (pe_meth0 (pv 0) T.cl_Page T.me_p_table_now (ok_p_table_now T) (hr.mono (by decide)) T.b_p_table_now .nil passN)))
  pss_nil)
  (pss_cons (ps_if (pt_cmpR op_eq (pv 1) pe_int (nomark _))
  (pss_one (ps_ret (pe_meth0 (pv 0) T.cl_Page T.me_p_starts_now (ok_p_starts_now T) (hr.mono (by decide)) T.b_p_starts_now .nil passN)))
  pss_nil)
  (pss_one (ps_ret (pe_meth0 (pv 0) T.cl_Page T.me_p_lines_now (ok_p_lines_now T B) (hr.mono (by decide)) T.b_p_lines_now .nil passN))))))), ?_⟩
    obtain ⟨dx, wl, ts, hp, h2, h3, h4, h5⟩ := id hP
    have no : ∀ {i j : Int}, i ≠ j → decide (V.int i = V.int j) = false := fun h => decide_eq_false fun q => h (by injection q)
    have hc : k = 0 ∨ k = 1 ∨ k = 2 ∨ k = 3 ∨ k = 4 := by omega
    rcases hc with c | c | c | c | c <;> subst c
    · refine q_when (b := true) (et_is (et_test (ev_op (ev_var rfl) ev_c (rv_eq rfl))) (decide_eq_true rfl)) (fun _ H1 e1 => ?_) (fun hb => nomatch hb)
      exact s_retM (ev_var rfl) (e1 _ _ hp) (m_width_now _ _ _) ea_nil fun H2 e2 => ⟨p, pl, X, row, w, past, rfl, hP.grow (e1.trans e2), fun H3 e3 => kk (.int w) H3 (ExT.of_ex hT ((e1.trans e2).trans e3)) rfl⟩
    · refine q_when (b := false) (et_is (et_test (ev_op (ev_var rfl) ev_c (rv_eq rfl))) (no (by decide))) (fun hb => nomatch hb) (fun _ H1 e1 => ?_)
      refine q_when (b := true) (et_is (et_test (ev_op (ev_var rfl) ev_c (rv_eq rfl))) (decide_eq_true rfl)) (fun _ H2 e2 => ?_) (fun hb => nomatch hb)
      have e12 := e1.trans e2
      exact s_retM (ev_var rfl) (e12 _ _ hp) (m_words_now _ _ _) ea_nil fun H3 e3 => ⟨p, pl, X, row, w, past, rfl, hP.grow (e12.trans e3), fun l H4 l0 e4 hl => kk (.ref l) H4 (ExT.of_ex hT ((e12.trans e3).trans e4)) ⟨l, rfl, ls_fresh (hP.grow (e12.trans e3)).ls l0, hl⟩⟩
    · refine q_when (b := false) (et_is (et_test (ev_op (ev_var rfl) ev_c (rv_eq rfl))) (no (by decide))) (fun hb => nomatch hb) (fun _ H0 e0 => ?_)
      refine q_when (b := false) (et_is (et_test (ev_op (ev_var rfl) ev_c (rv_eq rfl))) (no (by decide))) (fun hb => nomatch hb) (fun _ H1 e1 => ?_)
      refine q_when (b := true) (et_is (et_test (ev_op (ev_var rfl) ev_c (rv_eq rfl))) (decide_eq_true rfl)) (fun _ H2 e2 => ?_) (fun hb => nomatch hb)
      have e12 := (e0.trans e1).trans e2
      exact s_retM (ev_var rfl) (e12 _ _ hp) (m_table_now _ _ _) ea_nil fun H3 e3 => ⟨p, pl, X, row, w, past, rfl, hP.grow (e12.trans e3), hG, fun t ht l H4 l0 e4 hl => kk (.ref l) H4 (ExT.of_ex hT ((e12.trans e3).trans e4)) ⟨l, t, rfl, ls_fresh (hP.grow (e12.trans e3)).ls l0, ht, hl⟩⟩
    · refine q_when (b := false) (et_is (et_test (ev_op (ev_var rfl) ev_c (rv_eq rfl))) (no (by decide))) (fun hb => nomatch hb) (fun _ H0 e0 => ?_)
      refine q_when (b := false) (et_is (et_test (ev_op (ev_var rfl) ev_c (rv_eq rfl))) (no (by decide))) (fun hb => nomatch hb) (fun _ H1 e1 => ?_)
      refine q_when (b := false) (et_is (et_test (ev_op (ev_var rfl) ev_c (rv_eq rfl))) (no (by decide))) (fun hb => nomatch hb) (fun _ H1' e1' => ?_)
      refine q_when (b := true) (et_is (et_test (ev_op (ev_var rfl) ev_c (rv_eq rfl))) (decide_eq_true rfl)) (fun _ H2 e2 => ?_) (fun hb => nomatch hb)
      have e12 := ((e0.trans e1).trans e1').trans e2
      exact s_retM (ev_var rfl) (e12 _ _ hp) (m_starts _ _ _) ea_nil fun H3 e3 => ⟨p, pl, X, row, w, past, rfl, hP.grow (e12.trans e3), hG, fun t S ht hS l H4 l0 e4 hl => kk (.ref l) H4 (ExT.of_ex hT ((e12.trans e3).trans e4)) ⟨l, t, S, rfl, ls_fresh (hP.grow (e12.trans e3)).ls l0, ht, hS, hl⟩⟩
    · refine q_when (b := false) (et_is (et_test (ev_op (ev_var rfl) ev_c (rv_eq rfl))) (no (by decide))) (fun hb => nomatch hb) (fun _ H0 e0 => ?_)
      refine q_when (b := false) (et_is (et_test (ev_op (ev_var rfl) ev_c (rv_eq rfl))) (no (by decide))) (fun hb => nomatch hb) (fun _ H1 e1 => ?_)
      refine q_when (b := false) (et_is (et_test (ev_op (ev_var rfl) ev_c (rv_eq rfl))) (no (by decide))) (fun hb => nomatch hb) (fun _ H1' e1' => ?_)
      refine q_when (b := false) (et_is (et_test (ev_op (ev_var rfl) ev_c (rv_eq rfl))) (no (by decide))) (fun hb => nomatch hb) (fun _ H2 e2 => ?_)
      have e12 := ((e0.trans e1).trans e1').trans e2
      exact s_retM (ev_var rfl) (e12 _ _ hp) (m_lines_now _ _ _) ea_nil fun H3 e3 => ⟨p, pl, X, row, w, past, rfl, hP.grow (e12.trans e3), hG, TabG.ex hT (e12.trans e3), fun t S ht hS l H4 e4 l0 hl => kk (.ref l) H4 ((ExT.of_ex hT (e12.trans e3)).trans e4) ⟨l, t, S, rfl, ls_fresh (hP.grow (e12.trans e3)).ls l0, ht, hS, hl⟩⟩
/-! ### all told, in an order -/
def ArgK (ta : TA) (σ : L2.St) (H : Hp) (pss : List (List V)) : Prop := ∀ H1, Ex H H1 → ∀ Q : List V → Hp → Prop, (∀ (as : List Addr) H2, Ex H1 H2 → as.length = pss.length → (∀ (i : Nat) (a : Addr) (xs : List V), as[i]? = some a → pss[i]? = some xs → H2 a = some (.lst xs)) → Q (as.map V.ref) H2) → ta σ H1 Q
section
variable {σ : L2.St} {H : Hp} {D : Ends} {tz : TS}
theorem ak_nil : ArgK tNil σ H [] := fun H1 _ Q q => q [] H1 (Ex.refl H1) rfl (fun i a xs h => by simp at h)
theorem ak_cons {te : TE} {tr : TA} {xs : List V} {pss : List (List V)} (h : EvL te σ H xs) (hr : ArgK tr σ H pss) : ArgK (tCons te tr) σ H (xs :: pss) := fun H1 e Q q =>
  h H1 e _ fun p H2 _ e2 hp => hr H2 (e.trans e2) _ fun as H3 e3 hl ha => q (p :: as) H3 (e2.trans e3) (by rw [List.length_cons, List.length_cons, hl]) (fun i a ys h1 h2 => by
    cases i with
    | zero =>
      cases h1
      cases h2
      exact e3 _ _ hp
    | succ i => exact ha i a ys h1 h2)
theorem q_asgK {ta : TA} {i : Nat} {pss : List (List V)} (h : ArgK ta σ H pss) (hz : pss.length ≤ 100) (k : ∀ (as : List Addr) p H1, H p = none → Ex H H1 → as.length = pss.length → (∀ (i : Nat) (a : Addr) (xs : List V), as[i]? = some a → pss[i]? = some xs → H1 a = some (.lst xs)) → H1 p = some (.lst (as.map V.ref)) → tz D (σ.set i (some (.ref p))) H1) :
    tSeq (tAsg (tLst ta) (gName i)) tz D σ H := h H (Ex.refl H) _ fun as H1 e1 hl ha => ⟨sz_of (by rw [List.length_map, hl]; omega), fun p hp => k as p _ (fresh_back e1 hp) (e1.trans (Ex.new hp)) hl (fun i a xs h1 h2 => Ex.new hp _ _ (ha i a xs h1 h2)) upd_same⟩
theorem s_setC {ta : TA} {g : TG} {sp : Sp} {dvs vs : List V} {E : XK} (h : EvA ta σ H vs) (k : ∀ H1, Ex H H1 → sp (vs ++ dvs) H1 (fun v H2 => g v σ H2 D.nx) E) : tAsg (tCall sp dvs E ta) g D σ H := h H (Ex.refl H) _ k
theorem el5 {a b c d e : Int} : EvL (tLst (tCons (tC (.int a)) (tCons (tC (.int b)) (tCons (tC (.int c)) (tCons (tC (.int d)) (tCons (tC (.int e)) tNil)))))) σ H [.int a, .int b, .int c, .int d, .int e] := el_lst (ea_cons ev_c (ea_cons ev_c (ea_cons ev_c (ea_cons ev_c (ea_cons ev_c ea_nil))))) (show 5 ≤ 100000 by decide)
end
def ordL : List (List Nat) := [[0, 1, 2, 3, 4], [4, 3, 2, 1, 0], [3, 1, 4, 0, 2], [2, 4, 0, 3, 1], [1, 0, 4, 2, 3]]
theorem ord_ok : ∀ j < 5, (ordL.getD j []).length = 5 ∧ (∀ k ∈ ordL.getD j [], k < 5) ∧ ∀ k < 5, k ∈ ordL.getD j [] := by decide
def sp_all_told (K : PySem.W.Frag) (A : Ad) : Sp := fun vs H Q _ => ∃ (p pl : Addr) (X : List Addr) (row : List Str) (w : Int) (past : List (List Str × Int)) (way : Int), vs = [.ref p, .int way] ∧ PageAt A H p pl X row w past ∧ Good row w ∧ TabG H A.p_are_starts ∧ ∀ l us H', H l = none → ExT A.p_are_starts H H' → H' l = some (.lst us) → us.length = 5 → (∀ k, k < 5 → ∃ v, us[k]? = some v ∧ TdV H' X row w k v) → Q (.ref l) H'
theorem ok_l_all_told (T : Txt K mg A) (B : Tb mg base A) : FnOk P w K mg base CX0 9 A.f_l_all_told A.d_l_all_told ["_law_page", "_law_way"] (sp_all_told K A) := by
  refine T.F_l_all_told.ok sc_l_all_told (fun vs H Q E h => ?_) (fun cdv Ar outer s H vs Q E hr h => ?_)
  · obtain ⟨p, pl, X, row, w, past, way, rfl, _⟩ := h
    rfl
  · obtain ⟨p, pl, X, row, w, past, way, rfl, hP, hG, hT, k⟩ := h
    refine ⟨_, (pss_cons (ps_set (i := 2) sc_l_all_told.nd rfl (.inl rfl) (pe_lst (pa_cons pe_non (pa_cons pe_non (pa_cons pe_non (pa_cons pe_non (pa_cons pe_non pa_nil)))))))
  (pss_cons (ps_set (i := 3) sc_l_all_told.nd rfl (.inl rfl) (pe_lst (pa_cons (pe_lst (pa_cons pe_int (pa_cons pe_int (pa_cons pe_int (pa_cons pe_int (pa_cons pe_int pa_nil)))))) (pa_cons (pe_lst (pa_cons pe_int (pa_cons pe_int (pa_cons pe_int (pa_cons pe_int (pa_cons pe_int pa_nil)))))) (pa_cons (pe_lst (pa_cons pe_int (pa_cons pe_int (pa_cons pe_int (pa_cons pe_int (pa_cons pe_int pa_nil)))))) (pa_cons (pe_lst (pa_cons pe_int (pa_cons pe_int (pa_cons pe_int (pa_cons pe_int (pa_cons pe_int pa_nil)))))) (pa_cons (pe_lst (pa_cons pe_int (pa_cons pe_int (pa_cons pe_int (pa_cons pe_int (pa_cons pe_int pa_nil)))))) pa_nil)))))))
  (pss_cons (ps_for PassesOwn.never rfl (pi_list (pe_ix (ixL (K := K) rfl) (pv 3) (pe_op op_mod (pv 1) pe_int) (fun _ _ => rfl))) (pg_name (i := 4) sc_l_all_told.nd rfl (.inl rfl))
  (pss_one (ps_asg (pe_call (ok_l_one_told T B) (hr.mono (by decide)) rfl T.g_l_one_told T.F_l_one_told.kp T.b_l_one_told .nil pass0 (pa_cons (pv 0) (pa_cons (pv 4) pa_nil))) (pg_sub (pv 2) (pv 4) set_list))))
  (pss_one (ps_ret (pv 2)))))), ?_⟩
    refine q_asgL (xs := [.non, .non, .non, .non, .non]) (el_lst (ea_cons ev_c (ea_cons ev_c (ea_cons ev_c (ea_cons ev_c (ea_cons ev_c ea_nil))))) (show 5 ≤ 100000 by decide)) fun l H1 l0 e1 hl1 => ?_
    refine q_asgK (pss := ordL.map nats) (ak_cons el5 (ak_cons el5 (ak_cons el5 (ak_cons el5 (ak_cons el5 ak_nil))))) (by decide) fun as od H2 od0 e2 hal ha hod => ?_
    have e12 := e1.trans e2
    have hlp : l ≠ pl := fun c => by
      obtain ⟨xs, q⟩ := hP.ls pl hP.pin
      rw [← c, l0] at q
      cases q
    have hP2 : PageAt A H2 p pl (l :: X) row w past := (hP.more e1 l0 hl1).grow e2
    have hT2 := TabG.ex hT e12
    have hlP : A.p_are_starts ≠ l := fun c => ls_tab hP2.ls hT2 (List.mem_cons_self ..) c.symm
    have gd : Gd [A.p_are_starts, l] (l :: X) H2 := (Gd.one_t hT2).app (Gd.one_l (List.mem_cons_self ..) hP2.ls)
    obtain ⟨j, hj, hj5⟩ : ∃ j : Nat, way % 5 = (j : Int) ∧ j < 5 := ⟨(way % 5).toNat, by omega, by omega⟩
    obtain ⟨o1, o2, o3⟩ := ord_ok j hj5
    have hla : j < as.length := by
      rw [hal]
      exact hj5
    have hoj : H2 as[j] = some (.lst (nats (ordL.getD j []))) := ha j as[j] _ (List.getElem?_eq_getElem hla) (by
      rw [List.getElem?_map, List.getElem?_eq_getElem (show j < ordL.length from hj5), List.getD_eq_getElem?_getD, List.getElem?_eq_getElem (show j < ordL.length from hj5)] <;> rfl)
    have odl : ∀ b o, H2 b = some o → b ≠ A.p_are_starts → b ≠ l → b ∉ [A.p_are_starts, l] := fun b o _ h1 h2 c => by
      rcases List.mem_cons.mp c with c | c
      · exact h1 c
      · exact h2 (List.mem_singleton.mp c)
    have ordX : as[j] ∉ l :: X ∨ True := .inr trivial
    have ojl : as[j] ≠ l := fun c => by
      rw [c, e2 _ _ hl1] at hoj
      injection hoj with hoj
      injection hoj with hoj
      have q := congrArg (fun l : List V => l[0]?) hoj
      have hz := o1
      revert q hz
      generalize ordL.getD j [] = o
      intro q hz
      cases o with
      | nil => cases hz
      | cons a r => cases q
    have ojP : as[j] ≠ A.p_are_starts := fun c => by
      obtain ⟨ps, q, _⟩ := hT2
      rw [c, q] at hoj
      cases hoj
    obtain ⟨oj, hjj⟩ : ∃ oj, as[j] = oj := ⟨_, rfl⟩
    rw [hjj] at hoj ojl ojP
    refine q_forLn (a := oj) (xs := nats (ordL.getD j [])) (ev_op (y := .int (j : Int)) (ev_var rfl) (ev_is (ev_op (ev_var rfl) ev_c (rv_I (by decide))) (congrArg V.int hj)) (rv_ixL (sq_of hod) (atI_nat ?_))) (sq_of hoj) (fun i σ' H' => ∃ x us, σ' = [some (.ref p), some (.int way), some (.ref l), some (.ref od), x] ∧ TabG H' A.p_are_starts ∧ ExN [A.p_are_starts, l] H2 H' ∧ H' l = some (.lst us) ∧ us.length = 5 ∧ ∀ k ∈ (ordL.getD j []).take i, ∃ v, us[k]? = some v ∧ TdV H' (l :: X) row w k v)
      (fun H3 e3 => ⟨none, _, rfl, TabG.ex hT2 e3, ExN.of e3, e3 _ _ (e2 _ _ hl1), rfl, fun k hk => absurd hk (by rw [List.take_zero]; exact List.not_mem_nil)⟩) (fun i σ' H' _ ⟨_, _, _, _, e, _⟩ => sq_of (e _ _ (odl _ _ hoj ojP ojl) hoj)) ?_ ?_
    · rw [List.getElem?_map, List.getElem?_eq_getElem hla, hjj] <;> rfl
    · rintro i x σ' H' hi ⟨x0, us, rfl, hT', e, hl', hul, hall⟩
      unfold nats at hi
      rw [List.getElem?_map] at hi
      obtain ⟨kk, hkk, rfl⟩ := Option.map_eq_some_iff.mp hi
      have hk5 := o2 kk (List.mem_of_getElem? hkk)
      have hP' : PageAt A H' p pl (l :: X) row w past := hP2.keepQ hT2 (List.mem_cons_self ..) hlp e ⟨_, hl'⟩
      refine s_setC (ea_cons (ev_var rfl) (ea_cons (ev_var rfl) ea_nil)) fun H3 e3 => ⟨p, pl, l :: X, row, w, past, kk, rfl, hk5, hP'.grow e3, hG, TabG.ex hT' e3, fun v H4 e4 hv => ?_⟩
      have e34 : ExT A.p_are_starts H' H4 := (ExT.of_ex hT' e3).trans e4
      have hl4 := lst_tab hT' e34 hl'
      have hP4 : PageAt A H4 p pl (l :: X) row w past := hP'.keepT hT' e34
      have gd' : Gd [A.p_are_starts, l] (l :: X) H' := (Gd.one_t hT').app (Gd.one_l (List.mem_cons_self ..) hP'.ls)
      have gd4 : Gd [A.p_are_starts, l] (l :: X) H4 := (Gd.one_t e34.1).app (Gd.one_l (List.mem_cons_self ..) hP4.ls)
      have ml : l ∈ [A.p_are_starts, l] := List.mem_cons_of_mem _ (List.mem_singleton.mpr rfl)
      have e'4 : ExN [A.p_are_starts, l] H' H4 := (ExN.of_t e34).mono fun m hm => by
        rw [List.mem_singleton.mp hm]
        exact List.mem_cons_self ..
      have e45 : ExN [A.p_are_starts, l] H4 (upd H4 l (.lst (us.set kk v))) := (ExN.refl _ _).set ml
      have e45' : ExN [l] H4 (upd H4 l (.lst (us.set kk v))) := (ExN.refl _ _).set (List.mem_singleton.mpr rfl)
      refine ⟨_, rfl, _, rfl, l, us, (kk : Int), kk, rfl, rfl, hl4, ixN_nat (by omega), ?_⟩
      refine ⟨_, us.set kk v, rfl, tab_keep e34.1 e45' (fun c => hlP (List.mem_singleton.mp c)), (e.trans e'4).trans e45, upd_same, by rw [List.length_set]; exact hul, fun k2 hk2 => ?_⟩
      by_cases c : k2 = kk
      · subst c
        exact ⟨v, by rw [List.getElem?_set, if_pos rfl, if_pos (by omega)], TdV.keep gd4 e45 hv⟩
      · rw [List.take_add_one, hkk] at hk2
        rcases List.mem_append.mp hk2 with q | q
        · obtain ⟨v2, h1, h2⟩ := hall k2 q
          exact ⟨v2, by rw [List.getElem?_set_ne (fun z => c z.symm)]; exact h1, TdV.keep gd4 e45 (TdV.keep gd' e'4 h2)⟩
        · exact absurd (List.mem_singleton.mp q) c
    · rintro σ' H' ⟨x, us, rfl, hT', e, hl', hul, hall⟩
      rw [nats_len, o1, List.take_of_length_le (by omega)] at hall
      refine s_ret (v := .ref l) (ev_var rfl) fun H3 e3 => k l us H3 l0 ⟨TabG.ex hT' e3, fun b o hb hbo => e3 _ _ (e _ _ (odl b o (e12 _ _ hbo) hb (ne_of_none hbo l0)) (e12 _ _ hbo))⟩ (e3 _ _ hl') hul fun kk hk => ?_
      obtain ⟨v, h1, h2⟩ := hall kk (o3 kk hk)
      exact ⟨v, h1, (TdV.keep (ms := []) (fun m hm => absurd hm (List.not_mem_nil)) (ExN.of e3) h2).less⟩

--SPLIT
/-! ### lists that were told are held -/
inductive Cn
  | strs (l : List Str) | ints (l : List Int)
def Cn.vs : Cn → List V
  | .strs l => l.map V.str
  | .ints l => l.map V.int
def Cn.d : Cn → PyData
  | .strs l => .list (l.map PyData.str)
  | .ints l => .list (l.map PyData.int)
def Cn.Ok : Cn → Prop
  | .strs l => ∀ z ∈ l, ∀ c ∈ TL.tl z, c < 1114112
  | .ints _ => True
def HeldOne (H : Hp) (X : List Addr) (t : Addr) (c : Cn) : Prop := ∃ u v, u ∉ X ∧ v ∉ X ∧ H t = some (.tup [.ref u, .ref v]) ∧ H u = some (.lst c.vs) ∧ H v = some (.lst c.vs)
def HeldL (H : Hp) (X : List Addr) (hd : Addr) (ts : List Addr) : Prop := H hd = some (.lst (ts.map V.ref)) ∧ ∀ t ∈ ts, ∃ c : Cn, c.Ok ∧ HeldOne H X t c
def Held (H : Hp) (X : List Addr) (hd : Addr) (n : Nat) : Prop := ∃ ts : List Addr, ts.length ≤ n ∧ HeldL H X hd ts
theorem HeldOne.keep {ms X : List Addr} {H H' : Hp} {t : Addr} {c : Cn} (h : HeldOne H X t c) (g : Gd ms X H) (e : ExN ms H H') : HeldOne H' X t c := by
  obtain ⟨u, v, h1, h2, h3, h4, h5⟩ := h
  exact ⟨u, v, h1, h2, g.tup e h3, g.lst e h1 h4, g.lst e h2 h5⟩
theorem Held.keep {ms X : List Addr} {H H' : Hp} {hd : Addr} {n : Nat} (h : Held H X hd n) (g : Gd ms X H) (e : ExN ms H H') (hm : hd ∉ ms) : Held H' X hd n := by
  obtain ⟨ts, h0, h1, h2⟩ := h
  refine ⟨ts, h0, e _ _ hm h1, fun t ht => ?_⟩
  obtain ⟨c, hc, q⟩ := h2 t ht
  exact ⟨c, hc, q.keep g e⟩
theorem Held.grow {X : List Addr} {H H' : Hp} {hd : Addr} {n : Nat} (h : Held H X hd n) (e : Ex H H') : Held H' X hd n := h.keep (ms := []) (fun m hm => absurd hm (List.not_mem_nil)) (ExN.of e) (List.not_mem_nil)
theorem Held.more {X : List Addr} {H : Hp} {hd : Addr} {n m : Nat} (h : Held H X hd n) (hn : n ≤ m) : Held H X hd m := by
  obtain ⟨ts, h0, h1⟩ := h
  exact ⟨ts, Nat.le_trans h0 hn, h1⟩
theorem q_held {ta th tb : TE} {tz : TS} {σ : L2.St} {H : Hp} {D : Ends} {X : List Addr} {hd a : Addr} {n : Nat} {c : Cn} (hin : hd ∈ X) (hX : Ls X H) (hh : Held H X hd n) (hn : n ≤ 90000) (hth : Ev th σ H (.ref hd)) (hta : Ev ta σ H (.ref a)) (htb : EvL tb σ H c.vs) (haX : a ∉ X) (ha : H a = some (.lst c.vs)) (hc : c.Ok)
    (k : ∀ H', ExN [hd] H H' → Ls X H' → Held H' X hd (n + 1) → tz D σ H') : tSeq (tDrop (tBM K "list" rAppend th (tCons (tTup (tCons ta (tCons tb tNil))) tNil))) tz D σ H := by
  obtain ⟨ts, h0, h1, h2⟩ := hh
  refine hth H (Ex.refl H) _ fun H1 e1 => ⟨Or.inl ⟨rfl, _, sq_of (e1 _ _ h1)⟩, hta H1 e1 _ fun H2 e2 => htb H2 (e1.trans e2) _ fun u H3 u0 e3 hu => ⟨sz_of (show 2 ≤ 100000 by decide), fun t ht => ?_⟩⟩
  have e03 := (e1.trans e2).trans e3
  have e04 : Ex H (upd H3 t (.tup [.ref a, .ref u])) := e03.trans (Ex.new ht)
  have uX : u ∉ X := ls_fresh (hX.grow (e1.trans e2)) u0
  have g : Gd [hd] X H := Gd.one_l hin hX
  refine ⟨hd, ts.map V.ref, .ref t, rfl, rfl, e04 _ _ h1, sz_lt (by rw [List.length_map]; omega), ?_⟩
  have eN : ExN [hd] H (upd (upd H3 t (.tup [.ref a, .ref u])) hd (.lst (ts.map V.ref ++ [.ref t]))) := (ExN.of e04).set (List.mem_singleton.mpr rfl)
  have hT : upd H3 t (.tup [.ref a, .ref u]) t = some (.tup [.ref a, .ref u]) := upd_same
  have tne : t ≠ hd := fun q => by
    rw [q, e03 _ _ h1] at ht
    cases ht
  have une : u ≠ hd := fun q => uX (by rw [q]; exact hin)
  have nut : u ≠ t := fun q => by
    rw [← q, hu] at ht
    cases ht
  refine k _ eN (hX.keep eN fun m hm _ => by rw [List.mem_singleton.mp hm]; exact ⟨_, upd_same⟩) ⟨ts ++ [t], by rw [List.length_append]; show _ + 1 ≤ _; omega, by rw [List.map_append]; exact upd_same, fun t' ht' => ?_⟩
  rcases List.mem_append.mp ht' with q | q
  · obtain ⟨c', hc', q2⟩ := h2 t' q
    exact ⟨c', hc', q2.keep g eN⟩
  · rw [List.mem_singleton.mp q]
    refine ⟨c, hc, a, u, haX, uX, ?_, g.lst eN haX ha, ?_⟩
    · rw [upd_ne tne]
      exact upd_same
    · rw [upd_ne une, upd_ne nut]
      exact hu
theorem lines_lt {row : List Str} {zs : List Int} (h : RowW row) : ∀ z ∈ linesOf row zs, ∀ c ∈ TL.tl z, c < 1114112 := fun z hz => by
  unfold linesOf at hz
  obtain ⟨i, _, rfl⟩ := List.mem_map.mp hz
  exact (txs_join (y := blankS) (txs_one (.inl rfl)) fun p hp => (h p (List.mem_of_mem_drop (List.mem_of_mem_take hp))).txs).lt
/-! ### what a page shows -/
def sp_shows (K : PySem.W.Frag) : Sp := fun vs H Q _ => ∃ (r q hd : Addr) (X : List Addr) (row : List Str) (w : Int) (us : List V) (n : Nat), vs = [.ref r, .int w, .ref q, .ref hd] ∧ r ∉ X ∧ H r = some (.lst (row.map V.str)) ∧ q ∉ X ∧ H q = some (.lst us) ∧ (∀ k, k < 5 → ∃ v, us[k]? = some v ∧ TdV H X row w k v) ∧ hd ∈ X ∧ Ls X H ∧ Held H X hd n ∧ n ≤ 50000 ∧ Good row w ∧ RowW row ∧
  ∀ H', ExN [hd] H H' → Ls X H' → Held H' X hd (n + 3) → Q (.bl true) H'
theorem ok_l_shows (T : Txt K mg A) : FnOk P w K mg base CX0 4 A.f_l_shows A.d_l_shows ["_law_row", "_law_width", "_law_told_here", "_law_held"] (sp_shows K) := by
  refine T.F_l_shows.ok sc_l_shows (fun vs H Q E h => ?_) (fun cdv Ar outer s H vs Q E hr h => ?_)
  · obtain ⟨r, q, hd, X, row, w, us, n, rfl, _⟩ := h
    rfl
  · obtain ⟨r, q, hd, X, row, w, us, n, rfl, rX, hrow, qX, hq, hus, hin, hX, hH, hn, ⟨g1, g2, g3, g4, g5⟩, hW, k⟩ := h
    refine ⟨_, (pss_cons (ps_if (pt_not (pt_val (pe_call (ok_l_table_right T) (hr.mono (by decide)) rfl T.g_l_table_right T.F_l_table_right.kp T.b_l_table_right .nil pass0 (pa_cons (pv 0) (pa_cons (pv 1) (pa_cons (pe_ix (ixL (K := K) rfl) (pv 2) pe_int (fun _ _ => rfl)) pa_nil))))))
  (pss_one (ps_ret pe_bl))
  pss_nil)
  (pss_cons (ps_set (i := 4) sc_l_shows.nd rfl (.inr rfl) (pe_ix (ixL (K := K) rfl) (pv 2) pe_int (fun _ _ => rfl)))
  (pss_cons (ps_if (PW.pt (pw_or (pt_not (pt_val (pe_call (ok_l_wholes T) (hr.mono (by decide)) rfl T.g_l_wholes T.F_l_wholes.kp T.b_l_wholes .nil pass0 (pa_cons (pv 4) pa_nil)))) (pw_or1 (pt_cmpR (op_neD hr.units) (pv 4) (pe_call (ok_l_starts_by_table T) (hr.mono (by decide)) rfl T.g_l_starts_by_table T.F_l_starts_by_table.kp T.b_l_starts_by_table .nil pass0 (pa_cons (pv 0) (pa_cons (pv 1) (pa_cons (pe_ix (ixL (K := K) rfl) (pv 2) pe_int (fun _ _ => rfl)) pa_nil)))) (nomark _)))))
  (pss_one (ps_ret pe_bl))
  pss_nil)
  (pss_cons (ps_set (i := 5) sc_l_shows.nd rfl (.inr rfl) (pe_op op_cat (pe_slice (TwT.slL (K := K) rfl) (pv 4) (po_some pe_int) po_none) (pe_lst (pa_cons (pe_callB call_len_seq (by rfl) T.m_len PySem.boot_len (pa_cons (pv 0) pa_nil)) pa_nil))))
  (pss_cons (ps_expr (pe_bm PySem.F.plainAttrs_list PySem.F.slot_list_append PySem.F.type_list_append mt_append (pv 3) (pa_cons (pe_tup (pa_cons (pe_ix (ixL (K := K) rfl) (pv 2) pe_int (fun _ _ => rfl)) (pa_cons (pe_callTy call_list_of (by rfl) T.m_list (by decide +kernel) (pa_cons (pe_ix (ixL (K := K) rfl) (pv 2) pe_int (fun _ _ => rfl)) pa_nil)) pa_nil))) pa_nil)))
  (pss_cons (ps_expr (pe_bm PySem.F.plainAttrs_list PySem.F.slot_list_append PySem.F.type_list_append mt_append (pv 3) (pa_cons (pe_tup (pa_cons (pv 4) (pa_cons (pe_callTy call_list_of (by rfl) T.m_list (by decide +kernel) (pa_cons (pv 4) pa_nil)) pa_nil))) pa_nil)))
  (pss_cons (ps_expr (pe_bm PySem.F.plainAttrs_list PySem.F.slot_list_append PySem.F.type_list_append mt_append (pv 3) (pa_cons (pe_tup (pa_cons (pe_ix (ixL (K := K) rfl) (pv 2) pe_int (fun _ _ => rfl)) (pa_cons (pe_callTy call_list_of (by rfl) T.m_list (by decide +kernel) (pa_cons (pe_ix (ixL (K := K) rfl) (pv 2) pe_int (fun _ _ => rfl)) pa_nil)) pa_nil))) pa_nil)))
  (pss_one (ps_ret (pe_call (ok_l_texts T) (hr.mono (by decide)) rfl T.g_l_texts T.F_l_texts.kp T.b_l_texts .nil pass0 (pa_cons (pe_ix (ixL (K := K) rfl) (pv 2) pe_int (fun _ _ => rfl)) (pa_cons (pe_lc (own := [("_law_k", 6)]) (tt := tYes) rfl sc_l_shows.nd (pi_range1 (by rfl) T.m_range (pa_cons (pe_callB call_len_seq (by rfl) T.m_len PySem.boot_len (pa_cons (pv 4) pa_nil)) pa_nil)) (blkOk_by (N := N_l_shows) (sc := defScope s_l_shows) (by decide +kernel)) (fun _ _ _ _ _ => (pg_name (i := 6) sc_l_shows.nd rfl (.inl rfl))) (fun _ _ _ _ _ => pts_nil) (fun _ _ _ _ _ => (TwT.pe_joinK (K := K) rfl pe_str (pe_slice (TwT.slL (K := K) rfl) (pv 0) (po_some (pe_ix (ixL (K := K) rfl) (pv 4) (pv 6) (fun _ _ => rfl))) (po_some (pe_ix (ixL (K := K) rfl) (pv 5) (pv 6) (fun _ _ => rfl))))))) pa_nil)))))))))))), ?_⟩
    obtain ⟨v2, u2, a2, t, rfl, aX2, hT, ha2⟩ := hus 2 (by decide)
    obtain ⟨v3, u3, a3, t3, S, rfl, aX3, hT3, hS3, ha3⟩ := hus 3 (by decide)
    obtain ⟨v4, u4, a4, t4, S4, rfl, aX4, hT4, hS4, ha4⟩ := hus 4 (by decide)
    have hS := best_to hT hT3 hS3
    have h44 : S4 = S := goal_uniq (best_to hT hT4 hS4) hS
    subst h44
    have fS := walk_fitS (hS.mono fun _ _ g => g.fit)
    have hSl := walk_len (fun _ _ g => g.fit.1) hS
    have gB := fit_good fS
    have gl := good_line gB
    have nl : (row.map V.str).length = row.length := List.length_map ..
    have zl : (zsOf S4).length = S4.length := zsN_len S4
    rw [← zsN] at ha3
    have ix : ∀ (i : Nat) (a : Addr) {σ : L2.St} {H' : Hp}, us[i]? = some (.ref a) → H' q = some (.lst us) → σ[2]? = some (some (.ref q)) → Ev (tOp (rIxL K) (tVar 2) (tC (.int (i : Int)))) σ H' (.ref a) := fun i a σ H' hi e g => ev_op (ev_var g) ev_c (rv_ixL (sq_of e) (atI_nat hi))
    refine q_when (b := false) (et_is (a := !true) (et_not (et_B (ev_call (ea_cons (ev_var rfl) (ea_cons (ev_var rfl) (ea_cons (ix 2 a2 u2 hq rfl) ea_nil))) fun H3 e3 Q' qq E' => ⟨r, a2, row, w, t, rfl, sq_of (e3 _ _ hrow), sq_of (e3 _ _ ha2), g4, by omega, g2, hT, qq⟩))) rfl) (fun hb => nomatch hb) (fun _ H1 e1 => ?_)
    refine q_asg (v := .ref a3) (ix 3 a3 u3 (e1 _ _ hq) rfl) fun H2 e2 => ?_
    have e12 := e1.trans e2
    refine q_when (b := false) (et_is (a := !true || !decide (zsOf S4 = zsOf S4)) (et_or (et_not (et_B (ev_call (ea_cons (ev_var rfl) ea_nil) fun H3 e3 Q' qq E' => ⟨a3, zsOf S4, rfl, sq_of ((e12.trans e3) _ _ ha3), qq⟩))) fun _ => et_test (ev_opL (xs := (zsOf S4).map V.int) (ev_var rfl) (el_call (ea_cons (ev_var rfl) (ea_cons (ev_var rfl) (ea_cons (ix 2 a2 u2 (e12 _ _ hq) rfl) ea_nil))) fun H3 e3 Q' qq E' => ⟨r, a2, row, w, t, rfl, sq_of ((e12.trans e3) _ _ hrow), sq_of ((e12.trans e3) _ _ ha2), g4, by omega, g2, hT, fun S' hS2 => by rw [goal_uniq hS2 hS, ← zsN]; exact qq⟩) fun q' H3 hq' e3 => rv_neI (sq_of ((e12.trans e3) _ _ ha3)) (sq_of hq'))) (by simp)) (fun hb => nomatch hb) (fun _ H3 e3 => ?_)
    have e13 := e12.trans e3
    refine q_asgL (xs := (endsOf row.length (zsOf S4)).map V.int) (el_is (el_catN (el_sl (ev_var rfl) (eo_some ev_c) eo_none (sq_of (e13 _ _ ha3))) (el_lst (ea_cons (ev_cb (ea_cons (ev_var rfl) ea_nil) (rc_lenL (sq_of (e13 _ _ hrow)))) ea_nil) (show 1 ≤ 100000 by decide)) ?_) ?_) fun en H4 en0 e4 hen => ?_
    · rw [cut_tail, List.length_map, List.length_drop]
      show _ + 1 ≤ 100000
      omega
    · rw [cut_tail]
      unfold endsOf
      rw [List.map_append, nl]
      rfl
    have e14 := e13.trans e4
    have enX : en ∉ X := ls_fresh (hX.grow e13) en0
    have hX4 := hX.grow e14
    have hq4 := e14 _ _ hq
    refine q_held (c := .ints (tabL t row.length)) hin hX4 (hH.grow e14) (by omega) (ev_var rfl) (ix 2 a2 u2 hq4 rfl) (el_listOf (ix 2 a2 u2 hq4 rfl) (sq_of (e14 _ _ ha2))) aX2 (e14 _ _ ha2) trivial fun H5 e5 hX5 hH5 => ?_
    have gd4 : Gd [hd] X H4 := Gd.one_l hin hX4
    have hq5 := gd4.lst e5 qX hq4
    have ha35 := gd4.lst e5 aX3 (e14 _ _ ha3)
    refine q_held (c := .ints (zsOf S4)) hin hX5 hH5 (by omega) (ev_var rfl) (ev_var rfl) (el_listOf (ev_var rfl) (sq_of ha35)) aX3 ha35 trivial fun H6 e6 hX6 hH6 => ?_
    have gd5 : Gd [hd] X H5 := Gd.one_l hin hX5
    have hq6 := gd5.lst e6 qX hq5
    have ha46 := gd5.lst e6 aX4 (gd4.lst e5 aX4 (e14 _ _ ha4))
    refine q_held (c := .strs (linesOf row (zsOf S4))) hin hX6 hH6 (by omega) (ev_var rfl) (ix 4 a4 u4 hq6 rfl) (el_listOf (ix 4 a4 u4 hq6 rfl) (sq_of ha46)) aX4 ha46 (lines_lt hW) fun H7 e7 hX7 hH7 => ?_
    have gd6 : Gd [hd] X H6 := Gd.one_l hin hX6
    have e47 := (e5.trans e6).trans e7
    have hq7 := gd6.lst e7 qX hq6
    have ha47 := gd6.lst e7 aX4 ha46
    have ha37 := gd4.lst e47 aX3 (e14 _ _ ha3)
    have hr7 := gd4.lst e47 rX (e14 _ _ hrow)
    have hen7 := gd4.lst e47 enX hen
    have nz : ((zsOf S4).map V.int).length = (zsOf S4).length := List.length_map ..
    have len_ends : (endsOf row.length (zsOf S4)).length = (zsOf S4).length - 1 + 1 := by
      unfold endsOf
      rw [List.length_append, List.length_drop] <;> rfl
    have at_ : ∀ (zs : List Int) (i : Nat), i < zs.length → (zs.map V.int)[i]? = some (.int (zs.getD i 0)) := fun zs i hi => by
      rw [List.getElem?_map, List.getElem?_eq_getElem hi, List.getD_eq_getElem?_getD, List.getElem?_eq_getElem hi] <;> rfl
    have hln : (linesOf row (zsOf S4)).length ≤ 60000 := by
      unfold linesOf
      rw [List.length_map, List.length_range]
      omega
    refine s_ret (v := .bl true) (ev_callA (ap_cons (ix 4 a4 u4 hq7 rfl) (ap_consL (xs := (linesOf row (zsOf S4)).map V.str) (el_is (el_lcR (n := (((zsOf S4).map V.int).length : Int)) (fun i => V.str (lineOf row ((zsOf S4).getD i 0).toNat ((endsOf row.length (zsOf S4)).getD i 0).toNat)) (ea_cons (ev_cb (ea_cons (ev_var rfl) ea_nil) (rc_lenL (sq_of ha37))) ea_nil) (by omega) (fun _ => rfl) fun i H8 e8 hi => ?_) ?_) ap_nil fun _ _ _ => trivial)) ?_) fun H8 e8 => k H8 (((ExN.of e14).trans e47).trans (ExN.of e8)) (hX7.grow e8) (hH7.grow e8)
    · have hi' : i < (zsOf S4).length := by omega
      obtain ⟨f1, f2, f3⟩ := gl i hi'
      have c1 : ((((zsOf S4).getD i 0).toNat : Nat) : Int) = (zsOf S4).getD i 0 := Int.toNat_of_nonneg f1
      have c2 : ((((endsOf row.length (zsOf S4)).getD i 0).toNat : Nat) : Int) = (endsOf row.length (zsOf S4)).getD i 0 := Int.toNat_of_nonneg (by omega)
      have lf := line_fits g4 (by omega) ((zsOf S4).getD i 0).toNat ((endsOf row.length (zsOf S4)).getD i 0).toNat
      refine ev_joinL ev_blk (el_is (el_sl (lo := some ((((zsOf S4).getD i 0).toNat : Nat) : Int)) (hi := some ((((endsOf row.length (zsOf S4)).getD i 0).toNat : Nat) : Int)) (ev_var rfl) (eo_some (ev_is (ev_op (ev_var rfl) (ev_var rfl) (rv_ixL (sq_of (e8 _ _ ha37)) (atI_nat (at_ _ i hi')))) (by rw [c1]))) (eo_some (ev_is (ev_op (ev_var rfl) (ev_var rfl) (rv_ixL (sq_of (e8 _ _ hen7)) (atI_nat (at_ _ i (by omega))))) (by rw [c2]))) (sq_of (e8 _ _ hr7))) (cut_words (by omega) (by omega))) (by omega)
    · rw [nz, Int.toNat_natCast]
      unfold linesOf
      rw [List.map_map] <;> rfl
    · rintro vs H8 e8 ⟨p1, rfl, p2, r1, rfl, h2, rfl⟩ Q' qq
      exact ⟨a4, p2, linesOf row (zsOf S4), rfl, sq_of (e8 _ _ ha47), sq_of h2, hln, qq⟩
/-! ### what a page tells stands -/
theorem s_asgA {ta : TA} {sp : Sp} {dvs vs : List V} {E : XK} {i : Nat} {σ : L2.St} {H : Hp} {D : Ends} (h : EvA ta σ H vs) (k : ∀ H1, Ex H H1 → sp (vs ++ dvs) H1 (fun v H2 => D.nx (σ.set i (some v)) H2) E) : tAsg (tCall sp dvs E ta) (gName i) D σ H := h H (Ex.refl H) _ k
theorem s_setM {C : Addr} {m : Str} {ta : TE} {t : TA} {g : TG} {sp : Sp} {dvs vs : List V} {E : XK} {σ : L2.St} {H : Hp} {D : Ends} {a dx : Addr} {fs : List (Str × V)} (ha : Ev ta σ H (.ref a)) (hp : H a = some (.ins C dx fs)) (hm : fs.lookup m = none) (h : EvA t σ H vs)
    (k : ∀ H1, Ex H H1 → sp (.ref a :: (vs ++ dvs)) H1 (fun v H2 => g v σ H2 D.nx) E) : tAsg (tMeth C m sp dvs E ta t) g D σ H :=
  ha H (Ex.refl H) _ fun H1 e1 => ⟨a, dx, fs, rfl, e1 _ _ hp, hm, h H1 e1 _ fun H2 e2 => k H2 (e1.trans e2)⟩
theorem q_setM {C : Addr} {m : Str} {ta : TE} {t : TA} {g : TG} {sp : Sp} {dvs vs : List V} {E : XK} {σ : L2.St} {H : Hp} {D : Ends} {tz : TS} {a dx : Addr} {fs : List (Str × V)} (ha : Ev ta σ H (.ref a)) (hp : H a = some (.ins C dx fs)) (hm : fs.lookup m = none) (h : EvA t σ H vs)
    (k : ∀ H1, Ex H H1 → sp (.ref a :: (vs ++ dvs)) H1 (fun v H2 => g v σ H2 (tz D)) E) : tSeq (tAsg (tMeth C m sp dvs E ta t) g) tz D σ H := s_setM (D := { D with nx := tz D }) ha hp hm h k
theorem s_retOrC {ta : TE} {tr : TA} {sp : Sp} {dvs vs : List V} {E : XK} {σ : L2.St} {H : Hp} {D : Ends} (h : Ev ta σ H (.bl false)) (hv : EvA tr σ H vs) (k : ∀ H1, Ex H H1 → sp (vs ++ dvs) H1 (fun v H2 => D.rt v H2) E) : tRet (tOrV ta (tCall sp dvs E tr)) D σ H :=
  h H (Ex.refl H) _ fun H1 e1 => ⟨false, rfl, by
    rw [if_neg (by decide)]
    exact hv H1 e1 _ fun H2 e2 => k H2 (e1.trans e2)⟩
def sp_stands (K : PySem.W.Frag) (A : Ad) : Sp := fun vs H Q _ => ∃ (p pl r hd : Addr) (X : List Addr) (row : List Str) (w : Int) (past : List (List Str × Int)) (f : Bool) (way : Int) (n : Nat), vs = [.ref p, .ref r, .int w, .bl f, .ref hd, .int way] ∧ PageAt A H p pl X row w past ∧ r ∉ X ∧ H r = some (.lst (row.map V.str)) ∧ hd ∈ X ∧ Held H X hd n ∧ n ≤ 40000 ∧ Good row w ∧ RowW row ∧ TabG H A.p_are_starts ∧
  ∀ H', ExN [A.p_are_starts, hd] H H' → TabG H' A.p_are_starts → Ls X H' → Held H' X hd (n + 4) → Q (.bl true) H'
theorem ok_l_stands (T : Txt K mg A) (B : Tb mg base A) : FnOk P w K mg base CX0 10 A.f_l_stands A.d_l_stands ["_law_page", "_law_row", "_law_width", "_law_fully", "_law_held", "_law_way"] (sp_stands K A) := by
  refine T.F_l_stands.ok sc_l_stands (fun vs H Q E h => ?_) (fun cdv Ar outer s H vs Q E hr h => ?_)
  · obtain ⟨p, pl, r, hd, X, row, w, past, f, way, n, rfl, _⟩ := h
    rfl
  · obtain ⟨p, pl, r, hd, X, row, w, past, f, way, n, rfl, hP, rX, hrow, hin, hH, hn, hG, hW, hT, k⟩ := h
    refine ⟨_, (pss_cons (ps_set (i := 3) sc_l_stands.nd rfl (.inl rfl) (pe_or (pv 3) (pe_one (pe_cmpR op_lt (pe_callB call_len_seq (by rfl) T.m_len PySem.boot_len (pa_cons (pv 1) pa_nil)) pe_int (nomark _)))))
  (pss_cons (ps_set (i := 6) sc_l_stands.nd rfl (.inl rfl) (pe_lst (pa_cons (pv 2) (pa_cons pe_non (pa_cons pe_non (pa_cons pe_non (pa_cons pe_non pa_nil)))))))
  (Evl.pss_cut (ps_if (pt_val (pv 3))
  (pss_one (ps_set (i := 6) sc_l_stands.nd rfl (.inl rfl) (pe_call (ok_l_all_told T B) (hr.mono (by decide)) rfl T.g_l_all_told T.F_l_all_told.kp T.b_l_all_told .nil pass0 (pa_cons (pv 0) (pa_cons (pv 5) pa_nil)))))
  (pss_one (ps_if (pt_cmpR op_eq (pe_op op_mod (pv 5) pe_int) pe_int (nomark _))
  (pss_cons (ps_asg (pe_meth0 (pv 0) T.cl_Page T.me_p_words_now (ok_p_words_now T) (hr.mono (by decide)) T.b_p_words_now .nil pass0) (pg_sub (pv 6) pe_int set_list))
  (pss_one (ps_asg (pe_meth0 (pv 0) T.cl_Page T.me_p_width_now (ok_p_width_now T) (hr.mono (by decide)) T.b_p_width_now .nil pass0) (pg_sub (pv 6) pe_int set_list))))
  (pss_one (ps_ret pe_bl)))))
  (pss_cons (ps_if (PW.pt (pw_or (pt_not (pt_val (pe_call (ok_l_whole T) (hr.mono (by decide)) rfl T.g_l_whole T.F_l_whole.kp T.b_l_whole .nil pass0 (pa_cons (pe_ix (ixL (K := K) rfl) (pv 6) pe_int (fun _ _ => rfl)) pa_nil)))) (pw_or (pt_cmpR op_ne (pe_ix (ixL (K := K) rfl) (pv 6) pe_int (fun _ _ => rfl)) (pv 2) (nomark _)) (pw_or1 (pt_not (pt_val (pe_call (ok_l_texts T) (hr.mono (by decide)) rfl T.g_l_texts T.F_l_texts.kp T.b_l_texts .nil pass0 (pa_cons (pe_ix (ixL (K := K) rfl) (pv 6) pe_int (fun _ _ => rfl)) (pa_cons (pv 1) pa_nil)))))))))
  (pss_one (ps_ret pe_bl))
  pss_nil)
  (pss_cons (ps_expr (pe_bm PySem.F.plainAttrs_list PySem.F.slot_list_append PySem.F.type_list_append mt_append (pv 4) (pa_cons (pe_tup (pa_cons (pe_ix (ixL (K := K) rfl) (pv 6) pe_int (fun _ _ => rfl)) (pa_cons (pe_callTy call_list_of (by rfl) T.m_list (by decide +kernel) (pa_cons (pe_ix (ixL (K := K) rfl) (pv 6) pe_int (fun _ _ => rfl)) pa_nil)) pa_nil))) pa_nil)))
  (pss_one (ps_ret (pe_or (pe_not (pv 3)) (pe_one (pe_call (ok_l_shows T) (hr.mono (by decide)) rfl T.g_l_shows T.F_l_shows.kp T.b_l_shows .nil pass0 (pa_cons (pv 1) (pa_cons (pv 2) (pa_cons (pv 6) (pa_cons (pv 4) pa_nil)))))))))))))), ?_⟩
    have hX := hP.ls
    obtain ⟨dx, wl, ts, hp, h2, h3, h4, h5⟩ := id hP
    have nl : (row.map V.str).length = row.length := List.length_map ..
    have hPhd : A.p_are_starts ≠ hd := fun c => ls_tab hX hT hin c.symm
    refine q_asg (v := .bl (f || decide ((row.length : Int) < 21))) (ev_orV (ev_var rfl) fun _ => ev_op (ev_is (ev_cb (ea_cons (ev_var rfl) ea_nil) (rc_lenL (sq_of hrow))) (by rw [nl])) ev_c rv_I0) fun H1 e1 => ?_
    generalize (f || decide ((row.length : Int) < 21)) = g
    refine q_asgL (xs := [.int w, .non, .non, .non, .non]) (el_lst (ea_cons (ev_var rfl) (ea_cons ev_c (ea_cons ev_c (ea_cons ev_c (ea_cons ev_c ea_nil))))) (show 5 ≤ 100000 by decide)) fun q0 H2 q00 e2 hq0 => ?_
    have e12 := e1.trans e2
    have q0H := fresh_back e1 q00
    have to_P : ∀ {H'}, ExT A.p_are_starts H H' → ExN [A.p_are_starts, hd] H H' := fun e => (ExN.of_t e).mono fun m hm => by
      rw [List.mem_singleton.mp hm]
      exact List.mem_cons_self ..
    refine q_cut (M := fun σ' H' => ∃ q us, σ' = [some (.ref p), some (.ref r), some (.int w), some (.bl g), some (.ref hd), some (.int way), some (.ref q)] ∧ ExT A.p_are_starts H H' ∧ q ∉ X ∧ H' q = some (.lst us) ∧ us[0]? = some (.int w) ∧ (∃ a, us[1]? = some (.ref a) ∧ a ∉ X ∧ H' a = some (.lst (row.map V.str))) ∧ (g = true → ∀ k, k < 5 → ∃ v, us[k]? = some v ∧ TdV H' X row w k v)) ?_ ?_
    · refine s_if (b := g) (et_B (ev_var rfl)) (fun hb H3 e3 => ?_) (fun hb H3 e3 => ?_)
      · have e13 := e12.trans e3
        refine s_asgA (ea_cons (ev_var rfl) (ea_cons (ev_var rfl) ea_nil)) fun H4 e4 => ⟨p, pl, X, row, w, past, way, rfl, hP.grow (e13.trans e4), hG, TabG.ex hT (e13.trans e4), fun l us H5 l0 e5 hl hul hall => ?_⟩
        have e14 := e13.trans e4
        obtain ⟨v0, u0, rfl⟩ := hall 0 (by decide)
        obtain ⟨v1, u1, a, rfl, aX, ha⟩ := hall 1 (by decide)
        exact ⟨l, us, rfl, (ExT.of_ex hT e14).trans e5, ls_fresh (hX.grow e14) l0, hl, u0, ⟨a, u1, aX, ha⟩, fun _ => hall⟩
      · have e13 := e12.trans e3
        refine s_if (b := decide (V.int (way % 3) = V.int 1)) (et_test (ev_op (ev_op (ev_var rfl) ev_c (rv_I (by decide))) ev_c (rv_eq rfl))) (fun hb2 H4 e4 => ?_) (fun hb2 H4 e4 => ?_)
        · have e14 := e13.trans e4
          have hq4 := e4 _ _ (e3 _ _ hq0)
          refine q_setM (ev_var rfl) (e14 _ _ hp) (m_words_now _ _ _) ea_nil fun H5 e5 => ⟨p, pl, X, row, w, past, rfl, hP.grow (e14.trans e5), fun a H6 a0 e6 ha => ?_⟩
          have e46 := e5.trans e6
          have e16 := e14.trans e46
          have hq6 := e46 _ _ hq4
          have aq : a ≠ q0 := fun c => by
            rw [c, e5 _ _ hq4] at a0
            cases a0
          have aX : a ∉ X := ls_fresh (hX.grow (e14.trans e5)) a0
          refine ⟨_, rfl, q0, [.int w, .non, .non, .non, .non], 1, 1, rfl, rfl, hq6, rfl, ?_⟩
          have e7 : Ex H (upd H6 q0 (.lst [.int w, .ref a, .non, .non, .non])) := Ex.mut e16 q0H
          have ha7 : (upd H6 q0 (.lst [.int w, .ref a, .non, .non, .non])) a = some (.lst (row.map V.str)) := by
            rw [upd_ne aq]
            exact ha
          have hq7 : (upd H6 q0 (.lst [.int w, .ref a, .non, .non, .non])) q0 = some (.lst [.int w, .ref a, .non, .non, .non]) := upd_same
          show tAsg _ _ _ _ (upd H6 q0 (.lst [.int w, .ref a, .non, .non, .non]))
          revert e7 ha7 hq7
          generalize upd H6 q0 (.lst [.int w, .ref a, .non, .non, .non]) = H7
          intro e7 ha7 hq7
          refine s_setM (ev_var rfl) (e7 _ _ hp) (m_width_now _ _ _) ea_nil fun H8 e8 => ⟨p, pl, X, row, w, past, rfl, hP.grow (e7.trans e8), fun H9 e9 => ?_⟩
          have e79 := e8.trans e9
          refine ⟨_, rfl, q0, [.int w, .ref a, .non, .non, .non], 0, 0, rfl, rfl, e79 _ _ hq7, rfl, q0, [.int w, .ref a, .non, .non, .non], rfl, ExT.of_ex hT (Ex.mut (e7.trans e79) q0H), ls_fresh hX q0H, upd_same, rfl, ⟨a, rfl, aX, ?_⟩, fun c => ?_⟩
          · rw [upd_ne aq]
            exact e79 _ _ ha7
          · rw [c] at hb
            cases hb
        · refine s_ret (v := .bl true) ev_c fun H5 e5 => ?_
          have e15 := (e13.trans e4).trans e5
          exact k H5 (ExN.of e15) (TabG.ex hT e15) (hX.grow e15) ((hH.grow e15).more (by omega))
    · rintro σ' H3 ⟨q, us, rfl, e, qX, hq, u0, ⟨a, u1, aX, ha⟩, hall⟩
      have gdP : Gd [A.p_are_starts] X H := Gd.one_t hT
      have eP := ExN.of_t e
      have hr3 := gdP.lst eP rX hrow
      have hX3 := (hP.keepT hT e).ls
      have hH3 : Held H3 X hd n := hH.keep gdP eP fun c => hPhd (List.mem_singleton.mp c).symm
      have ix : ∀ (i : Nat) (v : V) {σ : L2.St} {H' : Hp}, us[i]? = some v → H' q = some (.lst us) → σ[6]? = some (some (.ref q)) → Ev (tOp (rIxL K) (tVar 6) (tC (.int (i : Int)))) σ H' v := fun i v σ H' hi e g => ev_op (ev_var g) ev_c (rv_ixL (sq_of e) (atI_nat hi))
      refine q_when (b := false) (et_is (a := !true || (!decide (V.int w = V.int w) || !true)) (et_or (et_not (et_B (ev_call (ea_cons (ix 0 _ u0 hq rfl) ea_nil) fun H4 e4 Q' qq E' => ⟨w, rfl, qq⟩))) fun _ => et_or (et_test (ev_op (ix 0 _ u0 hq rfl) (ev_var rfl) (rv_ne rfl))) fun _ => et_not (et_B (ev_call (ea_cons (ix 1 _ u1 hq rfl) (ea_cons (ev_var rfl) ea_nil)) fun H4 e4 Q' qq E' => ⟨a, r, row, rfl, sq_of (e4 _ _ ha), sq_of (e4 _ _ hr3), by have := hG.2.2.1; omega, qq⟩))) (by simp)) (fun hb => nomatch hb) (fun _ H4 e4 => ?_)
      have hX4 := hX3.grow e4
      have hq4 := e4 _ _ hq
      have lt_row : ∀ z ∈ row, ∀ c ∈ TL.tl z, c < 1114112 := fun z hz => (hW z hz).lt
      refine q_held (c := .strs row) hin hX4 (hH3.grow e4) (by omega) (ev_var rfl) (ix 1 _ u1 hq4 rfl) (el_listOf (ix 1 _ u1 hq4 rfl) (sq_of (e4 _ _ ha))) aX (e4 _ _ ha) lt_row fun H5 e5 hX5 hH5 => ?_
      have gd4 : Gd [hd] X H4 := Gd.one_l hin hX4
      have hdP : hd ∈ [A.p_are_starts, hd] := List.mem_cons_of_mem _ (List.mem_singleton.mpr rfl)
      have e05 : ExN [A.p_are_starts, hd] H H5 := ((to_P e).trans (ExN.of e4)).trans (e5.mono fun m hm => by rw [List.mem_singleton.mp hm]; exact hdP)
      have hT5 : TabG H5 A.p_are_starts := tab_keep (TabG.ex e.1 e4) e5 fun c => hPhd (List.mem_singleton.mp c)
      cases g with
      | false =>
        exact s_ret (v := .bl true) (ev_orV (a := !false) (b := true) (ev_notV (ev_var rfl)) fun h => nomatch h) fun H6 e6 => k H6 (e05.trans (ExN.of e6)) (TabG.ex hT5 e6) (hX5.grow e6) ((hH5.grow e6).more (by omega))
      | true =>
        refine s_retOrC (ev_notV (a := true) (ev_var rfl)) (ea_cons (ev_var rfl) (ea_cons (ev_var rfl) (ea_cons (ev_var rfl) (ea_cons (ev_var rfl) ea_nil)))) fun H6 e6 => ⟨r, q, hd, X, row, w, us, n + 1, rfl, rX, e6 _ _ (gd4.lst e5 rX (e4 _ _ hr3)), qX, e6 _ _ (gd4.lst e5 qX hq4), fun i hi => ?_, hin, hX5.grow e6, hH5.grow e6, by omega, hG, hW, fun H7 e7 hX7 hH7 => k H7 ((e05.trans (ExN.of e6)).trans (e7.mono fun m hm => by rw [List.mem_singleton.mp hm]; exact hdP)) (tab_keep (TabG.ex hT5 e6) e7 fun c => hPhd (List.mem_singleton.mp c)) hX7 hH7⟩
        obtain ⟨v, h1, h2⟩ := hall rfl i hi
        exact ⟨v, h1, TdV.keep (Gd.one_l hin hX5) (ExN.of e6) (TdV.keep gd4 e5 (TdV.keep (ms := []) (fun m hm => absurd hm (List.not_mem_nil)) (ExN.of e4) h2))⟩

--SPLIT
/-! ### what the words of a page are -/
structure Pu (row : List Str) (w : Int) (past : List (List Str × Int)) : Prop where
  good : Good row w
  rw' : RowW row
  past : ∀ e ∈ past, Good e.1 e.2 ∧ RowW e.1
theorem Pu.pw {row : List Str} {w : Int} {past : List (List Str × Int)} (h : Pu row w past) : PastW past := fun e he => (h.past e he).2
theorem far_wid {v : Int} (h : Far v) : WidB v := by
  obtain ⟨h1, h2⟩ := h
  unfold WidB
  omega
theorem wd_of {z : Str} (h : Txs z) (hw : IsW z) (hl : z.length ≤ 300) : Wd z := by
  obtain ⟨h1, h2⟩ := (isW_iff h).mp hw
  exact ⟨h2, by omega, hl⟩
theorem Pu.step {row : List Str} {w : Int} {past : List (List Str × Int)} {d : Dd} (h : Pu row w past) (h0 : dueOf row w past d = 0) (hd : d.Ok) : Pu (afterOf row w past d).1 (afterOf row w past d).2.1 (afterOf row w past d).2.2 ∧ (afterOf row w past d).2.2.length ≤ past.length + 1 := by
  obtain ⟨⟨g1, g2, g3, g4, g5⟩, hW, hp⟩ := h
  have snoc : ∀ e ∈ past ++ [(row, w)], Good e.1 e.2 ∧ RowW e.1 := fun e he => by
    rcases List.mem_append.mp he with c | c
    · exact hp e c
    · rw [List.mem_singleton.mp c]
      exact ⟨⟨g1, g2, g3, g4, g5⟩, hW⟩
  have sl : (past ++ [(row, w)]).length ≤ past.length + 1 := by
    rw [List.length_append]
    exact Nat.le_refl _
  cases d with
  | fill => exact absurd hd id
  | put a z =>
    obtain ⟨d1, d2, d3, d4⟩ := hd
    have h0' : (if ¬ (0 ≤ a ∧ a ≤ (row.length : Int)) then (17 : Int) else if ¬ Txt.words z = [z] then 18 else if w < (z.length : Int) then 12 else if 120 ≤ row.length then 19 else 0) = 0 := h0
    by_cases c1 : 0 ≤ a ∧ a ≤ (row.length : Int)
    · rw [if_neg (fun q => q c1)] at h0'
      by_cases c2 : Txt.words z = [z]
      · rw [if_neg (fun q => q c2)] at h0'
        by_cases c3 : w < (z.length : Int)
        · rw [if_pos c3] at h0'
          cases h0'
        · rw [if_neg c3] at h0'
          by_cases c4 : 120 ≤ row.length
          · rw [if_pos c4] at h0'
            cases h0'
          · have hz : Wd z := wd_of d2 c2 (d4 c2)
            have mem : ∀ y ∈ putAt row a.toNat z, y ∈ row ∨ y = z := fun y hy => by
              unfold putAt at hy
              rcases List.mem_append.mp hy with q | q
              · rcases List.mem_append.mp q with q | q
                · exact .inl (List.mem_of_mem_take q)
                · exact .inr (List.mem_singleton.mp q)
              · exact .inl (List.mem_of_mem_drop q)
            refine ⟨⟨⟨g1, g2, ?_, fun y hy => ?_, fun y hy => ?_⟩, fun y hy => ?_, snoc⟩, sl⟩
            · show (putAt row a.toNat z).length ≤ 120
              unfold putAt
              rw [List.length_append, List.length_append, List.length_take, List.length_drop]
              show _ + 1 + _ ≤ _
              omega
            · rcases mem y hy with q | q
              · exact g4 y q
              · rw [q]
                exact hz.2.2
            · rcases mem y hy with q | q
              · exact g5 y q
              · rw [q]
                show (z.length : Int) ≤ w
                omega
            · rcases mem y hy with q | q
              · exact hW y q
              · rw [q]
                exact hz
      · rw [if_pos c2] at h0'
        cases h0'
    · rw [if_pos c1] at h0'
      cases h0'
  | drop a =>
    have mem : ∀ y ∈ dropAt row a.toNat, y ∈ row := fun y hy => by
      unfold dropAt at hy
      rcases List.mem_append.mp hy with q | q
      · exact List.mem_of_mem_take q
      · exact List.mem_of_mem_drop q
    refine ⟨⟨⟨g1, g2, ?_, fun y hy => g4 y (mem y hy), fun y hy => g5 y (mem y hy)⟩, fun y hy => hW y (mem y hy), snoc⟩, sl⟩
    show (dropAt row a.toNat).length ≤ 120
    unfold dropAt
    rw [List.length_append, List.length_take, List.length_drop]
    omega
  | widen v =>
    have h0' : (if v < 1 then (11 : Int) else if v < longest row then 12 else 0) = 0 := h0
    by_cases c1 : v < 1
    · rw [if_pos c1] at h0'
      cases h0'
    · rw [if_neg c1] at h0'
      by_cases c2 : v < longest row
      · rw [if_pos c2] at h0'
        cases h0'
      · refine ⟨⟨⟨?_, far_wid hd, g3, g4, fun y hy => ?_⟩, hW, snoc⟩, sl⟩
        · show 1 ≤ v
          omega
        · have := longest_ge row y hy
          show (y.length : Int) ≤ v
          omega
  | undo =>
    have hpe : past ≠ [] := fun q => by
      rw [show dueOf row w past .undo = 20 from if_pos q] at h0
      cases h0
    obtain ⟨past0, e, rfl⟩ : ∃ past0 e, past = past0 ++ [e] := ⟨past.dropLast, past.getLast hpe, (List.dropLast_concat_getLast hpe).symm⟩
    show Pu ((past0 ++ [e]).getLastD ([], 0)).1 ((past0 ++ [e]).getLastD ([], 0)).2 (past0 ++ [e]).dropLast ∧ (past0 ++ [e]).dropLast.length ≤ _
    rw [List.getLastD_concat, List.dropLast_concat]
    have he := hp e (List.mem_append_right _ (List.mem_singleton.mpr rfl))
    exact ⟨⟨he.1, he.2, fun x hx => hp x (List.mem_append_left _ hx)⟩, by rw [List.length_append]; omega⟩
/-! ### apart from one more list -/
theorem no_more {X : List Addr} {H : Hp} {l b : Addr} {o : HO} (h0 : H l = none) (hb : b ∉ X) (q : H b = some o) : b ∉ l :: X := fun c => by
  rcases List.mem_cons.mp c with c | c
  · rw [c, h0] at q
    cases q
  · exact hb c
theorem PastP.moreX {X ts : List Addr} {H : Hp} {l : Addr} {past : List (List Str × Int)} (h : PastP H X ts past) (h0 : H l = none) : PastP H (l :: X) ts past := ⟨h.1, fun i t x a b => by
  obtain ⟨u, g1, g2, g3⟩ := h.2 i t x a b
  exact ⟨u, no_more h0 g1 g3, g2, g3⟩⟩
theorem NowAt.moreX {X : List Addr} {H : Hp} {t l : Addr} {row : List Str} {w : Int} {past : List (List Str × Int)} (h : NowAt H X t row w past) (h0 : H l = none) : NowAt H (l :: X) t row w past := by
  obtain ⟨r, pl, h1, h2, h3, h4, ts, h5, h6⟩ := h
  exact ⟨r, pl, h1, no_more h0 h2 h4, no_more h0 h3 h5, h4, ts, h5, h6.moreX h0⟩
theorem Held.moreX {X : List Addr} {H : Hp} {hd l : Addr} {n : Nat} (h : Held H X hd n) (h0 : H l = none) : Held H (l :: X) hd n := by
  obtain ⟨ts, h1, h2, h3⟩ := h
  refine ⟨ts, h1, h2, fun t ht => ?_⟩
  obtain ⟨c, hc, u, v, g1, g2, g3, g4, g5⟩ := h3 t ht
  exact ⟨c, hc, u, v, no_more h0 g1 g4, no_more h0 g2 g5, g3, g4, g5⟩
theorem extT_of {P : Addr} {ms : List Addr} {H H1 H2 : Hp} (h : ExT P H H1) (e : ExN ms H1 H2) (hm : ∀ m ∈ ms, m = P ∨ H m = none) (hT : TabG H2 P) : ExT P H H2 := ⟨hT, fun b o hb q => e _ _ (fun c => by
  rcases hm b c with z | z
  · exact hb z
  · rw [q] at z
    cases z) (h.2 b o hb q)⟩
/-! ### lists that were told are changed -/
theorem t_meth0 {C : Addr} {m : Str} {ta : TE} {sp : Sp} {E : XK} {σ : L2.St} {H : Hp} {Q : VK} {a dx : Addr} {fs : List (Str × V)} (ha : Ev ta σ H (.ref a)) (hp : H a = some (.ins C dx fs)) (hm : fs.lookup m = none) (k : ∀ H1, Ex H H1 → sp [.ref a] H1 Q E) : tMeth C m sp [] E ta tNil σ H Q :=
  ha H (Ex.refl H) _ fun H1 e1 => ⟨a, dx, fs, rfl, e1 _ _ hp, hm, k H1 e1⟩
theorem t_cons {te : TE} {tr : TA} {σ : L2.St} {H : Hp} {Q : List V → Hp → Prop} (h : te σ H fun x H1 => tr σ H1 fun xs H2 => Q (x :: xs) H2) : tCons te tr σ H Q := h
theorem s_forLst {ta : TA} {g : TG} {tu : TS} {D : Ends} {σ : L2.St} {H : Hp} (h : ta σ H fun xs H1 => xs.length ≤ sizeLine ∧ ∀ p, H1 p = none → tFor (iList K (tC (.ref p))) g tu D σ (upd H1 p (.lst xs))) : tFor (iList K (tLst ta)) g tu D σ H := h
theorem s_spoil {E1 E2 E3 E4 : XK} {p pl : Addr} {X : List Addr} {row : List Str} {w : Int} {past : List (List Str × Int)} {σ : L2.St} {H : Hp} {D : Ends} (hσ : σ[2]? = some (some (.ref p))) (hl : 11 < σ.length) (hP : PageAt A H p pl X row w past) (hG : Good row w) (hT : TabG H A.p_are_starts)
    (k : ∀ x H', ExT A.p_are_starts H H' → D.nx (σ.set 11 (some x)) H') :
    tFor (iList K (tLst (tCons (tMeth A.c_Page "words_now" (sp_words_now K A) [] E1 (tVar 2) tNil) (tCons (tMeth A.c_Page "table_now" (sp_table_now K A) [] E2 (tVar 2) tNil) (tCons (tMeth A.c_Page "starts_now" (sp_starts_now K A) [] E3 (tVar 2) tNil) (tCons (tMeth A.c_Page "lines_now" (sp_lines_now K A) [] E4 (tVar 2) tNil) tNil)))))) (gName 11) (tDrop (tBM K "list" rAppend (tVar 11) (tCons (tC (.int 7)) tNil))) D σ H := by
  obtain ⟨dx, wl, ts, hp, h2, h3, h4, h5⟩ := id hP
  refine s_forLst ?_
  refine t_cons ?_
  refine t_meth0 (ev_var hσ) hp (m_words_now _ _ _) fun H1 e1 => ?_
  refine ⟨p, pl, X, row, w, past, rfl, hP.grow e1, fun a1 H2 a10 e2 ha1 => ?_⟩
  have e12 := e1.trans e2
  refine t_cons ?_
  refine t_meth0 (ev_var hσ) (e12 _ _ hp) (m_table_now _ _ _) fun H3 e3 => ?_
  refine ⟨p, pl, X, row, w, past, rfl, hP.grow (e12.trans e3), hG, fun t ht a2 H4 a20 e4 ha2 => ?_⟩
  have e14 := (e12.trans e3).trans e4
  refine t_cons ?_
  refine t_meth0 (ev_var hσ) (e14 _ _ hp) (m_starts _ _ _) fun H5 e5 => ?_
  refine ⟨p, pl, X, row, w, past, rfl, hP.grow (e14.trans e5), hG, fun t3 S ht3 hS3 a3 H6 a30 e6 ha3 => ?_⟩
  have e16 := (e14.trans e5).trans e6
  refine t_cons ?_
  refine t_meth0 (ev_var hσ) (e16 _ _ hp) (m_lines_now _ _ _) fun H7 e7 => ?_
  refine ⟨p, pl, X, row, w, past, rfl, hP.grow (e16.trans e7), hG, TabG.ex hT (e16.trans e7), fun t4 S4 ht4 hS4 a4 H8 e8 a40 ha4 => ?_⟩
  have e17 := e16.trans e7
  have hT7 := TabG.ex hT e17
  have e18 : ExT A.p_are_starts H H8 := (ExT.of_ex hT e17).trans e8
  have sl := walk_len (fun _ _ g => g.fit.1) hS3
  have sl4 := walk_len (fun _ _ g => g.fit.1) hS4
  have b1 : H8 a1 = some (.lst (row.map V.str)) := lst_tab hT7 e8 ((((e3.trans e4).trans e5).trans e6).trans e7 _ _ ha1)
  have b2 : H8 a2 = some (.lst ((tabL t row.length).map V.int)) := lst_tab hT7 e8 (((e5.trans e6).trans e7) _ _ ha2)
  have b3 : H8 a3 = some (.lst (nats S)) := lst_tab hT7 e8 (e7 _ _ ha3)
  have f1 := fresh_back e1 a10
  have f2 := fresh_back (e12.trans e3) a20
  have f3 := fresh_back (e14.trans e5) a30
  have f4 := fresh_back e17 a40
  have hr := hG.2.2.1
  refine ⟨sz_of (show 4 ≤ 100000 by decide), fun q0 hq0 => ?_⟩
  have e9 : Ex H8 (upd H8 q0 (.lst [.ref a1, .ref a2, .ref a3, .ref a4])) := Ex.new hq0
  have hq : (upd H8 q0 (.lst [.ref a1, .ref a2, .ref a3, .ref a4])) q0 = some (.lst [.ref a1, .ref a2, .ref a3, .ref a4]) := upd_same
  have n1 : a1 ≠ q0 := ne_of_none b1 hq0
  have n2 : a2 ≠ q0 := ne_of_none b2 hq0
  have n3 : a3 ≠ q0 := ne_of_none b3 hq0
  have n4 : a4 ≠ q0 := ne_of_none ha4 hq0
  have ex0 : ExT A.p_are_starts H (upd H8 q0 (.lst [.ref a1, .ref a2, .ref a3, .ref a4])) := e18.trans (ExT.of_ex e18.1 e9)
  have bs : ∀ b ∈ [a1, a2, a3, a4], H b = none ∧ b ≠ q0 ∧ ∃ ys, H8 b = some (.lst ys) ∧ ys.length ≤ 3000 := fun b hb => by
    rcases List.mem_cons.mp hb with c | hb
    · rw [c]
      exact ⟨f1, n1, _, b1, by rw [List.length_map]; omega⟩
    rcases List.mem_cons.mp hb with c | hb
    · rw [c]
      exact ⟨f2, n2, _, b2, by rw [List.length_map, tabL_len]; omega⟩
    rcases List.mem_cons.mp hb with c | hb
    · rw [c]
      exact ⟨f3, n3, _, b3, by rw [nats_len]; omega⟩
    · rw [List.mem_singleton.mp hb]
      refine ⟨f4, n4, _, ha4, ?_⟩
      unfold linesOf
      rw [List.length_map, List.length_map, List.length_range, zsN_len]
      omega
  revert hq ex0 e9
  generalize upd H8 q0 (.lst [.ref a1, .ref a2, .ref a3, .ref a4]) = H9
  intro e9 hq ex0
  refine s_forLn (a := q0) (xs := [a1, a2, a3, a4].map V.ref) ev_c (sq_of hq) (fun i σ' H' => ((i = 0 ∧ σ' = σ) ∨ ∃ x, σ' = σ.set 11 (some x)) ∧ ExT A.p_are_starts H H' ∧ H' q0 = some (.lst ([a1, a2, a3, a4].map V.ref)) ∧ ∀ b ∈ [a1, a2, a3, a4], ∃ ys, H' b = some (.lst ys) ∧ ys.length ≤ 3000 + i)
    (fun H9' e9' => ⟨.inl ⟨rfl, rfl⟩, ex0.trans (ExT.of_ex ex0.1 e9'), e9' _ _ hq, fun b hb => ?_⟩) (fun i σ' H' _ h => sq_of h.2.2.1) (fun i x σ' H' hi h => ?_) (fun σ' H' h => ?_)
  · obtain ⟨_, _, ys, q1, q2⟩ := bs b hb
    exact ⟨ys, e9' _ _ (e9 _ _ q1), q2⟩
  · obtain ⟨hs, ex, hq', hall⟩ := h
    rw [List.getElem?_map] at hi
    obtain ⟨b, hb, rfl⟩ := Option.map_eq_some_iff.mp hi
    have hbm := List.mem_of_getElem? hb
    obtain ⟨z1, z2, _⟩ := bs b hbm
    obtain ⟨ys, q1, q2⟩ := hall b hbm
    have hil : i < 4 := (List.getElem?_eq_some_iff.mp hb).1
    have hset : σ'.set 11 (some (.ref b)) = σ.set 11 (some (.ref b)) := by
      rcases hs with ⟨_, c⟩ | ⟨u, c⟩
      · rw [c]
      · rw [c, List.set_set]
    rw [hset]
    refine s_app (xs := ys) (v := .int 7) q1 (ev_var (by rw [List.getElem?_set_self hl])) ev_c (by omega) fun H10 e10 => ⟨.inr ⟨_, rfl⟩, ?_, ?_, fun b' hb' => ?_⟩
    · have hbP : b ≠ A.p_are_starts := fun c => by
        obtain ⟨ps, q, _⟩ := hT
        rw [c, q] at z1
        cases z1
      refine extT_of (ms := [b]) ex ((ExN.of e10).set (List.mem_singleton.mpr rfl)) (fun m hm => ?_) (tab_keep (ms := [b]) ex.1 ((ExN.of e10).set (List.mem_singleton.mpr rfl)) fun c => hbP (List.mem_singleton.mp c).symm)
      rw [List.mem_singleton.mp hm]
      exact .inr z1
    · rw [upd_ne z2.symm]
      exact e10 _ _ hq'
    · by_cases c : b' = b
      · rw [c]
        exact ⟨_, upd_same, by rw [List.length_append]; show _ + 1 ≤ _; omega⟩
      · obtain ⟨ys', q3, q4⟩ := hall b' hb'
        exact ⟨ys', by rw [upd_ne c]; exact e10 _ _ q3, by omega⟩
  · obtain ⟨hs, ex, hq', hall⟩ := h
    rcases hs with ⟨c, _⟩ | ⟨x, rfl⟩
    · cases c
    · exact k x H' ex
theorem q_spoil {E1 E2 E3 E4 : XK} {p pl : Addr} {X : List Addr} {row : List Str} {w : Int} {past : List (List Str × Int)} {σ : L2.St} {H : Hp} {D : Ends} {tz : TS} (hσ : σ[2]? = some (some (.ref p))) (hl : 11 < σ.length) (hP : PageAt A H p pl X row w past) (hG : Good row w) (hT : TabG H A.p_are_starts)
    (k : ∀ x H', ExT A.p_are_starts H H' → tz D (σ.set 11 (some x)) H') :
    tSeq (tFor (iList K (tLst (tCons (tMeth A.c_Page "words_now" (sp_words_now K A) [] E1 (tVar 2) tNil) (tCons (tMeth A.c_Page "table_now" (sp_table_now K A) [] E2 (tVar 2) tNil) (tCons (tMeth A.c_Page "starts_now" (sp_starts_now K A) [] E3 (tVar 2) tNil) (tCons (tMeth A.c_Page "lines_now" (sp_lines_now K A) [] E4 (tVar 2) tNil) tNil)))))) (gName 11) (tDrop (tBM K "list" rAppend (tVar 11) (tCons (tC (.int 7)) tNil)))) tz D σ H := s_spoil (D := { D with nx := tz D }) hσ hl hP hG hT k
/-! ### what was told is as it was -/
theorem dpAll_map {H : Hp} {v : Nat → V} {d : Nat → PyData} : ∀ l : List Nat, (∀ i ∈ l, Dp K H (v i) (d i)) → DpAll K H (l.map v) (l.map d)
  | [], _ => .nil
  | i :: l, h => .cons (h i (List.mem_cons_self ..)) (dpAll_map l fun j hj => h j (List.mem_cons_of_mem _ hj))
theorem cn_dp {H : Hp} {a : Addr} : ∀ {c : Cn}, H a = some (.lst c.vs) → Dp K H (.ref a) c.d
  | .strs l, h => dp_strs (sq_of h)
  | .ints l, h => dp_ints (sq_of h)
theorem cn_lay : ∀ {c : Cn}, c.Ok → PyData.canLay0 c.d = true ∧ PyData.depth c.d ≤ 1
  | .strs l, h => ⟨by rw [Cn.d, PyData.canLay0, canLay_strs h], by rw [Cn.d, PyData.depth, depth_strs]; exact Nat.le_refl _⟩
  | .ints l, _ => ⟨by rw [Cn.d, PyData.canLay0, canLay_ints], by rw [Cn.d, PyData.depth, depth_ints]; exact Nat.le_refl _⟩
theorem cn_eqv : ∀ c : Cn, PyData.eqv c.d c.d = true
  | .strs l => by rw [Cn.d, eqv_lstrs, decide_eq_true rfl]
  | .ints l => by rw [Cn.d, eqv_lints, decide_eq_true rfl]
theorem all_lay {c : Nat → Cn} : ∀ l : List Nat, (∀ i ∈ l, (c i).Ok) → PyData.canLayAll0 (l.map fun i => (c i).d) = true ∧ PyData.depthAll (l.map fun i => (c i).d) ≤ 1
  | [], _ => ⟨by simp [PyData.canLayAll0], by simp [PyData.depthAll]⟩
  | i :: l, h => by
    obtain ⟨h1, h2⟩ := cn_lay (h i (List.mem_cons_self ..))
    obtain ⟨h3, h4⟩ := all_lay l fun j hj => h j (List.mem_cons_of_mem _ hj)
    exact ⟨by rw [List.map_cons, PyData.canLayAll0, h1, h3] <;> rfl, by rw [List.map_cons, PyData.depthAll]; omega⟩
theorem all_eqv {c : Nat → Cn} : ∀ l : List Nat, PyData.eqvAll (l.map fun i => (c i).d) (l.map fun i => (c i).d) = true
  | [] => by simp [PyData.eqvAll]
  | i :: l => by rw [List.map_cons, PyData.eqvAll, cn_eqv, all_eqv l] <;> rfl
theorem rv_held {H : Hp} {a b : Addr} {n : Nat} {f g : Nat → Addr} {c : Nat → Cn} (ha : H a = some (.lst ((List.range n).map fun i => V.ref (f i)))) (hb : H b = some (.lst ((List.range n).map fun i => V.ref (g i)))) (h : ∀ i, i < n → (c i).Ok ∧ H (f i) = some (.lst (c i).vs) ∧ H (g i) = some (.lst (c i).vs)) : RV (rEqD K) (.ref a) (.ref b) H (.bl true) := by
  have e : PyData.eqv (.list ((List.range n).map fun i => (c i).d)) (.list ((List.range n).map fun i => (c i).d)) = true := by
    rw [PyData.eqv]
    exact all_eqv _
  have sh : SeqAt.shaped (.list ((List.range n).map fun i => (c i).d)) = true := by
    obtain ⟨h1, h2⟩ := all_lay (c := c) (List.range n) fun i hi => (h i (List.mem_range.mp hi)).1
    unfold SeqAt.shaped
    rw [PyData.canLay0, h1, PyData.depth, decide_eq_true (by omega)] <;> rfl
  rw [← e]
  exact rv_eqD (fun H1 e1 => .lst (ex_l e1 (sq_of ha)) (dpAll_map _ fun i hi => cn_dp (e1 _ _ (h i (List.mem_range.mp hi)).2.1))) (fun H1 e1 => .lst (ex_l e1 (sq_of hb)) (dpAll_map _ fun i hi => cn_dp (e1 _ _ (h i (List.mem_range.mp hi)).2.2))) sh sh

--SPLIT
/-! ### the law -/
theorem cut_drop (ns : List Int) (k : Nat) : cutV (ns.map V.int) (some (k : Int)) none = (ns.drop k).map V.int := by
  unfold cutV
  rw [HT.sIx_none, HT.sIx_nat, ← List.map_drop, ← List.map_take, List.length_map]
  congr 1
  rcases Nat.le_total k ns.length with h | h
  · rw [Nat.min_eq_left h, List.take_of_length_le (by rw [List.length_drop]; omega)]
  · rw [Nat.min_eq_right h, Nat.sub_self, List.take_zero, List.drop_of_length_le h]
section
variable {σ : L2.St} {H : Hp} {D : Ends} {tu tz : TS}
theorem q_ifNotC {sp : Sp} {dvs vs : List V} {E : XK} {ta : TA} (h : EvA ta σ H vs) (k : ∀ H1, Ex H H1 → sp (vs ++ dvs) H1 (fun x H2 => ∃ c, x = .bl c ∧ (if (!c) = true then tu { D with nx := tz D } σ H2 else tz D σ H2)) E) :
    tSeq (tIfS (tNot (tB (tCall sp dvs E ta))) tu tNext) tz D σ H := h H (Ex.refl H) _ k
theorem q_ifNotP {sp : Sp} {dvs : List V} {E : XK} {ta : TA} {P : List V → Hp → Prop} (h : ArgP ta σ H P) (k : ∀ vs H1, Ex H H1 → P vs H1 → sp (vs ++ dvs) H1 (fun x H2 => ∃ c, x = .bl c ∧ (if (!c) = true then tu { D with nx := tz D } σ H2 else tz D σ H2)) E) :
    tSeq (tIfS (tNot (tB (tCall sp dvs E ta))) tu tNext) tz D σ H := h H (Ex.refl H) _ k
theorem q_ifOrP {sp : Sp} {dvs : List V} {E : XK} {ta : TA} {tt : TT} {P : List V → Hp → Prop} (h : ArgP ta σ H P) (k : ∀ vs H1, Ex H H1 → P vs H1 → sp (vs ++ dvs) H1 (fun x H2 => ∃ c, x = .bl c ∧ (if (!c) = true then (if (true : Bool) = true then tu { D with nx := tz D } σ H2 else tz D σ H2) else tt σ H2 fun b H3 => if b = true then tu { D with nx := tz D } σ H3 else tz D σ H3)) E) :
    tSeq (tIfS (tOr (tNot (tB (tCall sp dvs E ta))) tt) tu tNext) tz D σ H := h H (Ex.refl H) _ k
theorem q_asgTP {ta : TA} {i : Nat} {P : List V → Hp → Prop} (h : ArgP ta σ H P) (hn : ∀ vs H, P vs H → vs.length ≤ 100000) (k : ∀ vs H1 t, Ex H H1 → P vs H1 → H1 t = none → tz D (σ.set i (some (.ref t))) (upd H1 t (.tup vs))) : tSeq (tAsg (tTup ta) (gName i)) tz D σ H :=
  h H (Ex.refl H) _ fun vs H1 e1 hP => ⟨sz_of (hn vs H1 hP), fun t ht => k vs H1 t e1 hP ht⟩
theorem q_make {C : Addr} {sp : Sp} {dvs vs : List V} {E : XK} {ta : TA} {i : Nat} (h : EvA ta σ H vs) (k : ∀ H1, Ex H H1 → ∀ x dx, H1 x = none → H1 dx = none → dx ≠ x → sp (.ref x :: (vs ++ dvs)) (upd (upd H1 dx (.own x)) x (.ins C dx [])) (fun v H2 => v = .non ∧ tz D (σ.set i (some (.ref x))) H2) E) :
    tSeq (tAsg (tMake C sp dvs E ta) (gName i)) tz D σ H := h H (Ex.refl H) _ k
theorem t_putN {C : Addr} {m : Str} {ta : TE} {t : TA} {sp : Sp} {vs : List V} {E : XK} {Q : Bool → Hp → Prop} {a dx : Addr} {fs : List (Str × V)} (ha : Ev ta σ H (.ref a)) (hp : H a = some (.ins C dx fs)) (hm : fs.lookup m = none) (h : EvA t σ H vs)
    (k : ∀ H1, Ex H H1 → sp (.ref a :: (vs ++ [])) H1 (fun x H2 => rNotN x .non H2 fun y H3 => ∃ k, y = .bl k ∧ Q k H3) E) : tTest (tOp rNotN (tMeth C m sp [] E ta t) (tC .non)) σ H Q :=
  ha H (Ex.refl H) _ fun H1 e1 => ⟨a, dx, fs, rfl, e1 _ _ hp, hm, h H1 e1 _ fun H2 e2 => k H2 (e1.trans e2)⟩
theorem s_forD {te : TE} {j n : Nat} (h : EvD te σ H n) (k : ∀ l ts H1, H l = none → Ex H H1 → H1 l = some (.lst (ts.map V.ref)) → ts.length ≤ n → Deeds H1 ts →
    ∃ Pv : Nat → L2.St → Hp → Prop, Pv 0 σ H1 ∧ (∀ i σ' H', i ≤ ts.length → Pv i σ' H' → SqL K H' l (ts.map V.ref)) ∧ (∀ i t σ' H', ts[i]? = some t → Pv i σ' H' → tu { D with nx := Pv (i + 1), ct := Pv (i + 1), bk := D.nx } (σ'.set j (some (.ref t))) H') ∧ ∀ σ' H', Pv ts.length σ' H' → D.nx σ' H') :
    tFor (iList K te) (gName j) tu D σ H := h H (Ex.refl H) _ fun l ts H1 l0 e1 hl hn hD => by
  obtain ⟨Pv, k0, k1, k2, k3⟩ := k l ts H1 l0 e1 hl hn hD
  refine ⟨l, rfl, ⟨_, sq_of hl⟩, for_list (K := K) (a := l) (xs := ts.map V.ref) Pv k0 (fun i σ' H' hi q => k1 i σ' H' (by rw [List.length_map] at hi; exact hi) q) (fun i x σ' H' hi q => ?_) (fun σ' H' q => k3 σ' H' (by rw [List.length_map] at q; exact q))⟩
  rw [List.getElem?_map] at hi
  obtain ⟨t, ht, rfl⟩ := Option.map_eq_some_iff.mp hi
  exact k2 i t σ' H' ht q
end
theorem putA : putAt [] 0 signA = [signA] := rfl
def sp_law (K : PySem.W.Frag) (A : Ad) : Sp := fun vs H Q _ => ∃ (a : Addr) (ns : List Int), vs = [.ref a] ∧ SqL K H a (ns.map V.int) ∧ ns.length ≤ 63 ∧ TabG H A.p_are_starts ∧ ∀ H', Q (.bl true) H'
theorem ok_law (T : Txt K mg A) (B : Tb mg base A) : FnOk P w K mg base CX0 11 A.f_law A.d_law ["_law_script"] (sp_law K A) := by
  refine T.F_law.ok sc_law (fun vs H Q E h => ?_) (fun cdv Ar outer s H vs Q E hr h => ?_)
  · obtain ⟨a, ns, rfl, _⟩ := h
    rfl
  · obtain ⟨a, ns, rfl, hS, hlen, hT, k⟩ := h
    refine ⟨_, (pss_cons (ps_set (i := 1) sc_law.nd rfl (.inl rfl) (pe_call (ok_l_page_width T) (hr.mono (by decide)) rfl T.g_l_page_width T.F_l_page_width.kp T.b_l_page_width .nil pass0 (pa_cons (pe_call (ok_l_cell_at T) (hr.mono (by decide)) rfl T.g_l_cell_at T.F_l_cell_at.kp T.b_l_cell_at .nil pass0 (pa_cons (pv 0) (pa_cons pe_int pa_nil))) pa_nil)))
  (pss_cons (ps_set (i := 2) sc_law.nd rfl (.inl rfl) (pe_call (ok_l_page_by T) (hr.mono (by decide)) rfl T.g_l_page_by T.F_l_page_by.kp T.b_l_page_by .nil pass0 (pa_cons (pv 1) pa_nil)))
  (pss_cons (ps_set (i := 3) sc_law.nd rfl (.inl rfl) (pe_call (ok_l_page_by T) (hr.mono (by decide)) rfl T.g_l_page_by T.F_l_page_by.kp T.b_l_page_by .nil pass0 (pa_cons (pe_un un_neg (pe_op op_mod (pe_call (ok_l_cell_at T) (hr.mono (by decide)) rfl T.g_l_cell_at T.F_l_cell_at.kp T.b_l_cell_at .nil pass0 (pa_cons (pv 0) (pa_cons pe_int pa_nil))) (pe_ix (ixL (K := K) rfl) (pe_lst (pa_cons pe_int (pa_cons (pe_op op_pow pe_int pe_int) pa_nil))) (pe_op op_mod (pe_call (ok_l_cell_at T) (hr.mono (by decide)) rfl T.g_l_cell_at T.F_l_cell_at.kp T.b_l_cell_at .nil pass0 (pa_cons (pv 0) (pa_cons pe_int pa_nil))) pe_int) (fun _ _ => rfl)))) pa_nil)))
  (pss_cons (ps_if (PW.pt (pw_or (pt_not (pt_val (pe_callB call_isi (by rfl) T.m_isinstance (by decide +kernel) (pa_cons (pv 2) (pa_cons (pe_glob (v := .ref A.c_Page) rfl T.gc_Page rfl) pa_nil))))) (pw_or (pt_cmpR op_ne (pv 3) pe_int (nomark _)) (pw_or1 (pt_cmpR op_ne (pe_glob (v := .int 120) rfl (Classical.choose_spec T.g_MOST_WORDS) ⟨_, rfl⟩) pe_int (nomark _))))))
  (pss_one (ps_ret pe_bl))
  pss_nil)
  (pss_cons (ps_set (i := 4) sc_law.nd rfl (.inl rfl) (pe_tup (pa_cons (pe_lst pa_nil) (pa_cons (pv 1) (pa_cons (pe_lst pa_nil) pa_nil)))))
  (pss_cons (ps_set (i := 5) sc_law.nd rfl (.inl rfl) pe_bl)
  (pss_cons (ps_set (i := 6) sc_law.nd rfl (.inl rfl) (pe_lst pa_nil))
  (pss_cons (ps_for PassesOwn.never rfl (pi_list (pe_slice (TwT.slL (K := K) rfl) (pv 0) (po_some pe_int) po_none)) (pg_name (i := 7) sc_law.nd rfl (.inl rfl))
  (pss_cons (ps_set (i := 8) sc_law.nd rfl (.inl rfl) (pe_call (ok_l_deeds_by T) (hr.mono (by decide)) rfl T.g_l_deeds_by T.F_l_deeds_by.kp T.b_l_deeds_by .nil pass0 (pa_cons (pv 7) (pa_cons (pe_callB call_len_seq (by rfl) T.m_len PySem.boot_len (pa_cons (pe_ix (TwE.ixTE (K := K) rfl) (pv 4) pe_int (fun _ _ => rfl)) pa_nil)) (pa_cons (pe_ix (TwE.ixTE (K := K) rfl) (pv 4) pe_int (fun _ _ => rfl)) (pa_cons (pv 5) pa_nil))))))
  (pss_cons (ps_set (i := 5) sc_law.nd rfl (.inl rfl) (pe_or (pv 5) (pe_one (pe_cmpR op_gt (pe_callB call_len_seq (by rfl) T.m_len PySem.boot_len (pa_cons (pv 8) pa_nil)) pe_int (nomark _)))))
  (pss_cons (ps_for PassesOwn.never rfl (pi_list (pv 8)) (pg_name (i := 9) sc_law.nd rfl (.inl rfl))
  (pss_one (ps_for PassesOwn.never rfl (pi_list (pe_op op_cat (pe_lst (pa_cons (pv 9) pa_nil)) (pe_call (ok_l_made_good T) (hr.mono (by decide)) rfl T.g_l_made_good T.F_l_made_good.kp T.b_l_made_good .nil pass0 (pa_cons (pe_call (ok_l_due T) (hr.mono (by decide)) rfl T.g_l_due T.F_l_due.kp T.b_l_due .nil pass0 (pa_cons (pe_ix (TwE.ixTE (K := K) rfl) (pv 4) pe_int (fun _ _ => rfl)) (pa_cons (pe_ix (TwE.ixTE (K := K) rfl) (pv 4) pe_int (fun _ _ => rfl)) (pa_cons (pe_ix (TwE.ixTE (K := K) rfl) (pv 4) pe_int (fun _ _ => rfl)) (pa_cons (pv 9) pa_nil))))) (pa_cons (pv 9) pa_nil))))) (pg_name (i := 10) sc_law.nd rfl (.inl rfl))
  (pss_cons (ps_set (i := 4) sc_law.nd rfl (.inl rfl) (pe_call (ok_l_step T) (hr.mono (by decide)) rfl T.g_l_step T.F_l_step.kp T.b_l_step .nil pass0 (pa_cons (pv 2) (pa_cons (pv 4) (pa_cons (pv 10) pa_nil)))))
  (pss_one (ps_if (pt_cmpR op_isN1 (pv 4) pe_non (nomark _))
  (pss_one (ps_ret pe_bl))
  pss_nil))))))
  (pss_cons (ps_if (pt_not (pt_val (pe_call (ok_l_stands T B) (hr.mono (by decide)) rfl T.g_l_stands T.F_l_stands.kp T.b_l_stands .nil pass0 (pa_cons (pv 2) (pa_cons (pe_ix (TwE.ixTE (K := K) rfl) (pv 4) pe_int (fun _ _ => rfl)) (pa_cons (pe_ix (TwE.ixTE (K := K) rfl) (pv 4) pe_int (fun _ _ => rfl)) (pa_cons (pe_cmpR op_eq (pe_op op_mod (pe_callB call_len_seq (by rfl) T.m_len PySem.boot_len (pa_cons (pe_ix (TwE.ixTE (K := K) rfl) (pv 4) pe_int (fun _ _ => rfl)) pa_nil)) pe_int) pe_int (nomark _)) (pa_cons (pv 6) (pa_cons (pv 7) pa_nil)))))))))
  (pss_one (ps_ret pe_bl))
  pss_nil)
  (pss_one (ps_if (PW.pt (pw_and (pt_cmpR op_eq (pe_op op_mod (pe_op op_fdiv (pv 7) pe_int) pe_int) pe_int (nomark _)) (pw_and1 (pt_cmpR op_lt (pe_callB call_len_seq (by rfl) T.m_len PySem.boot_len (pa_cons (pe_ix (TwE.ixTE (K := K) rfl) (pv 4) pe_int (fun _ _ => rfl)) pa_nil)) pe_int (nomark _)))))
  (pss_one (ps_for PassesOwn.never rfl (pi_list (pe_lst (pa_cons (pe_meth0 (pv 2) T.cl_Page T.me_p_words_now (ok_p_words_now T) (hr.mono (by decide)) T.b_p_words_now .nil pass0) (pa_cons (pe_meth0 (pv 2) T.cl_Page T.me_p_table_now (ok_p_table_now T) (hr.mono (by decide)) T.b_p_table_now .nil passN) (pa_cons (pe_meth0 (pv 2) T.cl_Page T.me_p_starts_now (ok_p_starts_now T) (hr.mono (by decide)) T.b_p_starts_now .nil passN) (pa_cons (pe_meth0 (pv 2) T.cl_Page T.me_p_lines_now (ok_p_lines_now T B) (hr.mono (by decide)) T.b_p_lines_now .nil passN) pa_nil)))))) (pg_name (i := 11) sc_law.nd rfl (.inl rfl))
  (pss_one (ps_expr (pe_bm PySem.F.plainAttrs_list PySem.F.slot_list_append PySem.F.type_list_append mt_append (pv 11) (pa_cons pe_int pa_nil))))))
  pss_nil)))))))
  (pss_cons (ps_for PassesOwn.never rfl (pi_list (pe_lst (pa_cons (pe_meth0 (pv 2) T.cl_Page T.me_p_words_now (ok_p_words_now T) (hr.mono (by decide)) T.b_p_words_now .nil pass0) (pa_cons (pe_meth0 (pv 2) T.cl_Page T.me_p_table_now (ok_p_table_now T) (hr.mono (by decide)) T.b_p_table_now .nil passN) (pa_cons (pe_meth0 (pv 2) T.cl_Page T.me_p_starts_now (ok_p_starts_now T) (hr.mono (by decide)) T.b_p_starts_now .nil passN) (pa_cons (pe_meth0 (pv 2) T.cl_Page T.me_p_lines_now (ok_p_lines_now T B) (hr.mono (by decide)) T.b_p_lines_now .nil passN) pa_nil)))))) (pg_name (i := 11) sc_law.nd rfl (.inl rfl))
  (pss_one (ps_expr (pe_bm PySem.F.plainAttrs_list PySem.F.slot_list_append PySem.F.type_list_append mt_append (pv 11) (pa_cons pe_int pa_nil)))))
  (pss_cons (ps_set (i := 12) sc_law.nd rfl (.inl rfl) (pe_make T.mk_Page (ok_p_init T) (hr.mono (by decide)) rfl T.gc_Page T.b_p_init .nil passN (pa_cons (pe_op op_add pe_int (pe_op op_mod (pe_call (ok_l_cell_at T) (hr.mono (by decide)) rfl T.g_l_cell_at T.F_l_cell_at.kp T.b_l_cell_at .nil pass0 (pa_cons (pv 0) (pa_cons pe_int pa_nil))) pe_int)) pa_nil)))
  (pss_cons (ps_if (PW.pt (pw_or (pt_not (pt_val (pe_call (ok_l_stands T B) (hr.mono (by decide)) rfl T.g_l_stands T.F_l_stands.kp T.b_l_stands .nil pass0 (pa_cons (pv 12) (pa_cons (pe_lst pa_nil) (pa_cons (pe_op op_add pe_int (pe_op op_mod (pe_call (ok_l_cell_at T) (hr.mono (by decide)) rfl T.g_l_cell_at T.F_l_cell_at.kp T.b_l_cell_at .nil pass0 (pa_cons (pv 0) (pa_cons pe_int pa_nil))) pe_int)) (pa_cons pe_bl (pa_cons (pv 6) (pa_cons (pv 1) pa_nil))))))))) (pw_or1 (pt_cmpR op_notN1 (pe_meth (pv 12) T.cl_Page T.me_p_put (ok_p_put T) (hr.mono (by decide)) T.b_p_put .nil passN (pa_cons pe_int (pa_cons pe_str pa_nil))) pe_non (nomark _)))))
  (pss_one (ps_ret pe_bl))
  pss_nil)
  (pss_cons (ps_if (pt_not (pt_val (pe_call (ok_l_stands T B) (hr.mono (by decide)) rfl T.g_l_stands T.F_l_stands.kp T.b_l_stands .nil pass0 (pa_cons (pv 12) (pa_cons (pe_lst (pa_cons pe_str pa_nil)) (pa_cons (pe_op op_add pe_int (pe_op op_mod (pe_call (ok_l_cell_at T) (hr.mono (by decide)) rfl T.g_l_cell_at T.F_l_cell_at.kp T.b_l_cell_at .nil pass0 (pa_cons (pv 0) (pa_cons pe_int pa_nil))) pe_int)) (pa_cons pe_bl (pa_cons (pv 6) (pa_cons (pv 1) pa_nil)))))))))
  (pss_one (ps_ret pe_bl))
  pss_nil)
  (pss_cons (ps_if (pt_not (pt_val (pe_call (ok_l_stands T B) (hr.mono (by decide)) rfl T.g_l_stands T.F_l_stands.kp T.b_l_stands .nil pass0 (pa_cons (pv 2) (pa_cons (pe_ix (TwE.ixTE (K := K) rfl) (pv 4) pe_int (fun _ _ => rfl)) (pa_cons (pe_ix (TwE.ixTE (K := K) rfl) (pv 4) pe_int (fun _ _ => rfl)) (pa_cons pe_bl (pa_cons (pv 6) (pa_cons (pe_call (ok_l_cell_at T) (hr.mono (by decide)) rfl T.g_l_cell_at T.F_l_cell_at.kp T.b_l_cell_at .nil pass0 (pa_cons (pv 0) (pa_cons pe_int pa_nil))) pa_nil)))))))))
  (pss_one (ps_ret pe_bl))
  pss_nil)
  (pss_one (ps_ret (pe_cmpR (op_eqD hr.units) (pe_lc (own := [("_law_pair", 13)]) (tt := tYes) rfl sc_law.nd (pi_list (pv 6)) (blkOk_by (N := N_law) (sc := defScope s_law) (by decide +kernel)) (fun _ _ _ _ _ => (pg_name (i := 13) sc_law.nd rfl (.inl rfl))) (fun _ _ _ _ _ => pts_nil) (fun _ _ _ _ _ => (pe_ix (TwE.ixTE (K := K) rfl) (pv 13) pe_int (fun _ _ => rfl)))) (pe_lc (own := [("_law_pair", 13)]) (tt := tYes) rfl sc_law.nd (pi_list (pv 6)) (blkOk_by (N := N_law) (sc := defScope s_law) (by decide +kernel)) (fun _ _ _ _ _ => (pg_name (i := 13) sc_law.nd rfl (.inl rfl))) (fun _ _ _ _ _ => pts_nil) (fun _ _ _ _ _ => (pe_ix (TwE.ixTE (K := K) rfl) (pv 13) pe_int (fun _ _ => rfl)))) (nomark _))))))))))))))))), ?_⟩
    have cj : ∀ (j : Nat) {σ : L2.St} {H' : Hp}, ExT A.p_are_starts H H' → σ[0]? = some (some (.ref a)) → Ev (tCall (sp_cell_at K) [] E0 (tCons (tVar 0) (tCons (tC (.int (j : Int))) tNil))) σ H' (.int (ns.getD j 0)) := fun j σ H' e h => ev_call (ea_cons (ev_var h) (ea_cons ev_c ea_nil)) fun H3 e3 Q' q E' => ⟨a, ns, j, rfl, ex_l e3 (sql_tab hT e hS), q⟩
    obtain ⟨c1, hc1⟩ : ∃ c1, ns.getD 1 0 = c1 := ⟨_, rfl⟩
    have cj1 : ∀ {σ : L2.St} {H' : Hp}, ExT A.p_are_starts H H' → σ[0]? = some (some (.ref a)) → Ev (tCall (sp_cell_at K) [] E0 (tCons (tVar 0) (tCons (tC (.int 1)) tNil))) σ H' (.int c1) := fun e h => by
      rw [← hc1]
      exact cj 1 e h
    obtain ⟨ms, hms⟩ : ∃ ms, ns.drop 2 = ms := ⟨_, rfl⟩
    have hml : ms.length ≤ 61 := by
      rw [← hms, List.length_drop]
      omega
    refine q_asgA (ea_cons (cj 0 (ExT.refl hT) rfl) ea_nil) fun H1 e1 => ⟨_, rfl, fun w0 w01 w02 H2 e2 => ?_⟩
    show tSeq _ _ _ _ H2
    refine q_asgA (ea_cons (ev_var rfl) ea_nil) fun H3 e3 => ⟨[], w0, rfl, fun x hx => absurd hx (List.not_mem_nil), fun c => absurd c (by omega), fun _ p pl H4 e4 p0 pl0 hP4 => ?_⟩
    have e03 := (e1.trans e2).trans e3
    have e04 := e03.trans e4
    have pH := fresh_back e03 p0
    have plH := fresh_back e03 pl0
    obtain ⟨m, hm, hm0⟩ : ∃ m : Int, atI [V.int 3, V.int 1000000000000000000000000000000] (c1 % 2) = some (.int m) ∧ 0 < m := by
      have h2 : c1 % 2 = 0 ∨ c1 % 2 = 1 := by omega
      rcases h2 with q | q <;> rw [q]
      · exact ⟨3, rfl, by decide⟩
      · exact ⟨1000000000000000000000000000000, rfl, by decide⟩
    have hneg : -(c1 % m) < 1 := by
      have := Int.emod_nonneg c1 (show m ≠ 0 by omega)
      omega
    show tSeq _ _ _ _ H4
    refine q_asgA (ea_cons (ev_un (ev_op (y := .int m) (cj1 (ExT.of_ex hT e04) rfl) (ev_opL1 (y := .int (c1 % 2)) (xs := [V.int 3, V.int 1000000000000000000000000000000]) (el_lst (ea_cons ev_c (ea_cons ev_t30 ea_nil)) (show 2 ≤ 100000 by decide)) (fun H5 e5 => ev_op (cj1 (ExT.of_ex hT (e04.trans e5)) rfl) ev_c (rv_I (by decide))) fun q H5 hq e5 => rv_ixL (sq_of hq) hm) (rv_I (by omega))) ru_neg) ea_nil) fun H5 e5 => ⟨[], -(c1 % m), rfl, fun x hx => absurd hx (List.not_mem_nil), fun _ H6 e6 => ?_, fun c => absurd c (by omega)⟩
    have e46 := e5.trans e6
    obtain ⟨dx, wl, ts0, hp4, _⟩ := id hP4
    show tSeq _ _ _ _ H6
    refine q_when (b := false) (et_is (a := !true || (!decide (V.int 1 = V.int 1) || !decide (V.int 120 = V.int 120))) (et_or (et_not (et_B (ev_cb (ea_cons (ev_var rfl) (ea_cons ev_c ea_nil)) (rc_isi (.own _) (fun H7 e7 => .base (.ins (e7 _ _ (e46 _ _ hp4)) T.cl_Page T.i6O_Page T.i7O_Page T.i8O_Page T.i9O_Page)) (kit_ref T.cl_Page.hd T.tyO_Page T.sbO_Page fun _ => rfl))))) fun _ => et_or (et_test (ev_op (ev_var rfl) ev_c (rv_ne rfl))) fun _ => et_test (ev_op ev_c ev_c (rv_ne rfl))) (by simp)) (fun hb => nomatch hb) (fun _ H7 e7 => ?_)
    have e47 := e46.trans e7
    have hP7 := hP4.grow e47
    refine q_asgTP (ap_consF (xs := []) (el_lst ea_nil (Nat.zero_le _)) (ap_cons (v := .int w0) (ev_var rfl) (ap_consF (xs := []) (el_lst ea_nil (Nat.zero_le _)) ap_nil))) (fun vs H ⟨p, _, a, _, _, _, b, q, _, c, _, _, d⟩ => by rw [a, b, c, d]; exact (show 3 ≤ 100000 by decide)) ?_
    rintro vs H8 tn e8 ⟨r, r1, rfl, r0, hr8, r2, rfl, l, r3, rfl, l0, hl8, rfl⟩ tn0
    have e89 : Ex H8 (upd H8 tn (.tup [.ref r, .int w0, .ref l])) := Ex.new tn0
    have hN9 : NowAt (upd H8 tn (.tup [.ref r, .int w0, .ref l])) [pl] tn [] w0 [] := ⟨r, l, upd_same, ls_fresh hP7.ls r0, ls_fresh hP7.ls l0, e89 _ _ hr8, [], e89 _ _ hl8, rfl, fun i t e h => by simp at h⟩
    revert e89 hN9
    generalize upd H8 tn (.tup [.ref r, .int w0, .ref l]) = H9
    intro e89 hN9
    have e79 := e8.trans e89
    refine q_asg (v := .bl false) ev_c fun H10 e10 => ?_
    refine q_asgL (xs := []) (el_lst ea_nil (Nat.zero_le _)) fun hd H11 hd0 e11 hhd => ?_
    have e0_10 := ((e04.trans e47).trans e79).trans e10
    have e0_11 := e0_10.trans e11
    have hdH := fresh_back e0_10 hd0
    have hP11 : PageAt A H11 p pl [hd, pl] [] w0 [] := ((hP7.grow e79).grow e10).more e11 hd0 hhd
    have hN11 : NowAt H11 [hd, pl] tn [] w0 [] := ((hN9.grow e10).moreX hd0).grow e11
    have hH11 : Held H11 [hd, pl] hd 0 := ⟨[], Nat.le_refl _, hhd, fun t ht => absurd ht (List.not_mem_nil)⟩
    have hin : hd ∈ [hd, pl] := List.mem_cons_self ..
    have hdpl : hd ≠ pl := fun c => by
      obtain ⟨xs, q⟩ := ((hP7.grow e79).grow e10).ls pl (List.mem_singleton.mpr rfl)
      rw [← c, hd0] at q
      cases q
    have hdp : hd ≠ p := fun c => by
      rw [c, e10 _ _ (e79 _ _ (e47 _ _ hp4))] at hd0
      cases hd0
    have pp : ∀ x ∈ [p, pl], x = A.p_are_starts ∨ H x = none := fun x hx => by
      rcases List.mem_cons.mp hx with c | c
      · rw [c]
        exact .inr pH
      · rw [List.mem_singleton.mp c]
        exact .inr plH
    have hdm : hd ∉ [p, pl] := fun c => by
      rcases List.mem_cons.mp c with c | c
      · exact hdp c
      · exact hdpl (List.mem_singleton.mp c)
    have Pm : A.p_are_starts ∉ [p, pl] := fun c => by
      obtain ⟨ps, q, _⟩ := hT
      rcases List.mem_cons.mp c with c | c
      · rw [c, pH] at q
        cases q
      · rw [List.mem_singleton.mp c, plH] at q
        cases q
    have hdP : hd ≠ A.p_are_starts := fun c => by
      obtain ⟨ps, q, _⟩ := hT
      rw [← c, hdH] at q
      cases q
    have ixn : ∀ (i : Nat) (v : V) {r l tn : Addr} {wd : Int} {σ : L2.St} {H' : Hp}, [V.ref r, .int wd, .ref l][i]? = some v → H' tn = some (.tup [.ref r, .int wd, .ref l]) → σ[4]? = some (some (.ref tn)) → Ev (tOp (rIxT K) (tVar 4) (tC (.int (i : Int)))) σ H' v := fun i v r l tn wd σ H' hi e g => ev_op (ev_var g) ev_c (rv_ixT (st_of e) (atI_nat hi))
    refine q_forNLn (xs := ms.map V.int) (el_is (el_sl (ev_var rfl) (eo_some (i := ((2 : Nat) : Int)) ev_c) eo_none (sql_tab hT (ExT.of_ex hT e0_11) hS)) (by rw [cut_drop, hms]))
      (fun sl i σ' H' => ∃ (tn : Addr) (row : List Str) (wd : Int) (past : List (List Str × Int)) (f : Bool) (x7 x8 x9 x10 x11 : Option V), σ' = [some (.ref a), some (.int w0), some (.ref p), some (.int 1), some (.ref tn), some (.bl f), some (.ref hd), x7, x8, x9, x10, x11, none, none] ∧ ExT A.p_are_starts H H' ∧ sl ∉ [hd, pl] ∧ H' sl = some (.lst (ms.map V.int)) ∧ PageAt A H' p pl [hd, pl] row wd past ∧ NowAt H' [hd, pl] tn row wd past ∧ Held H' [hd, pl] hd (4 * i) ∧ Pu row wd past ∧ past.length ≤ 400 * i)
      (fun sl H12 sl0 e12 hsl => ⟨tn, [], w0, [], false, none, none, none, none, none, rfl, ExT.of_ex hT (e0_11.trans e12), ls_fresh hP11.ls sl0, hsl, hP11.grow e12, hN11.grow e12, hH11.grow e12, ⟨⟨w01, far_wid ⟨by omega, by omega⟩, Nat.zero_le _, fun z hz => absurd hz (List.not_mem_nil), fun z hz => absurd hz (List.not_mem_nil)⟩, fun z hz => absurd hz (List.not_mem_nil), fun e he => absurd he (List.not_mem_nil)⟩, Nat.zero_le _⟩)
      (fun sl i σ' H' _ ⟨_, _, _, _, _, _, _, _, _, _, _, _, _, h, _⟩ => sq_of h) ?_ ?_
    · rintro sl i x σ' H1 hi ⟨tn, row, wd, past, f, x7, x8, x9, x10, x11, rfl, eT, slX, hsl, hP, hN, hH, hU, hpast⟩
      rw [List.getElem?_map] at hi
      obtain ⟨c, hc, rfl⟩ := Option.map_eq_some_iff.mp hi
      have hil : i < ms.length := (List.getElem?_eq_some_iff.mp hc).1
      obtain ⟨r, l, n1, n2, n3, n4, lts, n5, n6⟩ := id hN
      have nl : (row.map V.str).length = row.length := List.length_map ..
      have hrl := hU.good.2.2.1
      refine q_asgA (ea_cons (ev_var rfl) (ea_cons (ev_is (ev_cb (ea_cons (ixn 0 _ rfl n1 rfl) ea_nil) (rc_lenL (sq_of n4))) (by rw [nl])) (ea_cons (ixn 1 _ rfl n1 rfl) (ea_cons (ev_var rfl) ea_nil)))) fun H2 e2 => ⟨c, row.length, wd, f, rfl, by omega, fun dl ts H3 dl0 e3 hdl hdn hDs => ?_⟩
      have e13 := e2.trans e3
      have nd : (ts.map V.ref).length = ts.length := List.length_map ..
      show tSeq _ _ _ _ H3
      refine q_asg (v := .bl (f || decide ((1 : Int) < (ts.length : Int)))) (ev_orV (ev_var rfl) fun _ => ev_op (ev_is (ev_cb (ea_cons (ev_var rfl) ea_nil) (rc_lenL (sq_of hdl))) (by rw [nd])) ev_c rv_I0) fun H4 e4 => ?_
      generalize (f || decide ((1 : Int) < (ts.length : Int))) = f'
      have e14 := e13.trans e4
      have hP4' := hP.grow e14
      have dlX : dl ∉ [hd, pl] := ls_fresh (hP.grow e2).ls dl0
      have hdl4 := e4 _ _ hdl
      have gd4 : Gd [p, pl] [hd, pl] H4 := hP4'.gd
      refine q_forLn (ev_var rfl) (sq_of hdl4) (fun j σ' H' => ∃ (tn : Addr) (row : List Str) (wd : Int) (past : List (List Str × Int)) (x9 x10 : Option V), σ' = [some (.ref a), some (.int w0), some (.ref p), some (.int 1), some (.ref tn), some (.bl f'), some (.ref hd), some (.int c), some (.ref dl), x9, x10, x11, none, none] ∧ ExN [p, pl] H4 H' ∧ PageAt A H' p pl [hd, pl] row wd past ∧ NowAt H' [hd, pl] tn row wd past ∧ Pu row wd past ∧ past.length ≤ 400 * i + 3 * j)
        (fun H5 e5 => ⟨tn, row, wd, past, x9, x10, rfl, ExN.of e5, hP4'.grow e5, (hN.grow e14).grow e5, hU, by omega⟩) (fun j σ' H' _ ⟨_, _, _, _, _, _, _, e, _⟩ => sq_of (gd4.lst e dlX hdl4)) ?_ ?_
      · clear hN hU hpast n1 n2 n3 n4 n5 n6 hP nl hrl
        rintro j x σ' H5 hj ⟨tn, row, wd, past, x9, x10, rfl, e45, hP5, hN5, hU5, hpl5⟩
        rw [List.getElem?_map] at hj
        obtain ⟨t, ht, rfl⟩ := Option.map_eq_some_iff.mp hj
        have hjl : j < ts.length := (List.getElem?_eq_some_iff.mp ht).1
        obtain ⟨d, hdt, hdok⟩ := hDs t (List.mem_of_getElem? ht)
        have t5 := gd4.tup e45 (e4 _ _ hdt)
        obtain ⟨r, l, n1, n2, n3, n4, n5⟩ := id hN5
        refine s_forD (n := 1 + 2) (ed_cat (n := 1) (m := 2) (ed_lst (ad_old (d := d) (ev_var rfl) t5 hdok ad_nil) (by decide)) (ed_call (ea_cons (ev_call (ea_cons (ixn 0 _ rfl n1 rfl) (ea_cons (ixn 1 _ rfl n1 rfl) (ea_cons (ixn 2 _ rfl n1 rfl) (ea_cons (ev_var rfl) ea_nil)))) fun H6 e6 Q' q E' => ⟨r, l, t, [hd, pl], row, wd, past, d, rfl, e6 _ _ n4, n5.grow e6, hU5.pw, e6 _ _ t5, hdok, hU5.good.2.2.2.1, q⟩) (ea_cons (ev_var rfl) ea_nil)) fun H6 e6 Q' q => ⟨_, t, d, rfl, e6 _ _ t5, hdok, q⟩) (by decide)) fun ol us H6 ol0 e6 hol hon hDs6 => ?_
        have olX : ol ∉ [hd, pl] := ls_fresh hP5.ls ol0
        have gd6 : Gd [p, pl] [hd, pl] H6 := (hP5.grow e6).gd
        refine ⟨fun i2 σ' H' => ∃ (tn : Addr) (row : List Str) (wd : Int) (past : List (List Str × Int)) (x10 : Option V), σ' = [some (.ref a), some (.int w0), some (.ref p), some (.int 1), some (.ref tn), some (.bl f'), some (.ref hd), some (.int c), some (.ref dl), some (.ref t), x10, x11, none, none] ∧ ExN [p, pl] H6 H' ∧ PageAt A H' p pl [hd, pl] row wd past ∧ NowAt H' [hd, pl] tn row wd past ∧ Pu row wd past ∧ past.length ≤ 400 * i + 3 * j + i2,
          ⟨tn, row, wd, past, x10, rfl, ExN.refl _ _, hP5.grow e6, hN5.grow e6, hU5, by omega⟩, fun i2 σ' H' _ ⟨_, _, _, _, _, _, e, _⟩ => sq_of (gd6.lst e olX hol), ?_, ?_⟩
        · clear hN5 hU5 hpl5 n1 n2 n3 n4 n5
          rintro i2 u σ' H7 hu ⟨tn, row, wd, past, x10, rfl, e67, hP7, hN7, hU7, hpl7⟩
          have hul : i2 < us.length := (List.getElem?_eq_some_iff.mp hu).1
          obtain ⟨d2, hdu, hd2⟩ := hDs6 u (List.mem_of_getElem? hu)
          have u7 := gd6.tup e67 hdu
          refine q_asgA (ea_cons (ev_var rfl) (ea_cons (ev_var rfl) (ea_cons (ev_var rfl) ea_nil))) fun H8 e8 => ⟨p, pl, tn, u, [hd, pl], row, wd, past, d2, rfl, hP7.grow e8, hN7.grow e8, e8 _ _ u7, hd2, hU7.good, by omega, hU7.pw, fun hdue H9 e9 => ?_, fun hdue t' H9 x9 hP9 hN9 => ?_⟩
          · have e79 := e8.trans e9
            exact s_when (b := false) (et_is (et_test (ev_op (ev_var rfl) ev_c rv_isN)) (decide_eq_false (fun q => nomatch q))) (fun hb => nomatch hb) (fun _ H10 e10 => ⟨tn, row, wd, past, _, rfl, e67.trans (ExN.of (e79.trans e10)), hP7.grow (e79.trans e10), hN7.grow (e79.trans e10), hU7, by omega⟩)
          · obtain ⟨hU9, hl9⟩ := hU7.step hdue hd2
            exact s_when (b := false) (et_is (et_test (ev_op (ev_var rfl) ev_c rv_isN)) (decide_eq_false (fun q => nomatch q))) (fun hb => nomatch hb) (fun _ H10 e10 => ⟨t', _, _, _, _, rfl, (e67.trans (ExN.of e8)).trans ((ExN.of_s x9).trans (ExN.of e10)), hP9.grow e10, hN9.grow e10, hU9, by omega⟩)
        · rintro σ' H7 ⟨tn, row, wd, past, x10, rfl, e67, hP7, hN7, hU7, hpl7⟩
          exact ⟨tn, row, wd, past, _, x10, rfl, (e45.trans (ExN.of e6)).trans e67, hP7, hN7, hU7, by omega⟩
      · rw [nd]
        clear hN hU hpast n1 n2 n3 n4 n5 n6 nl hrl
        rintro σ' H5 ⟨tn, row, wd, past, x9, x10, rfl, e45, hP5, hN5, hU5, hpl5⟩
        have eT4 := eT.trans (ExT.of_ex eT.1 e14)
        have hT5 := tab_keep eT4.1 e45 Pm
        have eT5 := extT_of eT4 e45 pp hT5
        have hH5 := (hH.grow e14).keep gd4 e45 hdm
        have hsl5 := gd4.lst e45 slX (e14 _ _ hsl)
        obtain ⟨r, l, n1, n2, n3, n4, lts, n5, n6⟩ := id hN5
        have nl : (row.map V.str).length = row.length := List.length_map ..
        refine q_ifNotC (ea_cons (ev_var rfl) (ea_cons (ixn 0 _ rfl n1 rfl) (ea_cons (ixn 1 _ rfl n1 rfl) (ea_cons (ev_op (ev_op (ev_cb (ea_cons (ixn 2 _ rfl n1 rfl) ea_nil) (rc_lenL (sq_of n5))) ev_c (rv_I (by decide))) ev_c (rv_eq rfl)) (ea_cons (ev_var rfl) (ea_cons (ev_var rfl) ea_nil)))))) fun H6 e6 => ⟨p, pl, r, hd, [hd, pl], row, wd, past, _, c, 4 * i, rfl, hP5.grow e6, n2, e6 _ _ n4, hin, hH5.grow e6, by omega, hU5.good, hU5.rw', TabG.ex hT5 e6, fun H7 e7 hT7 hX7 hH7 => ⟨true, rfl, ?_⟩⟩
        rw [if_neg (show ¬ ((!true) = true) by decide)]
        have hT6 := TabG.ex hT5 e6
        have hP7 := (hP5.grow e6).keepQ hT6 hin hdpl e7 (hX7 hd hin)
        have gd6 : Gd [A.p_are_starts, hd] [hd, pl] H6 := (Gd.one_t hT6).app (Gd.one_l hin (hP5.grow e6).ls)
        have hN7 := (hN5.grow e6).keep gd6 e7
        have hsl7 := gd6.lst e7 slX (e6 _ _ hsl5)
        have eT7 : ExT A.p_are_starts H H7 := extT_of (eT5.trans (ExT.of_ex hT5 e6)) e7 (fun x hx => by
          rcases List.mem_cons.mp hx with q | q
          · exact .inl q
          · rw [List.mem_singleton.mp q]
            exact .inr hdH) hT7
        have n17 := gd6.tup e7 (e6 _ _ n1)
        have n47 := gd6.lst e7 n2 (e6 _ _ n4)
        refine s_when (b := decide (V.int (c / 5 % 8) = V.int 1) && decide ((row.length : Int) < 21)) (et_and (et_test (ev_op (ev_op (ev_op (ev_var rfl) ev_c (rv_I ⟨by decide, by decide⟩)) ev_c (rv_I (by decide))) ev_c (rv_eq rfl))) fun _ => et_test (ev_op (ev_is (ev_cb (ea_cons (ixn 0 _ rfl n17 rfl) ea_nil) (rc_lenL (sq_of n47))) (by rw [nl])) ev_c rv_I0)) (fun hb H8 e8 => ?_) (fun hb H8 e8 => ?_)
        · have hT8 := TabG.ex hT7 e8
          refine s_spoil rfl (show 11 < 14 by decide) (hP7.grow e8) hU5.good hT8 fun x H9 e9 => ?_
          have gd8 : Gd [A.p_are_starts] [hd, pl] H8 := Gd.one_t hT8
          have eN9 := ExN.of_t e9
          exact ⟨tn, row, wd, past, f', _, _, _, _, _, rfl, (eT7.trans (ExT.of_ex hT7 e8)).trans e9, slX, gd8.lst eN9 slX (e8 _ _ hsl7), (hP7.grow e8).keepT hT8 e9, (hN7.grow e8).keep gd8 eN9, ((hH7.grow e8).keep gd8 eN9 fun q => hdP (List.mem_singleton.mp q)).more (by omega), hU5, by omega⟩
        · exact ⟨tn, row, wd, past, f', _, _, _, _, _, rfl, eT7.trans (ExT.of_ex hT7 e8), slX, e8 _ _ hsl7, hP7.grow e8, hN7.grow e8, (hH7.grow e8).more (by omega), hU5, by omega⟩
    · rintro sl σ' H1 ⟨tn, row, wd, past, f, x7, x8, x9, x10, x11, rfl, eT, slX, hsl, hP, hN, hH, hU, hpast⟩
      have nm : (ms.map V.int).length = ms.length := List.length_map ..
      rw [nm] at hH hpast
      have hT1 := eT.1
      refine q_spoil rfl (show 11 < 14 by decide) hP hU.good hT1 fun x H2 e2 => ?_
      have gd1 : Gd [A.p_are_starts] [hd, pl] H1 := Gd.one_t hT1
      have eN2 := ExN.of_t e2
      have hP2 := hP.keepT hT1 e2
      have hN2 := hN.keep gd1 eN2
      have hH2 := hH.keep gd1 eN2 fun q => hdP (List.mem_singleton.mp q)
      have eT2 := eT.trans e2
      have hT2 := e2.1
      obtain ⟨w', hw', w1', w2'⟩ : ∃ w' : Int, 1 + c1 % 9 = w' ∧ 1 ≤ w' ∧ w' ≤ 9 := ⟨_, rfl, by omega, by omega⟩
      have evw : ∀ {σ : L2.St} {H' : Hp}, ExT A.p_are_starts H H' → σ[0]? = some (some (.ref a)) → Ev (tOp (rI0 fun i j => .int (i + j)) (tC (.int 1)) (tOp (rI (fun _ j => 0 < j) fun i j => .int (i % j)) (tCall (sp_cell_at K) [] E0 (tCons (tVar 0) (tCons (tC (.int 1)) tNil))) (tC (.int 9)))) σ H' (.int w') := fun e g => ev_is (ev_op ev_c (ev_op (cj1 e g) ev_c (rv_I (by decide))) rv_I0) (congrArg V.int hw')
      refine q_make (ea_cons (evw eT2 rfl) ea_nil) fun H3 e3 p2 dx2 p20 dx20 ndx => ?_
      have e34 : Ex H3 (upd (upd H3 dx2 (.own p2)) p2 (.ins A.c_Page dx2 [])) := fun b o e => by
        rw [upd_ne (ne_of_none e p20), upd_ne (ne_of_none e dx20)]
        exact e
      refine ⟨p2, dx2, [hd, pl], w', rfl, upd_same, (hP2.ls.grow e3).grow e34, fun c => absurd c (by omega), fun _ H5 pl2 hx pl20 hQ => ⟨rfl, ?_⟩⟩
      have e35 : Ex H3 H5 := fun b o hb => hx b o (ne_of_none hb p20) (e34 _ _ hb)
      have pl23 : H3 pl2 = none := fresh_back e34 pl20
      have hP3 := hP2.grow e3
      obtain ⟨ys, hpl2⟩ := hQ.ls pl2 (List.mem_cons_self ..)
      have hP5 : PageAt A H5 p pl [pl2, hd, pl] row wd past := hP3.more e35 pl23 hpl2
      have hN5 : NowAt H5 [pl2, hd, pl] tn row wd past := ((hN2.grow e3).moreX pl23).grow e35
      have hH5 : Held H5 [pl2, hd, pl] hd (4 * ms.length) := ((hH2.grow e3).moreX pl23).grow e35
      have eT5 := eT2.trans (ExT.of_ex hT2 (e3.trans e35))
      have hT5 := eT5.1
      have hin2 : hd ∈ [pl2, hd, pl] := List.mem_cons_of_mem _ (List.mem_cons_self ..)
      obtain ⟨dxp, wlp, tsp, hp3, o3, _, hpl3, _⟩ := id hP3
      have hd_pl2 : hd ≠ pl2 := fun q => by
        obtain ⟨xs, z⟩ := hP3.ls hd hin
        rw [q, pl23] at z
        cases z
      have hd_p2 : hd ≠ p2 := fun q => by
        obtain ⟨xs, z⟩ := hP3.ls hd hin
        rw [q, p20] at z
        cases z
      have p_p2 : p ≠ p2 := ne_of_none hp3 p20
      have p_pl2 : p ≠ pl2 := ne_of_none hp3 pl23
      have pl_p2 : pl ≠ p2 := ne_of_none hpl3 p20
      have pl_pl2 : pl ≠ pl2 := ne_of_none hpl3 pl23
      have P2m : A.p_are_starts ∉ [p2, pl2] := fun q => by
        obtain ⟨ps, z, _⟩ := TabG.ex hT2 e3
        rcases List.mem_cons.mp q with q | q
        · rw [q, p20] at z
          cases z
        · rw [List.mem_singleton.mp q, pl23] at z
          cases z
      have m2 : ∀ {b : Addr}, b ≠ p2 → b ≠ pl2 → b ∉ [p2, pl2] := fun h1 h2 q => by
        rcases List.mem_cons.mp q with q | q
        · exact h1 q
        · exact h2 (List.mem_singleton.mp q)
      have m3 : ∀ x ∈ [A.p_are_starts, hd], x = A.p_are_starts ∨ H x = none := fun x hx => by
        rcases List.mem_cons.mp hx with q | q
        · exact .inl q
        · rw [List.mem_singleton.mp q]
          exact .inr hdH
      have H2none : ∀ (b : Addr), H3 b = none → H b = none := fun b h => by
        cases z : H b with
        | none => rfl
        | some o =>
          by_cases q : b = A.p_are_starts
          · obtain ⟨ps, z2, _⟩ := TabG.ex hT2 e3
            rw [← q] at z2
            rw [h] at z2
            cases z2
          · have z3 := (eT2.trans (ExT.of_ex hT2 e3)).2 _ o q z
            rw [h] at z3
            cases z3
      have hn4 : 4 * ms.length ≤ 244 := by omega
      show tSeq _ _ _ _ H5
      refine q_ifOrP (ap_cons (v := .ref p2) (ev_var rfl) (ap_consF (xs := []) (el_lst ea_nil (Nat.zero_le _)) (ap_cons (evw eT5 rfl) (ap_cons (v := .bl true) ev_c (ap_cons (v := .ref hd) (ev_var rfl) (ap_cons (v := .int w0) (ev_var rfl) ap_nil)))))) ?_
      rintro vs H6 e6 ⟨q1, rfl, r6, q2, rfl, r60, hr6, q3, rfl, q4, rfl, q5, rfl, q6, rfl, rfl⟩
      have gQ : Good [] w' := ⟨w1', far_wid ⟨by omega, by omega⟩, Nat.zero_le _, fun z hz => absurd hz (List.not_mem_nil), fun z hz => absurd hz (List.not_mem_nil)⟩
      refine ⟨p2, pl2, r6, hd, [pl2, hd, pl], [], w', [], true, w0, 4 * ms.length, rfl, hQ.grow e6, ls_fresh hQ.ls r60, hr6, hin2, hH5.grow e6, by omega, gQ, fun z hz => absurd hz (List.not_mem_nil), TabG.ex hT5 e6, fun H7 e7 hT7 hX7 hH7 => ⟨true, rfl, ?_⟩⟩
      rw [if_neg (show ¬ ((!true) = true) by decide)]
      have hT6 := TabG.ex hT5 e6
      have gd6 : Gd [A.p_are_starts, hd] [pl2, hd, pl] H6 := (Gd.one_t hT6).app (Gd.one_l hin2 (hP5.grow e6).ls)
      have hQ7 := (hQ.grow e6).keepQ hT6 hin2 hd_pl2 e7 (hX7 hd hin2)
      have hP7 := (hP5.grow e6).keepQ hT6 hin2 hdpl e7 (hX7 hd hin2)
      have hN7 := (hN5.grow e6).keep gd6 e7
      have eT7 := extT_of (eT5.trans (ExT.of_ex hT5 e6)) e7 m3 hT7
      obtain ⟨dx7, wl7, ts7, hp27, _⟩ := id hQ7
      refine t_putN (ev_var rfl) hp27 (m_put _ _ _) (ea_cons (x := .int 0) ev_c (ea_cons (ev_is ev_c (congrArg V.str signA_eq)) ea_nil)) fun H9 e79 => ?_
      have isA : IsW signA := isW_one (c := 97) ⟨by decide, by decide⟩
      have lenA : signA.length = 1 := rfl
      refine ⟨p2, pl2, [pl2, hd, pl], [], w', 0, signA, [], rfl, hQ7.grow e79, Nat.zero_le _, Nat.zero_le _, w1', txs_one (.inr (.inr ⟨by decide, by decide⟩)), show 1 ≤ 1000 by decide, fun _ => show 1 ≤ 300 by decide, fun c => ?_, fun _ _ c => absurd isA c, fun _ _ _ c => ?_, fun _ _ _ _ c => ?_, fun j hj hj0 _ _ _ H10 x10 hQ10 => ⟨rfl, _, rfl, ?_⟩⟩
      · exfalso
        rcases c with c | c
        · omega
        · have : ([] : List Str).length = 0 := rfl
          omega
      · exfalso
        rw [lenA] at c
        omega
      · exfalso
        have : ([] : List Str).length = 0 := rfl
        omega
      have hj00 : j = 0 := by omega
      subst hj00
      rw [putA] at hQ10
      rw [if_neg (by simp)]
      have gd9 : Gd [p2, pl2] [pl2, hd, pl] H9 := (hQ7.grow e79).gd
      have eN10 : ExN [p2, pl2] H9 H10 := ExN.of_s x10
      have hP10 := (hP7.grow e79).keep gd9 eN10 (m2 p_p2 p_pl2) (m2 pl_p2 pl_pl2) fun x _ hx => hQ10.ls x hx
      have hN10 := (hN7.grow e79).keep gd9 eN10
      have hH10 := (hH7.grow e79).keep gd9 eN10 (m2 hd_p2 hd_pl2)
      have hT9 := TabG.ex hT7 e79
      have hT10 := tab_keep hT9 eN10 P2m
      have eT10 := extT_of (eT7.trans (ExT.of_ex hT7 e79)) eN10 (fun x hx => by
        rcases List.mem_cons.mp hx with q | q
        · rw [q]
          exact .inr (H2none _ p20)
        · rw [List.mem_singleton.mp q]
          exact .inr (H2none _ pl23)) hT10
      have gA : Good [signA] w' := ⟨w1', gQ.2.1, show 1 ≤ 120 by decide, fun z hz => by rw [List.mem_singleton.mp hz]; exact show 1 ≤ 300 by decide, fun z hz => by rw [List.mem_singleton.mp hz, lenA]; omega⟩
      have wA : RowW [signA] := fun z hz => by
        rw [List.mem_singleton.mp hz]
        exact ⟨ws_a, Nat.le_refl _, show 1 ≤ 300 by decide⟩
      refine q_ifNotP (ap_cons (v := .ref p2) (ev_var rfl) (ap_consF (xs := [signA].map V.str) (el_lst (vs := [signA].map V.str) (ea_cons (ev_is ev_c (congrArg V.str signA_eq)) ea_nil) (show 1 ≤ 100000 by decide)) (ap_cons (evw eT10 rfl) (ap_cons (v := .bl true) ev_c (ap_cons (v := .ref hd) (ev_var rfl) (ap_cons (v := .int w0) (ev_var rfl) ap_nil)))))) ?_
      rintro vs H11 e11 ⟨q1, rfl, r11, q2, rfl, r110, hr11, q3, rfl, q4, rfl, q5, rfl, q6, rfl, rfl⟩
      refine ⟨p2, pl2, r11, hd, [pl2, hd, pl], [signA], w', _, true, w0, 4 * ms.length + 4, rfl, hQ10.grow e11, ls_fresh hQ10.ls r110, hr11, hin2, hH10.grow e11, by omega, gA, wA, TabG.ex hT10 e11, fun H12 e12 hT12 hX12 hH12 => ⟨true, rfl, ?_⟩⟩
      rw [if_neg (show ¬ ((!true) = true) by decide)]
      have hT11 := TabG.ex hT10 e11
      have gd11 : Gd [A.p_are_starts, hd] [pl2, hd, pl] H11 := (Gd.one_t hT11).app (Gd.one_l hin2 (hP10.grow e11).ls)
      have hP12 := (hP10.grow e11).keepQ hT11 hin2 hdpl e12 (hX12 hd hin2)
      have hN12 := (hN10.grow e11).keep gd11 e12
      have eT12 := extT_of (eT10.trans (ExT.of_ex hT10 e11)) e12 m3 hT12
      obtain ⟨r, l, n1, n2, n3, n4, n5⟩ := id hN12
      refine q_ifNotC (ea_cons (ev_var rfl) (ea_cons (ixn 0 _ rfl n1 rfl) (ea_cons (ixn 1 _ rfl n1 rfl) (ea_cons (x := .bl true) ev_c (ea_cons (ev_var rfl) (ea_cons (cj1 eT12 rfl) ea_nil)))))) fun H13 e13 => ⟨p, pl, r, hd, [pl2, hd, pl], row, wd, past, true, c1, 4 * ms.length + 8, rfl, hP12.grow e13, n2, e13 _ _ n4, hin2, hH12.grow e13, by omega, hU.good, hU.rw', TabG.ex hT12 e13, fun H14 e14 hT14 hX14 hH14 => ⟨true, rfl, ?_⟩⟩
      rw [if_neg (show ¬ ((!true) = true) by decide)]
      obtain ⟨ts, htn, hts, hone⟩ := hH14
      have hF0 : ∀ i : Nat, ∃ q : Addr × Addr × Cn, ∀ t, ts[i]? = some t → q.2.2.Ok ∧ H14 t = some (.tup [.ref q.1, .ref q.2.1]) ∧ H14 q.1 = some (.lst q.2.2.vs) ∧ H14 q.2.1 = some (.lst q.2.2.vs) := fun i => by
        cases hc : ts[i]? with
        | none => exact ⟨(hd, hd, .ints []), fun t h => nomatch h⟩
        | some t =>
          obtain ⟨c, hcok, u, v, _, _, g3, g4, g5⟩ := hone t (List.mem_of_getElem? hc)
          exact ⟨(u, v, c), fun t' h => by
            cases h
            exact ⟨hcok, g3, g4, g5⟩⟩
      obtain ⟨F, hF⟩ := Classical.axiomOfChoice hF0
      have nts : (ts.map V.ref).length = ts.length := List.length_map ..
      have each : ∀ (g : Addr × Addr × Cn → Addr) (j : Nat), (∀ q : Addr × Addr × Cn, [V.ref q.1, .ref q.2.1][j]? = some (.ref (g q))) → ∀ (i : Nat) (x : V) {σ : L2.St} {H' : Hp}, Ex H14 H' → (ts.map V.ref)[i]? = some x → σ[13]? = some (some x) → Ev (tOp (rIxT K) (tVar 13) (tC (.int (j : Int)))) σ H' (.ref (g (F i))) := fun g j hg i x σ H' e hx h13 => by
        rw [List.getElem?_map] at hx
        obtain ⟨t, ht, rfl⟩ := Option.map_eq_some_iff.mp hx
        exact ev_op (ev_var h13) ev_c (rv_ixT (st_of (e _ _ (hF i t ht).2.1)) (atI_nat (hg _)))
      refine s_ret (v := .bl true) (ev_opLL (xs := (List.range (ts.map V.ref).length).map fun i => V.ref (F i).1) (ys := (List.range (ts.map V.ref).length).map fun i => V.ref (F i).2.1) (el_lcX (fun i => V.ref (F i).1) (ev_var rfl) (sq_of hts) (by omega) (fun _ => rfl) fun i x H' e hx => each (fun q => q.1) 0 (fun _ => rfl) i x e hx rfl) (el_lcX (fun i => V.ref (F i).2.1) (ev_var rfl) (sq_of hts) (by omega) (fun _ => rfl) fun i x H' e hx => each (fun q => q.2.1) 1 (fun _ => rfl) i x e hx rfl) fun b1 b2 H' hb1 hb2 e => rv_held (f := fun i => (F i).1) (g := fun i => (F i).2.1) (c := fun i => (F i).2.2) hb1 hb2 fun i hi => ?_) fun H' e => k H'
      rw [nts] at hi
      obtain ⟨f1, f2, f3, f4⟩ := hF i ts[i] (List.getElem?_eq_getElem hi)
      exact ⟨f1, e _ _ f3, e _ _ f4⟩

end
theorem all_mk {l : PySem.W.OpenLaw} {w : World} {K : PySem.W.Frag} {h : Heap} {mg : Str → Option Value} {fa : Addr} (X : K.In h) (G : h.Ns mainGlobals mg) (hfa : mg "law" = some (.ref fa))
    {q : Program} (TO : TwT.TabsOf q K h)
    {C11 : Addr}
    {f0 : Addr} {od0 an0 : Option Addr} {sl0 : Array (Option Value)} {oc0 kV0 dc0 pm0 cd0 ct0 : Value}
    (a0 : PySem.W.nsIn K mainGlobals "line_of" = some (some (.ref f0)))
      (l0 : K.lookup f0 = some ⟨oc0, od0, .func (PySem.W.fnOf "line_of" "line_of" (defArgs s_line_of) (defBody s_line_of) (defScope s_line_of) .none kV0 dc0 pm0 an0 cd0 ct0), sl0⟩) (c0 : PySem.W.codeIn K cd0 "line_of" = true) (k0 : PySem.W.keepIn K (.ref f0) = true)
    {f1 : Addr} {od1 an1 : Option Addr} {sl1 : Array (Option Value)} {oc1 kV1 dc1 pm1 cd1 ct1 : Value}
    (a1 : PySem.W.nsIn K mainGlobals "sizes_from" = some (some (.ref f1)))
      (l1 : K.lookup f1 = some ⟨oc1, od1, .func (PySem.W.fnOf "sizes_from" "sizes_from" (defArgs s_sizes_from) (defBody s_sizes_from) (defScope s_sizes_from) .none kV1 dc1 pm1 an1 cd1 ct1), sl1⟩) (c1 : PySem.W.codeIn K cd1 "sizes_from" = true) (k1 : PySem.W.keepIn K (.ref f1) = true)
    {f2 : Addr} {od2 an2 : Option Addr} {sl2 : Array (Option Value)} {oc2 kV2 dc2 pm2 cd2 ct2 : Value}
    (a2 : PySem.W.nsIn K mainGlobals "long_word" = some (some (.ref f2)))
      (l2 : K.lookup f2 = some ⟨oc2, od2, .func (PySem.W.fnOf "long_word" "long_word" (defArgs s_long_word) (defBody s_long_word) (defScope s_long_word) .none kV2 dc2 pm2 an2 cd2 ct2), sl2⟩) (c2 : PySem.W.codeIn K cd2 "long_word" = true) (k2 : PySem.W.keepIn K (.ref f2) = true)
    {f3 : Addr} {od3 an3 : Option Addr} {sl3 : Array (Option Value)} {oc3 kV3 dc3 pm3 cd3 ct3 : Value}
    (a3 : PySem.W.nsIn K mainGlobals "check_width" = some (some (.ref f3)))
      (l3 : K.lookup f3 = some ⟨oc3, od3, .func (PySem.W.fnOf "check_width" "check_width" (defArgs s_check_width) (defBody s_check_width) (defScope s_check_width) .none kV3 dc3 pm3 an3 cd3 ct3), sl3⟩) (c3 : PySem.W.codeIn K cd3 "check_width" = true) (k3 : PySem.W.keepIn K (.ref f3) = true)
    {f4 : Addr} {od4 an4 : Option Addr} {sl4 : Array (Option Value)} {oc4 kV4 dc4 pm4 cd4 ct4 : Value}
    (a4 : PySem.W.nsIn K mainGlobals "check_words" = some (some (.ref f4)))
      (l4 : K.lookup f4 = some ⟨oc4, od4, .func (PySem.W.fnOf "check_words" "check_words" (defArgs s_check_words) (defBody s_check_words) (defScope s_check_words) .none kV4 dc4 pm4 an4 cd4 ct4), sl4⟩) (c4 : PySem.W.codeIn K cd4 "check_words" = true) (k4 : PySem.W.keepIn K (.ref f4) = true)
    {f5 : Addr} {od5 an5 : Option Addr} {sl5 : Array (Option Value)} {oc5 kV5 dc5 pm5 cd5 ct5 : Value}
    (a5 : PySem.W.nsIn K mainGlobals "lines_of" = some (some (.ref f5)))
      (l5 : K.lookup f5 = some ⟨oc5, od5, .func (PySem.W.fnOf "lines_of" "lines_of" (defArgs s_lines_of) (defBody s_lines_of) (defScope s_lines_of) .none kV5 dc5 pm5 an5 cd5 ct5), sl5⟩) (c5 : PySem.W.codeIn K cd5 "lines_of" = true) (k5 : PySem.W.keepIn K (.ref f5) = true)
    {f6 : Addr} {od6 an6 : Option Addr} {sl6 : Array (Option Value)} {oc6 kV6 dc6 pm6 cd6 ct6 : Value}
    (a6 : PySem.W.nsIn K mainGlobals "bounds_of" = some (some (.ref f6)))
      (l6 : K.lookup f6 = some ⟨oc6, od6, .func (PySem.W.fnOf "bounds_of" "bounds_of" (defArgs s_bounds_of) (defBody s_bounds_of) (defScope s_bounds_of) .none kV6 dc6 pm6 an6 cd6 ct6), sl6⟩) (c6 : PySem.W.codeIn K cd6 "bounds_of" = true) (k6 : PySem.W.keepIn K (.ref f6) = true)
    {f7 : Addr} {od7 an7 : Option Addr} {sl7 : Array (Option Value)} {oc7 kV7 dc7 pm7 cd7 ct7 : Value}
    (a7 : PySem.W.nsIn K mainGlobals "check_starts" = some (some (.ref f7)))
      (l7 : K.lookup f7 = some ⟨oc7, od7, .func (PySem.W.fnOf "check_starts" "check_starts" (defArgs s_check_starts) (defBody s_check_starts) (defScope s_check_starts) .none kV7 dc7 pm7 an7 cd7 ct7), sl7⟩) (c7 : PySem.W.codeIn K cd7 "check_starts" = true) (k7 : PySem.W.keepIn K (.ref f7) = true)
    {f8 : Addr} {od8 an8 : Option Addr} {sl8 : Array (Option Value)} {oc8 kV8 dc8 pm8 cd8 ct8 : Value}
    (a8 : PySem.W.nsIn K mainGlobals "are_starts" = some (some (.ref f8)))
      (l8 : K.lookup f8 = some ⟨oc8, od8, .func (PySem.W.fnOf "are_starts" "are_starts" (defArgs s_are_starts) (defBody s_are_starts) (defScope s_are_starts) .none kV8 dc8 pm8 an8 cd8 ct8), sl8⟩) (c8 : PySem.W.codeIn K cd8 "are_starts" = true) (k8 : PySem.W.keepIn K (.ref f8) = true)
    {f9 : Addr} {od9 an9 : Option Addr} {sl9 : Array (Option Value)} {oc9 kV9 dc9 pm9 cd9 ct9 : Value}
    (a9 : PySem.W.nsIn K mainGlobals "table_of" = some (some (.ref f9)))
      (l9 : K.lookup f9 = some ⟨oc9, od9, .func (PySem.W.fnOf "table_of" "table_of" (defArgs s_table_of) (defBody s_table_of) (defScope s_table_of) .none kV9 dc9 pm9 an9 cd9 ct9), sl9⟩) (c9 : PySem.W.codeIn K cd9 "table_of" = true) (k9 : PySem.W.keepIn K (.ref f9) = true)
    {f10 : Addr} {od10 an10 : Option Addr} {sl10 : Array (Option Value)} {oc10 kV10 dc10 pm10 cd10 ct10 : Value}
    (a10 : PySem.W.nsIn K mainGlobals "best_starts" = some (some (.ref f10)))
      (l10 : K.lookup f10 = some ⟨oc10, od10, .func (PySem.W.fnOf "best_starts" "best_starts" (defArgs s_best_starts) (defBody s_best_starts) (defScope s_best_starts) .none kV10 dc10 pm10 an10 cd10 ct10), sl10⟩) (c10 : PySem.W.codeIn K cd10 "best_starts" = true) (k10 : PySem.W.keepIn K (.ref f10) = true)
    {f11 : Addr} {od11 an11 : Option Addr} {sl11 : Array (Option Value)} {oc11 kV11 dc11 pm11 cd11 ct11 : Value}
    (a11 : PySem.W.nsIn K mainGlobals "first_line" = some (some (.ref f11)))
      (l11 : K.lookup f11 = some ⟨oc11, od11, .func (PySem.W.fnOf "first_line" "first_line" (defArgs s_first_line) (defBody s_first_line) (defScope s_first_line) .none kV11 dc11 pm11 an11 cd11 ct11), sl11⟩) (c11 : PySem.W.codeIn K cd11 "first_line" = true) (k11 : PySem.W.keepIn K (.ref f11) = true)
    {f12 : Addr} {od12 an12 : Option Addr} {sl12 : Array (Option Value)} {oc12 kV12 dc12 pm12 cd12 ct12 : Value}
    (a12 : PySem.W.nsIn K mainGlobals "best_line" = some (some (.ref f12)))
      (l12 : K.lookup f12 = some ⟨oc12, od12, .func (PySem.W.fnOf "best_line" "best_line" (defArgs s_best_line) (defBody s_best_line) (defScope s_best_line) .none kV12 dc12 pm12 an12 cd12 ct12), sl12⟩) (c12 : PySem.W.codeIn K cd12 "best_line" = true) (k12 : PySem.W.keepIn K (.ref f12) = true)
    {f13 : Addr} {od13 an13 : Option Addr} {sl13 : Array (Option Value)} {oc13 kV13 dc13 pm13 cd13 ct13 : Value}
    (a13 : PySem.W.nsIn K mainGlobals "squares_of" = some (some (.ref f13)))
      (l13 : K.lookup f13 = some ⟨oc13, od13, .func (PySem.W.fnOf "squares_of" "squares_of" (defArgs s_squares_of) (defBody s_squares_of) (defScope s_squares_of) .none kV13 dc13 pm13 an13 cd13 ct13), sl13⟩) (c13 : PySem.W.codeIn K cd13 "squares_of" = true) (k13 : PySem.W.keepIn K (.ref f13) = true)
    {f14 : Addr} {od14 an14 : Option Addr} {sl14 : Array (Option Value)} {oc14 kV14 dc14 pm14 cd14 ct14 : Value}
    (a14 : PySem.W.nsIn K mainGlobals "words_of" = some (some (.ref f14)))
      (l14 : K.lookup f14 = some ⟨oc14, od14, .func (PySem.W.fnOf "words_of" "words_of" (defArgs s_words_of) (defBody s_words_of) (defScope s_words_of) .none kV14 dc14 pm14 an14 cd14 ct14), sl14⟩) (c14 : PySem.W.codeIn K cd14 "words_of" = true) (k14 : PySem.W.keepIn K (.ref f14) = true)
    {f15 : Addr} {od15 an15 : Option Addr} {sl15 : Array (Option Value)} {oc15 kV15 dc15 pm15 cd15 ct15 : Value}
    (a15 : PySem.W.nsIn K mainGlobals "is_word" = some (some (.ref f15)))
      (l15 : K.lookup f15 = some ⟨oc15, od15, .func (PySem.W.fnOf "is_word" "is_word" (defArgs s_is_word) (defBody s_is_word) (defScope s_is_word) .none kV15 dc15 pm15 an15 cd15 ct15), sl15⟩) (c15 : PySem.W.codeIn K cd15 "is_word" = true) (k15 : PySem.W.keepIn K (.ref f15) = true)
    {f16 : Addr} {od16 an16 : Option Addr} {sl16 : Array (Option Value)} {oc16 kV16 dc16 pm16 cd16 ct16 : Value}
    (a16 : PySem.W.nsIn K mainGlobals "_law_cell_at" = some (some (.ref f16)))
      (l16 : K.lookup f16 = some ⟨oc16, od16, .func (PySem.W.fnOf "_law_cell_at" "_law_cell_at" (defArgs s_l_cell_at) (defBody s_l_cell_at) (defScope s_l_cell_at) .none kV16 dc16 pm16 an16 cd16 ct16), sl16⟩) (c16 : PySem.W.codeIn K cd16 "_law_cell_at" = true) (k16 : PySem.W.keepIn K (.ref f16) = true)
    {f17 : Addr} {od17 an17 : Option Addr} {sl17 : Array (Option Value)} {oc17 kV17 dc17 pm17 cd17 ct17 : Value}
    (a17 : PySem.W.nsIn K mainGlobals "_law_sign_by" = some (some (.ref f17)))
      (l17 : K.lookup f17 = some ⟨oc17, od17, .func (PySem.W.fnOf "_law_sign_by" "_law_sign_by" (defArgs s_l_sign_by) (defBody s_l_sign_by) (defScope s_l_sign_by) .none kV17 dc17 pm17 an17 cd17 ct17), sl17⟩) (c17 : PySem.W.codeIn K cd17 "_law_sign_by" = true) (k17 : PySem.W.keepIn K (.ref f17) = true)
    {f18 : Addr} {od18 an18 : Option Addr} {sl18 : Array (Option Value)} {oc18 kV18 dc18 pm18 cd18 ct18 : Value}
    (a18 : PySem.W.nsIn K mainGlobals "_law_word_by" = some (some (.ref f18)))
      (l18 : K.lookup f18 = some ⟨oc18, od18, .func (PySem.W.fnOf "_law_word_by" "_law_word_by" (defArgs s_l_word_by) (defBody s_l_word_by) (defScope s_l_word_by) .none kV18 dc18 pm18 an18 cd18 ct18), sl18⟩) (c18 : PySem.W.codeIn K cd18 "_law_word_by" = true) (k18 : PySem.W.keepIn K (.ref f18) = true)
    {f19 : Addr} {od19 an19 : Option Addr} {sl19 : Array (Option Value)} {oc19 kV19 dc19 pm19 cd19 ct19 : Value}
    (a19 : PySem.W.nsIn K mainGlobals "_law_whole" = some (some (.ref f19)))
      (l19 : K.lookup f19 = some ⟨oc19, od19, .func (PySem.W.fnOf "_law_whole" "_law_whole" (defArgs s_l_whole) (defBody s_l_whole) (defScope s_l_whole) .none kV19 dc19 pm19 an19 cd19 ct19), sl19⟩) (c19 : PySem.W.codeIn K cd19 "_law_whole" = true) (k19 : PySem.W.keepIn K (.ref f19) = true)
    {f20 : Addr} {od20 an20 : Option Addr} {sl20 : Array (Option Value)} {oc20 kV20 dc20 pm20 cd20 ct20 : Value}
    (a20 : PySem.W.nsIn K mainGlobals "_law_wholes" = some (some (.ref f20)))
      (l20 : K.lookup f20 = some ⟨oc20, od20, .func (PySem.W.fnOf "_law_wholes" "_law_wholes" (defArgs s_l_wholes) (defBody s_l_wholes) (defScope s_l_wholes) .none kV20 dc20 pm20 an20 cd20 ct20), sl20⟩) (c20 : PySem.W.codeIn K cd20 "_law_wholes" = true) (k20 : PySem.W.keepIn K (.ref f20) = true)
    {f21 : Addr} {od21 an21 : Option Addr} {sl21 : Array (Option Value)} {oc21 kV21 dc21 pm21 cd21 ct21 : Value}
    (a21 : PySem.W.nsIn K mainGlobals "_law_texts" = some (some (.ref f21)))
      (l21 : K.lookup f21 = some ⟨oc21, od21, .func (PySem.W.fnOf "_law_texts" "_law_texts" (defArgs s_l_texts) (defBody s_l_texts) (defScope s_l_texts) .none kV21 dc21 pm21 an21 cd21 ct21), sl21⟩) (c21 : PySem.W.codeIn K cd21 "_law_texts" = true) (k21 : PySem.W.keepIn K (.ref f21) = true)
    {f22 : Addr} {od22 an22 : Option Addr} {sl22 : Array (Option Value)} {oc22 kV22 dc22 pm22 cd22 ct22 : Value}
    (a22 : PySem.W.nsIn K mainGlobals "_law_longest" = some (some (.ref f22)))
      (l22 : K.lookup f22 = some ⟨oc22, od22, .func (PySem.W.fnOf "_law_longest" "_law_longest" (defArgs s_l_longest) (defBody s_l_longest) (defScope s_l_longest) .none kV22 dc22 pm22 an22 cd22 ct22), sl22⟩) (c22 : PySem.W.codeIn K cd22 "_law_longest" = true) (k22 : PySem.W.keepIn K (.ref f22) = true)
    {f23 : Addr} {od23 an23 : Option Addr} {sl23 : Array (Option Value)} {oc23 kV23 dc23 pm23 cd23 ct23 : Value}
    (a23 : PySem.W.nsIn K mainGlobals "_law_table_right" = some (some (.ref f23)))
      (l23 : K.lookup f23 = some ⟨oc23, od23, .func (PySem.W.fnOf "_law_table_right" "_law_table_right" (defArgs s_l_table_right) (defBody s_l_table_right) (defScope s_l_table_right) .none kV23 dc23 pm23 an23 cd23 ct23), sl23⟩) (c23 : PySem.W.codeIn K cd23 "_law_table_right" = true) (k23 : PySem.W.keepIn K (.ref f23) = true)
    {f24 : Addr} {od24 an24 : Option Addr} {sl24 : Array (Option Value)} {oc24 kV24 dc24 pm24 cd24 ct24 : Value}
    (a24 : PySem.W.nsIn K mainGlobals "_law_starts_by_table" = some (some (.ref f24)))
      (l24 : K.lookup f24 = some ⟨oc24, od24, .func (PySem.W.fnOf "_law_starts_by_table" "_law_starts_by_table" (defArgs s_l_starts_by_table) (defBody s_l_starts_by_table) (defScope s_l_starts_by_table) .none kV24 dc24 pm24 an24 cd24 ct24), sl24⟩) (c24 : PySem.W.codeIn K cd24 "_law_starts_by_table" = true) (k24 : PySem.W.keepIn K (.ref f24) = true)
    {f25 : Addr} {od25 an25 : Option Addr} {sl25 : Array (Option Value)} {oc25 kV25 dc25 pm25 cd25 ct25 : Value}
    (a25 : PySem.W.nsIn K mainGlobals "_law_page_width" = some (some (.ref f25)))
      (l25 : K.lookup f25 = some ⟨oc25, od25, .func (PySem.W.fnOf "_law_page_width" "_law_page_width" (defArgs s_l_page_width) (defBody s_l_page_width) (defScope s_l_page_width) .none kV25 dc25 pm25 an25 cd25 ct25), sl25⟩) (c25 : PySem.W.codeIn K cd25 "_law_page_width" = true) (k25 : PySem.W.keepIn K (.ref f25) = true)
    {f26 : Addr} {od26 an26 : Option Addr} {sl26 : Array (Option Value)} {oc26 kV26 dc26 pm26 cd26 ct26 : Value}
    (a26 : PySem.W.nsIn K mainGlobals "_law_page_by" = some (some (.ref f26)))
      (l26 : K.lookup f26 = some ⟨oc26, od26, .func (PySem.W.fnOf "_law_page_by" "_law_page_by" (defArgs s_l_page_by) (defBody s_l_page_by) (defScope s_l_page_by) .none kV26 dc26 pm26 an26 cd26 ct26), sl26⟩) (c26 : PySem.W.codeIn K cd26 "_law_page_by" = true) (k26 : PySem.W.keepIn K (.ref f26) = true)
    {f27 : Addr} {od27 an27 : Option Addr} {sl27 : Array (Option Value)} {oc27 kV27 dc27 pm27 cd27 ct27 : Value}
    (a27 : PySem.W.nsIn K mainGlobals "_law_kind" = some (some (.ref f27)))
      (l27 : K.lookup f27 = some ⟨oc27, od27, .func (PySem.W.fnOf "_law_kind" "_law_kind" (defArgs s_l_kind) (defBody s_l_kind) (defScope s_l_kind) .none kV27 dc27 pm27 an27 cd27 ct27), sl27⟩) (c27 : PySem.W.codeIn K cd27 "_law_kind" = true) (k27 : PySem.W.keepIn K (.ref f27) = true)
    {f28 : Addr} {od28 an28 : Option Addr} {sl28 : Array (Option Value)} {oc28 kV28 dc28 pm28 cd28 ct28 : Value}
    (a28 : PySem.W.nsIn K mainGlobals "_law_told" = some (some (.ref f28)))
      (l28 : K.lookup f28 = some ⟨oc28, od28, .func (PySem.W.fnOf "_law_told" "_law_told" (defArgs s_l_told) (defBody s_l_told) (defScope s_l_told) .none kV28 dc28 pm28 an28 cd28 ct28), sl28⟩) (c28 : PySem.W.codeIn K cd28 "_law_told" = true) (k28 : PySem.W.keepIn K (.ref f28) = true)
    {f29 : Addr} {od29 an29 : Option Addr} {sl29 : Array (Option Value)} {oc29 kV29 dc29 pm29 cd29 ct29 : Value}
    (a29 : PySem.W.nsIn K mainGlobals "_law_due" = some (some (.ref f29)))
      (l29 : K.lookup f29 = some ⟨oc29, od29, .func (PySem.W.fnOf "_law_due" "_law_due" (defArgs s_l_due) (defBody s_l_due) (defScope s_l_due) .none kV29 dc29 pm29 an29 cd29 ct29), sl29⟩) (c29 : PySem.W.codeIn K cd29 "_law_due" = true) (k29 : PySem.W.keepIn K (.ref f29) = true)
    {f30 : Addr} {od30 an30 : Option Addr} {sl30 : Array (Option Value)} {oc30 kV30 dc30 pm30 cd30 ct30 : Value}
    (a30 : PySem.W.nsIn K mainGlobals "_law_alike_by" = some (some (.ref f30)))
      (l30 : K.lookup f30 = some ⟨oc30, od30, .func (PySem.W.fnOf "_law_alike_by" "_law_alike_by" (defArgs s_l_alike_by) (defBody s_l_alike_by) (defScope s_l_alike_by) .none kV30 dc30 pm30 an30 cd30 ct30), sl30⟩) (c30 : PySem.W.codeIn K cd30 "_law_alike_by" = true) (k30 : PySem.W.keepIn K (.ref f30) = true)
    {f31 : Addr} {od31 an31 : Option Addr} {sl31 : Array (Option Value)} {oc31 kV31 dc31 pm31 cd31 ct31 : Value}
    (a31 : PySem.W.nsIn K mainGlobals "_law_place_by" = some (some (.ref f31)))
      (l31 : K.lookup f31 = some ⟨oc31, od31, .func (PySem.W.fnOf "_law_place_by" "_law_place_by" (defArgs s_l_place_by) (defBody s_l_place_by) (defScope s_l_place_by) .none kV31 dc31 pm31 an31 cd31 ct31), sl31⟩) (c31 : PySem.W.codeIn K cd31 "_law_place_by" = true) (k31 : PySem.W.keepIn K (.ref f31) = true)
    {f32 : Addr} {od32 an32 : Option Addr} {sl32 : Array (Option Value)} {oc32 kV32 dc32 pm32 cd32 ct32 : Value}
    (a32 : PySem.W.nsIn K mainGlobals "_law_deed_by" = some (some (.ref f32)))
      (l32 : K.lookup f32 = some ⟨oc32, od32, .func (PySem.W.fnOf "_law_deed_by" "_law_deed_by" (defArgs s_l_deed_by) (defBody s_l_deed_by) (defScope s_l_deed_by) .none kV32 dc32 pm32 an32 cd32 ct32), sl32⟩) (c32 : PySem.W.codeIn K cd32 "_law_deed_by" = true) (k32 : PySem.W.keepIn K (.ref f32) = true)
    {f33 : Addr} {od33 an33 : Option Addr} {sl33 : Array (Option Value)} {oc33 kV33 dc33 pm33 cd33 ct33 : Value}
    (a33 : PySem.W.nsIn K mainGlobals "_law_one_told" = some (some (.ref f33)))
      (l33 : K.lookup f33 = some ⟨oc33, od33, .func (PySem.W.fnOf "_law_one_told" "_law_one_told" (defArgs s_l_one_told) (defBody s_l_one_told) (defScope s_l_one_told) .none kV33 dc33 pm33 an33 cd33 ct33), sl33⟩) (c33 : PySem.W.codeIn K cd33 "_law_one_told" = true) (k33 : PySem.W.keepIn K (.ref f33) = true)
    {f34 : Addr} {od34 an34 : Option Addr} {sl34 : Array (Option Value)} {oc34 kV34 dc34 pm34 cd34 ct34 : Value}
    (a34 : PySem.W.nsIn K mainGlobals "_law_all_told" = some (some (.ref f34)))
      (l34 : K.lookup f34 = some ⟨oc34, od34, .func (PySem.W.fnOf "_law_all_told" "_law_all_told" (defArgs s_l_all_told) (defBody s_l_all_told) (defScope s_l_all_told) .none kV34 dc34 pm34 an34 cd34 ct34), sl34⟩) (c34 : PySem.W.codeIn K cd34 "_law_all_told" = true) (k34 : PySem.W.keepIn K (.ref f34) = true)
    {f35 : Addr} {od35 an35 : Option Addr} {sl35 : Array (Option Value)} {oc35 kV35 dc35 pm35 cd35 ct35 : Value}
    (a35 : PySem.W.nsIn K mainGlobals "_law_shows" = some (some (.ref f35)))
      (l35 : K.lookup f35 = some ⟨oc35, od35, .func (PySem.W.fnOf "_law_shows" "_law_shows" (defArgs s_l_shows) (defBody s_l_shows) (defScope s_l_shows) .none kV35 dc35 pm35 an35 cd35 ct35), sl35⟩) (c35 : PySem.W.codeIn K cd35 "_law_shows" = true) (k35 : PySem.W.keepIn K (.ref f35) = true)
    {f36 : Addr} {od36 an36 : Option Addr} {sl36 : Array (Option Value)} {oc36 kV36 dc36 pm36 cd36 ct36 : Value}
    (a36 : PySem.W.nsIn K mainGlobals "_law_stands" = some (some (.ref f36)))
      (l36 : K.lookup f36 = some ⟨oc36, od36, .func (PySem.W.fnOf "_law_stands" "_law_stands" (defArgs s_l_stands) (defBody s_l_stands) (defScope s_l_stands) .none kV36 dc36 pm36 an36 cd36 ct36), sl36⟩) (c36 : PySem.W.codeIn K cd36 "_law_stands" = true) (k36 : PySem.W.keepIn K (.ref f36) = true)
    {f37 : Addr} {od37 an37 : Option Addr} {sl37 : Array (Option Value)} {oc37 kV37 dc37 pm37 cd37 ct37 : Value}
    (a37 : PySem.W.nsIn K mainGlobals "_law_deeds_by" = some (some (.ref f37)))
      (l37 : K.lookup f37 = some ⟨oc37, od37, .func (PySem.W.fnOf "_law_deeds_by" "_law_deeds_by" (defArgs s_l_deeds_by) (defBody s_l_deeds_by) (defScope s_l_deeds_by) .none kV37 dc37 pm37 an37 cd37 ct37), sl37⟩) (c37 : PySem.W.codeIn K cd37 "_law_deeds_by" = true) (k37 : PySem.W.keepIn K (.ref f37) = true)
    {f38 : Addr} {od38 an38 : Option Addr} {sl38 : Array (Option Value)} {oc38 kV38 dc38 pm38 cd38 ct38 : Value}
    (a38 : PySem.W.nsIn K mainGlobals "_law_answered" = some (some (.ref f38)))
      (l38 : K.lookup f38 = some ⟨oc38, od38, .func (PySem.W.fnOf "_law_answered" "_law_answered" (defArgs s_l_answered) (defBody s_l_answered) (defScope s_l_answered) .none kV38 dc38 pm38 an38 cd38 ct38), sl38⟩) (c38 : PySem.W.codeIn K cd38 "_law_answered" = true) (k38 : PySem.W.keepIn K (.ref f38) = true)
    {f39 : Addr} {od39 an39 : Option Addr} {sl39 : Array (Option Value)} {oc39 kV39 dc39 pm39 cd39 ct39 : Value}
    (a39 : PySem.W.nsIn K mainGlobals "_law_after" = some (some (.ref f39)))
      (l39 : K.lookup f39 = some ⟨oc39, od39, .func (PySem.W.fnOf "_law_after" "_law_after" (defArgs s_l_after) (defBody s_l_after) (defScope s_l_after) .none kV39 dc39 pm39 an39 cd39 ct39), sl39⟩) (c39 : PySem.W.codeIn K cd39 "_law_after" = true) (k39 : PySem.W.keepIn K (.ref f39) = true)
    {f40 : Addr} {od40 an40 : Option Addr} {sl40 : Array (Option Value)} {oc40 kV40 dc40 pm40 cd40 ct40 : Value}
    (a40 : PySem.W.nsIn K mainGlobals "_law_step" = some (some (.ref f40)))
      (l40 : K.lookup f40 = some ⟨oc40, od40, .func (PySem.W.fnOf "_law_step" "_law_step" (defArgs s_l_step) (defBody s_l_step) (defScope s_l_step) .none kV40 dc40 pm40 an40 cd40 ct40), sl40⟩) (c40 : PySem.W.codeIn K cd40 "_law_step" = true) (k40 : PySem.W.keepIn K (.ref f40) = true)
    {f41 : Addr} {od41 an41 : Option Addr} {sl41 : Array (Option Value)} {oc41 kV41 dc41 pm41 cd41 ct41 : Value}
    (a41 : PySem.W.nsIn K mainGlobals "_law_made_good" = some (some (.ref f41)))
      (l41 : K.lookup f41 = some ⟨oc41, od41, .func (PySem.W.fnOf "_law_made_good" "_law_made_good" (defArgs s_l_made_good) (defBody s_l_made_good) (defScope s_l_made_good) .none kV41 dc41 pm41 an41 cd41 ct41), sl41⟩) (c41 : PySem.W.codeIn K cd41 "_law_made_good" = true) (k41 : PySem.W.keepIn K (.ref f41) = true)
    {f42 : Addr} {od42 an42 : Option Addr} {sl42 : Array (Option Value)} {oc42 kV42 dc42 pm42 cd42 ct42 : Value}
    (a42 : PySem.W.nsIn K mainGlobals "law" = some (some (.ref f42)))
      (l42 : K.lookup f42 = some ⟨oc42, od42, .func (PySem.W.fnOf "law" "law" (defArgs s_law) (defBody s_law) (defScope s_law) .none kV42 dc42 pm42 an42 cd42 ct42), sl42⟩) (c42 : PySem.W.codeIn K cd42 "law" = true) (k42 : PySem.W.keepIn K (.ref f42) = true)
    {f43 : Addr} {od43 an43 : Option Addr} {sl43 : Array (Option Value)} {oc43 kV43 dc43 pm43 cd43 ct43 : Value}
    (a43 : PySem.W.findIn K (.ref C11) "__init__" = some (some (.ref f43))) (i43 : PySem.W.isFn K (.ref f43) = true)
      (l43 : K.lookup f43 = some ⟨oc43, od43, .func (PySem.W.fnOf "__init__" "Page.__init__" (defArgs s_p_init) (defBody s_p_init) (defScope s_p_init) .none kV43 dc43 pm43 an43 cd43 ct43), sl43⟩) (c43 : PySem.W.codeIn K cd43 "Page.__init__" = true) (k43 : PySem.W.keepIn K (.ref f43) = true)
    {f44 : Addr} {od44 an44 : Option Addr} {sl44 : Array (Option Value)} {oc44 kV44 dc44 pm44 cd44 ct44 : Value}
    (a44 : PySem.W.findIn K (.ref C11) "put" = some (some (.ref f44))) (i44 : PySem.W.isFn K (.ref f44) = true)
      (l44 : K.lookup f44 = some ⟨oc44, od44, .func (PySem.W.fnOf "put" "Page.put" (defArgs s_p_put) (defBody s_p_put) (defScope s_p_put) .none kV44 dc44 pm44 an44 cd44 ct44), sl44⟩) (c44 : PySem.W.codeIn K cd44 "Page.put" = true) (k44 : PySem.W.keepIn K (.ref f44) = true)
    {f45 : Addr} {od45 an45 : Option Addr} {sl45 : Array (Option Value)} {oc45 kV45 dc45 pm45 cd45 ct45 : Value}
    (a45 : PySem.W.findIn K (.ref C11) "drop" = some (some (.ref f45))) (i45 : PySem.W.isFn K (.ref f45) = true)
      (l45 : K.lookup f45 = some ⟨oc45, od45, .func (PySem.W.fnOf "drop" "Page.drop" (defArgs s_p_drop) (defBody s_p_drop) (defScope s_p_drop) .none kV45 dc45 pm45 an45 cd45 ct45), sl45⟩) (c45 : PySem.W.codeIn K cd45 "Page.drop" = true) (k45 : PySem.W.keepIn K (.ref f45) = true)
    {f46 : Addr} {od46 an46 : Option Addr} {sl46 : Array (Option Value)} {oc46 kV46 dc46 pm46 cd46 ct46 : Value}
    (a46 : PySem.W.findIn K (.ref C11) "widen" = some (some (.ref f46))) (i46 : PySem.W.isFn K (.ref f46) = true)
      (l46 : K.lookup f46 = some ⟨oc46, od46, .func (PySem.W.fnOf "widen" "Page.widen" (defArgs s_p_widen) (defBody s_p_widen) (defScope s_p_widen) .none kV46 dc46 pm46 an46 cd46 ct46), sl46⟩) (c46 : PySem.W.codeIn K cd46 "Page.widen" = true) (k46 : PySem.W.keepIn K (.ref f46) = true)
    {f47 : Addr} {od47 an47 : Option Addr} {sl47 : Array (Option Value)} {oc47 kV47 dc47 pm47 cd47 ct47 : Value}
    (a47 : PySem.W.findIn K (.ref C11) "undo" = some (some (.ref f47))) (i47 : PySem.W.isFn K (.ref f47) = true)
      (l47 : K.lookup f47 = some ⟨oc47, od47, .func (PySem.W.fnOf "undo" "Page.undo" (defArgs s_p_undo) (defBody s_p_undo) (defScope s_p_undo) .none kV47 dc47 pm47 an47 cd47 ct47), sl47⟩) (c47 : PySem.W.codeIn K cd47 "Page.undo" = true) (k47 : PySem.W.keepIn K (.ref f47) = true)
    {f48 : Addr} {od48 an48 : Option Addr} {sl48 : Array (Option Value)} {oc48 kV48 dc48 pm48 cd48 ct48 : Value}
    (a48 : PySem.W.findIn K (.ref C11) "change" = some (some (.ref f48))) (i48 : PySem.W.isFn K (.ref f48) = true)
      (l48 : K.lookup f48 = some ⟨oc48, od48, .func (PySem.W.fnOf "change" "Page.change" (defArgs s_p_change) (defBody s_p_change) (defScope s_p_change) .none kV48 dc48 pm48 an48 cd48 ct48), sl48⟩) (c48 : PySem.W.codeIn K cd48 "Page.change" = true) (k48 : PySem.W.keepIn K (.ref f48) = true)
    {f49 : Addr} {od49 an49 : Option Addr} {sl49 : Array (Option Value)} {oc49 kV49 dc49 pm49 cd49 ct49 : Value}
    (a49 : PySem.W.findIn K (.ref C11) "words_now" = some (some (.ref f49))) (i49 : PySem.W.isFn K (.ref f49) = true)
      (l49 : K.lookup f49 = some ⟨oc49, od49, .func (PySem.W.fnOf "words_now" "Page.words_now" (defArgs s_p_words_now) (defBody s_p_words_now) (defScope s_p_words_now) .none kV49 dc49 pm49 an49 cd49 ct49), sl49⟩) (c49 : PySem.W.codeIn K cd49 "Page.words_now" = true) (k49 : PySem.W.keepIn K (.ref f49) = true)
    {f50 : Addr} {od50 an50 : Option Addr} {sl50 : Array (Option Value)} {oc50 kV50 dc50 pm50 cd50 ct50 : Value}
    (a50 : PySem.W.findIn K (.ref C11) "width_now" = some (some (.ref f50))) (i50 : PySem.W.isFn K (.ref f50) = true)
      (l50 : K.lookup f50 = some ⟨oc50, od50, .func (PySem.W.fnOf "width_now" "Page.width_now" (defArgs s_p_width_now) (defBody s_p_width_now) (defScope s_p_width_now) .none kV50 dc50 pm50 an50 cd50 ct50), sl50⟩) (c50 : PySem.W.codeIn K cd50 "Page.width_now" = true) (k50 : PySem.W.keepIn K (.ref f50) = true)
    {f51 : Addr} {od51 an51 : Option Addr} {sl51 : Array (Option Value)} {oc51 kV51 dc51 pm51 cd51 ct51 : Value}
    (a51 : PySem.W.findIn K (.ref C11) "table_now" = some (some (.ref f51))) (i51 : PySem.W.isFn K (.ref f51) = true)
      (l51 : K.lookup f51 = some ⟨oc51, od51, .func (PySem.W.fnOf "table_now" "Page.table_now" (defArgs s_p_table_now) (defBody s_p_table_now) (defScope s_p_table_now) .none kV51 dc51 pm51 an51 cd51 ct51), sl51⟩) (c51 : PySem.W.codeIn K cd51 "Page.table_now" = true) (k51 : PySem.W.keepIn K (.ref f51) = true)
    {f52 : Addr} {od52 an52 : Option Addr} {sl52 : Array (Option Value)} {oc52 kV52 dc52 pm52 cd52 ct52 : Value}
    (a52 : PySem.W.findIn K (.ref C11) "starts_now" = some (some (.ref f52))) (i52 : PySem.W.isFn K (.ref f52) = true)
      (l52 : K.lookup f52 = some ⟨oc52, od52, .func (PySem.W.fnOf "starts_now" "Page.starts_now" (defArgs s_p_starts_now) (defBody s_p_starts_now) (defScope s_p_starts_now) .none kV52 dc52 pm52 an52 cd52 ct52), sl52⟩) (c52 : PySem.W.codeIn K cd52 "Page.starts_now" = true) (k52 : PySem.W.keepIn K (.ref f52) = true)
    {f53 : Addr} {od53 an53 : Option Addr} {sl53 : Array (Option Value)} {oc53 kV53 dc53 pm53 cd53 ct53 : Value}
    (a53 : PySem.W.findIn K (.ref C11) "lines_now" = some (some (.ref f53))) (i53 : PySem.W.isFn K (.ref f53) = true)
      (l53 : K.lookup f53 = some ⟨oc53, od53, .func (PySem.W.fnOf "lines_now" "Page.lines_now" (defArgs s_p_lines_now) (defBody s_p_lines_now) (defScope s_p_lines_now) .none kV53 dc53 pm53 an53 cd53 ct53), sl53⟩) (c53 : PySem.W.codeIn K cd53 "Page.lines_now" = true) (k53 : PySem.W.keepIn K (.ref f53) = true)
    {kc0 kp0 : Addr} {rd0 : DefRec} {qa0 : Value} {qb0 : Option Addr} {qv0 : Array Value} {qs0 : Array (Option Value)} (v0 : (recsOf q).find? (fun e => e.name == ("are_starts" : Str)) = some rd0) (h0 : cd8 = .ref kc0) (q0 : K.lookup kc0 = some ⟨qa0, qb0, .fields qv0, qs0⟩) (w0 : qv0[11]? = some (.ref kp0)) (u0 : K.lookup kp0 = none)
    {tM0 : Tok} (gM0 : PySem.W.nsIn K mainGlobals "MOST_WORDS" = some (some (.int 120 tM0)))
    (z0 : PySem.W.nsIn K mainGlobals "ValueError" = some none)
    (z1 : PySem.W.nsIn K mainGlobals "all" = some none)
    (z2 : PySem.W.nsIn K mainGlobals "bool" = some none)
    (z3 : PySem.W.nsIn K mainGlobals "enumerate" = some none)
    (z4 : PySem.W.nsIn K mainGlobals "int" = some none)
    (z5 : PySem.W.nsIn K mainGlobals "isinstance" = some none)
    (z6 : PySem.W.nsIn K mainGlobals "len" = some none)
    (z7 : PySem.W.nsIn K mainGlobals "list" = some none)
    (z8 : PySem.W.nsIn K mainGlobals "max" = some none)
    (z9 : PySem.W.nsIn K mainGlobals "range" = some none)
    (z10 : PySem.W.nsIn K mainGlobals "reversed" = some none)
    (z11 : PySem.W.nsIn K mainGlobals "str" = some none)
    (z12 : PySem.W.nsIn K mainGlobals "sum" = some none)
    (z13 : PySem.W.nsIn K mainGlobals "zip" = some none)
    {C0 : Addr} (y0 : PySem.W.nsIn K mainGlobals "WrapError" = some (some (.ref C0)))
    {C1 : Addr} (y1 : PySem.W.nsIn K mainGlobals "NoWidth" = some (some (.ref C1)))
    {C2 : Addr} (y2 : PySem.W.nsIn K mainGlobals "LongWord" = some (some (.ref C2)))
    {C3 : Addr} (y3 : PySem.W.nsIn K mainGlobals "NoStarts" = some (some (.ref C3)))
    {C4 : Addr} (y4 : PySem.W.nsIn K mainGlobals "TooWide" = some (some (.ref C4)))
    {C5 : Addr} (y5 : PySem.W.nsIn K mainGlobals "TooFew" = some (some (.ref C5)))
    {C6 : Addr} (y6 : PySem.W.nsIn K mainGlobals "TooMany" = some (some (.ref C6)))
    {C7 : Addr} (y7 : PySem.W.nsIn K mainGlobals "NoPlace" = some (some (.ref C7)))
    {C8 : Addr} (y8 : PySem.W.nsIn K mainGlobals "NoWord" = some (some (.ref C8)))
    {C9 : Addr} (y9 : PySem.W.nsIn K mainGlobals "Full" = some (some (.ref C9)))
    {C10 : Addr} (y10 : PySem.W.nsIn K mainGlobals "NoWayBack" = some (some (.ref C10)))
    (y11 : PySem.W.nsIn K mainGlobals "Page" = some (some (.ref C11)))
    (hd_WrapError : PySem.W.hasDictIn K C0 = true)
    (ty_WrapError : PySem.W.typeIn K (.ref C0) = some (.type "type"))
    (hd_NoWidth : PySem.W.hasDictIn K C1 = true)
    (ty_NoWidth : PySem.W.typeIn K (.ref C1) = some (.type "type"))
    (hd_LongWord : PySem.W.hasDictIn K C2 = true)
    (ty_LongWord : PySem.W.typeIn K (.ref C2) = some (.type "type"))
    (hd_NoStarts : PySem.W.hasDictIn K C3 = true)
    (ty_NoStarts : PySem.W.typeIn K (.ref C3) = some (.type "type"))
    (hd_TooWide : PySem.W.hasDictIn K C4 = true)
    (ty_TooWide : PySem.W.typeIn K (.ref C4) = some (.type "type"))
    (hd_TooFew : PySem.W.hasDictIn K C5 = true)
    (ty_TooFew : PySem.W.typeIn K (.ref C5) = some (.type "type"))
    (hd_TooMany : PySem.W.hasDictIn K C6 = true)
    (ty_TooMany : PySem.W.typeIn K (.ref C6) = some (.type "type"))
    (hd_NoPlace : PySem.W.hasDictIn K C7 = true)
    (ty_NoPlace : PySem.W.typeIn K (.ref C7) = some (.type "type"))
    (hd_NoWord : PySem.W.hasDictIn K C8 = true)
    (ty_NoWord : PySem.W.typeIn K (.ref C8) = some (.type "type"))
    (hd_Full : PySem.W.hasDictIn K C9 = true)
    (ty_Full : PySem.W.typeIn K (.ref C9) = some (.type "type"))
    (hd_NoWayBack : PySem.W.hasDictIn K C10 = true)
    (ty_NoWayBack : PySem.W.typeIn K (.ref C10) = some (.type "type"))
    (bw : PySem.W.subIn K (.ref C0) (.type "BaseException") = some true)
    (x1_NoWidth : PySem.W.excIn K C1 [.type "ValueError", .type "Exception", .type "BaseException", .type "object"] "ValueError.__new__" = true)
    (x2_NoWidth : PySem.W.keepIn K (.ref C1) = true)
    (x3_NoWidth : PySem.W.findIn K (.ref C1) "__getattribute__" = some (some (.builtin "BaseException.__getattribute__")))
    (x4_NoWidth : PySem.W.findIn K (.ref C1) "__getattr__" = some none)
    (x5_NoWidth : PySem.W.subIn K (.ref C1) (.type "BaseException") = some true)
    (x6_NoWidth : PySem.W.findIn K (.ref C1) "__class__" = some (some (.builtin "object.__class__")))
    (x7_NoWidth : PySem.W.specialIn K (.builtin "object.__class__") "__get__" = some (some (.builtin "getset_descriptor.__get__")))
    (x8_NoWidth : PySem.W.takesIn K (.builtin "object.__class__") = some true)
    (x9_NoWidth : PySem.W.mroIn K C1 (.type "object") = some true)
    (sv_NoWidth : PySem.W.subIn K (.ref C1) (.type "ValueError") = some true)
    (sb_NoWidth_WrapError : PySem.W.subIn K (.ref C1) (.ref C0) = some true)
    (sb_NoWidth_NoWidth : PySem.W.subIn K (.ref C1) (.ref C1) = some true)
    (sb_NoWidth_LongWord : PySem.W.subIn K (.ref C1) (.ref C2) = some false)
    (ne_NoWidth_LongWord : C1 ≠ C2)
    (sb_NoWidth_NoStarts : PySem.W.subIn K (.ref C1) (.ref C3) = some false)
    (ne_NoWidth_NoStarts : C1 ≠ C3)
    (sb_NoWidth_TooWide : PySem.W.subIn K (.ref C1) (.ref C4) = some false)
    (ne_NoWidth_TooWide : C1 ≠ C4)
    (sb_NoWidth_TooFew : PySem.W.subIn K (.ref C1) (.ref C5) = some false)
    (ne_NoWidth_TooFew : C1 ≠ C5)
    (sb_NoWidth_TooMany : PySem.W.subIn K (.ref C1) (.ref C6) = some false)
    (ne_NoWidth_TooMany : C1 ≠ C6)
    (sb_NoWidth_NoPlace : PySem.W.subIn K (.ref C1) (.ref C7) = some false)
    (ne_NoWidth_NoPlace : C1 ≠ C7)
    (sb_NoWidth_NoWord : PySem.W.subIn K (.ref C1) (.ref C8) = some false)
    (ne_NoWidth_NoWord : C1 ≠ C8)
    (sb_NoWidth_Full : PySem.W.subIn K (.ref C1) (.ref C9) = some false)
    (ne_NoWidth_Full : C1 ≠ C9)
    (sb_NoWidth_NoWayBack : PySem.W.subIn K (.ref C1) (.ref C10) = some false)
    (ne_NoWidth_NoWayBack : C1 ≠ C10)
    (x1_LongWord : PySem.W.excIn K C2 [.type "ValueError", .type "Exception", .type "BaseException", .type "object"] "ValueError.__new__" = true)
    (x2_LongWord : PySem.W.keepIn K (.ref C2) = true)
    (x3_LongWord : PySem.W.findIn K (.ref C2) "__getattribute__" = some (some (.builtin "BaseException.__getattribute__")))
    (x4_LongWord : PySem.W.findIn K (.ref C2) "__getattr__" = some none)
    (x5_LongWord : PySem.W.subIn K (.ref C2) (.type "BaseException") = some true)
    (x6_LongWord : PySem.W.findIn K (.ref C2) "__class__" = some (some (.builtin "object.__class__")))
    (x7_LongWord : PySem.W.specialIn K (.builtin "object.__class__") "__get__" = some (some (.builtin "getset_descriptor.__get__")))
    (x8_LongWord : PySem.W.takesIn K (.builtin "object.__class__") = some true)
    (x9_LongWord : PySem.W.mroIn K C2 (.type "object") = some true)
    (sv_LongWord : PySem.W.subIn K (.ref C2) (.type "ValueError") = some true)
    (sb_LongWord_WrapError : PySem.W.subIn K (.ref C2) (.ref C0) = some true)
    (sb_LongWord_NoWidth : PySem.W.subIn K (.ref C2) (.ref C1) = some false)
    (ne_LongWord_NoWidth : C2 ≠ C1)
    (sb_LongWord_LongWord : PySem.W.subIn K (.ref C2) (.ref C2) = some true)
    (sb_LongWord_NoStarts : PySem.W.subIn K (.ref C2) (.ref C3) = some false)
    (ne_LongWord_NoStarts : C2 ≠ C3)
    (sb_LongWord_TooWide : PySem.W.subIn K (.ref C2) (.ref C4) = some false)
    (ne_LongWord_TooWide : C2 ≠ C4)
    (sb_LongWord_TooFew : PySem.W.subIn K (.ref C2) (.ref C5) = some false)
    (ne_LongWord_TooFew : C2 ≠ C5)
    (sb_LongWord_TooMany : PySem.W.subIn K (.ref C2) (.ref C6) = some false)
    (ne_LongWord_TooMany : C2 ≠ C6)
    (sb_LongWord_NoPlace : PySem.W.subIn K (.ref C2) (.ref C7) = some false)
    (ne_LongWord_NoPlace : C2 ≠ C7)
    (sb_LongWord_NoWord : PySem.W.subIn K (.ref C2) (.ref C8) = some false)
    (ne_LongWord_NoWord : C2 ≠ C8)
    (sb_LongWord_Full : PySem.W.subIn K (.ref C2) (.ref C9) = some false)
    (ne_LongWord_Full : C2 ≠ C9)
    (sb_LongWord_NoWayBack : PySem.W.subIn K (.ref C2) (.ref C10) = some false)
    (ne_LongWord_NoWayBack : C2 ≠ C10)
    (x1_NoStarts : PySem.W.excIn K C3 [.type "ValueError", .type "Exception", .type "BaseException", .type "object"] "ValueError.__new__" = true)
    (x2_NoStarts : PySem.W.keepIn K (.ref C3) = true)
    (x3_NoStarts : PySem.W.findIn K (.ref C3) "__getattribute__" = some (some (.builtin "BaseException.__getattribute__")))
    (x4_NoStarts : PySem.W.findIn K (.ref C3) "__getattr__" = some none)
    (x5_NoStarts : PySem.W.subIn K (.ref C3) (.type "BaseException") = some true)
    (x6_NoStarts : PySem.W.findIn K (.ref C3) "__class__" = some (some (.builtin "object.__class__")))
    (x7_NoStarts : PySem.W.specialIn K (.builtin "object.__class__") "__get__" = some (some (.builtin "getset_descriptor.__get__")))
    (x8_NoStarts : PySem.W.takesIn K (.builtin "object.__class__") = some true)
    (x9_NoStarts : PySem.W.mroIn K C3 (.type "object") = some true)
    (sv_NoStarts : PySem.W.subIn K (.ref C3) (.type "ValueError") = some true)
    (sb_NoStarts_WrapError : PySem.W.subIn K (.ref C3) (.ref C0) = some true)
    (sb_NoStarts_NoWidth : PySem.W.subIn K (.ref C3) (.ref C1) = some false)
    (ne_NoStarts_NoWidth : C3 ≠ C1)
    (sb_NoStarts_LongWord : PySem.W.subIn K (.ref C3) (.ref C2) = some false)
    (ne_NoStarts_LongWord : C3 ≠ C2)
    (sb_NoStarts_NoStarts : PySem.W.subIn K (.ref C3) (.ref C3) = some true)
    (sb_NoStarts_TooWide : PySem.W.subIn K (.ref C3) (.ref C4) = some false)
    (ne_NoStarts_TooWide : C3 ≠ C4)
    (sb_NoStarts_TooFew : PySem.W.subIn K (.ref C3) (.ref C5) = some false)
    (ne_NoStarts_TooFew : C3 ≠ C5)
    (sb_NoStarts_TooMany : PySem.W.subIn K (.ref C3) (.ref C6) = some false)
    (ne_NoStarts_TooMany : C3 ≠ C6)
    (sb_NoStarts_NoPlace : PySem.W.subIn K (.ref C3) (.ref C7) = some false)
    (ne_NoStarts_NoPlace : C3 ≠ C7)
    (sb_NoStarts_NoWord : PySem.W.subIn K (.ref C3) (.ref C8) = some false)
    (ne_NoStarts_NoWord : C3 ≠ C8)
    (sb_NoStarts_Full : PySem.W.subIn K (.ref C3) (.ref C9) = some false)
    (ne_NoStarts_Full : C3 ≠ C9)
    (sb_NoStarts_NoWayBack : PySem.W.subIn K (.ref C3) (.ref C10) = some false)
    (ne_NoStarts_NoWayBack : C3 ≠ C10)
    (x1_NoPlace : PySem.W.excIn K C7 [.type "ValueError", .type "Exception", .type "BaseException", .type "object"] "ValueError.__new__" = true)
    (x2_NoPlace : PySem.W.keepIn K (.ref C7) = true)
    (x3_NoPlace : PySem.W.findIn K (.ref C7) "__getattribute__" = some (some (.builtin "BaseException.__getattribute__")))
    (x4_NoPlace : PySem.W.findIn K (.ref C7) "__getattr__" = some none)
    (x5_NoPlace : PySem.W.subIn K (.ref C7) (.type "BaseException") = some true)
    (x6_NoPlace : PySem.W.findIn K (.ref C7) "__class__" = some (some (.builtin "object.__class__")))
    (x7_NoPlace : PySem.W.specialIn K (.builtin "object.__class__") "__get__" = some (some (.builtin "getset_descriptor.__get__")))
    (x8_NoPlace : PySem.W.takesIn K (.builtin "object.__class__") = some true)
    (x9_NoPlace : PySem.W.mroIn K C7 (.type "object") = some true)
    (sv_NoPlace : PySem.W.subIn K (.ref C7) (.type "ValueError") = some true)
    (sb_NoPlace_WrapError : PySem.W.subIn K (.ref C7) (.ref C0) = some true)
    (sb_NoPlace_NoWidth : PySem.W.subIn K (.ref C7) (.ref C1) = some false)
    (ne_NoPlace_NoWidth : C7 ≠ C1)
    (sb_NoPlace_LongWord : PySem.W.subIn K (.ref C7) (.ref C2) = some false)
    (ne_NoPlace_LongWord : C7 ≠ C2)
    (sb_NoPlace_NoStarts : PySem.W.subIn K (.ref C7) (.ref C3) = some false)
    (ne_NoPlace_NoStarts : C7 ≠ C3)
    (sb_NoPlace_TooWide : PySem.W.subIn K (.ref C7) (.ref C4) = some false)
    (ne_NoPlace_TooWide : C7 ≠ C4)
    (sb_NoPlace_TooFew : PySem.W.subIn K (.ref C7) (.ref C5) = some false)
    (ne_NoPlace_TooFew : C7 ≠ C5)
    (sb_NoPlace_TooMany : PySem.W.subIn K (.ref C7) (.ref C6) = some false)
    (ne_NoPlace_TooMany : C7 ≠ C6)
    (sb_NoPlace_NoPlace : PySem.W.subIn K (.ref C7) (.ref C7) = some true)
    (sb_NoPlace_NoWord : PySem.W.subIn K (.ref C7) (.ref C8) = some false)
    (ne_NoPlace_NoWord : C7 ≠ C8)
    (sb_NoPlace_Full : PySem.W.subIn K (.ref C7) (.ref C9) = some false)
    (ne_NoPlace_Full : C7 ≠ C9)
    (sb_NoPlace_NoWayBack : PySem.W.subIn K (.ref C7) (.ref C10) = some false)
    (ne_NoPlace_NoWayBack : C7 ≠ C10)
    (x1_NoWord : PySem.W.excIn K C8 [.type "ValueError", .type "Exception", .type "BaseException", .type "object"] "ValueError.__new__" = true)
    (x2_NoWord : PySem.W.keepIn K (.ref C8) = true)
    (x3_NoWord : PySem.W.findIn K (.ref C8) "__getattribute__" = some (some (.builtin "BaseException.__getattribute__")))
    (x4_NoWord : PySem.W.findIn K (.ref C8) "__getattr__" = some none)
    (x5_NoWord : PySem.W.subIn K (.ref C8) (.type "BaseException") = some true)
    (x6_NoWord : PySem.W.findIn K (.ref C8) "__class__" = some (some (.builtin "object.__class__")))
    (x7_NoWord : PySem.W.specialIn K (.builtin "object.__class__") "__get__" = some (some (.builtin "getset_descriptor.__get__")))
    (x8_NoWord : PySem.W.takesIn K (.builtin "object.__class__") = some true)
    (x9_NoWord : PySem.W.mroIn K C8 (.type "object") = some true)
    (sv_NoWord : PySem.W.subIn K (.ref C8) (.type "ValueError") = some true)
    (sb_NoWord_WrapError : PySem.W.subIn K (.ref C8) (.ref C0) = some true)
    (sb_NoWord_NoWidth : PySem.W.subIn K (.ref C8) (.ref C1) = some false)
    (ne_NoWord_NoWidth : C8 ≠ C1)
    (sb_NoWord_LongWord : PySem.W.subIn K (.ref C8) (.ref C2) = some false)
    (ne_NoWord_LongWord : C8 ≠ C2)
    (sb_NoWord_NoStarts : PySem.W.subIn K (.ref C8) (.ref C3) = some false)
    (ne_NoWord_NoStarts : C8 ≠ C3)
    (sb_NoWord_TooWide : PySem.W.subIn K (.ref C8) (.ref C4) = some false)
    (ne_NoWord_TooWide : C8 ≠ C4)
    (sb_NoWord_TooFew : PySem.W.subIn K (.ref C8) (.ref C5) = some false)
    (ne_NoWord_TooFew : C8 ≠ C5)
    (sb_NoWord_TooMany : PySem.W.subIn K (.ref C8) (.ref C6) = some false)
    (ne_NoWord_TooMany : C8 ≠ C6)
    (sb_NoWord_NoPlace : PySem.W.subIn K (.ref C8) (.ref C7) = some false)
    (ne_NoWord_NoPlace : C8 ≠ C7)
    (sb_NoWord_NoWord : PySem.W.subIn K (.ref C8) (.ref C8) = some true)
    (sb_NoWord_Full : PySem.W.subIn K (.ref C8) (.ref C9) = some false)
    (ne_NoWord_Full : C8 ≠ C9)
    (sb_NoWord_NoWayBack : PySem.W.subIn K (.ref C8) (.ref C10) = some false)
    (ne_NoWord_NoWayBack : C8 ≠ C10)
    (x1_Full : PySem.W.excIn K C9 [.type "ValueError", .type "Exception", .type "BaseException", .type "object"] "ValueError.__new__" = true)
    (x2_Full : PySem.W.keepIn K (.ref C9) = true)
    (x3_Full : PySem.W.findIn K (.ref C9) "__getattribute__" = some (some (.builtin "BaseException.__getattribute__")))
    (x4_Full : PySem.W.findIn K (.ref C9) "__getattr__" = some none)
    (x5_Full : PySem.W.subIn K (.ref C9) (.type "BaseException") = some true)
    (x6_Full : PySem.W.findIn K (.ref C9) "__class__" = some (some (.builtin "object.__class__")))
    (x7_Full : PySem.W.specialIn K (.builtin "object.__class__") "__get__" = some (some (.builtin "getset_descriptor.__get__")))
    (x8_Full : PySem.W.takesIn K (.builtin "object.__class__") = some true)
    (x9_Full : PySem.W.mroIn K C9 (.type "object") = some true)
    (sv_Full : PySem.W.subIn K (.ref C9) (.type "ValueError") = some true)
    (sb_Full_WrapError : PySem.W.subIn K (.ref C9) (.ref C0) = some true)
    (sb_Full_NoWidth : PySem.W.subIn K (.ref C9) (.ref C1) = some false)
    (ne_Full_NoWidth : C9 ≠ C1)
    (sb_Full_LongWord : PySem.W.subIn K (.ref C9) (.ref C2) = some false)
    (ne_Full_LongWord : C9 ≠ C2)
    (sb_Full_NoStarts : PySem.W.subIn K (.ref C9) (.ref C3) = some false)
    (ne_Full_NoStarts : C9 ≠ C3)
    (sb_Full_TooWide : PySem.W.subIn K (.ref C9) (.ref C4) = some false)
    (ne_Full_TooWide : C9 ≠ C4)
    (sb_Full_TooFew : PySem.W.subIn K (.ref C9) (.ref C5) = some false)
    (ne_Full_TooFew : C9 ≠ C5)
    (sb_Full_TooMany : PySem.W.subIn K (.ref C9) (.ref C6) = some false)
    (ne_Full_TooMany : C9 ≠ C6)
    (sb_Full_NoPlace : PySem.W.subIn K (.ref C9) (.ref C7) = some false)
    (ne_Full_NoPlace : C9 ≠ C7)
    (sb_Full_NoWord : PySem.W.subIn K (.ref C9) (.ref C8) = some false)
    (ne_Full_NoWord : C9 ≠ C8)
    (sb_Full_Full : PySem.W.subIn K (.ref C9) (.ref C9) = some true)
    (sb_Full_NoWayBack : PySem.W.subIn K (.ref C9) (.ref C10) = some false)
    (ne_Full_NoWayBack : C9 ≠ C10)
    (x1_NoWayBack : PySem.W.excIn K C10 [.type "ValueError", .type "Exception", .type "BaseException", .type "object"] "ValueError.__new__" = true)
    (x2_NoWayBack : PySem.W.keepIn K (.ref C10) = true)
    (x3_NoWayBack : PySem.W.findIn K (.ref C10) "__getattribute__" = some (some (.builtin "BaseException.__getattribute__")))
    (x4_NoWayBack : PySem.W.findIn K (.ref C10) "__getattr__" = some none)
    (x5_NoWayBack : PySem.W.subIn K (.ref C10) (.type "BaseException") = some true)
    (x6_NoWayBack : PySem.W.findIn K (.ref C10) "__class__" = some (some (.builtin "object.__class__")))
    (x7_NoWayBack : PySem.W.specialIn K (.builtin "object.__class__") "__get__" = some (some (.builtin "getset_descriptor.__get__")))
    (x8_NoWayBack : PySem.W.takesIn K (.builtin "object.__class__") = some true)
    (x9_NoWayBack : PySem.W.mroIn K C10 (.type "object") = some true)
    (sv_NoWayBack : PySem.W.subIn K (.ref C10) (.type "ValueError") = some true)
    (sb_NoWayBack_WrapError : PySem.W.subIn K (.ref C10) (.ref C0) = some true)
    (sb_NoWayBack_NoWidth : PySem.W.subIn K (.ref C10) (.ref C1) = some false)
    (ne_NoWayBack_NoWidth : C10 ≠ C1)
    (sb_NoWayBack_LongWord : PySem.W.subIn K (.ref C10) (.ref C2) = some false)
    (ne_NoWayBack_LongWord : C10 ≠ C2)
    (sb_NoWayBack_NoStarts : PySem.W.subIn K (.ref C10) (.ref C3) = some false)
    (ne_NoWayBack_NoStarts : C10 ≠ C3)
    (sb_NoWayBack_TooWide : PySem.W.subIn K (.ref C10) (.ref C4) = some false)
    (ne_NoWayBack_TooWide : C10 ≠ C4)
    (sb_NoWayBack_TooFew : PySem.W.subIn K (.ref C10) (.ref C5) = some false)
    (ne_NoWayBack_TooFew : C10 ≠ C5)
    (sb_NoWayBack_TooMany : PySem.W.subIn K (.ref C10) (.ref C6) = some false)
    (ne_NoWayBack_TooMany : C10 ≠ C6)
    (sb_NoWayBack_NoPlace : PySem.W.subIn K (.ref C10) (.ref C7) = some false)
    (ne_NoWayBack_NoPlace : C10 ≠ C7)
    (sb_NoWayBack_NoWord : PySem.W.subIn K (.ref C10) (.ref C8) = some false)
    (ne_NoWayBack_NoWord : C10 ≠ C8)
    (sb_NoWayBack_Full : PySem.W.subIn K (.ref C10) (.ref C9) = some false)
    (ne_NoWayBack_Full : C10 ≠ C9)
    (sb_NoWayBack_NoWayBack : PySem.W.subIn K (.ref C10) (.ref C10) = some true)
    (pgO_Page : PySem.W.plainGet K C11 Str.empty = true)
    (hdO_Page : PySem.W.hasDictIn K C11 = true)
    (poO_Page : PySem.W.plainOver K C11 = true)
    (saO_Page : PySem.W.findIn K (.ref C11) "__setattr__" = some (some (.builtin "object.__setattr__")))
    (mkO_Page : PySem.W.makesIn K C11 = true)
    (kcO_Page : PySem.W.keepIn K (.ref C11) = true)
    (tyO_Page : PySem.W.typeIn K (.ref C11) = some (.type "type"))
    (sbO_Page : PySem.W.subIn K (.ref C11) (.ref C11) = some true)
    (i6O_Page : PySem.W.findIn K (.ref C11) "__class__" = some (some (.builtin "object.__class__")))
    (i7O_Page : PySem.W.specialIn K (.builtin "object.__class__") "__get__" = some (some (.builtin "getset_descriptor.__get__")))
    (i8O_Page : PySem.W.takesIn K (.builtin "object.__class__") = some true)
    (i9O_Page : PySem.W.mroIn K C11 (.type "object") = some true)
    (nO_Page_past : PySem.W.findIn K (.ref C11) "past" = some none)
    (nO_Page_width : PySem.W.findIn K (.ref C11) "width" = some none)
    (nO_Page_words : PySem.W.findIn K (.ref C11) "words" = some none)
    : LamX.LawAtS l w K CX0 11 63 "_law_script" mg fa h := by
  have e := hfa.symm.trans (PySem.W.mg_of X G a42)
  cases e
  have F0 := fun_mk (st := s_line_of) l0 c0 k0
  have b0 := F0.binds (ps := ["words", "begin", "end"]) fun _ _ _ _ _ _ us hl => match us, hl with | [_, _, _], _ => rfl
  have F1 := fun_mk (st := s_sizes_from) l1 c1 k1
  have b1 := F1.binds (ps := ["words", "width", "begin"]) fun _ _ _ _ _ _ us hl => match us, hl with | [_, _, _], _ => rfl
  have F2 := fun_mk (st := s_long_word) l2 c2 k2
  have b2 := F2.binds (ps := ["words", "width"]) fun _ _ _ _ _ _ us hl => match us, hl with | [_, _], _ => rfl
  have F3 := fun_mk (st := s_check_width) l3 c3 k3
  have b3 := F3.binds (ps := ["width"]) fun _ _ _ _ _ _ us hl => match us, hl with | [_], _ => rfl
  have F4 := fun_mk (st := s_check_words) l4 c4 k4
  have b4 := F4.binds (ps := ["words", "width"]) fun _ _ _ _ _ _ us hl => match us, hl with | [_, _], _ => rfl
  have F5 := fun_mk (st := s_lines_of) l5 c5 k5
  have b5 := F5.binds (ps := ["words", "starts"]) fun _ _ _ _ _ _ us hl => match us, hl with | [_, _], _ => rfl
  have F6 := fun_mk (st := s_bounds_of) l6 c6 k6
  have b6 := F6.binds (ps := ["words", "starts"]) fun _ _ _ _ _ _ us hl => match us, hl with | [_, _], _ => rfl
  have F7 := fun_mk (st := s_check_starts) l7 c7 k7
  have b7 := F7.binds (ps := ["words", "starts"]) fun _ _ _ _ _ _ us hl => match us, hl with | [_, _], _ => rfl
  have F8 := fun_mk (st := s_are_starts) l8 c8 k8
  have b8 := F8.binds (ps := ["words", "starts"]) fun _ _ _ _ _ _ us hl => match us, hl with | [_, _], _ => rfl
  have F9 := fun_mk (st := s_table_of) l9 c9 k9
  have b9 := F9.binds (ps := ["words", "width"]) fun _ _ _ _ _ _ us hl => match us, hl with | [_, _], _ => rfl
  have F10 := fun_mk (st := s_best_starts) l10 c10 k10
  have b10 := F10.binds (ps := ["words", "width"]) fun _ _ _ _ _ _ us hl => match us, hl with | [_, _], _ => rfl
  have F11 := fun_mk (st := s_first_line) l11 c11 k11
  have b11 := F11.binds (ps := ["words", "width", "begin", "table"]) fun _ _ _ _ _ _ us hl => match us, hl with | [_, _, _, _], _ => rfl
  have F12 := fun_mk (st := s_best_line) l12 c12 k12
  have b12 := F12.binds (ps := ["counts", "begin", "rest"]) fun _ _ _ _ _ _ us hl => match us, hl with | [_, _, _], _ => rfl
  have F13 := fun_mk (st := s_squares_of) l13 c13 k13
  have b13 := F13.binds (ps := ["width", "sizes"]) fun _ _ _ _ _ _ us hl => match us, hl with | [_, _], _ => rfl
  have F14 := fun_mk (st := s_words_of) l14 c14 k14
  have b14 := F14.binds (ps := ["text"]) fun _ _ _ _ _ _ us hl => match us, hl with | [_], _ => rfl
  have F15 := fun_mk (st := s_is_word) l15 c15 k15
  have b15 := F15.binds (ps := ["text"]) fun _ _ _ _ _ _ us hl => match us, hl with | [_], _ => rfl
  have F16 := fun_mk (st := s_l_cell_at) l16 c16 k16
  have b16 := F16.binds (ps := ["_law_script", "_law_k"]) fun _ _ _ _ _ _ us hl => match us, hl with | [_, _], _ => rfl
  have F17 := fun_mk (st := s_l_sign_by) l17 c17 k17
  have b17 := F17.binds (ps := ["_law_cell"]) fun _ _ _ _ _ _ us hl => match us, hl with | [_], _ => rfl
  have F18 := fun_mk (st := s_l_word_by) l18 c18 k18
  have b18 := F18.binds (ps := ["_law_cell"]) fun _ _ _ _ _ _ us hl => match us, hl with | [_], _ => rfl
  have F19 := fun_mk (st := s_l_whole) l19 c19 k19
  have b19 := F19.binds (ps := ["_law_found"]) fun _ _ _ _ _ _ us hl => match us, hl with | [_], _ => rfl
  have F20 := fun_mk (st := s_l_wholes) l20 c20 k20
  have b20 := F20.binds (ps := ["_law_found"]) fun _ _ _ _ _ _ us hl => match us, hl with | [_], _ => rfl
  have F21 := fun_mk (st := s_l_texts) l21 c21 k21
  have b21 := F21.binds (ps := ["_law_found", "_law_due_here"]) fun _ _ _ _ _ _ us hl => match us, hl with | [_, _], _ => rfl
  have F22 := fun_mk (st := s_l_longest) l22 c22 k22
  have b22 := F22.binds (ps := ["_law_row"]) fun _ _ _ _ _ _ us hl => match us, hl with | [_], _ => rfl
  have F23 := fun_mk (st := s_l_table_right) l23 c23 k23
  have b23 := F23.binds (ps := ["_law_row", "_law_width", "_law_found"]) fun _ _ _ _ _ _ us hl => match us, hl with | [_, _, _], _ => rfl
  have F24 := fun_mk (st := s_l_starts_by_table) l24 c24 k24
  have b24 := F24.binds (ps := ["_law_row", "_law_width", "_law_told_here"]) fun _ _ _ _ _ _ us hl => match us, hl with | [_, _, _], _ => rfl
  have F25 := fun_mk (st := s_l_page_width) l25 c25 k25
  have b25 := F25.binds (ps := ["_law_cell"]) fun _ _ _ _ _ _ us hl => match us, hl with | [_], _ => rfl
  have F26 := fun_mk (st := s_l_page_by) l26 c26 k26
  have b26 := F26.binds (ps := ["_law_width"]) fun _ _ _ _ _ _ us hl => match us, hl with | [_], _ => rfl
  have F27 := fun_mk (st := s_l_kind) l27 c27 k27
  have b27 := F27.binds (ps := ["_law_e"]) fun _ _ _ _ _ _ us hl => match us, hl with | [_], _ => rfl
  have F28 := fun_mk (st := s_l_told) l28 c28 k28
  have b28 := F28.binds (ps := ["_law_page", "_law_deed"]) fun _ _ _ _ _ _ us hl => match us, hl with | [_, _], _ => rfl
  have F29 := fun_mk (st := s_l_due) l29 c29 k29
  have b29 := F29.binds (ps := ["_law_row", "_law_width", "_law_past", "_law_deed"]) fun _ _ _ _ _ _ us hl => match us, hl with | [_, _, _, _], _ => rfl
  have F30 := fun_mk (st := s_l_alike_by) l30 c30 k30
  have b30 := F30.binds (ps := ["_law_cell", "_law_size"]) fun _ _ _ _ _ _ us hl => match us, hl with | [_, _], _ => rfl
  have F31 := fun_mk (st := s_l_place_by) l31 c31 k31
  have b31 := F31.binds (ps := ["_law_more", "_law_count"]) fun _ _ _ _ _ _ us hl => match us, hl with | [_, _], _ => rfl
  have F32 := fun_mk (st := s_l_deed_by) l32 c32 k32
  have b32 := F32.binds (ps := ["_law_cell", "_law_count"]) fun _ _ _ _ _ _ us hl => match us, hl with | [_, _], _ => rfl
  have F33 := fun_mk (st := s_l_one_told) l33 c33 k33
  have b33 := F33.binds (ps := ["_law_page", "_law_place"]) fun _ _ _ _ _ _ us hl => match us, hl with | [_, _], _ => rfl
  have F34 := fun_mk (st := s_l_all_told) l34 c34 k34
  have b34 := F34.binds (ps := ["_law_page", "_law_way"]) fun _ _ _ _ _ _ us hl => match us, hl with | [_, _], _ => rfl
  have F35 := fun_mk (st := s_l_shows) l35 c35 k35
  have b35 := F35.binds (ps := ["_law_row", "_law_width", "_law_told_here", "_law_held"]) fun _ _ _ _ _ _ us hl => match us, hl with | [_, _, _, _], _ => rfl
  have F36 := fun_mk (st := s_l_stands) l36 c36 k36
  have b36 := F36.binds (ps := ["_law_page", "_law_row", "_law_width", "_law_fully", "_law_held", "_law_way"]) fun _ _ _ _ _ _ us hl => match us, hl with | [_, _, _, _, _, _], _ => rfl
  have F37 := fun_mk (st := s_l_deeds_by) l37 c37 k37
  have b37 := F37.binds (ps := ["_law_cell", "_law_count", "_law_width", "_law_filled"]) fun _ _ _ _ _ _ us hl => match us, hl with | [_, _, _, _], _ => rfl
  have F38 := fun_mk (st := s_l_answered) l38 c38 k38
  have b38 := F38.binds (ps := ["_law_found", "_law_row", "_law_deed", "_law_due_here"]) fun _ _ _ _ _ _ us hl => match us, hl with | [_, _, _, _], _ => rfl
  have F39 := fun_mk (st := s_l_after) l39 c39 k39
  have b39 := F39.binds (ps := ["_law_row", "_law_width", "_law_past", "_law_deed"]) fun _ _ _ _ _ _ us hl => match us, hl with | [_, _, _, _], _ => rfl
  have F40 := fun_mk (st := s_l_step) l40 c40 k40
  have b40 := F40.binds (ps := ["_law_page", "_law_now", "_law_deed"]) fun _ _ _ _ _ _ us hl => match us, hl with | [_, _, _], _ => rfl
  have F41 := fun_mk (st := s_l_made_good) l41 c41 k41
  have b41 := F41.binds (ps := ["_law_due_here", "_law_deed"]) fun _ _ _ _ _ _ us hl => match us, hl with | [_, _], _ => rfl
  have F42 := fun_mk (st := s_law) l42 c42 k42
  have b42 := F42.binds (ps := ["_law_script"]) fun _ _ _ _ _ _ us hl => match us, hl with | [_], _ => rfl
  have F43 := fun_mk (st := s_p_init) l43 c43 k43
  have b43 := F43.binds (ps := ["self", "width"]) fun _ _ _ _ _ _ us hl => match us, hl with | [_, _], _ => rfl
  have F44 := fun_mk (st := s_p_put) l44 c44 k44
  have b44 := F44.binds (ps := ["self", "at", "word"]) fun _ _ _ _ _ _ us hl => match us, hl with | [_, _, _], _ => rfl
  have F45 := fun_mk (st := s_p_drop) l45 c45 k45
  have b45 := F45.binds (ps := ["self", "at"]) fun _ _ _ _ _ _ us hl => match us, hl with | [_, _], _ => rfl
  have F46 := fun_mk (st := s_p_widen) l46 c46 k46
  have b46 := F46.binds (ps := ["self", "width"]) fun _ _ _ _ _ _ us hl => match us, hl with | [_, _], _ => rfl
  have F47 := fun_mk (st := s_p_undo) l47 c47 k47
  have b47 := F47.binds (ps := ["self"]) fun _ _ _ _ _ _ us hl => match us, hl with | [_], _ => rfl
  have F48 := fun_mk (st := s_p_change) l48 c48 k48
  have b48 := F48.binds (ps := ["self", "words", "width"]) fun _ _ _ _ _ _ us hl => match us, hl with | [_, _, _], _ => rfl
  have F49 := fun_mk (st := s_p_words_now) l49 c49 k49
  have b49 := F49.binds (ps := ["self"]) fun _ _ _ _ _ _ us hl => match us, hl with | [_], _ => rfl
  have F50 := fun_mk (st := s_p_width_now) l50 c50 k50
  have b50 := F50.binds (ps := ["self"]) fun _ _ _ _ _ _ us hl => match us, hl with | [_], _ => rfl
  have F51 := fun_mk (st := s_p_table_now) l51 c51 k51
  have b51 := F51.binds (ps := ["self"]) fun _ _ _ _ _ _ us hl => match us, hl with | [_], _ => rfl
  have F52 := fun_mk (st := s_p_starts_now) l52 c52 k52
  have b52 := F52.binds (ps := ["self"]) fun _ _ _ _ _ _ us hl => match us, hl with | [_], _ => rfl
  have F53 := fun_mk (st := s_p_lines_now) l53 c53 k53
  have b53 := F53.binds (ps := ["self"]) fun _ _ _ _ _ _ us hl => match us, hl with | [_], _ => rfl
  have T : Txt K mg { f_line_of := f0, d_line_of := _, f_sizes_from := f1, d_sizes_from := _, f_long_word := f2, d_long_word := _, f_check_width := f3, d_check_width := _, f_check_words := f4, d_check_words := _, f_lines_of := f5, d_lines_of := _, f_bounds_of := f6, d_bounds_of := _, f_check_starts := f7, d_check_starts := _, f_are_starts := f8, d_are_starts := _, f_table_of := f9, d_table_of := _, f_best_starts := f10, d_best_starts := _, f_first_line := f11, d_first_line := _, f_best_line := f12, d_best_line := _, f_squares_of := f13, d_squares_of := _, f_words_of := f14, d_words_of := _, f_is_word := f15, d_is_word := _, f_l_cell_at := f16, d_l_cell_at := _, f_l_sign_by := f17, d_l_sign_by := _, f_l_word_by := f18, d_l_word_by := _, f_l_whole := f19, d_l_whole := _, f_l_wholes := f20, d_l_wholes := _, f_l_texts := f21, d_l_texts := _, f_l_longest := f22, d_l_longest := _, f_l_table_right := f23, d_l_table_right := _, f_l_starts_by_table := f24, d_l_starts_by_table := _, f_l_page_width := f25, d_l_page_width := _, f_l_page_by := f26, d_l_page_by := _, f_l_kind := f27, d_l_kind := _, f_l_told := f28, d_l_told := _, f_l_due := f29, d_l_due := _, f_l_alike_by := f30, d_l_alike_by := _, f_l_place_by := f31, d_l_place_by := _, f_l_deed_by := f32, d_l_deed_by := _, f_l_one_told := f33, d_l_one_told := _, f_l_all_told := f34, d_l_all_told := _, f_l_shows := f35, d_l_shows := _, f_l_stands := f36, d_l_stands := _, f_l_deeds_by := f37, d_l_deeds_by := _, f_l_answered := f38, d_l_answered := _, f_l_after := f39, d_l_after := _, f_l_step := f40, d_l_step := _, f_l_made_good := f41, d_l_made_good := _, f_law := fa, d_law := _, f_p_init := f43, d_p_init := _, f_p_put := f44, d_p_put := _, f_p_drop := f45, d_p_drop := _, f_p_widen := f46, d_p_widen := _, f_p_undo := f47, d_p_undo := _, f_p_change := f48, d_p_change := _, f_p_words_now := f49, d_p_words_now := _, f_p_width_now := f50, d_p_width_now := _, f_p_table_now := f51, d_p_table_now := _, f_p_starts_now := f52, d_p_starts_now := _, f_p_lines_now := f53, d_p_lines_now := _, c_WrapError := C0, c_NoWidth := C1, c_LongWord := C2, c_NoStarts := C3, c_TooWide := C4, c_TooFew := C5, c_TooMany := C6, c_NoPlace := C7, c_NoWord := C8, c_Full := C9, c_NoWayBack := C10, c_Page := C11, k_are_starts := kc0, p_are_starts := kp0 } := {
    F_line_of := F0, g_line_of := PySem.W.mg_of X G a0, b_line_of := b0,
    F_sizes_from := F1, g_sizes_from := PySem.W.mg_of X G a1, b_sizes_from := b1,
    F_long_word := F2, g_long_word := PySem.W.mg_of X G a2, b_long_word := b2,
    F_check_width := F3, g_check_width := PySem.W.mg_of X G a3, b_check_width := b3,
    F_check_words := F4, g_check_words := PySem.W.mg_of X G a4, b_check_words := b4,
    F_lines_of := F5, g_lines_of := PySem.W.mg_of X G a5, b_lines_of := b5,
    F_bounds_of := F6, g_bounds_of := PySem.W.mg_of X G a6, b_bounds_of := b6,
    F_check_starts := F7, g_check_starts := PySem.W.mg_of X G a7, b_check_starts := b7,
    F_are_starts := F8, g_are_starts := PySem.W.mg_of X G a8, b_are_starts := b8,
    F_table_of := F9, g_table_of := PySem.W.mg_of X G a9, b_table_of := b9,
    F_best_starts := F10, g_best_starts := PySem.W.mg_of X G a10, b_best_starts := b10,
    F_first_line := F11, g_first_line := PySem.W.mg_of X G a11, b_first_line := b11,
    F_best_line := F12, g_best_line := PySem.W.mg_of X G a12, b_best_line := b12,
    F_squares_of := F13, g_squares_of := PySem.W.mg_of X G a13, b_squares_of := b13,
    F_words_of := F14, g_words_of := PySem.W.mg_of X G a14, b_words_of := b14,
    F_is_word := F15, g_is_word := PySem.W.mg_of X G a15, b_is_word := b15,
    F_l_cell_at := F16, g_l_cell_at := PySem.W.mg_of X G a16, b_l_cell_at := b16,
    F_l_sign_by := F17, g_l_sign_by := PySem.W.mg_of X G a17, b_l_sign_by := b17,
    F_l_word_by := F18, g_l_word_by := PySem.W.mg_of X G a18, b_l_word_by := b18,
    F_l_whole := F19, g_l_whole := PySem.W.mg_of X G a19, b_l_whole := b19,
    F_l_wholes := F20, g_l_wholes := PySem.W.mg_of X G a20, b_l_wholes := b20,
    F_l_texts := F21, g_l_texts := PySem.W.mg_of X G a21, b_l_texts := b21,
    F_l_longest := F22, g_l_longest := PySem.W.mg_of X G a22, b_l_longest := b22,
    F_l_table_right := F23, g_l_table_right := PySem.W.mg_of X G a23, b_l_table_right := b23,
    F_l_starts_by_table := F24, g_l_starts_by_table := PySem.W.mg_of X G a24, b_l_starts_by_table := b24,
    F_l_page_width := F25, g_l_page_width := PySem.W.mg_of X G a25, b_l_page_width := b25,
    F_l_page_by := F26, g_l_page_by := PySem.W.mg_of X G a26, b_l_page_by := b26,
    F_l_kind := F27, g_l_kind := PySem.W.mg_of X G a27, b_l_kind := b27,
    F_l_told := F28, g_l_told := PySem.W.mg_of X G a28, b_l_told := b28,
    F_l_due := F29, g_l_due := PySem.W.mg_of X G a29, b_l_due := b29,
    F_l_alike_by := F30, g_l_alike_by := PySem.W.mg_of X G a30, b_l_alike_by := b30,
    F_l_place_by := F31, g_l_place_by := PySem.W.mg_of X G a31, b_l_place_by := b31,
    F_l_deed_by := F32, g_l_deed_by := PySem.W.mg_of X G a32, b_l_deed_by := b32,
    F_l_one_told := F33, g_l_one_told := PySem.W.mg_of X G a33, b_l_one_told := b33,
    F_l_all_told := F34, g_l_all_told := PySem.W.mg_of X G a34, b_l_all_told := b34,
    F_l_shows := F35, g_l_shows := PySem.W.mg_of X G a35, b_l_shows := b35,
    F_l_stands := F36, g_l_stands := PySem.W.mg_of X G a36, b_l_stands := b36,
    F_l_deeds_by := F37, g_l_deeds_by := PySem.W.mg_of X G a37, b_l_deeds_by := b37,
    F_l_answered := F38, g_l_answered := PySem.W.mg_of X G a38, b_l_answered := b38,
    F_l_after := F39, g_l_after := PySem.W.mg_of X G a39, b_l_after := b39,
    F_l_step := F40, g_l_step := PySem.W.mg_of X G a40, b_l_step := b40,
    F_l_made_good := F41, g_l_made_good := PySem.W.mg_of X G a41, b_l_made_good := b41,
    F_law := F42, g_law := PySem.W.mg_of X G a42, b_law := b42,
    F_p_init := F43, mk_Page := ⟨mkO_Page, a43, i43, kcO_Page⟩, b_p_init := b43,
    F_p_put := F44, me_p_put := ⟨a44, i44, k44⟩, b_p_put := b44,
    F_p_drop := F45, me_p_drop := ⟨a45, i45, k45⟩, b_p_drop := b45,
    F_p_widen := F46, me_p_widen := ⟨a46, i46, k46⟩, b_p_widen := b46,
    F_p_undo := F47, me_p_undo := ⟨a47, i47, k47⟩, b_p_undo := b47,
    F_p_change := F48, me_p_change := ⟨a48, i48, k48⟩, b_p_change := b48,
    F_p_words_now := F49, me_p_words_now := ⟨a49, i49, k49⟩, b_p_words_now := b49,
    F_p_width_now := F50, me_p_width_now := ⟨a50, i50, k50⟩, b_p_width_now := b50,
    F_p_table_now := F51, me_p_table_now := ⟨a51, i51, k51⟩, b_p_table_now := b51,
    F_p_starts_now := F52, me_p_starts_now := ⟨a52, i52, k52⟩, b_p_starts_now := b52,
    F_p_lines_now := F53, me_p_lines_now := ⟨a53, i53, k53⟩, b_p_lines_now := b53,
    g_MOST_WORDS := ⟨_, PySem.W.mg_of X G gM0⟩,
    hc_are_starts := h0,
    m_ValueError := PySem.W.mg_none_of X G z0,
    m_all := PySem.W.mg_none_of X G z1,
    m_bool := PySem.W.mg_none_of X G z2,
    m_enumerate := PySem.W.mg_none_of X G z3,
    m_int := PySem.W.mg_none_of X G z4,
    m_isinstance := PySem.W.mg_none_of X G z5,
    m_len := PySem.W.mg_none_of X G z6,
    m_list := PySem.W.mg_none_of X G z7,
    m_max := PySem.W.mg_none_of X G z8,
    m_range := PySem.W.mg_none_of X G z9,
    m_reversed := PySem.W.mg_none_of X G z10,
    m_str := PySem.W.mg_none_of X G z11,
    m_sum := PySem.W.mg_none_of X G z12,
    m_zip := PySem.W.mg_none_of X G z13,
    gc_WrapError := PySem.W.mg_of X G y0,
    gc_NoWidth := PySem.W.mg_of X G y1,
    gc_LongWord := PySem.W.mg_of X G y2,
    gc_NoStarts := PySem.W.mg_of X G y3,
    gc_TooWide := PySem.W.mg_of X G y4,
    gc_TooFew := PySem.W.mg_of X G y5,
    gc_TooMany := PySem.W.mg_of X G y6,
    gc_NoPlace := PySem.W.mg_of X G y7,
    gc_NoWord := PySem.W.mg_of X G y8,
    gc_Full := PySem.W.mg_of X G y9,
    gc_NoWayBack := PySem.W.mg_of X G y10,
    gc_Page := PySem.W.mg_of X G y11,
    cl_Page := ⟨pgO_Page, hdO_Page, poO_Page, saO_Page⟩, tyO_Page := tyO_Page, sbO_Page := sbO_Page,
    i6O_Page := i6O_Page, i7O_Page := i7O_Page, i8O_Page := i8O_Page, i9O_Page := i9O_Page,
    na_Page_past := nO_Page_past,
    na_Page_width := nO_Page_width,
    na_Page_words := nO_Page_words,
    hd_WrapError := hd_WrapError, ty_WrapError := ty_WrapError,
    hd_NoWidth := hd_NoWidth, ty_NoWidth := ty_NoWidth,
    hd_LongWord := hd_LongWord, ty_LongWord := ty_LongWord,
    hd_NoStarts := hd_NoStarts, ty_NoStarts := ty_NoStarts,
    hd_TooWide := hd_TooWide, ty_TooWide := ty_TooWide,
    hd_TooFew := hd_TooFew, ty_TooFew := ty_TooFew,
    hd_TooMany := hd_TooMany, ty_TooMany := ty_TooMany,
    hd_NoPlace := hd_NoPlace, ty_NoPlace := ty_NoPlace,
    hd_NoWord := hd_NoWord, ty_NoWord := ty_NoWord,
    hd_Full := hd_Full, ty_Full := ty_Full,
    hd_NoWayBack := hd_NoWayBack, ty_NoWayBack := ty_NoWayBack,
    bw := bw,
    ex_NoWidth := ⟨x1_NoWidth, x2_NoWidth, ty_NoWidth, ⟨x3_NoWidth, x4_NoWidth, x5_NoWidth, hd_NoWidth, x6_NoWidth, x7_NoWidth, x8_NoWidth, x9_NoWidth⟩⟩, sv_NoWidth := sv_NoWidth,
    sb_NoWidth_WrapError := sb_NoWidth_WrapError,
    sb_NoWidth_NoWidth := sb_NoWidth_NoWidth,
    sb_NoWidth_LongWord := sb_NoWidth_LongWord,
    ne_NoWidth_LongWord := ne_NoWidth_LongWord,
    sb_NoWidth_NoStarts := sb_NoWidth_NoStarts,
    ne_NoWidth_NoStarts := ne_NoWidth_NoStarts,
    sb_NoWidth_TooWide := sb_NoWidth_TooWide,
    ne_NoWidth_TooWide := ne_NoWidth_TooWide,
    sb_NoWidth_TooFew := sb_NoWidth_TooFew,
    ne_NoWidth_TooFew := ne_NoWidth_TooFew,
    sb_NoWidth_TooMany := sb_NoWidth_TooMany,
    ne_NoWidth_TooMany := ne_NoWidth_TooMany,
    sb_NoWidth_NoPlace := sb_NoWidth_NoPlace,
    ne_NoWidth_NoPlace := ne_NoWidth_NoPlace,
    sb_NoWidth_NoWord := sb_NoWidth_NoWord,
    ne_NoWidth_NoWord := ne_NoWidth_NoWord,
    sb_NoWidth_Full := sb_NoWidth_Full,
    ne_NoWidth_Full := ne_NoWidth_Full,
    sb_NoWidth_NoWayBack := sb_NoWidth_NoWayBack,
    ne_NoWidth_NoWayBack := ne_NoWidth_NoWayBack,
    ex_LongWord := ⟨x1_LongWord, x2_LongWord, ty_LongWord, ⟨x3_LongWord, x4_LongWord, x5_LongWord, hd_LongWord, x6_LongWord, x7_LongWord, x8_LongWord, x9_LongWord⟩⟩, sv_LongWord := sv_LongWord,
    sb_LongWord_WrapError := sb_LongWord_WrapError,
    sb_LongWord_NoWidth := sb_LongWord_NoWidth,
    ne_LongWord_NoWidth := ne_LongWord_NoWidth,
    sb_LongWord_LongWord := sb_LongWord_LongWord,
    sb_LongWord_NoStarts := sb_LongWord_NoStarts,
    ne_LongWord_NoStarts := ne_LongWord_NoStarts,
    sb_LongWord_TooWide := sb_LongWord_TooWide,
    ne_LongWord_TooWide := ne_LongWord_TooWide,
    sb_LongWord_TooFew := sb_LongWord_TooFew,
    ne_LongWord_TooFew := ne_LongWord_TooFew,
    sb_LongWord_TooMany := sb_LongWord_TooMany,
    ne_LongWord_TooMany := ne_LongWord_TooMany,
    sb_LongWord_NoPlace := sb_LongWord_NoPlace,
    ne_LongWord_NoPlace := ne_LongWord_NoPlace,
    sb_LongWord_NoWord := sb_LongWord_NoWord,
    ne_LongWord_NoWord := ne_LongWord_NoWord,
    sb_LongWord_Full := sb_LongWord_Full,
    ne_LongWord_Full := ne_LongWord_Full,
    sb_LongWord_NoWayBack := sb_LongWord_NoWayBack,
    ne_LongWord_NoWayBack := ne_LongWord_NoWayBack,
    ex_NoStarts := ⟨x1_NoStarts, x2_NoStarts, ty_NoStarts, ⟨x3_NoStarts, x4_NoStarts, x5_NoStarts, hd_NoStarts, x6_NoStarts, x7_NoStarts, x8_NoStarts, x9_NoStarts⟩⟩, sv_NoStarts := sv_NoStarts,
    sb_NoStarts_WrapError := sb_NoStarts_WrapError,
    sb_NoStarts_NoWidth := sb_NoStarts_NoWidth,
    ne_NoStarts_NoWidth := ne_NoStarts_NoWidth,
    sb_NoStarts_LongWord := sb_NoStarts_LongWord,
    ne_NoStarts_LongWord := ne_NoStarts_LongWord,
    sb_NoStarts_NoStarts := sb_NoStarts_NoStarts,
    sb_NoStarts_TooWide := sb_NoStarts_TooWide,
    ne_NoStarts_TooWide := ne_NoStarts_TooWide,
    sb_NoStarts_TooFew := sb_NoStarts_TooFew,
    ne_NoStarts_TooFew := ne_NoStarts_TooFew,
    sb_NoStarts_TooMany := sb_NoStarts_TooMany,
    ne_NoStarts_TooMany := ne_NoStarts_TooMany,
    sb_NoStarts_NoPlace := sb_NoStarts_NoPlace,
    ne_NoStarts_NoPlace := ne_NoStarts_NoPlace,
    sb_NoStarts_NoWord := sb_NoStarts_NoWord,
    ne_NoStarts_NoWord := ne_NoStarts_NoWord,
    sb_NoStarts_Full := sb_NoStarts_Full,
    ne_NoStarts_Full := ne_NoStarts_Full,
    sb_NoStarts_NoWayBack := sb_NoStarts_NoWayBack,
    ne_NoStarts_NoWayBack := ne_NoStarts_NoWayBack,
    ex_NoPlace := ⟨x1_NoPlace, x2_NoPlace, ty_NoPlace, ⟨x3_NoPlace, x4_NoPlace, x5_NoPlace, hd_NoPlace, x6_NoPlace, x7_NoPlace, x8_NoPlace, x9_NoPlace⟩⟩, sv_NoPlace := sv_NoPlace,
    sb_NoPlace_WrapError := sb_NoPlace_WrapError,
    sb_NoPlace_NoWidth := sb_NoPlace_NoWidth,
    ne_NoPlace_NoWidth := ne_NoPlace_NoWidth,
    sb_NoPlace_LongWord := sb_NoPlace_LongWord,
    ne_NoPlace_LongWord := ne_NoPlace_LongWord,
    sb_NoPlace_NoStarts := sb_NoPlace_NoStarts,
    ne_NoPlace_NoStarts := ne_NoPlace_NoStarts,
    sb_NoPlace_TooWide := sb_NoPlace_TooWide,
    ne_NoPlace_TooWide := ne_NoPlace_TooWide,
    sb_NoPlace_TooFew := sb_NoPlace_TooFew,
    ne_NoPlace_TooFew := ne_NoPlace_TooFew,
    sb_NoPlace_TooMany := sb_NoPlace_TooMany,
    ne_NoPlace_TooMany := ne_NoPlace_TooMany,
    sb_NoPlace_NoPlace := sb_NoPlace_NoPlace,
    sb_NoPlace_NoWord := sb_NoPlace_NoWord,
    ne_NoPlace_NoWord := ne_NoPlace_NoWord,
    sb_NoPlace_Full := sb_NoPlace_Full,
    ne_NoPlace_Full := ne_NoPlace_Full,
    sb_NoPlace_NoWayBack := sb_NoPlace_NoWayBack,
    ne_NoPlace_NoWayBack := ne_NoPlace_NoWayBack,
    ex_NoWord := ⟨x1_NoWord, x2_NoWord, ty_NoWord, ⟨x3_NoWord, x4_NoWord, x5_NoWord, hd_NoWord, x6_NoWord, x7_NoWord, x8_NoWord, x9_NoWord⟩⟩, sv_NoWord := sv_NoWord,
    sb_NoWord_WrapError := sb_NoWord_WrapError,
    sb_NoWord_NoWidth := sb_NoWord_NoWidth,
    ne_NoWord_NoWidth := ne_NoWord_NoWidth,
    sb_NoWord_LongWord := sb_NoWord_LongWord,
    ne_NoWord_LongWord := ne_NoWord_LongWord,
    sb_NoWord_NoStarts := sb_NoWord_NoStarts,
    ne_NoWord_NoStarts := ne_NoWord_NoStarts,
    sb_NoWord_TooWide := sb_NoWord_TooWide,
    ne_NoWord_TooWide := ne_NoWord_TooWide,
    sb_NoWord_TooFew := sb_NoWord_TooFew,
    ne_NoWord_TooFew := ne_NoWord_TooFew,
    sb_NoWord_TooMany := sb_NoWord_TooMany,
    ne_NoWord_TooMany := ne_NoWord_TooMany,
    sb_NoWord_NoPlace := sb_NoWord_NoPlace,
    ne_NoWord_NoPlace := ne_NoWord_NoPlace,
    sb_NoWord_NoWord := sb_NoWord_NoWord,
    sb_NoWord_Full := sb_NoWord_Full,
    ne_NoWord_Full := ne_NoWord_Full,
    sb_NoWord_NoWayBack := sb_NoWord_NoWayBack,
    ne_NoWord_NoWayBack := ne_NoWord_NoWayBack,
    ex_Full := ⟨x1_Full, x2_Full, ty_Full, ⟨x3_Full, x4_Full, x5_Full, hd_Full, x6_Full, x7_Full, x8_Full, x9_Full⟩⟩, sv_Full := sv_Full,
    sb_Full_WrapError := sb_Full_WrapError,
    sb_Full_NoWidth := sb_Full_NoWidth,
    ne_Full_NoWidth := ne_Full_NoWidth,
    sb_Full_LongWord := sb_Full_LongWord,
    ne_Full_LongWord := ne_Full_LongWord,
    sb_Full_NoStarts := sb_Full_NoStarts,
    ne_Full_NoStarts := ne_Full_NoStarts,
    sb_Full_TooWide := sb_Full_TooWide,
    ne_Full_TooWide := ne_Full_TooWide,
    sb_Full_TooFew := sb_Full_TooFew,
    ne_Full_TooFew := ne_Full_TooFew,
    sb_Full_TooMany := sb_Full_TooMany,
    ne_Full_TooMany := ne_Full_TooMany,
    sb_Full_NoPlace := sb_Full_NoPlace,
    ne_Full_NoPlace := ne_Full_NoPlace,
    sb_Full_NoWord := sb_Full_NoWord,
    ne_Full_NoWord := ne_Full_NoWord,
    sb_Full_Full := sb_Full_Full,
    sb_Full_NoWayBack := sb_Full_NoWayBack,
    ne_Full_NoWayBack := ne_Full_NoWayBack,
    ex_NoWayBack := ⟨x1_NoWayBack, x2_NoWayBack, ty_NoWayBack, ⟨x3_NoWayBack, x4_NoWayBack, x5_NoWayBack, hd_NoWayBack, x6_NoWayBack, x7_NoWayBack, x8_NoWayBack, x9_NoWayBack⟩⟩, sv_NoWayBack := sv_NoWayBack,
    sb_NoWayBack_WrapError := sb_NoWayBack_WrapError,
    sb_NoWayBack_NoWidth := sb_NoWayBack_NoWidth,
    ne_NoWayBack_NoWidth := ne_NoWayBack_NoWidth,
    sb_NoWayBack_LongWord := sb_NoWayBack_LongWord,
    ne_NoWayBack_LongWord := ne_NoWayBack_LongWord,
    sb_NoWayBack_NoStarts := sb_NoWayBack_NoStarts,
    ne_NoWayBack_NoStarts := ne_NoWayBack_NoStarts,
    sb_NoWayBack_TooWide := sb_NoWayBack_TooWide,
    ne_NoWayBack_TooWide := ne_NoWayBack_TooWide,
    sb_NoWayBack_TooFew := sb_NoWayBack_TooFew,
    ne_NoWayBack_TooFew := ne_NoWayBack_TooFew,
    sb_NoWayBack_TooMany := sb_NoWayBack_TooMany,
    ne_NoWayBack_TooMany := ne_NoWayBack_TooMany,
    sb_NoWayBack_NoPlace := sb_NoWayBack_NoPlace,
    ne_NoWayBack_NoPlace := ne_NoWayBack_NoPlace,
    sb_NoWayBack_NoWord := sb_NoWayBack_NoWord,
    ne_NoWayBack_NoWord := ne_NoWayBack_NoWord,
    sb_NoWayBack_Full := sb_NoWayBack_Full,
    ne_NoWayBack_Full := ne_NoWayBack_Full,
    sb_NoWayBack_NoWayBack := sb_NoWayBack_NoWayBack }
  have t0 := TwT.tab_in a8 l8 h0 q0 w0
  refine ⟨_, [(kc0, kp0)], sp_law K _, ?_, ?_, ?_, fun s v => .of_eq rfl, ?_, fun base _ _ hTB => ok_law T ⟨⟨(hTB (kc0, kp0) (by simp)).code, (hTB (kc0, kp0) (by simp)).bm, (hTB (kc0, kp0) (by simp)).gP⟩⟩⟩
  · exact fun p hp => by
      simp only [List.mem_cons, List.not_mem_nil, or_false] at hp
      rcases hp with rfl
      · exact (TO _ _ _ _ v0 t0).2
  · exact fun p hp => by
      simp only [List.mem_cons, List.not_mem_nil, or_false] at hp
      rcases hp with rfl
      · exact u0
  · exact fun p hp => by
      simp only [List.mem_cons, List.not_mem_nil, or_false] at hp
      rcases hp with rfl
      · exact (TO _ _ _ _ v0 t0).1
  · exact fun H a ns hl _ hH hS => ⟨a, ns, rfl, hS, hl, TwT.triples_nil (hH (kc0, kp0) (by simp)), fun _ => rfl⟩
end Pf
open PySem PySem.W PyProof.Rows
set_option maxHeartbeats 0 in
theorem PySem.Challenge.cw_textwrapper_k14_whole_page_kept_holds : PySem.Challenge.rw_textwrapper_k14_whole_page_kept.Holds := by
  w_on; o_law; k_head; (case hw => w_witness2)
  k_fill
  refine TwT.walk_ofG (l := PySem.Challenge.rw_textwrapper_k14_whole_page_kept) (n := 63) (k := 11) (x := "_law_script") (CX := fun _ => L2.CX0) rfl (by decide) rfl ⟨rfl, by decide, by decide⟩ (fun w h Y => PySem.W.kIn_of Y) ?F (fun _ _ _ _ _ h => h)
  case F =>
    intro w mg fa h KX G hmg TO
    refine' Pf.all_mk KX G hmg TO ?a0 ?l0 ?c0 ?k0 ?a1 ?l1 ?c1 ?k1 ?a2 ?l2 ?c2 ?k2 ?a3 ?l3 ?c3 ?k3 ?a4 ?l4 ?c4 ?k4 ?a5 ?l5 ?c5 ?k5 ?a6 ?l6 ?c6 ?k6 ?a7 ?l7 ?c7 ?k7 ?a8 ?l8 ?c8 ?k8 ?a9 ?l9 ?c9 ?k9 ?a10 ?l10 ?c10 ?k10 ?a11 ?l11 ?c11 ?k11 ?a12 ?l12 ?c12 ?k12 ?a13 ?l13 ?c13 ?k13 ?a14 ?l14 ?c14 ?k14 ?a15 ?l15 ?c15 ?k15 ?a16 ?l16 ?c16 ?k16 ?a17 ?l17 ?c17 ?k17 ?a18 ?l18 ?c18 ?k18 ?a19 ?l19 ?c19 ?k19 ?a20 ?l20 ?c20 ?k20 ?a21 ?l21 ?c21 ?k21 ?a22 ?l22 ?c22 ?k22 ?a23 ?l23 ?c23 ?k23 ?a24 ?l24 ?c24 ?k24 ?a25 ?l25 ?c25 ?k25 ?a26 ?l26 ?c26 ?k26 ?a27 ?l27 ?c27 ?k27 ?a28 ?l28 ?c28 ?k28 ?a29 ?l29 ?c29 ?k29 ?a30 ?l30 ?c30 ?k30 ?a31 ?l31 ?c31 ?k31 ?a32 ?l32 ?c32 ?k32 ?a33 ?l33 ?c33 ?k33 ?a34 ?l34 ?c34 ?k34 ?a35 ?l35 ?c35 ?k35 ?a36 ?l36 ?c36 ?k36 ?a37 ?l37 ?c37 ?k37 ?a38 ?l38 ?c38 ?k38 ?a39 ?l39 ?c39 ?k39 ?a40 ?l40 ?c40 ?k40 ?a41 ?l41 ?c41 ?k41 ?a42 ?l42 ?c42 ?k42 ?a43 ?i43 ?l43 ?c43 ?k43 ?a44 ?i44 ?l44 ?c44 ?k44 ?a45 ?i45 ?l45 ?c45 ?k45 ?a46 ?i46 ?l46 ?c46 ?k46 ?a47 ?i47 ?l47 ?c47 ?k47 ?a48 ?i48 ?l48 ?c48 ?k48 ?a49 ?i49 ?l49 ?c49 ?k49 ?a50 ?i50 ?l50 ?c50 ?k50 ?a51 ?i51 ?l51 ?c51 ?k51 ?a52 ?i52 ?l52 ?c52 ?k52 ?a53 ?i53 ?l53 ?c53 ?k53 ?v0 ?h0 ?q0 ?w0 ?u0 ?gM0 ?z0 ?z1 ?z2 ?z3 ?z4 ?z5 ?z6 ?z7 ?z8 ?z9 ?z10 ?z11 ?z12 ?z13 ?y0 ?y1 ?y2 ?y3 ?y4 ?y5 ?y6 ?y7 ?y8 ?y9 ?y10 ?y11 ?hd_WrapError ?ty_WrapError ?hd_NoWidth ?ty_NoWidth ?hd_LongWord ?ty_LongWord ?hd_NoStarts ?ty_NoStarts ?hd_TooWide ?ty_TooWide ?hd_TooFew ?ty_TooFew ?hd_TooMany ?ty_TooMany ?hd_NoPlace ?ty_NoPlace ?hd_NoWord ?ty_NoWord ?hd_Full ?ty_Full ?hd_NoWayBack ?ty_NoWayBack ?bw ?x1_NoWidth ?x2_NoWidth ?x3_NoWidth ?x4_NoWidth ?x5_NoWidth ?x6_NoWidth ?x7_NoWidth ?x8_NoWidth ?x9_NoWidth ?sv_NoWidth ?sb_NoWidth_WrapError ?sb_NoWidth_NoWidth ?sb_NoWidth_LongWord ?ne_NoWidth_LongWord ?sb_NoWidth_NoStarts ?ne_NoWidth_NoStarts ?sb_NoWidth_TooWide ?ne_NoWidth_TooWide ?sb_NoWidth_TooFew ?ne_NoWidth_TooFew ?sb_NoWidth_TooMany ?ne_NoWidth_TooMany ?sb_NoWidth_NoPlace ?ne_NoWidth_NoPlace ?sb_NoWidth_NoWord ?ne_NoWidth_NoWord ?sb_NoWidth_Full ?ne_NoWidth_Full ?sb_NoWidth_NoWayBack ?ne_NoWidth_NoWayBack ?x1_LongWord ?x2_LongWord ?x3_LongWord ?x4_LongWord ?x5_LongWord ?x6_LongWord ?x7_LongWord ?x8_LongWord ?x9_LongWord ?sv_LongWord ?sb_LongWord_WrapError ?sb_LongWord_NoWidth ?ne_LongWord_NoWidth ?sb_LongWord_LongWord ?sb_LongWord_NoStarts ?ne_LongWord_NoStarts ?sb_LongWord_TooWide ?ne_LongWord_TooWide ?sb_LongWord_TooFew ?ne_LongWord_TooFew ?sb_LongWord_TooMany ?ne_LongWord_TooMany ?sb_LongWord_NoPlace ?ne_LongWord_NoPlace ?sb_LongWord_NoWord ?ne_LongWord_NoWord ?sb_LongWord_Full ?ne_LongWord_Full ?sb_LongWord_NoWayBack ?ne_LongWord_NoWayBack ?x1_NoStarts ?x2_NoStarts ?x3_NoStarts ?x4_NoStarts ?x5_NoStarts ?x6_NoStarts ?x7_NoStarts ?x8_NoStarts ?x9_NoStarts ?sv_NoStarts ?sb_NoStarts_WrapError ?sb_NoStarts_NoWidth ?ne_NoStarts_NoWidth ?sb_NoStarts_LongWord ?ne_NoStarts_LongWord ?sb_NoStarts_NoStarts ?sb_NoStarts_TooWide ?ne_NoStarts_TooWide ?sb_NoStarts_TooFew ?ne_NoStarts_TooFew ?sb_NoStarts_TooMany ?ne_NoStarts_TooMany ?sb_NoStarts_NoPlace ?ne_NoStarts_NoPlace ?sb_NoStarts_NoWord ?ne_NoStarts_NoWord ?sb_NoStarts_Full ?ne_NoStarts_Full ?sb_NoStarts_NoWayBack ?ne_NoStarts_NoWayBack ?x1_NoPlace ?x2_NoPlace ?x3_NoPlace ?x4_NoPlace ?x5_NoPlace ?x6_NoPlace ?x7_NoPlace ?x8_NoPlace ?x9_NoPlace ?sv_NoPlace ?sb_NoPlace_WrapError ?sb_NoPlace_NoWidth ?ne_NoPlace_NoWidth ?sb_NoPlace_LongWord ?ne_NoPlace_LongWord ?sb_NoPlace_NoStarts ?ne_NoPlace_NoStarts ?sb_NoPlace_TooWide ?ne_NoPlace_TooWide ?sb_NoPlace_TooFew ?ne_NoPlace_TooFew ?sb_NoPlace_TooMany ?ne_NoPlace_TooMany ?sb_NoPlace_NoPlace ?sb_NoPlace_NoWord ?ne_NoPlace_NoWord ?sb_NoPlace_Full ?ne_NoPlace_Full ?sb_NoPlace_NoWayBack ?ne_NoPlace_NoWayBack ?x1_NoWord ?x2_NoWord ?x3_NoWord ?x4_NoWord ?x5_NoWord ?x6_NoWord ?x7_NoWord ?x8_NoWord ?x9_NoWord ?sv_NoWord ?sb_NoWord_WrapError ?sb_NoWord_NoWidth ?ne_NoWord_NoWidth ?sb_NoWord_LongWord ?ne_NoWord_LongWord ?sb_NoWord_NoStarts ?ne_NoWord_NoStarts ?sb_NoWord_TooWide ?ne_NoWord_TooWide ?sb_NoWord_TooFew ?ne_NoWord_TooFew ?sb_NoWord_TooMany ?ne_NoWord_TooMany ?sb_NoWord_NoPlace ?ne_NoWord_NoPlace ?sb_NoWord_NoWord ?sb_NoWord_Full ?ne_NoWord_Full ?sb_NoWord_NoWayBack ?ne_NoWord_NoWayBack ?x1_Full ?x2_Full ?x3_Full ?x4_Full ?x5_Full ?x6_Full ?x7_Full ?x8_Full ?x9_Full ?sv_Full ?sb_Full_WrapError ?sb_Full_NoWidth ?ne_Full_NoWidth ?sb_Full_LongWord ?ne_Full_LongWord ?sb_Full_NoStarts ?ne_Full_NoStarts ?sb_Full_TooWide ?ne_Full_TooWide ?sb_Full_TooFew ?ne_Full_TooFew ?sb_Full_TooMany ?ne_Full_TooMany ?sb_Full_NoPlace ?ne_Full_NoPlace ?sb_Full_NoWord ?ne_Full_NoWord ?sb_Full_Full ?sb_Full_NoWayBack ?ne_Full_NoWayBack ?x1_NoWayBack ?x2_NoWayBack ?x3_NoWayBack ?x4_NoWayBack ?x5_NoWayBack ?x6_NoWayBack ?x7_NoWayBack ?x8_NoWayBack ?x9_NoWayBack ?sv_NoWayBack ?sb_NoWayBack_WrapError ?sb_NoWayBack_NoWidth ?ne_NoWayBack_NoWidth ?sb_NoWayBack_LongWord ?ne_NoWayBack_LongWord ?sb_NoWayBack_NoStarts ?ne_NoWayBack_NoStarts ?sb_NoWayBack_TooWide ?ne_NoWayBack_TooWide ?sb_NoWayBack_TooFew ?ne_NoWayBack_TooFew ?sb_NoWayBack_TooMany ?ne_NoWayBack_TooMany ?sb_NoWayBack_NoPlace ?ne_NoWayBack_NoPlace ?sb_NoWayBack_NoWord ?ne_NoWayBack_NoWord ?sb_NoWayBack_Full ?ne_NoWayBack_Full ?sb_NoWayBack_NoWayBack ?pgO_Page ?hdO_Page ?poO_Page ?saO_Page ?mkO_Page ?kcO_Page ?tyO_Page ?sbO_Page ?i6O_Page ?i7O_Page ?i8O_Page ?i9O_Page ?nO_Page_past ?nO_Page_width ?nO_Page_words
    (case y0 => k_is); (case y1 => k_is); (case y2 => k_is); (case y3 => k_is); (case y4 => k_is); (case y5 => k_is); (case y6 => k_is); (case y7 => k_is)
    (case y8 => k_is); (case y9 => k_is); (case y10 => k_is); (case y11 => k_is); (case a0 => k_is); (case l0 => k_is); (case c0 => k_is); (case k0 => k_is)
    (case a1 => k_is); (case l1 => k_is); (case c1 => k_is); (case k1 => k_is); (case a2 => k_is); (case l2 => k_is); (case c2 => k_is); (case k2 => k_is)
    (case a3 => k_is); (case l3 => k_is); (case c3 => k_is); (case k3 => k_is); (case a4 => k_is); (case l4 => k_is); (case c4 => k_is); (case k4 => k_is)
    (case a5 => k_is); (case l5 => k_is); (case c5 => k_is); (case k5 => k_is); (case a6 => k_is); (case l6 => k_is); (case c6 => k_is); (case k6 => k_is)
    (case a7 => k_is); (case l7 => k_is); (case c7 => k_is); (case k7 => k_is); (case a8 => k_is); (case l8 => k_is); (case c8 => k_is); (case k8 => k_is)
    (case a9 => k_is); (case l9 => k_is); (case c9 => k_is); (case k9 => k_is); (case a10 => k_is); (case l10 => k_is); (case c10 => k_is); (case k10 => k_is)
    (case a11 => k_is); (case l11 => k_is); (case c11 => k_is); (case k11 => k_is); (case a12 => k_is); (case l12 => k_is); (case c12 => k_is); (case k12 => k_is)
    (case a13 => k_is); (case l13 => k_is); (case c13 => k_is); (case k13 => k_is); (case a14 => k_is); (case l14 => k_is); (case c14 => k_is); (case k14 => k_is)
    (case a15 => k_is); (case l15 => k_is); (case c15 => k_is); (case k15 => k_is); (case a16 => k_is); (case l16 => k_is); (case c16 => k_is); (case k16 => k_is)
    (case a17 => k_is); (case l17 => k_is); (case c17 => k_is); (case k17 => k_is); (case a18 => k_is); (case l18 => k_is); (case c18 => k_is); (case k18 => k_is)
    (case a19 => k_is); (case l19 => k_is); (case c19 => k_is); (case k19 => k_is); (case a20 => k_is); (case l20 => k_is); (case c20 => k_is); (case k20 => k_is)
    (case a21 => k_is); (case l21 => k_is); (case c21 => k_is); (case k21 => k_is); (case a22 => k_is); (case l22 => k_is); (case c22 => k_is); (case k22 => k_is)
    (case a23 => k_is); (case l23 => k_is); (case c23 => k_is); (case k23 => k_is); (case a24 => k_is); (case l24 => k_is); (case c24 => k_is); (case k24 => k_is)
    (case a25 => k_is); (case l25 => k_is); (case c25 => k_is); (case k25 => k_is); (case a26 => k_is); (case l26 => k_is); (case c26 => k_is); (case k26 => k_is)
    (case a27 => k_is); (case l27 => k_is); (case c27 => k_is); (case k27 => k_is); (case a28 => k_is); (case l28 => k_is); (case c28 => k_is); (case k28 => k_is)
    (case a29 => k_is); (case l29 => k_is); (case c29 => k_is); (case k29 => k_is); (case a30 => k_is); (case l30 => k_is); (case c30 => k_is); (case k30 => k_is)
    (case a31 => k_is); (case l31 => k_is); (case c31 => k_is); (case k31 => k_is); (case a32 => k_is); (case l32 => k_is); (case c32 => k_is); (case k32 => k_is)
    (case a33 => k_is); (case l33 => k_is); (case c33 => k_is); (case k33 => k_is); (case a34 => k_is); (case l34 => k_is); (case c34 => k_is); (case k34 => k_is)
    (case a35 => k_is); (case l35 => k_is); (case c35 => k_is); (case k35 => k_is); (case a36 => k_is); (case l36 => k_is); (case c36 => k_is); (case k36 => k_is)
    (case a37 => k_is); (case l37 => k_is); (case c37 => k_is); (case k37 => k_is); (case a38 => k_is); (case l38 => k_is); (case c38 => k_is); (case k38 => k_is)
    (case a39 => k_is); (case l39 => k_is); (case c39 => k_is); (case k39 => k_is); (case a40 => k_is); (case l40 => k_is); (case c40 => k_is); (case k40 => k_is)
    (case a41 => k_is); (case l41 => k_is); (case c41 => k_is); (case k41 => k_is); (case a42 => k_is); (case l42 => k_is); (case c42 => k_is); (case k42 => k_is)
    (case a43 => k_is); (case i43 => k_is); (case l43 => k_is); (case c43 => k_is); (case k43 => k_is); (case a44 => k_is); (case i44 => k_is); (case l44 => k_is)
    (case c44 => k_is); (case k44 => k_is); (case a45 => k_is); (case i45 => k_is); (case l45 => k_is); (case c45 => k_is); (case k45 => k_is); (case a46 => k_is)
    (case i46 => k_is); (case l46 => k_is); (case c46 => k_is); (case k46 => k_is); (case a47 => k_is); (case i47 => k_is); (case l47 => k_is); (case c47 => k_is)
    (case k47 => k_is); (case a48 => k_is); (case i48 => k_is); (case l48 => k_is); (case c48 => k_is); (case k48 => k_is); (case a49 => k_is); (case i49 => k_is)
    (case l49 => k_is); (case c49 => k_is); (case k49 => k_is); (case a50 => k_is); (case i50 => k_is); (case l50 => k_is); (case c50 => k_is); (case k50 => k_is)
    (case a51 => k_is); (case i51 => k_is); (case l51 => k_is); (case c51 => k_is); (case k51 => k_is); (case a52 => k_is); (case i52 => k_is); (case l52 => k_is)
    (case c52 => k_is); (case k52 => k_is); (case a53 => k_is); (case i53 => k_is); (case l53 => k_is); (case c53 => k_is); (case k53 => k_is); (case v0 => first | rfl | kernel_rfl)
    (case h0 => rfl); (case q0 => k_is); (case w0 => first | rfl | kernel_rfl); (case u0 => first | kernel_rfl | rfl); (case gM0 => k_is); (case z0 => k_is); (case z1 => k_is); (case z2 => k_is)
    (case z3 => k_is); (case z4 => k_is); (case z5 => k_is); (case z6 => k_is); (case z7 => k_is); (case z8 => k_is); (case z9 => k_is); (case z10 => k_is)
    (case z11 => k_is); (case z12 => k_is); (case z13 => k_is); (case hd_WrapError => k_is); (case ty_WrapError => k_is); (case hd_NoWidth => k_is); (case ty_NoWidth => k_is); (case hd_LongWord => k_is)
    (case ty_LongWord => k_is); (case hd_NoStarts => k_is); (case ty_NoStarts => k_is); (case hd_TooWide => k_is); (case ty_TooWide => k_is); (case hd_TooFew => k_is); (case ty_TooFew => k_is); (case hd_TooMany => k_is)
    (case ty_TooMany => k_is); (case hd_NoPlace => k_is); (case ty_NoPlace => k_is); (case hd_NoWord => k_is); (case ty_NoWord => k_is); (case hd_Full => k_is); (case ty_Full => k_is); (case hd_NoWayBack => k_is)
    (case ty_NoWayBack => k_is); (case bw => k_is); (case x1_NoWidth => k_exc); (case x2_NoWidth => k_is); (case x3_NoWidth => k_is); (case x4_NoWidth => k_is); (case x5_NoWidth => k_is); (case x6_NoWidth => k_is)
    (case x7_NoWidth => k_is); (case x8_NoWidth => k_is); (case x9_NoWidth => k_is); (case sv_NoWidth => k_is); (case sb_NoWidth_WrapError => k_is); (case sb_NoWidth_NoWidth => k_is); (case sb_NoWidth_LongWord => k_is); (case ne_NoWidth_LongWord => decide)
    (case sb_NoWidth_NoStarts => k_is); (case ne_NoWidth_NoStarts => decide); (case sb_NoWidth_TooWide => k_is); (case ne_NoWidth_TooWide => decide); (case sb_NoWidth_TooFew => k_is); (case ne_NoWidth_TooFew => decide); (case sb_NoWidth_TooMany => k_is); (case ne_NoWidth_TooMany => decide)
    (case sb_NoWidth_NoPlace => k_is); (case ne_NoWidth_NoPlace => decide); (case sb_NoWidth_NoWord => k_is); (case ne_NoWidth_NoWord => decide); (case sb_NoWidth_Full => k_is); (case ne_NoWidth_Full => decide); (case sb_NoWidth_NoWayBack => k_is); (case ne_NoWidth_NoWayBack => decide)
    (case x1_LongWord => k_exc); (case x2_LongWord => k_is); (case x3_LongWord => k_is); (case x4_LongWord => k_is); (case x5_LongWord => k_is); (case x6_LongWord => k_is); (case x7_LongWord => k_is); (case x8_LongWord => k_is)
    (case x9_LongWord => k_is); (case sv_LongWord => k_is); (case sb_LongWord_WrapError => k_is); (case sb_LongWord_NoWidth => k_is); (case ne_LongWord_NoWidth => decide); (case sb_LongWord_LongWord => k_is); (case sb_LongWord_NoStarts => k_is); (case ne_LongWord_NoStarts => decide)
    (case sb_LongWord_TooWide => k_is); (case ne_LongWord_TooWide => decide); (case sb_LongWord_TooFew => k_is); (case ne_LongWord_TooFew => decide); (case sb_LongWord_TooMany => k_is); (case ne_LongWord_TooMany => decide); (case sb_LongWord_NoPlace => k_is); (case ne_LongWord_NoPlace => decide)
    (case sb_LongWord_NoWord => k_is); (case ne_LongWord_NoWord => decide); (case sb_LongWord_Full => k_is); (case ne_LongWord_Full => decide); (case sb_LongWord_NoWayBack => k_is); (case ne_LongWord_NoWayBack => decide); (case x1_NoStarts => k_exc); (case x2_NoStarts => k_is)
    (case x3_NoStarts => k_is); (case x4_NoStarts => k_is); (case x5_NoStarts => k_is); (case x6_NoStarts => k_is); (case x7_NoStarts => k_is); (case x8_NoStarts => k_is); (case x9_NoStarts => k_is); (case sv_NoStarts => k_is)
    (case sb_NoStarts_WrapError => k_is); (case sb_NoStarts_NoWidth => k_is); (case ne_NoStarts_NoWidth => decide); (case sb_NoStarts_LongWord => k_is); (case ne_NoStarts_LongWord => decide); (case sb_NoStarts_NoStarts => k_is); (case sb_NoStarts_TooWide => k_is); (case ne_NoStarts_TooWide => decide)
    (case sb_NoStarts_TooFew => k_is); (case ne_NoStarts_TooFew => decide); (case sb_NoStarts_TooMany => k_is); (case ne_NoStarts_TooMany => decide); (case sb_NoStarts_NoPlace => k_is); (case ne_NoStarts_NoPlace => decide); (case sb_NoStarts_NoWord => k_is); (case ne_NoStarts_NoWord => decide)
    (case sb_NoStarts_Full => k_is); (case ne_NoStarts_Full => decide); (case sb_NoStarts_NoWayBack => k_is); (case ne_NoStarts_NoWayBack => decide); (case x1_NoPlace => k_exc); (case x2_NoPlace => k_is); (case x3_NoPlace => k_is); (case x4_NoPlace => k_is)
    (case x5_NoPlace => k_is); (case x6_NoPlace => k_is); (case x7_NoPlace => k_is); (case x8_NoPlace => k_is); (case x9_NoPlace => k_is); (case sv_NoPlace => k_is); (case sb_NoPlace_WrapError => k_is); (case sb_NoPlace_NoWidth => k_is)
    (case ne_NoPlace_NoWidth => decide); (case sb_NoPlace_LongWord => k_is); (case ne_NoPlace_LongWord => decide); (case sb_NoPlace_NoStarts => k_is); (case ne_NoPlace_NoStarts => decide); (case sb_NoPlace_TooWide => k_is); (case ne_NoPlace_TooWide => decide); (case sb_NoPlace_TooFew => k_is)
    (case ne_NoPlace_TooFew => decide); (case sb_NoPlace_TooMany => k_is); (case ne_NoPlace_TooMany => decide); (case sb_NoPlace_NoPlace => k_is); (case sb_NoPlace_NoWord => k_is); (case ne_NoPlace_NoWord => decide); (case sb_NoPlace_Full => k_is); (case ne_NoPlace_Full => decide)
    (case sb_NoPlace_NoWayBack => k_is); (case ne_NoPlace_NoWayBack => decide); (case x1_NoWord => k_exc); (case x2_NoWord => k_is); (case x3_NoWord => k_is); (case x4_NoWord => k_is); (case x5_NoWord => k_is); (case x6_NoWord => k_is)
    (case x7_NoWord => k_is); (case x8_NoWord => k_is); (case x9_NoWord => k_is); (case sv_NoWord => k_is); (case sb_NoWord_WrapError => k_is); (case sb_NoWord_NoWidth => k_is); (case ne_NoWord_NoWidth => decide); (case sb_NoWord_LongWord => k_is)
    (case ne_NoWord_LongWord => decide); (case sb_NoWord_NoStarts => k_is); (case ne_NoWord_NoStarts => decide); (case sb_NoWord_TooWide => k_is); (case ne_NoWord_TooWide => decide); (case sb_NoWord_TooFew => k_is); (case ne_NoWord_TooFew => decide); (case sb_NoWord_TooMany => k_is)
    (case ne_NoWord_TooMany => decide); (case sb_NoWord_NoPlace => k_is); (case ne_NoWord_NoPlace => decide); (case sb_NoWord_NoWord => k_is); (case sb_NoWord_Full => k_is); (case ne_NoWord_Full => decide); (case sb_NoWord_NoWayBack => k_is); (case ne_NoWord_NoWayBack => decide)
    (case x1_Full => k_exc); (case x2_Full => k_is); (case x3_Full => k_is); (case x4_Full => k_is); (case x5_Full => k_is); (case x6_Full => k_is); (case x7_Full => k_is); (case x8_Full => k_is)
    (case x9_Full => k_is); (case sv_Full => k_is); (case sb_Full_WrapError => k_is); (case sb_Full_NoWidth => k_is); (case ne_Full_NoWidth => decide); (case sb_Full_LongWord => k_is); (case ne_Full_LongWord => decide); (case sb_Full_NoStarts => k_is)
    (case ne_Full_NoStarts => decide); (case sb_Full_TooWide => k_is); (case ne_Full_TooWide => decide); (case sb_Full_TooFew => k_is); (case ne_Full_TooFew => decide); (case sb_Full_TooMany => k_is); (case ne_Full_TooMany => decide); (case sb_Full_NoPlace => k_is)
    (case ne_Full_NoPlace => decide); (case sb_Full_NoWord => k_is); (case ne_Full_NoWord => decide); (case sb_Full_Full => k_is); (case sb_Full_NoWayBack => k_is); (case ne_Full_NoWayBack => decide); (case x1_NoWayBack => k_exc); (case x2_NoWayBack => k_is)
    (case x3_NoWayBack => k_is); (case x4_NoWayBack => k_is); (case x5_NoWayBack => k_is); (case x6_NoWayBack => k_is); (case x7_NoWayBack => k_is); (case x8_NoWayBack => k_is); (case x9_NoWayBack => k_is); (case sv_NoWayBack => k_is)
    (case sb_NoWayBack_WrapError => k_is); (case sb_NoWayBack_NoWidth => k_is); (case ne_NoWayBack_NoWidth => decide); (case sb_NoWayBack_LongWord => k_is); (case ne_NoWayBack_LongWord => decide); (case sb_NoWayBack_NoStarts => k_is); (case ne_NoWayBack_NoStarts => decide); (case sb_NoWayBack_TooWide => k_is)
    (case ne_NoWayBack_TooWide => decide); (case sb_NoWayBack_TooFew => k_is); (case ne_NoWayBack_TooFew => decide); (case sb_NoWayBack_TooMany => k_is); (case ne_NoWayBack_TooMany => decide); (case sb_NoWayBack_NoPlace => k_is); (case ne_NoWayBack_NoPlace => decide); (case sb_NoWayBack_NoWord => k_is)
    (case ne_NoWayBack_NoWord => decide); (case sb_NoWayBack_Full => k_is); (case ne_NoWayBack_Full => decide); (case sb_NoWayBack_NoWayBack => k_is); (case pgO_Page => k_is); (case hdO_Page => k_is); (case poO_Page => k_is); (case saO_Page => k_is)
    (case mkO_Page => k_is); (case kcO_Page => k_is); (case tyO_Page => k_is); (case sbO_Page => k_is); (case i6O_Page => k_is); (case i7O_Page => k_is); (case i8O_Page => k_is); (case i9O_Page => k_is)
    (case nO_Page_past => k_is); (case nO_Page_width => k_is); (case nO_Page_words => k_is)
