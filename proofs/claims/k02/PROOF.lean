
import PyProof.Rows.All
import Wide.All
import OpenK.AllK
import Wide.FinOn
import HandS.ForMost
import HandS.Evl
import HandS.Steps
import HandS.IsInst
import HandS.Style
import HandS.Walk
import HandS.Flow
import PySem.Challenge.RW_textwrapper_k02_paragraphs_cut
set_option Elab.async false
set_option linter.all false
set_option maxRecDepth 100000
namespace Tw
open PySem PySem.Spec PyProof.Rows L2 Evl
/-! ### rules of our own -/
/-- text * int -/
def rMulS : R2 := fun x y H Q => ∃ (z : Str) (k : Int) (L N : Nat), x = .str z ∧ y = .int k ∧ (z.length ≤ L ∧ k ≤ (N : Int) ∧ -(2 ^ 63 : Int) ≤ k ∧ N ≤ 16777216 ∧ L * N ≤ 16777216) ∧ Q (.str (Txt.mul z k)) H
theorem op_mulS {X : Cx} : OpR X (binaryOp .Mult) rMulS := by
  intro pins s σ H x y v u Q I rx ry h
  obtain ⟨z, k, L, N, rfl, rfl, ⟨h1, h2, h3, h4, h5⟩, q⟩ := h
  obtain ⟨t, rfl⟩ := rx
  obtain ⟨t', rfl⟩ := ry
  exact PySem.SB.mul (mulOk_of L N h1 h2 h3 h4 h5) fun t' k' => ⟨.str (Txt.mul z k), H, I.tok _, ⟨_, rfl⟩, q⟩
/-! ### what evaluates to what -/
section
variable {K : PySem.W.Frag} {σ : L2.St} {H H' : Hp} {ta tb te tx : TE} {t u : TT} {x y z v : V} {r : R2}
theorem rv_addS {a b : Str} (h : a.length + b.length ≤ 100000) : RV (fun x y H Q => ∃ i j, x = .str i ∧ y = .str j ∧ i.length + j.length ≤ sizeLine ∧ Q (.str (i ++ j)) H) (.str a) (.str b) H (.str (a ++ b)) :=
  fun H1 _ _ q => ⟨a, b, rfl, rfl, sz_of h, q H1 (Ex.refl H1)⟩
theorem rv_mulS {a : Str} {k : Int} {L N : Nat} (h : a.length ≤ L) (hk : k ≤ (N : Int)) (h0 : 0 ≤ k) (hN : N ≤ 100000) (hL : L * N ≤ 100000) : RV rMulS (.str a) (.int k) H (.str (Txt.mul a k)) :=
  fun H1 _ _ q => ⟨a, k, L, N, rfl, rfl, ⟨h, hk, by omega, by omega, by omega⟩, q H1 (Ex.refl H1)⟩
def rLenStr : List V → Hp → VK → Prop := fun xs H Q => ∃ z, xs = [.str z] ∧ z.length ≤ sizeLine ∧ Q (.int z.length) H
theorem rc_lenS {a : Str} (h : a.length ≤ 16000000) : RC (fun xs H Q => ∃ z, xs = [.str z] ∧ z.length ≤ sizeLine ∧ Q (.int z.length) H) [.str a] H (.int a.length) := fun H1 _ _ q => ⟨a, rfl, Nat.le_trans h (by rw [sizeLine_eq]; decide), q H1 (Ex.refl H1)⟩
theorem rc_intB {b : Bool} : RC (fun xs H Q => (∃ i, xs = [.int i] ∧ Q (.int i) H) ∨ ∃ k, xs = [.bl k] ∧ Q (.int (if k then 1 else 0)) H) [.bl b] H (.int (if b = true then 1 else 0)) := fun H1 _ _ q => .inr ⟨b, rfl, q H1 (Ex.refl H1)⟩
theorem rc_lenL {p : Addr} {xs : List V} (h : SqL K H p xs) : RC (fun xs H Q => ∃ p ys, xs = [.ref p] ∧ (SqL K H p ys ∨ SqT K H p ys) ∧ Q (.int ys.length) H) [.ref p] H (.int xs.length) := fun H1 e _ q => ⟨p, xs, rfl, .inl (ex_l e h), q H1 (Ex.refl H1)⟩
theorem rc_isi {x c : V} {t u : Value} {b : Bool} (hc : ClsV c u) (ty : ∀ H1, Ex H H1 → TyX K H1 x t) (k : PySem.W.kitOne K t u = some b) : RC (rIsi K) [x, c] H (.bl b) := fun H1 e _ q => ⟨x, c, t, u, b, rfl, hc, ty H1 e, k, q H1 (Ex.refl H1)⟩
theorem rc_isStr {a : Str} : RC (rIsi K) [.str a, .ty "str"] H (.bl true) := rc_isi (.ty _) (fun _ _ => .base (.str a)) (kit_ty (by decide +kernel))
theorem tyx_list {p : Addr} {xs : List V} (h : SqL K H p xs) : TyX K H (.ref p) (.type "list") := by
  rcases h with (h | ⟨o, h⟩) | ⟨o, vs, n, hk, hc, _⟩
  · exact .base (.lst h)
  · exact .base (.frz h)
  · exact .kList hk hc
theorem rc_isList {p : Addr} {xs : List V} (h : SqL K H p xs) : RC (rIsi K) [.ref p, .ty "list"] H (.bl true) := rc_isi (.ty _) (fun _ e => tyx_list (ex_l e h)) (kit_ty (by decide +kernel))
theorem rv_isB {a b : Bool} : RV rIsB (.bl a) (.bl b) H (.bl (decide (a = b))) := fun H1 _ _ q => ⟨a, b, rfl, rfl, q H1 (Ex.refl H1)⟩
theorem rv_isN : RV rIsN x .non H (.bl (decide (x = .non))) := fun H1 _ _ q => ⟨rfl, q H1 (Ex.refl H1)⟩
theorem rv_notN : RV rNotN x .non H (.bl (!decide (x = .non))) := fun H1 _ _ q => ⟨rfl, q H1 (Ex.refl H1)⟩
theorem rv_add {i j : Int} : RV (rI0 fun i j => .int (i + j)) (.int i) (.int j) H (.int (i + j)) := rv_I0
/-- data equal, by values -/
theorem rv_eqD {d e : PyData} (hd : ∀ H1, Ex H H1 → Dp K H1 x d) (he : ∀ H1, Ex H H1 → Dp K H1 y e) (sd : SeqAt.shaped d = true) (se : SeqAt.shaped e = true) : RV (rEqD K) x y H (.bl (PyData.eqv d e)) :=
  fun H1 e1 _ q => ⟨d, e, hd H1 e1, he H1 e1, sd, se, q H1 (Ex.refl H1)⟩
theorem rv_neD {d e : PyData} (hd : ∀ H1, Ex H H1 → Dp K H1 x d) (he : ∀ H1, Ex H H1 → Dp K H1 y e) (sd : SeqAt.shaped d = true) (se : SeqAt.shaped e = true) : RV (rNeD K) x y H (.bl (!PyData.eqv d e)) :=
  fun H1 e1 _ q => ⟨d, e, hd H1 e1, he H1 e1, sd, se, q H1 (Ex.refl H1)⟩
theorem dpAll_strs : ∀ l : List Str, DpAll K H (l.map V.str) (l.map PyData.str)
  | [] => .nil
  | a :: r => .cons (.str a) (dpAll_strs r)
theorem dpAll_ints : ∀ l : List Int, DpAll K H (l.map V.int) (l.map PyData.int)
  | [] => .nil
  | a :: r => .cons (.int a) (dpAll_ints r)
theorem dp_strs {p : Addr} {l : List Str} (h : SqL K H p (l.map V.str)) : Dp K H (.ref p) (.list (l.map PyData.str)) := .lst h (dpAll_strs l)
theorem dp_ints {p : Addr} {l : List Int} (h : SqL K H p (l.map V.int)) : Dp K H (.ref p) (.list (l.map PyData.int)) := .lst h (dpAll_ints l)
/-- split() -/
theorem el_words {a : Str} (h : Ev te σ H (.str a)) (hl : a.length ≤ 90000) : EvL (tM0 (fun x xs H Q => ∃ a, x = .str a ∧ xs = [] ∧ a.length + 2 ≤ sizeLine ∧ rNewStrs (Txt.words a) H Q) te) σ H ((Txt.words a).map V.str) :=
  fun H1 e Q q => h H1 e _ fun H2 e2 => ⟨⟨a, rfl⟩, a, rfl, rfl, sz_of (by omega), fun p hp => q p _ (fresh_back e2 hp) (e2.trans (Ex.new hp)) upd_same⟩
/-- join -/
theorem ev_join {a : Str} {p : Addr} {ys : List Str} (h : Ev ta σ H (.str a)) (hb : Ev tb σ H (.ref p)) (hp : SqL K H p (ys.map V.str)) (hz : (ys.map (·.length)).sum + ys.length * a.length ≤ 16777216) :
    Ev (tM1 (fun x xs H Q => ∃ a p, ∃ ys : List Str, x = .str a ∧ xs = [.ref p] ∧ (SqL K H p (ys.map V.str) ∨ SqT K H p (ys.map V.str)) ∧ (ys.map (·.length)).sum + ys.length * a.length ≤ 16777216 ∧ Q (.str (Txt.join a ys)) H) ta tb) σ H (.str (Txt.join a ys)) :=
  fun H1 e Q q => h H1 e _ fun H2 e2 => ⟨⟨a, rfl⟩, hb H2 (e.trans e2) _ fun H3 e3 => ⟨a, p, ys, rfl, rfl, .inl (ex_l ((e.trans e2).trans e3) hp), hz, q H3 (e2.trans e3)⟩⟩
theorem ev_joinL {a : Str} {ys : List Str} (h : Ev ta σ H (.str a)) (hb : EvL tb σ H (ys.map V.str)) (hz : (ys.map (·.length)).sum + ys.length * a.length ≤ 16777216) :
    Ev (tM1 (fun x xs H Q => ∃ a p, ∃ ys : List Str, x = .str a ∧ xs = [.ref p] ∧ (SqL K H p (ys.map V.str) ∨ SqT K H p (ys.map V.str)) ∧ (ys.map (·.length)).sum + ys.length * a.length ≤ 16777216 ∧ Q (.str (Txt.join a ys)) H) ta tb) σ H (.str (Txt.join a ys)) :=
  fun H1 e Q q => h H1 e _ fun H2 e2 => ⟨⟨a, rfl⟩, hb H2 (e.trans e2) _ fun p H3 _ e3 hp => ⟨a, p, ys, rfl, rfl, .inl (sq_of hp), hz, q H3 (e2.trans e3)⟩⟩
/-- a slice of a new list -/
theorem el_slN {tl th : TO} {xs : List V} {lo hi : Option Int} (h : EvL te σ H xs) (h1 : EvO tl σ H lo) (h2 : EvO th σ H hi) : EvL (tSl (rSlL K) te tl th) σ H (cutV xs lo hi) := fun H1 e _ q =>
  h H1 e _ fun p H2 _ e2 hp => h1 H2 (e.trans e2) _ fun H3 e3 => h2 H3 ((e.trans e2).trans e3) _ fun H4 e4 =>
    ⟨p, xs, rfl, sq_of (e4 _ _ (e3 _ _ hp)), fun q' hq => q q' _ (fresh_back ((e2.trans e3).trans e4) hq) (((e2.trans e3).trans e4).trans (Ex.new hq)) upd_same⟩
/-- a call whose arguments are told by what they give: any promise -/
theorem ev_callA {sp : Sp} {dvs : List V} {E : XK} {ta : TA} {P : List V → Hp → Prop} (h : ∀ H1, Ex H H1 → ∀ Q : List V → Hp → Prop, (∀ vs H2, Ex H1 H2 → P vs H2 → Q vs H2) → ta σ H1 Q)
    (hs : ∀ vs H1, Ex H H1 → P vs H1 → ∀ Q : VK, (∀ H2, Ex H1 H2 → Q z H2) → sp (vs ++ dvs) H1 Q E) : Ev (tCall sp dvs E ta) σ H z := fun H1 e Q q =>
  h H1 e _ fun vs H2 e2 hP => hs vs H2 (e.trans e2) hP Q fun H3 e3 => q H3 (e2.trans e3)
theorem el_callA {sp : Sp} {dvs xs : List V} {E : XK} {ta : TA} {P : List V → Hp → Prop} (h : ∀ H1, Ex H H1 → ∀ Q : List V → Hp → Prop, (∀ vs H2, Ex H1 H2 → P vs H2 → Q vs H2) → ta σ H1 Q)
    (hs : ∀ vs H1, Ex H H1 → P vs H1 → ∀ Q : VK, (∀ p H2, H1 p = none → Ex H1 H2 → H2 p = some (.lst xs) → Q (.ref p) H2) → sp (vs ++ dvs) H1 Q E) : EvL (tCall sp dvs E ta) σ H xs := fun H1 e Q q =>
  h H1 e _ fun vs H2 e2 hP => hs vs H2 (e.trans e2) hP Q fun p H3 hp e3 h3 => q p H3 (fresh_back e2 hp) (e2.trans e3) h3
/-- argument lists told by what they give -/
def ArgP (ta : TA) (σ : L2.St) (H : Hp) (P : List V → Hp → Prop) : Prop := ∀ H1, Ex H H1 → ∀ Q : List V → Hp → Prop, (∀ vs H2, Ex H1 H2 → P vs H2 → Q vs H2) → ta σ H1 Q
theorem ap_nil : ArgP tNil σ H (fun vs _ => vs = []) := fun H1 _ Q q => q [] H1 (Ex.refl H1) rfl
theorem ap_cons {tr : TA} {P : List V → Hp → Prop} (h : Ev te σ H v) (hr : ArgP tr σ H P) : ArgP (tCons te tr) σ H (fun vs H' => ∃ r, vs = v :: r ∧ P r H') := fun H1 e Q q =>
  h H1 e _ fun H2 e2 => hr H2 (e.trans e2) _ fun vs H3 e3 hP => q _ H3 (e2.trans e3) ⟨vs, rfl, hP⟩
theorem ap_consL {tr : TA} {P : List V → Hp → Prop} {xs : List V} (h : EvL te σ H xs) (hr : ArgP tr σ H P) (hmono : ∀ (vs : List V) (H1 H2 : Hp), True) : ArgP (tCons te tr) σ H (fun vs H' => ∃ p r, vs = .ref p :: r ∧ H' p = some (.lst xs) ∧ P r H') := fun H1 e Q q =>
  h H1 e _ fun p H2 _ e2 hp => hr H2 (e.trans e2) _ fun vs H3 e3 hP => q _ H3 (e2.trans e3) ⟨p, vs, rfl, e3 _ _ hp, hP⟩
end
/-! ### loops over a text -/
section
variable {K : PySem.W.Frag} {σ : L2.St} {H H' : Hp} {te : TE} {D : Ends} {tu tz : TS}
theorem s_forS {z : Str} {j : Nat} (h : Ev te σ H (.str z)) (Pv : Nat → L2.St → Hp → Prop) (h0 : ∀ H1, Ex H H1 → Pv 0 σ H1)
    (hs : ∀ (i c : Nat) σ' H', (TL.tl z)[i]? = some c → Pv i σ' H' → tu { D with nx := Pv (i + 1), ct := Pv (i + 1), bk := D.nx } (σ'.set j (some (.str ⟨#[c]⟩))) H')
    (hd : ∀ σ' H', Pv (TL.tl z).length σ' H' → D.nx σ' H') : tFor (iStr te) (gName j) tu D σ H :=
  h H (Ex.refl H) _ fun H1 e => ⟨z, rfl, for_it walk_str Pv (h0 H1 e) (fun _ _ _ _ _ => trivial) (fun i x σ' H' H'' hi p y => by
    obtain ⟨rfl, c, hc, rfl⟩ := y
    exact hs i c σ' _ (by rw [show (TL.tl z)[i]? = z.cps[i]? from Array.getElem?_toList]; exact hc) p) (fun σ' H' p => hd σ' H' (by
    have e : (TL.tl z).length = z.cps.size := Array.length_toList
    rw [e]
    exact p))⟩
theorem q_forS {z : Str} {j : Nat} (h : Ev te σ H (.str z)) (Pv : Nat → L2.St → Hp → Prop) (h0 : ∀ H1, Ex H H1 → Pv 0 σ H1)
    (hs : ∀ (i c : Nat) σ' H', (TL.tl z)[i]? = some c → Pv i σ' H' → tu { D with nx := Pv (i + 1), ct := Pv (i + 1), bk := tz D } (σ'.set j (some (.str ⟨#[c]⟩))) H')
    (hd : ∀ σ' H', Pv (TL.tl z).length σ' H' → tz D σ' H') : tSeq (tFor (iStr te) (gName j) tu) tz D σ H := s_forS (D := { D with nx := tz D }) h Pv h0 hs hd
end
/-! ### the signs of words -/
/-- from ! to ~, but the percent sign -/
def sgnL : List Nat := List.range' 33 4 ++ List.range' 38 89
theorem sgnL_len : sgnL.length = 93 := by decide +kernel
/-- a sign of a word -/
def Ws (c : Nat) : Prop := 33 ≤ c ∧ c ≤ 126
instance (c : Nat) : Decidable (Ws c) := inferInstanceAs (Decidable (_ ∧ _))
theorem sgnL_ws : ∀ c ∈ sgnL, Ws c := by decide +kernel
/-- a sign of a text -/
def Ts (c : Nat) : Prop := c = 32 ∨ c = 10 ∨ Ws c
instance (c : Nat) : Decidable (Ts c) := inferInstanceAs (Decidable (_ ∨ _))
def sgn (c : Int) : Nat := sgnL.getD (c % 93).toNat 33
theorem sgn_ws (c : Int) : Ws (sgn c) := by
  unfold sgn
  rw [List.getD_eq_getElem?_getD]
  cases h : sgnL[(c % 93).toNat]? with
  | none => exact ⟨by decide, by decide⟩
  | some x => exact sgnL_ws x (List.mem_of_getElem? h)
theorem at_sgn (c : Int) : atI sgnL (c % 93) = some (sgn c) := by
  have h0 : 0 ≤ c % 93 := Int.emod_nonneg c (by decide)
  have h1 : c % 93 < 93 := Int.emod_lt_of_pos c (by decide)
  have hl : (c % 93).toNat < sgnL.length := by rw [sgnL_len]; omega
  have e : c % 93 = ((c % 93).toNat : Int) := by omega
  rw [e]
  refine atI_nat ?_
  unfold sgn
  rw [List.getD_eq_getElem?_getD, List.getElem?_eq_getElem hl] <;> rfl
theorem space_ws : ∀ c, Ws c → Unicode.isSpace c = false := by
  have h : ∀ c < 127, 33 ≤ c → Unicode.isSpace c = false := by decide +kernel
  exact fun c hc => h c (by have := hc.2; omega) hc.1
theorem space_32 : Unicode.isSpace 32 = true := by decide +kernel
theorem space_10 : Unicode.isSpace 10 = true := by decide +kernel
/-! ### lists of texts, of ints, compared -/
theorem strOk_of {z : Str} (h : ∀ c ∈ TL.tl z, c < 1114112) : PyData.strOk z = true := by
  unfold PyData.strOk
  rw [← Array.all_toList, List.all_eq_true]
  exact fun c hc => decide_eq_true (h c hc)
theorem canLay_strs : ∀ {l : List Str}, (∀ z ∈ l, ∀ c ∈ TL.tl z, c < 1114112) → PyData.canLayAll0 (l.map PyData.str) = true
  | [], _ => by simp [PyData.canLayAll0]
  | z :: r, h => by
    rw [List.map_cons, PyData.canLayAll0, PyData.canLay0, strOk_of (h z (List.mem_cons_self ..)), canLay_strs fun y hy => h y (List.mem_cons_of_mem _ hy)] <;> rfl
theorem depth_strs : ∀ l : List Str, PyData.depthAll (l.map PyData.str) = 0
  | [] => by simp [PyData.depthAll]
  | z :: r => by
    rw [List.map_cons, PyData.depthAll, depth_strs r, PyData.depth] <;> rfl
theorem shaped_strs {l : List Str} (h : ∀ z ∈ l, ∀ c ∈ TL.tl z, c < 1114112) : SeqAt.shaped (.list (l.map PyData.str)) = true := by
  unfold SeqAt.shaped
  rw [PyData.canLay0, canLay_strs h, PyData.depth, depth_strs] <;> rfl
theorem eqv_strs : ∀ l m : List Str, PyData.eqvAll (l.map PyData.str) (m.map PyData.str) = decide (l = m)
  | [], [] => by simp [PyData.eqvAll]
  | [], _ :: _ => by simp [PyData.eqvAll]
  | _ :: _, [] => by simp [PyData.eqvAll]
  | x :: l, y :: m => by
    rw [List.map_cons, List.map_cons, PyData.eqvAll, PyData.eqv, eqv_strs l m]
    rw [Bool.eq_iff_iff]
    simp
theorem eqv_lstrs (l m : List Str) : PyData.eqv (.list (l.map PyData.str)) (.list (m.map PyData.str)) = decide (l = m) := by
  rw [PyData.eqv]
  exact eqv_strs l m
theorem canLay_ints : ∀ l : List Int, PyData.canLayAll0 (l.map PyData.int) = true
  | [] => by simp [PyData.canLayAll0]
  | z :: r => by
    rw [List.map_cons, PyData.canLayAll0, PyData.canLay0, canLay_ints r] <;> rfl
theorem depth_ints : ∀ l : List Int, PyData.depthAll (l.map PyData.int) = 0
  | [] => by simp [PyData.depthAll]
  | z :: r => by
    rw [List.map_cons, PyData.depthAll, depth_ints r, PyData.depth] <;> rfl
theorem shaped_ints (l : List Int) : SeqAt.shaped (.list (l.map PyData.int)) = true := by
  unfold SeqAt.shaped
  rw [PyData.canLay0, canLay_ints, PyData.depth, depth_ints] <;> rfl
theorem eqv_ints : ∀ l m : List Int, PyData.eqvAll (l.map PyData.int) (m.map PyData.int) = decide (l = m)
  | [], [] => by simp [PyData.eqvAll]
  | [], _ :: _ => by simp [PyData.eqvAll]
  | _ :: _, [] => by simp [PyData.eqvAll]
  | x :: l, y :: m => by
    rw [List.map_cons, List.map_cons, PyData.eqvAll, PyData.eqv, eqv_ints l m]
    rw [Bool.eq_iff_iff]
    simp
theorem eqv_lints (l m : List Int) : PyData.eqv (.list (l.map PyData.int)) (.list (m.map PyData.int)) = decide (l = m) := by
  rw [PyData.eqv]
  exact eqv_ints l m
section
variable {K : PySem.W.Frag} {σ : L2.St} {H H' : Hp} {ta tb te tx : TE}
theorem rv_eqS {p q : Addr} {l m : List Str} (hp : SqL K H p (l.map V.str)) (hq : SqL K H q (m.map V.str)) (hl : ∀ z ∈ l, ∀ c ∈ TL.tl z, c < 1114112) (hm : ∀ z ∈ m, ∀ c ∈ TL.tl z, c < 1114112) : RV (rEqD K) (.ref p) (.ref q) H (.bl (decide (l = m))) := by
  rw [← eqv_lstrs]
  exact rv_eqD (fun H1 e => dp_strs (ex_l e hp)) (fun H1 e => dp_strs (ex_l e hq)) (shaped_strs hl) (shaped_strs hm)
theorem rv_neS {p q : Addr} {l m : List Str} (hp : SqL K H p (l.map V.str)) (hq : SqL K H q (m.map V.str)) (hl : ∀ z ∈ l, ∀ c ∈ TL.tl z, c < 1114112) (hm : ∀ z ∈ m, ∀ c ∈ TL.tl z, c < 1114112) : RV (rNeD K) (.ref p) (.ref q) H (.bl (!decide (l = m))) := by
  rw [← eqv_lstrs]
  exact rv_neD (fun H1 e => dp_strs (ex_l e hp)) (fun H1 e => dp_strs (ex_l e hq)) (shaped_strs hl) (shaped_strs hm)
theorem rv_eqI {p q : Addr} {l m : List Int} (hp : SqL K H p (l.map V.int)) (hq : SqL K H q (m.map V.int)) : RV (rEqD K) (.ref p) (.ref q) H (.bl (decide (l = m))) := by
  rw [← eqv_lints]
  exact rv_eqD (fun H1 e => dp_ints (ex_l e hp)) (fun H1 e => dp_ints (ex_l e hq)) (shaped_ints _) (shaped_ints _)
theorem rv_neI {p q : Addr} {l m : List Int} (hp : SqL K H p (l.map V.int)) (hq : SqL K H q (m.map V.int)) : RV (rNeD K) (.ref p) (.ref q) H (.bl (!decide (l = m))) := by
  rw [← eqv_lints]
  exact rv_neD (fun H1 e => dp_ints (ex_l e hp)) (fun H1 e => dp_ints (ex_l e hq)) (shaped_ints _) (shaped_ints _)
end
/-- the texts of the law -/
def Txs (z : Str) : Prop := ∀ c ∈ TL.tl z, Ts c
theorem Ts.lt {c : Nat} (h : Ts c) : c < 1114112 := by
  rcases h with h | h | ⟨h, h2⟩ <;> omega
theorem Txs.lt {z : Str} (h : Txs z) : ∀ c ∈ TL.tl z, c < 1114112 := fun c hc => (h c hc).lt
theorem Txs.app {x y : Str} (h : Txs x) (k : Txs y) : Txs (x ++ y) := fun c hc => by
  rw [TL.tl_append] at hc
  rcases List.mem_append.mp hc with hc | hc
  · exact h c hc
  · exact k c hc
theorem len_app (x y : Str) : (x ++ y).length = x.length + y.length := by
  rw [TL.len_tl, TL.len_tl, TL.len_tl, TL.tl_append, List.length_append]
theorem tl_one (c : Nat) : TL.tl ⟨#[c]⟩ = [c] := rfl
theorem txs_one {c : Nat} (h : Ts c) : Txs ⟨#[c]⟩ := fun d hd => by
  rw [tl_one] at hd
  rw [List.mem_singleton.mp hd]
  exact h
theorem blank_eq : Str.ofString " " = ⟨#[32]⟩ := by decide +kernel
theorem lf_eq : Str.ofString "\n" = ⟨#[10]⟩ := by decide +kernel
theorem none_eq : Str.ofString "" = Str.empty := by decide +kernel
section
variable {σ : L2.St} {H : Hp}
theorem ev_blank : Ev (tC (.str (Str.ofString " "))) σ H (.str ⟨#[32]⟩) := ev_is ev_c (congrArg V.str blank_eq)
theorem ev_lf : Ev (tC (.str (Str.ofString "\n"))) σ H (.str ⟨#[10]⟩) := ev_is ev_c (congrArg V.str lf_eq)
theorem ev_none : Ev (tC (.str (Str.ofString ""))) σ H (.str Str.empty) := ev_is ev_c (congrArg V.str none_eq)
end
/-! ### the words of a text -/
theorem step_fst {ws : List Str} {u : Str} {c : Nat} : (KWd.step (ws, u) c).1.length ≤ ws.length + 1 ∧ (KWd.step (ws, u) c).2.length ≤ u.length + 1 := by
  unfold KWd.step
  split
  · split
    · exact ⟨Nat.le_succ _, Nat.le_succ _⟩
    · exact ⟨by rw [List.length_append] <;> exact Nat.le_refl _, Nat.zero_le _⟩
  · exact ⟨Nat.le_succ _, by rw [len_app] <;> exact Nat.le_refl _⟩
/-- what the fold keeps of words: no more signs than were read, each a sign of the text that is no blank -/
structure Cut (n : Nat) (S : Nat → Prop) (st : KWd.St) : Prop where
  few : st.1.length ≤ n
  short : st.2.length ≤ n
  all : (st.1.map (·.length)).sum + st.2.length ≤ n
  ws : ∀ z ∈ st.1, z.length ≠ 0 ∧ ∀ c ∈ TL.tl z, S c ∧ Unicode.isSpace c = false
  us : ∀ c ∈ TL.tl st.2, S c ∧ Unicode.isSpace c = false
theorem Cut.zero {S : Nat → Prop} : Cut 0 S ([], Str.empty) := ⟨Nat.le_refl _, Nat.le_refl _, Nat.le_refl _, fun _ h => by simp at h, fun _ h => by simp [TL.tl, Str.empty] at h⟩
theorem Cut.step {n : Nat} {S : Nat → Prop} {st : KWd.St} (h : Cut n S st) {c : Nat} (hc : S c) : Cut (n + 1) S (KWd.step st c) := by
  obtain ⟨ws, u⟩ := st
  obtain ⟨h1, h2, h3, h4, h5⟩ := h
  simp only at h1 h2 h3 h4 h5
  unfold KWd.step
  split
  · split
    · exact ⟨by simp only; omega, by simp only; omega, by simp only; omega, h4, h5⟩
    · rename_i hs hu
      refine ⟨by simp only [List.length_append, List.length_singleton]; omega, Nat.zero_le _, ?_, fun z hz => ?_, fun d hd => by simp [TL.tl, Str.empty] at hd⟩
      · simp only [List.map_append, List.map_cons, List.map_nil, List.sum_append, List.sum_cons, List.sum_nil]
        show _ + (u.length + 0) + 0 ≤ _
        omega
      · rcases List.mem_append.mp hz with hz | hz
        · exact h4 z hz
        · rw [List.mem_singleton.mp hz]
          exact ⟨hu, h5⟩
  · rename_i hs
    refine ⟨by simp only; omega, ?_, ?_, h4, fun d hd => ?_⟩
    · simp only [len_app]
      show u.length + 1 ≤ n + 1
      omega
    · simp only [len_app]
      show _ + (u.length + 1) ≤ n + 1
      omega
    · simp only at hd
      rw [TL.tl_append, tl_one] at hd
      rcases List.mem_append.mp hd with hd | hd
      · exact h5 d hd
      · rw [List.mem_singleton.mp hd]
        exact ⟨hc, by cases e : Unicode.isSpace c <;> simp_all⟩
theorem cut_fold {S : Nat → Prop} : ∀ (l : List Nat) (n : Nat) (st : KWd.St), Cut n S st → (∀ c ∈ l, S c) → Cut (n + l.length) S (l.foldl KWd.step st)
  | [], _, _, h, _ => h
  | c :: r, n, st, h, hs => by
    rw [List.foldl_cons, List.length_cons, show n + (r.length + 1) = n + 1 + r.length by omega]
    exact cut_fold r (n + 1) _ (h.step (hs c (List.mem_cons_self ..))) fun d hd => hs d (List.mem_cons_of_mem _ hd)
/-- words of a text of the law: none empty, of signs of words alone, no more of them than signs -/
theorem words_ok {z : Str} (h : Txs z) : (Txt.words z).length ≤ z.length ∧ ((Txt.words z).map (·.length)).sum ≤ z.length ∧ ∀ y ∈ Txt.words z, y.length ≠ 0 ∧ ∀ c ∈ TL.tl y, Ws c := by
  have q := cut_fold (S := Ts) (TL.tl z) 0 ([], Str.empty) Cut.zero h
  rw [Nat.zero_add, ← TL.len_tl] at q
  rw [KWd.words_scan]
  have hw : ∀ y : Str, (∀ c ∈ TL.tl y, Ts c ∧ Unicode.isSpace c = false) → ∀ c ∈ TL.tl y, Ws c := fun y hy c hc => by
    obtain ⟨t, s⟩ := hy c hc
    rcases t with t | t | t
    · rw [t, space_32] at s; cases s
    · rw [t, space_10] at s; cases s
    · exact t
  unfold KWd.fin KWd.scan
  revert q
  generalize z.cps.toList.foldl KWd.step ([], Str.empty) = st
  intro q
  split
  · exact ⟨q.few, by have := q.all; omega, fun y hy => ⟨(q.ws y hy).1, hw y (q.ws y hy).2⟩⟩
  · rename_i hu
    refine ⟨?_, ?_, fun y hy => ?_⟩
    · rw [List.length_append]
      have h1 := q.all
      have h2 : st.1.length ≤ (st.1.map (·.length)).sum := by
        have h4 := q.ws
        revert h4
        generalize st.1 = l
        intro h4
        induction l with
        | nil => exact Nat.le_refl _
        | cons a r ih =>
          have ha := (h4 a (List.mem_cons_self ..)).1
          have hr := ih fun y hy => h4 y (List.mem_cons_of_mem _ hy)
          rw [List.map_cons, List.sum_cons, List.length_cons]
          omega
      show st.1.length + 1 ≤ _
      omega
    · rw [List.map_append, List.sum_append]
      have h1 := q.all
      show _ + (st.2.length + 0) ≤ _
      omega
    · rcases List.mem_append.mp hy with hy | hy
      · exact ⟨(q.ws y hy).1, hw y (q.ws y hy).2⟩
      · rw [List.mem_singleton.mp hy]
        exact ⟨hu, hw _ q.us⟩
theorem mul_txs {z : Str} (h : Txs z) (k : Int) : Txs (Txt.mul z k) := fun c hc => by
  unfold Txt.mul at hc
  split at hc
  · simp [TL.tl, Str.empty] at hc
  · split at hc
    · exact h c hc
    · have go : ∀ (n : Nat) (acc : Array Nat), (∀ d ∈ acc.toList, Ts d) → ∀ d ∈ ((List.replicate n z.cps).foldl (· ++ ·) acc).toList, Ts d := by
        intro n
        induction n with
        | zero => exact fun acc ha => ha
        | succ n ih =>
          intro acc ha
          rw [List.replicate_succ, List.foldl_cons]
          refine ih _ fun d hd => ?_
          rw [Array.toList_append] at hd
          rcases List.mem_append.mp hd with hd | hd
          · exact ha d hd
          · exact h d hd
      exact go _ _ (fun d hd => by simp at hd) c hc
/-! ### a list of lists of texts, made behind H0 -/
def LLs (H0 H : Hp) (l : Addr) (ex : List Addr) (pss : List (List Str)) : Prop := H0 l = none ∧ ∃ ps : List (Addr × List Str), pss = ps.map (·.2) ∧ H l = some (.lst (ps.map fun x => V.ref x.1)) ∧ (l :: ps.map (·.1)).Nodup ∧
  (∀ x ∈ ps, H0 x.1 = none ∧ H x.1 = some (.lst (x.2.map V.str))) ∧ ∀ b ∈ ex, b ≠ l ∧ ∀ x ∈ ps, b ≠ x.1
theorem LLs.mono {H0 H H' : Hp} {l : Addr} {ex : List Addr} {pss : List (List Str)} (h : LLs H0 H l ex pss) (e : Ex H H') : LLs H0 H' l ex pss := by
  obtain ⟨h0, ps, h1, h2, h3, h4, h5⟩ := h
  exact ⟨h0, ps, h1, e _ _ h2, h3, fun x hx => ⟨(h4 x hx).1, e _ _ (h4 x hx).2⟩, h5⟩
/-- an address of ex is written -/
theorem LLs.other {H0 H : Hp} {l b : Addr} {ex : List Addr} {pss : List (List Str)} {o : HO} (h : LLs H0 H l ex pss) (hb : b ∈ ex) : LLs H0 (upd H b o) l ex pss := by
  obtain ⟨h0, ps, h1, h2, h3, h4, h5⟩ := h
  refine ⟨h0, ps, h1, ?_, h3, fun x hx => ⟨(h4 x hx).1, ?_⟩, h5⟩
  · rw [upd_ne (h5 b hb).1.symm]
    exact h2
  · rw [upd_ne ((h5 b hb).2 x hx).symm]
    exact (h4 x hx).2
/-- a new list q, laid behind Hb, is put behind -/
theorem LLs.push {H0 Hb H : Hp} {l q : Addr} {ex : List Addr} {pss : List (List Str)} {w : List Str} (h : LLs H0 Hb l ex pss) (hq : Hb q = none) (e : Ex Hb H) (e0 : Ex H0 Hb) (hw : H q = some (.lst (w.map V.str))) (hex : ∀ b ∈ ex, Hb b ≠ none) :
    ∃ vs, H l = some (.lst vs) ∧ vs.length = pss.length ∧ LLs H0 (upd H l (.lst (vs ++ [V.ref q]))) l ex (pss ++ [w]) := by
  obtain ⟨h0, ps, h1, h2, h3, h4, h5⟩ := h
  have nql : q ≠ l := fun z => by rw [z, h2] at hq; cases hq
  have nqp : ∀ x ∈ ps, x.1 ≠ q := fun x hx z => by rw [← z, (h4 x hx).2] at hq; cases hq
  have nlp : ∀ x ∈ ps, x.1 ≠ l := fun x hx z => (List.nodup_cons.mp h3).1 (by rw [← z]; exact List.mem_map_of_mem hx)
  refine ⟨_, e _ _ h2, by rw [h1, List.length_map, List.length_map], h0, ps ++ [(q, w)], by rw [h1, List.map_append] <;> rfl, by rw [upd_same, List.map_append] <;> rfl, ?_, fun x hx => ?_, fun b hb => ⟨(h5 b hb).1, fun x hx => ?_⟩⟩
  · rw [List.map_append, ← List.cons_append]
    refine List.nodup_append.mpr ⟨h3, by simp, fun a ha b hb => ?_⟩
    rw [List.map_cons, List.map_nil, List.mem_singleton] at hb
    rw [hb]
    rcases List.mem_cons.mp ha with ha | ha
    · rw [ha]
      exact nql.symm
    · obtain ⟨x, hx, rfl⟩ := List.mem_map.mp ha
      exact nqp x hx
  · rcases List.mem_append.mp hx with hx | hx
    · rw [upd_ne (nlp x hx)]
      exact ⟨(h4 x hx).1, e _ _ (h4 x hx).2⟩
    · rw [List.mem_singleton.mp hx, upd_ne nql]
      exact ⟨fresh_back e0 hq, hw⟩
  · rcases List.mem_append.mp hx with hx | hx
    · exact (h5 b hb).2 x hx
    · rw [List.mem_singleton.mp hx]
      exact fun z => hex b hb (by rw [z]; exact hq)
/-- the last one -/
theorem LLs.last {H0 H : Hp} {l : Addr} {ex : List Addr} {pss : List (List Str)} (h : LLs H0 H l ex pss) (hn : pss ≠ []) :
    ∃ vs p xs, H l = some (.lst vs) ∧ atI vs (-1) = some (.ref p) ∧ H p = some (.lst (xs.map V.str)) ∧ pss = pss.dropLast ++ [xs] ∧ H0 p = none ∧ (∀ b ∈ ex, b ≠ p) ∧
      ∀ H' ys, Ex H H' → LLs H0 (upd H' p (.lst (xs.map V.str ++ ys.map V.str))) l ex (pss.dropLast ++ [xs ++ ys]) := by
  obtain ⟨h0, ps, h1, h2, h3, h4, h5⟩ := h
  have hps : ps ≠ [] := fun z => hn (by rw [h1, z] <;> rfl)
  obtain ⟨r, x, rfl⟩ : ∃ r x, ps = r ++ [x] := ⟨_, _, (List.dropLast_concat_getLast hps).symm⟩
  have hx := h4 x (List.mem_append_right _ (List.mem_singleton.mpr rfl))
  have hdl : pss.dropLast = r.map (·.2) := by
    rw [h1, List.map_append]
    exact List.dropLast_concat
  have nxl : x.1 ≠ l := fun z => (List.nodup_cons.mp h3).1 (by rw [← z]; exact List.mem_map_of_mem (List.mem_append_right _ (List.mem_singleton.mpr rfl)))
  have nrx : ∀ y ∈ r, y.1 ≠ x.1 := fun y hy z => by
    have q := (List.nodup_cons.mp h3).2
    rw [List.map_append] at q
    exact (List.nodup_append.mp q).2.2 y.1 (List.mem_map_of_mem hy) x.1 (List.mem_singleton.mpr rfl) z
  refine ⟨_, x.1, x.2, h2, by rw [List.map_append]; exact atI_last _ _, hx.2, by rw [hdl, h1, List.map_append] <;> rfl, hx.1, fun b hb => (h5 b hb).2 x (List.mem_append_right _ (List.mem_singleton.mpr rfl)), fun H' ys e => ⟨h0, r ++ [(x.1, x.2 ++ ys)], ?_, ?_, ?_, fun y hy => ?_, fun b hb => ⟨(h5 b hb).1, fun y hy => ?_⟩⟩⟩
  · rw [hdl, List.map_append] <;> rfl
  · rw [upd_ne nxl.symm, e _ _ h2, List.map_append, List.map_append] <;> rfl
  · rw [List.map_append] at h3 ⊢
    exact h3
  · rcases List.mem_append.mp hy with hy | hy
    · rw [upd_ne (nrx y hy)]
      exact ⟨(h4 y (List.mem_append_left _ hy)).1, e _ _ (h4 y (List.mem_append_left _ hy)).2⟩
    · rw [List.mem_singleton.mp hy]
      refine ⟨hx.1, ?_⟩
      rw [upd_same, List.map_append]
  · rcases List.mem_append.mp hy with hy | hy
    · exact (h5 b hb).2 y (List.mem_append_left _ hy)
    · rw [List.mem_singleton.mp hy]
      exact (h5 b hb).2 x (List.mem_append_right _ (List.mem_singleton.mpr rfl))
/-- the k-th one -/
theorem LLs.at {H0 H : Hp} {l : Addr} {ex : List Addr} {pss : List (List Str)} (h : LLs H0 H l ex pss) {k : Nat} {xs : List Str} (hk : pss[k]? = some xs) :
    ∃ vs p, H l = some (.lst vs) ∧ vs.length = pss.length ∧ vs[k]? = some (.ref p) ∧ H p = some (.lst (xs.map V.str)) := by
  obtain ⟨h0, ps, h1, h2, h3, h4, h5⟩ := h
  rw [h1, List.getElem?_map] at hk
  obtain ⟨x, hx, rfl⟩ := Option.map_eq_some_iff.mp hk
  exact ⟨_, x.1, h2, by rw [h1, List.length_map, List.length_map], by rw [List.getElem?_map, hx] <;> rfl, (h4 x (List.mem_of_getElem? hx)).2⟩
theorem LLs.lst {H0 H : Hp} {l : Addr} {ex : List Addr} {pss : List (List Str)} (h : LLs H0 H l ex pss) : ∃ vs, H l = some (.lst vs) ∧ vs.length = pss.length := by
  obtain ⟨h0, ps, h1, h2, h3, h4, h5⟩ := h
  exact ⟨_, h2, by rw [h1, List.length_map, List.length_map]⟩
section
variable {K : PySem.W.Frag} {σ : L2.St} {H H' : Hp} {ta tb te tx : TE} {D : Ends} {tz : TS} {v : V}
theorem et_tru {p : Addr} {xs : List V} (h : Ev te σ H (.ref p)) (hs : SqL K H p xs) : EvT (fun σ H Q => te σ H fun x H' => ∃ k, TruV K x H' k ∧ Q k H') σ H (!xs.isEmpty) := fun H1 e _ q => h H1 e _ fun H2 e2 => ⟨_, .inl ⟨xs, ex_l (e.trans e2) hs, rfl⟩, q H2 e2⟩
theorem ev_notT {p : Addr} {xs : List V} (h : Ev te σ H (.ref p)) (hs : SqL K H p xs) : Ev (tNotT K te) σ H (.bl (!!xs.isEmpty)) := fun H1 e _ q => h H1 e _ fun H2 e2 => ⟨_, .inl ⟨xs, ex_l (e.trans e2) hs, rfl⟩, q H2 e2⟩
/-- xs.extend(ys) -/
theorem s_ext {l b : Addr} {xs zs : List V} (hl : H l = some (.lst xs)) (hb : H b = some (.lst zs)) (ha : Ev ta σ H (.ref l)) (h : Ev te σ H (.ref b)) (hz : xs.length + zs.length ≤ 100000) (k : ∀ H1, Ex H H1 → D.nx σ (upd H1 l (.lst (xs ++ zs)))) :
    tDrop (tBM K "list" rExtend ta (tCons te tNil)) D σ H := ha H (Ex.refl H) _ fun H1 e1 =>
  ⟨Or.inl ⟨rfl, xs, sq_of (e1 l _ hl)⟩, h H1 e1 _ fun H2 e2 => ⟨l, b, xs, zs, rfl, rfl, e2 l _ (e1 l _ hl), e2 b _ (e1 b _ hb), sz_of hz, k H2 (e1.trans e2)⟩⟩
/-- a text cut -/
theorem el_split {a b : Str} (ha : Ev ta σ H (.str a)) (hb : Ev tb σ H (.str b)) (h0 : (b.length == 0) = false) (hl : a.length ≤ 90000) :
    EvL (tM1 (fun x xs H Q => ∃ a b, x = .str a ∧ xs = [.str b] ∧ (b.length == 0) = false ∧ a.length + 2 ≤ sizeLine ∧ rNewStrs (Txt.split a b) H Q) ta tb) σ H ((Txt.split a b).map V.str) :=
  fun H1 e Q q => ha H1 e _ fun H2 e2 => ⟨⟨a, rfl⟩, hb H2 (e.trans e2) _ fun H3 e3 => ⟨a, b, rfl, rfl, h0, sz_of (by omega), fun p hp => q p _ (fresh_back (e2.trans e3) hp) ((e2.trans e3).trans (Ex.new hp)) upd_same⟩⟩
end
/-! ### joined, cut: signs and sizes -/
theorem joinL_mem (S : List Nat) : ∀ (ps : List (List Nat)) (c : Nat), c ∈ TL.joinL S ps → c ∈ S ∨ ∃ p ∈ ps, c ∈ p
  | [], _, h => absurd h (List.not_mem_nil)
  | [p], _, h => .inr ⟨p, List.mem_cons_self .., h⟩
  | p :: q :: r, c, h => by
    have h' : c ∈ p ++ (S ++ TL.joinL S (q :: r)) := h
    rcases List.mem_append.mp h' with h1 | h1
    · exact .inr ⟨p, List.mem_cons_self .., h1⟩
    · rcases List.mem_append.mp h1 with h2 | h2
      · exact .inl h2
      · rcases joinL_mem S (q :: r) c h2 with h3 | ⟨x, hx, h3⟩
        · exact .inl h3
        · exact .inr ⟨x, List.mem_cons_of_mem _ hx, h3⟩
theorem joinL_len (S : List Nat) : ∀ ps : List (List Nat), (TL.joinL S ps).length + (if ps = [] then 0 else S.length) = (ps.map List.length).sum + ps.length * S.length
  | [] => by simp [TL.joinL]
  | [p] => by simp [TL.joinL]
  | p :: q :: r => by
    have ih := joinL_len S (q :: r)
    rw [if_neg (by simp)] at ih
    show (p ++ (S ++ TL.joinL S (q :: r))).length + _ = _
    rw [if_neg (by simp), List.length_append, List.length_append, List.map_cons, List.sum_cons, List.length_cons, Nat.succ_mul]
    omega
theorem txs_join {y : Str} {ps : List Str} (hy : Txs y) (hp : ∀ p ∈ ps, Txs p) : Txs (Txt.join y ps) := fun c hc => by
  rw [TL.join_eq, TL.tl_join] at hc
  rcases joinL_mem _ _ c hc with h | ⟨p, h, h2⟩
  · exact hy c h
  · obtain ⟨z, hz, rfl⟩ := List.mem_map.mp h
    exact hp z hz c h2
theorem len_join (y : Str) (ps : List Str) : (Txt.join y ps).length + (if ps = [] then 0 else y.length) = (ps.map (·.length)).sum + ps.length * y.length := by
  have h := joinL_len (TL.tl y) (ps.map TL.tl)
  rw [← TL.tl_join, ← TL.join_eq, ← TL.len_tl, ← TL.len_tl, List.length_map, List.map_map] at h
  have e : (List.length ∘ TL.tl) = fun z : Str => z.length := by
    funext z
    exact (TL.len_tl z).symm
  rw [e] at h
  rw [← h]
  cases ps <;> simp
theorem len_join0 (ps : List Str) : (Txt.join Str.empty ps).length = (ps.map (·.length)).sum := by
  have h := len_join Str.empty ps
  rw [show Str.empty.length = 0 from rfl, Nat.mul_zero] at h
  cases ps <;> simp at h ⊢ <;> omega
theorem txs_empty : Txs Str.empty := fun c hc => by simp [TL.tl, Str.empty] at hc
/-- a text cut at the line ends -/
theorem spl_len : ∀ (l acc : List Nat), ((TL.spl [10] 0 acc l).map List.length).sum + (TL.spl [10] 0 acc l).length = acc.length + l.length + 1
  | [], acc => by rw [TL.spl_nil]; simp
  | c :: l, acc => by
    by_cases hc : c = 10
    · have e : TL.spl [10] 0 acc (c :: l) = acc :: TL.spl [10] 0 [] l := TL.spl_hit (by rw [hc]; rfl)
      rw [e, List.map_cons, List.sum_cons, List.length_cons]
      have ih := spl_len l []
      rw [List.length_nil] at ih
      rw [List.length_cons]
      omega
    · rw [TL.spl_miss (by
        show (([c] : List Nat) == [10]) = false
        rw [beq_eq_false_iff_ne]
        exact fun q => hc (List.cons.inj q).1)]
      have ih := spl_len l (acc ++ [c])
      rw [List.length_append, List.length_singleton] at ih
      rw [List.length_cons]
      omega
theorem spl_mem : ∀ (l acc y : List Nat) (c : Nat), y ∈ TL.spl [10] 0 acc l → c ∈ y → c ∈ acc ∨ c ∈ l
  | [], acc, y, c, h, hc => by
    rw [TL.spl_nil] at h
    rw [List.mem_singleton.mp h] at hc
    exact .inl hc
  | d :: l, acc, y, c, h, hc => by
    by_cases hd : d = 10
    · rw [TL.spl_hit (by rw [hd]; rfl)] at h
      rcases List.mem_cons.mp h with h | h
      · rw [h] at hc
        exact .inl hc
      · rcases spl_mem l [] y c h hc with q | q
        · exact absurd q (List.not_mem_nil)
        · exact .inr (List.mem_cons_of_mem _ q)
    · rw [TL.spl_miss (by
        show (([d] : List Nat) == [10]) = false
        rw [beq_eq_false_iff_ne]
        exact fun q => hd (List.cons.inj q).1)] at h
      rcases spl_mem l (acc ++ [d]) y c h hc with q | q
      · rcases List.mem_append.mp q with q | q
        · exact .inl q
        · rw [List.mem_singleton.mp q]
          exact .inr (List.mem_cons_self ..)
      · exact .inr (List.mem_cons_of_mem _ q)
def lfS : Str := ⟨#[10]⟩
theorem split_rows (z : Str) : (Txt.split z lfS).map TL.tl = TL.spl [10] 0 [] (TL.tl z) := TL.split_spl z lfS (by decide) (TL.kind_ok (by decide +kernel))
theorem rows_len (z : Str) : ((Txt.split z lfS).map (·.length)).sum + (Txt.split z lfS).length = z.length + 1 := by
  have h := spl_len (TL.tl z) []
  rw [← split_rows, List.length_map, List.map_map] at h
  have e : (List.length ∘ TL.tl) = fun z : Str => z.length := by
    funext z
    exact (TL.len_tl z).symm
  rw [e, ← TL.len_tl, List.length_nil, Nat.zero_add] at h
  exact h
theorem rows_txs {z : Str} (h : Txs z) : ∀ y ∈ Txt.split z lfS, Txs y := fun y hy c hc => by
  have hm : TL.tl y ∈ TL.spl [10] 0 [] (TL.tl z) := by
    rw [← split_rows]
    exact List.mem_map_of_mem hy
  rcases spl_mem _ _ _ c hm hc with q | q
  · exact absurd q (List.not_mem_nil)
  · exact h c q
section
variable {K : PySem.W.Frag} {σ : L2.St} {H H' : Hp} {ta tb te tx : TE} {D : Ends} {tz : TS} {v : V}
theorem el_is {xs ys : List V} (h : EvL te σ H xs) (e : xs = ys) : EvL te σ H ys := by
  rw [← e]
  exact h
theorem given_all (n : Nat) (v : Nat → V) : given n (fun _ => true) v = (List.range n).map v := by
  unfold given
  rw [List.filter_eq_self.mpr fun _ _ => rfl]
theorem et_yes : EvT tYes σ H true := fun H1 _ _ q => q H1 (Ex.refl H1)
/-- [e for k in range(n)] -/
theorem el_lcR {ta : TA} {j : Nat} {vs : List Nat} {n : Int} (v : Nat → V) (h : EvA ta σ H [.int n]) (hn : 0 ≤ n ∧ n ≤ 40000) (hw : ∀ x, wipe ((wipe σ vs).set j (some x)) vs = wipe σ vs)
    (he : ∀ (i : Nat) H1, Ex H H1 → (i : Int) < n → Ev te ((wipe σ vs).set j (some (.int (i : Int)))) H1 (v i)) : EvL (tLc (iRng1 ta) (gName j) tYes te vs) σ H ((List.range n.toNat).map v) :=
  el_is (el_lcR1 (fun _ => true) v h hn hw (fun _ _ _ _ => et_yes) fun i H1 e hi _ => he i H1 e hi) (given_all _ _)
/-- [e for x in l] -/
theorem el_lcX {a : Addr} {xs : List V} {tl : TE} {j : Nat} {vs : List Nat} (v : Nat → V) (h : Ev tl σ H (.ref a)) (hx : SqL K H a xs) (hz : xs.length ≤ 40000) (hw : ∀ x, wipe ((wipe σ vs).set j (some x)) vs = wipe σ vs)
    (he : ∀ (i : Nat) (x : V) H1, Ex H H1 → xs[i]? = some x → Ev te ((wipe σ vs).set j (some x)) H1 (v i)) : EvL (tLc (iList K tl) (gName j) tYes te vs) σ H ((List.range xs.length).map v) :=
  el_is (el_lcL (fun _ => true) v h hx hz hw (fun _ _ _ _ _ => et_yes) fun i x H1 e hi _ => he i x H1 e hi) (given_all _ _)
end
section
variable {σ : L2.St} {H : Hp} {D : Ends} {tz : TS}
/-- x = f(..), the arguments told by what they give -/
theorem q_asgP {ta : TA} {sp : Sp} {dvs : List V} {E : XK} {i : Nat} {P : List V → Hp → Prop} (h : ArgP ta σ H P) (k : ∀ vs H1, Ex H H1 → P vs H1 → sp (vs ++ dvs) H1 (fun v H2 => tz D (σ.set i (some v)) H2) E) : tSeq (tAsg (tCall sp dvs E ta) (gName i)) tz D σ H := h H (Ex.refl H) _ k
/-- x = f(..), told by f's own promise -/
theorem q_asgA {ta : TA} {sp : Sp} {dvs vs : List V} {E : XK} {i : Nat} (h : EvA ta σ H vs) (k : ∀ H1, Ex H H1 → sp (vs ++ dvs) H1 (fun v H2 => tz D (σ.set i (some v)) H2) E) : tSeq (tAsg (tCall sp dvs E ta) (gName i)) tz D σ H := h H (Ex.refl H) _ k
end
theorem LLs.drop {H0 H : Hp} {l : Addr} {ex : List Addr} {pss : List (List Str)} (h : LLs H0 H l ex pss) : LLs H0 H l [] pss := by
  obtain ⟨h0, ps, h1, h2, h3, h4, h5⟩ := h
  exact ⟨h0, ps, h1, h2, h3, h4, fun b hb => absurd hb (List.not_mem_nil)⟩
theorem LLs.zero {H0 H : Hp} {l : Addr} {ex : List Addr} (h0 : H0 l = none) (h : H l = some (.lst [])) (hex : ∀ b ∈ ex, b ≠ l) : LLs H0 H l ex [] :=
  ⟨h0, [], rfl, h, by simp, fun x hx => absurd hx (List.not_mem_nil), fun b hb => ⟨hex b hb, fun x hx => absurd hx (List.not_mem_nil)⟩⟩
/-! ### enumerate, tuples, sums -/
section
variable {K : PySem.W.Frag} {σ : L2.St} {H H' : Hp} {ta tb te tx : TE} {D : Ends} {tu tz : TS} {v : V}
theorem s_forE {ta : TA} {a : Addr} {xs : List V} {j1 j2 : Nat} (h : EvA ta σ H [.ref a]) (hx : SqL K H a xs) (Pv : Nat → L2.St → Hp → Prop) (h0 : ∀ H1, Ex H H1 → Pv 0 σ H1) (hl : ∀ i σ' H', i ≤ xs.length → Pv i σ' H' → SqL K H' a xs)
    (hs : ∀ i x σ' H' H2, xs[i]? = some x → Pv i σ' H' → Ex H' H2 → tu { D with nx := Pv (i + 1), ct := Pv (i + 1), bk := D.nx } ((σ'.set j1 (some (.int (i : Int)))).set j2 (some x)) H2) (hd : ∀ σ' H', Pv xs.length σ' H' → D.nx σ' H') :
    tFor (iEnum K ta) (gTup K 2 (gCons (gName j1) (gCons (gName j2) gNil))) tu D σ H :=
  h H (Ex.refl H) _ fun H1 e => ⟨a, xs, rfl, ex_l e hx, for_it walk_enum Pv (h0 H1 e) hl (fun i x σ' H' H'' hi p y => by
    obtain ⟨T, x1, x2, rfl, hT, rfl, hx1, hx2⟩ := y
    cases hx1
    exact ⟨T, _, rfl, .inl (.inl upd_same), rfl, _, _, rfl, _, _, rfl, rfl, hs i x2 σ' H' _ hx2 p (Ex.new hT)⟩) hd⟩
theorem q_forE {ta : TA} {a : Addr} {xs : List V} {j1 j2 : Nat} (h : EvA ta σ H [.ref a]) (hx : SqL K H a xs) (Pv : Nat → L2.St → Hp → Prop) (h0 : ∀ H1, Ex H H1 → Pv 0 σ H1) (hl : ∀ i σ' H', i ≤ xs.length → Pv i σ' H' → SqL K H' a xs)
    (hs : ∀ i x σ' H' H2, xs[i]? = some x → Pv i σ' H' → Ex H' H2 → tu { D with nx := Pv (i + 1), ct := Pv (i + 1), bk := tz D } ((σ'.set j1 (some (.int (i : Int)))).set j2 (some x)) H2) (hd : ∀ σ' H', Pv xs.length σ' H' → tz D σ' H') :
    tSeq (tFor (iEnum K ta) (gTup K 2 (gCons (gName j1) (gCons (gName j2) gNil))) tu) tz D σ H := s_forE (D := { D with nx := tz D }) h hx Pv h0 hl hs hd
theorem el_cat {l : Addr} {xs ys : List V} (ha : Ev ta σ H (.ref l)) (hl : H l = some (.lst xs)) (hb : EvL tb σ H ys) (hz : xs.length + ys.length ≤ 100000) : EvL (tOp rCat ta tb) σ H (xs ++ ys) := fun H1 e Q q =>
  ha H1 e _ fun H2 e2 => hb H2 (e.trans e2) _ fun p H3 _ e3 hp => ⟨l, p, xs, ys, rfl, rfl, e3 _ _ (e2 _ _ (e _ _ hl)), hp, sz_of hz, fun r hr => q r _ (fresh_back (e2.trans e3) hr) ((e2.trans e3).trans (Ex.new hr)) upd_same⟩
theorem el_catN {xs ys : List V} (ha : EvL ta σ H xs) (hb : EvL tb σ H ys) (hz : xs.length + ys.length ≤ 100000) : EvL (tOp rCat ta tb) σ H (xs ++ ys) := fun H1 e Q q =>
  ha H1 e _ fun l H2 _ e2 hl => hb H2 (e.trans e2) _ fun p H3 _ e3 hp => ⟨l, p, xs, ys, rfl, rfl, e3 _ _ hl, hp, sz_of hz, fun r hr => q r _ (fresh_back (e2.trans e3) hr) ((e2.trans e3).trans (Ex.new hr)) upd_same⟩
theorem ev_sumN {ns : List Int} (h : EvL te σ H (ns.map V.int)) : Ev (tCB (rSum K) (tCons te tNil)) σ H (.int ns.sum) := fun H1 e Q q =>
  h H1 e _ fun p H2 _ e2 hp => ⟨p, ns, rfl, sq_of hp, q H2 e2⟩
theorem ev_maxx {i j : Int} (ha : Ev ta σ H (.int i)) (hb : Ev tb σ H (.int j)) : Ev (tCB (fun xs H Q => ∃ i j, xs = [.int i, .int j] ∧ Q (.int (if j > i then j else i)) H) (tCons ta (tCons tb tNil))) σ H (.int (max i j)) := by
  have e : max i j = if j > i then j else i := by
    by_cases h : j > i
    · rw [if_pos h]; omega
    · rw [if_neg h]; omega
  rw [e]
  exact ev_max2 ha hb
theorem rc_isInt {i : Int} : RC (rIsi K) [.int i, .ty "int"] H (.bl true) := rc_isi (.ty _) (fun _ _ => .base (.int i)) (kit_ty (by decide +kernel))
theorem rc_isIntB {i : Int} : RC (rIsi K) [.int i, .ty "bool"] H (.bl false) := rc_isi (.ty _) (fun _ _ => .base (.int i)) (kit_ty (by decide +kernel))
/-- f(..) alone, told by f's own promise -/
theorem q_dropA {ta : TA} {sp : Sp} {dvs vs : List V} {E : XK} (h : EvA ta σ H vs) (k : ∀ H1, Ex H H1 → sp (vs ++ dvs) H1 (fun _ H2 => tz D σ H2) E) : tSeq (tDrop (tCall sp dvs E ta)) tz D σ H := h H (Ex.refl H) _ k
theorem s_dropA {ta : TA} {sp : Sp} {dvs vs : List V} {E : XK} (h : EvA ta σ H vs) (k : ∀ H1, Ex H H1 → sp (vs ++ dvs) H1 (fun _ H2 => D.nx σ H2) E) : tDrop (tCall sp dvs E ta) D σ H := h H (Ex.refl H) _ k
/-- a list made anew of another -/
theorem el_listOf {p : Addr} {xs : List V} (ha : Ev ta σ H (.ref p)) (h : SqL K H p xs) : EvL (tCB (fun xs H Q => ∃ p ys, xs = [.ref p] ∧ (SqL K H p ys ∨ SqT K H p ys) ∧ ∀ l, H l = none → Q (.ref l) (upd H l (.lst ys))) (tCons ta tNil)) σ H xs := el_list ha h
end
/-! ### tuples made in a display, walked -/
section
variable {K : PySem.W.Frag} {σ : L2.St} {H H' : Hp} {D : Ends} {tu tz : TS}
/-- arguments that give new tuples -/
def ArgT (ta : TA) (σ : L2.St) (H : Hp) (pss : List (List V)) : Prop := ∀ H1, Ex H H1 → ∀ Q : List V → Hp → Prop, (∀ (as : List Addr) H2, Ex H1 H2 → as.length = pss.length → (∀ (i : Nat) (a : Addr) (xs : List V), as[i]? = some a → pss[i]? = some xs → H2 a = some (.tup xs)) → Q (as.map V.ref) H2) → ta σ H1 Q
theorem at_nil : ArgT tNil σ H [] := fun H1 _ Q q => q [] H1 (Ex.refl H1) rfl (fun i a xs h => by simp at h)
theorem at_cons {te : TE} {tr : TA} {xs : List V} {pss : List (List V)} (h : EvU te σ H xs) (hr : ArgT tr σ H pss) : ArgT (tCons te tr) σ H (xs :: pss) := fun H1 e Q q =>
  h H1 e _ fun p H2 _ e2 hp => hr H2 (e.trans e2) _ fun as H3 e3 hl ha => q (p :: as) H3 (e2.trans e3) (by rw [List.length_cons, List.length_cons, hl]) (fun i a ys h1 h2 => by
    cases i with
    | zero =>
      cases h1
      cases h2
      exact e3 _ _ hp
    | succ i => exact ha i a ys h1 h2)
theorem q_forTs {ta : TA} {j : Nat} {pss : List (List V)} (h : ArgT ta σ H pss) (hz : pss.length ≤ 100) (Pv : Hp → Nat → L2.St → Hp → Prop) (hE : ∀ B i σ' H', Pv B i σ' H' → Ex B H') (h0 : ∀ B, Ex H B → Pv B 0 σ B)
    (hs : ∀ B i a xs σ' H', pss[i]? = some xs → Pv B i σ' H' → H' a = some (.tup xs) → tu { D with nx := Pv B (i + 1), ct := Pv B (i + 1), bk := tz D } (σ'.set j (some (.ref a))) H') (hd : ∀ B σ' H', Pv B pss.length σ' H' → tz D σ' H') :
    tSeq (tFor (iList K (tLst ta)) (gName j) tu) tz D σ H := h H (Ex.refl H) _ fun as H1 e1 hl ha => by
  have hn : (as.map V.ref).length = pss.length := by rw [List.length_map, hl]
  refine ⟨by rw [hn]; exact sz_of (by omega), fun p hp => ⟨p, rfl, ⟨_, sq_of upd_same⟩, ?_⟩⟩
  have eB : Ex H (upd H1 p (.lst (as.map V.ref))) := e1.trans (Ex.new hp)
  refine for_list (K := K) (a := p) (xs := as.map V.ref) (D := { D with nx := tz D }) (Pv (upd H1 p (.lst (as.map V.ref)))) (h0 _ eB) (fun i σ' H' _ q => sq_of (hE _ _ _ _ q _ _ upd_same)) (fun i x σ' H' hi q => ?_) (fun σ' H' q => ?_)
  · rw [List.getElem?_map] at hi
    obtain ⟨a, hai, rfl⟩ := Option.map_eq_some_iff.mp hi
    have hil : i < pss.length := by
      have := (List.getElem?_eq_some_iff.mp hai).1
      omega
    have hxs : pss[i]? = some pss[i] := List.getElem?_eq_getElem hil
    have hta := ha i a _ hai hxs
    have nap : a ≠ p := fun z => by rw [z, hp] at hta; cases hta
    exact hs _ i a _ σ' H' hxs q (hE _ _ _ _ q _ _ (by rw [upd_ne nap]; exact hta))
  · rw [hn] at q
    exact hd _ σ' H' q
end
end Tw
set_option Elab.async false
set_option linter.all false
set_option maxRecDepth 100000
namespace Pf
open PySem PySem.Spec PyProof.Rows L2 Evl Tw
def topS (i : Nat) : Stmt := PySem.Challenge.pw_textwrapper_k02_paragraphs_cut.main.body.getD i (.Pass ⟨0, 0, 0, 0⟩)
abbrev s_words_of : Stmt := topS 1
abbrev N_words_of : List Str := ["text"]
theorem sc_words_of : FnScope N_words_of ["text"] (defScope s_words_of) := ⟨rfl, rfl, rfl, by decide +kernel, rfl, by decide +kernel, by decide +kernel⟩
abbrev s_paragraphs_of : Stmt := topS 2
abbrev N_paragraphs_of : List Str := ["text", "paragraphs", "parted", "row", "words"]
theorem sc_paragraphs_of : FnScope N_paragraphs_of ["text"] (defScope s_paragraphs_of) := ⟨rfl, rfl, rfl, by decide +kernel, rfl, by decide +kernel, by decide +kernel⟩
abbrev s_l_cell_at : Stmt := topS 4
abbrev N_l_cell_at : List Str := ["_law_script", "_law_k"]
theorem sc_l_cell_at : FnScope N_l_cell_at ["_law_script", "_law_k"] (defScope s_l_cell_at) := ⟨rfl, rfl, rfl, by decide +kernel, rfl, by decide +kernel, by decide +kernel⟩
abbrev s_l_sign_by : Stmt := topS 5
abbrev N_l_sign_by : List Str := ["_law_cell", "_law_some"]
theorem sc_l_sign_by : FnScope N_l_sign_by ["_law_cell"] (defScope s_l_sign_by) := ⟨rfl, rfl, rfl, by decide +kernel, rfl, by decide +kernel, by decide +kernel⟩
abbrev s_l_texts : Stmt := topS 6
abbrev N_l_texts : List Str := ["_law_found", "_law_due", "_law_k"]
theorem sc_l_texts : FnScope N_l_texts ["_law_found", "_law_due"] (defScope s_l_texts) := ⟨rfl, rfl, rfl, by decide +kernel, rfl, by decide +kernel, by decide +kernel⟩
abbrev s_l_text_by : Stmt := topS 7
abbrev N_l_text_by : List Str := ["_law_cells", "_law_signs", "_law_cell", "_law_size", "_law_k"]
theorem sc_l_text_by : FnScope N_l_text_by ["_law_cells"] (defScope s_l_text_by) := ⟨rfl, rfl, rfl, by decide +kernel, rfl, by decide +kernel, by decide +kernel⟩
abbrev s_l_parts : Stmt := topS 8
abbrev N_l_parts : List Str := ["_law_signs", "_law_parts_here", "_law_held", "_law_last", "_law_sign"]
theorem sc_l_parts : FnScope N_l_parts ["_law_signs"] (defScope s_l_parts) := ⟨rfl, rfl, rfl, by decide +kernel, rfl, by decide +kernel, by decide +kernel⟩
abbrev s_law : Stmt := topS 9
abbrev N_law : List Str := ["_law_script", "_law_signs", "_law_due", "_law_found", "_law_k"]
theorem sc_law : FnScope N_law ["_law_script"] (defScope s_law) := ⟨rfl, rfl, rfl, by decide +kernel, rfl, by decide +kernel, by decide +kernel⟩
/-- where the defs and classes stand -/
structure Ad where
  f_words_of : Addr
  d_words_of : FuncData
  f_paragraphs_of : Addr
  d_paragraphs_of : FuncData
  f_l_cell_at : Addr
  d_l_cell_at : FuncData
  f_l_sign_by : Addr
  d_l_sign_by : FuncData
  f_l_texts : Addr
  d_l_texts : FuncData
  f_l_text_by : Addr
  d_l_text_by : FuncData
  f_l_parts : Addr
  d_l_parts : FuncData
  f_law : Addr
  d_law : FuncData
/-- what the top has left -/
structure Txt (K : PySem.W.Frag) (mg : Str → Option Value) (A : Ad) : Prop where
  F_words_of : Fun K "words_of" "words_of" s_words_of A.f_words_of A.d_words_of
  g_words_of : mg "words_of" = some (.ref A.f_words_of)
  b_words_of : Binds K A.d_words_of ["text"] []
  F_paragraphs_of : Fun K "paragraphs_of" "paragraphs_of" s_paragraphs_of A.f_paragraphs_of A.d_paragraphs_of
  g_paragraphs_of : mg "paragraphs_of" = some (.ref A.f_paragraphs_of)
  b_paragraphs_of : Binds K A.d_paragraphs_of ["text"] []
  F_l_cell_at : Fun K "_law_cell_at" "_law_cell_at" s_l_cell_at A.f_l_cell_at A.d_l_cell_at
  g_l_cell_at : mg "_law_cell_at" = some (.ref A.f_l_cell_at)
  b_l_cell_at : Binds K A.d_l_cell_at ["_law_script", "_law_k"] []
  F_l_sign_by : Fun K "_law_sign_by" "_law_sign_by" s_l_sign_by A.f_l_sign_by A.d_l_sign_by
  g_l_sign_by : mg "_law_sign_by" = some (.ref A.f_l_sign_by)
  b_l_sign_by : Binds K A.d_l_sign_by ["_law_cell"] []
  F_l_texts : Fun K "_law_texts" "_law_texts" s_l_texts A.f_l_texts A.d_l_texts
  g_l_texts : mg "_law_texts" = some (.ref A.f_l_texts)
  b_l_texts : Binds K A.d_l_texts ["_law_found", "_law_due"] []
  F_l_text_by : Fun K "_law_text_by" "_law_text_by" s_l_text_by A.f_l_text_by A.d_l_text_by
  g_l_text_by : mg "_law_text_by" = some (.ref A.f_l_text_by)
  b_l_text_by : Binds K A.d_l_text_by ["_law_cells"] []
  F_l_parts : Fun K "_law_parts" "_law_parts" s_l_parts A.f_l_parts A.d_l_parts
  g_l_parts : mg "_law_parts" = some (.ref A.f_l_parts)
  b_l_parts : Binds K A.d_l_parts ["_law_signs"] []
  F_law : Fun K "law" "law" s_law A.f_law A.d_law
  g_law : mg "law" = some (.ref A.f_law)
  b_law : Binds K A.d_law ["_law_script"] []
  m_isinstance : mg "isinstance" = none
  m_len : mg "len" = none
  m_list : mg "list" = none
  m_range : mg "range" = none
  m_str : mg "str" = none
/-! ### the paragraphs of a text: by rows, and sign by sign -/
def rowstep (s : List (List Str) × Bool) (w : List Str) : List (List Str) × Bool := if w = [] then (s.1, false) else if s.2 = true then (s.1.dropLast ++ [s.1.getLastD [] ++ w], true) else (s.1 ++ [w], true)
def paras (z : Str) : List (List Str) := ((Txt.split z lfS).foldl (fun s y => rowstep s (Txt.words y)) ([], false)).1
structure LSt where
  p : List (List Str)
  h : Str
  w : Bool
  r : Bool
def lstep1 (s : LSt) (c : Nat) : LSt :=
  if Unicode.isSpace c = false then ⟨if s.h.length = 0 ∧ s.r = false then s.p ++ [[]] else s.p, s.h ++ ⟨#[c]⟩, true, true⟩
  else if s.h.length = 0 then s else ⟨s.p.dropLast ++ [s.p.getLastD [] ++ [s.h]], Str.empty, s.w, s.r⟩
def lstep (s : LSt) (c : Nat) : LSt := if c = 10 then ⟨(lstep1 s c).p, (lstep1 s c).h, false, if (lstep1 s c).w = true then (lstep1 s c).r else false⟩ else lstep1 s c
theorem getLastD_snoc {α : Type} (l : List α) (x d : α) : (l ++ [x]).getLastD d = x := by
  rw [List.getLastD_eq_getLast?, List.getLast?_concat] <;> rfl
theorem snoc_last {α : Type} {l : List α} (h : l ≠ []) (d : α) : l.dropLast ++ [l.getLastD d] = l := by
  obtain ⟨r, x, rfl⟩ : ∃ r x, l = r ++ [x] := ⟨_, _, (List.dropLast_concat_getLast h).symm⟩
  rw [getLastD_snoc, List.dropLast_concat]
/-- within a row: the words so far, the run -/
def mid (p : List (List Str)) (r : Bool) (st : KWd.St) : LSt :=
  if st.1 = [] ∧ st.2.length = 0 then ⟨p, Str.empty, false, r⟩
  else ⟨(if r = true then p.dropLast else p) ++ [(if r = true then p.getLastD [] else []) ++ st.1], st.2, true, true⟩
theorem mid_step {p : List (List Str)} {r : Bool} (hp : r = true → p ≠ []) (st : KWd.St) {c : Nat} (hc : c ≠ 10) : lstep (mid p r st) c = mid p r (KWd.step st c) := by
  obtain ⟨ws, u⟩ := st
  rw [lstep, if_neg hc]
  by_cases hs : Unicode.isSpace c = false
  · have e1 : KWd.step (ws, u) c = (ws, u ++ ⟨#[c]⟩) := if_neg (by rw [hs]; exact Bool.false_ne_true)
    have hl : ¬ (u ++ (⟨#[c]⟩ : Str)).length = 0 := by
      rw [len_app]
      show ¬ u.length + 1 = 0
      omega
    rw [e1, lstep1, if_pos hs]
    have e2 : mid p r (ws, u ++ ⟨#[c]⟩) = ⟨(if r = true then p.dropLast else p) ++ [(if r = true then p.getLastD [] else []) ++ ws], u ++ ⟨#[c]⟩, true, true⟩ := if_neg fun q => hl q.2
    rw [e2]
    by_cases h0 : ws = [] ∧ u.length = 0
    · have e3 : mid p r (ws, u) = ⟨p, Str.empty, false, r⟩ := if_pos h0
      rw [e3, h0.1, KWd.len0 h0.2]
      cases r with
      | true =>
        rw [if_neg (by simp), if_pos rfl, if_pos rfl, List.append_nil, snoc_last (hp rfl)]
      | false => simp [Str.empty, Str.length]
    · have e3 : mid p r (ws, u) = ⟨(if r = true then p.dropLast else p) ++ [(if r = true then p.getLastD [] else []) ++ ws], u, true, true⟩ := if_neg h0
      rw [e3, if_neg (by simp)]
  · have hs' : Unicode.isSpace c = true := by cases e : Unicode.isSpace c <;> simp_all
    rw [lstep1, if_neg hs]
    by_cases hu : u.length = 0
    · have e1 : KWd.step (ws, u) c = (ws, u) := (if_pos hs').trans (if_pos hu)
      rw [e1]
      by_cases h0 : ws = [] ∧ u.length = 0
      · have e3 : mid p r (ws, u) = ⟨p, Str.empty, false, r⟩ := if_pos h0
        rw [e3, if_pos (show Str.empty.length = 0 from rfl)]
      · have e3 : mid p r (ws, u) = ⟨(if r = true then p.dropLast else p) ++ [(if r = true then p.getLastD [] else []) ++ ws], u, true, true⟩ := if_neg h0
        rw [e3, if_pos hu]
    · have e1 : KWd.step (ws, u) c = (ws ++ [u], Str.empty) := (if_pos hs').trans (if_neg hu)
      have e3 : mid p r (ws, u) = ⟨(if r = true then p.dropLast else p) ++ [(if r = true then p.getLastD [] else []) ++ ws], u, true, true⟩ := if_neg fun q => hu q.2
      have e4 : mid p r (ws ++ [u], Str.empty) = ⟨(if r = true then p.dropLast else p) ++ [(if r = true then p.getLastD [] else []) ++ (ws ++ [u])], Str.empty, true, true⟩ := if_neg fun q => by simp at q
      rw [e1, e3, e4, if_neg hu, getLastD_snoc, List.dropLast_concat, List.append_assoc]
theorem mid_fold {p : List (List Str)} {r : Bool} (hp : r = true → p ≠ []) : ∀ (l : List Nat) (st : KWd.St), 10 ∉ l → l.foldl lstep (mid p r st) = mid p r (l.foldl KWd.step st)
  | [], _, _ => rfl
  | c :: l, st, h => by
    have h1 : c ≠ 10 := fun e => h (by rw [e]; exact List.mem_cons_self ..)
    rw [List.foldl_cons, List.foldl_cons, mid_step hp st h1, mid_fold hp l _ fun q => h (List.mem_cons_of_mem _ q)]
theorem mid_end {p : List (List Str)} {r : Bool} (st : KWd.St) : lstep (mid p r st) 10 = ⟨(rowstep (p, r) (KWd.fin st)).1, Str.empty, false, (rowstep (p, r) (KWd.fin st)).2⟩ := by
  obtain ⟨ws, u⟩ := st
  have h10 : ¬ Unicode.isSpace 10 = false := by rw [space_10]; decide
  rw [lstep, if_pos rfl, lstep1, if_neg h10]
  by_cases hu : u.length = 0
  · have ef : KWd.fin (ws, u) = ws := if_pos hu
    rw [ef]
    by_cases h0 : ws = []
    · have e3 : mid p r (ws, u) = ⟨p, Str.empty, false, r⟩ := if_pos ⟨h0, hu⟩
      rw [e3, h0, if_pos (show Str.empty.length = 0 from rfl), rowstep, if_pos rfl] <;> rfl
    · have e3 : mid p r (ws, u) = ⟨(if r = true then p.dropLast else p) ++ [(if r = true then p.getLastD [] else []) ++ ws], u, true, true⟩ := if_neg fun q => h0 q.1
      rw [e3, if_pos hu, rowstep, if_neg h0, KWd.len0 hu]
      cases r with
      | true => rw [if_pos rfl] <;> rfl
      | false => rw [if_neg (by simp)] <;> rfl
  · have ef : KWd.fin (ws, u) = ws ++ [u] := if_neg hu
    have e3 : mid p r (ws, u) = ⟨(if r = true then p.dropLast else p) ++ [(if r = true then p.getLastD [] else []) ++ ws], u, true, true⟩ := if_neg fun q => hu q.2
    have hw : ¬ (ws ++ [u] = []) := by simp
    rw [ef, e3, if_neg hu]
    cases r with
    | true =>
      have e5 : rowstep (p, true) (ws ++ [u]) = (p.dropLast ++ [p.getLastD [] ++ (ws ++ [u])], true) := (if_neg hw).trans (if_pos rfl)
      rw [e5]
      simp only [getLastD_snoc, List.dropLast_concat, List.append_assoc, if_true]
    | false =>
      have e5 : rowstep (p, false) (ws ++ [u]) = (p ++ [ws ++ [u]], true) := (if_neg hw).trans (if_neg (by simp))
      rw [e5]
      simp only [getLastD_snoc, List.dropLast_concat, List.append_assoc, List.nil_append, if_true, Bool.false_eq_true, if_false]
theorem rowstep_ne {s : List (List Str) × Bool} {w : List Str} : (rowstep s w).2 = true → (rowstep s w).1 ≠ [] := by
  unfold rowstep
  split
  · intro h; cases h
  · split <;> (intro _; simp)
/-- sign by sign over l and a line end, acc already read since the last one -/
theorem rows_fold : ∀ (l acc : List Nat) (p : List (List Str)) (r : Bool), (r = true → p ≠ []) → 10 ∉ acc →
    (l ++ [10]).foldl lstep (acc.foldl lstep ⟨p, Str.empty, false, r⟩) =
      (let e := (TL.spl [10] 0 acc l).foldl (fun s y => rowstep s (KWd.fin (y.foldl KWd.step ([], Str.empty)))) (p, r); ⟨e.1, Str.empty, false, e.2⟩)
  | [], acc, p, r, hp, ha => by
    have e0 : (⟨p, Str.empty, false, r⟩ : LSt) = mid p r ([], Str.empty) := (if_pos ⟨rfl, rfl⟩).symm
    rw [TL.spl_nil, List.nil_append, e0, mid_fold hp acc _ ha]
    exact mid_end _
  | c :: l, acc, p, r, hp, ha => by
    by_cases hc : c = 10
    · have e0 : (⟨p, Str.empty, false, r⟩ : LSt) = mid p r ([], Str.empty) := (if_pos ⟨rfl, rfl⟩).symm
      have hh : TL.pre [10] (c :: l) = true := by rw [hc]; rfl
      rw [TL.spl_hit hh, List.cons_append, List.foldl_cons, e0, mid_fold hp acc _ ha, hc, mid_end]
      have ih := rows_fold l [] (rowstep (p, r) (KWd.fin (acc.foldl KWd.step ([], Str.empty)))).1 (rowstep (p, r) (KWd.fin (acc.foldl KWd.step ([], Str.empty)))).2 rowstep_ne (by simp)
      exact ih
    · have hh : TL.pre [10] (c :: l) = false := by
        show (([c] : List Nat) == [10]) = false
        rw [beq_eq_false_iff_ne]
        exact fun q => hc (List.cons.inj q).1
      rw [TL.spl_miss hh, List.cons_append, List.foldl_cons]
      have ih := rows_fold l (acc ++ [c]) p r hp (fun q => by
        rcases List.mem_append.mp q with q | q
        · exact ha q
        · exact hc (List.mem_singleton.mp q).symm)
      have e6 : (acc ++ [c]).foldl lstep ⟨p, Str.empty, false, r⟩ = lstep (acc.foldl lstep ⟨p, Str.empty, false, r⟩) c := by
        rw [List.foldl_append] <;> rfl
      rw [e6] at ih
      exact ih
theorem paras_signs (z : Str) : ((TL.tl z ++ [10]).foldl lstep ⟨[], Str.empty, false, false⟩).p = paras z := by
  have h := rows_fold (TL.tl z) [] [] false (fun q => by cases q) (by simp)
  have h2 : (TL.tl z ++ [10]).foldl lstep ⟨[], Str.empty, false, false⟩ = _ := h
  rw [h2, ← split_rows, List.foldl_map]
  unfold paras
  show (List.foldl (fun s y => rowstep s (KWd.fin ((TL.tl y).foldl KWd.step ([], Str.empty)))) ([], false) (Txt.split z lfS)).1 = _
  congr 1
  congr 1
  funext s y
  rw [KWd.words_scan] <;> rfl

local macro_rules | `(tactic| walk_at "rv") => `(tactic| (first
  | exact rv_I0
  | exact rv_I (by decide)
  | exact rv_I ⟨by omega, by omega⟩
  | exact rv_I (.inl ⟨by omega, by omega⟩)
  | exact rv_I (.inr ⟨by omega, by omega⟩)
  | exact rv_eq rfl
  | exact rv_ne rfl
  | exact rv_isB
  | exact rv_isN
  | exact rv_notN))
local macro_rules | `(tactic| walk_at "ev") => `(tactic| (first
  | exact ev_c
  | exact ev_var rfl
  | (apply ev_op; (walk_at "ev"); (walk_at "ev"); (walk_at "rv"))
  | (apply ev_un; (walk_at "ev"); (exact ru_neg))
  | (apply ev_cb; (walk_at "ea"); (walk_at "rc"))
  | (apply ev_call; (walk_at "ea"); (walk_at "sp"))))
local macro_rules | `(tactic| walk_at "ea") => `(tactic| (first
  | exact ea_nil
  | (apply ea_cons; (walk_at "ev"); (walk_at "ea"))))
local macro_rules | `(tactic| walk_at "rc") => `(tactic| (first
  | exact rc_lenL (by assumption)
  | exact rc_lenS (by omega)
  | exact rc_isStr
  | exact rc_isList (by assumption)))
local macro_rules | `(tactic| walk_at "et") => `(tactic| (first
  | (apply et_test; (walk_at "ev"))
  | (apply et_B; (walk_at "ev"))
  | (apply et_not; (walk_at "et"))))

section
variable {P : Program} {w : World} {K : PySem.W.Frag} {mg : Str → Option Value} {base : Heap} {A : Ad}
/-! ### _law_cell_at -/
def sp_cell_at (K : PySem.W.Frag) : Sp := fun vs H Q _ => ∃ (a : Addr) (ns : List Int) (j : Nat), vs = [.ref a, .int j] ∧ SqL K H a (ns.map V.int) ∧ RetV (.int (ns.getD j 0)) H Q
theorem ok_l_cell_at (T : Txt K mg A) : FnOk P w K mg base CX0 1 A.f_l_cell_at A.d_l_cell_at ["_law_script", "_law_k"] (sp_cell_at K) := by
  refine T.F_l_cell_at.ok sc_l_cell_at (fun vs H Q E h => ?_) (fun cdv Ar outer s H vs Q E hr h => ?_)
  · obtain ⟨a, ns, j, rfl, _⟩ := h
    rfl
  · obtain ⟨a, ns, j, rfl, hS, k⟩ := h
    refine ⟨_, (pss_cons (ps_if (pt_cmpR op_lt (pv 1) (pe_callB call_len_seq (by rfl) T.m_len PySem.boot_len (pa_cons (pv 0) pa_nil)) (nomark _))
  (pss_one (ps_ret (pe_ix ix_list (pv 0) (pv 1) (fun _ _ => rfl))))
  pss_nil)
  (pss_one (ps_ret pe_int))), ?_⟩
    refine q_when (b := decide ((j : Int) < ((ns.map V.int).length : Nat))) (by walk_at "et") (fun hb H1 e1 => ?_) (fun hb H1 e1 => ?_)
    · have hj : j < ns.length := by
        have q := of_decide_eq_true hb
        rw [List.length_map] at q
        omega
      have hS1 := ex_l e1 hS
      refine s_ret (v := .int (ns.getD j 0)) (ev_op (ev_var rfl) (ev_var rfl) (rv_ixL hS1 (atI_nat ?_))) fun H2 e2 => k H2 (e1.trans e2)
      rw [List.getElem?_map, List.getD_eq_getElem?_getD, List.getElem?_eq_getElem hj] <;> rfl
    · have hj : ns.length ≤ j := by
        have q := of_decide_eq_false hb
        rw [List.length_map] at q
        omega
      refine s_ret ev_c fun H2 e2 => ?_
      have e : ns.getD j 0 = 0 := by
        rw [List.getD_eq_getElem?_getD, List.getElem?_eq_none hj] <;> rfl
      rw [e] at k
      exact k H2 (e1.trans e2)
/-! ### _law_sign_by -/
def sp_sign_by (K : PySem.W.Frag) : Sp := fun vs H Q _ => ∃ (c : Int), vs = [.int c] ∧ RetV (.str ⟨#[sgn c]⟩) H Q
def alphA : Str := "!\"#$&'()*+,-./0123456789:;<=>?@ABCDEFGHIJKLMNOPQRSTUVWXYZ[\\]^_`"
def alphB : Str := "abcdefghijklmnopqrstuvwxyz{|}~"
theorem alph_tl : (alphA ++ alphB).cps.toList = sgnL := by decide +kernel
theorem alph_len : alphA.length + alphB.length ≤ 100000 := by decide +kernel
theorem alph_len2 : (alphA ++ alphB).length ≤ 100000 := by decide +kernel
theorem ok_l_sign_by (T : Txt K mg A) : FnOk P w K mg base CX0 1 A.f_l_sign_by A.d_l_sign_by ["_law_cell"] (sp_sign_by K) := by
  refine T.F_l_sign_by.ok sc_l_sign_by (fun vs H Q E h => ?_) (fun cdv Ar outer s H vs Q E hr h => ?_)
  · obtain ⟨c, rfl, _⟩ := h
    rfl
  · obtain ⟨c, rfl, k⟩ := h
    refine ⟨_, (pss_cons (ps_set (i := 1) sc_l_sign_by.nd rfl (.inl rfl) pe_str)
  (pss_cons (ps_set (i := 1) sc_l_sign_by.nd rfl (.inl rfl) (pe_op op_add_str (pv 1) pe_str))
  (pss_one (ps_ret (pe_ix ix_str (pv 1) (pe_op op_mod (pv 0) pe_int) (fun _ _ => rfl)))))), ?_⟩
    refine q_asg (v := .str alphA) ev_c fun H1 e1 => ?_
    refine q_asg (v := .str (alphA ++ alphB)) (ev_op (ev_var rfl) ev_c (rv_addS alph_len)) fun H2 e2 => ?_
    refine s_ret (v := .str ⟨#[sgn c]⟩) (ev_op (ev_var rfl) (ev_op (ev_var rfl) ev_c (rv_I (by decide))) (rv_ixS alph_len2 ?_)) fun H3 e3 => k H3 ((e1.trans e2).trans e3)
    rw [alph_tl]
    exact at_sgn c
/-! ### _law_texts, of equal lists -/
def sp_texts (K : PySem.W.Frag) : Sp := fun vs H Q _ => ∃ (p q : Addr) (l : List Str), vs = [.ref p, .ref q] ∧ SqL K H p (l.map V.str) ∧ SqL K H q (l.map V.str) ∧ l.length ≤ 60000 ∧ RetV (.bl true) H Q
theorem ok_l_texts (T : Txt K mg A) : FnOk P w K mg base CX0 1 A.f_l_texts A.d_l_texts ["_law_found", "_law_due"] (sp_texts K) := by
  refine T.F_l_texts.ok sc_l_texts (fun vs H Q E h => ?_) (fun cdv Ar outer s H vs Q E hr h => ?_)
  · obtain ⟨p, q, l, rfl, _⟩ := h
    rfl
  · obtain ⟨p, q, l, rfl, hp, hq, hlen, k⟩ := h
    refine ⟨_, (pss_cons (ps_if (PW.pt (pw_or (pt_not (pt_val (pe_callB call_isi (by rfl) T.m_isinstance (by decide +kernel) (pa_cons (pv 0) (pa_cons (pe_bltn (v := .ty "list") (by rfl) T.m_list (by decide +kernel) rfl) pa_nil))))) (pw_or1 (pt_cmpR op_ne (pe_callB call_len_seq (by rfl) T.m_len PySem.boot_len (pa_cons (pv 0) pa_nil)) (pe_callB call_len_seq (by rfl) T.m_len PySem.boot_len (pa_cons (pv 1) pa_nil)) (nomark _)))))
  (pss_one (ps_ret pe_bl))
  pss_nil)
  (pss_cons (ps_for PassesOwn.never rfl (pi_range1 (by rfl) T.m_range (pa_cons (pe_callB call_len_seq (by rfl) T.m_len PySem.boot_len (pa_cons (pv 1) pa_nil)) pa_nil)) (pg_name (i := 2) sc_l_texts.nd rfl (.inl rfl))
  (pss_one (ps_if (PW.pt (pw_or (pt_not (pt_val (pe_callB call_isi (by rfl) T.m_isinstance (by decide +kernel) (pa_cons (pe_ix ix_list (pv 0) (pv 2) (fun _ _ => rfl)) (pa_cons (pe_bltn (v := .ty "str") (by rfl) T.m_str (by decide +kernel) rfl) pa_nil))))) (pw_or1 (pt_cmpR op_ne (pe_ix ix_list (pv 0) (pv 2) (fun _ _ => rfl)) (pe_ix ix_list (pv 1) (pv 2) (fun _ _ => rfl)) (nomark _)))))
  (pss_one (ps_ret pe_bl))
  pss_nil)))
  (pss_one (ps_ret pe_bl)))), ?_⟩
    refine q_when (b := false) (et_is (et_or (et_not (et_B (ev_cb (ea_cons (ev_var rfl) (ea_cons ev_c ea_nil)) (rc_isList hp)))) fun _ => et_test (ev_op (ev_cb (ea_cons (ev_var rfl) ea_nil) (rc_lenL hp)) (ev_cb (ea_cons (ev_var rfl) ea_nil) (rc_lenL hq)) (rv_ne rfl))) (by simp)) (fun hb => nomatch hb) (fun _ H1 e1 => ?_)
    have hl : (l.map V.str).length = l.length := List.length_map ..
    refine q_forR1 (n := (l.map V.str).length) (ea_cons (ev_cb (ea_cons (ev_var rfl) ea_nil) (rc_lenL (ex_l e1 hq))) ea_nil) (by omega) (fun i σ' H' => ∃ x, σ' = [some (.ref p), some (.ref q), x] ∧ Ex H H')
      (fun H2 e2 => ⟨none, rfl, e1.trans e2⟩) ?_ ?_
    · rintro i σ' H' hi ⟨x, rfl, e⟩
      have hi' : i < l.length := by omega
      have g : (l.map V.str)[i]? = some (.str l[i]) := by
        rw [List.getElem?_map, List.getElem?_eq_getElem hi'] <;> rfl
      have e1 : Ev (tOp (rIxL K) (tVar 0) (tVar 2)) [some (.ref p), some (.ref q), some (.int (i : Int))] H' (.str l[i]) := ev_op (ev_var rfl) (ev_var rfl) (rv_ixL (ex_l e hp) (atI_nat g))
      have e2 : Ev (tOp (rIxL K) (tVar 1) (tVar 2)) [some (.ref p), some (.ref q), some (.int (i : Int))] H' (.str l[i]) := ev_op (ev_var rfl) (ev_var rfl) (rv_ixL (ex_l e hq) (atI_nat g))
      refine s_when (b := false) (et_is (et_or (et_not (et_B (ev_cb (ea_cons e1 (ea_cons ev_c ea_nil)) rc_isStr))) fun _ => et_test (ev_op e1 e2 (rv_ne rfl))) (by simp)) (fun hb => nomatch hb) (fun _ H2 e2 => ?_)
      exact ⟨_, rfl, e.trans e2⟩
    · rintro σ' H' ⟨x, rfl, e⟩
      exact s_ret (v := .bl true) ev_c fun H2 e2 => k H2 (e.trans e2)
def sp_words_of (K : PySem.W.Frag) : Sp := fun vs H Q _ => ∃ (z : Str), vs = [.str z] ∧ z.length ≤ 60000 ∧ RetL ((Txt.words z).map V.str) H Q
theorem ok_words_of (T : Txt K mg A) : FnOk P w K mg base CX0 1 A.f_words_of A.d_words_of ["text"] (sp_words_of K) := by
  refine T.F_words_of.ok sc_words_of (fun vs H Q E h => ?_) (fun cdv Ar outer s H vs Q E hr h => ?_)
  · obtain ⟨z, rfl, _⟩ := h
    rfl
  · obtain ⟨z, rfl, hlen, k⟩ := h
    refine ⟨_, (pss_one (ps_ret (pe_words (pv 0)))), ?_⟩
    exact s_retL (el_words (a := z) (ev_var rfl) (by omega)) fun p H2 hp e2 h2 => k p H2 hp e2 h2
/-! ### _law_text_by, of pieces -/
def sp_text_by (K : PySem.W.Frag) : Sp := fun vs H Q _ => ∃ (a : Addr) (ns : List Int), vs = [.ref a] ∧ SqL K H a (ns.map V.int) ∧ ns.length ≤ 100 ∧ ∀ z, Txs z → z.length ≤ 100 * ns.length → RetV (.str z) H Q
theorem ok_l_text_by (T : Txt K mg A) : FnOk P w K mg base CX0 2 A.f_l_text_by A.d_l_text_by ["_law_cells"] (sp_text_by K) := by
  refine T.F_l_text_by.ok sc_l_text_by (fun vs H Q E h => ?_) (fun cdv Ar outer s H vs Q E hr h => ?_)
  · obtain ⟨a, ns, rfl, _⟩ := h
    rfl
  · obtain ⟨a, ns, rfl, hS, hlen, k⟩ := h
    refine ⟨_, (pss_cons (ps_set (i := 1) sc_l_text_by.nd rfl (.inl rfl) pe_str)
  (pss_cons (ps_for PassesOwn.never rfl (pi_list (pv 0)) (pg_name (i := 2) sc_l_text_by.nd rfl (.inr rfl))
  (pss_one (ps_if (pt_cmpR op_eq (pe_op op_mod (pv 2) pe_int) pe_int (nomark _))
  (pss_one (ps_set (i := 1) sc_l_text_by.nd rfl (.inl rfl) (pe_op op_add_str (pv 1) (pe_op op_mulS pe_str (pe_op op_add pe_int (pe_op op_mod (pe_op op_fdiv (pv 2) pe_int) pe_int))))))
  (pss_one (ps_if (pt_cmpR op_eq (pe_op op_mod (pv 2) pe_int) pe_int (nomark _))
  (pss_one (ps_set (i := 1) sc_l_text_by.nd rfl (.inl rfl) (pe_op op_add_str (pv 1) (pe_op op_mulS pe_str (pe_op op_add pe_int (pe_op op_mod (pe_op op_fdiv (pv 2) pe_int) pe_int))))))
  (pss_cons (ps_set (i := 3) sc_l_text_by.nd rfl (.inl rfl) (pe_op op_add (pe_op op_add pe_int (pe_op op_mod (pe_op op_fdiv (pv 2) pe_int) pe_int)) (pe_op op_mul (pe_op op_fdiv (pe_op op_mod (pe_op op_fdiv (pv 2) pe_int) pe_int) pe_int) (pe_op op_mod (pe_op op_fdiv (pv 2) pe_int) pe_int))))
  (pss_one (ps_set (i := 1) sc_l_text_by.nd rfl (.inl rfl) (pe_op op_add_str (pv 1) (pe_join pe_str (pe_lc (own := [("_law_k", 4)]) (tt := tYes) rfl sc_l_text_by.nd (pi_range1 (by rfl) T.m_range (pa_cons (pv 3) pa_nil)) (blkOk_by (N := N_l_text_by) (sc := defScope s_l_text_by) (by decide +kernel)) (fun _ _ _ _ _ => (pg_name (i := 4) sc_l_text_by.nd rfl (.inl rfl))) (fun _ _ _ _ _ => pts_nil) (fun _ _ _ _ _ => (pe_call (ok_l_sign_by T) (hr.mono (by decide)) rfl T.g_l_sign_by T.F_l_sign_by.kp T.b_l_sign_by .nil pass0 (pa_cons (pe_op op_add (pe_op op_fdiv (pv 2) pe_int) (pe_op op_mul (pv 4) (pe_op op_mod (pe_op op_fdiv (pv 2) pe_int) pe_int))) pa_nil))))))))))))))
  (pss_one (ps_ret (pv 1))))), ?_⟩
    refine q_asg (v := .str Str.empty) ev_none fun H1 e1 => ?_
    refine q_forLn (ev_var rfl) (ex_l e1 hS) (fun i σ' H' => ∃ z x x2 x3, σ' = [some (.ref a), some (.str z), x, x2, x3] ∧ Ex H H' ∧ Txs z ∧ z.length ≤ 100 * i)
      (fun H2 e2 => ⟨Str.empty, none, none, none, rfl, e1.trans e2, txs_empty, Nat.zero_le _⟩)
      (fun i σ' H' _ ⟨_, _, _, _, _, e, _⟩ => ex_l e hS) ?_ ?_
    · rintro i x σ' H' hi ⟨z, x', x2, x3, rfl, e, hz, hl⟩
      have hi100 : i < 100 := by
        have q := (List.getElem?_eq_some_iff.mp hi).1
        rw [List.length_map] at q
        omega
      obtain ⟨c, rfl⟩ : ∃ c, x = V.int c := by
        rw [List.getElem?_map] at hi
        obtain ⟨c, _, hc⟩ := Option.map_eq_some_iff.mp hi
        exact ⟨c, hc.symm⟩
      have next : ∀ (y : Str) (x2 x3 : Option V), Txs y → y.length ≤ 100 → ∀ H2, Ex H' H2 → ∃ z' x x2' x3', ([some (V.ref a), some (.str (z ++ y)), some (.int c), x2, x3] : L2.St) = [some (.ref a), some (.str z'), x, x2', x3'] ∧ Ex H H2 ∧ Txs z' ∧ z'.length ≤ 100 * (i + 1) := fun y x2 x3 hy hyl H2 e2 =>
        ⟨_, _, _, _, rfl, e.trans e2, hz.app hy, by rw [len_app]; omega⟩
      have hk : 0 ≤ 1 + c / 3 % 3 ∧ 1 + c / 3 % 3 ≤ 3 := by omega
      have mlen : ∀ d : Nat, (Txt.mul (⟨#[d]⟩ : Str) (1 + c / 3 % 3)).length ≤ 3 := fun d => len_mul_leN (L := 1) (N := 3) (Nat.le_refl 1) hk.2
      refine s_if (b := decide (V.int (c % 3) = V.int 0)) (by walk_at "et") (fun hb H1 e1 => ?_) (fun hb H1 e1 => ?_)
      · have m := mlen 32
        exact s_asg (v := .str (z ++ Txt.mul (⟨#[32]⟩ : Str) (1 + c / 3 % 3))) (ev_op (ev_var rfl) (ev_op ev_blank (by walk_at "ev") (rv_mulS (L := 1) (N := 3) (Nat.le_refl 1) hk.2 hk.1 (by decide) (by decide))) (rv_addS (by omega))) fun H2 e2 => next _ _ _ (mul_txs (txs_one (.inl rfl)) _) (by omega) H2 (e1.trans e2)
      · refine s_if (b := decide (V.int (c % 3) = V.int 1)) (by walk_at "et") (fun hb H2 e2 => ?_) (fun hb H2 e2 => ?_)
        · have m := mlen 10
          exact s_asg (v := .str (z ++ Txt.mul (⟨#[10]⟩ : Str) (1 + c / 3 % 3))) (ev_op (ev_var rfl) (ev_op ev_lf (by walk_at "ev") (rv_mulS (L := 1) (N := 3) (Nat.le_refl 1) hk.2 hk.1 (by decide) (by decide))) (rv_addS (by omega))) fun H3 e3 => next _ _ _ (mul_txs (txs_one (.inr (.inl rfl))) _) (by omega) H3 ((e1.trans e2).trans e3)
        · have hn : 0 ≤ 1 + c / 3 % 5 + c / 45 % 8 / 7 * (c / 360 % 36) ∧ 1 + c / 3 % 5 + c / 45 % 8 / 7 * (c / 360 % 36) ≤ 40 := by
            have h1 : c / 45 % 8 / 7 = 0 ∨ c / 45 % 8 / 7 = 1 := by omega
            rcases h1 with h1 | h1 <;> rw [h1] <;> omega
          refine q_asg (v := .int (1 + c / 3 % 5 + c / 45 % 8 / 7 * (c / 360 % 36))) (by walk_at "ev") fun H3 e3 => ?_
          generalize hnn : 1 + c / 3 % 5 + c / 45 % 8 / 7 * (c / 360 % 36) = n at hn
          have hys : ((List.range n.toNat).map fun i : Nat => V.str ⟨#[sgn (c / 15 + (i : Int) * (c / 11 % 7))]⟩) = ((List.range n.toNat).map fun i : Nat => (⟨#[sgn (c / 15 + (i : Int) * (c / 11 % 7))]⟩ : Str)).map V.str := by
            rw [List.map_map] <;> rfl
          have hsum : (((List.range n.toNat).map fun i : Nat => (⟨#[sgn (c / 15 + (i : Int) * (c / 11 % 7))]⟩ : Str)).map (·.length)).sum = n.toNat := by
            rw [List.map_map]
            generalize n.toNat = m
            induction m with
            | zero => rfl
            | succ m ih =>
              rw [List.range_succ, List.map_append, List.sum_append, ih] <;> rfl
          have hj := len_join0 ((List.range n.toNat).map fun i : Nat => (⟨#[sgn (c / 15 + (i : Int) * (c / 11 % 7))]⟩ : Str))
          rw [hsum] at hj
          refine s_asg (v := .str (z ++ Txt.join Str.empty ((List.range n.toNat).map fun i : Nat => (⟨#[sgn (c / 15 + (i : Int) * (c / 11 % 7))]⟩ : Str)))) (ev_op (ev_var rfl) (ev_joinL ev_none (el_is (el_lcR (fun i : Nat => V.str ⟨#[sgn (c / 15 + (i : Int) * (c / 11 % 7))]⟩) (ea_cons (ev_var rfl) ea_nil) (by omega) (fun _ => rfl) fun i H4 e4 hi => ?_) hys) ?_) (rv_addS (by omega))) fun H4 e4 => next _ _ _ (txs_join txs_empty fun p hp => ?_) (by omega) H4 (((e1.trans e2).trans e3).trans e4)
          · exact ev_call (ea_cons (x := .int (c / 15 + (i : Int) * (c / 11 % 7))) (by walk_at "ev") ea_nil) fun H5 e5 Q q E => ⟨_, rfl, q⟩
          · rw [hsum]
            show n.toNat + _ * 0 ≤ _
            omega
          · obtain ⟨i, _, rfl⟩ := List.mem_map.mp hp
            exact txs_one (.inr (.inr (sgn_ws _)))
    · rintro σ' H' ⟨z, x', x2, x3, rfl, e, hz, hl⟩
      rw [List.length_map] at hl
      exact s_ret (ev_var rfl) fun H2 e2 => k z hz hl H2 (e.trans e2)
/-! ### paragraphs_of -/
def sp_paragraphs_of (K : PySem.W.Frag) : Sp := fun vs H Q _ => ∃ (z : Str), vs = [.str z] ∧ Txs z ∧ z.length ≤ 60000 ∧ ∀ l H2, Ex H H2 → LLs H H2 l [] (paras z) → Q (.ref l) H2
theorem rowstep_sum (s : List (List Str) × Bool) (w : List Str) (h : s.2 = true → s.1 ≠ []) : ((rowstep s w).1.map List.length).sum ≤ (s.1.map List.length).sum + w.length ∧ (rowstep s w).1.length ≤ s.1.length + 1 := by
  unfold rowstep
  split
  · exact ⟨Nat.le_add_right _ _, Nat.le_succ _⟩
  · split
    · rename_i h1 h2
      have e := snoc_last (h h2) ([] : List Str)
      have e1 := congrArg (fun l : List (List Str) => (l.map List.length).sum) e
      have e2 := congrArg (fun l : List (List Str) => l.length) e
      simp only [List.map_append, List.sum_append, List.map_cons, List.map_nil, List.sum_cons, List.sum_nil, List.length_append, List.length_singleton] at e1 e2 ⊢
      exact ⟨by omega, by omega⟩
    · simp only [List.map_append, List.sum_append, List.map_cons, List.map_nil, List.sum_cons, List.sum_nil, List.length_append, List.length_singleton]
      exact ⟨by omega, by omega⟩
theorem mem_sum_le : ∀ {l : List Nat} {x : Nat}, x ∈ l → x ≤ l.sum
  | [], _, h => absurd h (List.not_mem_nil)
  | a :: r, x, h => by
    rw [List.sum_cons]
    rcases List.mem_cons.mp h with h | h
    · omega
    · have := mem_sum_le h
      omega
theorem paras_sizes {z : Str} (hz : Txs z) : ∀ p ∈ paras z, p.length ≤ z.length := by
  have h1 := rows_len z
  have go : ∀ (rows : List Str) (s : List (List Str) × Bool), (s.2 = true → s.1 ≠ []) → (∀ r ∈ rows, Txs r) → ((rows.foldl (fun s y => rowstep s (Txt.words y)) s).1.map List.length).sum ≤ (s.1.map List.length).sum + (rows.map (·.length)).sum := by
    intro rows
    induction rows with
    | nil => exact fun s _ _ => Nat.le_refl _
    | cons r rs ih =>
      intro s hs ht
      have h2 := ih (rowstep s (Txt.words r)) rowstep_ne fun x hx => ht x (List.mem_cons_of_mem _ hx)
      have h3 := (rowstep_sum s (Txt.words r) hs).1
      have h4 := (words_ok (ht r (List.mem_cons_self ..))).1
      rw [List.foldl_cons, List.map_cons, List.sum_cons]
      omega
  intro p hp
  have h2 := go (Txt.split z lfS) ([], false) (fun q => by cases q) (rows_txs hz)
  have h3 := mem_sum_le (List.mem_map_of_mem (f := List.length) hp)
  unfold paras at h3
  have h4 : ((([] : List (List Str)), false).1.map List.length).sum = 0 := rfl
  rw [h4] at h2
  have h5 : 1 ≤ (Txt.split z lfS).length := by
    have h6 := congrArg List.length (split_rows z)
    rw [List.length_map] at h6
    rw [h6]
    cases h7 : TL.spl [10] 0 [] (TL.tl z) with
    | nil =>
      have h8 := spl_len (TL.tl z) []
      rw [h7] at h8
      simp at h8
    | cons a r => simp
  omega
theorem ok_paragraphs_of (T : Txt K mg A) : FnOk P w K mg base CX0 2 A.f_paragraphs_of A.d_paragraphs_of ["text"] (sp_paragraphs_of K) := by
  refine T.F_paragraphs_of.ok sc_paragraphs_of (fun vs H Q E h => ?_) (fun cdv Ar outer s H vs Q E hr h => ?_)
  · obtain ⟨z, rfl, _⟩ := h
    rfl
  · obtain ⟨z, rfl, hz, hlen, k⟩ := h
    refine ⟨_, (pss_cons (ps_set (i := 1) sc_paragraphs_of.nd rfl (.inl rfl) (pe_lst pa_nil))
  (pss_cons (ps_set (i := 2) sc_paragraphs_of.nd rfl (.inl rfl) pe_bl)
  (pss_cons (ps_for PassesOwn.never rfl (pi_list (pe_split (pv 0) pe_str)) (pg_name (i := 3) sc_paragraphs_of.nd rfl (.inl rfl))
  (pss_cons (ps_set (i := 4) sc_paragraphs_of.nd rfl (.inl rfl) (pe_call (ok_words_of T) (hr.mono (by decide)) rfl T.g_words_of T.F_words_of.kp T.b_words_of .nil pass0 (pa_cons (pv 3) pa_nil)))
  (Evl.pss_cut (ps_if (PW.pt (pw_and (pt_truth (pv 4) (fun _ => rfl)) (pw_and1 (pt_val (pv 2)))))
  (pss_one (ps_expr (pe_bm PySem.F.plainAttrs_list PySem.F.slot_list_append PySem.F.type_list_append mt_append (pv 1) (pa_cons (pv 4) pa_nil))))
  (pss_one (ps_if (pt_truth (pv 4) (fun _ => rfl))
  (pss_one (ps_expr (pe_bm PySem.F.plainAttrs_list PySem.F.slot_list_extend PySem.F.type_list_extend mt_extend (pe_ix ix_list (pv 1) (pe_un un_neg pe_int) (fun _ _ => rfl)) (pa_cons (pv 4) pa_nil))))
  pss_nil)))
  (pss_one (ps_set (i := 2) sc_paragraphs_of.nd rfl (.inl rfl) (pe_notT (pv 4)))))))
  (pss_one (ps_ret (pv 1)))))), ?_⟩
    refine q_asgL (xs := []) (el_lst ea_nil (Nat.zero_le _)) fun l H1 l0 e1 hl1 => ?_
    refine q_asg (v := .bl true) ev_c fun H2 e2 => ?_
    have hrl := rows_len z
    have hrt := rows_txs hz
    generalize hrows : Txt.split z lfS = rows at hrl hrt
    refine q_forNLn (xs := rows.map V.str) (el_is (el_split (a := z) (b := lfS) (ev_var rfl) ev_lf rfl (by omega)) (by rw [hrows]))
      (fun p0 i σ' H' => ∃ s xr xw, σ' = [some (.str z), some (.ref l), some (.bl (!s.2)), xr, xw] ∧ Ex H H' ∧ LLs H H' l [p0] s.1 ∧ H' p0 = some (.lst (rows.map V.str)) ∧ (s.2 = true → s.1 ≠ []) ∧
        (rows.take i).foldl (fun s y => rowstep s (Txt.words y)) ([], false) = s ∧ (s.1.map List.length).sum ≤ ((rows.take i).map (·.length)).sum ∧ s.1.length ≤ i)
      (fun p0 H3 hp e3 h3 => ⟨([], false), none, none, rfl, (e1.trans e2).trans e3, LLs.zero l0 (e3 _ _ (e2 _ _ hl1)) (fun b hb => by
        rw [List.mem_singleton.mp hb]
        exact fun q => by rw [q, e2 _ _ hl1] at hp; cases hp), h3, (fun q => by cases q), rfl, Nat.le_refl _, Nat.le_refl _⟩)
      (fun p0 i σ' H' _ ⟨_, _, _, _, _, _, h3, _⟩ => sq_of h3) ?_ ?_
    · rintro p0 i x σ' H' hi ⟨s, xr, xw, rfl, e, hL, hp0, hne, hf, hsum, hcnt⟩
      obtain ⟨y, hy, rfl⟩ : ∃ y, rows[i]? = some y ∧ V.str y = x := by
        rw [List.getElem?_map] at hi
        exact Option.map_eq_some_iff.mp hi
      have hil : i < rows.length := (List.getElem?_eq_some_iff.mp hy).1
      have hyt : Txs y := hrt y (List.mem_of_getElem? hy)
      have hyl : y.length ≤ 60000 := by
        have := mem_sum_le (List.mem_map_of_mem (f := fun z : Str => z.length) (List.mem_of_getElem? hy))
        omega
      have hwo := words_ok hyt
      have hnext : (rows.take (i + 1)).foldl (fun s y => rowstep s (Txt.words y)) ([], false) = rowstep s (Txt.words y) := by
        rw [List.take_add_one, hy, List.foldl_append, hf] <;> rfl
      have hts : ((rows.take (i + 1)).map (·.length)).sum = ((rows.take i).map (·.length)).sum + y.length := by
        rw [List.take_add_one, hy, List.map_append, List.sum_append]
        show _ + (y.length + 0) = _
        omega
      have hle : ((rows.take (i + 1)).map (·.length)).sum ≤ (rows.map (·.length)).sum := by
        have q := congrArg (fun l : List Str => (l.map (·.length)).sum) (List.take_append_drop (i + 1) rows)
        simp only [List.map_append, List.sum_append] at q
        omega
      have hrs := rowstep_sum s (Txt.words y) hne
      refine q_asgL (xs := (Txt.words y).map V.str) (el_call (ea_cons (ev_var rfl) ea_nil) fun H5 e5 Q' q E' => ⟨y, rfl, hyl, q⟩) fun p H1 hp e1 h1 => ?_
      have hLb : LLs H H1 l [p0] s.1 := hL.mono e1
      refine q_cut (M := fun σ2 H2 => σ2 = [some (.str z), some (.ref l), some (.bl (!s.2)), some (.str y), some (.ref p)] ∧ Ex H H2 ∧ LLs H H2 l [p0] (rowstep s (Txt.words y)).1 ∧ H2 p0 = some (.lst (rows.map V.str)) ∧ H2 p = some (.lst ((Txt.words y).map V.str))) ?_ ?_
      · by_cases hw : Txt.words y = []
        · have er : rowstep s (Txt.words y) = (s.1, false) := if_pos hw
          refine s_if (b := false) (et_is (et_and (b := !s.2) (et_tru (ev_var rfl) (sq_of h1)) fun _ => et_B (ev_var rfl)) (by rw [hw]; rfl)) (fun hb => nomatch hb) (fun _ H3 e3 => ?_)
          refine s_when (b := false) (et_is (et_tru (ev_var rfl) (sq_of (e3 _ _ h1))) (by rw [hw]; rfl)) (fun hb => nomatch hb) (fun _ H4 e4 => ?_)
          exact ⟨rfl, (e.trans e1).trans (e3.trans e4), by rw [er]; exact hLb.mono (e3.trans e4), e4 _ _ (e3 _ _ (e1 _ _ hp0)), e4 _ _ (e3 _ _ h1)⟩
        · have hwe : (!((Txt.words y).map V.str).isEmpty) = true := by
            cases hh : Txt.words y with
            | nil => exact absurd hh hw
            | cons a r => rfl
          cases hs2 : s.2 with
          | false =>
            have er : rowstep s (Txt.words y) = (s.1 ++ [Txt.words y], true) := (if_neg hw).trans (if_neg (by rw [hs2]; exact Bool.false_ne_true))
            refine s_if (b := true) (et_is (et_and (b := !false) (et_tru (ev_var rfl) (sq_of h1)) fun _ => et_B (ev_var rfl)) (by rw [hwe]; rfl)) (fun _ H3 e3 => ?_) (fun hb => nomatch hb)
            obtain ⟨vs, hv, hvl, _⟩ := hL.push hp (e1.trans e3) e (e3 _ _ h1) (fun b hb => by
              rw [List.mem_singleton.mp hb, hp0]
              exact fun q => nomatch q)
            refine s_app hv (ev_var rfl) (ev_var rfl) (by rw [hvl]; omega) fun H4 e4 => ?_
            obtain ⟨vs', hv', hvl', hL'⟩ := hL.push hp ((e1.trans e3).trans e4) e (e4 _ _ (e3 _ _ h1)) (fun b hb => by
              rw [List.mem_singleton.mp hb, hp0]
              exact fun q => nomatch q)
            have ev : vs' = vs := by
              rw [e4 _ _ hv] at hv'
              injection hv' with q
              injection q with q
              exact q.symm
            rw [ev] at hL'
            have np0 : p0 ≠ l := fun q => by
              rw [q] at hp0
              obtain ⟨vs2, h6, h7⟩ := hL.lst
              obtain ⟨_, ps, _, _, _, _, h8⟩ := hL
              exact (h8 p0 (List.mem_singleton.mpr rfl)).1 q
            have npl : p ≠ l := fun q => by
              obtain ⟨vs2, h6, h7⟩ := hL.lst
              rw [q, h6] at hp
              cases hp
            refine ⟨rfl, Ex.mut (((e.trans e1).trans e3).trans e4) l0, by rw [er]; exact hL', ?_, ?_⟩
            · rw [upd_ne np0]
              exact e4 _ _ (e3 _ _ (e1 _ _ hp0))
            · rw [upd_ne npl]
              exact e4 _ _ (e3 _ _ h1)
          | true =>
            have er : rowstep s (Txt.words y) = (s.1.dropLast ++ [s.1.getLastD [] ++ Txt.words y], true) := (if_neg hw).trans (if_pos hs2)
            refine s_if (b := false) (et_is (et_and (b := !true) (et_tru (ev_var rfl) (sq_of h1)) fun _ => et_B (ev_var rfl)) (by rw [hwe]; rfl)) (fun hb => nomatch hb) (fun _ H3 e3 => ?_)
            refine s_when (b := true) (et_is (et_tru (ev_var rfl) (sq_of (e3 _ _ h1))) hwe) (fun _ H4 e4 => ?_) (fun hb => nomatch hb)
            have e134 := (e1.trans e3).trans e4
            obtain ⟨vs, p2, xs, hv, hat, hp2, hdl, hp20, hexp, hup⟩ := (hL.mono e134).last (hne hs2)
            have egl : s.1.getLastD [] = xs := by
              rw [hdl, getLastD_snoc]
            have hxs : xs.length ≤ (s.1.map List.length).sum := by
              have h9 : xs ∈ s.1 := by
                rw [hdl]
                exact List.mem_append_right _ (List.mem_singleton.mpr rfl)
              exact mem_sum_le (List.mem_map_of_mem (f := List.length) h9)
            have np2 : p ≠ p2 := fun q => by
              obtain ⟨vs3, p3, xs3, _, _, hp3, hdl3, _⟩ := hL.last (hne hs2)
              obtain ⟨vs4, p4, xs4, hv4, hat4, hp4, _⟩ := hL.last (hne hs2)
              have e5 : vs4 = vs := by
                have q2 := e134 _ _ hv4
                rw [hv] at q2
                injection q2 with q2
                injection q2 with q2
                exact q2.symm
              rw [e5, hat] at hat4
              injection hat4 with q3
              injection q3 with q3
              rw [q, q3] at hp
              rw [hp] at hp4
              cases hp4
            refine s_ext (l := p2) (b := p) hp2 (e4 _ _ (e3 _ _ h1)) (ev_op (ev_var rfl) (ev_un ev_c ru_neg) (rv_ixL (sq_of hv) hat)) (ev_var rfl) (by rw [List.length_map, List.length_map]; omega) fun H5 e5 => ?_
            have hL' := hup H5 (Txt.words y) e5
            refine ⟨rfl, Ex.mut (((e.trans e1).trans (e3.trans e4)).trans e5) hp20, by rw [er, egl]; exact hL', ?_, ?_⟩
            · rw [upd_ne (hexp p0 (List.mem_singleton.mpr rfl))]
              exact e5 _ _ (e134 _ _ hp0)
            · rw [upd_ne np2]
              exact e5 _ _ (e4 _ _ (e3 _ _ h1))
      · rintro σ2 H2 ⟨rfl, e2, hL2, hp2, hw2⟩
        refine s_asg (v := .bl (!(rowstep s (Txt.words y)).2)) (ev_is (ev_notT (ev_var rfl) (sq_of hw2)) ?_) fun H3 e3 => ?_
        · have : (rowstep s (Txt.words y)).2 = !((Txt.words y).map V.str).isEmpty := by
            unfold rowstep
            cases Txt.words y with
            | nil => rfl
            | cons a r =>
              rw [if_neg (by simp)]
              split <;> rfl
          rw [this]
        · exact ⟨rowstep s (Txt.words y), _, _, rfl, e2.trans e3, hL2.mono e3, e3 _ _ hp2, rowstep_ne, hnext, by omega, by omega⟩
    · rintro p0 σ' H' ⟨s, xr, xw, rfl, e, hL, hp0, hne, hf, hsum, hcnt⟩
      rw [List.length_map, List.take_length] at hf
      have hpz : paras z = s.1 := by
        rw [paras, hrows, hf]
      refine s_ret (v := .ref l) (ev_var rfl) fun H2 e2 => k l H2 (e.trans e2) ?_
      rw [hpz]
      exact (hL.mono e2).drop

/-! ### _law_parts -/
def wS (b : Bool) : Str := if b = true then Str.ofString "word" else Str.empty
def rS (b : Bool) : Str := if b = true then Str.ofString "row" else Str.empty
structure GoodL (n : Nat) (s : LSt) : Prop where
  ne : s.h.length ≠ 0 ∨ s.r = true → s.p ≠ []
  hl : s.h.length ≤ n
  pl : s.p.length ≤ n
  xl : ∀ x ∈ s.p, x.length ≤ n
theorem GoodL.step1 {n : Nat} {s : LSt} (g : GoodL n s) (c : Nat) : GoodL (n + 1) (lstep1 s c) := by
  obtain ⟨g1, g2, g3, g4⟩ := g
  unfold lstep1
  split
  · refine ⟨fun _ => ?_, by simp only [len_app]; show s.h.length + 1 ≤ n + 1; omega, ?_, ?_⟩
    · simp only
      split
      · simp
      · rename_i hh
        refine g1 ?_
        by_cases h0 : s.h.length = 0
        · right
          cases hr : s.r with
          | true => rfl
          | false => exact absurd ⟨h0, hr⟩ hh
        · exact .inl h0
    · simp only
      split
      · rw [List.length_append, List.length_singleton]; omega
      · omega
    · intro x hx
      simp only at hx
      split at hx
      · rcases List.mem_append.mp hx with hx | hx
        · have := g4 x hx; omega
        · rw [List.mem_singleton.mp hx]; exact Nat.zero_le _
      · have := g4 x hx; omega
  · split
    · exact ⟨g1, by omega, by omega, fun x hx => by have := g4 x hx; omega⟩
    · rename_i _ h0
      have hn := g1 (.inl h0)
      have hl := snoc_last hn ([] : List Str)
      have hll := congrArg List.length hl
      rw [List.length_append, List.length_singleton] at hll
      have hm : s.p.getLastD [] ∈ s.p := by
        have q : s.p.getLastD [] ∈ s.p.dropLast ++ [s.p.getLastD []] := List.mem_append_right _ (List.mem_singleton.mpr rfl)
        rw [hl] at q
        exact q
      refine ⟨fun _ => by simp, Nat.zero_le _, ?_, fun x hx => ?_⟩
      · simp only
        rw [List.length_append, List.length_singleton]
        omega
      · simp only at hx
        rcases List.mem_append.mp hx with hx | hx
        · have := g4 x ((List.dropLast_sublist _).subset hx); omega
        · rw [List.mem_singleton.mp hx, List.length_append, List.length_singleton]
          have := g4 _ hm
          omega
theorem GoodL.step {n : Nat} {s : LSt} (g : GoodL n s) (c : Nat) : GoodL (n + 1) (lstep s c) := by
  have g' := g.step1 c
  unfold lstep
  split
  · refine ⟨fun h => g'.ne ?_, g'.hl, g'.pl, g'.xl⟩
    rcases h with h | h
    · exact .inl h
    · simp only at h
      split at h
      · exact .inr h
      · cases h
  · exact g'
theorem sign_eq (c d : Nat) : (V.str (⟨#[c]⟩ : Str) = V.str (⟨#[d]⟩ : Str)) ↔ c = d := ⟨fun q => by injection q with q; injection q with q; injection q with q; injection q with q, fun q => by rw [q]⟩
theorem wS_ne (b : Bool) : (!decide (V.str (wS b) = V.str (Str.ofString "word"))) = !b := by
  have h : ¬ Str.empty = Str.ofString "word" := by decide +kernel
  cases b with
  | true => rw [show wS true = Str.ofString "word" from if_pos rfl, decide_eq_true rfl]
  | false =>
    rw [show wS false = Str.empty from if_neg (by simp), decide_eq_false fun q => h (by injection q)]
theorem rS_ne (b : Bool) : (!decide (V.str (rS b) = V.str (Str.ofString "row"))) = !b := by
  have h : ¬ Str.empty = Str.ofString "row" := by decide +kernel
  cases b with
  | true => rw [show rS true = Str.ofString "row" from if_pos rfl, decide_eq_true rfl]
  | false =>
    rw [show rS false = Str.empty from if_neg (by simp), decide_eq_false fun q => h (by injection q)]
theorem good0 : GoodL 0 ⟨[], Str.empty, false, false⟩ := ⟨fun h => h.elim (fun h => absurd rfl h) (fun h => nomatch h), Nat.zero_le _, Nat.zero_le _, fun x hx => absurd hx (List.not_mem_nil)⟩
def sp_parts (K : PySem.W.Frag) : Sp := fun vs H Q _ => ∃ (z : Str), vs = [.str z] ∧ Txs z ∧ z.length ≤ 60000 ∧ ∀ l H2, Ex H H2 → LLs H H2 l [] (paras z) → Q (.ref l) H2
theorem ok_l_parts (T : Txt K mg A) : FnOk P w K mg base CX0 1 A.f_l_parts A.d_l_parts ["_law_signs"] (sp_parts K) := by
  refine T.F_l_parts.ok sc_l_parts (fun vs H Q E h => ?_) (fun cdv Ar outer s H vs Q E hr h => ?_)
  · obtain ⟨z, rfl, _⟩ := h
    rfl
  · obtain ⟨z, rfl, hz, hlen, k⟩ := h
    refine ⟨_, (pss_cons (ps_set (i := 1) sc_l_parts.nd rfl (.inl rfl) (pe_lst pa_nil))
  (pss_cons (ps_set (i := 2) sc_l_parts.nd rfl (.inl rfl) pe_str)
  (pss_cons (ps_set (i := 3) sc_l_parts.nd rfl (.inl rfl) (pe_lst (pa_cons pe_str (pa_cons pe_str pa_nil))))
  (pss_cons (ps_for PassesOwn.never rfl (pi_str (pe_op op_add_str (pv 0) pe_str)) (pg_name (i := 4) sc_l_parts.nd rfl (.inl rfl))
  (Evl.pss_cut (ps_if (PW.pt (pw_and (pt_cmpR op_ne (pv 4) pe_str (nomark _)) (pw_and1 (pt_cmpR op_ne (pv 4) pe_str (nomark _)))))
  (Evl.pss_cut (ps_if (PW.pt (pw_and (pt_cmpR op_eq (pv 2) pe_str (nomark _)) (pw_and1 (pt_cmpR op_ne (pe_ix ix_list (pv 3) pe_int (fun _ _ => rfl)) pe_str (nomark _)))))
  (pss_one (ps_expr (pe_bm PySem.F.plainAttrs_list PySem.F.slot_list_append PySem.F.type_list_append mt_append (pv 1) (pa_cons (pe_lst pa_nil) pa_nil))))
  pss_nil)
  (pss_cons (ps_set (i := 2) sc_l_parts.nd rfl (.inl rfl) (pe_op op_add_str (pv 2) (pv 4)))
  (pss_cons (ps_asg pe_str (pg_sub (pv 3) pe_int set_list))
  (pss_one (ps_asg pe_str (pg_sub (pv 3) pe_int set_list))))))
  (pss_one (ps_if (pt_cmpR op_ne (pv 2) pe_str (nomark _))
  (pss_cons (ps_expr (pe_bm PySem.F.plainAttrs_list PySem.F.slot_list_append PySem.F.type_list_append mt_append (pe_ix ix_list (pv 1) (pe_un un_neg pe_int) (fun _ _ => rfl)) (pa_cons (pv 2) pa_nil)))
  (pss_one (ps_set (i := 2) sc_l_parts.nd rfl (.inl rfl) pe_str)))
  pss_nil)))
  (pss_one (ps_if (pt_cmpR op_eq (pv 4) pe_str (nomark _))
  (Evl.pss_cut (ps_if (pt_cmpR op_ne (pe_ix ix_list (pv 3) pe_int (fun _ _ => rfl)) pe_str (nomark _))
  (pss_one (ps_asg pe_str (pg_sub (pv 3) pe_int set_list)))
  pss_nil)
  (pss_one (ps_asg pe_str (pg_sub (pv 3) pe_int set_list))))
  pss_nil))))
  (pss_one (ps_ret (pv 1))))))), ?_⟩
    refine q_asgL (xs := []) (el_lst ea_nil (Nat.zero_le _)) fun l H1 l0 e1 hl1 => ?_
    refine q_asg (v := .str Str.empty) ev_none fun H2 e2 => ?_
    refine q_asgL (xs := [.str Str.empty, .str Str.empty]) (el_lst (ea_cons ev_none (ea_cons ev_none ea_nil)) (Nat.le_of_ble_eq_true rfl)) fun b H3 b0 e3 hb3 => ?_
    have nbl : b ≠ l := fun q => by
      rw [q, e2 _ _ hl1] at b0
      cases b0
    have b00 : H b = none := fresh_back (e1.trans e2) b0
    have hzz : Txs (z ++ lfS) := hz.app (txs_one (.inr (.inl rfl)))
    refine q_forS (z := z ++ lfS) (ev_op (ev_var rfl) ev_lf (rv_addS (show z.length + 1 ≤ 100000 by omega)))
      (fun i σ' H' => ∃ s x, σ' = [some (.str z), some (.ref l), some (.str s.h), some (.ref b), x] ∧ Ex H H' ∧ LLs H H' l [b] s.p ∧ H' b = some (.lst [.str (wS s.w), .str (rS s.r)]) ∧
        ((TL.tl (z ++ lfS)).take i).foldl lstep ⟨[], Str.empty, false, false⟩ = s ∧ GoodL i s)
      (fun H4 e4 => ⟨⟨[], Str.empty, false, false⟩, none, rfl, ((e1.trans e2).trans e3).trans e4, LLs.zero l0 (e4 _ _ (e3 _ _ (e2 _ _ hl1))) (fun b' hb' => by
        rw [List.mem_singleton.mp hb']
        exact nbl), (show H4 b = some (.lst [.str (wS false), .str (rS false)]) from e4 _ _ hb3), rfl, good0⟩) ?_ ?_
    · rintro i c σ' H' hi ⟨s, x, rfl, e, hL, hb, hf, hg⟩
      have hi1 : i < 60001 := by
        have q := (List.getElem?_eq_some_iff.mp hi).1
        rw [← TL.len_tl, len_app] at q
        have q2 : i < z.length + 1 := q
        omega
      have hc : Ts c := hzz c (List.mem_of_getElem? hi)
      have hnext : ((TL.tl (z ++ lfS)).take (i + 1)).foldl lstep ⟨[], Str.empty, false, false⟩ = lstep s c := by
        rw [List.take_add_one, hi, List.foldl_append, hf] <;> rfl
      have hg1 := hg.step1 c
      have hg2 := hg.step c
      have nb : ∀ {vs : List V} {H5 : Hp}, H5 l = some (.lst vs) → b ≠ l := fun _ => nbl
      refine q_cut (M := fun σ2 H2 => σ2 = [some (.str z), some (.ref l), some (.str (lstep1 s c).h), some (.ref b), some (.str ⟨#[c]⟩)] ∧ Ex H H2 ∧ LLs H H2 l [b] (lstep1 s c).p ∧ H2 b = some (.lst [.str (wS (lstep1 s c).w), .str (rS (lstep1 s c).r)])) ?_ ?_
      · refine s_if (b := decide (c ≠ 32 ∧ c ≠ 10)) ?_ (fun hb1 H4 e4 => ?_) (fun hb1 H4 e4 => ?_)
        · refine et_is (et_and (et_test (ev_op (ev_var rfl) ev_blank (rv_ne rfl))) fun _ => et_test (ev_op (ev_var rfl) ev_lf (rv_ne rfl))) ?_
          rw [Bool.eq_iff_iff]
          have j1 := sign_eq c 32
          have j2 := sign_eq c 10
          simp only [Bool.and_eq_true, Bool.not_eq_true', decide_eq_false_iff_not, decide_eq_true_eq, j1, j2]
        · obtain ⟨h32, h10⟩ := of_decide_eq_true hb1
          have hsp : Unicode.isSpace c = false := by
            rcases hc with q | q | q
            · exact absurd q h32
            · exact absurd q h10
            · exact space_ws c q
          have es : lstep1 s c = ⟨if s.h.length = 0 ∧ s.r = false then s.p ++ [[]] else s.p, s.h ++ ⟨#[c]⟩, true, true⟩ := if_pos hsp
          -- a new paragraph, where none is open
          refine q_cut (M := fun σ2 H2 => σ2 = [some (.str z), some (.ref l), some (.str s.h), some (.ref b), some (.str ⟨#[c]⟩)] ∧ Ex H H2 ∧ LLs H H2 l [b] (lstep1 s c).p ∧ H2 b = some (.lst [.str (wS s.w), .str (rS s.r)])) ?_ ?_
          · have hL4 := hL.mono e4
            refine s_when (b := decide (V.str s.h = V.str Str.empty) && !s.r) (et_and (et_test (ev_op (ev_var rfl) ev_none (rv_eq rfl))) fun _ => et_test (ev_is (ev_op (ev_op (ev_var rfl) ev_c (rv_ixL (sq_of (e4 _ _ hb)) (atI_nat (j := 1) rfl))) ev_c (rv_ne rfl)) (by rw [rS_ne]))) (fun hb2 H5 e5 => ?_) (fun hb2 H5 e5 => ?_)
            · simp only [Bool.and_eq_true, decide_eq_true_eq, Bool.not_eq_true'] at hb2
              have h0 : s.h.length = 0 := by
                have q := hb2.1
                injection q with q
                rw [q]
                rfl
              have ep : (lstep1 s c).p = s.p ++ [[]] := by
                rw [es]
                exact if_pos ⟨h0, hb2.2⟩
              obtain ⟨vs, hv, hvl⟩ := (hL4.mono e5).lst
              refine s_appL (xs := vs) (ys := []) hv (ev_var rfl) (el_lst ea_nil (Nat.zero_le _)) (by rw [hvl]; have := hg.pl; omega) fun p H6 hp e6 h6 => ?_
              obtain ⟨vs', hv', _, hL'⟩ := (hL4.mono e5).push (w := []) hp e6 ((e.trans e4).trans e5) h6 (fun b' hb' => by
                rw [List.mem_singleton.mp hb', e5 _ _ (e4 _ _ hb)]
                exact fun q => nomatch q)
              have ev : vs' = vs := by
                rw [e6 _ _ hv] at hv'
                injection hv' with q
                injection q with q
                exact q.symm
              rw [ev] at hL'
              refine ⟨rfl, Ex.mut (((e.trans e4).trans e5).trans e6) l0, by rw [ep]; exact hL', ?_⟩
              rw [upd_ne nbl]
              exact e6 _ _ (e5 _ _ (e4 _ _ hb))
            · have ep : (lstep1 s c).p = s.p := by
                rw [es]
                refine if_neg fun q => ?_
                rw [KWd.len0 q.1, q.2] at hb2
                simp at hb2
              exact ⟨rfl, (e.trans e4).trans e5, by rw [ep]; exact hL4.mono e5, e5 _ _ (e4 _ _ hb)⟩
          · rintro σ2 H2 ⟨rfl, e2, hL2, hb2⟩
            have eh : (lstep1 s c).h = s.h ++ ⟨#[c]⟩ := by rw [es]
            refine q_asg (v := .str (s.h ++ (⟨#[c]⟩ : Str))) (ev_op (ev_var rfl) (ev_var rfl) (rv_addS (show s.h.length + 1 ≤ 100000 by have := hg.hl; omega))) fun H5 e5 => ?_
            refine q_setL (l := b) (xs := [.str (wS s.w), .str (rS s.r)]) (j := 1) (v := .str (Str.ofString "row")) (e5 _ _ hb2) ev_c (ev_var rfl) ev_c (show 1 < 2 by decide) fun H6 e6 => ?_
            refine s_setL (l := b) (xs := [.str (wS s.w), .str (Str.ofString "row")]) (j := 0) (v := .str (Str.ofString "word")) upd_same ev_c (ev_var rfl) ev_c (show 0 < 2 by decide) fun H7 e7 => ?_
            refine ⟨by rw [eh] <;> rfl, Ex.mut ((Ex.mut ((e2.trans e5).trans e6) b00).trans e7) b00, ((((hL2.mono e5).mono e6).other (List.mem_singleton.mpr rfl)).mono e7).other (List.mem_singleton.mpr rfl), ?_⟩
            rw [upd_same, es]
            rfl
        · have hcc : c = 32 ∨ c = 10 := by
            have q := of_decide_eq_false hb1
            omega
          have hsp : ¬ Unicode.isSpace c = false := by
            rcases hcc with q | q <;> rw [q]
            · rw [space_32]; decide
            · rw [space_10]; decide
          refine s_when (b := !decide (V.str s.h = V.str Str.empty)) (et_test (ev_op (ev_var rfl) ev_none (rv_ne rfl))) (fun hb2 H5 e5 => ?_) (fun hb2 H5 e5 => ?_)
          · have h0 : ¬ s.h.length = 0 := fun q => by
              rw [KWd.len0 q] at hb2
              simp at hb2
            have es : lstep1 s c = ⟨s.p.dropLast ++ [s.p.getLastD [] ++ [s.h]], Str.empty, s.w, s.r⟩ := (if_neg hsp).trans (if_neg h0)
            have e45 := e4.trans e5
            obtain ⟨vs, p, xs, hv, hat, hp, hdl, hp0, hexp, hup⟩ := (hL.mono e45).last (hg.ne (.inl h0))
            have egl : s.p.getLastD [] = xs := by
              rw [hdl, getLastD_snoc]
            have hxm : xs ∈ s.p := by
              rw [hdl]
              exact List.mem_append_right _ (List.mem_singleton.mpr rfl)
            refine q_app (l := p) (xs := xs.map V.str) (v := .str s.h) hp (ev_op (ev_var rfl) (ev_un ev_c ru_neg) (rv_ixL (sq_of hv) hat)) (ev_var rfl) (by rw [List.length_map]; have := hg.xl xs hxm; omega) fun H6 e6 => ?_
            have hL' := hup H6 [s.h] e6
            refine s_asg (v := .str Str.empty) ev_none fun H7 e7 => ?_
            refine ⟨by rw [es] <;> rfl, (Ex.mut ((e.trans e45).trans e6) hp0).trans e7, by rw [es]; rw [egl]; exact hL'.mono e7, ?_⟩
            rw [es]
            refine e7 _ _ ?_
            rw [upd_ne (hexp b (List.mem_singleton.mpr rfl))]
            exact e6 _ _ (e45 _ _ hb)
          · have h0 : s.h.length = 0 := by
              simp only [Bool.not_eq_false', decide_eq_true_eq] at hb2
              injection hb2 with q
              rw [q]
              rfl
            have es : lstep1 s c = s := (if_neg hsp).trans (if_pos h0)
            rw [es]
            exact ⟨rfl, (e.trans e4).trans e5, (hL.mono e4).mono e5, e5 _ _ (e4 _ _ hb)⟩
      · rintro σ2 H2 ⟨rfl, e2, hL2, hb2⟩
        refine s_when (b := decide (c = 10)) (et_test (ev_is (ev_op (ev_var rfl) ev_lf (rv_eq rfl)) ?_)) (fun hb1 H4 e4 => ?_) (fun hb1 H4 e4 => ?_)
        · have j := sign_eq c 10
          congr 1
          rw [Bool.eq_iff_iff]
          simp only [decide_eq_true_eq, j]
        · have hc10 := of_decide_eq_true hb1
          have es : lstep s c = ⟨(lstep1 s c).p, (lstep1 s c).h, false, if (lstep1 s c).w = true then (lstep1 s c).r else false⟩ := if_pos hc10
          refine q_cut (M := fun σ3 H3 => σ3 = [some (.str z), some (.ref l), some (.str (lstep1 s c).h), some (.ref b), some (.str ⟨#[c]⟩)] ∧ Ex H H3 ∧ LLs H H3 l [b] (lstep1 s c).p ∧ H3 b = some (.lst [.str (wS (lstep1 s c).w), .str (rS (lstep s c).r)])) ?_ ?_
          · refine s_when (b := !(lstep1 s c).w) (et_test (ev_is (ev_op (ev_op (ev_var rfl) ev_c (rv_ixL (sq_of (e4 _ _ hb2)) (atI_nat (j := 0) rfl))) ev_c (rv_ne rfl)) (by rw [wS_ne]))) (fun hb3 H5 e5 => ?_) (fun hb3 H5 e5 => ?_)
            · have ew : (lstep1 s c).w = false := by simpa using hb3
              have er : (lstep s c).r = false := by
                rw [es, ew]
                rfl
              refine s_setL (l := b) (xs := [.str (wS (lstep1 s c).w), .str (rS (lstep1 s c).r)]) (j := 1) (v := .str Str.empty) (e5 _ _ (e4 _ _ hb2)) ev_none (ev_var rfl) ev_c (show 1 < 2 by decide) fun H6 e6 => ?_
              refine ⟨rfl, Ex.mut (((e2.trans e4).trans e5).trans e6) b00, (((hL2.mono e4).mono e5).mono e6).other (List.mem_singleton.mpr rfl), ?_⟩
              rw [upd_same, er]
              rfl
            · have ew : (lstep1 s c).w = true := by simpa using hb3
              have er : (lstep s c).r = (lstep1 s c).r := by
                rw [es]
                exact if_pos ew
              rw [er]
              exact ⟨rfl, (e2.trans e4).trans e5, (hL2.mono e4).mono e5, e5 _ _ (e4 _ _ hb2)⟩
          · rintro σ3 H3 ⟨rfl, e3, hL3, hb3⟩
            refine s_setL (l := b) (xs := [.str (wS (lstep1 s c).w), .str (rS (lstep s c).r)]) (j := 0) (v := .str Str.empty) hb3 ev_none (ev_var rfl) ev_c (show 0 < 2 by decide) fun H6 e6 => ?_
            have eh : (lstep s c).h = (lstep1 s c).h := by rw [es]
            have ep : (lstep s c).p = (lstep1 s c).p := by rw [es]
            have ew : (lstep s c).w = false := by rw [es]
            refine ⟨lstep s c, _, by rw [eh], Ex.mut (e3.trans e6) b00, by rw [ep]; exact (hL3.mono e6).other (List.mem_singleton.mpr rfl), ?_, hnext, hg2⟩
            rw [upd_same, ew]
            rfl
        · have es : lstep s c = lstep1 s c := if_neg (of_decide_eq_false hb1)
          refine ⟨lstep s c, _, by rw [es], e2.trans e4, by rw [es]; exact hL2.mono e4, by rw [es]; exact e4 _ _ hb2, hnext, hg2⟩
    · rintro σ' H' ⟨s, x, rfl, e, hL, hb, hf, hg⟩
      rw [List.take_length, TL.tl_append] at hf
      have hpz : paras z = s.p := by
        rw [← paras_signs, ← hf]
        rfl
      refine s_ret (v := .ref l) (ev_var rfl) fun H2 e2 => k l H2 (e.trans e2) ?_
      rw [hpz]
      exact (hL.mono e2).drop

/-! ### the law -/
def sp_law (K : PySem.W.Frag) : Sp := fun vs H Q _ => ∃ (a : Addr) (ns : List Int), vs = [.ref a] ∧ SqL K H a (ns.map V.int) ∧ ns.length ≤ 63 ∧ ∀ H', Q (.bl true) H'
theorem ok_law (T : Txt K mg A) : FnOk P w K mg base CX0 3 A.f_law A.d_law ["_law_script"] (sp_law K) := by
  refine T.F_law.ok sc_law (fun vs H Q E h => ?_) (fun cdv Ar outer s H vs Q E hr h => ?_)
  · obtain ⟨a, ns, rfl, _⟩ := h
    rfl
  · obtain ⟨a, ns, rfl, hS, hlen, k⟩ := h
    refine ⟨_, (pss_cons (ps_set (i := 1) sc_law.nd rfl (.inl rfl) (pe_call (ok_l_text_by T) (hr.mono (by decide)) rfl T.g_l_text_by T.F_l_text_by.kp T.b_l_text_by .nil pass0 (pa_cons (pe_slice sl_list (pv 0) (po_some pe_int) po_none) pa_nil)))
  (pss_cons (ps_if (pt_cmpR op_eq (pe_op op_mod (pe_call (ok_l_cell_at T) (hr.mono (by decide)) rfl T.g_l_cell_at T.F_l_cell_at.kp T.b_l_cell_at .nil pass0 (pa_cons (pv 0) (pa_cons pe_int pa_nil))) pe_int) pe_int (nomark _))
  (pss_one (ps_set (i := 1) sc_law.nd rfl (.inl rfl) (pe_op op_mulS (pv 1) pe_int)))
  pss_nil)
  (pss_cons (ps_set (i := 2) sc_law.nd rfl (.inl rfl) (pe_call (ok_l_parts T) (hr.mono (by decide)) rfl T.g_l_parts T.F_l_parts.kp T.b_l_parts .nil pass0 (pa_cons (pv 1) pa_nil)))
  (pss_cons (ps_set (i := 3) sc_law.nd rfl (.inl rfl) (pe_call (ok_paragraphs_of T) (hr.mono (by decide)) rfl T.g_paragraphs_of T.F_paragraphs_of.kp T.b_paragraphs_of .nil pass0 (pa_cons (pv 1) pa_nil)))
  (pss_cons (ps_if (PW.pt (pw_or (pt_not (pt_val (pe_callB call_isi (by rfl) T.m_isinstance (by decide +kernel) (pa_cons (pv 3) (pa_cons (pe_bltn (v := .ty "list") (by rfl) T.m_list (by decide +kernel) rfl) pa_nil))))) (pw_or1 (pt_cmpR op_ne (pe_callB call_len_seq (by rfl) T.m_len PySem.boot_len (pa_cons (pv 3) pa_nil)) (pe_callB call_len_seq (by rfl) T.m_len PySem.boot_len (pa_cons (pv 2) pa_nil)) (nomark _)))))
  (pss_one (ps_ret pe_bl))
  pss_nil)
  (pss_cons (ps_for PassesOwn.never rfl (pi_range1 (by rfl) T.m_range (pa_cons (pe_callB call_len_seq (by rfl) T.m_len PySem.boot_len (pa_cons (pv 2) pa_nil)) pa_nil)) (pg_name (i := 4) sc_law.nd rfl (.inl rfl))
  (pss_one (ps_if (pt_not (pt_val (pe_call (ok_l_texts T) (hr.mono (by decide)) rfl T.g_l_texts T.F_l_texts.kp T.b_l_texts .nil pass0 (pa_cons (pe_ix ix_list (pv 3) (pv 4) (fun _ _ => rfl)) (pa_cons (pe_ix ix_list (pv 2) (pv 4) (fun _ _ => rfl)) pa_nil)))))
  (pss_one (ps_ret pe_bl))
  pss_nil)))
  (pss_one (ps_ret pe_bl)))))))), ?_⟩
    refine (show EvL (tSl (rSlL K) (tVar 0) (tPart (tC (.int 1))) tNoPart) _ H (cutV (ns.map V.int) (some 1) none) from el_sl (ev_var rfl) (eo_some ev_c) eo_none hS) H (Ex.refl H) _ fun p H1 hp e1 h1 => ?_
    have hc : ∃ ms : List Int, cutV (ns.map V.int) (some 1) none = ms.map V.int ∧ ms.length ≤ ns.length := by
      unfold cutV
      rw [← List.map_drop, ← List.map_take]
      exact ⟨_, rfl, by rw [List.length_take, List.length_drop]; omega⟩
    obtain ⟨ms, hms, hml⟩ := hc
    rw [hms] at h1
    refine ⟨p, ms, rfl, sq_of h1, by omega, fun z hz hzl H2 e2 => ?_⟩
    have c0 : ∀ {σ : L2.St} {H' : Hp}, Ex H H' → σ[0]? = some (some (.ref a)) → Ev (tCall (sp_cell_at K) [] E0 (tCons (tVar 0) (tCons (tC (.int 0)) tNil))) σ H' (.int (ns.getD 0 0)) := fun e h => ev_call (ea_cons (ev_var h) (ea_cons ev_c ea_nil)) fun H3 e3 Q' q E' => ⟨a, ns, 0, rfl, ex_l (e.trans e3) hS, q⟩
    refine q_ifAsg (i := 1) (b := decide (V.int (ns.getD 0 0 % 4) = V.int 1)) (v := .str (if V.int (ns.getD 0 0 % 4) = V.int 1 then Txt.mul z 5 else z)) (et_test (ev_op (ev_op (c0 (e1.trans e2) rfl) ev_c (rv_I (by decide))) ev_c (rv_eq rfl))) (fun hb => ?_) (fun hb => ?_) fun H3 e3 => ?_
    · rw [if_pos (of_decide_eq_true hb)]
      exact ev_op (ev_var rfl) ev_c (rv_mulS (L := 6300) (N := 5) (by omega) (by decide) (by decide) (by decide) (by decide))
    · rw [if_neg (of_decide_eq_false hb)]
      rfl
    obtain ⟨y, hy, hyt, hyl⟩ : ∃ y, (if V.int (ns.getD 0 0 % 4) = V.int 1 then Txt.mul z 5 else z) = y ∧ Txs y ∧ y.length ≤ 40000 := by
      refine ⟨_, rfl, ?_, ?_⟩
      · split
        · exact mul_txs hz 5
        · exact hz
      · split
        · have := len_mul_leN (x := z) (n := 5) (L := 6300) (N := 5) (by omega) (by decide)
          omega
        · omega
    rw [hy]
    refine q_asgA (ea_cons (ev_var rfl) ea_nil) fun H4 e4 => ⟨y, rfl, hyt, by omega, fun d H5 e5 hd => ?_⟩
    refine q_asgA (ea_cons (ev_var rfl) ea_nil) fun H6 e6 => ⟨y, rfl, hyt, by omega, fun f H7 e7 hf => ?_⟩
    have hd7 := hd.mono (e6.trans e7)
    obtain ⟨vf, hvf, hvfl⟩ := hf.lst
    obtain ⟨vd, hvd, hvdl⟩ := hd7.lst
    refine q_when (b := false) (et_is (et_or (et_not (et_B (ev_cb (ea_cons (ev_var rfl) (ea_cons ev_c ea_nil)) (rc_isList (sq_of hvf))))) fun _ => et_test (ev_op (ev_cb (ea_cons (ev_var rfl) ea_nil) (rc_lenL (sq_of hvf))) (ev_cb (ea_cons (ev_var rfl) ea_nil) (rc_lenL (sq_of hvd))) (rv_ne rfl))) (by rw [hvfl, hvdl]; simp)) (fun hb => nomatch hb) (fun _ H8 e8 => ?_)
    have hpl : (paras y).length ≤ 50000 := by
      have h1 := rows_len y
      have go : ∀ (rows : List Str) (s : List (List Str) × Bool), (s.2 = true → s.1 ≠ []) → (rows.foldl (fun s y => rowstep s (Txt.words y)) s).1.length ≤ s.1.length + rows.length := by
        intro rows
        induction rows with
        | nil => exact fun s _ => Nat.le_refl _
        | cons r rs ih =>
          intro s hs
          have h2 := ih (rowstep s (Txt.words r)) rowstep_ne
          have h3 := (rowstep_sum s (Txt.words r) hs).2
          rw [List.foldl_cons, List.length_cons]
          omega
      have h2 := go (Txt.split y lfS) ([], false) (fun q => by cases q)
      unfold paras
      have h3 : (([] : List (List Str)), false).1.length = 0 := rfl
      rw [h3] at h2
      omega
    refine q_forR1 (n := vd.length) (ea_cons (ev_cb (ea_cons (ev_var rfl) ea_nil) (rc_lenL (sq_of (e8 _ _ hvd)))) ea_nil) (by omega) (fun i σ' H' => ∃ x, σ' = [some (.ref a), some (.str y), some (.ref d), some (.ref f), x] ∧ Ex H8 H')
      (fun H2 e2 => ⟨none, rfl, e2⟩) ?_ ?_
    · rintro i σ' H' hi ⟨x, rfl, e⟩
      have hil : i < (paras y).length := by omega
      obtain ⟨vf2, pf, hf1, _, hf2, hf3⟩ := (hf.mono (e8.trans e)).at (List.getElem?_eq_getElem hil)
      obtain ⟨vd2, pd, hd1, _, hd2, hd3⟩ := (hd7.mono (e8.trans e)).at (List.getElem?_eq_getElem hil)
      refine s_when (b := false) (et_is (a := !true) (et_not (et_B (ev_call (ea_cons (ev_op (ev_var rfl) (ev_var rfl) (rv_ixL (sq_of hf1) (atI_nat hf2))) (ea_cons (ev_op (ev_var rfl) (ev_var rfl) (rv_ixL (sq_of hd1) (atI_nat hd2))) ea_nil)) fun H9 e9 Q' q E' => ⟨pf, pd, (paras y)[i], rfl, sq_of (e9 _ _ hf3), sq_of (e9 _ _ hd3), ?_, q⟩))) rfl) (fun hb => nomatch hb) (fun _ H9 e9 => ⟨_, rfl, e.trans e9⟩)
      have hz := paras_sizes hyt (paras y)[i] (List.getElem_mem hil)
      omega
    · rintro σ' H' ⟨x, rfl, e⟩
      exact s_ret (v := .bl true) ev_c fun H2 e2 => k H2
end
theorem all_mk {l : PySem.W.OpenLaw} {w : World} {K : PySem.W.Frag} {h : Heap} {mg : Str → Option Value} {fa : Addr} (X : K.In h) (G : h.Ns mainGlobals mg) (hfa : mg "law" = some (.ref fa))
    {f0 : Addr} {od0 an0 : Option Addr} {sl0 : Array (Option Value)} {oc0 kV0 dc0 pm0 cd0 ct0 : Value}
    (a0 : PySem.W.nsIn K mainGlobals "words_of" = some (some (.ref f0))) (l0 : K.lookup f0 = some ⟨oc0, od0, .func (PySem.W.fnOf "words_of" "words_of" (defArgs s_words_of) (defBody s_words_of) (defScope s_words_of) .none kV0 dc0 pm0 an0 cd0 ct0), sl0⟩) (c0 : PySem.W.codeIn K cd0 "words_of" = true) (k0 : PySem.W.keepIn K (.ref f0) = true)
    {f1 : Addr} {od1 an1 : Option Addr} {sl1 : Array (Option Value)} {oc1 kV1 dc1 pm1 cd1 ct1 : Value}
    (a1 : PySem.W.nsIn K mainGlobals "paragraphs_of" = some (some (.ref f1))) (l1 : K.lookup f1 = some ⟨oc1, od1, .func (PySem.W.fnOf "paragraphs_of" "paragraphs_of" (defArgs s_paragraphs_of) (defBody s_paragraphs_of) (defScope s_paragraphs_of) .none kV1 dc1 pm1 an1 cd1 ct1), sl1⟩) (c1 : PySem.W.codeIn K cd1 "paragraphs_of" = true) (k1 : PySem.W.keepIn K (.ref f1) = true)
    {f2 : Addr} {od2 an2 : Option Addr} {sl2 : Array (Option Value)} {oc2 kV2 dc2 pm2 cd2 ct2 : Value}
    (a2 : PySem.W.nsIn K mainGlobals "_law_cell_at" = some (some (.ref f2))) (l2 : K.lookup f2 = some ⟨oc2, od2, .func (PySem.W.fnOf "_law_cell_at" "_law_cell_at" (defArgs s_l_cell_at) (defBody s_l_cell_at) (defScope s_l_cell_at) .none kV2 dc2 pm2 an2 cd2 ct2), sl2⟩) (c2 : PySem.W.codeIn K cd2 "_law_cell_at" = true) (k2 : PySem.W.keepIn K (.ref f2) = true)
    {f3 : Addr} {od3 an3 : Option Addr} {sl3 : Array (Option Value)} {oc3 kV3 dc3 pm3 cd3 ct3 : Value}
    (a3 : PySem.W.nsIn K mainGlobals "_law_sign_by" = some (some (.ref f3))) (l3 : K.lookup f3 = some ⟨oc3, od3, .func (PySem.W.fnOf "_law_sign_by" "_law_sign_by" (defArgs s_l_sign_by) (defBody s_l_sign_by) (defScope s_l_sign_by) .none kV3 dc3 pm3 an3 cd3 ct3), sl3⟩) (c3 : PySem.W.codeIn K cd3 "_law_sign_by" = true) (k3 : PySem.W.keepIn K (.ref f3) = true)
    {f4 : Addr} {od4 an4 : Option Addr} {sl4 : Array (Option Value)} {oc4 kV4 dc4 pm4 cd4 ct4 : Value}
    (a4 : PySem.W.nsIn K mainGlobals "_law_texts" = some (some (.ref f4))) (l4 : K.lookup f4 = some ⟨oc4, od4, .func (PySem.W.fnOf "_law_texts" "_law_texts" (defArgs s_l_texts) (defBody s_l_texts) (defScope s_l_texts) .none kV4 dc4 pm4 an4 cd4 ct4), sl4⟩) (c4 : PySem.W.codeIn K cd4 "_law_texts" = true) (k4 : PySem.W.keepIn K (.ref f4) = true)
    {f5 : Addr} {od5 an5 : Option Addr} {sl5 : Array (Option Value)} {oc5 kV5 dc5 pm5 cd5 ct5 : Value}
    (a5 : PySem.W.nsIn K mainGlobals "_law_text_by" = some (some (.ref f5))) (l5 : K.lookup f5 = some ⟨oc5, od5, .func (PySem.W.fnOf "_law_text_by" "_law_text_by" (defArgs s_l_text_by) (defBody s_l_text_by) (defScope s_l_text_by) .none kV5 dc5 pm5 an5 cd5 ct5), sl5⟩) (c5 : PySem.W.codeIn K cd5 "_law_text_by" = true) (k5 : PySem.W.keepIn K (.ref f5) = true)
    {f6 : Addr} {od6 an6 : Option Addr} {sl6 : Array (Option Value)} {oc6 kV6 dc6 pm6 cd6 ct6 : Value}
    (a6 : PySem.W.nsIn K mainGlobals "_law_parts" = some (some (.ref f6))) (l6 : K.lookup f6 = some ⟨oc6, od6, .func (PySem.W.fnOf "_law_parts" "_law_parts" (defArgs s_l_parts) (defBody s_l_parts) (defScope s_l_parts) .none kV6 dc6 pm6 an6 cd6 ct6), sl6⟩) (c6 : PySem.W.codeIn K cd6 "_law_parts" = true) (k6 : PySem.W.keepIn K (.ref f6) = true)
    {f7 : Addr} {od7 an7 : Option Addr} {sl7 : Array (Option Value)} {oc7 kV7 dc7 pm7 cd7 ct7 : Value}
    (a7 : PySem.W.nsIn K mainGlobals "law" = some (some (.ref f7))) (l7 : K.lookup f7 = some ⟨oc7, od7, .func (PySem.W.fnOf "law" "law" (defArgs s_law) (defBody s_law) (defScope s_law) .none kV7 dc7 pm7 an7 cd7 ct7), sl7⟩) (c7 : PySem.W.codeIn K cd7 "law" = true) (k7 : PySem.W.keepIn K (.ref f7) = true)
    (z0 : PySem.W.nsIn K mainGlobals "isinstance" = some none)
    (z1 : PySem.W.nsIn K mainGlobals "len" = some none)
    (z2 : PySem.W.nsIn K mainGlobals "list" = some none)
    (z3 : PySem.W.nsIn K mainGlobals "range" = some none)
    (z4 : PySem.W.nsIn K mainGlobals "str" = some none)
    : ∃ fd : FuncData, (∀ (s : Shared) (v : Value), BindsTo s fd ⟨[v], []⟩ [("_law_script", v)]) ∧ ∀ base : Heap, K.In base → base.Ns mainGlobals mg → FnOk l.prog w K mg base CX0 3 fa fd ["_law_script"] (sp_law K) := by
  have e := hfa.symm.trans (PySem.W.mg_of X G a7)
  cases e
  have F0 := fun_mk (st := s_words_of) l0 c0 k0
  have b0 := F0.binds (ps := ["text"]) fun _ _ _ _ _ _ us hl => match us, hl with | [_], _ => rfl
  have F1 := fun_mk (st := s_paragraphs_of) l1 c1 k1
  have b1 := F1.binds (ps := ["text"]) fun _ _ _ _ _ _ us hl => match us, hl with | [_], _ => rfl
  have F2 := fun_mk (st := s_l_cell_at) l2 c2 k2
  have b2 := F2.binds (ps := ["_law_script", "_law_k"]) fun _ _ _ _ _ _ us hl => match us, hl with | [_, _], _ => rfl
  have F3 := fun_mk (st := s_l_sign_by) l3 c3 k3
  have b3 := F3.binds (ps := ["_law_cell"]) fun _ _ _ _ _ _ us hl => match us, hl with | [_], _ => rfl
  have F4 := fun_mk (st := s_l_texts) l4 c4 k4
  have b4 := F4.binds (ps := ["_law_found", "_law_due"]) fun _ _ _ _ _ _ us hl => match us, hl with | [_, _], _ => rfl
  have F5 := fun_mk (st := s_l_text_by) l5 c5 k5
  have b5 := F5.binds (ps := ["_law_cells"]) fun _ _ _ _ _ _ us hl => match us, hl with | [_], _ => rfl
  have F6 := fun_mk (st := s_l_parts) l6 c6 k6
  have b6 := F6.binds (ps := ["_law_signs"]) fun _ _ _ _ _ _ us hl => match us, hl with | [_], _ => rfl
  have F7 := fun_mk (st := s_law) l7 c7 k7
  have b7 := F7.binds (ps := ["_law_script"]) fun _ _ _ _ _ _ us hl => match us, hl with | [_], _ => rfl
  have T : Txt K mg { f_words_of := f0, d_words_of := _, f_paragraphs_of := f1, d_paragraphs_of := _, f_l_cell_at := f2, d_l_cell_at := _, f_l_sign_by := f3, d_l_sign_by := _, f_l_texts := f4, d_l_texts := _, f_l_text_by := f5, d_l_text_by := _, f_l_parts := f6, d_l_parts := _, f_law := fa, d_law := _ } := {
    F_words_of := F0, g_words_of := PySem.W.mg_of X G a0, b_words_of := b0,
    F_paragraphs_of := F1, g_paragraphs_of := PySem.W.mg_of X G a1, b_paragraphs_of := b1,
    F_l_cell_at := F2, g_l_cell_at := PySem.W.mg_of X G a2, b_l_cell_at := b2,
    F_l_sign_by := F3, g_l_sign_by := PySem.W.mg_of X G a3, b_l_sign_by := b3,
    F_l_texts := F4, g_l_texts := PySem.W.mg_of X G a4, b_l_texts := b4,
    F_l_text_by := F5, g_l_text_by := PySem.W.mg_of X G a5, b_l_text_by := b5,
    F_l_parts := F6, g_l_parts := PySem.W.mg_of X G a6, b_l_parts := b6,
    F_law := F7, g_law := PySem.W.mg_of X G a7, b_law := b7,
    m_isinstance := PySem.W.mg_none_of X G z0,
    m_len := PySem.W.mg_none_of X G z1,
    m_list := PySem.W.mg_none_of X G z2,
    m_range := PySem.W.mg_none_of X G z3,
    m_str := PySem.W.mg_none_of X G z4 }
  exact ⟨_, fun s v => .of_eq rfl, fun base _ _ => ok_law T⟩
end Pf
open PySem PySem.W PyProof.Rows
set_option maxHeartbeats 0 in
theorem PySem.Challenge.cw_textwrapper_k02_paragraphs_cut_holds : PySem.Challenge.rw_textwrapper_k02_paragraphs_cut.Holds := by
  w_on; o_law; k_head; (case hw => w_witness2)
  k_fill
  refine L2.walk_of (l := PySem.Challenge.rw_textwrapper_k02_paragraphs_cut) (n := 63) (k := 3) (x := "_law_script") (CX := fun _ => L2.CX0) (sp := fun w => Pf.sp_law _) rfl (by decide) rfl ⟨rfl, by decide, by decide⟩ (fun w h Y => PySem.W.kIn_of Y) ?F (fun _ _ a ns hl _ hS => ⟨a, ns, rfl, hS, hl, fun _ => rfl⟩) (fun _ _ _ _ _ h => h)
  case F =>
    intro w mg fa h KX G hmg
    refine' Pf.all_mk KX G hmg ?a0 ?l0 ?c0 ?k0 ?a1 ?l1 ?c1 ?k1 ?a2 ?l2 ?c2 ?k2 ?a3 ?l3 ?c3 ?k3 ?a4 ?l4 ?c4 ?k4 ?a5 ?l5 ?c5 ?k5 ?a6 ?l6 ?c6 ?k6 ?a7 ?l7 ?c7 ?k7 ?z0 ?z1 ?z2 ?z3 ?z4
    (case a0 => k_is); (case l0 => k_is); (case c0 => k_is); (case k0 => k_is); (case a1 => k_is); (case l1 => k_is); (case c1 => k_is); (case k1 => k_is)
    (case a2 => k_is); (case l2 => k_is); (case c2 => k_is); (case k2 => k_is); (case a3 => k_is); (case l3 => k_is); (case c3 => k_is); (case k3 => k_is)
    (case a4 => k_is); (case l4 => k_is); (case c4 => k_is); (case k4 => k_is); (case a5 => k_is); (case l5 => k_is); (case c5 => k_is); (case k5 => k_is)
    (case a6 => k_is); (case l6 => k_is); (case c6 => k_is); (case k6 => k_is); (case a7 => k_is); (case l7 => k_is); (case c7 => k_is); (case k7 => k_is)
    (case z0 => k_is); (case z1 => k_is); (case z2 => k_is); (case z3 => k_is); (case z4 => k_is)
