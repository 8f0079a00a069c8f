
import PyProof.Rows.All
import Wide.All
import OpenK.AllK
import Wide.FinOn
import HandS.ForMost
import HandS.Evl
import HandS.Steps
import HandS.IsInst
import HandS.Style
import HandS.Walk
import HandS.Flow
import PySem.Challenge.RW_textwrapper_k01_words_cut
set_option Elab.async false
set_option linter.all false
set_option maxRecDepth 100000
namespace Tw
open PySem PySem.Spec PyProof.Rows L2 Evl
/-! ### rules of our own -/
/-- text * int -/
def rMulS : R2 := fun x y H Q => ∃ (z : Str) (k : Int) (L N : Nat), x = .str z ∧ y = .int k ∧ (z.length ≤ L ∧ k ≤ (N : Int) ∧ -(2 ^ 63 : Int) ≤ k ∧ N ≤ 16777216 ∧ L * N ≤ 16777216) ∧ Q (.str (Txt.mul z k)) H
theorem op_mulS {X : Cx} : OpR X (binaryOp .Mult) rMulS := by
  intro pins s σ H x y v u Q I rx ry h
  obtain ⟨z, k, L, N, rfl, rfl, ⟨h1, h2, h3, h4, h5⟩, q⟩ := h
  obtain ⟨t, rfl⟩ := rx
  obtain ⟨t', rfl⟩ := ry
  exact PySem.SB.mul (mulOk_of L N h1 h2 h3 h4 h5) fun t' k' => ⟨.str (Txt.mul z k), H, I.tok _, ⟨_, rfl⟩, q⟩
/-! ### what evaluates to what -/
section
variable {K : PySem.W.Frag} {σ : L2.St} {H H' : Hp} {ta tb te tx : TE} {t u : TT} {x y z v : V} {r : R2}
theorem rv_addS {a b : Str} (h : a.length + b.length ≤ 100000) : RV (fun x y H Q => ∃ i j, x = .str i ∧ y = .str j ∧ i.length + j.length ≤ sizeLine ∧ Q (.str (i ++ j)) H) (.str a) (.str b) H (.str (a ++ b)) :=
  fun H1 _ _ q => ⟨a, b, rfl, rfl, sz_of h, q H1 (Ex.refl H1)⟩
theorem rv_mulS {a : Str} {k : Int} {L N : Nat} (h : a.length ≤ L) (hk : k ≤ (N : Int)) (h0 : 0 ≤ k) (hN : N ≤ 100000) (hL : L * N ≤ 100000) : RV rMulS (.str a) (.int k) H (.str (Txt.mul a k)) :=
  fun H1 _ _ q => ⟨a, k, L, N, rfl, rfl, ⟨h, hk, by omega, by omega, by omega⟩, q H1 (Ex.refl H1)⟩
def rLenStr : List V → Hp → VK → Prop := fun xs H Q => ∃ z, xs = [.str z] ∧ z.length ≤ sizeLine ∧ Q (.int z.length) H
theorem rc_lenS {a : Str} (h : a.length ≤ 16000000) : RC (fun xs H Q => ∃ z, xs = [.str z] ∧ z.length ≤ sizeLine ∧ Q (.int z.length) H) [.str a] H (.int a.length) := fun H1 _ _ q => ⟨a, rfl, Nat.le_trans h (by rw [sizeLine_eq]; decide), q H1 (Ex.refl H1)⟩
theorem rc_intB {b : Bool} : RC (fun xs H Q => (∃ i, xs = [.int i] ∧ Q (.int i) H) ∨ ∃ k, xs = [.bl k] ∧ Q (.int (if k then 1 else 0)) H) [.bl b] H (.int (if b = true then 1 else 0)) := fun H1 _ _ q => .inr ⟨b, rfl, q H1 (Ex.refl H1)⟩
theorem rc_lenL {p : Addr} {xs : List V} (h : SqL K H p xs) : RC (fun xs H Q => ∃ p ys, xs = [.ref p] ∧ (SqL K H p ys ∨ SqT K H p ys) ∧ Q (.int ys.length) H) [.ref p] H (.int xs.length) := fun H1 e _ q => ⟨p, xs, rfl, .inl (ex_l e h), q H1 (Ex.refl H1)⟩
theorem rc_isi {x c : V} {t u : Value} {b : Bool} (hc : ClsV c u) (ty : ∀ H1, Ex H H1 → TyX K H1 x t) (k : PySem.W.kitOne K t u = some b) : RC (rIsi K) [x, c] H (.bl b) := fun H1 e _ q => ⟨x, c, t, u, b, rfl, hc, ty H1 e, k, q H1 (Ex.refl H1)⟩
theorem rc_isStr {a : Str} : RC (rIsi K) [.str a, .ty "str"] H (.bl true) := rc_isi (.ty _) (fun _ _ => .base (.str a)) (kit_ty (by decide +kernel))
theorem tyx_list {p : Addr} {xs : List V} (h : SqL K H p xs) : TyX K H (.ref p) (.type "list") := by
  rcases h with (h | ⟨o, h⟩) | ⟨o, vs, n, hk, hc, _⟩
  · exact .base (.lst h)
  · exact .base (.frz h)
  · exact .kList hk hc
theorem rc_isList {p : Addr} {xs : List V} (h : SqL K H p xs) : RC (rIsi K) [.ref p, .ty "list"] H (.bl true) := rc_isi (.ty _) (fun _ e => tyx_list (ex_l e h)) (kit_ty (by decide +kernel))
theorem rv_isB {a b : Bool} : RV rIsB (.bl a) (.bl b) H (.bl (decide (a = b))) := fun H1 _ _ q => ⟨a, b, rfl, rfl, q H1 (Ex.refl H1)⟩
theorem rv_isN : RV rIsN x .non H (.bl (decide (x = .non))) := fun H1 _ _ q => ⟨rfl, q H1 (Ex.refl H1)⟩
theorem rv_notN : RV rNotN x .non H (.bl (!decide (x = .non))) := fun H1 _ _ q => ⟨rfl, q H1 (Ex.refl H1)⟩
theorem rv_add {i j : Int} : RV (rI0 fun i j => .int (i + j)) (.int i) (.int j) H (.int (i + j)) := rv_I0
/-- data equal, by values -/
theorem rv_eqD {d e : PyData} (hd : ∀ H1, Ex H H1 → Dp K H1 x d) (he : ∀ H1, Ex H H1 → Dp K H1 y e) (sd : SeqAt.shaped d = true) (se : SeqAt.shaped e = true) : RV (rEqD K) x y H (.bl (PyData.eqv d e)) :=
  fun H1 e1 _ q => ⟨d, e, hd H1 e1, he H1 e1, sd, se, q H1 (Ex.refl H1)⟩
theorem rv_neD {d e : PyData} (hd : ∀ H1, Ex H H1 → Dp K H1 x d) (he : ∀ H1, Ex H H1 → Dp K H1 y e) (sd : SeqAt.shaped d = true) (se : SeqAt.shaped e = true) : RV (rNeD K) x y H (.bl (!PyData.eqv d e)) :=
  fun H1 e1 _ q => ⟨d, e, hd H1 e1, he H1 e1, sd, se, q H1 (Ex.refl H1)⟩
theorem dpAll_strs : ∀ l : List Str, DpAll K H (l.map V.str) (l.map PyData.str)
  | [] => .nil
  | a :: r => .cons (.str a) (dpAll_strs r)
theorem dpAll_ints : ∀ l : List Int, DpAll K H (l.map V.int) (l.map PyData.int)
  | [] => .nil
  | a :: r => .cons (.int a) (dpAll_ints r)
theorem dp_strs {p : Addr} {l : List Str} (h : SqL K H p (l.map V.str)) : Dp K H (.ref p) (.list (l.map PyData.str)) := .lst h (dpAll_strs l)
theorem dp_ints {p : Addr} {l : List Int} (h : SqL K H p (l.map V.int)) : Dp K H (.ref p) (.list (l.map PyData.int)) := .lst h (dpAll_ints l)
/-- split() -/
theorem el_words {a : Str} (h : Ev te σ H (.str a)) (hl : a.length ≤ 90000) : EvL (tM0 (fun x xs H Q => ∃ a, x = .str a ∧ xs = [] ∧ a.length + 2 ≤ sizeLine ∧ rNewStrs (Txt.words a) H Q) te) σ H ((Txt.words a).map V.str) :=
  fun H1 e Q q => h H1 e _ fun H2 e2 => ⟨⟨a, rfl⟩, a, rfl, rfl, sz_of (by omega), fun p hp => q p _ (fresh_back e2 hp) (e2.trans (Ex.new hp)) upd_same⟩
/-- join -/
theorem ev_join {a : Str} {p : Addr} {ys : List Str} (h : Ev ta σ H (.str a)) (hb : Ev tb σ H (.ref p)) (hp : SqL K H p (ys.map V.str)) (hz : (ys.map (·.length)).sum + ys.length * a.length ≤ 16777216) :
    Ev (tM1 (fun x xs H Q => ∃ a p, ∃ ys : List Str, x = .str a ∧ xs = [.ref p] ∧ (SqL K H p (ys.map V.str) ∨ SqT K H p (ys.map V.str)) ∧ (ys.map (·.length)).sum + ys.length * a.length ≤ 16777216 ∧ Q (.str (Txt.join a ys)) H) ta tb) σ H (.str (Txt.join a ys)) :=
  fun H1 e Q q => h H1 e _ fun H2 e2 => ⟨⟨a, rfl⟩, hb H2 (e.trans e2) _ fun H3 e3 => ⟨a, p, ys, rfl, rfl, .inl (ex_l ((e.trans e2).trans e3) hp), hz, q H3 (e2.trans e3)⟩⟩
theorem ev_joinL {a : Str} {ys : List Str} (h : Ev ta σ H (.str a)) (hb : EvL tb σ H (ys.map V.str)) (hz : (ys.map (·.length)).sum + ys.length * a.length ≤ 16777216) :
    Ev (tM1 (fun x xs H Q => ∃ a p, ∃ ys : List Str, x = .str a ∧ xs = [.ref p] ∧ (SqL K H p (ys.map V.str) ∨ SqT K H p (ys.map V.str)) ∧ (ys.map (·.length)).sum + ys.length * a.length ≤ 16777216 ∧ Q (.str (Txt.join a ys)) H) ta tb) σ H (.str (Txt.join a ys)) :=
  fun H1 e Q q => h H1 e _ fun H2 e2 => ⟨⟨a, rfl⟩, hb H2 (e.trans e2) _ fun p H3 _ e3 hp => ⟨a, p, ys, rfl, rfl, .inl (sq_of hp), hz, q H3 (e2.trans e3)⟩⟩
/-- a slice of a new list -/
theorem el_slN {tl th : TO} {xs : List V} {lo hi : Option Int} (h : EvL te σ H xs) (h1 : EvO tl σ H lo) (h2 : EvO th σ H hi) : EvL (tSl (rSlL K) te tl th) σ H (cutV xs lo hi) := fun H1 e _ q =>
  h H1 e _ fun p H2 _ e2 hp => h1 H2 (e.trans e2) _ fun H3 e3 => h2 H3 ((e.trans e2).trans e3) _ fun H4 e4 =>
    ⟨p, xs, rfl, sq_of (e4 _ _ (e3 _ _ hp)), fun q' hq => q q' _ (fresh_back ((e2.trans e3).trans e4) hq) (((e2.trans e3).trans e4).trans (Ex.new hq)) upd_same⟩
/-- a call whose arguments are told by what they give: any promise -/
theorem ev_callA {sp : Sp} {dvs : List V} {E : XK} {ta : TA} {P : List V → Hp → Prop} (h : ∀ H1, Ex H H1 → ∀ Q : List V → Hp → Prop, (∀ vs H2, Ex H1 H2 → P vs H2 → Q vs H2) → ta σ H1 Q)
    (hs : ∀ vs H1, Ex H H1 → P vs H1 → ∀ Q : VK, (∀ H2, Ex H1 H2 → Q z H2) → sp (vs ++ dvs) H1 Q E) : Ev (tCall sp dvs E ta) σ H z := fun H1 e Q q =>
  h H1 e _ fun vs H2 e2 hP => hs vs H2 (e.trans e2) hP Q fun H3 e3 => q H3 (e2.trans e3)
theorem el_callA {sp : Sp} {dvs xs : List V} {E : XK} {ta : TA} {P : List V → Hp → Prop} (h : ∀ H1, Ex H H1 → ∀ Q : List V → Hp → Prop, (∀ vs H2, Ex H1 H2 → P vs H2 → Q vs H2) → ta σ H1 Q)
    (hs : ∀ vs H1, Ex H H1 → P vs H1 → ∀ Q : VK, (∀ p H2, H1 p = none → Ex H1 H2 → H2 p = some (.lst xs) → Q (.ref p) H2) → sp (vs ++ dvs) H1 Q E) : EvL (tCall sp dvs E ta) σ H xs := fun H1 e Q q =>
  h H1 e _ fun vs H2 e2 hP => hs vs H2 (e.trans e2) hP Q fun p H3 hp e3 h3 => q p H3 (fresh_back e2 hp) (e2.trans e3) h3
/-- argument lists told by what they give -/
def ArgP (ta : TA) (σ : L2.St) (H : Hp) (P : List V → Hp → Prop) : Prop := ∀ H1, Ex H H1 → ∀ Q : List V → Hp → Prop, (∀ vs H2, Ex H1 H2 → P vs H2 → Q vs H2) → ta σ H1 Q
theorem ap_nil : ArgP tNil σ H (fun vs _ => vs = []) := fun H1 _ Q q => q [] H1 (Ex.refl H1) rfl
theorem ap_cons {tr : TA} {P : List V → Hp → Prop} (h : Ev te σ H v) (hr : ArgP tr σ H P) : ArgP (tCons te tr) σ H (fun vs H' => ∃ r, vs = v :: r ∧ P r H') := fun H1 e Q q =>
  h H1 e _ fun H2 e2 => hr H2 (e.trans e2) _ fun vs H3 e3 hP => q _ H3 (e2.trans e3) ⟨vs, rfl, hP⟩
theorem ap_consL {tr : TA} {P : List V → Hp → Prop} {xs : List V} (h : EvL te σ H xs) (hr : ArgP tr σ H P) (hmono : ∀ (vs : List V) (H1 H2 : Hp), True) : ArgP (tCons te tr) σ H (fun vs H' => ∃ p r, vs = .ref p :: r ∧ H' p = some (.lst xs) ∧ P r H') := fun H1 e Q q =>
  h H1 e _ fun p H2 _ e2 hp => hr H2 (e.trans e2) _ fun vs H3 e3 hP => q _ H3 (e2.trans e3) ⟨p, vs, rfl, e3 _ _ hp, hP⟩
end
/-! ### loops over a text -/
section
variable {K : PySem.W.Frag} {σ : L2.St} {H H' : Hp} {te : TE} {D : Ends} {tu tz : TS}
theorem s_forS {z : Str} {j : Nat} (h : Ev te σ H (.str z)) (Pv : Nat → L2.St → Hp → Prop) (h0 : ∀ H1, Ex H H1 → Pv 0 σ H1)
    (hs : ∀ (i c : Nat) σ' H', (TL.tl z)[i]? = some c → Pv i σ' H' → tu { D with nx := Pv (i + 1), ct := Pv (i + 1), bk := D.nx } (σ'.set j (some (.str ⟨#[c]⟩))) H')
    (hd : ∀ σ' H', Pv (TL.tl z).length σ' H' → D.nx σ' H') : tFor (iStr te) (gName j) tu D σ H :=
  h H (Ex.refl H) _ fun H1 e => ⟨z, rfl, for_it walk_str Pv (h0 H1 e) (fun _ _ _ _ _ => trivial) (fun i x σ' H' H'' hi p y => by
    obtain ⟨rfl, c, hc, rfl⟩ := y
    exact hs i c σ' _ (by rw [show (TL.tl z)[i]? = z.cps[i]? from Array.getElem?_toList]; exact hc) p) (fun σ' H' p => hd σ' H' (by
    have e : (TL.tl z).length = z.cps.size := Array.length_toList
    rw [e]
    exact p))⟩
theorem q_forS {z : Str} {j : Nat} (h : Ev te σ H (.str z)) (Pv : Nat → L2.St → Hp → Prop) (h0 : ∀ H1, Ex H H1 → Pv 0 σ H1)
    (hs : ∀ (i c : Nat) σ' H', (TL.tl z)[i]? = some c → Pv i σ' H' → tu { D with nx := Pv (i + 1), ct := Pv (i + 1), bk := tz D } (σ'.set j (some (.str ⟨#[c]⟩))) H')
    (hd : ∀ σ' H', Pv (TL.tl z).length σ' H' → tz D σ' H') : tSeq (tFor (iStr te) (gName j) tu) tz D σ H := s_forS (D := { D with nx := tz D }) h Pv h0 hs hd
end
/-! ### the signs of words -/
/-- from ! to ~, but the percent sign -/
def sgnL : List Nat := List.range' 33 4 ++ List.range' 38 89
theorem sgnL_len : sgnL.length = 93 := by decide +kernel
/-- a sign of a word -/
def Ws (c : Nat) : Prop := 33 ≤ c ∧ c ≤ 126
instance (c : Nat) : Decidable (Ws c) := inferInstanceAs (Decidable (_ ∧ _))
theorem sgnL_ws : ∀ c ∈ sgnL, Ws c := by decide +kernel
/-- a sign of a text -/
def Ts (c : Nat) : Prop := c = 32 ∨ c = 10 ∨ Ws c
instance (c : Nat) : Decidable (Ts c) := inferInstanceAs (Decidable (_ ∨ _))
def sgn (c : Int) : Nat := sgnL.getD (c % 93).toNat 33
theorem sgn_ws (c : Int) : Ws (sgn c) := by
  unfold sgn
  rw [List.getD_eq_getElem?_getD]
  cases h : sgnL[(c % 93).toNat]? with
  | none => exact ⟨by decide, by decide⟩
  | some x => exact sgnL_ws x (List.mem_of_getElem? h)
theorem at_sgn (c : Int) : atI sgnL (c % 93) = some (sgn c) := by
  have h0 : 0 ≤ c % 93 := Int.emod_nonneg c (by decide)
  have h1 : c % 93 < 93 := Int.emod_lt_of_pos c (by decide)
  have hl : (c % 93).toNat < sgnL.length := by rw [sgnL_len]; omega
  have e : c % 93 = ((c % 93).toNat : Int) := by omega
  rw [e]
  refine atI_nat ?_
  unfold sgn
  rw [List.getD_eq_getElem?_getD, List.getElem?_eq_getElem hl] <;> rfl
theorem space_ws : ∀ c, Ws c → Unicode.isSpace c = false := by
  have h : ∀ c < 127, 33 ≤ c → Unicode.isSpace c = false := by decide +kernel
  exact fun c hc => h c (by have := hc.2; omega) hc.1
theorem space_32 : Unicode.isSpace 32 = true := by decide +kernel
theorem space_10 : Unicode.isSpace 10 = true := by decide +kernel
/-! ### lists of texts, of ints, compared -/
theorem strOk_of {z : Str} (h : ∀ c ∈ TL.tl z, c < 1114112) : PyData.strOk z = true := by
  unfold PyData.strOk
  rw [← Array.all_toList, List.all_eq_true]
  exact fun c hc => decide_eq_true (h c hc)
theorem canLay_strs : ∀ {l : List Str}, (∀ z ∈ l, ∀ c ∈ TL.tl z, c < 1114112) → PyData.canLayAll0 (l.map PyData.str) = true
  | [], _ => by simp [PyData.canLayAll0]
  | z :: r, h => by
    rw [List.map_cons, PyData.canLayAll0, PyData.canLay0, strOk_of (h z (List.mem_cons_self ..)), canLay_strs fun y hy => h y (List.mem_cons_of_mem _ hy)] <;> rfl
theorem depth_strs : ∀ l : List Str, PyData.depthAll (l.map PyData.str) = 0
  | [] => by simp [PyData.depthAll]
  | z :: r => by
    rw [List.map_cons, PyData.depthAll, depth_strs r, PyData.depth] <;> rfl
theorem shaped_strs {l : List Str} (h : ∀ z ∈ l, ∀ c ∈ TL.tl z, c < 1114112) : SeqAt.shaped (.list (l.map PyData.str)) = true := by
  unfold SeqAt.shaped
  rw [PyData.canLay0, canLay_strs h, PyData.depth, depth_strs] <;> rfl
theorem eqv_strs : ∀ l m : List Str, PyData.eqvAll (l.map PyData.str) (m.map PyData.str) = decide (l = m)
  | [], [] => by simp [PyData.eqvAll]
  | [], _ :: _ => by simp [PyData.eqvAll]
  | _ :: _, [] => by simp [PyData.eqvAll]
  | x :: l, y :: m => by
    rw [List.map_cons, List.map_cons, PyData.eqvAll, PyData.eqv, eqv_strs l m]
    rw [Bool.eq_iff_iff]
    simp
theorem eqv_lstrs (l m : List Str) : PyData.eqv (.list (l.map PyData.str)) (.list (m.map PyData.str)) = decide (l = m) := by
  rw [PyData.eqv]
  exact eqv_strs l m
theorem canLay_ints : ∀ l : List Int, PyData.canLayAll0 (l.map PyData.int) = true
  | [] => by simp [PyData.canLayAll0]
  | z :: r => by
    rw [List.map_cons, PyData.canLayAll0, PyData.canLay0, canLay_ints r] <;> rfl
theorem depth_ints : ∀ l : List Int, PyData.depthAll (l.map PyData.int) = 0
  | [] => by simp [PyData.depthAll]
  | z :: r => by
    rw [List.map_cons, PyData.depthAll, depth_ints r, PyData.depth] <;> rfl
theorem shaped_ints (l : List Int) : SeqAt.shaped (.list (l.map PyData.int)) = true := by
  unfold SeqAt.shaped
  rw [PyData.canLay0, canLay_ints, PyData.depth, depth_ints] <;> rfl
theorem eqv_ints : ∀ l m : List Int, PyData.eqvAll (l.map PyData.int) (m.map PyData.int) = decide (l = m)
  | [], [] => by simp [PyData.eqvAll]
  | [], _ :: _ => by simp [PyData.eqvAll]
  | _ :: _, [] => by simp [PyData.eqvAll]
  | x :: l, y :: m => by
    rw [List.map_cons, List.map_cons, PyData.eqvAll, PyData.eqv, eqv_ints l m]
    rw [Bool.eq_iff_iff]
    simp
theorem eqv_lints (l m : List Int) : PyData.eqv (.list (l.map PyData.int)) (.list (m.map PyData.int)) = decide (l = m) := by
  rw [PyData.eqv]
  exact eqv_ints l m
section
variable {K : PySem.W.Frag} {σ : L2.St} {H H' : Hp} {ta tb te tx : TE}
theorem rv_eqS {p q : Addr} {l m : List Str} (hp : SqL K H p (l.map V.str)) (hq : SqL K H q (m.map V.str)) (hl : ∀ z ∈ l, ∀ c ∈ TL.tl z, c < 1114112) (hm : ∀ z ∈ m, ∀ c ∈ TL.tl z, c < 1114112) : RV (rEqD K) (.ref p) (.ref q) H (.bl (decide (l = m))) := by
  rw [← eqv_lstrs]
  exact rv_eqD (fun H1 e => dp_strs (ex_l e hp)) (fun H1 e => dp_strs (ex_l e hq)) (shaped_strs hl) (shaped_strs hm)
theorem rv_neS {p q : Addr} {l m : List Str} (hp : SqL K H p (l.map V.str)) (hq : SqL K H q (m.map V.str)) (hl : ∀ z ∈ l, ∀ c ∈ TL.tl z, c < 1114112) (hm : ∀ z ∈ m, ∀ c ∈ TL.tl z, c < 1114112) : RV (rNeD K) (.ref p) (.ref q) H (.bl (!decide (l = m))) := by
  rw [← eqv_lstrs]
  exact rv_neD (fun H1 e => dp_strs (ex_l e hp)) (fun H1 e => dp_strs (ex_l e hq)) (shaped_strs hl) (shaped_strs hm)
theorem rv_eqI {p q : Addr} {l m : List Int} (hp : SqL K H p (l.map V.int)) (hq : SqL K H q (m.map V.int)) : RV (rEqD K) (.ref p) (.ref q) H (.bl (decide (l = m))) := by
  rw [← eqv_lints]
  exact rv_eqD (fun H1 e => dp_ints (ex_l e hp)) (fun H1 e => dp_ints (ex_l e hq)) (shaped_ints _) (shaped_ints _)
theorem rv_neI {p q : Addr} {l m : List Int} (hp : SqL K H p (l.map V.int)) (hq : SqL K H q (m.map V.int)) : RV (rNeD K) (.ref p) (.ref q) H (.bl (!decide (l = m))) := by
  rw [← eqv_lints]
  exact rv_neD (fun H1 e => dp_ints (ex_l e hp)) (fun H1 e => dp_ints (ex_l e hq)) (shaped_ints _) (shaped_ints _)
end
/-- the texts of the law -/
def Txs (z : Str) : Prop := ∀ c ∈ TL.tl z, Ts c
theorem Ts.lt {c : Nat} (h : Ts c) : c < 1114112 := by
  rcases h with h | h | ⟨h, h2⟩ <;> omega
theorem Txs.lt {z : Str} (h : Txs z) : ∀ c ∈ TL.tl z, c < 1114112 := fun c hc => (h c hc).lt
theorem Txs.app {x y : Str} (h : Txs x) (k : Txs y) : Txs (x ++ y) := fun c hc => by
  rw [TL.tl_append] at hc
  rcases List.mem_append.mp hc with hc | hc
  · exact h c hc
  · exact k c hc
theorem len_app (x y : Str) : (x ++ y).length = x.length + y.length := by
  rw [TL.len_tl, TL.len_tl, TL.len_tl, TL.tl_append, List.length_append]
theorem tl_one (c : Nat) : TL.tl ⟨#[c]⟩ = [c] := rfl
theorem txs_one {c : Nat} (h : Ts c) : Txs ⟨#[c]⟩ := fun d hd => by
  rw [tl_one] at hd
  rw [List.mem_singleton.mp hd]
  exact h
theorem blank_eq : Str.ofString " " = ⟨#[32]⟩ := by decide +kernel
theorem lf_eq : Str.ofString "\n" = ⟨#[10]⟩ := by decide +kernel
theorem none_eq : Str.ofString "" = Str.empty := by decide +kernel
section
variable {σ : L2.St} {H : Hp}
theorem ev_blank : Ev (tC (.str (Str.ofString " "))) σ H (.str ⟨#[32]⟩) := ev_is ev_c (congrArg V.str blank_eq)
theorem ev_lf : Ev (tC (.str (Str.ofString "\n"))) σ H (.str ⟨#[10]⟩) := ev_is ev_c (congrArg V.str lf_eq)
theorem ev_none : Ev (tC (.str (Str.ofString ""))) σ H (.str Str.empty) := ev_is ev_c (congrArg V.str none_eq)
end
/-! ### the words of a text -/
theorem step_fst {ws : List Str} {u : Str} {c : Nat} : (KWd.step (ws, u) c).1.length ≤ ws.length + 1 ∧ (KWd.step (ws, u) c).2.length ≤ u.length + 1 := by
  unfold KWd.step
  split
  · split
    · exact ⟨Nat.le_succ _, Nat.le_succ _⟩
    · exact ⟨by rw [List.length_append] <;> exact Nat.le_refl _, Nat.zero_le _⟩
  · exact ⟨Nat.le_succ _, by rw [len_app] <;> exact Nat.le_refl _⟩
/-- what the fold keeps of words: no more signs than were read, each a sign of the text that is no blank -/
structure Cut (n : Nat) (S : Nat → Prop) (st : KWd.St) : Prop where
  few : st.1.length ≤ n
  short : st.2.length ≤ n
  all : (st.1.map (·.length)).sum + st.2.length ≤ n
  ws : ∀ z ∈ st.1, z.length ≠ 0 ∧ ∀ c ∈ TL.tl z, S c ∧ Unicode.isSpace c = false
  us : ∀ c ∈ TL.tl st.2, S c ∧ Unicode.isSpace c = false
theorem Cut.zero {S : Nat → Prop} : Cut 0 S ([], Str.empty) := ⟨Nat.le_refl _, Nat.le_refl _, Nat.le_refl _, fun _ h => by simp at h, fun _ h => by simp [TL.tl, Str.empty] at h⟩
theorem Cut.step {n : Nat} {S : Nat → Prop} {st : KWd.St} (h : Cut n S st) {c : Nat} (hc : S c) : Cut (n + 1) S (KWd.step st c) := by
  obtain ⟨ws, u⟩ := st
  obtain ⟨h1, h2, h3, h4, h5⟩ := h
  simp only at h1 h2 h3 h4 h5
  unfold KWd.step
  split
  · split
    · exact ⟨by simp only; omega, by simp only; omega, by simp only; omega, h4, h5⟩
    · rename_i hs hu
      refine ⟨by simp only [List.length_append, List.length_singleton]; omega, Nat.zero_le _, ?_, fun z hz => ?_, fun d hd => by simp [TL.tl, Str.empty] at hd⟩
      · simp only [List.map_append, List.map_cons, List.map_nil, List.sum_append, List.sum_cons, List.sum_nil]
        show _ + (u.length + 0) + 0 ≤ _
        omega
      · rcases List.mem_append.mp hz with hz | hz
        · exact h4 z hz
        · rw [List.mem_singleton.mp hz]
          exact ⟨hu, h5⟩
  · rename_i hs
    refine ⟨by simp only; omega, ?_, ?_, h4, fun d hd => ?_⟩
    · simp only [len_app]
      show u.length + 1 ≤ n + 1
      omega
    · simp only [len_app]
      show _ + (u.length + 1) ≤ n + 1
      omega
    · simp only at hd
      rw [TL.tl_append, tl_one] at hd
      rcases List.mem_append.mp hd with hd | hd
      · exact h5 d hd
      · rw [List.mem_singleton.mp hd]
        exact ⟨hc, by cases e : Unicode.isSpace c <;> simp_all⟩
theorem cut_fold {S : Nat → Prop} : ∀ (l : List Nat) (n : Nat) (st : KWd.St), Cut n S st → (∀ c ∈ l, S c) → Cut (n + l.length) S (l.foldl KWd.step st)
  | [], _, _, h, _ => h
  | c :: r, n, st, h, hs => by
    rw [List.foldl_cons, List.length_cons, show n + (r.length + 1) = n + 1 + r.length by omega]
    exact cut_fold r (n + 1) _ (h.step (hs c (List.mem_cons_self ..))) fun d hd => hs d (List.mem_cons_of_mem _ hd)
/-- words of a text of the law: none empty, of signs of words alone, no more of them than signs -/
theorem words_ok {z : Str} (h : Txs z) : (Txt.words z).length ≤ z.length ∧ ((Txt.words z).map (·.length)).sum ≤ z.length ∧ ∀ y ∈ Txt.words z, y.length ≠ 0 ∧ ∀ c ∈ TL.tl y, Ws c := by
  have q := cut_fold (S := Ts) (TL.tl z) 0 ([], Str.empty) Cut.zero h
  rw [Nat.zero_add, ← TL.len_tl] at q
  rw [KWd.words_scan]
  have hw : ∀ y : Str, (∀ c ∈ TL.tl y, Ts c ∧ Unicode.isSpace c = false) → ∀ c ∈ TL.tl y, Ws c := fun y hy c hc => by
    obtain ⟨t, s⟩ := hy c hc
    rcases t with t | t | t
    · rw [t, space_32] at s; cases s
    · rw [t, space_10] at s; cases s
    · exact t
  unfold KWd.fin KWd.scan
  revert q
  generalize z.cps.toList.foldl KWd.step ([], Str.empty) = st
  intro q
  split
  · exact ⟨q.few, by have := q.all; omega, fun y hy => ⟨(q.ws y hy).1, hw y (q.ws y hy).2⟩⟩
  · rename_i hu
    refine ⟨?_, ?_, fun y hy => ?_⟩
    · rw [List.length_append]
      have h1 := q.all
      have h2 : st.1.length ≤ (st.1.map (·.length)).sum := by
        have h4 := q.ws
        revert h4
        generalize st.1 = l
        intro h4
        induction l with
        | nil => exact Nat.le_refl _
        | cons a r ih =>
          have ha := (h4 a (List.mem_cons_self ..)).1
          have hr := ih fun y hy => h4 y (List.mem_cons_of_mem _ hy)
          rw [List.map_cons, List.sum_cons, List.length_cons]
          omega
      show st.1.length + 1 ≤ _
      omega
    · rw [List.map_append, List.sum_append]
      have h1 := q.all
      show _ + (st.2.length + 0) ≤ _
      omega
    · rcases List.mem_append.mp hy with hy | hy
      · exact ⟨(q.ws y hy).1, hw y (q.ws y hy).2⟩
      · rw [List.mem_singleton.mp hy]
        exact ⟨hu, hw _ q.us⟩
theorem mul_txs {z : Str} (h : Txs z) (k : Int) : Txs (Txt.mul z k) := fun c hc => by
  unfold Txt.mul at hc
  split at hc
  · simp [TL.tl, Str.empty] at hc
  · split at hc
    · exact h c hc
    · have go : ∀ (n : Nat) (acc : Array Nat), (∀ d ∈ acc.toList, Ts d) → ∀ d ∈ ((List.replicate n z.cps).foldl (· ++ ·) acc).toList, Ts d := by
        intro n
        induction n with
        | zero => exact fun acc ha => ha
        | succ n ih =>
          intro acc ha
          rw [List.replicate_succ, List.foldl_cons]
          refine ih _ fun d hd => ?_
          rw [Array.toList_append] at hd
          rcases List.mem_append.mp hd with hd | hd
          · exact ha d hd
          · exact h d hd
      exact go _ _ (fun d hd => by simp at hd) c hc
/-! ### a list of lists of texts, made behind H0 -/
def LLs (H0 H : Hp) (l : Addr) (ex : List Addr) (pss : List (List Str)) : Prop := H0 l = none ∧ ∃ ps : List (Addr × List Str), pss = ps.map (·.2) ∧ H l = some (.lst (ps.map fun x => V.ref x.1)) ∧ (l :: ps.map (·.1)).Nodup ∧
  (∀ x ∈ ps, H0 x.1 = none ∧ H x.1 = some (.lst (x.2.map V.str))) ∧ ∀ b ∈ ex, b ≠ l ∧ ∀ x ∈ ps, b ≠ x.1
theorem LLs.mono {H0 H H' : Hp} {l : Addr} {ex : List Addr} {pss : List (List Str)} (h : LLs H0 H l ex pss) (e : Ex H H') : LLs H0 H' l ex pss := by
  obtain ⟨h0, ps, h1, h2, h3, h4, h5⟩ := h
  exact ⟨h0, ps, h1, e _ _ h2, h3, fun x hx => ⟨(h4 x hx).1, e _ _ (h4 x hx).2⟩, h5⟩
/-- an address of ex is written -/
theorem LLs.other {H0 H : Hp} {l b : Addr} {ex : List Addr} {pss : List (List Str)} {o : HO} (h : LLs H0 H l ex pss) (hb : b ∈ ex) : LLs H0 (upd H b o) l ex pss := by
  obtain ⟨h0, ps, h1, h2, h3, h4, h5⟩ := h
  refine ⟨h0, ps, h1, ?_, h3, fun x hx => ⟨(h4 x hx).1, ?_⟩, h5⟩
  · rw [upd_ne (h5 b hb).1.symm]
    exact h2
  · rw [upd_ne ((h5 b hb).2 x hx).symm]
    exact (h4 x hx).2
/-- a new list q, laid behind Hb, is put behind -/
theorem LLs.push {H0 Hb H : Hp} {l q : Addr} {ex : List Addr} {pss : List (List Str)} {w : List Str} (h : LLs H0 Hb l ex pss) (hq : Hb q = none) (e : Ex Hb H) (e0 : Ex H0 Hb) (hw : H q = some (.lst (w.map V.str))) (hex : ∀ b ∈ ex, Hb b ≠ none) :
    ∃ vs, H l = some (.lst vs) ∧ vs.length = pss.length ∧ LLs H0 (upd H l (.lst (vs ++ [V.ref q]))) l ex (pss ++ [w]) := by
  obtain ⟨h0, ps, h1, h2, h3, h4, h5⟩ := h
  have nql : q ≠ l := fun z => by rw [z, h2] at hq; cases hq
  have nqp : ∀ x ∈ ps, x.1 ≠ q := fun x hx z => by rw [← z, (h4 x hx).2] at hq; cases hq
  have nlp : ∀ x ∈ ps, x.1 ≠ l := fun x hx z => (List.nodup_cons.mp h3).1 (by rw [← z]; exact List.mem_map_of_mem hx)
  refine ⟨_, e _ _ h2, by rw [h1, List.length_map, List.length_map], h0, ps ++ [(q, w)], by rw [h1, List.map_append] <;> rfl, by rw [upd_same, List.map_append] <;> rfl, ?_, fun x hx => ?_, fun b hb => ⟨(h5 b hb).1, fun x hx => ?_⟩⟩
  · rw [List.map_append, ← List.cons_append]
    refine List.nodup_append.mpr ⟨h3, by simp, fun a ha b hb => ?_⟩
    rw [List.map_cons, List.map_nil, List.mem_singleton] at hb
    rw [hb]
    rcases List.mem_cons.mp ha with ha | ha
    · rw [ha]
      exact nql.symm
    · obtain ⟨x, hx, rfl⟩ := List.mem_map.mp ha
      exact nqp x hx
  · rcases List.mem_append.mp hx with hx | hx
    · rw [upd_ne (nlp x hx)]
      exact ⟨(h4 x hx).1, e _ _ (h4 x hx).2⟩
    · rw [List.mem_singleton.mp hx, upd_ne nql]
      exact ⟨fresh_back e0 hq, hw⟩
  · rcases List.mem_append.mp hx with hx | hx
    · exact (h5 b hb).2 x hx
    · rw [List.mem_singleton.mp hx]
      exact fun z => hex b hb (by rw [z]; exact hq)
/-- the last one -/
theorem LLs.last {H0 H : Hp} {l : Addr} {ex : List Addr} {pss : List (List Str)} (h : LLs H0 H l ex pss) (hn : pss ≠ []) :
    ∃ vs p xs, H l = some (.lst vs) ∧ atI vs (-1) = some (.ref p) ∧ H p = some (.lst (xs.map V.str)) ∧ pss = pss.dropLast ++ [xs] ∧ H0 p = none ∧ (∀ b ∈ ex, b ≠ p) ∧
      ∀ H' ys, Ex H H' → LLs H0 (upd H' p (.lst (xs.map V.str ++ ys.map V.str))) l ex (pss.dropLast ++ [xs ++ ys]) := by
  obtain ⟨h0, ps, h1, h2, h3, h4, h5⟩ := h
  have hps : ps ≠ [] := fun z => hn (by rw [h1, z] <;> rfl)
  obtain ⟨r, x, rfl⟩ : ∃ r x, ps = r ++ [x] := ⟨_, _, (List.dropLast_concat_getLast hps).symm⟩
  have hx := h4 x (List.mem_append_right _ (List.mem_singleton.mpr rfl))
  have hdl : pss.dropLast = r.map (·.2) := by
    rw [h1, List.map_append]
    exact List.dropLast_concat
  have nxl : x.1 ≠ l := fun z => (List.nodup_cons.mp h3).1 (by rw [← z]; exact List.mem_map_of_mem (List.mem_append_right _ (List.mem_singleton.mpr rfl)))
  have nrx : ∀ y ∈ r, y.1 ≠ x.1 := fun y hy z => by
    have q := (List.nodup_cons.mp h3).2
    rw [List.map_append] at q
    exact (List.nodup_append.mp q).2.2 y.1 (List.mem_map_of_mem hy) x.1 (List.mem_singleton.mpr rfl) z
  refine ⟨_, x.1, x.2, h2, by rw [List.map_append]; exact atI_last _ _, hx.2, by rw [hdl, h1, List.map_append] <;> rfl, hx.1, fun b hb => (h5 b hb).2 x (List.mem_append_right _ (List.mem_singleton.mpr rfl)), fun H' ys e => ⟨h0, r ++ [(x.1, x.2 ++ ys)], ?_, ?_, ?_, fun y hy => ?_, fun b hb => ⟨(h5 b hb).1, fun y hy => ?_⟩⟩⟩
  · rw [hdl, List.map_append] <;> rfl
  · rw [upd_ne nxl.symm, e _ _ h2, List.map_append, List.map_append] <;> rfl
  · rw [List.map_append] at h3 ⊢
    exact h3
  · rcases List.mem_append.mp hy with hy | hy
    · rw [upd_ne (nrx y hy)]
      exact ⟨(h4 y (List.mem_append_left _ hy)).1, e _ _ (h4 y (List.mem_append_left _ hy)).2⟩
    · rw [List.mem_singleton.mp hy]
      refine ⟨hx.1, ?_⟩
      rw [upd_same, List.map_append]
  · rcases List.mem_append.mp hy with hy | hy
    · exact (h5 b hb).2 y (List.mem_append_left _ hy)
    · rw [List.mem_singleton.mp hy]
      exact (h5 b hb).2 x (List.mem_append_right _ (List.mem_singleton.mpr rfl))
/-- the k-th one -/
theorem LLs.at {H0 H : Hp} {l : Addr} {ex : List Addr} {pss : List (List Str)} (h : LLs H0 H l ex pss) {k : Nat} {xs : List Str} (hk : pss[k]? = some xs) :
    ∃ vs p, H l = some (.lst vs) ∧ vs.length = pss.length ∧ vs[k]? = some (.ref p) ∧ H p = some (.lst (xs.map V.str)) := by
  obtain ⟨h0, ps, h1, h2, h3, h4, h5⟩ := h
  rw [h1, List.getElem?_map] at hk
  obtain ⟨x, hx, rfl⟩ := Option.map_eq_some_iff.mp hk
  exact ⟨_, x.1, h2, by rw [h1, List.length_map, List.length_map], by rw [List.getElem?_map, hx] <;> rfl, (h4 x (List.mem_of_getElem? hx)).2⟩
theorem LLs.lst {H0 H : Hp} {l : Addr} {ex : List Addr} {pss : List (List Str)} (h : LLs H0 H l ex pss) : ∃ vs, H l = some (.lst vs) ∧ vs.length = pss.length := by
  obtain ⟨h0, ps, h1, h2, h3, h4, h5⟩ := h
  exact ⟨_, h2, by rw [h1, List.length_map, List.length_map]⟩
section
variable {K : PySem.W.Frag} {σ : L2.St} {H H' : Hp} {ta tb te tx : TE} {D : Ends} {tz : TS} {v : V}
theorem et_tru {p : Addr} {xs : List V} (h : Ev te σ H (.ref p)) (hs : SqL K H p xs) : EvT (fun σ H Q => te σ H fun x H' => ∃ k, TruV K x H' k ∧ Q k H') σ H (!xs.isEmpty) := fun H1 e _ q => h H1 e _ fun H2 e2 => ⟨_, .inl ⟨xs, ex_l (e.trans e2) hs, rfl⟩, q H2 e2⟩
theorem ev_notT {p : Addr} {xs : List V} (h : Ev te σ H (.ref p)) (hs : SqL K H p xs) : Ev (tNotT K te) σ H (.bl (!!xs.isEmpty)) := fun H1 e _ q => h H1 e _ fun H2 e2 => ⟨_, .inl ⟨xs, ex_l (e.trans e2) hs, rfl⟩, q H2 e2⟩
/-- xs.extend(ys) -/
theorem s_ext {l b : Addr} {xs zs : List V} (hl : H l = some (.lst xs)) (hb : H b = some (.lst zs)) (ha : Ev ta σ H (.ref l)) (h : Ev te σ H (.ref b)) (hz : xs.length + zs.length ≤ 100000) (k : ∀ H1, Ex H H1 → D.nx σ (upd H1 l (.lst (xs ++ zs)))) :
    tDrop (tBM K "list" rExtend ta (tCons te tNil)) D σ H := ha H (Ex.refl H) _ fun H1 e1 =>
  ⟨Or.inl ⟨rfl, xs, sq_of (e1 l _ hl)⟩, h H1 e1 _ fun H2 e2 => ⟨l, b, xs, zs, rfl, rfl, e2 l _ (e1 l _ hl), e2 b _ (e1 b _ hb), sz_of hz, k H2 (e1.trans e2)⟩⟩
/-- a text cut -/
theorem el_split {a b : Str} (ha : Ev ta σ H (.str a)) (hb : Ev tb σ H (.str b)) (h0 : (b.length == 0) = false) (hl : a.length ≤ 90000) :
    EvL (tM1 (fun x xs H Q => ∃ a b, x = .str a ∧ xs = [.str b] ∧ (b.length == 0) = false ∧ a.length + 2 ≤ sizeLine ∧ rNewStrs (Txt.split a b) H Q) ta tb) σ H ((Txt.split a b).map V.str) :=
  fun H1 e Q q => ha H1 e _ fun H2 e2 => ⟨⟨a, rfl⟩, hb H2 (e.trans e2) _ fun H3 e3 => ⟨a, b, rfl, rfl, h0, sz_of (by omega), fun p hp => q p _ (fresh_back (e2.trans e3) hp) ((e2.trans e3).trans (Ex.new hp)) upd_same⟩⟩
end
/-! ### joined, cut: signs and sizes -/
theorem joinL_mem (S : List Nat) : ∀ (ps : List (List Nat)) (c : Nat), c ∈ TL.joinL S ps → c ∈ S ∨ ∃ p ∈ ps, c ∈ p
  | [], _, h => absurd h (List.not_mem_nil)
  | [p], _, h => .inr ⟨p, List.mem_cons_self .., h⟩
  | p :: q :: r, c, h => by
    have h' : c ∈ p ++ (S ++ TL.joinL S (q :: r)) := h
    rcases List.mem_append.mp h' with h1 | h1
    · exact .inr ⟨p, List.mem_cons_self .., h1⟩
    · rcases List.mem_append.mp h1 with h2 | h2
      · exact .inl h2
      · rcases joinL_mem S (q :: r) c h2 with h3 | ⟨x, hx, h3⟩
        · exact .inl h3
        · exact .inr ⟨x, List.mem_cons_of_mem _ hx, h3⟩
theorem joinL_len (S : List Nat) : ∀ ps : List (List Nat), (TL.joinL S ps).length + (if ps = [] then 0 else S.length) = (ps.map List.length).sum + ps.length * S.length
  | [] => by simp [TL.joinL]
  | [p] => by simp [TL.joinL]
  | p :: q :: r => by
    have ih := joinL_len S (q :: r)
    rw [if_neg (by simp)] at ih
    show (p ++ (S ++ TL.joinL S (q :: r))).length + _ = _
    rw [if_neg (by simp), List.length_append, List.length_append, List.map_cons, List.sum_cons, List.length_cons, Nat.succ_mul]
    omega
theorem txs_join {y : Str} {ps : List Str} (hy : Txs y) (hp : ∀ p ∈ ps, Txs p) : Txs (Txt.join y ps) := fun c hc => by
  rw [TL.join_eq, TL.tl_join] at hc
  rcases joinL_mem _ _ c hc with h | ⟨p, h, h2⟩
  · exact hy c h
  · obtain ⟨z, hz, rfl⟩ := List.mem_map.mp h
    exact hp z hz c h2
theorem len_join (y : Str) (ps : List Str) : (Txt.join y ps).length + (if ps = [] then 0 else y.length) = (ps.map (·.length)).sum + ps.length * y.length := by
  have h := joinL_len (TL.tl y) (ps.map TL.tl)
  rw [← TL.tl_join, ← TL.join_eq, ← TL.len_tl, ← TL.len_tl, List.length_map, List.map_map] at h
  have e : (List.length ∘ TL.tl) = fun z : Str => z.length := by
    funext z
    exact (TL.len_tl z).symm
  rw [e] at h
  rw [← h]
  cases ps <;> simp
theorem len_join0 (ps : List Str) : (Txt.join Str.empty ps).length = (ps.map (·.length)).sum := by
  have h := len_join Str.empty ps
  rw [show Str.empty.length = 0 from rfl, Nat.mul_zero] at h
  cases ps <;> simp at h ⊢ <;> omega
theorem txs_empty : Txs Str.empty := fun c hc => by simp [TL.tl, Str.empty] at hc
/-- a text cut at the line ends -/
theorem spl_len : ∀ (l acc : List Nat), ((TL.spl [10] 0 acc l).map List.length).sum + (TL.spl [10] 0 acc l).length = acc.length + l.length + 1
  | [], acc => by rw [TL.spl_nil]; simp
  | c :: l, acc => by
    by_cases hc : c = 10
    · have e : TL.spl [10] 0 acc (c :: l) = acc :: TL.spl [10] 0 [] l := TL.spl_hit (by rw [hc]; rfl)
      rw [e, List.map_cons, List.sum_cons, List.length_cons]
      have ih := spl_len l []
      rw [List.length_nil] at ih
      rw [List.length_cons]
      omega
    · rw [TL.spl_miss (by
        show (([c] : List Nat) == [10]) = false
        rw [beq_eq_false_iff_ne]
        exact fun q => hc (List.cons.inj q).1)]
      have ih := spl_len l (acc ++ [c])
      rw [List.length_append, List.length_singleton] at ih
      rw [List.length_cons]
      omega
theorem spl_mem : ∀ (l acc y : List Nat) (c : Nat), y ∈ TL.spl [10] 0 acc l → c ∈ y → c ∈ acc ∨ c ∈ l
  | [], acc, y, c, h, hc => by
    rw [TL.spl_nil] at h
    rw [List.mem_singleton.mp h] at hc
    exact .inl hc
  | d :: l, acc, y, c, h, hc => by
    by_cases hd : d = 10
    · rw [TL.spl_hit (by rw [hd]; rfl)] at h
      rcases List.mem_cons.mp h with h | h
      · rw [h] at hc
        exact .inl hc
      · rcases spl_mem l [] y c h hc with q | q
        · exact absurd q (List.not_mem_nil)
        · exact .inr (List.mem_cons_of_mem _ q)
    · rw [TL.spl_miss (by
        show (([d] : List Nat) == [10]) = false
        rw [beq_eq_false_iff_ne]
        exact fun q => hd (List.cons.inj q).1)] at h
      rcases spl_mem l (acc ++ [d]) y c h hc with q | q
      · rcases List.mem_append.mp q with q | q
        · exact .inl q
        · rw [List.mem_singleton.mp q]
          exact .inr (List.mem_cons_self ..)
      · exact .inr (List.mem_cons_of_mem _ q)
def lfS : Str := ⟨#[10]⟩
theorem split_rows (z : Str) : (Txt.split z lfS).map TL.tl = TL.spl [10] 0 [] (TL.tl z) := TL.split_spl z lfS (by decide) (TL.kind_ok (by decide +kernel))
theorem rows_len (z : Str) : ((Txt.split z lfS).map (·.length)).sum + (Txt.split z lfS).length = z.length + 1 := by
  have h := spl_len (TL.tl z) []
  rw [← split_rows, List.length_map, List.map_map] at h
  have e : (List.length ∘ TL.tl) = fun z : Str => z.length := by
    funext z
    exact (TL.len_tl z).symm
  rw [e, ← TL.len_tl, List.length_nil, Nat.zero_add] at h
  exact h
theorem rows_txs {z : Str} (h : Txs z) : ∀ y ∈ Txt.split z lfS, Txs y := fun y hy c hc => by
  have hm : TL.tl y ∈ TL.spl [10] 0 [] (TL.tl z) := by
    rw [← split_rows]
    exact List.mem_map_of_mem hy
  rcases spl_mem _ _ _ c hm hc with q | q
  · exact absurd q (List.not_mem_nil)
  · exact h c q
section
variable {K : PySem.W.Frag} {σ : L2.St} {H H' : Hp} {ta tb te tx : TE} {D : Ends} {tz : TS} {v : V}
theorem el_is {xs ys : List V} (h : EvL te σ H xs) (e : xs = ys) : EvL te σ H ys := by
  rw [← e]
  exact h
theorem given_all (n : Nat) (v : Nat → V) : given n (fun _ => true) v = (List.range n).map v := by
  unfold given
  rw [List.filter_eq_self.mpr fun _ _ => rfl]
theorem et_yes : EvT tYes σ H true := fun H1 _ _ q => q H1 (Ex.refl H1)
/-- [e for k in range(n)] -/
theorem el_lcR {ta : TA} {j : Nat} {vs : List Nat} {n : Int} (v : Nat → V) (h : EvA ta σ H [.int n]) (hn : 0 ≤ n ∧ n ≤ 40000) (hw : ∀ x, wipe ((wipe σ vs).set j (some x)) vs = wipe σ vs)
    (he : ∀ (i : Nat) H1, Ex H H1 → (i : Int) < n → Ev te ((wipe σ vs).set j (some (.int (i : Int)))) H1 (v i)) : EvL (tLc (iRng1 ta) (gName j) tYes te vs) σ H ((List.range n.toNat).map v) :=
  el_is (el_lcR1 (fun _ => true) v h hn hw (fun _ _ _ _ => et_yes) fun i H1 e hi _ => he i H1 e hi) (given_all _ _)
/-- [e for x in l] -/
theorem el_lcX {a : Addr} {xs : List V} {tl : TE} {j : Nat} {vs : List Nat} (v : Nat → V) (h : Ev tl σ H (.ref a)) (hx : SqL K H a xs) (hz : xs.length ≤ 40000) (hw : ∀ x, wipe ((wipe σ vs).set j (some x)) vs = wipe σ vs)
    (he : ∀ (i : Nat) (x : V) H1, Ex H H1 → xs[i]? = some x → Ev te ((wipe σ vs).set j (some x)) H1 (v i)) : EvL (tLc (iList K tl) (gName j) tYes te vs) σ H ((List.range xs.length).map v) :=
  el_is (el_lcL (fun _ => true) v h hx hz hw (fun _ _ _ _ _ => et_yes) fun i x H1 e hi _ => he i x H1 e hi) (given_all _ _)
end
section
variable {σ : L2.St} {H : Hp} {D : Ends} {tz : TS}
/-- x = f(..), the arguments told by what they give -/
theorem q_asgP {ta : TA} {sp : Sp} {dvs : List V} {E : XK} {i : Nat} {P : List V → Hp → Prop} (h : ArgP ta σ H P) (k : ∀ vs H1, Ex H H1 → P vs H1 → sp (vs ++ dvs) H1 (fun v H2 => tz D (σ.set i (some v)) H2) E) : tSeq (tAsg (tCall sp dvs E ta) (gName i)) tz D σ H := h H (Ex.refl H) _ k
/-- x = f(..), told by f's own promise -/
theorem q_asgA {ta : TA} {sp : Sp} {dvs vs : List V} {E : XK} {i : Nat} (h : EvA ta σ H vs) (k : ∀ H1, Ex H H1 → sp (vs ++ dvs) H1 (fun v H2 => tz D (σ.set i (some v)) H2) E) : tSeq (tAsg (tCall sp dvs E ta) (gName i)) tz D σ H := h H (Ex.refl H) _ k
end
theorem LLs.drop {H0 H : Hp} {l : Addr} {ex : List Addr} {pss : List (List Str)} (h : LLs H0 H l ex pss) : LLs H0 H l [] pss := by
  obtain ⟨h0, ps, h1, h2, h3, h4, h5⟩ := h
  exact ⟨h0, ps, h1, h2, h3, h4, fun b hb => absurd hb (List.not_mem_nil)⟩
theorem LLs.zero {H0 H : Hp} {l : Addr} {ex : List Addr} (h0 : H0 l = none) (h : H l = some (.lst [])) (hex : ∀ b ∈ ex, b ≠ l) : LLs H0 H l ex [] :=
  ⟨h0, [], rfl, h, by simp, fun x hx => absurd hx (List.not_mem_nil), fun b hb => ⟨hex b hb, fun x hx => absurd hx (List.not_mem_nil)⟩⟩
/-! ### enumerate, tuples, sums -/
section
variable {K : PySem.W.Frag} {σ : L2.St} {H H' : Hp} {ta tb te tx : TE} {D : Ends} {tu tz : TS} {v : V}
theorem s_forE {ta : TA} {a : Addr} {xs : List V} {j1 j2 : Nat} (h : EvA ta σ H [.ref a]) (hx : SqL K H a xs) (Pv : Nat → L2.St → Hp → Prop) (h0 : ∀ H1, Ex H H1 → Pv 0 σ H1) (hl : ∀ i σ' H', i ≤ xs.length → Pv i σ' H' → SqL K H' a xs)
    (hs : ∀ i x σ' H' H2, xs[i]? = some x → Pv i σ' H' → Ex H' H2 → tu { D with nx := Pv (i + 1), ct := Pv (i + 1), bk := D.nx } ((σ'.set j1 (some (.int (i : Int)))).set j2 (some x)) H2) (hd : ∀ σ' H', Pv xs.length σ' H' → D.nx σ' H') :
    tFor (iEnum K ta) (gTup K 2 (gCons (gName j1) (gCons (gName j2) gNil))) tu D σ H :=
  h H (Ex.refl H) _ fun H1 e => ⟨a, xs, rfl, ex_l e hx, for_it walk_enum Pv (h0 H1 e) hl (fun i x σ' H' H'' hi p y => by
    obtain ⟨T, x1, x2, rfl, hT, rfl, hx1, hx2⟩ := y
    cases hx1
    exact ⟨T, _, rfl, .inl (.inl upd_same), rfl, _, _, rfl, _, _, rfl, rfl, hs i x2 σ' H' _ hx2 p (Ex.new hT)⟩) hd⟩
theorem q_forE {ta : TA} {a : Addr} {xs : List V} {j1 j2 : Nat} (h : EvA ta σ H [.ref a]) (hx : SqL K H a xs) (Pv : Nat → L2.St → Hp → Prop) (h0 : ∀ H1, Ex H H1 → Pv 0 σ H1) (hl : ∀ i σ' H', i ≤ xs.length → Pv i σ' H' → SqL K H' a xs)
    (hs : ∀ i x σ' H' H2, xs[i]? = some x → Pv i σ' H' → Ex H' H2 → tu { D with nx := Pv (i + 1), ct := Pv (i + 1), bk := tz D } ((σ'.set j1 (some (.int (i : Int)))).set j2 (some x)) H2) (hd : ∀ σ' H', Pv xs.length σ' H' → tz D σ' H') :
    tSeq (tFor (iEnum K ta) (gTup K 2 (gCons (gName j1) (gCons (gName j2) gNil))) tu) tz D σ H := s_forE (D := { D with nx := tz D }) h hx Pv h0 hl hs hd
theorem el_cat {l : Addr} {xs ys : List V} (ha : Ev ta σ H (.ref l)) (hl : H l = some (.lst xs)) (hb : EvL tb σ H ys) (hz : xs.length + ys.length ≤ 100000) : EvL (tOp rCat ta tb) σ H (xs ++ ys) := fun H1 e Q q =>
  ha H1 e _ fun H2 e2 => hb H2 (e.trans e2) _ fun p H3 _ e3 hp => ⟨l, p, xs, ys, rfl, rfl, e3 _ _ (e2 _ _ (e _ _ hl)), hp, sz_of hz, fun r hr => q r _ (fresh_back (e2.trans e3) hr) ((e2.trans e3).trans (Ex.new hr)) upd_same⟩
theorem el_catN {xs ys : List V} (ha : EvL ta σ H xs) (hb : EvL tb σ H ys) (hz : xs.length + ys.length ≤ 100000) : EvL (tOp rCat ta tb) σ H (xs ++ ys) := fun H1 e Q q =>
  ha H1 e _ fun l H2 _ e2 hl => hb H2 (e.trans e2) _ fun p H3 _ e3 hp => ⟨l, p, xs, ys, rfl, rfl, e3 _ _ hl, hp, sz_of hz, fun r hr => q r _ (fresh_back (e2.trans e3) hr) ((e2.trans e3).trans (Ex.new hr)) upd_same⟩
theorem ev_sumN {ns : List Int} (h : EvL te σ H (ns.map V.int)) : Ev (tCB (rSum K) (tCons te tNil)) σ H (.int ns.sum) := fun H1 e Q q =>
  h H1 e _ fun p H2 _ e2 hp => ⟨p, ns, rfl, sq_of hp, q H2 e2⟩
theorem ev_maxx {i j : Int} (ha : Ev ta σ H (.int i)) (hb : Ev tb σ H (.int j)) : Ev (tCB (fun xs H Q => ∃ i j, xs = [.int i, .int j] ∧ Q (.int (if j > i then j else i)) H) (tCons ta (tCons tb tNil))) σ H (.int (max i j)) := by
  have e : max i j = if j > i then j else i := by
    by_cases h : j > i
    · rw [if_pos h]; omega
    · rw [if_neg h]; omega
  rw [e]
  exact ev_max2 ha hb
theorem rc_isInt {i : Int} : RC (rIsi K) [.int i, .ty "int"] H (.bl true) := rc_isi (.ty _) (fun _ _ => .base (.int i)) (kit_ty (by decide +kernel))
theorem rc_isIntB {i : Int} : RC (rIsi K) [.int i, .ty "bool"] H (.bl false) := rc_isi (.ty _) (fun _ _ => .base (.int i)) (kit_ty (by decide +kernel))
/-- f(..) alone, told by f's own promise -/
theorem q_dropA {ta : TA} {sp : Sp} {dvs vs : List V} {E : XK} (h : EvA ta σ H vs) (k : ∀ H1, Ex H H1 → sp (vs ++ dvs) H1 (fun _ H2 => tz D σ H2) E) : tSeq (tDrop (tCall sp dvs E ta)) tz D σ H := h H (Ex.refl H) _ k
theorem s_dropA {ta : TA} {sp : Sp} {dvs vs : List V} {E : XK} (h : EvA ta σ H vs) (k : ∀ H1, Ex H H1 → sp (vs ++ dvs) H1 (fun _ H2 => D.nx σ H2) E) : tDrop (tCall sp dvs E ta) D σ H := h H (Ex.refl H) _ k
/-- a list made anew of another -/
theorem el_listOf {p : Addr} {xs : List V} (ha : Ev ta σ H (.ref p)) (h : SqL K H p xs) : EvL (tCB (fun xs H Q => ∃ p ys, xs = [.ref p] ∧ (SqL K H p ys ∨ SqT K H p ys) ∧ ∀ l, H l = none → Q (.ref l) (upd H l (.lst ys))) (tCons ta tNil)) σ H xs := el_list ha h
end
/-! ### tuples made in a display, walked -/
section
variable {K : PySem.W.Frag} {σ : L2.St} {H H' : Hp} {D : Ends} {tu tz : TS}
/-- arguments that give new tuples -/
def ArgT (ta : TA) (σ : L2.St) (H : Hp) (pss : List (List V)) : Prop := ∀ H1, Ex H H1 → ∀ Q : List V → Hp → Prop, (∀ (as : List Addr) H2, Ex H1 H2 → as.length = pss.length → (∀ (i : Nat) (a : Addr) (xs : List V), as[i]? = some a → pss[i]? = some xs → H2 a = some (.tup xs)) → Q (as.map V.ref) H2) → ta σ H1 Q
theorem at_nil : ArgT tNil σ H [] := fun H1 _ Q q => q [] H1 (Ex.refl H1) rfl (fun i a xs h => by simp at h)
theorem at_cons {te : TE} {tr : TA} {xs : List V} {pss : List (List V)} (h : EvU te σ H xs) (hr : ArgT tr σ H pss) : ArgT (tCons te tr) σ H (xs :: pss) := fun H1 e Q q =>
  h H1 e _ fun p H2 _ e2 hp => hr H2 (e.trans e2) _ fun as H3 e3 hl ha => q (p :: as) H3 (e2.trans e3) (by rw [List.length_cons, List.length_cons, hl]) (fun i a ys h1 h2 => by
    cases i with
    | zero =>
      cases h1
      cases h2
      exact e3 _ _ hp
    | succ i => exact ha i a ys h1 h2)
theorem q_forTs {ta : TA} {j : Nat} {pss : List (List V)} (h : ArgT ta σ H pss) (hz : pss.length ≤ 100) (Pv : Hp → Nat → L2.St → Hp → Prop) (hE : ∀ B i σ' H', Pv B i σ' H' → Ex B H') (h0 : ∀ B, Ex H B → Pv B 0 σ B)
    (hs : ∀ B i a xs σ' H', pss[i]? = some xs → Pv B i σ' H' → H' a = some (.tup xs) → tu { D with nx := Pv B (i + 1), ct := Pv B (i + 1), bk := tz D } (σ'.set j (some (.ref a))) H') (hd : ∀ B σ' H', Pv B pss.length σ' H' → tz D σ' H') :
    tSeq (tFor (iList K (tLst ta)) (gName j) tu) tz D σ H := h H (Ex.refl H) _ fun as H1 e1 hl ha => by
  have hn : (as.map V.ref).length = pss.length := by rw [List.length_map, hl]
  refine ⟨by rw [hn]; exact sz_of (by omega), fun p hp => ⟨p, rfl, ⟨_, sq_of upd_same⟩, ?_⟩⟩
  have eB : Ex H (upd H1 p (.lst (as.map V.ref))) := e1.trans (Ex.new hp)
  refine for_list (K := K) (a := p) (xs := as.map V.ref) (D := { D with nx := tz D }) (Pv (upd H1 p (.lst (as.map V.ref)))) (h0 _ eB) (fun i σ' H' _ q => sq_of (hE _ _ _ _ q _ _ upd_same)) (fun i x σ' H' hi q => ?_) (fun σ' H' q => ?_)
  · rw [List.getElem?_map] at hi
    obtain ⟨a, hai, rfl⟩ := Option.map_eq_some_iff.mp hi
    have hil : i < pss.length := by
      have := (List.getElem?_eq_some_iff.mp hai).1
      omega
    have hxs : pss[i]? = some pss[i] := List.getElem?_eq_getElem hil
    have hta := ha i a _ hai hxs
    have nap : a ≠ p := fun z => by rw [z, hp] at hta; cases hta
    exact hs _ i a _ σ' H' hxs q (hE _ _ _ _ q _ _ (by rw [upd_ne nap]; exact hta))
  · rw [hn] at q
    exact hd _ σ' H' q
end
end Tw
set_option Elab.async false
set_option linter.all false
set_option maxRecDepth 100000
namespace Pf
open PySem PySem.Spec PyProof.Rows L2 Evl Tw
def topS (i : Nat) : Stmt := PySem.Challenge.pw_textwrapper_k01_words_cut.main.body.getD i (.Pass ⟨0, 0, 0, 0⟩)
abbrev s_words_of : Stmt := topS 1
abbrev N_words_of : List Str := ["text"]
theorem sc_words_of : FnScope N_words_of ["text"] (defScope s_words_of) := ⟨rfl, rfl, rfl, by decide +kernel, rfl, by decide +kernel, by decide +kernel⟩
abbrev s_is_word : Stmt := topS 2
abbrev N_is_word : List Str := ["text"]
theorem sc_is_word : FnScope N_is_word ["text"] (defScope s_is_word) := ⟨rfl, rfl, rfl, by decide +kernel, rfl, by decide +kernel, by decide +kernel⟩
abbrev s_l_cell_at : Stmt := topS 4
abbrev N_l_cell_at : List Str := ["_law_script", "_law_k"]
theorem sc_l_cell_at : FnScope N_l_cell_at ["_law_script", "_law_k"] (defScope s_l_cell_at) := ⟨rfl, rfl, rfl, by decide +kernel, rfl, by decide +kernel, by decide +kernel⟩
abbrev s_l_sign_by : Stmt := topS 5
abbrev N_l_sign_by : List Str := ["_law_cell", "_law_some"]
theorem sc_l_sign_by : FnScope N_l_sign_by ["_law_cell"] (defScope s_l_sign_by) := ⟨rfl, rfl, rfl, by decide +kernel, rfl, by decide +kernel, by decide +kernel⟩
abbrev s_l_texts : Stmt := topS 6
abbrev N_l_texts : List Str := ["_law_found", "_law_due", "_law_k"]
theorem sc_l_texts : FnScope N_l_texts ["_law_found", "_law_due"] (defScope s_l_texts) := ⟨rfl, rfl, rfl, by decide +kernel, rfl, by decide +kernel, by decide +kernel⟩
abbrev s_l_text_by : Stmt := topS 7
abbrev N_l_text_by : List Str := ["_law_cells", "_law_signs", "_law_cell"]
theorem sc_l_text_by : FnScope N_l_text_by ["_law_cells"] (defScope s_l_text_by) := ⟨rfl, rfl, rfl, by decide +kernel, rfl, by decide +kernel, by decide +kernel⟩
abbrev s_l_cut : Stmt := topS 8
abbrev N_l_cut : List Str := ["_law_signs", "_law_row", "_law_held", "_law_sign"]
theorem sc_l_cut : FnScope N_l_cut ["_law_signs"] (defScope s_l_cut) := ⟨rfl, rfl, rfl, by decide +kernel, rfl, by decide +kernel, by decide +kernel⟩
abbrev s_law : Stmt := topS 9
abbrev N_law : List Str := ["_law_script", "_law_signs", "_law_told"]
theorem sc_law : FnScope N_law ["_law_script"] (defScope s_law) := ⟨rfl, rfl, rfl, by decide +kernel, rfl, by decide +kernel, by decide +kernel⟩
/-- where the defs and classes stand -/
structure Ad where
  f_words_of : Addr
  d_words_of : FuncData
  f_is_word : Addr
  d_is_word : FuncData
  f_l_cell_at : Addr
  d_l_cell_at : FuncData
  f_l_sign_by : Addr
  d_l_sign_by : FuncData
  f_l_texts : Addr
  d_l_texts : FuncData
  f_l_text_by : Addr
  d_l_text_by : FuncData
  f_l_cut : Addr
  d_l_cut : FuncData
  f_law : Addr
  d_law : FuncData
/-- what the top has left -/
structure Txt (K : PySem.W.Frag) (mg : Str → Option Value) (A : Ad) : Prop where
  F_words_of : Fun K "words_of" "words_of" s_words_of A.f_words_of A.d_words_of
  g_words_of : mg "words_of" = some (.ref A.f_words_of)
  b_words_of : Binds K A.d_words_of ["text"] []
  F_is_word : Fun K "is_word" "is_word" s_is_word A.f_is_word A.d_is_word
  g_is_word : mg "is_word" = some (.ref A.f_is_word)
  b_is_word : Binds K A.d_is_word ["text"] []
  F_l_cell_at : Fun K "_law_cell_at" "_law_cell_at" s_l_cell_at A.f_l_cell_at A.d_l_cell_at
  g_l_cell_at : mg "_law_cell_at" = some (.ref A.f_l_cell_at)
  b_l_cell_at : Binds K A.d_l_cell_at ["_law_script", "_law_k"] []
  F_l_sign_by : Fun K "_law_sign_by" "_law_sign_by" s_l_sign_by A.f_l_sign_by A.d_l_sign_by
  g_l_sign_by : mg "_law_sign_by" = some (.ref A.f_l_sign_by)
  b_l_sign_by : Binds K A.d_l_sign_by ["_law_cell"] []
  F_l_texts : Fun K "_law_texts" "_law_texts" s_l_texts A.f_l_texts A.d_l_texts
  g_l_texts : mg "_law_texts" = some (.ref A.f_l_texts)
  b_l_texts : Binds K A.d_l_texts ["_law_found", "_law_due"] []
  F_l_text_by : Fun K "_law_text_by" "_law_text_by" s_l_text_by A.f_l_text_by A.d_l_text_by
  g_l_text_by : mg "_law_text_by" = some (.ref A.f_l_text_by)
  b_l_text_by : Binds K A.d_l_text_by ["_law_cells"] []
  F_l_cut : Fun K "_law_cut" "_law_cut" s_l_cut A.f_l_cut A.d_l_cut
  g_l_cut : mg "_law_cut" = some (.ref A.f_l_cut)
  b_l_cut : Binds K A.d_l_cut ["_law_signs"] []
  F_law : Fun K "law" "law" s_law A.f_law A.d_law
  g_law : mg "law" = some (.ref A.f_law)
  b_law : Binds K A.d_law ["_law_script"] []
  m_isinstance : mg "isinstance" = none
  m_len : mg "len" = none
  m_list : mg "list" = none
  m_range : mg "range" = none
  m_str : mg "str" = none
local macro_rules | `(tactic| walk_at "rv") => `(tactic| (first
  | exact rv_I0
  | exact rv_I (by decide)
  | exact rv_I ⟨by omega, by omega⟩
  | exact rv_I (.inl ⟨by omega, by omega⟩)
  | exact rv_I (.inr ⟨by omega, by omega⟩)
  | exact rv_eq rfl
  | exact rv_ne rfl
  | exact rv_isB
  | exact rv_isN
  | exact rv_notN))
local macro_rules | `(tactic| walk_at "ev") => `(tactic| (first
  | exact ev_c
  | exact ev_var rfl
  | (apply ev_op; (walk_at "ev"); (walk_at "ev"); (walk_at "rv"))
  | (apply ev_un; (walk_at "ev"); (exact ru_neg))
  | (apply ev_cb; (walk_at "ea"); (walk_at "rc"))
  | (apply ev_call; (walk_at "ea"); (walk_at "sp"))))
local macro_rules | `(tactic| walk_at "ea") => `(tactic| (first
  | exact ea_nil
  | (apply ea_cons; (walk_at "ev"); (walk_at "ea"))))
local macro_rules | `(tactic| walk_at "rc") => `(tactic| (first
  | exact rc_lenL (by assumption)
  | exact rc_lenS (by omega)
  | exact rc_isStr
  | exact rc_isList (by assumption)))
local macro_rules | `(tactic| walk_at "et") => `(tactic| (first
  | (apply et_test; (walk_at "ev"))
  | (apply et_B; (walk_at "ev"))
  | (apply et_not; (walk_at "et"))))

section
variable {P : Program} {w : World} {K : PySem.W.Frag} {mg : Str → Option Value} {base : Heap} {A : Ad}
/-! ### _law_cell_at -/
def sp_cell_at (K : PySem.W.Frag) : Sp := fun vs H Q _ => ∃ (a : Addr) (ns : List Int) (j : Nat), vs = [.ref a, .int j] ∧ SqL K H a (ns.map V.int) ∧ RetV (.int (ns.getD j 0)) H Q
theorem ok_l_cell_at (T : Txt K mg A) : FnOk P w K mg base CX0 1 A.f_l_cell_at A.d_l_cell_at ["_law_script", "_law_k"] (sp_cell_at K) := by
  refine T.F_l_cell_at.ok sc_l_cell_at (fun vs H Q E h => ?_) (fun cdv Ar outer s H vs Q E hr h => ?_)
  · obtain ⟨a, ns, j, rfl, _⟩ := h
    rfl
  · obtain ⟨a, ns, j, rfl, hS, k⟩ := h
    refine ⟨_, (pss_cons (ps_if (pt_cmpR op_lt (pv 1) (pe_callB call_len_seq (by rfl) T.m_len PySem.boot_len (pa_cons (pv 0) pa_nil)) (nomark _))
  (pss_one (ps_ret (pe_ix ix_list (pv 0) (pv 1) (fun _ _ => rfl))))
  pss_nil)
  (pss_one (ps_ret pe_int))), ?_⟩
    refine q_when (b := decide ((j : Int) < ((ns.map V.int).length : Nat))) (by walk_at "et") (fun hb H1 e1 => ?_) (fun hb H1 e1 => ?_)
    · have hj : j < ns.length := by
        have q := of_decide_eq_true hb
        rw [List.length_map] at q
        omega
      have hS1 := ex_l e1 hS
      refine s_ret (v := .int (ns.getD j 0)) (ev_op (ev_var rfl) (ev_var rfl) (rv_ixL hS1 (atI_nat ?_))) fun H2 e2 => k H2 (e1.trans e2)
      rw [List.getElem?_map, List.getD_eq_getElem?_getD, List.getElem?_eq_getElem hj] <;> rfl
    · have hj : ns.length ≤ j := by
        have q := of_decide_eq_false hb
        rw [List.length_map] at q
        omega
      refine s_ret ev_c fun H2 e2 => ?_
      have e : ns.getD j 0 = 0 := by
        rw [List.getD_eq_getElem?_getD, List.getElem?_eq_none hj] <;> rfl
      rw [e] at k
      exact k H2 (e1.trans e2)
/-! ### _law_sign_by -/
def sp_sign_by (K : PySem.W.Frag) : Sp := fun vs H Q _ => ∃ (c : Int), vs = [.int c] ∧ RetV (.str ⟨#[sgn c]⟩) H Q
def alphA : Str := "!\"#$&'()*+,-./0123456789:;<=>?@ABCDEFGHIJKLMNOPQRSTUVWXYZ[\\]^_`"
def alphB : Str := "abcdefghijklmnopqrstuvwxyz{|}~"
theorem alph_tl : (alphA ++ alphB).cps.toList = sgnL := by decide +kernel
theorem alph_len : alphA.length + alphB.length ≤ 100000 := by decide +kernel
theorem alph_len2 : (alphA ++ alphB).length ≤ 100000 := by decide +kernel
theorem ok_l_sign_by (T : Txt K mg A) : FnOk P w K mg base CX0 1 A.f_l_sign_by A.d_l_sign_by ["_law_cell"] (sp_sign_by K) := by
  refine T.F_l_sign_by.ok sc_l_sign_by (fun vs H Q E h => ?_) (fun cdv Ar outer s H vs Q E hr h => ?_)
  · obtain ⟨c, rfl, _⟩ := h
    rfl
  · obtain ⟨c, rfl, k⟩ := h
    refine ⟨_, (pss_cons (ps_set (i := 1) sc_l_sign_by.nd rfl (.inl rfl) pe_str)
  (pss_cons (ps_set (i := 1) sc_l_sign_by.nd rfl (.inl rfl) (pe_op op_add_str (pv 1) pe_str))
  (pss_one (ps_ret (pe_ix ix_str (pv 1) (pe_op op_mod (pv 0) pe_int) (fun _ _ => rfl)))))), ?_⟩
    refine q_asg (v := .str alphA) ev_c fun H1 e1 => ?_
    refine q_asg (v := .str (alphA ++ alphB)) (ev_op (ev_var rfl) ev_c (rv_addS alph_len)) fun H2 e2 => ?_
    refine s_ret (v := .str ⟨#[sgn c]⟩) (ev_op (ev_var rfl) (ev_op (ev_var rfl) ev_c (rv_I (by decide))) (rv_ixS alph_len2 ?_)) fun H3 e3 => k H3 ((e1.trans e2).trans e3)
    rw [alph_tl]
    exact at_sgn c
/-! ### _law_text_by -/
def sp_text_by (K : PySem.W.Frag) : Sp := fun vs H Q _ => ∃ (a : Addr) (ns : List Int), vs = [.ref a] ∧ SqL K H a (ns.map V.int) ∧ ns.length ≤ 100 ∧ ∀ z, Txs z → z.length ≤ ns.length → RetV (.str z) H Q
theorem ok_l_text_by (T : Txt K mg A) : FnOk P w K mg base CX0 2 A.f_l_text_by A.d_l_text_by ["_law_cells"] (sp_text_by K) := by
  refine T.F_l_text_by.ok sc_l_text_by (fun vs H Q E h => ?_) (fun cdv Ar outer s H vs Q E hr h => ?_)
  · obtain ⟨a, ns, rfl, _⟩ := h
    rfl
  · obtain ⟨a, ns, rfl, hS, hlen, k⟩ := h
    refine ⟨_, (pss_cons (ps_set (i := 1) sc_l_text_by.nd rfl (.inl rfl) pe_str)
  (pss_cons (ps_for PassesOwn.never rfl (pi_list (pv 0)) (pg_name (i := 2) sc_l_text_by.nd rfl (.inl rfl))
  (pss_one (ps_if (pt_cmpR op_lt (pe_op op_mod (pv 2) pe_int) pe_int (nomark _))
  (pss_one (ps_set (i := 1) sc_l_text_by.nd rfl (.inl rfl) (pe_op op_add_str (pv 1) pe_str)))
  (pss_one (ps_if (pt_cmpR op_eq (pe_op op_mod (pv 2) pe_int) pe_int (nomark _))
  (pss_one (ps_set (i := 1) sc_l_text_by.nd rfl (.inl rfl) (pe_op op_add_str (pv 1) pe_str)))
  (pss_one (ps_set (i := 1) sc_l_text_by.nd rfl (.inl rfl) (pe_op op_add_str (pv 1) (pe_call (ok_l_sign_by T) (hr.mono (by decide)) rfl T.g_l_sign_by T.F_l_sign_by.kp T.b_l_sign_by .nil pass0 (pa_cons (pe_op op_fdiv (pv 2) pe_int) pa_nil))))))))))
  (pss_one (ps_ret (pv 1))))), ?_⟩
    refine q_asg (v := .str Str.empty) ev_none fun H1 e1 => ?_
    refine q_forLn (ev_var rfl) (ex_l e1 hS) (fun i σ' H' => ∃ z x, σ' = [some (.ref a), some (.str z), x] ∧ Ex H H' ∧ Txs z ∧ z.length ≤ i)
      (fun H2 e2 => ⟨Str.empty, none, rfl, e1.trans e2, fun c hc => (by simp [TL.tl, Str.empty] at hc), Nat.zero_le _⟩)
      (fun i σ' H' _ ⟨_, _, _, e, _⟩ => ex_l e hS) ?_ ?_
    · rintro i x σ' H' hi ⟨z, x', rfl, e, hz, hl⟩
      have hi100 : i < 100 := by
        have q := (List.getElem?_eq_some_iff.mp hi).1
        rw [List.length_map] at q
        omega
      obtain ⟨c, rfl⟩ : ∃ c, x = V.int c := by
        rw [List.getElem?_map] at hi
        obtain ⟨c, _, hc⟩ := Option.map_eq_some_iff.mp hi
        exact ⟨c, hc.symm⟩
      have next : ∀ (d : Nat), Ts d → ∀ H2, Ex H' H2 → ∃ z' x, ([some (V.ref a), some (.str (z ++ ⟨#[d]⟩)), some (.int c)] : L2.St) = [some (.ref a), some (.str z'), x] ∧ Ex H H2 ∧ Txs z' ∧ z'.length ≤ i + 1 := fun d hd H2 e2 =>
        ⟨_, _, rfl, e.trans e2, hz.app (txs_one hd), by rw [len_app]; show z.length + 1 ≤ i + 1; omega⟩
      refine s_if (b := decide (c % 8 < 2)) (by walk_at "et") (fun hb H1 e1 => ?_) (fun hb H1 e1 => ?_)
      · exact s_asg (v := .str (z ++ (⟨#[32]⟩ : Str))) (ev_op (ev_var rfl) ev_blank (rv_addS (show z.length + 1 ≤ 100000 by omega))) fun H2 e2 => next 32 (.inl rfl) H2 (e1.trans e2)
      · refine s_if (b := decide (V.int (c % 8) = V.int 2)) (by walk_at "et") (fun hb H2 e2 => ?_) (fun hb H2 e2 => ?_)
        · exact s_asg (v := .str (z ++ (⟨#[10]⟩ : Str))) (ev_op (ev_var rfl) ev_lf (rv_addS (show z.length + 1 ≤ 100000 by omega))) fun H3 e3 => next 10 (.inr (.inl rfl)) H3 ((e1.trans e2).trans e3)
        · refine s_asg (v := .str (z ++ (⟨#[sgn (c / 8)]⟩ : Str))) (ev_op (ev_var rfl) (ev_call (ea_cons (x := .int (c / 8)) (by walk_at "ev") ea_nil) (fun H3 e3 Q q E => ⟨_, rfl, q⟩)) (rv_addS (show z.length + 1 ≤ 100000 by omega))) fun H3 e3 => next _ (.inr (.inr (sgn_ws _))) H3 ((e1.trans e2).trans e3)
    · rintro σ' H' ⟨z, x', rfl, e, hz, hl⟩
      rw [List.length_map] at hl
      exact s_ret (ev_var rfl) fun H2 e2 => k z hz hl H2 (e.trans e2)
/-! ### _law_cut -/
def sp_cut (K : PySem.W.Frag) : Sp := fun vs H Q _ => ∃ (z : Str), vs = [.str z] ∧ Txs z ∧ z.length ≤ 1000 ∧ RetL ((Txt.words z).map V.str) H Q
theorem ok_l_cut (T : Txt K mg A) : FnOk P w K mg base CX0 1 A.f_l_cut A.d_l_cut ["_law_signs"] (sp_cut K) := by
  refine T.F_l_cut.ok sc_l_cut (fun vs H Q E h => ?_) (fun cdv Ar outer s H vs Q E hr h => ?_)
  · obtain ⟨z, rfl, _⟩ := h
    rfl
  · obtain ⟨z, rfl, hz, hlen, k⟩ := h
    refine ⟨_, (pss_cons (ps_set (i := 1) sc_l_cut.nd rfl (.inl rfl) (pe_lst pa_nil))
  (pss_cons (ps_set (i := 2) sc_l_cut.nd rfl (.inl rfl) pe_str)
  (pss_cons (ps_for PassesOwn.never rfl (pi_str (pv 0)) (pg_name (i := 3) sc_l_cut.nd rfl (.inl rfl))
  (pss_one (ps_if (PW.pt (pw_and (pt_cmpR op_ne (pv 3) pe_str (nomark _)) (pw_and1 (pt_cmpR op_ne (pv 3) pe_str (nomark _)))))
  (pss_one (ps_set (i := 2) sc_l_cut.nd rfl (.inl rfl) (pe_op op_add_str (pv 2) (pv 3))))
  (pss_one (ps_if (pt_cmpR op_ne (pv 2) pe_str (nomark _))
  (pss_cons (ps_expr (pe_bm PySem.F.plainAttrs_list PySem.F.slot_list_append PySem.F.type_list_append mt_append (pv 1) (pa_cons (pv 2) pa_nil)))
  (pss_one (ps_set (i := 2) sc_l_cut.nd rfl (.inl rfl) pe_str)))
  pss_nil)))))
  (pss_cons (ps_if (pt_cmpR op_ne (pv 2) pe_str (nomark _))
  (pss_one (ps_expr (pe_bm PySem.F.plainAttrs_list PySem.F.slot_list_append PySem.F.type_list_append mt_append (pv 1) (pa_cons (pv 2) pa_nil))))
  pss_nil)
  (pss_one (ps_ret (pv 1))))))), ?_⟩
    refine q_asgL (xs := []) (el_lst ea_nil (Nat.zero_le _)) fun l H1 l0 e1 hl1 => ?_
    refine q_asg (v := .str Str.empty) ev_none fun H2 e2 => ?_
    refine q_forS (z := z) (ev_var rfl) (fun i σ' H' => ∃ st x, σ' = [some (.str z), some (.ref l), some (.str st.2), x] ∧ Ex H H' ∧ H' l = some (.lst (st.1.map V.str)) ∧ ((TL.tl z).take i).foldl KWd.step ([], Str.empty) = st ∧ Cut i Ts st)
      (fun H3 e3 => ⟨([], Str.empty), none, rfl, (e1.trans e2).trans e3, e3 _ _ (e2 _ _ hl1), rfl, Cut.zero⟩) ?_ ?_
    · rintro i c σ' H' hi ⟨st, x, rfl, e, hl, hf, hcut⟩
      have hi1 : i < 1000 := by
        have q := (List.getElem?_eq_some_iff.mp hi).1
        rw [← TL.len_tl] at q
        omega
      have hc : Ts c := hz c (List.mem_of_getElem? hi)
      have hnext : ((TL.tl z).take (i + 1)).foldl KWd.step ([], Str.empty) = KWd.step st c := by
        rw [List.take_add_one, hi, List.foldl_append, hf]
        rfl
      have hcut' := hcut.step hc
      have hnl : ∀ b o, H b = some o → b ≠ l := fun b o q => ne_of_none q l0
      refine s_if (b := decide (c ≠ 32 ∧ c ≠ 10)) ?_ (fun hb H1 e1 => ?_) (fun hb H1 e1 => ?_)
      · refine et_is (et_and (et_test (ev_op (ev_var rfl) ev_blank (rv_ne rfl))) fun _ => et_test (ev_op (ev_var rfl) ev_lf (rv_ne rfl))) ?_
        rw [Bool.eq_iff_iff]
        have i1 : ∀ d : Nat, (V.str ⟨#[c]⟩ = V.str (⟨#[d]⟩ : Str)) ↔ c = d := fun d => ⟨fun q => by injection q with q; injection q with q; injection q with q; injection q with q, fun q => by rw [q]⟩
        have j1 := i1 32
        have j2 := i1 10
        show ((!decide (V.str ⟨#[c]⟩ = V.str (⟨#[32]⟩ : Str))) && !decide (V.str ⟨#[c]⟩ = V.str (⟨#[10]⟩ : Str))) = true ↔ _
        simp only [Bool.and_eq_true, Bool.not_eq_true', decide_eq_false_iff_not, decide_eq_true_eq, j1, j2]
      · obtain ⟨h32, h10⟩ := of_decide_eq_true hb
        have hsp : Unicode.isSpace c = false := by
          rcases hc with q | q | q
          · exact absurd q h32
          · exact absurd q h10
          · exact space_ws c q
        have es : KWd.step st c = (st.1, st.2 ++ ⟨#[c]⟩) := if_neg (by rw [hsp]; exact Bool.false_ne_true)
        refine s_asg (v := .str (st.2 ++ ⟨#[c]⟩)) (ev_op (ev_var rfl) (ev_var rfl) (rv_addS (show st.2.length + 1 ≤ 100000 by have := hcut.short; omega))) fun H2 e2 => ?_
        exact ⟨KWd.step st c, _, by rw [es]; rfl, (e.trans e1).trans e2, by rw [es]; exact e2 _ _ (e1 _ _ hl), hnext, hcut'⟩
      · have hcc : c = 32 ∨ c = 10 := by
          have q := of_decide_eq_false hb
          omega
        have hsp : Unicode.isSpace c = true := by
          rcases hcc with q | q <;> rw [q]
          · exact space_32
          · exact space_10
        refine s_when (b := !decide (V.str st.2 = V.str Str.empty)) (et_test (ev_op (ev_var rfl) ev_none (rv_ne rfl))) (fun hb H2 e2 => ?_) (fun hb H2 e2 => ?_)
        · have hne : ¬ st.2.length = 0 := fun q => by
            rw [KWd.len0 q] at hb
            simp at hb
          have es : KWd.step st c = (st.1 ++ [st.2], Str.empty) := (if_pos hsp).trans (if_neg hne)
          refine q_app (xs := st.1.map V.str) (v := .str st.2) (e2 _ _ (e1 _ _ hl)) (ev_var rfl) (ev_var rfl) (by rw [List.length_map]; have := hcut.few; omega) fun H3 e3 => ?_
          refine s_asg (v := .str Str.empty) ev_none fun H4 e4 => ?_
          refine ⟨KWd.step st c, _, by rw [es]; rfl, ?_, ?_, hnext, hcut'⟩
          · exact (Ex.mut (((e.trans e1).trans e2).trans e3) l0).trans e4
          · rw [es, List.map_append]
            exact e4 _ _ upd_same
        · have he : st.2.length = 0 := by
            have q : st.2 = Str.empty := by
              simp only [Bool.not_eq_false', decide_eq_true_eq] at hb
              injection hb
            rw [q]
            rfl
          have es : KWd.step st c = st := (if_pos hsp).trans (if_pos he)
          exact ⟨KWd.step st c, _, by rw [es]; rfl, (e.trans e1).trans e2, by rw [es]; exact e2 _ _ (e1 _ _ hl), hnext, hcut'⟩
    · rintro σ' H' ⟨st, x, rfl, e, hl, hf, hcut⟩
      rw [List.take_length] at hf
      rw [← TL.len_tl] at hcut
      have hw : Txt.words z = KWd.fin st := by
        rw [KWd.words_scan, KWd.scan]
        exact congrArg KWd.fin hf
      rw [hw] at k
      refine q_when (b := !decide (V.str st.2 = V.str Str.empty)) (et_test (ev_op (ev_var rfl) ev_none (rv_ne rfl))) (fun hb H2 e2 => ?_) (fun hb H2 e2 => ?_)
      · have hne : ¬ st.2.length = 0 := fun q => by
          rw [KWd.len0 q] at hb
          simp at hb
        have es : KWd.fin st = st.1 ++ [st.2] := if_neg hne
        rw [es, List.map_append] at k
        refine s_app (xs := st.1.map V.str) (v := .str st.2) (e2 _ _ hl) (ev_var rfl) (ev_var rfl) (by rw [List.length_map]; have := hcut.few; omega) fun H3 e3 => ?_
        exact s_ret (v := .ref l) (ev_var rfl) fun H4 e4 => k l H4 l0 ((Ex.mut ((e.trans e2).trans e3) l0).trans e4) (e4 _ _ upd_same)
      · have he : st.2.length = 0 := by
          have q : st.2 = Str.empty := by
            simp only [Bool.not_eq_false', decide_eq_true_eq] at hb
            injection hb
          rw [q]
          rfl
        have es : KWd.fin st = st.1 := if_pos he
        rw [es] at k
        exact s_ret (v := .ref l) (ev_var rfl) fun H4 e4 => k l H4 l0 ((e.trans e2).trans e4) (e4 _ _ (e2 _ _ hl))
/-! ### words_of, is_word -/
def sp_words_of (K : PySem.W.Frag) : Sp := fun vs H Q _ => ∃ (z : Str), vs = [.str z] ∧ z.length ≤ 60000 ∧ RetL ((Txt.words z).map V.str) H Q
theorem ok_words_of (T : Txt K mg A) : FnOk P w K mg base CX0 1 A.f_words_of A.d_words_of ["text"] (sp_words_of K) := by
  refine T.F_words_of.ok sc_words_of (fun vs H Q E h => ?_) (fun cdv Ar outer s H vs Q E hr h => ?_)
  · obtain ⟨z, rfl, _⟩ := h
    rfl
  · obtain ⟨z, rfl, hlen, k⟩ := h
    refine ⟨_, (pss_one (ps_ret (pe_words (pv 0)))), ?_⟩
    exact s_retL (el_words (a := z) (ev_var rfl) (by omega)) fun p H2 hp e2 h2 => k p H2 hp e2 h2
def sp_is_word (K : PySem.W.Frag) : Sp := fun vs H Q _ => ∃ (z : Str), vs = [.str z] ∧ Txs z ∧ z.length ≤ 1000 ∧ RetV (.bl (decide (Txt.words z = [z]))) H Q
theorem ok_is_word (T : Txt K mg A) : FnOk P w K mg base CX0 2 A.f_is_word A.d_is_word ["text"] (sp_is_word K) := by
  refine T.F_is_word.ok sc_is_word (fun vs H Q E h => ?_) (fun cdv Ar outer s H vs Q E hr h => ?_)
  · obtain ⟨z, rfl, _⟩ := h
    rfl
  · obtain ⟨z, rfl, hz, hlen, k⟩ := h
    refine ⟨_, (pss_one (ps_ret (pe_cmpR (op_eqD hr.units) (pe_call (ok_words_of T) (hr.mono (by decide)) rfl T.g_words_of T.F_words_of.kp T.b_words_of .nil pass0 (pa_cons (pv 0) pa_nil)) (pe_lst (pa_cons (pv 0) pa_nil)) (nomark _)))), ?_⟩
    refine s_ret (v := .bl (decide (Txt.words z = [z]))) (ev_opLL (xs := (Txt.words z).map V.str) (ys := [z].map V.str) (el_call (ea_cons (ev_var rfl) ea_nil) fun H1 e1 Q q E => ⟨z, rfl, by omega, q⟩) (el_lst (ea_cons (ev_var rfl) ea_nil) (Nat.le_of_ble_eq_true rfl)) fun p q H1 hp hq e1 => rv_eqS (sq_of hp) (sq_of hq) ?_ ?_) fun H2 e2 => k H2 e2
    · exact fun y hy c hc => (Ts.lt (.inr (.inr (((words_ok hz).2.2 y hy).2 c hc))))
    · intro y hy c hc
      rw [List.mem_singleton.mp hy] at hc
      exact (hz c hc).lt
/-! ### _law_texts, of equal lists -/
def sp_texts (K : PySem.W.Frag) : Sp := fun vs H Q _ => ∃ (p q : Addr) (l : List Str), vs = [.ref p, .ref q] ∧ SqL K H p (l.map V.str) ∧ SqL K H q (l.map V.str) ∧ l.length ≤ 60000 ∧ RetV (.bl true) H Q
theorem ok_l_texts (T : Txt K mg A) : FnOk P w K mg base CX0 1 A.f_l_texts A.d_l_texts ["_law_found", "_law_due"] (sp_texts K) := by
  refine T.F_l_texts.ok sc_l_texts (fun vs H Q E h => ?_) (fun cdv Ar outer s H vs Q E hr h => ?_)
  · obtain ⟨p, q, l, rfl, _⟩ := h
    rfl
  · obtain ⟨p, q, l, rfl, hp, hq, hlen, k⟩ := h
    refine ⟨_, (pss_cons (ps_if (PW.pt (pw_or (pt_not (pt_val (pe_callB call_isi (by rfl) T.m_isinstance (by decide +kernel) (pa_cons (pv 0) (pa_cons (pe_bltn (v := .ty "list") (by rfl) T.m_list (by decide +kernel) rfl) pa_nil))))) (pw_or1 (pt_cmpR op_ne (pe_callB call_len_seq (by rfl) T.m_len PySem.boot_len (pa_cons (pv 0) pa_nil)) (pe_callB call_len_seq (by rfl) T.m_len PySem.boot_len (pa_cons (pv 1) pa_nil)) (nomark _)))))
  (pss_one (ps_ret pe_bl))
  pss_nil)
  (pss_cons (ps_for PassesOwn.never rfl (pi_range1 (by rfl) T.m_range (pa_cons (pe_callB call_len_seq (by rfl) T.m_len PySem.boot_len (pa_cons (pv 1) pa_nil)) pa_nil)) (pg_name (i := 2) sc_l_texts.nd rfl (.inl rfl))
  (pss_one (ps_if (PW.pt (pw_or (pt_not (pt_val (pe_callB call_isi (by rfl) T.m_isinstance (by decide +kernel) (pa_cons (pe_ix ix_list (pv 0) (pv 2) (fun _ _ => rfl)) (pa_cons (pe_bltn (v := .ty "str") (by rfl) T.m_str (by decide +kernel) rfl) pa_nil))))) (pw_or1 (pt_cmpR op_ne (pe_ix ix_list (pv 0) (pv 2) (fun _ _ => rfl)) (pe_ix ix_list (pv 1) (pv 2) (fun _ _ => rfl)) (nomark _)))))
  (pss_one (ps_ret pe_bl))
  pss_nil)))
  (pss_one (ps_ret pe_bl)))), ?_⟩
    refine q_when (b := false) (et_is (et_or (et_not (et_B (ev_cb (ea_cons (ev_var rfl) (ea_cons ev_c ea_nil)) (rc_isList hp)))) fun _ => et_test (ev_op (ev_cb (ea_cons (ev_var rfl) ea_nil) (rc_lenL hp)) (ev_cb (ea_cons (ev_var rfl) ea_nil) (rc_lenL hq)) (rv_ne rfl))) (by simp)) (fun hb => nomatch hb) (fun _ H1 e1 => ?_)
    have hl : (l.map V.str).length = l.length := List.length_map ..
    refine q_forR1 (n := (l.map V.str).length) (ea_cons (ev_cb (ea_cons (ev_var rfl) ea_nil) (rc_lenL (ex_l e1 hq))) ea_nil) (by omega) (fun i σ' H' => ∃ x, σ' = [some (.ref p), some (.ref q), x] ∧ Ex H H')
      (fun H2 e2 => ⟨none, rfl, e1.trans e2⟩) ?_ ?_
    · rintro i σ' H' hi ⟨x, rfl, e⟩
      have hi' : i < l.length := by omega
      have g : (l.map V.str)[i]? = some (.str l[i]) := by
        rw [List.getElem?_map, List.getElem?_eq_getElem hi'] <;> rfl
      have e1 : Ev (tOp (rIxL K) (tVar 0) (tVar 2)) [some (.ref p), some (.ref q), some (.int (i : Int))] H' (.str l[i]) := ev_op (ev_var rfl) (ev_var rfl) (rv_ixL (ex_l e hp) (atI_nat g))
      have e2 : Ev (tOp (rIxL K) (tVar 1) (tVar 2)) [some (.ref p), some (.ref q), some (.int (i : Int))] H' (.str l[i]) := ev_op (ev_var rfl) (ev_var rfl) (rv_ixL (ex_l e hq) (atI_nat g))
      refine s_when (b := false) (et_is (et_or (et_not (et_B (ev_cb (ea_cons e1 (ea_cons ev_c ea_nil)) rc_isStr))) fun _ => et_test (ev_op e1 e2 (rv_ne rfl))) (by simp)) (fun hb => nomatch hb) (fun _ H2 e2 => ?_)
      exact ⟨_, rfl, e.trans e2⟩
    · rintro σ' H' ⟨x, rfl, e⟩
      exact s_ret (v := .bl true) ev_c fun H2 e2 => k H2 (e.trans e2)
/-! ### the law -/
def sp_law (K : PySem.W.Frag) : Sp := fun vs H Q _ => ∃ (a : Addr) (ns : List Int), vs = [.ref a] ∧ SqL K H a (ns.map V.int) ∧ ns.length ≤ 63 ∧ ∀ H', Q (.bl true) H'
theorem ok_law (T : Txt K mg A) : FnOk P w K mg base CX0 3 A.f_law A.d_law ["_law_script"] (sp_law K) := by
  refine T.F_law.ok sc_law (fun vs H Q E h => ?_) (fun cdv Ar outer s H vs Q E hr h => ?_)
  · obtain ⟨a, ns, rfl, _⟩ := h
    rfl
  · obtain ⟨a, ns, rfl, hS, hlen, k⟩ := h
    refine ⟨_, (pss_cons (ps_set (i := 1) sc_law.nd rfl (.inl rfl) (pe_call (ok_l_text_by T) (hr.mono (by decide)) rfl T.g_l_text_by T.F_l_text_by.kp T.b_l_text_by .nil pass0 (pa_cons (pe_slice sl_list (pv 0) (po_some pe_int) po_none) pa_nil)))
  (pss_cons (ps_if (pt_cmpR op_eq (pe_op op_mod (pe_call (ok_l_cell_at T) (hr.mono (by decide)) rfl T.g_l_cell_at T.F_l_cell_at.kp T.b_l_cell_at .nil pass0 (pa_cons (pv 0) (pa_cons pe_int pa_nil))) pe_int) pe_int (nomark _))
  (pss_one (ps_set (i := 1) sc_law.nd rfl (.inl rfl) (pe_op op_mulS (pv 1) pe_int)))
  pss_nil)
  (pss_cons (ps_if (pt_cmpR op_eq (pe_op op_mod (pe_call (ok_l_cell_at T) (hr.mono (by decide)) rfl T.g_l_cell_at T.F_l_cell_at.kp T.b_l_cell_at .nil pass0 (pa_cons (pv 0) (pa_cons pe_int pa_nil))) pe_int) pe_int (nomark _))
  (pss_one (ps_set (i := 1) sc_law.nd rfl (.inl rfl) (pe_join pe_str (pe_slice sl_list (pe_call (ok_l_cut T) (hr.mono (by decide)) rfl T.g_l_cut T.F_l_cut.kp T.b_l_cut .nil pass0 (pa_cons (pv 1) pa_nil)) po_none (po_some pe_int)))))
  pss_nil)
  (pss_cons (ps_if (pt_not (pt_val (pe_call (ok_l_texts T) (hr.mono (by decide)) rfl T.g_l_texts T.F_l_texts.kp T.b_l_texts .nil pass0 (pa_cons (pe_call (ok_words_of T) (hr.mono (by decide)) rfl T.g_words_of T.F_words_of.kp T.b_words_of .nil pass0 (pa_cons (pv 1) pa_nil)) (pa_cons (pe_call (ok_l_cut T) (hr.mono (by decide)) rfl T.g_l_cut T.F_l_cut.kp T.b_l_cut .nil pass0 (pa_cons (pv 1) pa_nil)) pa_nil)))))
  (pss_one (ps_ret pe_bl))
  pss_nil)
  (pss_cons (ps_set (i := 2) sc_law.nd rfl (.inl rfl) (pe_call (ok_is_word T) (hr.mono (by decide)) rfl T.g_is_word T.F_is_word.kp T.b_is_word .nil pass0 (pa_cons (pv 1) pa_nil)))
  (pss_cons (ps_if (pt_cmpR (op_eqD hr.units) (pe_call (ok_l_cut T) (hr.mono (by decide)) rfl T.g_l_cut T.F_l_cut.kp T.b_l_cut .nil pass0 (pa_cons (pv 1) pa_nil)) (pe_lst (pa_cons (pv 1) pa_nil)) (nomark _))
  (pss_one (ps_ret (pe_cmpR op_isBl (pv 2) pe_bl (nomark _))))
  pss_nil)
  (pss_one (ps_ret (pe_cmpR op_isBl (pv 2) pe_bl (nomark _)))))))))), ?_⟩
    refine (show EvL (tSl (rSlL K) (tVar 0) (tPart (tC (.int 1))) tNoPart) _ H (cutV (ns.map V.int) (some 1) none) from el_sl (ev_var rfl) (eo_some ev_c) eo_none hS) H (Ex.refl H) _ fun p H1 hp e1 h1 => ?_
    have hc : ∃ ms : List Int, cutV (ns.map V.int) (some 1) none = ms.map V.int ∧ ms.length ≤ ns.length := by
      unfold cutV
      rw [← List.map_drop, ← List.map_take]
      exact ⟨_, rfl, by rw [List.length_take, List.length_drop]; omega⟩
    obtain ⟨ms, hms, hml⟩ := hc
    rw [hms] at h1
    refine ⟨p, ms, rfl, sq_of h1, by omega, fun z hz hzl H2 e2 => ?_⟩
    have c0 : ∀ {σ : L2.St} {H' : Hp}, Ex H H' → σ[0]? = some (some (.ref a)) → Ev (tCall (sp_cell_at K) [] E0 (tCons (tVar 0) (tCons (tC (.int 0)) tNil))) σ H' (.int (ns.getD 0 0)) := fun e h => ev_call (ea_cons (ev_var h) (ea_cons ev_c ea_nil)) fun H3 e3 Q' q E' => ⟨a, ns, 0, rfl, ex_l (e.trans e3) hS, q⟩
    refine q_ifAsg (i := 1) (b := decide (V.int (ns.getD 0 0 % 4) = V.int 1)) (v := .str (if V.int (ns.getD 0 0 % 4) = V.int 1 then Txt.mul z 5 else z)) (et_test (ev_op (ev_op (c0 (e1.trans e2) rfl) ev_c (rv_I (by decide))) ev_c (rv_eq rfl))) (fun hb => ?_) (fun hb => ?_) fun H3 e3 => ?_
    · rw [if_pos (of_decide_eq_true hb)]
      exact ev_op (ev_var rfl) ev_c (rv_mulS (L := 63) (N := 5) (by omega) (by decide) (by decide) (by decide) (by decide))
    · rw [if_neg (of_decide_eq_false hb)]
      rfl
    obtain ⟨y, hy, hyt, hyl⟩ : ∃ y, (if V.int (ns.getD 0 0 % 4) = V.int 1 then Txt.mul z 5 else z) = y ∧ Txs y ∧ y.length ≤ 400 := by
      refine ⟨_, rfl, ?_, ?_⟩
      · split
        · exact mul_txs hz 5
        · exact hz
      · split
        · have := len_mul_leN (x := z) (n := 5) (L := 63) (N := 5) (by omega) (by decide)
          omega
        · omega
    rw [hy]
    have H3e := (e1.trans e2).trans e3
    have hsumtake : ∀ l : List Str, ((l.take 1).map (·.length)).sum ≤ (l.map (·.length)).sum := fun l => by
      cases l with
      | nil => exact Nat.le_refl _
      | cons x r =>
        rw [List.take_succ_cons, List.take_zero, List.map_cons, List.map_cons, List.sum_cons, List.sum_cons]
        exact Nat.add_le_add_left (Nat.zero_le _) _
    have hcut : cutV ((Txt.words y).map V.str) none (some 1) = ((Txt.words y).take 1).map V.str := by
      unfold cutV
      rw [HT.sIx_none, show HT.sIx ((Txt.words y).map V.str).length ((Txt.words y).map V.str).length (some 1) = min 1 ((Txt.words y).map V.str).length from HT.sIx_nat _ _ 1]
      rw [List.drop_zero, Nat.sub_zero, ← List.map_take, List.length_map]
      cases Txt.words y with
      | nil => rfl
      | cons x r => rfl
    have hwk := words_ok hyt
    refine q_ifAsg (i := 1) (b := decide (V.int (ns.getD 0 0 % 4) = V.int 2)) (v := .str (if V.int (ns.getD 0 0 % 4) = V.int 2 then Txt.join Str.empty ((Txt.words y).take 1) else y)) (et_test (ev_op (ev_op (c0 H3e rfl) ev_c (rv_I (by decide))) ev_c (rv_eq rfl))) (fun hb => ?_) (fun hb => ?_) fun H4 e4 => ?_
    · rw [if_pos (of_decide_eq_true hb)]
      refine ev_joinL ev_none ?_ ?_
      · rw [← hcut]
        exact el_slN (el_call (ea_cons (ev_var rfl) ea_nil) fun H4 e4 Q' q E' => ⟨y, rfl, hyt, by omega, q⟩) eo_none (eo_some ev_c)
      · have h1 := hsumtake (Txt.words y)
        have h2 := hwk.2.1
        have h3 : Str.empty.length = 0 := rfl
        rw [h3, Nat.mul_zero]
        omega
    · rw [if_neg (of_decide_eq_false hb)]
      rfl
    obtain ⟨x, hx, hxt, hxl⟩ : ∃ x, (if V.int (ns.getD 0 0 % 4) = V.int 2 then Txt.join Str.empty ((Txt.words y).take 1) else y) = x ∧ Txs x ∧ x.length ≤ 400 := by
      refine ⟨_, rfl, ?_, ?_⟩
      · split
        · have h4 := hwk.2.2
          revert h4
          cases Txt.words y with
          | nil =>
            intro _ c hc
            rw [TL.join_eq] at hc
            exact absurd hc (List.not_mem_nil)
          | cons u r =>
            intro h4 c hc
            rw [TL.join_eq] at hc
            exact .inr (.inr ((h4 u (List.mem_cons_self ..)).2 c hc))
        · exact hyt
      · split
        · have h4 := hwk.2.1
          revert h4
          rw [TL.join_eq]
          cases Txt.words y with
          | nil => intro _; exact Nat.zero_le _
          | cons u r =>
            intro h4
            rw [List.map_cons, List.sum_cons] at h4
            show u.length ≤ 400
            omega
        · exact hyl
    rw [hx]
    have H4e := H3e.trans e4
    have wlt : ∀ u ∈ Txt.words x, ∀ c ∈ TL.tl u, c < 1114112 := fun u hu c hc => Ts.lt (.inr (.inr (((words_ok hxt).2.2 u hu).2 c hc)))
    refine q_when (b := false) (et_is (a := !true) (et_not (et_B (ev_callA (ap_consL (xs := (Txt.words x).map V.str) (el_call (ea_cons (ev_var rfl) ea_nil) fun H5 e5 Q' q E' => ⟨x, rfl, by omega, q⟩) (ap_consL (xs := (Txt.words x).map V.str) (el_call (ea_cons (ev_var rfl) ea_nil) fun H5 e5 Q' q E' => ⟨x, rfl, hxt, by omega, q⟩) ap_nil fun _ _ _ => trivial) fun _ _ _ => trivial) ?_))) rfl) (fun hb => nomatch hb) (fun _ H5 e5 => ?_)
    · rintro vs H5 e5 ⟨p1, r, rfl, h5, p2, r2, rfl, h6, rfl⟩ Q' q
      exact ⟨p1, p2, Txt.words x, rfl, sq_of h5, sq_of h6, by have := (words_ok hxt).1; omega, q⟩
    refine q_asg (v := .bl (decide (Txt.words x = [x]))) (ev_call (ea_cons (ev_var rfl) ea_nil) fun H6 e6 Q' q E' => ⟨x, rfl, hxt, by omega, q⟩) fun H6 e6 => ?_
    refine q_when (b := decide (Txt.words x = [x])) (et_test (ev_opLL (xs := (Txt.words x).map V.str) (ys := [x].map V.str) (el_call (ea_cons (ev_var rfl) ea_nil) fun H7 e7 Q' q E' => ⟨x, rfl, hxt, by omega, q⟩) (el_lst (ea_cons (ev_var rfl) ea_nil) (Nat.le_of_ble_eq_true rfl)) fun p q H1 hp hq e1 => rv_eqS (sq_of hp) (sq_of hq) wlt ?_)) (fun hb H7 e7 => ?_) (fun hb H7 e7 => ?_)
    · intro u hu c hc
      rw [List.mem_singleton.mp hu] at hc
      exact (hxt c hc).lt
    · rw [hb]
      exact s_ret (v := .bl true) (ev_is (ev_op (ev_var rfl) ev_c rv_isB) rfl) fun H8 e8 => k H8
    · rw [hb]
      exact s_ret (v := .bl true) (ev_is (ev_op (ev_var rfl) ev_c rv_isB) rfl) fun H8 e8 => k H8
end
theorem all_mk {l : PySem.W.OpenLaw} {w : World} {K : PySem.W.Frag} {h : Heap} {mg : Str → Option Value} {fa : Addr} (X : K.In h) (G : h.Ns mainGlobals mg) (hfa : mg "law" = some (.ref fa))
    {f0 : Addr} {od0 an0 : Option Addr} {sl0 : Array (Option Value)} {oc0 kV0 dc0 pm0 cd0 ct0 : Value}
    (a0 : PySem.W.nsIn K mainGlobals "words_of" = some (some (.ref f0))) (l0 : K.lookup f0 = some ⟨oc0, od0, .func (PySem.W.fnOf "words_of" "words_of" (defArgs s_words_of) (defBody s_words_of) (defScope s_words_of) .none kV0 dc0 pm0 an0 cd0 ct0), sl0⟩) (c0 : PySem.W.codeIn K cd0 "words_of" = true) (k0 : PySem.W.keepIn K (.ref f0) = true)
    {f1 : Addr} {od1 an1 : Option Addr} {sl1 : Array (Option Value)} {oc1 kV1 dc1 pm1 cd1 ct1 : Value}
    (a1 : PySem.W.nsIn K mainGlobals "is_word" = some (some (.ref f1))) (l1 : K.lookup f1 = some ⟨oc1, od1, .func (PySem.W.fnOf "is_word" "is_word" (defArgs s_is_word) (defBody s_is_word) (defScope s_is_word) .none kV1 dc1 pm1 an1 cd1 ct1), sl1⟩) (c1 : PySem.W.codeIn K cd1 "is_word" = true) (k1 : PySem.W.keepIn K (.ref f1) = true)
    {f2 : Addr} {od2 an2 : Option Addr} {sl2 : Array (Option Value)} {oc2 kV2 dc2 pm2 cd2 ct2 : Value}
    (a2 : PySem.W.nsIn K mainGlobals "_law_cell_at" = some (some (.ref f2))) (l2 : K.lookup f2 = some ⟨oc2, od2, .func (PySem.W.fnOf "_law_cell_at" "_law_cell_at" (defArgs s_l_cell_at) (defBody s_l_cell_at) (defScope s_l_cell_at) .none kV2 dc2 pm2 an2 cd2 ct2), sl2⟩) (c2 : PySem.W.codeIn K cd2 "_law_cell_at" = true) (k2 : PySem.W.keepIn K (.ref f2) = true)
    {f3 : Addr} {od3 an3 : Option Addr} {sl3 : Array (Option Value)} {oc3 kV3 dc3 pm3 cd3 ct3 : Value}
    (a3 : PySem.W.nsIn K mainGlobals "_law_sign_by" = some (some (.ref f3))) (l3 : K.lookup f3 = some ⟨oc3, od3, .func (PySem.W.fnOf "_law_sign_by" "_law_sign_by" (defArgs s_l_sign_by) (defBody s_l_sign_by) (defScope s_l_sign_by) .none kV3 dc3 pm3 an3 cd3 ct3), sl3⟩) (c3 : PySem.W.codeIn K cd3 "_law_sign_by" = true) (k3 : PySem.W.keepIn K (.ref f3) = true)
    {f4 : Addr} {od4 an4 : Option Addr} {sl4 : Array (Option Value)} {oc4 kV4 dc4 pm4 cd4 ct4 : Value}
    (a4 : PySem.W.nsIn K mainGlobals "_law_texts" = some (some (.ref f4))) (l4 : K.lookup f4 = some ⟨oc4, od4, .func (PySem.W.fnOf "_law_texts" "_law_texts" (defArgs s_l_texts) (defBody s_l_texts) (defScope s_l_texts) .none kV4 dc4 pm4 an4 cd4 ct4), sl4⟩) (c4 : PySem.W.codeIn K cd4 "_law_texts" = true) (k4 : PySem.W.keepIn K (.ref f4) = true)
    {f5 : Addr} {od5 an5 : Option Addr} {sl5 : Array (Option Value)} {oc5 kV5 dc5 pm5 cd5 ct5 : Value}
    (a5 : PySem.W.nsIn K mainGlobals "_law_text_by" = some (some (.ref f5))) (l5 : K.lookup f5 = some ⟨oc5, od5, .func (PySem.W.fnOf "_law_text_by" "_law_text_by" (defArgs s_l_text_by) (defBody s_l_text_by) (defScope s_l_text_by) .none kV5 dc5 pm5 an5 cd5 ct5), sl5⟩) (c5 : PySem.W.codeIn K cd5 "_law_text_by" = true) (k5 : PySem.W.keepIn K (.ref f5) = true)
    {f6 : Addr} {od6 an6 : Option Addr} {sl6 : Array (Option Value)} {oc6 kV6 dc6 pm6 cd6 ct6 : Value}
    (a6 : PySem.W.nsIn K mainGlobals "_law_cut" = some (some (.ref f6))) (l6 : K.lookup f6 = some ⟨oc6, od6, .func (PySem.W.fnOf "_law_cut" "_law_cut" (defArgs s_l_cut) (defBody s_l_cut) (defScope s_l_cut) .none kV6 dc6 pm6 an6 cd6 ct6), sl6⟩) (c6 : PySem.W.codeIn K cd6 "_law_cut" = true) (k6 : PySem.W.keepIn K (.ref f6) = true)
    {f7 : Addr} {od7 an7 : Option Addr} {sl7 : Array (Option Value)} {oc7 kV7 dc7 pm7 cd7 ct7 : Value}
    (a7 : PySem.W.nsIn K mainGlobals "law" = some (some (.ref f7))) (l7 : K.lookup f7 = some ⟨oc7, od7, .func (PySem.W.fnOf "law" "law" (defArgs s_law) (defBody s_law) (defScope s_law) .none kV7 dc7 pm7 an7 cd7 ct7), sl7⟩) (c7 : PySem.W.codeIn K cd7 "law" = true) (k7 : PySem.W.keepIn K (.ref f7) = true)
    (z0 : PySem.W.nsIn K mainGlobals "isinstance" = some none)
    (z1 : PySem.W.nsIn K mainGlobals "len" = some none)
    (z2 : PySem.W.nsIn K mainGlobals "list" = some none)
    (z3 : PySem.W.nsIn K mainGlobals "range" = some none)
    (z4 : PySem.W.nsIn K mainGlobals "str" = some none)
    : ∃ fd : FuncData, (∀ (s : Shared) (v : Value), BindsTo s fd ⟨[v], []⟩ [("_law_script", v)]) ∧ ∀ base : Heap, K.In base → base.Ns mainGlobals mg → FnOk l.prog w K mg base CX0 3 fa fd ["_law_script"] (sp_law K) := by
  have e := hfa.symm.trans (PySem.W.mg_of X G a7)
  cases e
  have F0 := fun_mk (st := s_words_of) l0 c0 k0
  have b0 := F0.binds (ps := ["text"]) fun _ _ _ _ _ _ us hl => match us, hl with | [_], _ => rfl
  have F1 := fun_mk (st := s_is_word) l1 c1 k1
  have b1 := F1.binds (ps := ["text"]) fun _ _ _ _ _ _ us hl => match us, hl with | [_], _ => rfl
  have F2 := fun_mk (st := s_l_cell_at) l2 c2 k2
  have b2 := F2.binds (ps := ["_law_script", "_law_k"]) fun _ _ _ _ _ _ us hl => match us, hl with | [_, _], _ => rfl
  have F3 := fun_mk (st := s_l_sign_by) l3 c3 k3
  have b3 := F3.binds (ps := ["_law_cell"]) fun _ _ _ _ _ _ us hl => match us, hl with | [_], _ => rfl
  have F4 := fun_mk (st := s_l_texts) l4 c4 k4
  have b4 := F4.binds (ps := ["_law_found", "_law_due"]) fun _ _ _ _ _ _ us hl => match us, hl with | [_, _], _ => rfl
  have F5 := fun_mk (st := s_l_text_by) l5 c5 k5
  have b5 := F5.binds (ps := ["_law_cells"]) fun _ _ _ _ _ _ us hl => match us, hl with | [_], _ => rfl
  have F6 := fun_mk (st := s_l_cut) l6 c6 k6
  have b6 := F6.binds (ps := ["_law_signs"]) fun _ _ _ _ _ _ us hl => match us, hl with | [_], _ => rfl
  have F7 := fun_mk (st := s_law) l7 c7 k7
  have b7 := F7.binds (ps := ["_law_script"]) fun _ _ _ _ _ _ us hl => match us, hl with | [_], _ => rfl
  have T : Txt K mg { f_words_of := f0, d_words_of := _, f_is_word := f1, d_is_word := _, f_l_cell_at := f2, d_l_cell_at := _, f_l_sign_by := f3, d_l_sign_by := _, f_l_texts := f4, d_l_texts := _, f_l_text_by := f5, d_l_text_by := _, f_l_cut := f6, d_l_cut := _, f_law := fa, d_law := _ } := {
    F_words_of := F0, g_words_of := PySem.W.mg_of X G a0, b_words_of := b0,
    F_is_word := F1, g_is_word := PySem.W.mg_of X G a1, b_is_word := b1,
    F_l_cell_at := F2, g_l_cell_at := PySem.W.mg_of X G a2, b_l_cell_at := b2,
    F_l_sign_by := F3, g_l_sign_by := PySem.W.mg_of X G a3, b_l_sign_by := b3,
    F_l_texts := F4, g_l_texts := PySem.W.mg_of X G a4, b_l_texts := b4,
    F_l_text_by := F5, g_l_text_by := PySem.W.mg_of X G a5, b_l_text_by := b5,
    F_l_cut := F6, g_l_cut := PySem.W.mg_of X G a6, b_l_cut := b6,
    F_law := F7, g_law := PySem.W.mg_of X G a7, b_law := b7,
    m_isinstance := PySem.W.mg_none_of X G z0,
    m_len := PySem.W.mg_none_of X G z1,
    m_list := PySem.W.mg_none_of X G z2,
    m_range := PySem.W.mg_none_of X G z3,
    m_str := PySem.W.mg_none_of X G z4 }
  exact ⟨_, fun s v => .of_eq rfl, fun base _ _ => ok_law T⟩
end Pf
open PySem PySem.W PyProof.Rows
set_option maxHeartbeats 0 in
theorem PySem.Challenge.cw_textwrapper_k01_words_cut_holds : PySem.Challenge.rw_textwrapper_k01_words_cut.Holds := by
  w_on; o_law; k_head; (case hw => w_witness2)
  k_fill
  refine L2.walk_of (l := PySem.Challenge.rw_textwrapper_k01_words_cut) (n := 63) (k := 3) (x := "_law_script") (CX := fun _ => L2.CX0) (sp := fun w => Pf.sp_law _) rfl (by decide) rfl ⟨rfl, by decide, by decide⟩ (fun w h Y => PySem.W.kIn_of Y) ?F (fun _ _ a ns hl _ hS => ⟨a, ns, rfl, hS, hl, fun _ => rfl⟩) (fun _ _ _ _ _ h => h)
  case F =>
    intro w mg fa h KX G hmg
    refine' Pf.all_mk KX G hmg ?a0 ?l0 ?c0 ?k0 ?a1 ?l1 ?c1 ?k1 ?a2 ?l2 ?c2 ?k2 ?a3 ?l3 ?c3 ?k3 ?a4 ?l4 ?c4 ?k4 ?a5 ?l5 ?c5 ?k5 ?a6 ?l6 ?c6 ?k6 ?a7 ?l7 ?c7 ?k7 ?z0 ?z1 ?z2 ?z3 ?z4
    (case a0 => k_is); (case l0 => k_is); (case c0 => k_is); (case k0 => k_is); (case a1 => k_is); (case l1 => k_is); (case c1 => k_is); (case k1 => k_is)
    (case a2 => k_is); (case l2 => k_is); (case c2 => k_is); (case k2 => k_is); (case a3 => k_is); (case l3 => k_is); (case c3 => k_is); (case k3 => k_is)
    (case a4 => k_is); (case l4 => k_is); (case c4 => k_is); (case k4 => k_is); (case a5 => k_is); (case l5 => k_is); (case c5 => k_is); (case k5 => k_is)
    (case a6 => k_is); (case l6 => k_is); (case c6 => k_is); (case k6 => k_is); (case a7 => k_is); (case l7 => k_is); (case c7 => k_is); (case k7 => k_is)
    (case z0 => k_is); (case z1 => k_is); (case z2 => k_is); (case z3 => k_is); (case z4 => k_is)
