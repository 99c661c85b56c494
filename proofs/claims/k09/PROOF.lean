import PyProof.Rows.All
import Wide.All
import OpenK.AllK
import Wide.FinOn
import HandS.ForMost
import HandS.Codes
import HandS.Evl
import HandS.IsInst
import KE.DataEq
import PySem.Challenge.RW_foldkeep_k09_marks_of_texts
set_option Elab.async false
set_option linter.all false
set_option maxRecDepth 100000
set_option maxHeartbeats 4000000
/-! what the laws' helpers share: values, texts, cells -/
namespace Lw
open PySem PySem.Spec PyProof.Rows L2 Evl

/-! ### small readings -/
section
variable {K : PySem.W.Frag} {σ : L2.St} {H H' : Hp} {ta tb te tx : TE} {t u : TT} {x y z v : V}
theorem rc_int {i : Int} : RC (fun xs H Q => (∃ i, xs = [V.int i] ∧ Q (V.int i) H) ∨ ∃ k, xs = [V.bl k] ∧ Q (V.int (if k = true then 1 else 0)) H) [.int i] H (.int i) :=
  fun H1 _ _ q => Or.inl ⟨i, rfl, q H1 (Ex.refl H1)⟩
theorem rc_lenStr {a : Str} (h : a.length ≤ 100000) : RC (fun xs H Q => ∃ z : Str, xs = [V.str z] ∧ z.length ≤ sizeLine ∧ Q (V.int z.length) H) [.str a] H (.int a.length) :=
  fun H1 _ _ q => ⟨a, rfl, sz_of h, q H1 (Ex.refl H1)⟩
theorem rc_ord {a : Str} (h : a.length = 1) : RC (fun xs H Q => ∃ x : Str, xs = [V.str x] ∧ x.length = 1 ∧ Q (V.int (x.cps.getD 0 0 : Nat)) H) [.str a] H (.int (a.cps.getD 0 0 : Nat)) :=
  fun H1 _ _ q => ⟨a, rfl, h, q H1 (Ex.refl H1)⟩
theorem rv_addS {a b : Str} (h : a.length + b.length ≤ 100000) : RV (fun x y H Q => ∃ i j, x = .str i ∧ y = .str j ∧ i.length + j.length ≤ sizeLine ∧ Q (.str (i ++ j)) H) (.str a) (.str b) H (.str (a ++ b)) :=
  fun H1 _ _ q => ⟨a, b, rfl, rfl, sz_of h, q H1 (Ex.refl H1)⟩
theorem rv_inSign {c : Nat} {a z : Str} (e : a = ⟨#[c]⟩) : RV (fun x y H Q => ∃ (c : Nat) (z : Str), x = .str ⟨#[c]⟩ ∧ y = .str z ∧ Q (.bl (decide (c ∈ z.cps.toList))) H) (.str a) (.str z) H (.bl (decide (c ∈ z.cps.toList))) :=
  fun H1 _ _ q => ⟨c, z, by rw [e], rfl, q H1 (Ex.refl H1)⟩
/-- a text times a small number -/
def rMulStr : R2 := fun x y H Q => ∃ (a : Str) (n : Int), x = .str a ∧ y = .int n ∧ 1 ≤ n ∧ n ≤ 20000 ∧ a.length ≤ 200 ∧ Q (.str (Txt.mul a n)) H
theorem op_mul_str {X : Cx} : OpR X (binaryOp .Mult) rMulStr := by
  intro pins s σ H x y v u Q I rx ry h
  obtain ⟨a, n, rfl, rfl, h1, h2, h3, q⟩ := h
  obtain ⟨t, rfl⟩ := rx
  obtain ⟨t', rfl⟩ := ry
  refine SB.mul (n := n) ⟨?_, fun _ _ => ?_, fun _ _ => ?_⟩ fun t' k => ⟨.str (Txt.mul a n), H, I.tok _, ⟨_, rfl⟩, q⟩
  · rw [decide_eq_false (by omega), decide_eq_false (by omega)]
    rfl
  · have : (2 ^ 63 - 1) / n ≥ 200 := by
      refine (Int.le_ediv_iff_mul_le (by omega)).mpr ?_
      omega
    omega
  · have e : a.length * n.toNat ≤ 200 * 20000 := Nat.mul_le_mul h3 (by omega)
    exact decide_eq_false (by show ¬ a.length * n.toNat > 2 ^ 24; omega)
theorem rv_mulStr {a : Str} {n : Int} (h1 : 1 ≤ n) (h2 : n ≤ 20000) (h3 : a.length ≤ 200) : RV rMulStr (.str a) (.int n) H (.str (Txt.mul a n)) :=
  fun H1 _ _ q => ⟨a, n, rfl, rfl, h1, h2, h3, q H1 (Ex.refl H1)⟩
theorem rc_max2 {i j : Int} : RC (fun xs H Q => ∃ i j : Int, xs = [V.int i, V.int j] ∧ Q (V.int (if j > i then j else i)) H) [.int i, .int j] H (.int (if j > i then j else i)) :=
  fun H1 _ _ q => ⟨i, j, rfl, q H1 (Ex.refl H1)⟩
theorem rc_min2 {i j : Int} : RC (fun xs H Q => ∃ i j : Int, xs = [V.int i, V.int j] ∧ Q (V.int (if j < i then j else i)) H) [.int i, .int j] H (.int (if j < i then j else i)) :=
  fun H1 _ _ q => ⟨i, j, rfl, q H1 (Ex.refl H1)⟩
theorem et_yes : EvT tYes σ H true := fun H1 _ _ q => q H1 (Ex.refl H1)
/-- a slice of a text -/
theorem ev_cutS {tl th : TO} {z : Str} {lo hi : Option Int} (h : Ev te σ H (.str z)) (h1 : EvO tl σ H lo) (h2 : EvO th σ H hi) (hz : z.length ≤ 100000) : Ev (tSl rSlS te tl th) σ H (.str (cutS z lo hi)) := fun H1 e Q q =>
  h H1 e _ fun H2 e2 => h1 H2 (e.trans e2) _ fun H3 e3 => h2 H3 ((e.trans e2).trans e3) _ fun H4 e4 => ⟨z, rfl, sz_of hz, q H4 ((e2.trans e3).trans e4)⟩
/-- sep.join(a new list of texts) -/
theorem ev_joinL {a : Str} {ys : List Str} (ho : Ev ta σ H (.str a)) (h : EvL te σ H (ys.map V.str)) (hz : (ys.map (·.length)).sum + ys.length * a.length ≤ 16777216) :
    Ev (tM1 (fun x xs H Q => ∃ a p, ∃ ys : List Str, x = .str a ∧ xs = [.ref p] ∧ (SqL K H p (ys.map V.str) ∨ SqT K H p (ys.map V.str)) ∧ (ys.map (·.length)).sum + ys.length * a.length ≤ 16777216 ∧ Q (.str (Txt.join a ys)) H) ta te) σ H (.str (Txt.join a ys)) := fun H1 e Q q =>
  ho H1 e _ fun H2 e2 => ⟨⟨a, rfl⟩, h H2 (e.trans e2) _ fun p H3 _ e3 h3 => ⟨a, p, ys, rfl, rfl, .inl (sq_of h3), hz, q H3 (e2.trans e3)⟩⟩
/-- sep.join(a list of texts that stands) -/
theorem ev_joinS {a : Str} {p : Addr} {ys : List Str} (ho : Ev ta σ H (.str a)) (h : Ev te σ H (.ref p)) (hp : SqL K H p (ys.map V.str) ∨ SqT K H p (ys.map V.str)) (hz : (ys.map (·.length)).sum + ys.length * a.length ≤ 16777216) :
    Ev (tM1 (fun x xs H Q => ∃ a p, ∃ ys : List Str, x = .str a ∧ xs = [.ref p] ∧ (SqL K H p (ys.map V.str) ∨ SqT K H p (ys.map V.str)) ∧ (ys.map (·.length)).sum + ys.length * a.length ≤ 16777216 ∧ Q (.str (Txt.join a ys)) H) ta te) σ H (.str (Txt.join a ys)) := fun H1 e Q q =>
  ho H1 e _ fun H2 e2 => ⟨⟨a, rfl⟩, h H2 (e.trans e2) _ fun H3 e3 => ⟨a, p, ys, rfl, rfl, hp.elim (fun h => .inl (ex_l ((e.trans e2).trans e3) h)) (fun h => .inr (ex_t ((e.trans e2).trans e3) h)), hz, q H3 (e2.trans e3)⟩⟩
/-- the second operand told once the first is there -/
theorem ev_opV2 {r : R2} (ha : Ev ta σ H x) (hb : ∀ H1, Ex H H1 → Ev tb σ H1 y) (hr : RV r x y H z) : Ev (tOp r ta tb) σ H z := fun H1 e Q q =>
  ha H1 e _ fun H2 e2 => hb H2 (e.trans e2) H2 (Ex.refl H2) _ fun H3 e3 => hr H3 ((e.trans e2).trans e3) Q fun H4 e4 => q H4 ((e2.trans e3).trans e4)
theorem ev_chain {r r' : R2} {tc : TE} {a b : Bool} (ha : Ev ta σ H x) (hb : Ev tb σ H y) (hr : RV r x y H (.bl a)) (hc : a = true → Ev tc σ H z) (hr' : a = true → RV r' y z H (.bl b)) : Ev (tChain r r' ta tb tc) σ H (.bl (a && b)) := fun H1 e Q q =>
  ha H1 e _ fun H2 e2 => hb H2 (e.trans e2) _ fun H3 e3 => hr H3 ((e.trans e2).trans e3) _ fun H4 e4 => ⟨a, rfl, by
    cases a with
    | true =>
      show tc σ H4 _
      exact hc rfl H4 (((e.trans e2).trans e3).trans e4) _ fun H5 e5 => hr' rfl H5 ((((e.trans e2).trans e3).trans e4).trans e5) Q fun H6 e6 => q H6 ((((e2.trans e3).trans e4).trans e5).trans e6)
    | false =>
      show Q (.bl false) H4
      exact q H4 ((e2.trans e3).trans e4)⟩
/-- some value of which R holds -/
def EvP (te : TE) (σ : L2.St) (H : Hp) (R : V → Prop) : Prop := ∀ H1, Ex H H1 → ∀ Q : VK, (∀ v H2, R v → Ex H1 H2 → Q v H2) → te σ H1 Q
def SpP (sp : Sp) (vs : List V) (H : Hp) (R : V → Prop) : Prop := ∀ H1, Ex H H1 → ∀ Q : VK, (∀ v H2, R v → Ex H1 H2 → Q v H2) → ∀ E : XK, sp vs H1 Q E
theorem s_asgP {R : V → Prop} {D : Ends} {i : Nat} (h : EvP te σ H R) (k : ∀ v H1, R v → Ex H H1 → D.nx (σ.set i (some v)) H1) : tAsg te (gName i) D σ H := h H (Ex.refl H) _ fun v H1 r e => k v H1 r e
theorem q_asgP {R : V → Prop} {D : Ends} {tz : TS} {i : Nat} (h : EvP te σ H R) (k : ∀ v H1, R v → Ex H H1 → tz D (σ.set i (some v)) H1) : tSeq (tAsg te (gName i)) tz D σ H := s_asgP (D := { D with nx := tz D }) h k
theorem ep_call {R : V → Prop} {sp : Sp} {dvs vs : List V} {E : XK} {ta : TA} (h : EvA ta σ H vs) (hs : SpP sp (vs ++ dvs) H R) : EvP (tCall sp dvs E ta) σ H R := fun H1 e Q q =>
  h H1 e _ fun H2 e2 => hs H2 (e.trans e2) Q (fun v H3 r e3 => q v H3 r (e2.trans e3)) E
/-- of one argument, a new list -/
theorem ep_callL {R : V → Prop} {sp : Sp} {dvs xs : List V} {E : XK} (h : EvL te σ H xs) (hs : ∀ p H1, Ex H H1 → H1 p = some (.lst xs) → SpP sp (.ref p :: dvs) H1 R) : EvP (tCall sp dvs E (tCons te tNil)) σ H R := fun H1 e Q q =>
  h H1 e _ fun p H2 _ e2 h2 => hs p H2 (e.trans e2) h2 H2 (Ex.refl H2) Q (fun v H3 r e3 => q v H3 r (e2.trans e3)) E
theorem at_int {ns : List Int} {i : Int} (h0 : 0 ≤ i) (h : i < (ns.length : Int)) : atI (ns.map V.int) i = some (.int (ns.getD i.toNat 0)) := by
  obtain ⟨j, rfl⟩ := Int.eq_ofNat_of_zero_le h0
  refine atI_nat ?_
  have hj : j < ns.length := by omega
  rw [List.getElem?_map, List.getElem?_eq_getElem hj, Int.toNat_natCast, List.getD_eq_getElem?_getD, List.getElem?_eq_getElem hj]
  rfl
end

/-! ### loops over texts -/
section
variable {σ : L2.St} {H H' : Hp} {te : TE} {D : Ends} {tu tz : TS} {g : TG}
theorem for_str {x : Str} {tb : TS} (Pv : Nat → L2.St → Hp → Prop) (h0 : Pv 0 σ H)
    (hs : ∀ i c σ H, x.cps.toList[i]? = some c → Pv i σ H → g (.str ⟨#[c]⟩) σ H fun σ2 H2 => tb { D with nx := Pv (i + 1), ct := Pv (i + 1), bk := D.nx } σ2 H2) (hd : ∀ σ H, Pv x.cps.size σ H → D.nx σ H) :
    ∃ W : Nat → Nat → L2.St → Hp → Prop, (∃ m, W 0 m σ H) ∧ ∀ i m σ H, W i m σ H →
      ((Its x).stop i H ∧ D.nx σ H) ∨ ((Its x).go i H ∧ ∃ N : L2.St → Hp → Prop, (∀ σ' H', N σ' H' → ∃ m', m' < m ∧ W (i + 1) m' σ' H') ∧ ∀ y H', (Its x).yld i H y H' → g y σ H' fun σ2 H2 => tb { D with nx := N, ct := N, bk := D.nx } σ2 H2) := by
  refine ⟨fun i m σ H => m = x.cps.size - i ∧ i ≤ x.cps.size ∧ Pv i σ H, ⟨x.cps.size, by simp, Nat.zero_le _, h0⟩, ?_⟩
  rintro i m σ H ⟨rfl, hi, p⟩
  by_cases hlt : i < x.cps.size
  · refine .inr ⟨hlt, Pv (i + 1), fun σ' H' p' => ⟨x.cps.size - (i + 1), by omega, rfl, hlt, p'⟩, fun y H' q => ?_⟩
    obtain ⟨rfl, c, hc, rfl⟩ := q
    exact hs i c σ _ (by rw [Array.getElem?_toList]; exact hc) p
  · have e : i = x.cps.size := by omega
    subst e
    exact .inl ⟨Nat.le_refl _, hd σ H p⟩
theorem s_forS {x : Str} {j : Nat} (h : Ev te σ H (.str x)) (Pv : Nat → L2.St → Hp → Prop) (h0 : ∀ H1, Ex H H1 → Pv 0 σ H1)
    (hs : ∀ i c σ' H', x.cps.toList[i]? = some c → Pv i σ' H' → tu { D with nx := Pv (i + 1), ct := Pv (i + 1), bk := D.nx } (σ'.set j (some (.str ⟨#[c]⟩))) H') (hd : ∀ σ' H', Pv x.cps.size σ' H' → D.nx σ' H') : tFor (iStr te) (gName j) tu D σ H :=
  h H (Ex.refl H) _ fun H1 e => ⟨x, rfl, for_str Pv (h0 H1 e) hs hd⟩
theorem q_forS {x : Str} {j : Nat} (h : Ev te σ H (.str x)) (Pv : Nat → L2.St → Hp → Prop) (h0 : ∀ H1, Ex H H1 → Pv 0 σ H1)
    (hs : ∀ i c σ' H', x.cps.toList[i]? = some c → Pv i σ' H' → tu { D with nx := Pv (i + 1), ct := Pv (i + 1), bk := tz D } (σ'.set j (some (.str ⟨#[c]⟩))) H') (hd : ∀ σ' H', Pv x.cps.size σ' H' → tz D σ' H') : tSeq (tFor (iStr te) (gName j) tu) tz D σ H :=
  s_forS (D := { D with nx := tz D }) h Pv h0 hs hd
end
theorem at_str {xs : List Str} {i : Int} (h0 : 0 ≤ i) (h : i < (xs.length : Int)) : atI (xs.map V.str) i = some (.str (xs.getD i.toNat Str.empty)) := by
  obtain ⟨j, rfl⟩ := Int.eq_ofNat_of_zero_le h0
  refine atI_nat ?_
  have hj : j < xs.length := by omega
  rw [List.getElem?_map, List.getElem?_eq_getElem hj, Int.toNat_natCast, List.getD_eq_getElem?_getD, List.getElem?_eq_getElem hj]
  rfl
theorem memD {α : Type} {xs : List α} {d : α} {j : Nat} (h : j < xs.length) : xs.getD j d ∈ xs := by
  rw [List.getD_eq_getElem?_getD, List.getElem?_eq_getElem h]
  exact List.getElem_mem h
theorem dec_str1 {c d : Nat} {a : Str} (e : a = ⟨#[d]⟩) : decide (V.str ⟨#[c]⟩ = V.str a) = decide (c = d) := by
  rw [e, Bool.eq_iff_iff, decide_eq_true_iff, decide_eq_true_iff]
  constructor
  · intro h
    have h1 : (⟨#[c]⟩ : Str) = ⟨#[d]⟩ := V.str.inj h
    have h2 : (#[c] : Array Nat) = #[d] := congrArg Str.cps h1
    have h3 : ([c] : List Nat) = [d] := congrArg Array.toList h2
    exact (List.cons.inj h3).1
  · intro h
    rw [h]
theorem all_take_succ {p : Nat → Bool} {xs : List Nat} {i c : Nat} (h : xs[i]? = some c) : (xs.take (i + 1)).all p = ((xs.take i).all p && p c) := by
  rw [List.take_add_one, h, List.all_append]
  simp

/-- a new tuple is handed back -/
def RetU (xs : List V) (H : Hp) (Q : VK) : Prop := ∀ p H2, H p = none → Ex H H2 → H2 p = some (.tup xs) → Q (.ref p) H2
def SpU (sp : Sp) (vs : List V) (H : Hp) (xs : List V) : Prop := ∀ H1, Ex H H1 → ∀ Q : VK, (∀ p H2, H1 p = none → Ex H1 H2 → H2 p = some (.tup xs) → Q (.ref p) H2) → ∀ E : XK, sp vs H1 Q E
section
variable {K : PySem.W.Frag} {σ : L2.St} {H H' : Hp} {te : TE} {D : Ends} {tu tz : TS} {g : TG}
theorem eu_call {sp : Sp} {dvs vs xs : List V} {E : XK} {ta : TA} (h : EvA ta σ H vs) (hs : SpU sp (vs ++ dvs) H xs) : EvU (tCall sp dvs E ta) σ H xs := fun H1 e Q q =>
  h H1 e _ fun H2 e2 => hs H2 (e.trans e2) Q (fun p H3 hp e3 h3 => q p H3 (fresh_back e2 hp) (e2.trans e3) h3) E
/-- a for over a new tuple -/
theorem s_forNT {xs : List V} {tl : TE} {j : Nat} (h : EvU tl σ H xs) (Pv : Addr → Nat → L2.St → Hp → Prop) (h0 : ∀ p H1, H p = none → Ex H H1 → H1 p = some (.tup xs) → Pv p 0 σ H1) (hl : ∀ p i σ' H', i ≤ xs.length → Pv p i σ' H' → SqT K H' p xs)
    (hs : ∀ p i x σ' H', xs[i]? = some x → Pv p i σ' H' → tu { D with nx := Pv p (i + 1), ct := Pv p (i + 1), bk := D.nx } (σ'.set j (some x)) H') (hd : ∀ p σ' H', Pv p xs.length σ' H' → D.nx σ' H') : tFor (iTup K tl) (gName j) tu D σ H :=
  h H (Ex.refl H) _ fun p H1 hp e h1 => ⟨p, rfl, ⟨xs, st_of h1⟩, for_tup (Pv p) (h0 p H1 hp e h1) (hl p) (hs p) (hd p)⟩
theorem q_forNT {xs : List V} {tl : TE} {j : Nat} (h : EvU tl σ H xs) (Pv : Addr → Nat → L2.St → Hp → Prop) (h0 : ∀ p H1, H p = none → Ex H H1 → H1 p = some (.tup xs) → Pv p 0 σ H1) (hl : ∀ p i σ' H', i ≤ xs.length → Pv p i σ' H' → SqT K H' p xs)
    (hs : ∀ p i x σ' H', xs[i]? = some x → Pv p i σ' H' → tu { D with nx := Pv p (i + 1), ct := Pv p (i + 1), bk := tz D } (σ'.set j (some x)) H') (hd : ∀ p σ' H', Pv p xs.length σ' H' → tz D σ' H') : tSeq (tFor (iTup K tl) (gName j) tu) tz D σ H :=
  s_forNT (D := { D with nx := tz D }) h Pv h0 hl hs hd
/-- len of a tuple -/
theorem ev_lenT {ta : TE} {p : Addr} {xs : List V} (ha : Ev ta σ H (.ref p)) (h : SqT K H p xs) : Ev (tCB (Evl.rLenS K) (tCons ta tNil)) σ H (.int (xs.length : Int)) := fun H1 e Q q =>
  ha H1 e _ fun H2 e2 => ⟨p, xs, rfl, Or.inr (ex_t (e.trans e2) h), q H2 e2⟩
end

section
variable {K : PySem.W.Frag} {H H' : Hp} {x y : V}
theorem rc_isTup {p : Addr} {xs : List V} (h : H p = some (.tup xs)) : RC (rIsi K) [.ref p, .ty "tuple"] H (.bl true) := fun H1 e _ q =>
  ⟨_, _, _, _, true, rfl, .ty "tuple", .base (.tup (e p _ h)), (by unfold PySem.W.kitOne; rw [if_pos (by decide)]), q H1 (Ex.refl H1)⟩
theorem rc_isBool {b : Bool} : RC (rIsi K) [.bl b, .ty "bool"] H (.bl true) := fun H1 e _ q =>
  ⟨_, _, _, _, true, rfl, .ty "bool", .base (.bl b), (by unfold PySem.W.kitOne; rw [if_pos (by decide)]), q H1 (Ex.refl H1)⟩
/-- two equal data -/
theorem rv_eqD {d e : PyData} {b : Bool} (hx : ∀ H1, Ex H H1 → Dp K H1 x d) (hy : ∀ H1, Ex H H1 → Dp K H1 y e) (sd : SeqAt.shaped d = true) (se : SeqAt.shaped e = true) (hb : PyData.eqv d e = b) : RV (rEqD K) x y H (.bl b) := fun H1 e1 _ q =>
  ⟨d, e, hx H1 e1, hy H1 e1, sd, se, by rw [hb]; exact q H1 (Ex.refl H1)⟩
theorem rv_neD {d e : PyData} {b : Bool} (hx : ∀ H1, Ex H H1 → Dp K H1 x d) (hy : ∀ H1, Ex H H1 → Dp K H1 y e) (sd : SeqAt.shaped d = true) (se : SeqAt.shaped e = true) (hb : PyData.eqv d e = b) : RV (rNeD K) x y H (.bl (!b)) := fun H1 e1 _ q =>
  ⟨d, e, hx H1 e1, hy H1 e1, sd, se, by rw [hb]; exact q H1 (Ex.refl H1)⟩
theorem at_codeS {l : List Nat} {i : Int} (h0 : 0 ≤ i) (h : i < (l.length : Int)) : atI (SX.S l).cps.toList i = some (l.getD i.toNat 0) := by
  obtain ⟨j, rfl⟩ := Int.eq_ofNat_of_zero_le h0
  have hj : j < l.length := by omega
  refine atI_nat ?_
  show l[j]? = _
  rw [List.getElem?_eq_getElem hj, Int.toNat_natCast, List.getD_eq_getElem?_getD, List.getElem?_eq_getElem hj]
  rfl
theorem mod_bd (x m : Int) (h : 0 < m) : 0 ≤ x % m ∧ x % m < m := ⟨Int.emod_nonneg _ (by omega), Int.emod_lt_of_pos _ h⟩
theorem given_all (n : Nat) (v : Nat → V) : given n (fun _ => true) v = (List.range n).map v := by
  unfold given
  rw [List.filter_eq_self.mpr (fun _ _ => rfl)]
theorem at_range {n i : Nat} {v : Nat → V} (h : i < n) : atI ((List.range n).map v) (i : Int) = some (v i) := by
  refine atI_nat ?_
  rw [List.getElem?_map, List.getElem?_range h]
  rfl
end

/-! ### texts by their codes -/
theorem len_S (l : List Nat) : (SX.S l).length = l.length := SX.S_len l
theorem cut_mid (l : List Nat) (a b : Nat) : cutS (SX.S l) (some (a : Int)) (some (b : Int)) = SX.S ((l.drop a).take (b - a)) := by
  unfold cutS
  rw [len_S, HT.sIx_nat, HT.sIx_nat]
  show SX.S ((l.drop (min a l.length)).take (min b l.length - min a l.length)) = _
  refine congrArg SX.S ?_
  by_cases h : a ≤ l.length
  · rw [Nat.min_eq_left h, List.take_eq_take_iff, List.length_drop]
    omega
  · rw [Nat.min_eq_right (show l.length ≤ a by omega), List.drop_eq_nil_of_le (Nat.le_refl _), List.drop_eq_nil_of_le (show l.length ≤ a by omega)]
    simp
theorem cut_to (l : List Nat) (b : Nat) : cutS (SX.S l) none (some (b : Int)) = SX.S (l.take b) := by
  unfold cutS
  rw [len_S, HT.sIx_nat, HT.sIx_none]
  show SX.S ((l.drop 0).take (min b l.length - 0)) = _
  refine congrArg SX.S ?_
  rw [List.drop_zero, List.take_eq_take_iff]
  omega
theorem cut_from (l : List Nat) (a : Nat) : cutS (SX.S l) (some (a : Int)) none = SX.S (l.drop a) := by
  unfold cutS
  rw [len_S, HT.sIx_nat, HT.sIx_none]
  show SX.S ((l.drop (min a l.length)).take (l.length - min a l.length)) = _
  refine congrArg SX.S ?_
  by_cases h : a ≤ l.length
  · rw [Nat.min_eq_left h]
    exact List.take_of_length_le (by rw [List.length_drop]; omega)
  · rw [Nat.min_eq_right (show l.length ≤ a by omega), List.drop_eq_nil_of_le (Nat.le_refl _), List.drop_eq_nil_of_le (show l.length ≤ a by omega)]
    simp
theorem join_ones : ∀ l : List Nat, Txt.join (SX.S []) (l.map fun c => SX.S [c]) = SX.S l := fun l => by
  have e : (l.map fun c => SX.S [c]) = (l.map fun c => [c]).map SX.S := by rw [List.map_map]; rfl
  rw [e, SX.join_S]
  refine congrArg SX.S ?_
  induction l with
  | nil => rfl
  | cons c l ih =>
    cases l with
    | nil => rfl
    | cons d l =>
      show [c] ++ ([] ++ TL.joinL [] (((d :: l).map fun c => [c]))) = _
      rw [ih (by rw [List.map_map]; rfl)]
      rfl
theorem sum_ones (l : List Nat) : ((l.map fun c => SX.S [c]).map (·.length)).sum = l.length := by
  induction l with
  | nil => rfl
  | cons c l ih =>
    rw [List.map_cons, List.map_cons, List.sum_cons, ih, len_S]
    simp [Nat.add_comm]

/-! ### the cells that a law draws -/
def fixC (c : Int) : Int := if c < 0 then 1 - 2 * c else c
def cell0 (ns : List Int) (k : Nat) : Int := if k < ns.length then ns.getD k 0 else 0
def cell2 (ns : List Int) (k : Nat) (c : Int) : Int := if 0 < ns.length then ns.getD (((k : Int) % (ns.length : Int)).toNat) 0 else c
def mix1 (k : Nat) (c : Int) : Int := ((c + 131 * (k : Int) + 7) * 48271 + (k : Int) * (k : Int) * 69621) % 1000000007
def mix2 (k : Nat) (c : Int) : Int := ((c + 17 * (k : Int) + 3) * 2862933555777941757) % 18446744073709551557
def cellAt (ns : List Int) (k : Nat) : Int :=
  if (ns.length : Int) ≤ (k : Int) ∨ fixC (cell0 ns k) < 1000000000 then mix2 k (mix1 k (fixC (cell2 ns k (fixC (cell0 ns k))))) else fixC (cell0 ns k)
def cellsOf (ns : List Int) (n : Nat) : List Int := (List.range n).map (cellAt ns)
theorem cellsOf_len (ns : List Int) (n : Nat) : (cellsOf ns n).length = n := by
  unfold cellsOf
  rw [List.length_map, List.length_range]
theorem cellsOf_succ (ns : List Int) (n : Nat) : cellsOf ns (n + 1) = cellsOf ns n ++ [cellAt ns n] := by
  unfold cellsOf
  rw [List.range_succ, List.map_append]
  rfl
theorem fixC_nn (c : Int) : 0 ≤ fixC c := by
  unfold fixC
  split <;> omega
theorem cellAt_nn (ns : List Int) (k : Nat) : 0 ≤ cellAt ns k := by
  unfold cellAt
  split
  · exact Int.emod_nonneg _ (by decide)
  · exact fixC_nn _
theorem cellsOf_nn (ns : List Int) (n : Nat) : ∀ c ∈ cellsOf ns n, 0 ≤ c := by
  intro c hc
  obtain ⟨k, _, rfl⟩ := List.mem_map.mp hc
  exact cellAt_nn ns k
theorem fixC_neg {c : Int} (h : decide (c < 0) = true) : 1 - 2 * c = fixC c := (if_pos (of_decide_eq_true h)).symm
theorem fixC_pos {c : Int} (h : decide (c < 0) = false) : fixC c = c := if_neg (of_decide_eq_false h)
theorem cellAt_mix {ns : List Int} {k : Nat} (h : (decide ((ns.length : Int) ≤ (k : Int)) || decide (fixC (cell0 ns k) < 1000000000)) = true) : mix2 k (mix1 k (fixC (cell2 ns k (fixC (cell0 ns k))))) = cellAt ns k := by
  unfold cellAt
  rw [if_pos]
  rcases (Bool.or_eq_true _ _).mp h with h | h
  · exact .inl (of_decide_eq_true h)
  · exact .inr (of_decide_eq_true h)
theorem cellAt_own {ns : List Int} {k : Nat} (h : (decide ((ns.length : Int) ≤ (k : Int)) || decide (fixC (cell0 ns k) < 1000000000)) = false) : fixC (cell0 ns k) = cellAt ns k := by
  unfold cellAt
  obtain ⟨h1, h2⟩ := (Bool.or_eq_false_iff).mp h
  rw [if_neg]
  rintro (h | h)
  · exact of_decide_eq_false h1 h
  · exact of_decide_eq_false h2 h
def spCells (K : PySem.W.Frag) : Sp := fun vs H Q _ => ∃ (a : Addr) (ns : List Int) (n : Nat), vs = [.ref a, .int (n : Int)] ∧ SqL K H a (ns.map V.int) ∧ ns.length ≤ 63 ∧ n ≤ 1000 ∧ RetL ((cellsOf ns n).map V.int) H Q
theorem sp_cells {K : PySem.W.Frag} {H : Hp} {a : Addr} {ns : List Int} {n : Nat} (hS : SqL K H a (ns.map V.int)) (hl : ns.length ≤ 63) (hn : n ≤ 1000) : SpL (spCells K) [.ref a, .int (n : Int)] H ((cellsOf ns n).map V.int) :=
  fun H1 e Q q E => ⟨a, ns, n, rfl, ex_l e hS, hl, hn, fun p H2 hp e2 h2 => q p H2 hp e2 h2⟩
/-! ### the rows that a law draws -/
def spRows (K : PySem.W.Frag) : Sp := fun vs H Q _ => ∃ (a : Addr) (ns : List Int) (n : Nat), vs = [.ref a, .int (n : Int)] ∧ SqL K H a (ns.map V.int) ∧ ns.length ≤ 63 ∧ n ≤ 1000 ∧ ∀ rs : List Int, rs.length = n → (∀ c ∈ rs, 0 ≤ c) → RetL (rs.map V.int) H Q
/-- what is there behind a call that gives a new list of n numbers from 0 on -/
def EvRows (te : TE) (σ : L2.St) (H : Hp) (n : Nat) : Prop := ∀ H1, Ex H H1 → ∀ Q : VK, (∀ p rs H2, H1 p = none → Ex H1 H2 → H2 p = some (.lst (List.map V.int rs)) → rs.length = n → (∀ c ∈ rs, 0 ≤ c) → Q (.ref p) H2) → te σ H1 Q
theorem ev_rows {K : PySem.W.Frag} {σ : L2.St} {H : Hp} {E : XK} {ta : TA} {a : Addr} {ns : List Int} {n : Nat} (h : EvA ta σ H [.ref a, .int (n : Int)]) (hS : SqL K H a (ns.map V.int)) (hl : ns.length ≤ 63) (hn : n ≤ 1000) : EvRows (tCall (spRows K) [] E ta) σ H n := fun H1 e Q q =>
  h H1 e _ fun H2 e2 => ⟨a, ns, n, rfl, ex_l (e.trans e2) hS, hl, hn, fun rs hr h0 p H3 hp e3 h3 => q p rs H3 (fresh_back e2 hp) (e2.trans e3) h3 hr h0⟩
theorem q_asgRows {σ : L2.St} {H : Hp} {te : TE} {D : Ends} {tz : TS} {i n : Nat} (h : EvRows te σ H n) (k : ∀ p rs H1, H p = none → Ex H H1 → H1 p = some (.lst (List.map V.int rs)) → rs.length = n → (∀ c ∈ rs, 0 ≤ c) → tz D (σ.set i (some (.ref p))) H1) : tSeq (tAsg te (gName i)) tz D σ H :=
  h H (Ex.refl H) _ fun p rs H1 hp e h1 hr h0 => k p rs H1 hp e h1 hr h0
/-- a def of the top: its text, its place, how it is called -/
structure Df (K : PySem.W.Frag) (mg : Str → Option Value) (x : Str) (st : Stmt) (ps : List Str) : Prop where
  ex : ∃ (f : Addr) (fd : FuncData), L2.Fun K x x st f fd ∧ mg x = some (.ref f) ∧ Binds K fd ps []
theorem Df.cal {P : Program} {w : World} {K : PySem.W.Frag} {mg : Str → Option Value} {base : Heap} {x : Str} {st : Stmt} {N ps : List Str} {k : Nat} {sp : Sp} (D : Df K mg x st ps) (S : FnScope N ps (defScope st)) (len : ∀ vs H Q E, sp vs H Q E → vs.length = ps.length)
    (hbody : ∀ (f : Addr) (cdv : Value) (A : Around) (outer : List Env) (s : Shared) (H : Hp) (vs : List V) (Q : VK) (E : XK), Room k (A.deeper (envOfC x (defScope st) s.heap.objs.size f cdv)) → sp vs H Q E →
      ∃ t, PSs (cxOf L2.CX0 P w K mg base N x (defScope st) f cdv A outer s H E).nox (defBody st) t ∧ t { nx := fun _ H' => Q .non H', rt := Q } (start N vs) H) : C8.Cal P w K mg base (k + 1) x sp [] := by
  obtain ⟨f, fd, F, hm, hb⟩ := D.ex
  exact ⟨f, fd, ps, [], F.ok S len (hbody f), hm, F.kp, hb, .nil⟩
def spLaw (K : PySem.W.Frag) : Sp := fun vs H Q _ => ∃ (a : Addr) (ns : List Int), vs = [.ref a] ∧ SqL K H a (ns.map V.int) ∧ ns.length ≤ 63 ∧ ∀ H', Q (.bl true) H'
end Lw
namespace K09
open PySem PySem.Spec PyProof.Rows L2 Evl Lw
def top (i : Nat) : Stmt := PySem.Challenge.pw_foldkeep_k09_marks_of_texts.main.body.getD i (.Pass ⟨0, 0, 0, 0⟩)
abbrev s_checksum : Stmt := top 4
abbrev s_mark_of : Stmt := top 5
abbrev s_law_rows : Stmt := top 7
abbrev s_law_text : Stmt := top 8
abbrev s_law_sum : Stmt := top 9
abbrev s_law_fits : Stmt := top 10
abbrev s_law_continues : Stmt := top 11
abbrev s_law : Stmt := top 12
theorem sc_checksum : FnScope ["text", "factor", "result", "sign"] ["text", "factor"] (defScope s_checksum) := ⟨rfl, rfl, rfl, by decide +kernel, rfl, by decide +kernel, by decide +kernel⟩
theorem sc_mark_of : FnScope ["text", "runs"] ["text", "runs"] (defScope s_mark_of) := ⟨rfl, rfl, rfl, by decide +kernel, rfl, by decide +kernel, by decide +kernel⟩
theorem sc_law_rows : FnScope ["script", "count", "rows", "mixed", "k", "cell"] ["script", "count"] (defScope s_law_rows) := ⟨rfl, rfl, rfl, by decide +kernel, rfl, by decide +kernel, by decide +kernel⟩
theorem sc_law_text : FnScope ["row", "size", "pool", "j"] ["row", "size"] (defScope s_law_text) := ⟨rfl, rfl, rfl, by decide +kernel, rfl, by decide +kernel, by decide +kernel⟩
theorem sc_law_sum : FnScope ["text", "factor", "total", "power", "k"] ["text", "factor"] (defScope s_law_sum) := ⟨rfl, rfl, rfl, by decide +kernel, rfl, by decide +kernel, by decide +kernel⟩
theorem sc_law_fits : FnScope ["text", "runs", "mark"] ["text", "runs"] (defScope s_law_fits) := ⟨rfl, rfl, rfl, by decide +kernel, rfl, by decide +kernel, by decide +kernel⟩
theorem sc_law_continues : FnScope ["first", "second", "factor", "total", "sign"] ["first", "second"] (defScope s_law_continues) := ⟨rfl, rfl, rfl, by decide +kernel, rfl, by decide +kernel, by decide +kernel⟩
theorem sc_law : FnScope ["script", "rows", "k", "texts", "runs", "at", "other", "factor"] ["script"] (defScope s_law) := ⟨rfl, rfl, rfl, by decide +kernel, rfl, by decide +kernel, by decide +kernel⟩
/-- the names of the top that are asked for -/
structure Txt (K : PySem.W.Frag) (mg : Str → Option Value) : Prop where
  n_bool : mg "bool" = none
  n_int : mg "int" = none
  n_isinstance : mg "isinstance" = none
  n_len : mg "len" = none
  n_ord : mg "ord" = none
  n_range : mg "range" = none
  n_tuple : mg "tuple" = none
  g_HIGH_FACTOR : ∃ u, mg "HIGH_FACTOR" = some u ∧ RelV (.int 65599) u
  g_LOW_FACTOR : ∃ u, mg "LOW_FACTOR" = some u ∧ RelV (.int 257) u
  g_MODULUS : ∃ u, mg "MODULUS" = some u ∧ RelV (.int 4294967291) u
def mM : Int := 4294967291
def stp (f s : Int) (c : Nat) : Int := (s * f + (c : Int) + 1) % 4294967291
def chk (f : Int) (l : List Nat) : Int := l.foldl (stp f) 0
theorem stp_rg (f s : Int) (c : Nat) : 0 ≤ stp f s c ∧ stp f s c < 4294967291 := ⟨Int.emod_nonneg _ (by decide), Int.emod_lt_of_pos _ (by decide)⟩
theorem fold_rg (f : Int) : ∀ (l : List Nat) (s : Int), 0 ≤ s ∧ s < 4294967291 → 0 ≤ l.foldl (stp f) s ∧ l.foldl (stp f) s < 4294967291
  | [], _, h => h
  | c :: l, s, _ => fold_rg f l (stp f s c) (stp_rg f s c)
theorem chk_rg (f : Int) (l : List Nat) : 0 ≤ chk f l ∧ chk f l < 4294967291 := fold_rg f l 0 ⟨by decide, by decide⟩
theorem chk_snoc (f : Int) (l : List Nat) (c : Nat) : chk f (l ++ [c]) = stp f (chk f l) c := by
  unfold chk
  rw [List.foldl_append]
  rfl
theorem inj_mod {f g q s t c M : Int} (hM : 0 < M) (hf : f * g = 1 + M * q) (hs : 0 ≤ s ∧ s < M) (ht : 0 ≤ t ∧ t < M) (h : (s * f + c + 1) % M = (t * f + c + 1) % M) : s = t := by
  have h1 := Int.emod_add_mul_ediv (s * f + c + 1) M
  have h2 := Int.emod_add_mul_ediv (t * f + c + 1) M
  rw [h] at h1
  have h3 : (s - t) * f = M * ((s * f + c + 1) / M - (t * f + c + 1) / M) := by grind
  have h4 : s - t = M * (((s * f + c + 1) / M - (t * f + c + 1) / M) * g - (s - t) * q) := by grind
  generalize (((s * f + c + 1) / M - (t * f + c + 1) / M) * g - (s - t) * q) = z at h4
  have h5 : z = 0 := by
    rcases Int.lt_trichotomy z 0 with h | h | h
    · have : M * z ≤ M * (-1) := Int.mul_le_mul_of_nonneg_left (by omega) (by omega)
      omega
    · exact h
    · have : M * 1 ≤ M * z := Int.mul_le_mul_of_nonneg_left (by omega) (by omega)
      omega
  rw [h5] at h4
  omega
theorem fold_inj {f g q : Int} (hf : f * g = 1 + 4294967291 * q) : ∀ (l : List Nat) (s t : Int), 0 ≤ s ∧ s < 4294967291 → 0 ≤ t ∧ t < 4294967291 → l.foldl (stp f) s = l.foldl (stp f) t → s = t
  | [], _, _, _, _, h => h
  | c :: l, s, t, hs, ht, h => inj_mod (by decide) hf hs ht (fold_inj hf l _ _ (stp_rg f s c) (stp_rg f t c) h)
theorem stp_diff {f s : Int} {c d : Nat} (hc : c < 256) (hd : d < 256) (h : stp f s c = stp f s d) : c = d := by
  have h1 := Int.emod_add_mul_ediv (s * f + (c : Int) + 1) 4294967291
  have h2 := Int.emod_add_mul_ediv (s * f + (d : Int) + 1) 4294967291
  unfold stp at h
  generalize s * f = y at *
  omega
theorem chk_diff {f g q : Int} (hf : f * g = 1 + 4294967291 * q) {p r : List Nat} {c d : Nat} (hc : c < 256) (hd : d < 256) (h : chk f (p ++ ([c] ++ r)) = chk f (p ++ ([d] ++ r))) : c = d := by
  have e : ∀ x : Nat, chk f (p ++ ([x] ++ r)) = r.foldl (stp f) (stp f (p.foldl (stp f) 0) x) := fun x => by
    unfold chk
    rw [List.foldl_append, List.foldl_append]
    rfl
  rw [e, e] at h
  exact stp_diff hc hd (fold_inj hf r _ _ (stp_rg f _ c) (stp_rg f _ d) h)
/-- from behind -/
theorem fold_lin (f : Int) : ∀ (l : List Nat) (s : Int), (l.foldl (stp f) s) % 4294967291 = (s * f ^ l.length + l.foldl (stp f) 0) % 4294967291
  | [], s => by
    rw [List.length_nil, Int.pow_zero, Int.mul_one]
    show s % 4294967291 = (s + 0) % 4294967291
    rw [Int.add_zero]
  | c :: l, s => by
    show (l.foldl (stp f) (stp f s c)) % 4294967291 = (s * f ^ (l.length + 1) + l.foldl (stp f) (stp f 0 c)) % 4294967291
    have h1 := fold_lin f l (stp f s c)
    have h2 := fold_lin f l (stp f 0 c)
    have e1 := Int.emod_add_mul_ediv (s * f + (c : Int) + 1) 4294967291
    have e2 := Int.emod_add_mul_ediv (0 * f + (c : Int) + 1) 4294967291
    rw [h1]
    unfold stp at h2 ⊢
    have a1 := Int.emod_add_mul_ediv (((0 * f + (c : Int) + 1) % 4294967291) * f ^ l.length + l.foldl (stp f) 0) 4294967291
    unfold stp at a1
    have a2 := Int.emod_add_mul_ediv (l.foldl (fun (s : Int) (c : Nat) => (s * f + (c : Int) + 1) % 4294967291) ((0 * f + (c : Int) + 1) % 4294967291)) 4294967291
    rw [h2] at a2
    rw [← a2]
    refine Int.emod_eq_emod_iff_emod_sub_eq_zero.mpr (Int.emod_eq_zero_of_dvd ?_)
    refine ⟨-((s * f + (c : Int) + 1) / 4294967291) * f ^ l.length + ((0 * f + (c : Int) + 1) / 4294967291) * f ^ l.length + (((0 * f + (c : Int) + 1) % 4294967291) * f ^ l.length + l.foldl (fun (s : Int) (c : Nat) => (s * f + (c : Int) + 1) % 4294967291) 0) / 4294967291 - (l.foldl (fun (s : Int) (c : Nat) => (s * f + (c : Int) + 1) % 4294967291) ((0 * f + (c : Int) + 1) % 4294967291)) / 4294967291, ?_⟩
    rw [Int.pow_succ]
    generalize f ^ l.length = m at *
    generalize l.foldl (fun (s : Int) (c : Nat) => (s * f + (c : Int) + 1) % 4294967291) ((0 * f + (c : Int) + 1) % 4294967291) = F1 at *
    generalize l.foldl (fun (s : Int) (c : Nat) => (s * f + (c : Int) + 1) % 4294967291) 0 = F0 at *
    grind
theorem chk_cons (f : Int) (c : Nat) (l : List Nat) : chk f (c :: l) = (chk f l + ((c : Int) + 1) * (f ^ l.length % 4294967291)) % 4294967291 := by
  have h := fold_lin f l (stp f 0 c)
  have r := chk_rg f (c :: l)
  have e : chk f (c :: l) = l.foldl (stp f) (stp f 0 c) := rfl
  rw [e] at r
  rw [e, ← Int.emod_eq_of_lt r.1 r.2, h]
  have e0 : l.foldl (stp f) 0 = chk f l := rfl
  rw [e0]
  have e2 := Int.emod_add_mul_ediv (0 * f + (c : Int) + 1) 4294967291
  have e3 := Int.emod_add_mul_ediv (f ^ l.length) 4294967291
  unfold stp
  refine Int.emod_eq_emod_iff_emod_sub_eq_zero.mpr (Int.emod_eq_zero_of_dvd ?_)
  refine ⟨-((0 * f + (c : Int) + 1) / 4294967291) * f ^ l.length + ((c : Int) + 1) * (f ^ l.length / 4294967291), ?_⟩
  generalize f ^ l.length = m at *
  grind
theorem pow_step (f : Int) (n : Nat) : (f ^ n % 4294967291 * f) % 4294967291 = f ^ (n + 1) % 4294967291 := by
  rw [Int.pow_succ, Int.mul_emod, Int.emod_emod_of_dvd _ (Int.dvd_refl _), ← Int.mul_emod]
def facs (f : Int) : Prop := 0 ≤ f ∧ f < 100000
def sp_checksum (K : PySem.W.Frag) : Sp := fun vs H Q _ => ∃ (l : List Nat) (f : Int), vs = [.str (SX.S l), .int f] ∧ l.length ≤ 1000 ∧ facs f ∧ RetV (.int (chk f l)) H Q
def markV (l : List Nat) (b : Bool) : List V := [.int (l.length : Int), .int (chk 257 l), .int (chk 65599 l), .bl b]
def sp_mark_of (K : PySem.W.Frag) : Sp := fun vs H Q _ => ∃ (l : List Nat) (b : Bool), vs = [.str (SX.S l), .bl b] ∧ l.length ≤ 1000 ∧ RetU (markV l b) H Q
abbrev sp_law_rows := spRows
def poolT : List Nat := [97, 98, 99, 120, 121, 122, 48, 49, 56, 57, 32, 46, 44, 126, 33, 47, 40, 41, 10, 9, 34, 39, 45, 95, 65, 66, 90]
theorem pool_is : Str.ofString "abcxyz0189 .,~!/()\n\t\"'-_ABZ" = SX.S poolT := by decide +kernel
def lawT (row : Int) (n : Nat) : List Nat := (List.range n).map fun (j : Nat) => poolT.getD ((row / ((j : Int) * (j : Int) + 1) + 7 * (j : Int)) % (27 : Int)).toNat 0
theorem lawT_len (row : Int) (n : Nat) : (lawT row n).length = n := by
  unfold lawT
  rw [List.length_map, List.length_range]
theorem pool_ok : ∀ c ∈ poolT, c < 256 ∧ c ≠ 35 := by decide
theorem lawT_ok (row : Int) (n : Nat) : ∀ c ∈ lawT row n, c < 256 ∧ c ≠ 35 := by
  intro c hc
  obtain ⟨j, _, rfl⟩ := List.mem_map.mp hc
  have hm := mod_bd (row / ((j : Int) * (j : Int) + 1) + 7 * (j : Int)) 27 (by decide)
  exact pool_ok _ (memD (by show _ < 27; omega))
def sp_law_text (K : PySem.W.Frag) : Sp := fun vs H Q _ => ∃ (row : Int) (n : Nat), vs = [.int row, .int (n : Int)] ∧ n ≤ 60 ∧ RetV (.str (SX.S (lawT row n))) H Q
def sp_law_sum (K : PySem.W.Frag) : Sp := sp_checksum K
def sp_law_fits (K : PySem.W.Frag) : Sp := fun vs H Q _ => ∃ (l : List Nat) (b : Bool), vs = [.str (SX.S l), .bl b] ∧ l.length ≤ 1000 ∧ RetV (.bl true) H Q
def sp_law_continues (K : PySem.W.Frag) : Sp := fun vs H Q _ => ∃ (l m : List Nat), vs = [.str (SX.S l), .str (SX.S m)] ∧ l.length ≤ 400 ∧ m.length ≤ 400 ∧ RetV (.bl true) H Q
theorem sp_chk {K : PySem.W.Frag} {l : List Nat} {f : Int} {H : Hp} (hl : l.length ≤ 1000) (hf : facs f) : SpV (sp_checksum K) [.str (SX.S l), .int f] H (.int (chk f l)) := fun H1 e Q q E => ⟨l, f, rfl, hl, hf, fun H2 e2 => q H2 e2⟩
theorem fac1 : facs 257 := ⟨by decide, by decide⟩
theorem fac2 : facs 65599 := ⟨by decide, by decide⟩
section
variable {P : Program} {w : World} {K : PySem.W.Frag} {mg : Str → Option Value} {base : Heap}
/-! ### checksum -/
theorem ok_checksum (D : Df K mg "checksum" s_checksum ["text", "factor"]) (T : Txt K mg)  : C8.Cal P w K mg base 1 "checksum" (sp_checksum K) [] := by
  refine D.cal sc_checksum (fun vs H Q E h => ?_) (fun f cdv A outer s H vs Q E hr h => ?_)
  · obtain ⟨l, f, rfl, _⟩ := h
    rfl
  · obtain ⟨l, f, rfl, hl, hf, q⟩ := h
    refine ⟨_,
        (pss_cons (ps_set (i := 2) sc_checksum.nd rfl (.inl rfl) pe_int)
        (pss_cons (ps_for PassesOwn.never rfl (pi_str (pv 0)) (pg_name (i := 3) sc_checksum.nd rfl (.inl rfl))
          (pss_one (ps_set (i := 2) sc_checksum.nd rfl (.inl rfl) (pe_op op_mod (pe_op op_add (pe_op op_add (pe_op op_mul (pv 2) (pv 1)) (pe_callB call_ord (by rfl) T.n_ord (by decide +kernel) (pa_cons (pv 3) pa_nil))) pe_int) (C8.pe_gc (by rfl) T.g_MODULUS)))))
        (pss_one (ps_ret (pv 2))))), ?_⟩
    refine q_asg ev_c fun H1 e1 => ?_
    refine q_forS (ev_var rfl) (fun i σ' H' => ∃ x : Option V, σ' = [some (.str (SX.S l)), some (.int f), some (.int (chk f (l.take i))), x] ∧ Ex H H') (fun H2 e2 => ⟨none, rfl, e1.trans e2⟩) ?_ ?_
    · rintro i c σ' H' hc ⟨x, rfl, eH⟩
      refine s_asg (ev_op (ev_op (ev_op (ev_op (ev_var rfl) (ev_var rfl) (rv_I (.inr ⟨by have := hf.1; omega, by have := hf.2; omega⟩))) (ev_cb (ea_cons (ev_var rfl) ea_nil) (rc_ord rfl)) rv_I0) ev_c rv_I0) ev_c (rv_I (by show (0 : Int) < 4294967291; decide))) fun H2 e2 => ⟨some (.str ⟨#[c]⟩), ?_, eH.trans e2⟩
      have hc' : l[i]? = some c := hc
      rw [List.take_add_one, hc']
      show _ = [some (V.str (SX.S l)), some (V.int f), some (V.int (chk f (l.take i ++ [c]))), some (V.str ⟨#[c]⟩)]
      rw [chk_snoc]
      rfl
    · rintro σ' H' ⟨x, rfl, eH⟩
      have e : l.take (SX.S l).cps.size = l := List.take_of_length_le (by simp)
      rw [e]
      exact s_ret (ev_var rfl) fun H2 e2 => q H2 (eH.trans e2)

/-! ### mark_of -/
theorem ok_mark_of (D : Df K mg "mark_of" s_mark_of ["text", "runs"]) (T : Txt K mg) (G_checksum : C8.Cal P w K mg base 1 "checksum" (sp_checksum K) []) : C8.Cal P w K mg base 2 "mark_of" (sp_mark_of K) [] := by
  refine D.cal sc_mark_of (fun vs H Q E h => ?_) (fun f cdv A outer s H vs Q E hr h => ?_)
  · obtain ⟨l, b, rfl, _⟩ := h
    rfl
  · obtain ⟨l, b, rfl, hl, q⟩ := h
    refine ⟨_,
        (pss_one (ps_ret (pe_tup (pa_cons (pe_callB call_len_str (by rfl) T.n_len PySem.boot_len (pa_cons (pv 0) pa_nil)) (pa_cons (C8.pe_c G_checksum hr (by decide) (by rfl) (pa_cons (pv 0) (pa_cons (C8.pe_gc (by rfl) T.g_LOW_FACTOR) pa_nil))) (pa_cons (C8.pe_c G_checksum hr (by decide) (by rfl) (pa_cons (pv 0) (pa_cons (C8.pe_gc (by rfl) T.g_HIGH_FACTOR) pa_nil))) (pa_cons (pv 1) pa_nil))))))), ?_⟩
    refine s_retU (xs := markV l b) (eu_tup (ea_cons (ev_is (ev_cb (ea_cons (ev_var rfl) ea_nil) (rc_lenStr (by rw [len_S]; omega))) (show V.int ((SX.S l).length : Int) = V.int (l.length : Int) by rw [len_S])) (ea_cons (ev_call (ea_cons (ev_var rfl) (ea_cons ev_c ea_nil)) (sp_chk hl fac1)) (ea_cons (ev_call (ea_cons (ev_var rfl) (ea_cons ev_c ea_nil)) (sp_chk hl fac2)) (ea_cons (ev_var rfl) ea_nil)))) (by show 4 ≤ 100000; decide)) fun p H1 hp e1 h1 => q p H1 hp e1 h1

/-! ### law_rows -/
theorem ok_law_rows (D : Df K mg "_law_rows" s_law_rows ["script", "count"]) (T : Txt K mg)  : C8.Cal P w K mg base 1 "_law_rows" (sp_law_rows K) [] := by
  refine D.cal sc_law_rows (fun vs H Q E h => ?_) (fun f cdv A outer s H vs Q E hr h => ?_)
  · obtain ⟨a, ns, n, rfl, _⟩ := h
    rfl
  · obtain ⟨a, ns, n, rfl, hS, hl, hn, q⟩ := h
    refine ⟨_,
        (pss_cons (ps_set (i := 2) sc_law_rows.nd rfl (.inl rfl) (pe_lst pa_nil))
        (pss_cons (ps_set (i := 3) sc_law_rows.nd rfl (.inl rfl) pe_int)
        (pss_cons (ps_for PassesOwn.never rfl (pi_range1 (by rfl) T.n_range (pa_cons (pv 1) pa_nil)) (pg_name (i := 4) sc_law_rows.nd rfl (.inl rfl))
          (pss_cons (ps_set (i := 5) sc_law_rows.nd rfl (.inl rfl) pe_int)
          (pss_cons (ps_if (pt_cmpR op_lt (pv 4) (pe_callB call_len_seq (by rfl) T.n_len PySem.boot_len (pa_cons (pv 0) pa_nil)) (nomark _))
            (pss_one (ps_set (i := 5) sc_law_rows.nd rfl (.inl rfl) (pe_callTy call_int1 (by rfl) T.n_int (by decide +kernel) (pa_cons (pe_ix ix_list (pv 0) (pv 4) (fun _ _ => rfl)) pa_nil))))
            pss_nil)
          (pss_cons (ps_if (pt_cmpR op_lt (pv 5) pe_int (nomark _))
            (pss_one (ps_set (i := 5) sc_law_rows.nd rfl (.inl rfl) (pe_op op_sub pe_int (pe_op op_mul pe_int (pv 5)))))
            pss_nil)
          (pss_cons (ps_set (i := 3) sc_law_rows.nd rfl (.inl rfl) (pe_op op_mod (pe_callTy call_int1 (by rfl) T.n_int (by decide +kernel) (pa_cons (pe_op op_add (pe_op op_add (pe_op op_add (pe_op op_mul (pv 3) pe_int) (pe_op op_mul (pv 5) pe_int)) (pe_op op_mul pe_int (pv 4))) pe_int) pa_nil)) pe_int))
          (pss_one (ps_if (pt_cmpR op_ge (pv 5) pe_int (nomark _))
            (pss_one (ps_expr (pe_bm PySem.F.plainAttrs_list PySem.F.slot_list_append PySem.F.type_list_append mt_append (pv 2) (pa_cons (pv 5) pa_nil))))
            (pss_one (ps_expr (pe_bm PySem.F.plainAttrs_list PySem.F.slot_list_append PySem.F.type_list_append mt_append (pv 2) (pa_cons (pe_op op_mod (pe_callTy call_int1 (by rfl) T.n_int (by decide +kernel) (pa_cons (pe_op op_add (pe_op op_mul (pv 3) pe_int) pe_int) pa_nil)) pe_int) pa_nil)))))))))))
        (pss_one (ps_ret (pv 2)))))), ?_⟩
    refine q_asgL (el_lst ea_nil (by show 0 ≤ 100000; decide)) fun p H1 hp e1 h1 => ?_
    refine q_asg ev_c fun H2 e2 => ?_
    refine q_forR1 (n := (n : Int)) (ea_cons (ev_var rfl) ea_nil) ⟨by omega, by omega⟩
      (fun i σ' H' => ∃ (rs : List Int) (m : Int) (k c : Option V), σ' = [some (.ref a), some (.int (n : Int)), some (.ref p), some (.int m), k, c] ∧ Ex H H' ∧ H' p = some (.lst (rs.map V.int)) ∧ rs.length = i ∧ ∀ c ∈ rs, 0 ≤ c)
      (fun H3 e3 => ⟨[], 1, none, none, rfl, (e1.trans e2).trans e3, e3 p _ (e2 p _ h1), rfl, by intro c hc; cases hc⟩) ?_ ?_
    · rintro i σ' H' hi ⟨rs, m, k0, c0, rfl, eH, hc, hlr, hnn⟩
      have hS' := ex_l eH hS
      have hlen : ((ns.map V.int).length : Int) = (ns.length : Int) := by rw [List.length_map]
      refine q_asg ev_c fun H2 e2 => ?_
      refine q_ifAsg (v := .int (cell0 ns i)) (et_test (ev_op (ev_var rfl) (ev_len (ev_var rfl) (ex_l e2 hS')) rv_I0)) (fun hb => ?_) (fun hb => ?_) fun H3 e3 => ?_
      · have hlt : i < ns.length := by
          have := of_decide_eq_true hb
          rw [hlen] at this
          omega
        refine ev_is (ev_cb (ea_cons (ev_op (ev_var rfl) (ev_var rfl) (rv_ixL (ex_l e2 hS') (at_int (by omega) (by omega)))) ea_nil) rc_int) ?_
        unfold cell0
        rw [if_pos hlt, Int.toNat_natCast]
      · have hlt : ¬ i < ns.length := by
          have := of_decide_eq_false hb
          rw [hlen] at this
          omega
        unfold cell0
        rw [if_neg hlt]
        rfl
      refine q_ifAsg (v := .int (fixC (cell0 ns i))) (et_test (ev_op (ev_var rfl) ev_c rv_I0)) (fun hb => ev_is (ev_op ev_c (ev_op ev_c (ev_var rfl) (rv_I (.inl (by decide)))) rv_I0) (congrArg V.int (fixC_neg hb))) (fun hb => by rw [fixC_pos hb]; rfl) fun H4 e4 => ?_
      refine q_asg (ev_op (ev_cb (ea_cons (ev_op (ev_op (ev_op (ev_op (ev_var rfl) ev_c (rv_I (.inr (by decide)))) (ev_op (ev_var rfl) ev_c (rv_I (.inr (by decide)))) rv_I0) (ev_op ev_c (ev_var rfl) (rv_I (.inl (by decide)))) rv_I0) ev_c rv_I0) ea_nil) rc_int) ev_c (rv_I (by show (0 : Int) < 1000000007; decide))) fun H5 e5 => ?_
      have e25 := (((e2.trans e3).trans e4).trans e5)
      have lenc : (rs.map V.int).length < 100000 := by
        rw [List.length_map]
        omega
      have fin : ∀ (H6 : Hp) (m x : Int) (c : Option V), Ex H5 H6 → 0 ≤ x → ∃ (rs' : List Int) (m' : Int) (k' c' : Option V), ([some (.ref a), some (.int (n : Int)), some (.ref p), some (.int m), some (.int (i : Int)), c] : L2.St) = [some (.ref a), some (.int (n : Int)), some (.ref p), some (.int m'), k', c'] ∧ Ex H (upd H6 p (.lst (rs.map V.int ++ [.int x]))) ∧ (upd H6 p (.lst (rs.map V.int ++ [.int x]))) p = some (.lst (rs'.map V.int)) ∧ rs'.length = i + 1 ∧ ∀ c ∈ rs', 0 ≤ c := fun H6 m x c e6 hx => by
        refine ⟨rs ++ [x], m, _, _, rfl, Ex.mut ((eH.trans e25).trans e6) hp, ?_, ?_, ?_⟩
        · rw [upd_same, List.map_append]
          rfl
        · rw [List.length_append, hlr]
          rfl
        · intro c hc
          rcases List.mem_append.mp hc with h | h
          · exact hnn c h
          · rw [List.mem_singleton.mp h]
            exact hx
      refine s_if (et_test (ev_op (ev_var rfl) ev_c rv_I0)) (fun hb H6 e6 => ?_) (fun hb H6 e6 => ?_)
      · exact s_app (e6 p _ (e25 p _ hc)) (ev_var rfl) (ev_var rfl) lenc fun H7 e7 => fin H7 _ _ _ (e6.trans e7) (fixC_nn _)
      · exact s_app (e6 p _ (e25 p _ hc)) (ev_var rfl) (ev_op (ev_cb (ea_cons (ev_op (ev_op (ev_var rfl) ev_c (rv_I (.inr (by decide)))) ev_c rv_I0) ea_nil) rc_int) ev_c (rv_I (by show (0 : Int) < 18446744073709551557; decide))) lenc fun H7 e7 => fin H7 _ _ _ (e6.trans e7) (Int.emod_nonneg _ (by decide))
    · rintro σ' H' ⟨rs, m, k0, c0, rfl, eH, hc, hlr, hnn⟩
      exact s_ret (ev_var rfl) fun H1' e' => q rs (by omega) hnn p H1' hp (eH.trans e') (e' p _ hc)

/-! ### law_text -/
theorem ok_law_text (D : Df K mg "_law_text" s_law_text ["row", "size"]) (T : Txt K mg)  : C8.Cal P w K mg base 1 "_law_text" (sp_law_text K) [] := by
  refine D.cal sc_law_text (fun vs H Q E h => ?_) (fun f cdv A outer s H vs Q E hr h => ?_)
  · obtain ⟨row, n, rfl, _⟩ := h
    rfl
  · obtain ⟨row, n, rfl, hn, q⟩ := h
    refine ⟨_,
        (pss_cons (ps_set (i := 2) sc_law_text.nd rfl (.inr rfl) pe_str)
        (pss_one (ps_ret (pe_join pe_str (pe_lc (own := [("j", 3)]) (g := gName 3) (tt := tYes) rfl sc_law_text.nd (pi_range1 (by rfl) T.n_range (pa_cons (pv 1) pa_nil)) (blkOk_by (own := [("j", 3)]) (N := ["row", "size", "pool", "j"]) (sc := defScope s_law_text) (by decide +kernel)) (fun _ _ _ _ _ => (pg_name (i := 3) sc_law_text.nd rfl (Or.inl rfl))) (fun _ _ _ _ _ => pts_nil) (fun _ _ _ _ _ => (pe_ix ix_str (pv 2) (pe_op op_mod (pe_callTy call_int1 (by rfl) T.n_int (by decide +kernel) (pa_cons (pe_op op_add (pe_op op_fdiv (pv 0) (pe_op op_add (pe_op op_mul (pv 3) (pv 3)) pe_int)) (pe_op op_mul pe_int (pv 3))) pa_nil)) (pe_callB call_len_str (by rfl) T.n_len PySem.boot_len (pa_cons (pv 2) pa_nil))) (fun _ _ => rfl)))))))), ?_⟩
    refine q_asg ev_c fun H1 e1 => ?_
    refine s_ret (v := .str (SX.S (lawT row n))) (ev_is (ev_joinL (ys := (lawT row n).map fun c => SX.S [c]) ev_c (by
      have hg : given (n : Int).toNat (fun _ => true) (fun (j : Nat) => V.str (SX.S [poolT.getD ((row / ((j : Int) * (j : Int) + 1) + 7 * (j : Int)) % (27 : Int)).toNat 0])) = ((lawT row n).map fun c => SX.S [c]).map V.str := by
        rw [given_all, Int.toNat_natCast]
        unfold lawT
        rw [List.map_map, List.map_map]
        rfl
      rw [← hg]
      refine el_lcR1 (fun _ => true) (fun (j : Nat) => V.str (SX.S [poolT.getD ((row / ((j : Int) * (j : Int) + 1) + 7 * (j : Int)) % (27 : Int)).toNat 0])) (ea_cons (ev_var rfl) ea_nil) ⟨by omega, by omega⟩ (fun _ => rfl) (fun _ _ _ _ => et_yes) (fun i H2 e2 hi _ => ?_)
      have hm := mod_bd (row / ((i : Int) * (i : Int) + 1) + 7 * (i : Int)) 27 (by decide)
      have hii : 0 ≤ (i : Int) * (i : Int) ∧ (i : Int) * (i : Int) ≤ 60 * 60 := ⟨Int.mul_nonneg (by omega) (by omega), Int.mul_le_mul (by omega) (by omega) (by omega) (by omega)⟩
      refine ev_op (ev_is (ev_var rfl) (congrArg V.str pool_is)) (ev_op (ev_cb (ea_cons (ev_op (ev_op (ev_var rfl) (ev_op (ev_op (ev_var rfl) (ev_var rfl) (rv_I (.inl ⟨by omega, by omega⟩))) ev_c rv_I0) (rv_I ⟨by omega, by omega⟩)) (ev_op ev_c (ev_var rfl) (rv_I (.inl (by decide)))) rv_I0) ea_nil) rc_int) (ev_is (ev_cb (ea_cons (ev_is (ev_var rfl) (congrArg V.str pool_is)) ea_nil) (rc_lenStr (by decide))) (show V.int ((SX.S poolT).length : Int) = V.int 27 from rfl)) (rv_I (by show (0 : Int) < 27; decide))) (rv_ixS (by decide) (at_codeS hm.1 (by show _ < ((27 : Nat) : Int); omega)))) (by
      rw [sum_ones, List.length_map, lawT_len]
      show n + n * 0 ≤ 16777216
      omega)) (congrArg V.str (by rw [show Str.ofString "" = SX.S [] by decide +kernel]; exact join_ones _))) fun H2 e2 => q H2 (e1.trans e2)

/-! ### law_sum -/
theorem ok_law_sum (D : Df K mg "_law_sum" s_law_sum ["text", "factor"]) (T : Txt K mg)  : C8.Cal P w K mg base 1 "_law_sum" (sp_law_sum K) [] := by
  refine D.cal sc_law_sum (fun vs H Q E h => ?_) (fun f cdv A outer s H vs Q E hr h => ?_)
  · obtain ⟨l, f, rfl, _⟩ := h
    rfl
  · obtain ⟨l, f, rfl, hl, hf, q⟩ := h
    refine ⟨_,
        (pss_cons (ps_set (i := 2) sc_law_sum.nd rfl (.inl rfl) pe_int)
        (pss_cons (ps_set (i := 3) sc_law_sum.nd rfl (.inl rfl) pe_int)
        (pss_cons (ps_for PassesOwn.never rfl (pi_range1 (by rfl) T.n_range (pa_cons (pe_callB call_len_str (by rfl) T.n_len PySem.boot_len (pa_cons (pv 0) pa_nil)) pa_nil)) (pg_name (i := 4) sc_law_sum.nd rfl (.inl rfl))
          (pss_cons (ps_set (i := 2) sc_law_sum.nd rfl (.inl rfl) (pe_op op_mod (pe_callTy call_int1 (by rfl) T.n_int (by decide +kernel) (pa_cons (pe_op op_add (pv 2) (pe_op op_mul (pe_op op_add (pe_callB call_ord (by rfl) T.n_ord (by decide +kernel) (pa_cons (pe_ix ix_str (pv 0) (pe_op op_sub (pe_op op_sub (pe_callB call_len_str (by rfl) T.n_len PySem.boot_len (pa_cons (pv 0) pa_nil)) pe_int) (pv 4)) (fun _ _ => rfl)) pa_nil)) pe_int) (pv 3))) pa_nil)) pe_int))
          (pss_one (ps_set (i := 3) sc_law_sum.nd rfl (.inl rfl) (pe_op op_mod (pe_callTy call_int1 (by rfl) T.n_int (by decide +kernel) (pa_cons (pe_op op_mul (pv 3) (pv 1)) pa_nil)) pe_int)))))
        (pss_one (ps_ret (pv 2)))))), ?_⟩
    have hlen : V.int ((SX.S l).length : Int) = V.int (l.length : Int) := by rw [len_S]
    have hz : (SX.S l).length ≤ 100000 := by rw [len_S]; omega
    refine q_asg ev_c fun H1 e1 => ?_
    refine q_asg ev_c fun H2 e2 => ?_
    refine q_forR1 (n := (l.length : Int)) (ea_cons (ev_is (ev_cb (ea_cons (ev_var rfl) ea_nil) (rc_lenStr hz)) hlen) ea_nil) ⟨by omega, by omega⟩
      (fun i σ' H' => ∃ k : Option V, σ' = [some (.str (SX.S l)), some (.int f), some (.int (chk f (l.drop (l.length - i)))), some (.int (f ^ i % 4294967291)), k] ∧ Ex H H')
      (fun H3 e3 => ⟨none, by rw [Nat.sub_zero, List.drop_length, Int.pow_zero]; rfl, (e1.trans e2).trans e3⟩) ?_ ?_
    · rintro i σ' H' hi ⟨k, rfl, eH⟩
      have hj : l.length - (i + 1) < l.length := by omega
      have ht : ((l.length : Int) - 1 - (i : Int)).toNat = l.length - (i + 1) := by omega
      have hp := mod_bd (f ^ i) 4294967291 (by decide)
      have hdrop : l.drop (l.length - (i + 1)) = l.getD (l.length - (i + 1)) 0 :: l.drop (l.length - i) := by
        rw [List.drop_eq_getElem_cons hj, List.getD_eq_getElem?_getD, List.getElem?_eq_getElem hj, show l.length - (i + 1) + 1 = l.length - i by omega]
        rfl
      have hc : chk f (l.drop (l.length - (i + 1))) = (chk f (l.drop (l.length - i)) + ((l.getD (l.length - (i + 1)) 0 : Nat) + 1 : Int) * (f ^ i % 4294967291)) % 4294967291 := by
        rw [hdrop, chk_cons, List.length_drop, show l.length - (l.length - i) = i by omega]
      refine q_asg (v := .int (chk f (l.drop (l.length - (i + 1))))) (ev_is (ev_op (ev_cb (ea_cons (ev_op (ev_var rfl) (ev_op (ev_op (ev_cb (ea_cons (ev_op (ev_var rfl) (ev_op (ev_op (ev_is (ev_cb (ea_cons (ev_var rfl) ea_nil) (rc_lenStr hz)) hlen) ev_c rv_I0) (ev_var rfl) rv_I0) (rv_ixS hz (at_codeS (by omega) (by omega)))) ea_nil) (rc_ord rfl)) ev_c rv_I0) (ev_var rfl) (rv_I (.inr ⟨by omega, by omega⟩))) rv_I0) ea_nil) rc_int) ev_c (rv_I (by show (0 : Int) < 4294967291; decide))) (by rw [hc, ← ht]; rfl)) fun H3 e3 => ?_
      refine s_asg (v := .int (f ^ (i + 1) % 4294967291)) (ev_is (ev_op (ev_cb (ea_cons (ev_op (ev_var rfl) (ev_var rfl) (rv_I (.inr ⟨by have := hf.1; omega, by have := hf.2; omega⟩))) ea_nil) rc_int) ev_c (rv_I (by show (0 : Int) < 4294967291; decide))) (congrArg V.int (pow_step f i))) fun H4 e4 => ⟨_, rfl, (eH.trans e3).trans e4⟩
    · rintro σ' H' ⟨k, rfl, eH⟩
      rw [Int.toNat_natCast, Nat.sub_self, List.drop_zero]
      exact s_ret (ev_var rfl) fun H3 e3 => q H3 (eH.trans e3)

/-! ### law_fits -/
theorem ok_law_fits (D : Df K mg "_law_fits" s_law_fits ["text", "runs"]) (T : Txt K mg) (G_mark_of : C8.Cal P w K mg base 2 "mark_of" (sp_mark_of K) []) (G_law_sum : C8.Cal P w K mg base 1 "_law_sum" (sp_law_sum K) []) : C8.Cal P w K mg base 3 "_law_fits" (sp_law_fits K) [] := by
  refine D.cal sc_law_fits (fun vs H Q E h => ?_) (fun f cdv A outer s H vs Q E hr h => ?_)
  · obtain ⟨l, b, rfl, _⟩ := h
    rfl
  · obtain ⟨l, b, rfl, hl, q⟩ := h
    refine ⟨_,
        (pss_cons (ps_set (i := 2) sc_law_fits.nd rfl (.inl rfl) (C8.pe_c G_mark_of hr (by decide) (by rfl) (pa_cons (pv 0) (pa_cons (pv 1) pa_nil))))
        (pss_cons (ps_if (PW.pt (pw_or (pt_not (pt_val (pe_callB call_isi (by rfl) T.n_isinstance (by decide +kernel) (pa_cons (pv 2) (pa_cons (pe_bltn (v := .ty "tuple") (by rfl) T.n_tuple (by decide +kernel) rfl) pa_nil))))) (pw_or (pt_cmpR op_ne (pe_callB call_len_seq (by rfl) T.n_len PySem.boot_len (pa_cons (pv 2) pa_nil)) pe_int (nomark _)) (pw_or1 (pt_not (pt_val (pe_callB call_isi (by rfl) T.n_isinstance (by decide +kernel) (pa_cons (pe_ix ix_tup (pv 2) pe_int (fun _ _ => rfl)) (pa_cons (pe_bltn (v := .ty "bool") (by rfl) T.n_bool (by decide +kernel) rfl) pa_nil)))))))))
          (pss_one (ps_ret pe_bl))
          pss_nil)
        (pss_one (ps_ret (pe_cmpR (op_eqD hr.units) (pv 2) (pe_tup (pa_cons (pe_callB call_len_str (by rfl) T.n_len PySem.boot_len (pa_cons (pv 0) pa_nil)) (pa_cons (C8.pe_c G_law_sum hr (by decide) (by rfl) (pa_cons (pv 0) (pa_cons pe_int pa_nil))) (pa_cons (C8.pe_c G_law_sum hr (by decide) (by rfl) (pa_cons (pv 0) (pa_cons pe_int pa_nil))) (pa_cons (pv 1) pa_nil))))) (nomark _)))))), ?_⟩
    refine q_asgU (eu_call (ea_cons (ev_var rfl) (ea_cons (ev_var rfl) ea_nil)) (fun H1 e Q q E => ⟨l, b, rfl, hl, fun p H2 hp e2 h2 => q p H2 hp e2 h2⟩ : SpU (sp_mark_of K) [.str (SX.S l), .bl b] H (markV l b))) fun p H1 hp e1 h1 => ?_
    refine q_when (b := false) (et_is (et_or (et_not (et_B (ev_cb (ea_cons (ev_var rfl) (ea_cons ev_c ea_nil)) (rc_isTup h1)))) (fun _ => et_or (et_test (ev_op (ev_lenT (ev_var rfl) (st_of h1)) ev_c (rv_ne rfl))) (fun _ => et_not (et_B (ev_cb (ea_cons (ev_op (ev_var rfl) ev_c (rv_ixT (st_of h1) (atI_nat (j := 3) rfl))) (ea_cons ev_c ea_nil)) rc_isBool))))) (by rfl)) (fun hb => by cases hb) (fun _ H2 e2 => ?_)
    have dm : ∀ {p' : Addr} {H3 : Hp}, H3 p' = some (.tup (markV l b)) → ∀ H4, Ex H3 H4 → Dp K H4 (.ref p') (.tuple [.int (l.length : Int), .int (chk 257 l), .int (chk 65599 l), .bool b]) := fun h H4 e4 =>
      Dp.tup (st_of (e4 _ _ h)) (.cons (.int _) (.cons (.int _) (.cons (.int _) (.cons (.bl _) .nil))))
    have shp : SeqAt.shaped (.tuple [.int (l.length : Int), .int (chk 257 l), .int (chk 65599 l), .bool b]) = true := by rfl
    refine s_ret (ev_opU (xs := markV l b) (ev_var rfl) (eu_tup (ea_cons (ev_is (ev_cb (ea_cons (ev_var rfl) ea_nil) (rc_lenStr (by rw [len_S]; omega))) (show V.int ((SX.S l).length : Int) = V.int (l.length : Int) by rw [len_S])) (ea_cons (ev_call (ea_cons (ev_var rfl) (ea_cons ev_c ea_nil)) (sp_chk hl fac1)) (ea_cons (ev_call (ea_cons (ev_var rfl) (ea_cons ev_c ea_nil)) (sp_chk hl fac2)) (ea_cons (ev_var rfl) ea_nil)))) (by show 4 ≤ 100000; decide)) fun p' H3 h3 e3 => rv_eqD (dm (e3 p _ (e2 p _ h1))) (dm h3) shp shp (SeqAt.eqv_refl_plain _ rfl)) fun H3 e3 => q H3 ((e1.trans e2).trans e3)

/-! ### law_continues -/
theorem ok_law_continues (D : Df K mg "_law_continues" s_law_continues ["first", "second"]) (T : Txt K mg) (G_checksum : C8.Cal P w K mg base 1 "checksum" (sp_checksum K) []) : C8.Cal P w K mg base 2 "_law_continues" (sp_law_continues K) [] := by
  refine D.cal sc_law_continues (fun vs H Q E h => ?_) (fun f cdv A outer s H vs Q E hr h => ?_)
  · obtain ⟨l, m, rfl, _⟩ := h
    rfl
  · obtain ⟨l, m, rfl, hl, hm, q⟩ := h
    refine ⟨_,
        (pss_cons (ps_for PassesOwn.never rfl (pi_tup (pe_tup (pa_cons pe_int (pa_cons pe_int pa_nil)))) (pg_name (i := 2) sc_law_continues.nd rfl (.inl rfl))
          (pss_cons (ps_set (i := 3) sc_law_continues.nd rfl (.inl rfl) (pe_callTy call_int1 (by rfl) T.n_int (by decide +kernel) (pa_cons (C8.pe_c G_checksum hr (by decide) (by rfl) (pa_cons (pv 0) (pa_cons (pv 2) pa_nil))) pa_nil)))
          (pss_cons (ps_for PassesOwn.never rfl (pi_str (pv 1)) (pg_name (i := 4) sc_law_continues.nd rfl (.inl rfl))
            (pss_one (ps_set (i := 3) sc_law_continues.nd rfl (.inl rfl) (pe_op op_mod (pe_callTy call_int1 (by rfl) T.n_int (by decide +kernel) (pa_cons (pe_op op_add (pe_op op_add (pe_op op_mul (pv 3) (pv 2)) (pe_callB call_ord (by rfl) T.n_ord (by decide +kernel) (pa_cons (pv 4) pa_nil))) pe_int) pa_nil)) pe_int))))
          (pss_one (ps_if (pt_cmpR op_ne (C8.pe_c G_checksum hr (by decide) (by rfl) (pa_cons (pe_op op_add_str (pv 0) (pv 1)) (pa_cons (pv 2) pa_nil))) (pv 3) (nomark _))
            (pss_one (ps_ret pe_bl))
            pss_nil)))))
        (pss_one (ps_ret pe_bl))), ?_⟩
    refine q_forNT (xs := [.int 257, .int 65599]) (eu_tup (ea_cons ev_c (ea_cons ev_c ea_nil)) (by show 2 ≤ 100000; decide))
      (fun p i σ' H' => (∃ x y z : Option V, σ' = [some (.str (SX.S l)), some (.str (SX.S m)), x, y, z]) ∧ Ex H H' ∧ H' p = some (.tup [.int 257, .int 65599])) (fun p H1 hp e1 h1 => ⟨⟨_, _, _, rfl⟩, e1, h1⟩) (fun p i σ' H' _ h => st_of h.2.2) ?_ ?_
    · rintro p i x σ' H' hi ⟨⟨x0, y0, z0, rfl⟩, eH, hp⟩
      obtain ⟨f, rfl, hf⟩ : ∃ f : Int, x = .int f ∧ facs f := by
        rcases i with _ | _ | i
        · exact ⟨257, (Option.some.inj hi).symm, fac1⟩
        · exact ⟨65599, (Option.some.inj hi).symm, fac2⟩
        · simp at hi
      refine q_asg (ev_cb (ea_cons (ev_call (ea_cons (ev_var rfl) (ea_cons (ev_var rfl) ea_nil)) (sp_chk (by omega) hf)) ea_nil) rc_int) fun H1 e1 => ?_
      refine q_forS (ev_var rfl) (fun i σ' H' => ∃ x : Option V, σ' = [some (.str (SX.S l)), some (.str (SX.S m)), some (.int f), some (.int (chk f (l ++ m.take i))), x] ∧ Ex H H' ∧ H' p = some (.tup [.int 257, .int 65599]))
        (fun H2 e2 => ⟨z0, by rw [List.take_zero, List.append_nil]; rfl, (eH.trans e1).trans e2, e2 p _ (e1 p _ hp)⟩) ?_ ?_
      · rintro j c σ' H' hc ⟨x, rfl, eH, hp⟩
        refine s_asg (ev_op (ev_cb (ea_cons (ev_op (ev_op (ev_op (ev_var rfl) (ev_var rfl) (rv_I (.inr ⟨by have := hf.1; omega, by have := hf.2; omega⟩))) (ev_cb (ea_cons (ev_var rfl) ea_nil) (rc_ord rfl)) rv_I0) ev_c rv_I0) ea_nil) rc_int) ev_c (rv_I (by show (0 : Int) < 4294967291; decide))) fun H2 e2 => ⟨some (.str ⟨#[c]⟩), ?_, eH.trans e2, e2 p _ hp⟩
        have hc' : m[j]? = some c := hc
        rw [List.take_add_one, hc']
        show _ = [some (V.str (SX.S l)), some (V.str (SX.S m)), some (V.int f), some (V.int (chk f (l ++ (m.take j ++ [c])))), some (V.str ⟨#[c]⟩)]
        rw [← List.append_assoc, chk_snoc]
        rfl
      · rintro σ' H' ⟨x, rfl, eH, hp⟩
        have e : m.take (SX.S m).cps.size = m := List.take_of_length_le (by simp)
        rw [e]
        refine s_when (b := false) (et_is (et_test (ev_op (ev_call (ea_cons (ev_is (ev_op (ev_var rfl) (ev_var rfl) (rv_addS (by rw [len_S, len_S]; omega))) (congrArg V.str (SX.S_cat l m))) (ea_cons (ev_var rfl) ea_nil)) (sp_chk (by rw [List.length_append]; omega) hf)) (ev_var rfl) (rv_ne rfl))) (by simp)) (fun hb => by cases hb) (fun _ H2 e2 => ⟨⟨_, _, _, rfl⟩, eH.trans e2, e2 p _ hp⟩)
    · rintro p σ' H' ⟨_, eH, _⟩
      exact s_ret ev_c fun H2 e2 => q H2 (eH.trans e2)

/-! ### law -/
theorem sp_txt {H : Hp} {row x : Int} (h : 0 ≤ x ∧ x < 61) : SpV (sp_law_text K) [.int row, .int ((x.toNat : Nat) : Int)] H (.str (SX.S (lawT row x.toNat))) := fun H1 e Q q E => ⟨row, x.toNat, rfl, by omega, fun H2 e2 => q H2 e2⟩
theorem sp_fit {H : Hp} {l : List Nat} {b : Bool} (h : l.length ≤ 1000) : SpV (sp_law_fits K) [.str (SX.S l), .bl b] H (.bl true) := fun H1 e Q q E => ⟨l, b, rfl, h, fun H2 e2 => q H2 e2⟩
theorem sp_con {H : Hp} {l m : List Nat} (h : l.length ≤ 400) (h2 : m.length ≤ 400) : SpV (sp_law_continues K) [.str (SX.S l), .str (SX.S m)] H (.bl true) := fun H1 e Q q E => ⟨l, m, rfl, h, h2, fun H2 e2 => q H2 e2⟩
theorem ok_law {f : Addr} {fd : FuncData} (F : Fun K "law" "law" s_law f fd) (T : Txt K mg) (G_checksum : C8.Cal P w K mg base 1 "checksum" (sp_checksum K) []) (G_law_rows : C8.Cal P w K mg base 1 "_law_rows" (sp_law_rows K) []) (G_law_text : C8.Cal P w K mg base 1 "_law_text" (sp_law_text K) []) (G_law_fits : C8.Cal P w K mg base 3 "_law_fits" (sp_law_fits K) []) (G_law_continues : C8.Cal P w K mg base 2 "_law_continues" (sp_law_continues K) []) : FnOk P w K mg base CX0 4 f fd ["script"] (spLaw K) := by
  refine F.ok sc_law (fun vs H Q E h => ?_) (fun cdv A outer s H vs Q E hr h => ?_)
  · obtain ⟨a, ns, rfl, _⟩ := h
    rfl
  · obtain ⟨a, ns, rfl, hS, hl, q⟩ := h
    refine ⟨_,
        (pss_cons (ps_set (i := 1) sc_law.nd rfl (.inr rfl) (C8.pe_c G_law_rows hr (by decide) (by rfl) (pa_cons (pv 0) (pa_cons pe_int pa_nil))))
        (pss_cons (ps_setLc (i := 3) (own := [("k", 2)]) (g := gName 2) (tt := tYes) rfl sc_law.nd rfl rfl (sw_true rfl rfl rfl (by decide +kernel)) (pi_range1 (by rfl) T.n_range (pa_cons pe_int pa_nil)) (blkOk_by (own := [("k", 2)]) (N := ["script", "rows", "k", "texts", "runs", "at", "other", "factor"]) (sc := defScope s_law) (by decide +kernel)) (fun _ _ _ _ _ => (pg_name (i := 2) sc_law.nd rfl (Or.inl rfl))) (fun _ _ _ _ _ => pts_nil) (fun _ _ _ _ _ => (C8.pe_c G_law_text hr (by decide) (by rfl) (pa_cons (pe_ix (show IxR _ (rIxL K) from ix_list) (pv 1) (pv 2) (fun _ _ => rfl)) (pa_cons (pe_op op_mod (pe_callTy call_int1 (by rfl) T.n_int (by decide +kernel) (pa_cons (pe_ix (show IxR _ (rIxL K) from ix_list) (pv 1) (pe_op op_add (pv 2) pe_int) (fun _ _ => rfl)) pa_nil)) pe_int) pa_nil)))))
        (pss_cons (ps_for PassesOwn.never rfl (pi_range1 (by rfl) T.n_range (pa_cons pe_int pa_nil)) (pg_name (i := 2) sc_law.nd rfl (.inl rfl))
          (pss_cons (ps_set (i := 4) sc_law.nd rfl (.inl rfl) (pe_cmpR op_eq (pe_op op_mod (pe_callTy call_int1 (by rfl) T.n_int (by decide +kernel) (pa_cons (pe_op op_fdiv (pe_ix ix_list (pv 1) (pv 2) (fun _ _ => rfl)) pe_int) pa_nil)) pe_int) pe_int (nomark _)))
          (pss_one (ps_if (PW.pt (pw_or (pt_not (pt_val (C8.pe_c G_law_fits hr (by decide) (by rfl) (pa_cons (pe_ix ix_list (pv 3) (pv 2) (fun _ _ => rfl)) (pa_cons (pv 4) pa_nil))))) (pw_or1 (pt_not (pt_val (C8.pe_c G_law_fits hr (by decide) (by rfl) (pa_cons (pe_op op_add_str (pe_ix ix_list (pv 3) (pv 2) (fun _ _ => rfl)) (pe_ix ix_list (pv 3) pe_int (fun _ _ => rfl))) (pa_cons (pe_not (pv 4)) pa_nil))))))))
            (pss_one (ps_ret pe_bl))
            pss_nil))))
        (pss_cons (ps_if (pt_not (pt_val (C8.pe_c G_law_continues hr (by decide) (by rfl) (pa_cons (pe_ix ix_list (pv 3) pe_int (fun _ _ => rfl)) (pa_cons (pe_ix ix_list (pv 3) pe_int (fun _ _ => rfl)) pa_nil)))))
          (pss_one (ps_ret pe_bl))
          pss_nil)
        (pss_cut (ps_if (pt_cmpR op_gt (pe_callB call_len_str (by rfl) T.n_len PySem.boot_len (pa_cons (pe_ix ix_list (pv 3) pe_int (fun _ _ => rfl)) pa_nil)) pe_int (nomark _))
          (pss_cons (ps_set (i := 5) sc_law.nd rfl (.inl rfl) (pe_op op_mod (pe_callTy call_int1 (by rfl) T.n_int (by decide +kernel) (pa_cons (pe_ix ix_list (pv 1) pe_int (fun _ _ => rfl)) pa_nil)) (pe_callB call_len_str (by rfl) T.n_len PySem.boot_len (pa_cons (pe_ix ix_list (pv 3) pe_int (fun _ _ => rfl)) pa_nil))))
          (pss_cons (ps_set (i := 6) sc_law.nd rfl (.inl rfl) (pe_op op_add_str (pe_op op_add_str (pe_slice sl_str (pe_ix ix_list (pv 3) pe_int (fun _ _ => rfl)) po_none (po_some (pv 5))) (pe_ifExp (pt_cmpR op_eq (pe_ix ix_str (pe_ix ix_list (pv 3) pe_int (fun _ _ => rfl)) (pv 5) (fun _ _ => rfl)) pe_str (nomark _)) pe_str pe_str)) (pe_slice sl_str (pe_ix ix_list (pv 3) pe_int (fun _ _ => rfl)) (po_some (pe_op op_add (pv 5) pe_int)) po_none)))
          (pss_one (ps_for PassesOwn.never rfl (pi_tup (pe_tup (pa_cons pe_int (pa_cons pe_int pa_nil)))) (pg_name (i := 7) sc_law.nd rfl (.inl rfl))
            (pss_one (ps_if (pt_cmpR op_eq (C8.pe_c G_checksum hr (by decide) (by rfl) (pa_cons (pv 6) (pa_cons (pv 7) pa_nil))) (C8.pe_c G_checksum hr (by decide) (by rfl) (pa_cons (pe_ix ix_list (pv 3) pe_int (fun _ _ => rfl)) (pa_cons (pv 7) pa_nil))) (nomark _))
              (pss_one (ps_ret pe_bl))
              pss_nil))))))
          pss_nil)
        (pss_one (ps_ret (pe_cmpR op_eq (C8.pe_c G_checksum hr (by decide) (by rfl) (pa_cons pe_str (pa_cons pe_int pa_nil))) pe_int (nomark _))))))))), ?_⟩
    refine q_asgRows (n := 6) (ev_rows (ea_cons (ev_var rfl) (ea_cons ev_c ea_nil)) hS hl (by decide)) fun p rs H1 hp e1 h1 hr h0 => ?_
    let tx : Nat → List Nat := fun i => lawT (rs.getD (i : Int).toNat 0) (rs.getD ((i : Int) + 3).toNat 0 % 61).toNat
    have txl : ∀ i, (tx i).length ≤ 60 := fun i => by
      have := mod_bd (rs.getD ((i : Int) + 3).toNat 0) 61 (by decide)
      show (lawT _ _).length ≤ 60
      rw [lawT_len]
      omega
    refine q_asgL (el_lcR1 (n := 3) (fun _ => true) (fun i => V.str (SX.S (tx i))) (ea_cons ev_c ea_nil) ⟨by decide, by decide⟩ (fun _ => rfl) (fun _ _ _ _ => et_yes) (fun i H2 e2 hi _ => ?_)) fun t H3 ht0 e3 ht => ?_
    · have hm := mod_bd (rs.getD ((i : Int) + 3).toNat 0) 61 (by decide)
      exact ev_call (ea_cons (ev_op (ev_var rfl) (ev_var rfl) (rv_ixL (sq_of (e2 p _ h1)) (at_int (by omega) (by omega)))) (ea_cons (ev_is (ev_op (ev_cb (ea_cons (ev_op (ev_var rfl) (ev_op (ev_var rfl) ev_c rv_I0) (rv_ixL (sq_of (e2 p _ h1)) (at_int (by omega) (by omega)))) ea_nil) rc_int) ev_c (rv_I (by show (0 : Int) < 61; decide))) (congrArg V.int (Int.toNat_of_nonneg hm.1).symm)) ea_nil)) (sp_txt hm)
    rw [given_all] at ht
    have hT : ∀ (i : Nat) {σ : L2.St} {ti : TE} {H' : Hp}, i < 3 → Ex H3 H' → σ[3]? = some (some (.ref t)) → Ev ti σ H' (.int (i : Int)) → Ev (tOp (rIxL K) (tVar 3) ti) σ H' (.str (SX.S (tx i))) := fun i _ _ _ hi e h3 hti =>
      ev_op (ev_var h3) hti (rv_ixL (sq_of (e t _ ht)) (at_range hi))
    refine q_forR1 (n := 3) (ea_cons ev_c ea_nil) ⟨by decide, by decide⟩
      (fun i σ' H' => ∃ k r : Option V, σ' = [some (.ref a), some (.ref p), k, some (.ref t), r, none, none, none] ∧ Ex H3 H') (fun H4 e4 => ⟨_, _, rfl, e4⟩) ?_ ?_
    · rintro i σ' H' hi ⟨k, r, rfl, eH⟩
      have hi3 : i < 3 := by omega
      refine q_asg (ev_op (ev_op (ev_cb (ea_cons (ev_op (ev_op (ev_var rfl) (ev_var rfl) (rv_ixL (sq_of (eH p _ (e3 p _ h1))) (at_int (by omega) (by omega)))) ev_c (rv_I ⟨by decide, by decide⟩)) ea_nil) rc_int) ev_c (rv_I (by show (0 : Int) < 2; decide))) ev_c (rv_eq rfl)) fun H4 e4 => ?_
      have eH4 := eH.trans e4
      refine s_when (b := false) (et_is (et_or (et_not (et_B (ev_call (ea_cons (hT i hi3 eH4 rfl (ev_var rfl)) (ea_cons (ev_var rfl) ea_nil)) (sp_fit (by have := txl i; omega))))) (fun _ => et_not (et_B (ev_call (ea_cons (ev_is (ev_op (hT i hi3 eH4 rfl (ev_var rfl)) (hT 0 (by decide) eH4 rfl ev_c) (rv_addS (by rw [len_S, len_S]; have := txl i; have := txl 0; omega))) (congrArg V.str (SX.S_cat _ _))) (ea_cons (ev_notV (ev_var rfl)) ea_nil)) (sp_fit (by rw [List.length_append]; have := txl i; have := txl 0; omega)))))) (by rfl)) (fun hb => by cases hb) (fun _ H5 e5 => ⟨_, _, rfl, eH4.trans e5⟩)
    rintro σ' H' ⟨k, r, rfl, eH⟩
    refine q_when (b := false) (et_is (et_not (et_B (ev_call (ea_cons (hT 1 (by decide) eH rfl ev_c) (ea_cons (hT 2 (by decide) eH rfl ev_c) ea_nil)) (sp_con (by have := txl 1; omega) (by have := txl 2; omega))))) (by rfl)) (fun hb => by cases hb) (fun _ H4 e4 => ?_)
    have eH4 := eH.trans e4
    have hlen : V.int ((SX.S (tx 0)).length : Int) = V.int ((tx 0).length : Int) := by rw [len_S]
    have hz : (SX.S (tx 0)).length ≤ 100000 := by rw [len_S]; have := txl 0; omega
    refine q_cut (M := fun _ _ => True) ?_ ?_
    · refine s_when (et_test (ev_op (ev_is (ev_cb (ea_cons (hT 0 (by decide) eH4 rfl ev_c) ea_nil) (rc_lenStr hz)) hlen) ev_c rv_I0)) (fun hb H5 e5 => ?_) (fun _ _ _ => trivial)
      have hpos := of_decide_eq_true hb
      have eH5 := eH4.trans e5
      have hm := mod_bd (rs.getD (0 : Int).toNat 0) ((tx 0).length : Int) hpos
      obtain ⟨at_, hat⟩ := Int.eq_ofNat_of_zero_le hm.1
      have hlt : at_ < (tx 0).length := by omega
      refine q_asg (v := .int (at_ : Int)) (ev_is (ev_op (ev_cb (ea_cons (ev_op (ev_var rfl) ev_c (rv_ixL (sq_of (eH5 p _ (e3 p _ h1))) (at_int (by decide) (by omega)))) ea_nil) rc_int) (ev_is (ev_cb (ea_cons (hT 0 (by decide) eH5 rfl ev_c) ea_nil) (rc_lenStr hz)) hlen) (rv_I hpos)) (congrArg V.int hat)) fun H6 e6 => ?_
      have eH6 := eH5.trans e6
      have hcm := lawT_ok _ _ _ (memD (d := 0) hlt : (tx 0).getD at_ 0 ∈ tx 0)
      refine q_asg (v := .str (SX.S ((tx 0).take at_ ++ ([35] ++ (tx 0).drop (at_ + 1))))) (ev_is (ev_op (ev_op (ev_cutS (hT 0 (by decide) eH6 rfl ev_c) eo_none (eo_some (ev_var rfl)) hz) (ev_if (v := .str (SX.S [35])) (et_test (ev_op (ev_op (hT 0 (by decide) eH6 rfl ev_c) (ev_var rfl) (rv_ixS hz (at_codeS (by omega) (by omega)))) ev_c (rv_eq rfl))) (fun hb => ?_) (fun _ => ev_is ev_c (congrArg V.str (by decide +kernel)))) (rv_addS ?_)) (ev_cutS (hT 0 (by decide) eH6 rfl ev_c) (eo_some (ev_op (ev_var rfl) ev_c rv_I0)) eo_none hz) (rv_addS ?_)) (congrArg V.str ?_)) fun H7 e7 => ?_
      · have h35 : (tx 0).getD (at_ : Int).toNat 0 = 35 := by
          have h2 := dec_str1 (c := (tx 0).getD (at_ : Int).toNat 0) (show Str.ofString "#" = ⟨#[35]⟩ by decide +kernel)
          rw [hb] at h2
          exact of_decide_eq_true h2.symm
        rw [Int.toNat_natCast] at h35
        exact absurd h35 hcm.2
      · rw [cut_to, len_S, len_S, List.length_take]
        have := txl 0
        show _ + 1 ≤ 100000
        omega
      · rw [cut_to, show (at_ : Int) + 1 = ((at_ + 1 : Nat) : Int) by omega, cut_from, SX.S_cat, len_S, len_S, List.length_append, List.length_take, List.length_drop]
        have := txl 0
        show _ + 1 + _ ≤ 100000
        omega
      · rw [cut_to, show (at_ : Int) + 1 = ((at_ + 1 : Nat) : Int) by omega, cut_from, SX.S_cat, SX.S_cat, List.append_assoc]
      have hsp : tx 0 = (tx 0).take at_ ++ ([(tx 0).getD at_ 0] ++ (tx 0).drop (at_ + 1)) := by
        have h1 := (List.take_append_drop at_ (tx 0)).symm
        rw [List.drop_eq_getElem_cons hlt] at h1
        rw [List.getD_eq_getElem?_getD, List.getElem?_eq_getElem hlt]
        exact h1
      have hol : ((tx 0).take at_ ++ ([35] ++ (tx 0).drop (at_ + 1))).length ≤ 1000 := by
        rw [List.length_append, List.length_append, List.length_take, List.length_drop]
        have := txl 0
        show _ + (1 + _) ≤ 1000
        omega
      refine s_forNT (xs := [.int 257, .int 65599]) (eu_tup (ea_cons ev_c (ea_cons ev_c ea_nil)) (by show 2 ≤ 100000; decide))
        (fun p' i σ' H' => (∃ y : Option V, σ' = [some (.ref a), some (.ref p), k, some (.ref t), r, some (.int (at_ : Int)), some (.str (SX.S ((tx 0).take at_ ++ ([35] ++ (tx 0).drop (at_ + 1))))), y]) ∧ Ex H3 H' ∧ H' p' = some (.tup [.int 257, .int 65599])) (fun p' H8 hp8 e8 h8 => ⟨⟨_, rfl⟩, (eH6.trans e7).trans e8, h8⟩) (fun p i σ' H' _ h => st_of h.2.2) ?_ (fun _ _ _ _ => trivial)
      rintro p' i x σ' H' hi ⟨⟨y, rfl⟩, eH8, hp8⟩
      obtain ⟨f, rfl, hf, g, q0, hg⟩ : ∃ f : Int, x = .int f ∧ facs f ∧ ∃ g q : Int, f * g = 1 + 4294967291 * q := by
        rcases i with _ | _ | i
        · exact ⟨257, (Option.some.inj hi).symm, fac1, 3225403452, 193, by decide⟩
        · exact ⟨65599, (Option.some.inj hi).symm, fac2, 1858190928, 28381, by decide⟩
        · simp at hi
      refine s_when (b := false) (et_is (et_test (ev_op (ev_call (ea_cons (ev_var rfl) (ea_cons (ev_var rfl) ea_nil)) (sp_chk hol hf)) (ev_call (ea_cons (hT 0 (by decide) eH8 rfl ev_c) (ea_cons (ev_var rfl) ea_nil)) (sp_chk (by have := txl 0; omega) hf)) (rv_eq rfl))) ?_) (fun hb => by cases hb) (fun _ H9 e9 => ⟨⟨_, rfl⟩, eH8.trans e9, e9 p' _ hp8⟩)
      refine decide_eq_false fun hc => ?_
      have hc3 := chk_diff hg (by decide) hcm.1 ((V.int.inj hc).trans (congrArg (chk f) hsp))
      exact hcm.2 hc3.symm
    · intro σ' H' _
      exact s_ret (ev_op (ev_call (ea_cons (ev_is ev_c (congrArg V.str (show Str.ofString "" = SX.S [] by decide +kernel))) (ea_cons ev_c ea_nil)) (sp_chk (by show 0 ≤ 1000; decide) fac1)) ev_c (rv_eq rfl)) fun H5 e5 => q H5

end
/-! ### what the top has made; the law's own head -/
theorem all_mk {l : PySem.W.OpenLaw} {w : World} {K : PySem.W.Frag} {h : Heap} {mg : Str → Option Value} {fa f1 f2 f3 f4 f5 f6 f7 f8 : Addr} (X : K.In h) (G : h.Ns mainGlobals mg) (hfa : mg "law" = some (.ref fa)) {t1 t2 t3 : Tok}
    {od1 an1 od2 an2 od3 an3 od4 an4 od5 an5 od6 an6 od7 an7 od8 an8 : Option Addr} {sl1 sl2 sl3 sl4 sl5 sl6 sl7 sl8 : Array (Option Value)} {oc1 kV1 dc1 pm1 cd1 ct1 oc2 kV2 dc2 pm2 cd2 ct2 oc3 kV3 dc3 pm3 cd3 ct3 oc4 kV4 dc4 pm4 cd4 ct4 oc5 kV5 dc5 pm5 cd5 ct5 oc6 kV6 dc6 pm6 cd6 ct6 oc7 kV7 dc7 pm7 cd7 ct7 oc8 kV8 dc8 pm8 cd8 ct8 : Value}
    (a1 : PySem.W.nsIn K mainGlobals "checksum" = some (some (.ref f1))) (l1 : K.lookup f1 = some ⟨oc1, od1, .func (PySem.W.fnOf "checksum" "checksum" (defArgs s_checksum) (defBody s_checksum) (defScope s_checksum) .none kV1 dc1 pm1 an1 cd1 ct1), sl1⟩) (c1 : PySem.W.codeIn K cd1 "checksum" = true) (k1 : PySem.W.keepIn K (.ref f1) = true)
    (a2 : PySem.W.nsIn K mainGlobals "mark_of" = some (some (.ref f2))) (l2 : K.lookup f2 = some ⟨oc2, od2, .func (PySem.W.fnOf "mark_of" "mark_of" (defArgs s_mark_of) (defBody s_mark_of) (defScope s_mark_of) .none kV2 dc2 pm2 an2 cd2 ct2), sl2⟩) (c2 : PySem.W.codeIn K cd2 "mark_of" = true) (k2 : PySem.W.keepIn K (.ref f2) = true)
    (a3 : PySem.W.nsIn K mainGlobals "_law_rows" = some (some (.ref f3))) (l3 : K.lookup f3 = some ⟨oc3, od3, .func (PySem.W.fnOf "_law_rows" "_law_rows" (defArgs s_law_rows) (defBody s_law_rows) (defScope s_law_rows) .none kV3 dc3 pm3 an3 cd3 ct3), sl3⟩) (c3 : PySem.W.codeIn K cd3 "_law_rows" = true) (k3 : PySem.W.keepIn K (.ref f3) = true)
    (a4 : PySem.W.nsIn K mainGlobals "_law_text" = some (some (.ref f4))) (l4 : K.lookup f4 = some ⟨oc4, od4, .func (PySem.W.fnOf "_law_text" "_law_text" (defArgs s_law_text) (defBody s_law_text) (defScope s_law_text) .none kV4 dc4 pm4 an4 cd4 ct4), sl4⟩) (c4 : PySem.W.codeIn K cd4 "_law_text" = true) (k4 : PySem.W.keepIn K (.ref f4) = true)
    (a5 : PySem.W.nsIn K mainGlobals "_law_sum" = some (some (.ref f5))) (l5 : K.lookup f5 = some ⟨oc5, od5, .func (PySem.W.fnOf "_law_sum" "_law_sum" (defArgs s_law_sum) (defBody s_law_sum) (defScope s_law_sum) .none kV5 dc5 pm5 an5 cd5 ct5), sl5⟩) (c5 : PySem.W.codeIn K cd5 "_law_sum" = true) (k5 : PySem.W.keepIn K (.ref f5) = true)
    (a6 : PySem.W.nsIn K mainGlobals "_law_fits" = some (some (.ref f6))) (l6 : K.lookup f6 = some ⟨oc6, od6, .func (PySem.W.fnOf "_law_fits" "_law_fits" (defArgs s_law_fits) (defBody s_law_fits) (defScope s_law_fits) .none kV6 dc6 pm6 an6 cd6 ct6), sl6⟩) (c6 : PySem.W.codeIn K cd6 "_law_fits" = true) (k6 : PySem.W.keepIn K (.ref f6) = true)
    (a7 : PySem.W.nsIn K mainGlobals "_law_continues" = some (some (.ref f7))) (l7 : K.lookup f7 = some ⟨oc7, od7, .func (PySem.W.fnOf "_law_continues" "_law_continues" (defArgs s_law_continues) (defBody s_law_continues) (defScope s_law_continues) .none kV7 dc7 pm7 an7 cd7 ct7), sl7⟩) (c7 : PySem.W.codeIn K cd7 "_law_continues" = true) (k7 : PySem.W.keepIn K (.ref f7) = true)
    (a8 : PySem.W.nsIn K mainGlobals "law" = some (some (.ref f8))) (l8 : K.lookup f8 = some ⟨oc8, od8, .func (PySem.W.fnOf "law" "law" (defArgs s_law) (defBody s_law) (defScope s_law) .none kV8 dc8 pm8 an8 cd8 ct8), sl8⟩) (c8 : PySem.W.codeIn K cd8 "law" = true) (k8 : PySem.W.keepIn K (.ref f8) = true)
    (z1 : PySem.W.nsIn K mainGlobals "bool" = some none) (z2 : PySem.W.nsIn K mainGlobals "int" = some none) (z3 : PySem.W.nsIn K mainGlobals "isinstance" = some none) (z4 : PySem.W.nsIn K mainGlobals "len" = some none) (z5 : PySem.W.nsIn K mainGlobals "ord" = some none) (z6 : PySem.W.nsIn K mainGlobals "range" = some none) (z7 : PySem.W.nsIn K mainGlobals "tuple" = some none) (g1 : PySem.W.nsIn K mainGlobals "HIGH_FACTOR" = some (some (.int 65599 t1))) (g2 : PySem.W.nsIn K mainGlobals "LOW_FACTOR" = some (some (.int 257 t2))) (g3 : PySem.W.nsIn K mainGlobals "MODULUS" = some (some (.int 4294967291 t3))) :
    ∃ fd : FuncData, (∀ (s : Shared) (v : Value), BindsTo s fd ⟨[v], []⟩ [("script", v)]) ∧ ∀ base : Heap, K.In base → base.Ns mainGlobals mg → FnOk l.prog w K mg base CX0 4 fa fd ["script"] (spLaw K) := by
  have e := hfa.symm.trans (PySem.W.mg_of X G a8)
  cases e
  have T : Txt K mg := ⟨PySem.W.mg_none_of X G z1, PySem.W.mg_none_of X G z2, PySem.W.mg_none_of X G z3, PySem.W.mg_none_of X G z4, PySem.W.mg_none_of X G z5, PySem.W.mg_none_of X G z6, PySem.W.mg_none_of X G z7, ⟨_, PySem.W.mg_of X G g1, ⟨_, rfl⟩⟩, ⟨_, PySem.W.mg_of X G g2, ⟨_, rfl⟩⟩, ⟨_, PySem.W.mg_of X G g3, ⟨_, rfl⟩⟩⟩
  have F1 := fun_mk (st := s_checksum) l1 c1 k1
  have D1 : Df K mg "checksum" s_checksum ["text", "factor"] := ⟨_, _, F1, PySem.W.mg_of X G a1, F1.binds (ps := ["text", "factor"]) fun _ _ _ _ _ _ us hl => match us, hl with | [_, _], _ => rfl⟩
  have F2 := fun_mk (st := s_mark_of) l2 c2 k2
  have D2 : Df K mg "mark_of" s_mark_of ["text", "runs"] := ⟨_, _, F2, PySem.W.mg_of X G a2, F2.binds (ps := ["text", "runs"]) fun _ _ _ _ _ _ us hl => match us, hl with | [_, _], _ => rfl⟩
  have F3 := fun_mk (st := s_law_rows) l3 c3 k3
  have D3 : Df K mg "_law_rows" s_law_rows ["script", "count"] := ⟨_, _, F3, PySem.W.mg_of X G a3, F3.binds (ps := ["script", "count"]) fun _ _ _ _ _ _ us hl => match us, hl with | [_, _], _ => rfl⟩
  have F4 := fun_mk (st := s_law_text) l4 c4 k4
  have D4 : Df K mg "_law_text" s_law_text ["row", "size"] := ⟨_, _, F4, PySem.W.mg_of X G a4, F4.binds (ps := ["row", "size"]) fun _ _ _ _ _ _ us hl => match us, hl with | [_, _], _ => rfl⟩
  have F5 := fun_mk (st := s_law_sum) l5 c5 k5
  have D5 : Df K mg "_law_sum" s_law_sum ["text", "factor"] := ⟨_, _, F5, PySem.W.mg_of X G a5, F5.binds (ps := ["text", "factor"]) fun _ _ _ _ _ _ us hl => match us, hl with | [_, _], _ => rfl⟩
  have F6 := fun_mk (st := s_law_fits) l6 c6 k6
  have D6 : Df K mg "_law_fits" s_law_fits ["text", "runs"] := ⟨_, _, F6, PySem.W.mg_of X G a6, F6.binds (ps := ["text", "runs"]) fun _ _ _ _ _ _ us hl => match us, hl with | [_, _], _ => rfl⟩
  have F7 := fun_mk (st := s_law_continues) l7 c7 k7
  have D7 : Df K mg "_law_continues" s_law_continues ["first", "second"] := ⟨_, _, F7, PySem.W.mg_of X G a7, F7.binds (ps := ["first", "second"]) fun _ _ _ _ _ _ us hl => match us, hl with | [_, _], _ => rfl⟩
  have F8 := fun_mk (st := s_law) l8 c8 k8
  refine ⟨PySem.W.fnOf "law" "law" (defArgs s_law) (defBody s_law) (defScope s_law) .none kV8 dc8 pm8 an8 cd8 ct8, fun s v => .of_eq rfl, fun base _ _ => ?_⟩
  have G_checksum := ok_checksum (P := l.prog) (w := w) (base := base) D1 T 
  have G_law_rows := ok_law_rows (P := l.prog) (w := w) (base := base) D3 T 
  have G_law_text := ok_law_text (P := l.prog) (w := w) (base := base) D4 T 
  have G_mark_of := ok_mark_of (P := l.prog) (w := w) (base := base) D2 T G_checksum
  have G_law_sum := ok_law_sum (P := l.prog) (w := w) (base := base) D5 T 
  have G_law_fits := ok_law_fits (P := l.prog) (w := w) (base := base) D6 T G_mark_of G_law_sum
  have G_law_continues := ok_law_continues (P := l.prog) (w := w) (base := base) D7 T G_checksum
  exact ok_law F8 T G_checksum G_law_rows G_law_text G_law_fits G_law_continues
end K09
open PySem PySem.W PyProof.Rows
set_option maxHeartbeats 0 in
theorem PySem.Challenge.cw_foldkeep_k09_marks_of_texts_holds : PySem.Challenge.rw_foldkeep_k09_marks_of_texts.Holds := by
  w_on; o_law; k_head; (case hw => w_witness2)
  k_fill
  refine L2.walk_of (l := PySem.Challenge.rw_foldkeep_k09_marks_of_texts) (n := 63) (k := 4) (x := "script") (CX := fun _ => L2.CX0) (sp := fun w => Lw.spLaw _) rfl (by decide) rfl ⟨rfl, by decide, by decide⟩ (fun w h Y => PySem.W.kIn_of Y) ?F (fun _ _ a ns hl _ hS => ⟨a, ns, rfl, hS, hl, fun _ => rfl⟩) (fun _ _ _ _ _ h => h)
  case F =>
    intro w mg fa h KX G hmg
    refine' K09.all_mk KX G hmg ?a1 ?l1 ?c1 ?k1 ?a2 ?l2 ?c2 ?k2 ?a3 ?l3 ?c3 ?k3 ?a4 ?l4 ?c4 ?k4 ?a5 ?l5 ?c5 ?k5 ?a6 ?l6 ?c6 ?k6 ?a7 ?l7 ?c7 ?k7 ?a8 ?l8 ?c8 ?k8 ?z1 ?z2 ?z3 ?z4 ?z5 ?z6 ?z7 ?g1 ?g2 ?g3
    (case a1 => k_is); (case l1 => k_is); (case c1 => k_is); (case k1 => k_is)
    (case a2 => k_is); (case l2 => k_is); (case c2 => k_is); (case k2 => k_is)
    (case a3 => k_is); (case l3 => k_is); (case c3 => k_is); (case k3 => k_is)
    (case a4 => k_is); (case l4 => k_is); (case c4 => k_is); (case k4 => k_is)
    (case a5 => k_is); (case l5 => k_is); (case c5 => k_is); (case k5 => k_is)
    (case a6 => k_is); (case l6 => k_is); (case c6 => k_is); (case k6 => k_is)
    (case a7 => k_is); (case l7 => k_is); (case c7 => k_is); (case k7 => k_is)
    (case a8 => k_is); (case l8 => k_is); (case c8 => k_is); (case k8 => k_is)
    (case z1 => k_is); (case z2 => k_is); (case z3 => k_is); (case z4 => k_is)
    (case z5 => k_is); (case z6 => k_is); (case z7 => k_is); (case g1 => k_is)
    (case g2 => k_is); (case g3 => k_is)
#print axioms PySem.Challenge.cw_foldkeep_k09_marks_of_texts_holds
