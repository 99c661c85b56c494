import PyProof.Rows.All
import Wide.All
import OpenK.AllK
import Wide.FinOn
import HandS.ForMost
import HandS.Codes
import HandS.Evl
import HandS.IsInst
import KE.DataEq
import PySem.Challenge.RW_foldkeep_k03_paths
set_option Elab.async false
set_option linter.all false
set_option maxRecDepth 100000
set_option maxHeartbeats 4000000
/-! what the laws' helpers share: values, texts, cells -/
namespace Lw
open PySem PySem.Spec PyProof.Rows L2 Evl

/-! ### small readings -/
section
variable {K : PySem.W.Frag} {σ : L2.St} {H H' : Hp} {ta tb te tx : TE} {t u : TT} {x y z v : V}
theorem rc_int {i : Int} : RC (fun xs H Q => (∃ i, xs = [V.int i] ∧ Q (V.int i) H) ∨ ∃ k, xs = [V.bl k] ∧ Q (V.int (if k = true then 1 else 0)) H) [.int i] H (.int i) :=
  fun H1 _ _ q => Or.inl ⟨i, rfl, q H1 (Ex.refl H1)⟩
theorem rc_lenStr {a : Str} (h : a.length ≤ 100000) : RC (fun xs H Q => ∃ z : Str, xs = [V.str z] ∧ z.length ≤ sizeLine ∧ Q (V.int z.length) H) [.str a] H (.int a.length) :=
  fun H1 _ _ q => ⟨a, rfl, sz_of h, q H1 (Ex.refl H1)⟩
theorem rc_ord {a : Str} (h : a.length = 1) : RC (fun xs H Q => ∃ x : Str, xs = [V.str x] ∧ x.length = 1 ∧ Q (V.int (x.cps.getD 0 0 : Nat)) H) [.str a] H (.int (a.cps.getD 0 0 : Nat)) :=
  fun H1 _ _ q => ⟨a, rfl, h, q H1 (Ex.refl H1)⟩
theorem rv_addS {a b : Str} (h : a.length + b.length ≤ 100000) : RV (fun x y H Q => ∃ i j, x = .str i ∧ y = .str j ∧ i.length + j.length ≤ sizeLine ∧ Q (.str (i ++ j)) H) (.str a) (.str b) H (.str (a ++ b)) :=
  fun H1 _ _ q => ⟨a, b, rfl, rfl, sz_of h, q H1 (Ex.refl H1)⟩
theorem rv_inSign {c : Nat} {a z : Str} (e : a = ⟨#[c]⟩) : RV (fun x y H Q => ∃ (c : Nat) (z : Str), x = .str ⟨#[c]⟩ ∧ y = .str z ∧ Q (.bl (decide (c ∈ z.cps.toList))) H) (.str a) (.str z) H (.bl (decide (c ∈ z.cps.toList))) :=
  fun H1 _ _ q => ⟨c, z, by rw [e], rfl, q H1 (Ex.refl H1)⟩
/-- a text times a small number -/
def rMulStr : R2 := fun x y H Q => ∃ (a : Str) (n : Int), x = .str a ∧ y = .int n ∧ 1 ≤ n ∧ n ≤ 20000 ∧ a.length ≤ 200 ∧ Q (.str (Txt.mul a n)) H
theorem op_mul_str {X : Cx} : OpR X (binaryOp .Mult) rMulStr := by
  intro pins s σ H x y v u Q I rx ry h
  obtain ⟨a, n, rfl, rfl, h1, h2, h3, q⟩ := h
  obtain ⟨t, rfl⟩ := rx
  obtain ⟨t', rfl⟩ := ry
  refine SB.mul (n := n) ⟨?_, fun _ _ => ?_, fun _ _ => ?_⟩ fun t' k => ⟨.str (Txt.mul a n), H, I.tok _, ⟨_, rfl⟩, q⟩
  · rw [decide_eq_false (by omega), decide_eq_false (by omega)]
    rfl
  · have : (2 ^ 63 - 1) / n ≥ 200 := by
      refine (Int.le_ediv_iff_mul_le (by omega)).mpr ?_
      omega
    omega
  · have e : a.length * n.toNat ≤ 200 * 20000 := Nat.mul_le_mul h3 (by omega)
    exact decide_eq_false (by show ¬ a.length * n.toNat > 2 ^ 24; omega)
theorem rv_mulStr {a : Str} {n : Int} (h1 : 1 ≤ n) (h2 : n ≤ 20000) (h3 : a.length ≤ 200) : RV rMulStr (.str a) (.int n) H (.str (Txt.mul a n)) :=
  fun H1 _ _ q => ⟨a, n, rfl, rfl, h1, h2, h3, q H1 (Ex.refl H1)⟩
theorem rc_max2 {i j : Int} : RC (fun xs H Q => ∃ i j : Int, xs = [V.int i, V.int j] ∧ Q (V.int (if j > i then j else i)) H) [.int i, .int j] H (.int (if j > i then j else i)) :=
  fun H1 _ _ q => ⟨i, j, rfl, q H1 (Ex.refl H1)⟩
theorem rc_min2 {i j : Int} : RC (fun xs H Q => ∃ i j : Int, xs = [V.int i, V.int j] ∧ Q (V.int (if j < i then j else i)) H) [.int i, .int j] H (.int (if j < i then j else i)) :=
  fun H1 _ _ q => ⟨i, j, rfl, q H1 (Ex.refl H1)⟩
theorem et_yes : EvT tYes σ H true := fun H1 _ _ q => q H1 (Ex.refl H1)
/-- a slice of a text -/
theorem ev_cutS {tl th : TO} {z : Str} {lo hi : Option Int} (h : Ev te σ H (.str z)) (h1 : EvO tl σ H lo) (h2 : EvO th σ H hi) (hz : z.length ≤ 100000) : Ev (tSl rSlS te tl th) σ H (.str (cutS z lo hi)) := fun H1 e Q q =>
  h H1 e _ fun H2 e2 => h1 H2 (e.trans e2) _ fun H3 e3 => h2 H3 ((e.trans e2).trans e3) _ fun H4 e4 => ⟨z, rfl, sz_of hz, q H4 ((e2.trans e3).trans e4)⟩
/-- sep.join(a new list of texts) -/
theorem ev_joinL {a : Str} {ys : List Str} (ho : Ev ta σ H (.str a)) (h : EvL te σ H (ys.map V.str)) (hz : (ys.map (·.length)).sum + ys.length * a.length ≤ 16777216) :
    Ev (tM1 (fun x xs H Q => ∃ a p, ∃ ys : List Str, x = .str a ∧ xs = [.ref p] ∧ (SqL K H p (ys.map V.str) ∨ SqT K H p (ys.map V.str)) ∧ (ys.map (·.length)).sum + ys.length * a.length ≤ 16777216 ∧ Q (.str (Txt.join a ys)) H) ta te) σ H (.str (Txt.join a ys)) := fun H1 e Q q =>
  ho H1 e _ fun H2 e2 => ⟨⟨a, rfl⟩, h H2 (e.trans e2) _ fun p H3 _ e3 h3 => ⟨a, p, ys, rfl, rfl, .inl (sq_of h3), hz, q H3 (e2.trans e3)⟩⟩
/-- sep.join(a list of texts that stands) -/
theorem ev_joinS {a : Str} {p : Addr} {ys : List Str} (ho : Ev ta σ H (.str a)) (h : Ev te σ H (.ref p)) (hp : SqL K H p (ys.map V.str) ∨ SqT K H p (ys.map V.str)) (hz : (ys.map (·.length)).sum + ys.length * a.length ≤ 16777216) :
    Ev (tM1 (fun x xs H Q => ∃ a p, ∃ ys : List Str, x = .str a ∧ xs = [.ref p] ∧ (SqL K H p (ys.map V.str) ∨ SqT K H p (ys.map V.str)) ∧ (ys.map (·.length)).sum + ys.length * a.length ≤ 16777216 ∧ Q (.str (Txt.join a ys)) H) ta te) σ H (.str (Txt.join a ys)) := fun H1 e Q q =>
  ho H1 e _ fun H2 e2 => ⟨⟨a, rfl⟩, h H2 (e.trans e2) _ fun H3 e3 => ⟨a, p, ys, rfl, rfl, hp.elim (fun h => .inl (ex_l ((e.trans e2).trans e3) h)) (fun h => .inr (ex_t ((e.trans e2).trans e3) h)), hz, q H3 (e2.trans e3)⟩⟩
/-- the second operand told once the first is there -/
theorem ev_opV2 {r : R2} (ha : Ev ta σ H x) (hb : ∀ H1, Ex H H1 → Ev tb σ H1 y) (hr : RV r x y H z) : Ev (tOp r ta tb) σ H z := fun H1 e Q q =>
  ha H1 e _ fun H2 e2 => hb H2 (e.trans e2) H2 (Ex.refl H2) _ fun H3 e3 => hr H3 ((e.trans e2).trans e3) Q fun H4 e4 => q H4 ((e2.trans e3).trans e4)
theorem ev_chain {r r' : R2} {tc : TE} {a b : Bool} (ha : Ev ta σ H x) (hb : Ev tb σ H y) (hr : RV r x y H (.bl a)) (hc : a = true → Ev tc σ H z) (hr' : a = true → RV r' y z H (.bl b)) : Ev (tChain r r' ta tb tc) σ H (.bl (a && b)) := fun H1 e Q q =>
  ha H1 e _ fun H2 e2 => hb H2 (e.trans e2) _ fun H3 e3 => hr H3 ((e.trans e2).trans e3) _ fun H4 e4 => ⟨a, rfl, by
    cases a with
    | true =>
      show tc σ H4 _
      exact hc rfl H4 (((e.trans e2).trans e3).trans e4) _ fun H5 e5 => hr' rfl H5 ((((e.trans e2).trans e3).trans e4).trans e5) Q fun H6 e6 => q H6 ((((e2.trans e3).trans e4).trans e5).trans e6)
    | false =>
      show Q (.bl false) H4
      exact q H4 ((e2.trans e3).trans e4)⟩
/-- some value of which R holds -/
def EvP (te : TE) (σ : L2.St) (H : Hp) (R : V → Prop) : Prop := ∀ H1, Ex H H1 → ∀ Q : VK, (∀ v H2, R v → Ex H1 H2 → Q v H2) → te σ H1 Q
def SpP (sp : Sp) (vs : List V) (H : Hp) (R : V → Prop) : Prop := ∀ H1, Ex H H1 → ∀ Q : VK, (∀ v H2, R v → Ex H1 H2 → Q v H2) → ∀ E : XK, sp vs H1 Q E
theorem s_asgP {R : V → Prop} {D : Ends} {i : Nat} (h : EvP te σ H R) (k : ∀ v H1, R v → Ex H H1 → D.nx (σ.set i (some v)) H1) : tAsg te (gName i) D σ H := h H (Ex.refl H) _ fun v H1 r e => k v H1 r e
theorem q_asgP {R : V → Prop} {D : Ends} {tz : TS} {i : Nat} (h : EvP te σ H R) (k : ∀ v H1, R v → Ex H H1 → tz D (σ.set i (some v)) H1) : tSeq (tAsg te (gName i)) tz D σ H := s_asgP (D := { D with nx := tz D }) h k
theorem ep_call {R : V → Prop} {sp : Sp} {dvs vs : List V} {E : XK} {ta : TA} (h : EvA ta σ H vs) (hs : SpP sp (vs ++ dvs) H R) : EvP (tCall sp dvs E ta) σ H R := fun H1 e Q q =>
  h H1 e _ fun H2 e2 => hs H2 (e.trans e2) Q (fun v H3 r e3 => q v H3 r (e2.trans e3)) E
/-- of one argument, a new list -/
theorem ep_callL {R : V → Prop} {sp : Sp} {dvs xs : List V} {E : XK} (h : EvL te σ H xs) (hs : ∀ p H1, Ex H H1 → H1 p = some (.lst xs) → SpP sp (.ref p :: dvs) H1 R) : EvP (tCall sp dvs E (tCons te tNil)) σ H R := fun H1 e Q q =>
  h H1 e _ fun p H2 _ e2 h2 => hs p H2 (e.trans e2) h2 H2 (Ex.refl H2) Q (fun v H3 r e3 => q v H3 r (e2.trans e3)) E
theorem at_int {ns : List Int} {i : Int} (h0 : 0 ≤ i) (h : i < (ns.length : Int)) : atI (ns.map V.int) i = some (.int (ns.getD i.toNat 0)) := by
  obtain ⟨j, rfl⟩ := Int.eq_ofNat_of_zero_le h0
  refine atI_nat ?_
  have hj : j < ns.length := by omega
  rw [List.getElem?_map, List.getElem?_eq_getElem hj, Int.toNat_natCast, List.getD_eq_getElem?_getD, List.getElem?_eq_getElem hj]
  rfl
end

/-! ### loops over texts -/
section
variable {σ : L2.St} {H H' : Hp} {te : TE} {D : Ends} {tu tz : TS} {g : TG}
theorem for_str {x : Str} {tb : TS} (Pv : Nat → L2.St → Hp → Prop) (h0 : Pv 0 σ H)
    (hs : ∀ i c σ H, x.cps.toList[i]? = some c → Pv i σ H → g (.str ⟨#[c]⟩) σ H fun σ2 H2 => tb { D with nx := Pv (i + 1), ct := Pv (i + 1), bk := D.nx } σ2 H2) (hd : ∀ σ H, Pv x.cps.size σ H → D.nx σ H) :
    ∃ W : Nat → Nat → L2.St → Hp → Prop, (∃ m, W 0 m σ H) ∧ ∀ i m σ H, W i m σ H →
      ((Its x).stop i H ∧ D.nx σ H) ∨ ((Its x).go i H ∧ ∃ N : L2.St → Hp → Prop, (∀ σ' H', N σ' H' → ∃ m', m' < m ∧ W (i + 1) m' σ' H') ∧ ∀ y H', (Its x).yld i H y H' → g y σ H' fun σ2 H2 => tb { D with nx := N, ct := N, bk := D.nx } σ2 H2) := by
  refine ⟨fun i m σ H => m = x.cps.size - i ∧ i ≤ x.cps.size ∧ Pv i σ H, ⟨x.cps.size, by simp, Nat.zero_le _, h0⟩, ?_⟩
  rintro i m σ H ⟨rfl, hi, p⟩
  by_cases hlt : i < x.cps.size
  · refine .inr ⟨hlt, Pv (i + 1), fun σ' H' p' => ⟨x.cps.size - (i + 1), by omega, rfl, hlt, p'⟩, fun y H' q => ?_⟩
    obtain ⟨rfl, c, hc, rfl⟩ := q
    exact hs i c σ _ (by rw [Array.getElem?_toList]; exact hc) p
  · have e : i = x.cps.size := by omega
    subst e
    exact .inl ⟨Nat.le_refl _, hd σ H p⟩
theorem s_forS {x : Str} {j : Nat} (h : Ev te σ H (.str x)) (Pv : Nat → L2.St → Hp → Prop) (h0 : ∀ H1, Ex H H1 → Pv 0 σ H1)
    (hs : ∀ i c σ' H', x.cps.toList[i]? = some c → Pv i σ' H' → tu { D with nx := Pv (i + 1), ct := Pv (i + 1), bk := D.nx } (σ'.set j (some (.str ⟨#[c]⟩))) H') (hd : ∀ σ' H', Pv x.cps.size σ' H' → D.nx σ' H') : tFor (iStr te) (gName j) tu D σ H :=
  h H (Ex.refl H) _ fun H1 e => ⟨x, rfl, for_str Pv (h0 H1 e) hs hd⟩
theorem q_forS {x : Str} {j : Nat} (h : Ev te σ H (.str x)) (Pv : Nat → L2.St → Hp → Prop) (h0 : ∀ H1, Ex H H1 → Pv 0 σ H1)
    (hs : ∀ i c σ' H', x.cps.toList[i]? = some c → Pv i σ' H' → tu { D with nx := Pv (i + 1), ct := Pv (i + 1), bk := tz D } (σ'.set j (some (.str ⟨#[c]⟩))) H') (hd : ∀ σ' H', Pv x.cps.size σ' H' → tz D σ' H') : tSeq (tFor (iStr te) (gName j) tu) tz D σ H :=
  s_forS (D := { D with nx := tz D }) h Pv h0 hs hd
end
theorem at_str {xs : List Str} {i : Int} (h0 : 0 ≤ i) (h : i < (xs.length : Int)) : atI (xs.map V.str) i = some (.str (xs.getD i.toNat Str.empty)) := by
  obtain ⟨j, rfl⟩ := Int.eq_ofNat_of_zero_le h0
  refine atI_nat ?_
  have hj : j < xs.length := by omega
  rw [List.getElem?_map, List.getElem?_eq_getElem hj, Int.toNat_natCast, List.getD_eq_getElem?_getD, List.getElem?_eq_getElem hj]
  rfl
theorem memD {α : Type} {xs : List α} {d : α} {j : Nat} (h : j < xs.length) : xs.getD j d ∈ xs := by
  rw [List.getD_eq_getElem?_getD, List.getElem?_eq_getElem h]
  exact List.getElem_mem h
theorem dec_str1 {c d : Nat} {a : Str} (e : a = ⟨#[d]⟩) : decide (V.str ⟨#[c]⟩ = V.str a) = decide (c = d) := by
  rw [e, Bool.eq_iff_iff, decide_eq_true_iff, decide_eq_true_iff]
  constructor
  · intro h
    have h1 : (⟨#[c]⟩ : Str) = ⟨#[d]⟩ := V.str.inj h
    have h2 : (#[c] : Array Nat) = #[d] := congrArg Str.cps h1
    have h3 : ([c] : List Nat) = [d] := congrArg Array.toList h2
    exact (List.cons.inj h3).1
  · intro h
    rw [h]
theorem all_take_succ {p : Nat → Bool} {xs : List Nat} {i c : Nat} (h : xs[i]? = some c) : (xs.take (i + 1)).all p = ((xs.take i).all p && p c) := by
  rw [List.take_add_one, h, List.all_append]
  simp

/-- a new tuple is handed back -/
def RetU (xs : List V) (H : Hp) (Q : VK) : Prop := ∀ p H2, H p = none → Ex H H2 → H2 p = some (.tup xs) → Q (.ref p) H2
def SpU (sp : Sp) (vs : List V) (H : Hp) (xs : List V) : Prop := ∀ H1, Ex H H1 → ∀ Q : VK, (∀ p H2, H1 p = none → Ex H1 H2 → H2 p = some (.tup xs) → Q (.ref p) H2) → ∀ E : XK, sp vs H1 Q E
section
variable {K : PySem.W.Frag} {σ : L2.St} {H H' : Hp} {te : TE} {D : Ends} {tu tz : TS} {g : TG}
theorem eu_call {sp : Sp} {dvs vs xs : List V} {E : XK} {ta : TA} (h : EvA ta σ H vs) (hs : SpU sp (vs ++ dvs) H xs) : EvU (tCall sp dvs E ta) σ H xs := fun H1 e Q q =>
  h H1 e _ fun H2 e2 => hs H2 (e.trans e2) Q (fun p H3 hp e3 h3 => q p H3 (fresh_back e2 hp) (e2.trans e3) h3) E
/-- a for over a new tuple -/
theorem s_forNT {xs : List V} {tl : TE} {j : Nat} (h : EvU tl σ H xs) (Pv : Addr → Nat → L2.St → Hp → Prop) (h0 : ∀ p H1, H p = none → Ex H H1 → H1 p = some (.tup xs) → Pv p 0 σ H1) (hl : ∀ p i σ' H', i ≤ xs.length → Pv p i σ' H' → SqT K H' p xs)
    (hs : ∀ p i x σ' H', xs[i]? = some x → Pv p i σ' H' → tu { D with nx := Pv p (i + 1), ct := Pv p (i + 1), bk := D.nx } (σ'.set j (some x)) H') (hd : ∀ p σ' H', Pv p xs.length σ' H' → D.nx σ' H') : tFor (iTup K tl) (gName j) tu D σ H :=
  h H (Ex.refl H) _ fun p H1 hp e h1 => ⟨p, rfl, ⟨xs, st_of h1⟩, for_tup (Pv p) (h0 p H1 hp e h1) (hl p) (hs p) (hd p)⟩
theorem q_forNT {xs : List V} {tl : TE} {j : Nat} (h : EvU tl σ H xs) (Pv : Addr → Nat → L2.St → Hp → Prop) (h0 : ∀ p H1, H p = none → Ex H H1 → H1 p = some (.tup xs) → Pv p 0 σ H1) (hl : ∀ p i σ' H', i ≤ xs.length → Pv p i σ' H' → SqT K H' p xs)
    (hs : ∀ p i x σ' H', xs[i]? = some x → Pv p i σ' H' → tu { D with nx := Pv p (i + 1), ct := Pv p (i + 1), bk := tz D } (σ'.set j (some x)) H') (hd : ∀ p σ' H', Pv p xs.length σ' H' → tz D σ' H') : tSeq (tFor (iTup K tl) (gName j) tu) tz D σ H :=
  s_forNT (D := { D with nx := tz D }) h Pv h0 hl hs hd
/-- len of a tuple -/
theorem ev_lenT {ta : TE} {p : Addr} {xs : List V} (ha : Ev ta σ H (.ref p)) (h : SqT K H p xs) : Ev (tCB (Evl.rLenS K) (tCons ta tNil)) σ H (.int (xs.length : Int)) := fun H1 e Q q =>
  ha H1 e _ fun H2 e2 => ⟨p, xs, rfl, Or.inr (ex_t (e.trans e2) h), q H2 e2⟩
end

section
variable {K : PySem.W.Frag} {H H' : Hp} {x y : V}
theorem rc_isTup {p : Addr} {xs : List V} (h : H p = some (.tup xs)) : RC (rIsi K) [.ref p, .ty "tuple"] H (.bl true) := fun H1 e _ q =>
  ⟨_, _, _, _, true, rfl, .ty "tuple", .base (.tup (e p _ h)), (by unfold PySem.W.kitOne; rw [if_pos (by decide)]), q H1 (Ex.refl H1)⟩
theorem rc_isBool {b : Bool} : RC (rIsi K) [.bl b, .ty "bool"] H (.bl true) := fun H1 e _ q =>
  ⟨_, _, _, _, true, rfl, .ty "bool", .base (.bl b), (by unfold PySem.W.kitOne; rw [if_pos (by decide)]), q H1 (Ex.refl H1)⟩
/-- two equal data -/
theorem rv_eqD {d e : PyData} {b : Bool} (hx : ∀ H1, Ex H H1 → Dp K H1 x d) (hy : ∀ H1, Ex H H1 → Dp K H1 y e) (sd : SeqAt.shaped d = true) (se : SeqAt.shaped e = true) (hb : PyData.eqv d e = b) : RV (rEqD K) x y H (.bl b) := fun H1 e1 _ q =>
  ⟨d, e, hx H1 e1, hy H1 e1, sd, se, by rw [hb]; exact q H1 (Ex.refl H1)⟩
theorem rv_neD {d e : PyData} {b : Bool} (hx : ∀ H1, Ex H H1 → Dp K H1 x d) (hy : ∀ H1, Ex H H1 → Dp K H1 y e) (sd : SeqAt.shaped d = true) (se : SeqAt.shaped e = true) (hb : PyData.eqv d e = b) : RV (rNeD K) x y H (.bl (!b)) := fun H1 e1 _ q =>
  ⟨d, e, hx H1 e1, hy H1 e1, sd, se, by rw [hb]; exact q H1 (Ex.refl H1)⟩
theorem at_codeS {l : List Nat} {i : Int} (h0 : 0 ≤ i) (h : i < (l.length : Int)) : atI (SX.S l).cps.toList i = some (l.getD i.toNat 0) := by
  obtain ⟨j, rfl⟩ := Int.eq_ofNat_of_zero_le h0
  have hj : j < l.length := by omega
  refine atI_nat ?_
  show l[j]? = _
  rw [List.getElem?_eq_getElem hj, Int.toNat_natCast, List.getD_eq_getElem?_getD, List.getElem?_eq_getElem hj]
  rfl
theorem mod_bd (x m : Int) (h : 0 < m) : 0 ≤ x % m ∧ x % m < m := ⟨Int.emod_nonneg _ (by omega), Int.emod_lt_of_pos _ h⟩
theorem given_all (n : Nat) (v : Nat → V) : given n (fun _ => true) v = (List.range n).map v := by
  unfold given
  rw [List.filter_eq_self.mpr (fun _ _ => rfl)]
theorem at_range {n i : Nat} {v : Nat → V} (h : i < n) : atI ((List.range n).map v) (i : Int) = some (v i) := by
  refine atI_nat ?_
  rw [List.getElem?_map, List.getElem?_range h]
  rfl
end

/-! ### texts by their codes -/
theorem len_S (l : List Nat) : (SX.S l).length = l.length := SX.S_len l
theorem cut_mid (l : List Nat) (a b : Nat) : cutS (SX.S l) (some (a : Int)) (some (b : Int)) = SX.S ((l.drop a).take (b - a)) := by
  unfold cutS
  rw [len_S, HT.sIx_nat, HT.sIx_nat]
  show SX.S ((l.drop (min a l.length)).take (min b l.length - min a l.length)) = _
  refine congrArg SX.S ?_
  by_cases h : a ≤ l.length
  · rw [Nat.min_eq_left h, List.take_eq_take_iff, List.length_drop]
    omega
  · rw [Nat.min_eq_right (show l.length ≤ a by omega), List.drop_eq_nil_of_le (Nat.le_refl _), List.drop_eq_nil_of_le (show l.length ≤ a by omega)]
    simp
theorem cut_to (l : List Nat) (b : Nat) : cutS (SX.S l) none (some (b : Int)) = SX.S (l.take b) := by
  unfold cutS
  rw [len_S, HT.sIx_nat, HT.sIx_none]
  show SX.S ((l.drop 0).take (min b l.length - 0)) = _
  refine congrArg SX.S ?_
  rw [List.drop_zero, List.take_eq_take_iff]
  omega
theorem cut_from (l : List Nat) (a : Nat) : cutS (SX.S l) (some (a : Int)) none = SX.S (l.drop a) := by
  unfold cutS
  rw [len_S, HT.sIx_nat, HT.sIx_none]
  show SX.S ((l.drop (min a l.length)).take (l.length - min a l.length)) = _
  refine congrArg SX.S ?_
  by_cases h : a ≤ l.length
  · rw [Nat.min_eq_left h]
    exact List.take_of_length_le (by rw [List.length_drop]; omega)
  · rw [Nat.min_eq_right (show l.length ≤ a by omega), List.drop_eq_nil_of_le (Nat.le_refl _), List.drop_eq_nil_of_le (show l.length ≤ a by omega)]
    simp
theorem join_ones : ∀ l : List Nat, Txt.join (SX.S []) (l.map fun c => SX.S [c]) = SX.S l := fun l => by
  have e : (l.map fun c => SX.S [c]) = (l.map fun c => [c]).map SX.S := by rw [List.map_map]; rfl
  rw [e, SX.join_S]
  refine congrArg SX.S ?_
  induction l with
  | nil => rfl
  | cons c l ih =>
    cases l with
    | nil => rfl
    | cons d l =>
      show [c] ++ ([] ++ TL.joinL [] (((d :: l).map fun c => [c]))) = _
      rw [ih (by rw [List.map_map]; rfl)]
      rfl
theorem sum_ones (l : List Nat) : ((l.map fun c => SX.S [c]).map (·.length)).sum = l.length := by
  induction l with
  | nil => rfl
  | cons c l ih =>
    rw [List.map_cons, List.map_cons, List.sum_cons, ih, len_S]
    simp [Nat.add_comm]

/-! ### names -/
theorem e_slashS : Str.ofString "/" = ⟨#[47]⟩ := by decide +kernel
def nameOk (z : Str) : Bool := (!(decide (V.str z = V.str (Str.ofString ".")) || (decide (V.str z = V.str (Str.ofString "..")) || decide (47 ∈ z.cps.toList)))) && ((!(decide ((z.length : Int) < 1) || decide ((100 : Int) < (z.length : Int)))) && z.cps.toList.all fun c => !decide (((c : Nat) : Int) < 32))
def sp_is_name (K : PySem.W.Frag) : Sp := fun vs H Q _ => ∃ z : Str, vs = [.str z] ∧ z.length ≤ 100000 ∧ RetV (.bl (nameOk z)) H Q
theorem sp_nm {K : PySem.W.Frag} {H : Hp} {z : Str} (h : z.length ≤ 100000) : SpV (sp_is_name K) [.str z] H (.bl (nameOk z)) := fun H1 e Q q E => ⟨z, rfl, h, fun H2 e2 => q H2 e2⟩

/-! ### == of data, whatever texts lie within -/
def rEqP (K : PySem.W.Frag) : R2 := fun x y H Q => ∃ d e, Dp K H x d ∧ Dp K H y e ∧ d.plain = true ∧ e.plain = true ∧ d.depth ≤ 60 ∧ Q (.bl (PyData.eqv d e)) H
def rNeP (K : PySem.W.Frag) : R2 := fun x y H Q => ∃ d e, Dp K H x d ∧ Dp K H y e ∧ d.plain = true ∧ e.plain = true ∧ d.depth ≤ 60 ∧ Q (.bl (!PyData.eqv d e)) H
theorem op_eqP {X : Cx} (hu : X.A.units + 64 < cLine) : OpR X (compareOp .Eq) (rEqP X.K) := by
  intro pins s σ H x y v u Q I rx ry h
  obtain ⟨d, e, hd, he, pd, pe, dd, q⟩ := h
  obtain ⟨as, r1⟩ := Dp.reads I d x v hd rx
  obtain ⟨bs, r2⟩ := Dp.reads I e y u he ry
  exact SeqAt.eq_plain r1 r2 pd pe (by omega) ⟨.bl _, H, I, rfl, q⟩
theorem op_neP {X : Cx} (hu : X.A.units + 64 < cLine) : OpR X (compareOp .NotEq) (rNeP X.K) := by
  intro pins s σ H x y v u Q I rx ry h
  obtain ⟨d, e, hd, he, pd, pe, dd, q⟩ := h
  obtain ⟨as, r1⟩ := Dp.reads I d x v hd rx
  obtain ⟨bs, r2⟩ := Dp.reads I e y u he ry
  exact SeqAt.ne_plain r1 r2 pd pe (by omega) ⟨.bl _, H, I, rfl, q⟩
section
variable {K : PySem.W.Frag} {σ : L2.St} {H H' : Hp} {ta tb te : TE} {x y z v : V} {r : R2}
theorem rv_eqP {d e : PyData} {b : Bool} (hx : ∀ H1, Ex H H1 → Dp K H1 x d) (hy : ∀ H1, Ex H H1 → Dp K H1 y e) (pd : d.plain = true) (pe : e.plain = true) (dd : d.depth ≤ 60) (hb : PyData.eqv d e = b) : RV (rEqP K) x y H (.bl b) := fun H1 e1 _ q =>
  ⟨d, e, hx H1 e1, hy H1 e1, pd, pe, dd, by rw [hb]; exact q H1 (Ex.refl H1)⟩
theorem rv_neP {d e : PyData} {b : Bool} (hx : ∀ H1, Ex H H1 → Dp K H1 x d) (hy : ∀ H1, Ex H H1 → Dp K H1 y e) (pd : d.plain = true) (pe : e.plain = true) (dd : d.depth ≤ 60) (hb : PyData.eqv d e = b) : RV (rNeP K) x y H (.bl (!b)) := fun H1 e1 _ q =>
  ⟨d, e, hx H1 e1, hy H1 e1, pd, pe, dd, by rw [hb]; exact q H1 (Ex.refl H1)⟩
theorem dp_strs {K : PySem.W.Frag} {H : Hp} : ∀ ys : List Str, DpAll K H (ys.map V.str) (ys.map PyData.str)
  | [] => .nil
  | y :: ys => .cons (.str y) (dp_strs ys)
theorem plain_strs : ∀ ys : List Str, PyData.plainAll (ys.map PyData.str) = true
  | [] => rfl
  | _ :: ys => plain_strs ys
theorem depth_strs : ∀ ys : List Str, PyData.depthAll (ys.map PyData.str) = 0
  | [] => rfl
  | _ :: ys => by
    show max 0 (PyData.depthAll (ys.map PyData.str)) = 0
    rw [depth_strs ys]
    rfl
/-- a value of which R holds, at the heap behind -/
def EvH (te : TE) (σ : L2.St) (H : Hp) (R : V → Hp → Prop) : Prop := ∀ H1, Ex H H1 → ∀ Q : VK, (∀ v H2, Ex H1 H2 → R v H2 → Q v H2) → te σ H1 Q
def SpH (sp : Sp) (vs : List V) (H : Hp) (R : V → Hp → Prop) : Prop := ∀ H1, Ex H H1 → ∀ Q : VK, (∀ v H2, Ex H1 H2 → R v H2 → Q v H2) → ∀ E : XK, sp vs H1 Q E
theorem eh_call {R : V → Hp → Prop} {sp : Sp} {dvs vs : List V} {E : XK} {ta : TA} (h : EvA ta σ H vs) (hs : SpH sp (vs ++ dvs) H R) : EvH (tCall sp dvs E ta) σ H R := fun H1 e Q q =>
  h H1 e _ fun H2 e2 => hs H2 (e.trans e2) Q (fun v H3 e3 r => q v H3 (e2.trans e3) r) E
theorem s_asgH {R : V → Hp → Prop} {D : Ends} {i : Nat} (h : EvH te σ H R) (k : ∀ v H1, Ex H H1 → R v H1 → D.nx (σ.set i (some v)) H1) : tAsg te (gName i) D σ H := h H (Ex.refl H) _ k
theorem q_asgH {R : V → Hp → Prop} {D : Ends} {tz : TS} {i : Nat} (h : EvH te σ H R) (k : ∀ v H1, Ex H H1 → R v H1 → tz D (σ.set i (some v)) H1) : tSeq (tAsg te (gName i)) tz D σ H := s_asgH (D := { D with nx := tz D }) h k
theorem ev_opH {R : V → Hp → Prop} (hm : ∀ v H1 H2, Ex H1 H2 → R v H1 → R v H2) (ha : EvH ta σ H R) (hb : ∀ H1, Ex H H1 → Ev tb σ H1 y) (hr : ∀ x H1, Ex H H1 → R x H1 → RV r x y H1 z) : Ev (tOp r ta tb) σ H z := fun H1 e Q q =>
  ha H1 e _ fun x H2 e2 rx => hb H2 (e.trans e2) H2 (Ex.refl H2) _ fun H3 e3 => hr x H3 ((e.trans e2).trans e3) (hm x _ _ e3 rx) H3 (Ex.refl H3) Q fun H4 e4 => q H4 ((e2.trans e3).trans e4)
/-- tuple(a list), tuple(a new list) -/
def rTup (K : PySem.W.Frag) : List V → Hp → VK → Prop := fun xs H Q => ∃ p ys, xs = [.ref p] ∧ ((SqL K H p ys ∧ ∀ l, H l = none → Q (.ref l) (upd H l (.tup ys))) ∨ (SqT K H p ys ∧ Q (.ref p) H))
theorem eu_tupOf {p : Addr} {xs : List V} (ha : Ev ta σ H (.ref p)) (h : SqL K H p xs) : EvU (tCB (rTup K) (tCons ta tNil)) σ H xs := fun H1 e Q q =>
  ha H1 e _ fun H2 e2 => ⟨p, xs, rfl, .inl ⟨ex_l (e.trans e2) h, fun l hl => q l _ (fresh_back e2 hl) (e2.trans (Ex.new hl)) upd_same⟩⟩
theorem eu_tupOfL {xs : List V} (ha : EvL ta σ H xs) : EvU (tCB (rTup K) (tCons ta tNil)) σ H xs := fun H1 e Q q =>
  ha H1 e _ fun p H2 _ e2 h2 => ⟨p, xs, rfl, .inl ⟨sq_of h2, fun l hl => q l _ (fresh_back e2 hl) (e2.trans (Ex.new hl)) upd_same⟩⟩
/-- s.split(t) -/
theorem el_split {a b : Str} (ho : Ev ta σ H (.str a)) (he : Ev te σ H (.str b)) (hb : (b.length == 0) = false) (ha : a.length ≤ 90000) :
    EvL (tM1 (fun x xs H Q => ∃ a b, x = .str a ∧ xs = [.str b] ∧ (b.length == 0) = false ∧ a.length + 2 ≤ sizeLine ∧ rNewStrs (Txt.split a b) H Q) ta te) σ H ((Txt.split a b).map V.str) := fun H1 e Q q =>
  ho H1 e _ fun H2 e2 => ⟨⟨a, rfl⟩, he H2 (e.trans e2) _ fun H3 e3 => ⟨a, b, rfl, rfl, hb, sz_of (by omega), fun p hp => q p _ (fresh_back (e2.trans e3) hp) ((e2.trans e3).trans (Ex.new hp)) upd_same⟩⟩
/-- all(a new list of truths), any(..) -/
theorem ev_allL {bs : List Bool} (ha : EvL ta σ H (bs.map V.bl)) : Ev (tCB (rAll K) (tCons ta tNil)) σ H (.bl (bs.all id)) := fun H1 e Q q =>
  ha H1 e _ fun p H2 _ e2 h2 => ⟨p, bs, rfl, sq_of h2, q H2 e2⟩
theorem ev_anyL {bs : List Bool} (ha : EvL ta σ H (bs.map V.bl)) : Ev (tCB (rAny K) (tCons ta tNil)) σ H (.bl (bs.any id)) := fun H1 e Q q =>
  ha H1 e _ fun p H2 _ e2 h2 => ⟨p, bs, rfl, sq_of h2, q H2 e2⟩
theorem rv_isN : RV (fun x y H Q => y = .non ∧ Q (.bl (decide (x = .non))) H) x .non H (.bl (decide (x = .non))) := fun H1 _ _ q => ⟨rfl, q H1 (Ex.refl H1)⟩
end
theorem join_cut : ∀ (l acc : List Nat), TL.joinL [47] (TL.spl [47] 0 acc l) = acc ++ l ∧ TL.spl [47] 0 acc l ≠ []
  | [], acc => by
    rw [TL.spl_nil]
    exact ⟨(List.append_nil acc).symm, by simp⟩
  | c :: r, acc => by
    by_cases h : TL.pre [47] (c :: r) = true
    · have hc : c = 47 := by
        simp [TL.pre] at h
        exact h
      rw [TL.spl_hit h]
      show TL.joinL [47] (acc :: TL.spl [47] 0 [] r) = acc ++ c :: r ∧ _
      obtain ⟨i1, i2⟩ := join_cut r []
      refine ⟨?_, by simp⟩
      cases hs : TL.spl [47] 0 [] r with
      | nil => exact absurd hs i2
      | cons x xs =>
        show acc ++ ([47] ++ TL.joinL [47] (x :: xs)) = _
        rw [← hs, i1, hc]
        rfl
    · have h' : TL.pre [47] (c :: r) = false := by
        cases hb : TL.pre [47] (c :: r) with
        | true => exact absurd hb h
        | false => rfl
      rw [TL.spl_miss h']
      obtain ⟨i1, i2⟩ := join_cut r (acc ++ [c])
      exact ⟨by rw [i1, List.append_assoc]; rfl, i2⟩

/-! ### the cells that a law draws -/
def fixC (c : Int) : Int := if c < 0 then 1 - 2 * c else c
def cell0 (ns : List Int) (k : Nat) : Int := if k < ns.length then ns.getD k 0 else 0
def cell2 (ns : List Int) (k : Nat) (c : Int) : Int := if 0 < ns.length then ns.getD (((k : Int) % (ns.length : Int)).toNat) 0 else c
def mix1 (k : Nat) (c : Int) : Int := ((c + 131 * (k : Int) + 7) * 48271 + (k : Int) * (k : Int) * 69621) % 1000000007
def mix2 (k : Nat) (c : Int) : Int := ((c + 17 * (k : Int) + 3) * 2862933555777941757) % 18446744073709551557
def cellAt (ns : List Int) (k : Nat) : Int :=
  if (ns.length : Int) ≤ (k : Int) ∨ fixC (cell0 ns k) < 1000000000 then mix2 k (mix1 k (fixC (cell2 ns k (fixC (cell0 ns k))))) else fixC (cell0 ns k)
def cellsOf (ns : List Int) (n : Nat) : List Int := (List.range n).map (cellAt ns)
theorem cellsOf_len (ns : List Int) (n : Nat) : (cellsOf ns n).length = n := by
  unfold cellsOf
  rw [List.length_map, List.length_range]
theorem cellsOf_succ (ns : List Int) (n : Nat) : cellsOf ns (n + 1) = cellsOf ns n ++ [cellAt ns n] := by
  unfold cellsOf
  rw [List.range_succ, List.map_append]
  rfl
theorem fixC_nn (c : Int) : 0 ≤ fixC c := by
  unfold fixC
  split <;> omega
theorem cellAt_nn (ns : List Int) (k : Nat) : 0 ≤ cellAt ns k := by
  unfold cellAt
  split
  · exact Int.emod_nonneg _ (by decide)
  · exact fixC_nn _
theorem cellsOf_nn (ns : List Int) (n : Nat) : ∀ c ∈ cellsOf ns n, 0 ≤ c := by
  intro c hc
  obtain ⟨k, _, rfl⟩ := List.mem_map.mp hc
  exact cellAt_nn ns k
theorem fixC_neg {c : Int} (h : decide (c < 0) = true) : 1 - 2 * c = fixC c := (if_pos (of_decide_eq_true h)).symm
theorem fixC_pos {c : Int} (h : decide (c < 0) = false) : fixC c = c := if_neg (of_decide_eq_false h)
theorem cellAt_mix {ns : List Int} {k : Nat} (h : (decide ((ns.length : Int) ≤ (k : Int)) || decide (fixC (cell0 ns k) < 1000000000)) = true) : mix2 k (mix1 k (fixC (cell2 ns k (fixC (cell0 ns k))))) = cellAt ns k := by
  unfold cellAt
  rw [if_pos]
  rcases (Bool.or_eq_true _ _).mp h with h | h
  · exact .inl (of_decide_eq_true h)
  · exact .inr (of_decide_eq_true h)
theorem cellAt_own {ns : List Int} {k : Nat} (h : (decide ((ns.length : Int) ≤ (k : Int)) || decide (fixC (cell0 ns k) < 1000000000)) = false) : fixC (cell0 ns k) = cellAt ns k := by
  unfold cellAt
  obtain ⟨h1, h2⟩ := (Bool.or_eq_false_iff).mp h
  rw [if_neg]
  rintro (h | h)
  · exact of_decide_eq_false h1 h
  · exact of_decide_eq_false h2 h
def spCells (K : PySem.W.Frag) : Sp := fun vs H Q _ => ∃ (a : Addr) (ns : List Int) (n : Nat), vs = [.ref a, .int (n : Int)] ∧ SqL K H a (ns.map V.int) ∧ ns.length ≤ 63 ∧ n ≤ 1000 ∧ RetL ((cellsOf ns n).map V.int) H Q
theorem sp_cells {K : PySem.W.Frag} {H : Hp} {a : Addr} {ns : List Int} {n : Nat} (hS : SqL K H a (ns.map V.int)) (hl : ns.length ≤ 63) (hn : n ≤ 1000) : SpL (spCells K) [.ref a, .int (n : Int)] H ((cellsOf ns n).map V.int) :=
  fun H1 e Q q E => ⟨a, ns, n, rfl, ex_l e hS, hl, hn, fun p H2 hp e2 h2 => q p H2 hp e2 h2⟩
/-! ### the rows that a law draws -/
def spRows (K : PySem.W.Frag) : Sp := fun vs H Q _ => ∃ (a : Addr) (ns : List Int) (n : Nat), vs = [.ref a, .int (n : Int)] ∧ SqL K H a (ns.map V.int) ∧ ns.length ≤ 63 ∧ n ≤ 1000 ∧ ∀ rs : List Int, rs.length = n → (∀ c ∈ rs, 0 ≤ c) → RetL (rs.map V.int) H Q
/-- what is there behind a call that gives a new list of n numbers from 0 on -/
def EvRows (te : TE) (σ : L2.St) (H : Hp) (n : Nat) : Prop := ∀ H1, Ex H H1 → ∀ Q : VK, (∀ p rs H2, H1 p = none → Ex H1 H2 → H2 p = some (.lst (List.map V.int rs)) → rs.length = n → (∀ c ∈ rs, 0 ≤ c) → Q (.ref p) H2) → te σ H1 Q
theorem ev_rows {K : PySem.W.Frag} {σ : L2.St} {H : Hp} {E : XK} {ta : TA} {a : Addr} {ns : List Int} {n : Nat} (h : EvA ta σ H [.ref a, .int (n : Int)]) (hS : SqL K H a (ns.map V.int)) (hl : ns.length ≤ 63) (hn : n ≤ 1000) : EvRows (tCall (spRows K) [] E ta) σ H n := fun H1 e Q q =>
  h H1 e _ fun H2 e2 => ⟨a, ns, n, rfl, ex_l (e.trans e2) hS, hl, hn, fun rs hr h0 p H3 hp e3 h3 => q p rs H3 (fresh_back e2 hp) (e2.trans e3) h3 hr h0⟩
theorem q_asgRows {σ : L2.St} {H : Hp} {te : TE} {D : Ends} {tz : TS} {i n : Nat} (h : EvRows te σ H n) (k : ∀ p rs H1, H p = none → Ex H H1 → H1 p = some (.lst (List.map V.int rs)) → rs.length = n → (∀ c ∈ rs, 0 ≤ c) → tz D (σ.set i (some (.ref p))) H1) : tSeq (tAsg te (gName i)) tz D σ H :=
  h H (Ex.refl H) _ fun p rs H1 hp e h1 hr h0 => k p rs H1 hp e h1 hr h0
/-- a def of the top: its text, its place, how it is called -/
structure Df (K : PySem.W.Frag) (mg : Str → Option Value) (x : Str) (st : Stmt) (ps : List Str) : Prop where
  ex : ∃ (f : Addr) (fd : FuncData), L2.Fun K x x st f fd ∧ mg x = some (.ref f) ∧ Binds K fd ps []
theorem Df.cal {P : Program} {w : World} {K : PySem.W.Frag} {mg : Str → Option Value} {base : Heap} {x : Str} {st : Stmt} {N ps : List Str} {k : Nat} {sp : Sp} (D : Df K mg x st ps) (S : FnScope N ps (defScope st)) (len : ∀ vs H Q E, sp vs H Q E → vs.length = ps.length)
    (hbody : ∀ (f : Addr) (cdv : Value) (A : Around) (outer : List Env) (s : Shared) (H : Hp) (vs : List V) (Q : VK) (E : XK), Room k (A.deeper (envOfC x (defScope st) s.heap.objs.size f cdv)) → sp vs H Q E →
      ∃ t, PSs (cxOf L2.CX0 P w K mg base N x (defScope st) f cdv A outer s H E).nox (defBody st) t ∧ t { nx := fun _ H' => Q .non H', rt := Q } (start N vs) H) : C8.Cal P w K mg base (k + 1) x sp [] := by
  obtain ⟨f, fd, F, hm, hb⟩ := D.ex
  exact ⟨f, fd, ps, [], F.ok S len (hbody f), hm, F.kp, hb, .nil⟩
def spLaw (K : PySem.W.Frag) : Sp := fun vs H Q _ => ∃ (a : Addr) (ns : List Int), vs = [.ref a] ∧ SqL K H a (ns.map V.int) ∧ ns.length ≤ 63 ∧ ∀ H', Q (.bl true) H'
end Lw
namespace K03
open PySem PySem.Spec PyProof.Rows L2 Evl Lw
def top (i : Nat) : Stmt := PySem.Challenge.pw_foldkeep_k03_paths.main.body.getD i (.Pass ⟨0, 0, 0, 0⟩)
abbrev s_is_name : Stmt := top 3
abbrev s_path_text : Stmt := top 4
abbrev s_read_path : Stmt := top 5
abbrev s_law_cells : Stmt := top 7
abbrev s_law_part : Stmt := top 8
abbrev s_law : Stmt := top 9
theorem sc_is_name : FnScope ["text", "sign"] ["text"] (defScope s_is_name) := ⟨rfl, rfl, rfl, by decide +kernel, rfl, by decide +kernel, by decide +kernel⟩
theorem sc_path_text : FnScope ["path"] ["path"] (defScope s_path_text) := ⟨rfl, rfl, rfl, by decide +kernel, rfl, by decide +kernel, by decide +kernel⟩
theorem sc_read_path : FnScope ["text", "parts", "part"] ["text"] (defScope s_read_path) := ⟨rfl, rfl, rfl, by decide +kernel, rfl, by decide +kernel, by decide +kernel⟩
theorem sc_law_cells : FnScope ["script", "count", "cells", "k", "cell"] ["script", "count"] (defScope s_law_cells) := ⟨rfl, rfl, rfl, by decide +kernel, rfl, by decide +kernel, by decide +kernel⟩
theorem sc_law_part : FnScope ["cell"] ["cell"] (defScope s_law_part) := ⟨rfl, rfl, rfl, by decide +kernel, rfl, by decide +kernel, by decide +kernel⟩
theorem sc_law : FnScope ["script", "cells", "good", "path", "parts", "text", "read", "k", "part"] ["script"] (defScope s_law) := ⟨rfl, rfl, rfl, by decide +kernel, rfl, by decide +kernel, by decide +kernel⟩
/-- the names of the top that are asked for -/
structure Txt (K : PySem.W.Frag) (mg : Str → Option Value) : Prop where
  n_all : mg "all" = none
  n_int : mg "int" = none
  n_len : mg "len" = none
  n_ord : mg "ord" = none
  n_range : mg "range" = none
  n_tuple : mg "tuple" = none
  g_FIRST_SIGN : ∃ u, mg "FIRST_SIGN" = some u ∧ RelV (.int 32) u
  g_MOST_SIGNS : ∃ u, mg "MOST_SIGNS" = some u ∧ RelV (.int 100) u
abbrev sp_law_cells := spCells
def SL (ls : List (List Nat)) : List V := (ls.map SX.S).map V.str
def sp_path_text (K : PySem.W.Frag) : Sp := fun vs H Q _ => ∃ (p : Addr) (ls : List (List Nat)), vs = [.ref p] ∧ SqT K H p (SL ls) ∧ ls.length ≤ 1000 ∧ (∀ l ∈ ls, l.length ≤ 1000) ∧ RetV (.str (SX.S (TL.joinL [47] ls))) H Q
def cutL (l : List Nat) : List (List Nat) := TL.spl [47] 0 [] l
theorem cut_cnt : ∀ (l acc : List Nat), (TL.spl [47] 0 acc l).length ≤ l.length + 1
  | [], acc => by
    rw [TL.spl_nil]
    exact Nat.le_refl _
  | c :: r, acc => by
    by_cases h : TL.pre [47] (c :: r) = true
    · rw [TL.spl_hit h]
      have := cut_cnt r []
      show (TL.spl [47] 0 [] r).length + 1 ≤ r.length + 1 + 1
      omega
    · have h' : TL.pre [47] (c :: r) = false := by
        cases hb : TL.pre [47] (c :: r) with
        | true => exact absurd hb h
        | false => rfl
      rw [TL.spl_miss h', List.length_cons]
      have := cut_cnt r (acc ++ [c])
      omega
theorem cut_mem {l m : List Nat} (hm : m ∈ cutL l) : m.length ≤ l.length := by
  have hj := (join_cut l []).1
  have hmem : ∀ (ls : List (List Nat)), m ∈ ls → m.length ≤ (TL.joinL [47] ls).length := by
    intro ls
    induction ls with
    | nil => intro h; cases h
    | cons x xs ih =>
      intro h
      cases xs with
      | nil =>
        rw [List.mem_singleton.mp h]
        exact Nat.le_refl _
      | cons y ys =>
        show m.length ≤ (x ++ ([47] ++ TL.joinL [47] (y :: ys))).length
        rw [List.length_append, List.length_append]
        rcases List.mem_cons.mp h with h | h
        · rw [h]
          omega
        · have := ih h
          omega
  have h3 := hmem _ hm
  have h4 : TL.joinL [47] (cutL l) = l := hj
  rw [h4] at h3
  exact h3
def readP (l : List Nat) : Option (List (List Nat)) := if l = [] then some [] else if (cutL l).all (fun m => nameOk (SX.S m)) = true then some (cutL l) else none
def ReadIs (o : Option (List (List Nat))) (v : V) (H : Hp) : Prop := match o with
  | none => v = .non
  | some ls => ∃ p, v = .ref p ∧ H p = some (.tup (SL ls))
theorem ReadIs.mono {o : Option (List (List Nat))} {v : V} {H H' : Hp} (e : Ex H H') (h : ReadIs o v H) : ReadIs o v H' := by
  cases o with
  | none => exact h
  | some ls =>
    obtain ⟨p, hv, hp⟩ := h
    exact ⟨p, hv, e p _ hp⟩
def sp_read_path (K : PySem.W.Frag) : Sp := fun vs H Q _ => ∃ l : List Nat, vs = [.str (SX.S l)] ∧ l.length ≤ 2000 ∧ ∀ v H', Ex H H' → ReadIs (readP l) v H' → Q v H'
theorem sh_read {K : PySem.W.Frag} {H : Hp} {l : List Nat} (h : l.length ≤ 2000) : SpH (sp_read_path K) [.str (SX.S l)] H (ReadIs (readP l)) := fun H1 e Q q E => ⟨l, rfl, h, fun v H2 e2 r => q v H2 e2 r⟩
theorem sum_le {b : Nat} : ∀ {ls : List (List Nat)}, (∀ l ∈ ls, l.length ≤ b) → ((ls.map SX.S).map (·.length)).sum ≤ ls.length * b
  | [], _ => Nat.zero_le _
  | l :: ls, h => by
    have h1 := h l List.mem_cons_self
    have h2 := sum_le (ls := ls) fun m hm => h m (List.mem_cons_of_mem _ hm)
    rw [List.map_cons, List.map_cons, List.sum_cons, List.length_cons, len_S, Nat.succ_mul]
    omega
theorem e_sl : Str.ofString "/" = SX.S [47] := by decide +kernel
theorem e_no : Str.ofString "" = SX.S [] := by decide +kernel
theorem join_is (ls : List (List Nat)) : PySem.Txt.join (SX.S [47]) (ls.map SX.S) = SX.S (TL.joinL [47] ls) := SX.join_S _ _
theorem join_len : ∀ {ls : List (List Nat)} {b : Nat}, (∀ l ∈ ls, l.length ≤ b) → (TL.joinL [47] ls).length ≤ ls.length * (b + 1)
  | [], _, _ => Nat.zero_le _
  | [l], b, h => by
    have := h l List.mem_cons_self
    show l.length ≤ 1 * (b + 1)
    omega
  | l :: m :: ls, b, h => by
    have h1 := h l List.mem_cons_self
    have h2 := join_len (ls := m :: ls) (b := b) fun x hx => h x (List.mem_cons_of_mem _ hx)
    show (l ++ ([47] ++ TL.joinL [47] (m :: ls))).length ≤ _
    rw [List.length_append, List.length_append, List.length_cons (a := l), Nat.succ_mul]
    show _ + (1 + _) ≤ _
    omega
theorem split_is (l : List Nat) : PySem.Txt.split (SX.S l) (SX.S [47]) = (cutL l).map SX.S := SX.split_S (by simp) (by decide)
def goodL : List (List Nat) := [[97], [98, 32, 99], [101, 46, 116, 120, 116], [126], [46, 46, 46]]
theorem good_ok : ∀ l ∈ goodL, nameOk (SX.S l) = true ∧ 47 ∉ l ∧ l ≠ [] ∧ l.length ≤ 100 := by decide +kernel
theorem good_is : [V.str (Str.ofString "a"), V.str (Str.ofString "b c"), V.str (Str.ofString "e.txt"), V.str (Str.ofString "~"), V.str (Str.ofString "...")] = SL goodL := by decide +kernel
theorem read_join {ls : List (List Nat)} (h : ∀ l ∈ ls, nameOk (SX.S l) = true ∧ 47 ∉ l ∧ l ≠ []) : readP (TL.joinL [47] ls) = some ls := by
  unfold readP
  by_cases hn : ls = []
  · subst hn
    rfl
  · have hne : TL.joinL [47] ls ≠ [] := by
      cases ls with
      | nil => exact absurd rfl hn
      | cons l ls =>
        have hl := (h l List.mem_cons_self).2.2
        cases ls with
        | nil => exact hl
        | cons m ls =>
          show l ++ _ ≠ []
          simp [hl]
    have hc : cutL (TL.joinL [47] ls) = ls := SX.spl_join hn fun p hp => (h p hp).2.1
    rw [if_neg hne, hc, if_pos]
    rw [List.all_eq_true]
    exact fun l hl => (h l hl).1
theorem dp_SL {K : PySem.W.Frag} {H : Hp} {p : Addr} {ls : List (List Nat)} (h : H p = some (.tup (SL ls))) : Dp K H (.ref p) (.tuple ((ls.map SX.S).map PyData.str)) := Dp.tup (st_of h) (dp_strs _)
theorem pl_SL (ls : List (List Nat)) : PyData.plain (.tuple ((ls.map SX.S).map PyData.str)) = true := plain_strs _
theorem dd_SL (ls : List (List Nat)) : PyData.depth (.tuple ((ls.map SX.S).map PyData.str)) ≤ 60 := by
  show PyData.depthAll _ + 1 ≤ 60
  rw [depth_strs]
  decide
def menuP : List Str := [Str.ofString "a", Str.ofString "b c", Str.ofString ".", Str.ofString "..", Str.ofString "", Str.ofString "e.txt", Str.ofString "x\ny", Str.ofString "~", Str.ofString "...", PySem.Txt.mul (Str.ofString "a") 101]
theorem menuP_len : ∀ z ∈ menuP, z.length ≤ 101 := by decide +kernel
def sp_law_part (K : PySem.W.Frag) : Sp := fun vs H Q _ => ∃ c : Int, vs = [.int c] ∧ RetV (.str (menuP.getD (c % 10).toNat Str.empty)) H Q
theorem sp_part {K : PySem.W.Frag} {H : Hp} {c : Int} : SpV (sp_law_part K) [.int c] H (.str (menuP.getD (c % 10).toNat Str.empty)) := fun H1 e Q q E => ⟨c, rfl, fun H2 e2 => q H2 e2⟩
theorem sp_ptext {K : PySem.W.Frag} {H : Hp} {p : Addr} {ls : List (List Nat)} (h : SqT K H p (SL ls)) (h1 : ls.length ≤ 1000) (h2 : ∀ l ∈ ls, l.length ≤ 1000) : SpV (sp_path_text K) [.ref p] H (.str (SX.S (TL.joinL [47] ls))) := fun H1 e Q q E => ⟨p, ls, rfl, ex_t e h, h1, h2, fun H2 e2 => q H2 e2⟩
section
variable {P : Program} {w : World} {K : PySem.W.Frag} {mg : Str → Option Value} {base : Heap}
/-! ### is_name -/
theorem ok_is_name (D : Df K mg "is_name" s_is_name ["text"]) (T : Txt K mg)  : C8.Cal P w K mg base 1 "is_name" (sp_is_name K) [] := by
  refine D.cal sc_is_name (fun vs H Q E h => ?_) (fun f cdv A outer s H vs Q E hr h => ?_)
  · obtain ⟨z, rfl, _⟩ := h
    rfl
  · obtain ⟨z, rfl, hz, q⟩ := h
    refine ⟨_,
        (pss_cons (ps_if (PW.pt (pw_or (pt_cmpR op_eq (pv 0) pe_str (nomark _)) (pw_or (pt_cmpR op_eq (pv 0) pe_str (nomark _)) (pw_or1 (pt_cmpR op_in_sign pe_str (pv 0) (by with_unfolding_all rfl))))))
          (pss_one (ps_ret pe_bl))
          pss_nil)
        (pss_cons (ps_if (PW.pt (pw_or (pt_cmpR op_lt (pe_callB call_len_str (by rfl) T.n_len PySem.boot_len (pa_cons (pv 0) pa_nil)) pe_int (nomark _)) (pw_or1 (pt_cmpR op_gt (pe_callB call_len_str (by rfl) T.n_len PySem.boot_len (pa_cons (pv 0) pa_nil)) (C8.pe_gc (by rfl) T.g_MOST_SIGNS) (nomark _)))))
          (pss_one (ps_ret pe_bl))
          pss_nil)
        (pss_cons (ps_for PassesOwn.never rfl (pi_str (pv 0)) (pg_name (i := 1) sc_is_name.nd rfl (.inl rfl))
          (pss_one (ps_if (pt_cmpR op_lt (pe_callB call_ord (by rfl) T.n_ord (by decide +kernel) (pa_cons (pv 1) pa_nil)) (C8.pe_gc (by rfl) T.g_FIRST_SIGN) (nomark _))
            (pss_one (ps_ret pe_bl))
            pss_nil)))
        (pss_one (ps_ret pe_bl))))), ?_⟩
    refine q_when (et_or (et_test (ev_op (ev_var rfl) ev_c (rv_eq rfl))) (fun _ => et_or (et_test (ev_op (ev_var rfl) ev_c (rv_eq rfl))) (fun _ => et_test (ev_op ev_c (ev_var rfl) (rv_inSign e_slashS))))) (fun hb H1 e1 => ?_) (fun hb H1 e1 => ?_)
    · refine s_ret ev_c fun H2 e2 => ?_
      have g := q H2 (e1.trans e2)
      unfold nameOk at g
      rw [hb] at g
      exact g
    refine q_when (et_or (et_test (ev_op (ev_cb (ea_cons (ev_var rfl) ea_nil) (rc_lenStr hz)) ev_c rv_I0)) (fun _ => et_test (ev_op (ev_cb (ea_cons (ev_var rfl) ea_nil) (rc_lenStr hz)) ev_c rv_I0))) (fun hb2 H2 e2 => ?_) (fun hb2 H2 e2 => ?_)
    · refine s_ret ev_c fun H3 e3 => ?_
      have g := q H3 ((e1.trans e2).trans e3)
      unfold nameOk at g
      rw [hb, hb2] at g
      exact g
    refine q_forS (ev_var rfl) (fun i σ' H' => ∃ x, σ' = [some (.str z), x] ∧ Ex H H' ∧ (z.cps.toList.take i).all (fun c => !decide (((c : Nat) : Int) < 32)) = true) (fun H3 e3 => ⟨none, rfl, (e1.trans e2).trans e3, rfl⟩) ?_ ?_
    · rintro i c σ' H' hc ⟨x, rfl, eH, ha⟩
      refine s_when (et_test (ev_op (ev_cb (ea_cons (ev_var rfl) ea_nil) (rc_ord rfl)) ev_c rv_I0)) (fun hb3 H3 e3 => ?_) (fun hb3 H3 e3 => ?_)
      · refine s_ret ev_c fun H4 e4 => ?_
        have g := q H4 ((eH.trans e3).trans e4)
        have hf : (z.cps.toList.all fun c => !decide (((c : Nat) : Int) < 32)) = false := by
          rw [List.all_eq_false]
          refine ⟨c, List.mem_of_getElem? hc, ?_⟩
          have hb4 : decide (((c : Nat) : Int) < 32) = true := hb3
          rw [hb4]
          decide
        unfold nameOk at g
        rw [hb, hb2, hf] at g
        exact g
      · refine ⟨_, rfl, eH.trans e3, ?_⟩
        rw [all_take_succ hc, ha]
        have hb4 : decide (((c : Nat) : Int) < 32) = false := hb3
        rw [hb4]
        rfl
    · rintro σ' H' ⟨x, rfl, eH, ha⟩
      refine s_ret ev_c fun H4 e4 => ?_
      have g := q H4 (eH.trans e4)
      have e : z.cps.toList.take z.cps.size = z.cps.toList := List.take_of_length_le (by simp)
      rw [e] at ha
      unfold nameOk at g
      rw [hb, hb2, ha] at g
      exact g

/-! ### path_text -/
theorem ok_path_text (D : Df K mg "path_text" s_path_text ["path"]) (T : Txt K mg)  : C8.Cal P w K mg base 1 "path_text" (sp_path_text K) [] := by
  refine D.cal sc_path_text (fun vs H Q E h => ?_) (fun f cdv A outer s H vs Q E hr h => ?_)
  · obtain ⟨p, ls, rfl, _⟩ := h
    rfl
  · obtain ⟨p, ls, rfl, hS, h1, h2, q⟩ := h
    refine ⟨_,
        (pss_one (ps_ret (pe_join pe_str (pv 0)))), ?_⟩
    refine s_ret (ev_is (ev_joinS (a := SX.S [47]) (ys := ls.map SX.S) (ev_is ev_c (congrArg V.str e_sl)) (ev_var rfl) (.inr hS) (by
      have h3 := sum_le h2
      have h4 : ls.length * 1000 ≤ 1000 * 1000 := Nat.mul_le_mul h1 (Nat.le_refl _)
      have h5 : (SX.S [47]).length = 1 := rfl
      rw [List.length_map, h5]
      omega)) (congrArg V.str (join_is ls))) fun H1 e1 => q H1 e1

/-! ### read_path -/
theorem ok_read_path (D : Df K mg "read_path" s_read_path ["text"]) (T : Txt K mg) (G_is_name : C8.Cal P w K mg base 1 "is_name" (sp_is_name K) []) : C8.Cal P w K mg base 2 "read_path" (sp_read_path K) [] := by
  refine D.cal sc_read_path (fun vs H Q E h => ?_) (fun f cdv A outer s H vs Q E hr h => ?_)
  · obtain ⟨l, rfl, _⟩ := h
    rfl
  · obtain ⟨l, rfl, hl, q⟩ := h
    refine ⟨_,
        (pss_cons (ps_if (pt_cmpR op_eq (pv 0) pe_str (nomark _))
          (pss_one (ps_ret (pe_tup pa_nil)))
          pss_nil)
        (pss_cons (ps_set (i := 1) sc_read_path.nd rfl (.inl rfl) (pe_split (pv 0) pe_str))
        (pss_cons (ps_for PassesOwn.never rfl (pi_list (pv 1)) (pg_name (i := 2) sc_read_path.nd rfl (.inl rfl))
          (pss_one (ps_if (pt_not (pt_val (C8.pe_c G_is_name hr (by decide) (by rfl) (pa_cons (pv 2) pa_nil))))
            (pss_one (ps_ret pe_non))
            pss_nil)))
        (pss_one (ps_ret (pe_callTy call_tuple_of (by rfl) T.n_tuple (by decide +kernel) (pa_cons (pv 1) pa_nil))))))), ?_⟩
    refine q_when (et_is (et_test (ev_op (ev_var rfl) ev_c (rv_eq rfl))) (show _ = decide (l = []) from ?_)) (fun hb H1 e1 => ?_) (fun hb H1 e1 => ?_)
    · rw [e_no]
      exact decide_eq_decide.mpr ⟨fun h => SX.S_inj (V.str.inj h), fun h => by rw [h]⟩
    · have hnil := of_decide_eq_true hb
      refine s_retU (eu_tup ea_nil (by show 0 ≤ 100000; decide)) fun p H2 hp e2 h2 => q _ H2 (e1.trans e2) ?_
      unfold readP
      rw [if_pos hnil]
      exact ⟨p, rfl, h2⟩
    have hne := of_decide_eq_false hb
    refine q_asgL (el_split (a := SX.S l) (b := SX.S [47]) (ev_var rfl) (ev_is ev_c (congrArg V.str e_sl)) (by decide) (by rw [len_S]; omega)) fun p H2 hp e2 h2 => ?_
    rw [split_is] at h2
    have hcl : ∀ m ∈ cutL l, m.length ≤ 2000 := fun m hm => Nat.le_trans (cut_mem hm) hl
    refine q_forLn (ev_var rfl) (sq_of h2) (fun i σ' H' => ∃ x : Option V, σ' = [some (.str (SX.S l)), some (.ref p), x] ∧ Ex H2 H' ∧ ((cutL l).take i).all (fun m => nameOk (SX.S m)) = true) (fun H3 e3 => ⟨none, rfl, e3, rfl⟩) (fun i σ' H' _ h => by obtain ⟨x, _, e, _⟩ := h; exact sq_of (e p _ h2)) ?_ ?_
    · rintro i x σ' H' hi ⟨x0, rfl, eH, ha⟩
      rw [List.getElem?_map, List.getElem?_map] at hi
      cases hm : (cutL l)[i]? with
      | none =>
        rw [hm] at hi
        cases hi
      | some m =>
        rw [hm] at hi
        have hx : x = V.str (SX.S m) := (Option.some.inj hi).symm
        subst hx
        have hml : (SX.S m).length ≤ 100000 := by
          rw [len_S]
          have := hcl m (List.mem_of_getElem? hm)
          omega
        refine s_when (et_not (et_B (ev_call (ea_cons (ev_var rfl) ea_nil) (sp_nm hml)))) (fun hb3 H3 e3 => ?_) (fun hb3 H3 e3 => ?_)
        · refine s_ret ev_c fun H4 e4 => q _ H4 (((e1.trans e2).trans (eH.trans e3)).trans e4) ?_
          unfold readP
          rw [if_neg hne, if_neg]
          · exact rfl
          · rw [Bool.not_eq_true, List.all_eq_false]
            refine ⟨m, List.mem_of_getElem? hm, ?_⟩
            cases hn : nameOk (SX.S m) with
            | true =>
              rw [hn] at hb3
              cases hb3
            | false => exact Bool.false_ne_true
        · refine ⟨_, rfl, eH.trans e3, ?_⟩
          rw [List.take_add_one, hm, List.all_append, ha]
          cases hn : nameOk (SX.S m) with
          | true => simp [hn]
          | false =>
            rw [hn] at hb3
            cases hb3
    · rintro σ' H' ⟨x0, rfl, eH, ha⟩
      refine s_retU (eu_tupOf (ev_var rfl) (sq_of (eH p _ h2))) fun p' H3 hp' e3 h3 => q _ H3 (((e1.trans e2).trans eH).trans e3) ?_
      rw [List.length_map, List.length_map, List.take_length] at ha
      unfold readP
      rw [if_neg hne, if_pos ha]
      exact ⟨p', rfl, h3⟩

/-! ### law_cells -/
theorem ok_law_cells (D : Df K mg "_law_cells" s_law_cells ["script", "count"]) (T : Txt K mg)  : C8.Cal P w K mg base 1 "_law_cells" (sp_law_cells K) [] := by
  refine D.cal sc_law_cells (fun vs H Q E h => ?_) (fun f cdv A outer s H vs Q E hr h => ?_)
  · obtain ⟨a, ns, n, rfl, _⟩ := h
    rfl
  · obtain ⟨a, ns, n, rfl, hS, hl, hn, q⟩ := h
    refine ⟨_,
        (pss_cons (ps_set (i := 2) sc_law_cells.nd rfl (.inl rfl) (pe_lst pa_nil))
        (pss_cons (ps_for PassesOwn.never rfl (pi_range1 (by rfl) T.n_range (pa_cons (pv 1) pa_nil)) (pg_name (i := 3) sc_law_cells.nd rfl (.inl rfl))
          (pss_cons (ps_set (i := 4) sc_law_cells.nd rfl (.inl rfl) pe_int)
          (pss_cons (ps_if (pt_cmpR op_lt (pv 3) (pe_callB call_len_seq (by rfl) T.n_len PySem.boot_len (pa_cons (pv 0) pa_nil)) (nomark _))
            (pss_one (ps_set (i := 4) sc_law_cells.nd rfl (.inl rfl) (pe_callTy call_int1 (by rfl) T.n_int (by decide +kernel) (pa_cons (pe_ix ix_list (pv 0) (pv 3) (fun _ _ => rfl)) pa_nil))))
            pss_nil)
          (pss_cons (ps_if (pt_cmpR op_lt (pv 4) pe_int (nomark _))
            (pss_one (ps_set (i := 4) sc_law_cells.nd rfl (.inl rfl) (pe_op op_sub pe_int (pe_op op_mul pe_int (pv 4)))))
            pss_nil)
          (pss_cons (ps_if (PW.pt (pw_or (pt_cmpR op_ge (pv 3) (pe_callB call_len_seq (by rfl) T.n_len PySem.boot_len (pa_cons (pv 0) pa_nil)) (nomark _)) (pw_or1 (pt_cmpR op_lt (pv 4) pe_int (nomark _)))))
            (pss_cons (ps_if (pt_cmpR op_gt (pe_callB call_len_seq (by rfl) T.n_len PySem.boot_len (pa_cons (pv 0) pa_nil)) pe_int (nomark _))
              (pss_one (ps_set (i := 4) sc_law_cells.nd rfl (.inl rfl) (pe_callTy call_int1 (by rfl) T.n_int (by decide +kernel) (pa_cons (pe_ix ix_list (pv 0) (pe_op op_mod (pe_callTy call_int1 (by rfl) T.n_int (by decide +kernel) (pa_cons (pv 3) pa_nil)) (pe_callB call_len_seq (by rfl) T.n_len PySem.boot_len (pa_cons (pv 0) pa_nil))) (fun _ _ => rfl)) pa_nil))))
              pss_nil)
            (pss_cons (ps_if (pt_cmpR op_lt (pv 4) pe_int (nomark _))
              (pss_one (ps_set (i := 4) sc_law_cells.nd rfl (.inl rfl) (pe_op op_sub pe_int (pe_op op_mul pe_int (pv 4)))))
              pss_nil)
            (pss_cons (ps_set (i := 4) sc_law_cells.nd rfl (.inl rfl) (pe_op op_mod (pe_callTy call_int1 (by rfl) T.n_int (by decide +kernel) (pa_cons (pe_op op_add (pe_op op_mul (pe_op op_add (pe_op op_add (pv 4) (pe_op op_mul pe_int (pv 3))) pe_int) pe_int) (pe_op op_mul (pe_op op_mul (pv 3) (pv 3)) pe_int)) pa_nil)) pe_int))
            (pss_one (ps_set (i := 4) sc_law_cells.nd rfl (.inl rfl) (pe_op op_mod (pe_callTy call_int1 (by rfl) T.n_int (by decide +kernel) (pa_cons (pe_op op_mul (pe_op op_add (pe_op op_add (pv 4) (pe_op op_mul pe_int (pv 3))) pe_int) pe_int) pa_nil)) pe_int))))))
            pss_nil)
          (pss_one (ps_expr (pe_bm PySem.F.plainAttrs_list PySem.F.slot_list_append PySem.F.type_list_append mt_append (pv 2) (pa_cons (pv 4) pa_nil)))))))))
        (pss_one (ps_ret (pv 2))))), ?_⟩
    refine q_asgL (el_lst ea_nil (by simp)) fun p H1 hp e1 h1 => ?_
    refine q_forR1 (n := (n : Int)) (ea_cons (ev_var rfl) ea_nil) ⟨by omega, by omega⟩
      (fun i σ' H' => ∃ k c, σ' = [some (.ref a), some (.int (n : Int)), some (.ref p), k, c] ∧ Ex H H' ∧ H' p = some (.lst ((cellsOf ns i).map V.int)))
      (fun H2 e2 => ⟨none, none, rfl, e1.trans e2, e2 p _ h1⟩) ?_ ?_
    · rintro i σ' H' hi ⟨k0, c0, rfl, eH, hc⟩
      have hS' := ex_l eH hS
      have hlen : ((ns.map V.int).length : Int) = (ns.length : Int) := by rw [List.length_map]
      -- cell = 0; if k < len(script): cell = int(script[k])
      refine q_asg ev_c fun H2 e2 => ?_
      refine q_ifAsg (v := .int (cell0 ns i)) (et_test (ev_op (ev_var rfl) (ev_len (ev_var rfl) (ex_l e2 hS')) rv_I0)) (fun hb => ?_) (fun hb => ?_) fun H3 e3 => ?_
      · have hlt : i < ns.length := by
          have := of_decide_eq_true hb
          rw [hlen] at this
          omega
        refine ev_is (ev_cb (ea_cons (ev_op (ev_var rfl) (ev_var rfl) (rv_ixL (ex_l e2 hS') (at_int (by omega) (by omega)))) ea_nil) rc_int) ?_
        unfold cell0
        rw [if_pos hlt, Int.toNat_natCast]
      · have hlt : ¬ i < ns.length := by
          have := of_decide_eq_false hb
          rw [hlen] at this
          omega
        unfold cell0
        rw [if_neg hlt]
        rfl
      -- if cell < 0: cell = 1 - 2 * cell
      refine q_ifAsg (v := .int (fixC (cell0 ns i))) (et_test (ev_op (ev_var rfl) ev_c rv_I0)) (fun hb => ev_is (ev_op ev_c (ev_op ev_c (ev_var rfl) (rv_I (.inl (by decide)))) rv_I0) (congrArg V.int (fixC_neg hb))) (fun hb => by rw [fixC_pos hb]; rfl) fun H4 e4 => ?_
      have hS4 := ex_l ((e2.trans e3).trans e4) hS'
      have eH4 := (eH.trans ((e2.trans e3).trans e4))
      have hc4 := ((e2.trans e3).trans e4) p _ hc
      have lenc : ((cellsOf ns i).map V.int).length < 100000 := by
        rw [List.length_map, cellsOf_len]
        omega
      have fin : ∀ H5, Ex H4 H5 → ∃ k c, ([some (.ref a), some (.int (n : Int)), some (.ref p), some (.int (i : Int)), some (.int (cellAt ns i))] : L2.St) = [some (.ref a), some (.int (n : Int)), some (.ref p), k, c] ∧ Ex H (upd H5 p (.lst ((cellsOf ns i).map V.int ++ [.int (cellAt ns i)]))) ∧ (upd H5 p (.lst ((cellsOf ns i).map V.int ++ [.int (cellAt ns i)]))) p = some (.lst ((cellsOf ns (i + 1)).map V.int)) := fun H5 e5 => by
        refine ⟨_, _, rfl, Ex.mut (eH4.trans e5) hp, ?_⟩
        rw [upd_same, cellsOf_succ, List.map_append]
        rfl
      refine q_when (et_or (et_test (ev_op (ev_var rfl) (ev_len (ev_var rfl) hS4) rv_I0)) (fun _ => et_test (ev_op (ev_var rfl) ev_c rv_I0))) (fun hb H5 e5 => ?_) (fun hb H5 e5 => ?_)
      · rw [hlen] at hb
        have hS5 := ex_l e5 hS4
        refine q_ifAsg (v := .int (cell2 ns i (fixC (cell0 ns i)))) (et_test (ev_op (ev_len (ev_var rfl) hS5) ev_c rv_I0)) (fun hb => ?_) (fun hb => ?_) fun H6 e6 => ?_
        · have hpos : 0 < ns.length := by
            have := of_decide_eq_true hb
            rw [hlen] at this
            omega
          have hm0 : 0 ≤ (i : Int) % (ns.length : Int) := Int.emod_nonneg _ (by omega)
          have hm1 : (i : Int) % (ns.length : Int) < (ns.length : Int) := Int.emod_lt_of_pos _ (by omega)
          refine ev_is (ev_cb (ea_cons (ev_op (ev_var rfl) (ev_op (ev_cb (ea_cons (ev_var rfl) ea_nil) rc_int) (ev_len (ev_var rfl) hS5) (rv_I (by rw [hlen]; omega))) (rv_ixL hS5 (by rw [hlen]; exact at_int hm0 hm1))) ea_nil) rc_int) ?_
          unfold cell2
          rw [if_pos hpos]
        · have hpos : ¬ 0 < ns.length := by
            have := of_decide_eq_false hb
            rw [hlen] at this
            omega
          unfold cell2
          rw [if_neg hpos]
          rfl
        refine q_ifAsg (v := .int (fixC (cell2 ns i (fixC (cell0 ns i))))) (et_test (ev_op (ev_var rfl) ev_c rv_I0)) (fun hb => ev_is (ev_op ev_c (ev_op ev_c (ev_var rfl) (rv_I (.inl (by decide)))) rv_I0) (congrArg V.int (fixC_neg hb))) (fun hb => by rw [fixC_pos hb]; rfl) fun H7 e7 => ?_
        refine q_asg (v := .int (mix1 i (fixC (cell2 ns i (fixC (cell0 ns i)))))) (ev_op (ev_cb (ea_cons (ev_op (ev_op (ev_op (ev_op (ev_var rfl) (ev_op ev_c (ev_var rfl) (rv_I (.inl (by decide)))) rv_I0) ev_c rv_I0) ev_c (rv_I (.inr (by decide)))) (ev_op (ev_op (ev_var rfl) (ev_var rfl) (rv_I (.inl (by omega)))) ev_c (rv_I (.inr (by decide)))) rv_I0) ea_nil) rc_int) ev_c (rv_I (by show (0 : Int) < 1000000007; decide))) fun H8 e8 => ?_
        refine s_asg (v := .int (cellAt ns i)) (ev_is (ev_op (ev_cb (ea_cons (ev_op (ev_op (ev_op (ev_var rfl) (ev_op ev_c (ev_var rfl) (rv_I (.inl (by decide)))) rv_I0) ev_c rv_I0) ev_c (rv_I (.inr (by decide)))) ea_nil) rc_int) ev_c (rv_I (by show (0 : Int) < 18446744073709551557; decide))) (congrArg V.int (cellAt_mix hb))) fun H9 e9 => ?_
        have e49 := (((e5.trans e6).trans e7).trans e8).trans e9
        exact s_app (e49 p _ hc4) (ev_var rfl) (ev_var rfl) lenc fun H10 e10 => fin H10 (e49.trans e10)
      · rw [hlen] at hb
        rw [cellAt_own hb] at *
        exact s_app (e5 p _ hc4) (ev_var rfl) (ev_var rfl) lenc fun H10 e10 => fin H10 (e5.trans e10)
    · rintro σ' H' ⟨k0, c0, rfl, eH, hc⟩
      exact s_ret (ev_var rfl) fun H1' e' => q p H1' hp (eH.trans e') (e' p _ hc)

/-! ### law_part -/
theorem ok_law_part (D : Df K mg "_law_part" s_law_part ["cell"]) (T : Txt K mg)  : C8.Cal P w K mg base 1 "_law_part" (sp_law_part K) [] := by
  refine D.cal sc_law_part (fun vs H Q E h => ?_) (fun f cdv A outer s H vs Q E hr h => ?_)
  · obtain ⟨c, rfl, _⟩ := h
    rfl
  · obtain ⟨c, rfl, q⟩ := h
    refine ⟨_,
        (pss_one (ps_ret (pe_ix ix_list (pe_lst (pa_cons pe_str (pa_cons pe_str (pa_cons pe_str (pa_cons pe_str (pa_cons pe_str (pa_cons pe_str (pa_cons pe_str (pa_cons pe_str (pa_cons pe_str (pa_cons (pe_op op_mul_str pe_str pe_int) pa_nil))))))))))) (pe_op op_mod (pe_callTy call_int1 (by rfl) T.n_int (by decide +kernel) (pa_cons (pv 0) pa_nil)) pe_int) (fun _ _ => rfl)))), ?_⟩
    have hm := mod_bd c 10 (by decide)
    exact s_ret (ev_opL1 (xs := menuP.map V.str) (el_lst (ea_cons ev_c (ea_cons ev_c (ea_cons ev_c (ea_cons ev_c (ea_cons ev_c (ea_cons ev_c (ea_cons ev_c (ea_cons ev_c (ea_cons ev_c (ea_cons (ev_op ev_c ev_c (rv_mulStr (by decide) (by decide) (by decide +kernel))) ea_nil)))))))))) (by show 10 ≤ 100000; decide)) (fun H1 e1 => ev_op (ev_cb (ea_cons (ev_var rfl) ea_nil) rc_int) ev_c (rv_I (by show (0 : Int) < 10; decide))) fun p H1 h1 _ => rv_ixL (sq_of h1) (at_str hm.1 (by show _ < ((10 : Nat) : Int); omega))) fun H1 e1 => q H1 e1

/-! ### law -/
theorem ok_law {f : Addr} {fd : FuncData} (F : Fun K "law" "law" s_law f fd) (T : Txt K mg) (G_is_name : C8.Cal P w K mg base 1 "is_name" (sp_is_name K) []) (G_path_text : C8.Cal P w K mg base 1 "path_text" (sp_path_text K) []) (G_read_path : C8.Cal P w K mg base 2 "read_path" (sp_read_path K) []) (G_law_cells : C8.Cal P w K mg base 1 "_law_cells" (sp_law_cells K) []) (G_law_part : C8.Cal P w K mg base 1 "_law_part" (sp_law_part K) []) : FnOk P w K mg base CX0 3 f fd ["script"] (spLaw K) := by
  refine F.ok sc_law (fun vs H Q E h => ?_) (fun cdv A outer s H vs Q E hr h => ?_)
  · obtain ⟨a, ns, rfl, _⟩ := h
    rfl
  · obtain ⟨a, ns, rfl, hS, hl, q⟩ := h
    refine ⟨_,
        (pss_cons (ps_set (i := 1) sc_law.nd rfl (.inr rfl) (C8.pe_c G_law_cells hr (by decide) (by rfl) (pa_cons (pv 0) (pa_cons pe_int pa_nil))))
        (pss_cons (ps_set (i := 2) sc_law.nd rfl (.inr rfl) (pe_lst (pa_cons pe_str (pa_cons pe_str (pa_cons pe_str (pa_cons pe_str (pa_cons pe_str pa_nil)))))))
        (pss_cons (ps_set (i := 3) sc_law.nd rfl (.inl rfl) (pe_callTy call_tuple_of (by rfl) T.n_tuple (by decide +kernel) (pa_cons (pe_lc (own := [("k", 7)]) (g := gName 7) (tt := tYes) rfl sc_law.nd (pi_range1 (by rfl) T.n_range (pa_cons (pe_op op_mod (pe_callTy call_int1 (by rfl) T.n_int (by decide +kernel) (pa_cons (pe_ix ix_list (pv 1) pe_int (fun _ _ => rfl)) pa_nil)) pe_int) pa_nil)) (blkOk_by (own := [("k", 7)]) (N := ["script", "cells", "good", "path", "parts", "text", "read", "k", "part"]) (sc := defScope s_law) (by decide +kernel)) (fun _ _ _ _ _ => (pg_name (i := 7) sc_law.nd rfl (Or.inl rfl))) (fun _ _ _ _ _ => pts_nil) (fun _ _ _ _ _ => (pe_ix (show IxR _ (rIxL K) from ix_list) (pv 2) (pe_op op_mod (pe_callTy call_int1 (by rfl) T.n_int (by decide +kernel) (pa_cons (pe_ix (show IxR _ (rIxL K) from ix_list) (pv 1) (pv 7) (fun _ _ => rfl)) pa_nil)) pe_int) (fun _ _ => rfl)))) pa_nil)))
        (pss_cons (ps_if (pt_cmpR (op_neP hr.units) (C8.pe_c G_read_path hr (by decide) (by rfl) (pa_cons (C8.pe_c G_path_text hr (by decide) (by rfl) (pa_cons (pv 3) pa_nil)) pa_nil)) (pv 3) (nomark _))
          (pss_one (ps_ret pe_bl))
          pss_nil)
        (pss_cons (ps_setLc (i := 4) (own := [("k", 7)]) (g := gName 7) (tt := tYes) rfl sc_law.nd rfl rfl (sw_true rfl rfl rfl (by decide +kernel)) (pi_range1 (by rfl) T.n_range (pa_cons (pe_op op_add pe_int (pe_op op_mod (pe_callTy call_int1 (by rfl) T.n_int (by decide +kernel) (pa_cons (pe_ix ix_list (pv 1) pe_int (fun _ _ => rfl)) pa_nil)) pe_int)) pa_nil)) (blkOk_by (own := [("k", 7)]) (N := ["script", "cells", "good", "path", "parts", "text", "read", "k", "part"]) (sc := defScope s_law) (by decide +kernel)) (fun _ _ _ _ _ => (pg_name (i := 7) sc_law.nd rfl (Or.inl rfl))) (fun _ _ _ _ _ => pts_nil) (fun _ _ _ _ _ => (C8.pe_c G_law_part hr (by decide) (by rfl) (pa_cons (pe_ix (show IxR _ (rIxL K) from ix_list) (pv 1) (pe_op op_add pe_int (pv 7)) (fun _ _ => rfl)) pa_nil))))
        (pss_cut (ps_if (pt_cmpR op_eq (pe_op op_mod (pe_ix ix_list (pv 1) pe_int (fun _ _ => rfl)) pe_int) pe_int (nomark _))
          (pss_one (ps_setLc (i := 4) (own := [("k", 7)]) (g := gName 7) (tt := tYes) rfl sc_law.nd rfl rfl (sw_true rfl rfl rfl (by decide +kernel)) (pi_range1 (by rfl) T.n_range (pa_cons (pe_callB call_len_seq (by rfl) T.n_len PySem.boot_len (pa_cons (pv 4) pa_nil)) pa_nil)) (blkOk_by (own := [("k", 7)]) (N := ["script", "cells", "good", "path", "parts", "text", "read", "k", "part"]) (sc := defScope s_law) (by decide +kernel)) (fun _ _ _ _ _ => (pg_name (i := 7) sc_law.nd rfl (Or.inl rfl))) (fun _ _ _ _ _ => pts_nil) (fun _ _ _ _ _ => (pe_ix (show IxR _ (rIxL K) from ix_list) (pv 2) (pe_op op_mod (pe_callTy call_int1 (by rfl) T.n_int (by decide +kernel) (pa_cons (pe_ix (show IxR _ (rIxL K) from ix_list) (pv 1) (pe_op op_add pe_int (pv 7)) (fun _ _ => rfl)) pa_nil)) pe_int) (fun _ _ => rfl)))))
          pss_nil)
        (pss_cons (ps_set (i := 5) sc_law.nd rfl (.inl rfl) (pe_join pe_str (pv 4)))
        (pss_cons (ps_set (i := 6) sc_law.nd rfl (.inl rfl) (C8.pe_c G_read_path hr (by decide) (by rfl) (pa_cons (pv 5) pa_nil)))
        (pss_cons (ps_if (pt_cmpR op_eq (pv 5) pe_str (nomark _))
          (pss_one (ps_ret (pe_cmpR (op_eqP hr.units) (pv 6) (pe_tup pa_nil) (nomark _))))
          pss_nil)
        (pss_cons (ps_if (pt_not (pt_val (pe_callB (cr_all rfl) (by rfl) T.n_all (by decide +kernel) (pa_cons (pe_lc (own := [("part", 8)]) (g := gName 8) (tt := tYes) rfl sc_law.nd (pi_list (pe_split (pv 5) pe_str)) (blkOk_by (own := [("part", 8)]) (N := ["script", "cells", "good", "path", "parts", "text", "read", "k", "part"]) (sc := defScope s_law) (by decide +kernel)) (fun _ _ _ _ _ => (pg_name (i := 8) sc_law.nd rfl (Or.inl rfl))) (fun _ _ _ _ _ => pts_nil) (fun _ _ _ _ _ => (C8.pe_c G_is_name hr (by decide) (by rfl) (pa_cons (pv 8) pa_nil)))) pa_nil))))
          (pss_one (ps_ret (pe_cmpR op_isN (pv 6) pe_non (nomark _))))
          pss_nil)
        (pss_one (ps_ret (pe_and (pe_cmpR (op_eqP hr.units) (pv 6) (pe_callTy call_tuple_of (by rfl) T.n_tuple (by decide +kernel) (pa_cons (pe_split (pv 5) pe_str) pa_nil)) (nomark _)) (pe_one (pe_cmpR op_eq (C8.pe_c G_path_text hr (by decide) (by rfl) (pa_cons (pv 6) pa_nil)) (pv 5) (nomark _)))))))))))))))), ?_⟩
    refine q_asgL (el_call (ea_cons (ev_var rfl) (ea_cons ev_c ea_nil)) (sp_cells (n := 16) hS hl (by decide))) fun p1 H1 hp1 e1 h1 => ?_
    have cl := cellsOf_len ns 16
    generalize cellsOf ns 16 = cs at h1 cl
    refine q_asgL (xs := SL goodL) (by rw [← good_is]; exact el_lst (ea_cons ev_c (ea_cons ev_c (ea_cons ev_c (ea_cons ev_c (ea_cons ev_c ea_nil))))) (by show 5 ≤ 100000; decide)) fun p2 H2 hp2 e2 h2 => ?_
    have cell : ∀ {σ : L2.St} {ti : TE} {H' : Hp} {i : Int}, Ex H2 H' → σ[1]? = some (some (.ref p1)) → Ev ti σ H' (.int i) → 0 ≤ i → i < 16 → Ev (tOp (rIxL K) (tVar 1) ti) σ H' (.int (cs.getD i.toNat 0)) := fun e h0 hi i0 i1 =>
      ev_op (ev_var h0) hi (rv_ixL (sq_of (e p1 _ (e2 p1 _ h1))) (at_int i0 (by omega)))
    let gd : Int → List Nat := fun c => goodL.getD (c % 5).toNat []
    have gdm : ∀ c, gd c ∈ goodL := fun c => memD (by have := mod_bd c 5 (by decide); show _ < 5; omega)
    have good : ∀ {σ : L2.St} {ti : TE} {H' : Hp} {c : Int}, Ex H2 H' → σ[2]? = some (some (.ref p2)) → Ev ti σ H' (.int c) → Ev (tOp (rIxL K) (tVar 2) (tOp (rI (fun _ j => 0 < j) fun i j => .int (i % j)) (tCB (fun xs H Q => (∃ i, xs = [V.int i] ∧ Q (V.int i) H) ∨ ∃ k, xs = [V.bl k] ∧ Q (V.int (if k = true then 1 else 0)) H) (tCons ti tNil)) (tC (.int 5)))) σ H' (.str (SX.S (gd c))) := fun {σ ti H' c} e h0 hc => by
      have hm := mod_bd c 5 (by decide)
      refine ev_op (ev_var h0) (ev_op (ev_cb (ea_cons hc ea_nil) rc_int) ev_c (rv_I (by show (0 : Int) < 5; decide))) (rv_ixL (sq_of (e p2 _ h2)) ?_)
      have h := at_str (xs := goodL.map SX.S) hm.1 (by show _ < ((5 : Nat) : Int); omega)
      refine h.trans ?_
      have hlt : (c % 5).toNat < goodL.length := by show _ < 5; omega
      refine congrArg (fun z => some (V.str z)) ?_
      show (goodL.map SX.S).getD (c % 5).toNat Str.empty = SX.S (goodL.getD (c % 5).toNat [])
      rw [List.getD_eq_getElem?_getD, List.getD_eq_getElem?_getD, List.getElem?_map, List.getElem?_eq_getElem hlt]
      rfl
    -- the path
    have hm4 := mod_bd (cs.getD (4 : Int).toNat 0) 5 (by decide)
    let ls : List (List Nat) := (List.range (cs.getD (4 : Int).toNat 0 % 5).toNat).map fun (k : Nat) => gd (cs.getD (k : Int).toNat 0)
    have hls : ∀ l ∈ ls, nameOk (SX.S l) = true ∧ 47 ∉ l ∧ l ≠ [] ∧ l.length ≤ 100 := fun l hl => by
      obtain ⟨k, _, rfl⟩ := List.mem_map.mp hl
      exact good_ok _ (gdm _)
    have hlsl : ls.length ≤ 4 := by
      show ((List.range _).map _).length ≤ 4
      rw [List.length_map, List.length_range]
      omega
    refine q_asgU (xs := SL ls) (eu_tupOfL (by
      have hg : given (cs.getD (4 : Int).toNat 0 % 5).toNat (fun _ => true) (fun (k : Nat) => V.str (SX.S (gd (cs.getD (k : Int).toNat 0)))) = SL ls := by
        rw [given_all]
        show _ = (((List.range _).map _).map SX.S).map V.str
        rw [List.map_map, List.map_map]
        rfl
      rw [← hg]
      exact el_lcR1 (fun _ => true) (fun (k : Nat) => V.str (SX.S (gd (cs.getD (k : Int).toNat 0)))) (ea_cons (ev_op (ev_cb (ea_cons (cell (Ex.refl H2) rfl ev_c (by decide) (by decide)) ea_nil) rc_int) ev_c (rv_I (by show (0 : Int) < 5; decide))) ea_nil) ⟨by omega, by omega⟩ (fun _ => rfl) (fun _ _ _ _ => et_yes) (fun i H3 e3 hi _ => good e3 rfl (cell e3 rfl (ev_var rfl) (by omega) (by omega))))) fun p3 H3 hp3 e3 h3 => ?_
    have hj4 := join_len (ls := ls) (b := 100) fun l hl => (hls l hl).2.2.2
    have hj : (TL.joinL [47] ls).length ≤ 2000 := by
      have : ls.length * (100 + 1) ≤ 4 * 101 := Nat.mul_le_mul hlsl (Nat.le_refl _)
      omega
    refine q_when (b := false) (et_is (et_test (ev_opH (R := ReadIs (some ls)) (fun v _ _ e h => ReadIs.mono e h) (by
      have h := sh_read (K := K) (H := H3) hj
      rw [read_join fun l hl => ⟨(hls l hl).1, (hls l hl).2.1, (hls l hl).2.2.1⟩] at h
      exact eh_call (ea_cons (ev_call (ea_cons (ev_var rfl) ea_nil) (sp_ptext (st_of h3) (by omega) (fun l hl => by have := (hls l hl).2.2.2; omega))) ea_nil) h) (fun _ _ => ev_var rfl) fun x H4 e4 hx => by
        obtain ⟨px, rfl, hpx⟩ := hx
        exact rv_neP (b := true) (fun H5 e5 => dp_SL (e5 px _ hpx)) (fun H5 e5 => dp_SL (e5 p3 _ (e4 p3 _ h3))) (pl_SL ls) (pl_SL ls) (dd_SL ls) (SeqAt.eqv_refl_plain _ (pl_SL ls)))) rfl) (fun hb => by cases hb) (fun _ H4 e4 => ?_)
    -- the parts
    have hm5 := mod_bd (cs.getD (5 : Int).toNat 0) 6 (by decide)
    have e24 : Ex H2 H4 := e3.trans e4
    let pz : Nat → Str := fun (k : Nat) => menuP.getD (cs.getD (6 + (k : Int)).toNat 0 % 10).toNat Str.empty
    refine q_asgL (el_lcR1 (fun _ => true) (fun k => V.str (pz k)) (ea_cons (ev_op ev_c (ev_op (ev_cb (ea_cons (cell e24 rfl ev_c (by decide) (by decide)) ea_nil) rc_int) ev_c (rv_I (by show (0 : Int) < 6; decide))) rv_I0) ea_nil) ⟨by omega, by omega⟩ (fun _ => rfl) (fun _ _ _ _ => et_yes) (fun i H5 e5 hi _ => ev_call (ea_cons (cell (e24.trans e5) rfl (ev_op ev_c (ev_var rfl) rv_I0) (by omega) (by omega)) ea_nil) sp_part)) fun p5 H5 hp5 e5 h5 => ?_
    rw [given_all] at h5
    have e25 := e24.trans e5
    refine q_cut (M := fun σ' H' => ∃ (p6 : Addr) (ms : List (List Nat)), σ' = [some (.ref a), some (.ref p1), some (.ref p2), some (.ref p3), some (.ref p6), none, none, none, none] ∧ Ex H2 H' ∧ H' p6 = some (.lst (SL ms)) ∧ ms.length ≤ 6 ∧ ∀ l ∈ ms, l.length ≤ 101) ?_ ?_
    · refine s_when (et_test (ev_op (ev_op (cell e25 rfl ev_c (by decide) (by decide)) ev_c (rv_I (by show (0 : Int) < 3; decide))) ev_c (rv_eq rfl))) (fun hb H6 e6 => ?_) (fun hb H6 e6 => ?_)
      · have hl5 : ((((List.range (1 + cs.getD (5 : Int).toNat 0 % 6).toNat).map fun k => V.str (pz k)).length : Nat) : Int) = 1 + cs.getD (5 : Int).toNat 0 % 6 := by
          rw [List.length_map, List.length_range]
          omega
        refine s_asgL (el_lcR1 (fun _ => true) (fun (k : Nat) => V.str (SX.S (gd (cs.getD (6 + (k : Int)).toNat 0)))) (ea_cons (ev_is (ev_len (ev_var rfl) (sq_of (e6 p5 _ h5))) (congrArg V.int hl5)) ea_nil) ⟨by omega, by omega⟩ (fun _ => rfl) (fun _ _ _ _ => et_yes) (fun i H7 e7 hi _ => good ((e25.trans e6).trans e7) rfl (cell ((e25.trans e6).trans e7) rfl (ev_op ev_c (ev_var rfl) rv_I0) (by omega) (by omega)))) fun p6 H7 hp6 e7 h7 => ?_
        rw [given_all] at h7
        refine ⟨p6, (List.range (1 + cs.getD (5 : Int).toNat 0 % 6).toNat).map fun (k : Nat) => gd (cs.getD (6 + (k : Int)).toNat 0), rfl, (e25.trans e6).trans e7, ?_, ?_, ?_⟩
        · rw [h7]
          show _ = some (HO.lst ((((List.range _).map _).map SX.S).map V.str))
          rw [List.map_map, List.map_map]
          rfl
        · rw [List.length_map, List.length_range]
          omega
        · intro l hl
          obtain ⟨k, _, rfl⟩ := List.mem_map.mp hl
          have := (good_ok _ (gdm (cs.getD (6 + (k : Int)).toNat 0))).2.2.2
          omega
      · refine ⟨p5, (List.range (1 + cs.getD (5 : Int).toNat 0 % 6).toNat).map fun k => (pz k).cps.toList, rfl, e25.trans e6, ?_, ?_, ?_⟩
        · rw [e6 p5 _ h5]
          show _ = some (HO.lst ((((List.range _).map _).map SX.S).map V.str))
          rw [List.map_map, List.map_map]
          refine congrArg (fun z => some (HO.lst z)) (List.map_congr_left fun k _ => ?_)
          show V.str (pz k) = V.str (SX.S (pz k).cps.toList)
          rw [SX.S_tl]
        · rw [List.length_map, List.length_range]
          omega
        · intro l hl
          obtain ⟨k, _, rfl⟩ := List.mem_map.mp hl
          have hm := mod_bd (cs.getD (6 + (k : Int)).toNat 0) 10 (by decide)
          have h2 := menuP_len (pz k) (memD (by show _ < 10; omega))
          have h3 : (pz k).cps.toList.length = (pz k).length := Array.length_toList
          omega
    rintro σ' H' ⟨p6, ms, rfl, eH, h6, hm6, hms⟩
    have hsum := sum_le hms
    have hmul : ms.length * 101 ≤ 6 * 101 := Nat.mul_le_mul hm6 (Nat.le_refl _)
    refine q_asg (v := .str (SX.S (TL.joinL [47] ms))) (ev_is (ev_joinS (a := SX.S [47]) (ys := ms.map SX.S) (ev_is ev_c (congrArg V.str e_sl)) (ev_var rfl) (.inl (sq_of h6)) (by
      have h5 : (SX.S [47]).length = 1 := rfl
      rw [List.length_map, h5]
      omega)) (congrArg V.str (join_is ms))) fun H7 e7 => ?_
    have hjl := join_len hms
    have hmul2 : ms.length * (101 + 1) ≤ 6 * 102 := Nat.mul_le_mul hm6 (Nat.le_refl _)
    generalize TL.joinL [47] ms = l at hjl
    have hl2 : l.length ≤ 2000 := by omega
    refine q_asgH (eh_call (ea_cons (ev_var rfl) ea_nil) (sh_read hl2)) fun v H8 e8 hv => ?_
    refine q_when (et_is (et_test (ev_op (ev_var rfl) ev_c (rv_eq rfl))) (show _ = decide (l = []) from ?_)) (fun hb H9 e9 => ?_) (fun hb H9 e9 => ?_)
    · rw [e_no]
      exact decide_eq_decide.mpr ⟨fun h => SX.S_inj (V.str.inj h), fun h => by rw [h]⟩
    · have hnil := of_decide_eq_true hb
      unfold readP at hv
      rw [if_pos hnil] at hv
      obtain ⟨pv9, rfl, hpv⟩ := hv
      exact s_ret (ev_opU (xs := SL []) (ev_var rfl) (eu_tup ea_nil (by show 0 ≤ 100000; decide)) fun pz H10 h10 e10 => rv_eqP (fun H11 e11 => dp_SL (e11 pv9 _ (e10 pv9 _ (e9 pv9 _ hpv)))) (fun H11 e11 => dp_SL (e11 pz _ h10)) (pl_SL []) (pl_SL []) (dd_SL []) (SeqAt.eqv_refl_plain _ (pl_SL []))) fun H10 e10 => q H10
    have hne := of_decide_eq_false hb
    have hcl : ∀ m ∈ cutL l, (SX.S m).length ≤ 100000 := fun m hm => by
      rw [len_S]
      have := cut_mem hm
      omega
    have hsp : ∀ {σ : L2.St} {H' : Hp}, σ[5]? = some (some (.str (SX.S l))) → EvL (tM1 (fun x xs H Q => ∃ a b, x = .str a ∧ xs = [.str b] ∧ (b.length == 0) = false ∧ a.length + 2 ≤ sizeLine ∧ rNewStrs (PySem.Txt.split a b) H Q) (tVar 5) (tC (.str (Str.ofString "/")))) σ H' (SL (cutL l)) := fun {σ H'} h5 => by
      have h := el_split (σ := σ) (H := H') (a := SX.S l) (b := SX.S [47]) (ev_var (i := 5) h5) (ev_is ev_c (congrArg V.str e_sl)) (by decide) (by rw [len_S]; omega)
      rw [split_is] at h
      exact h
    have hcn0 : (cutL l).length ≤ l.length + 1 := cut_cnt l []
    have hcn : (SL (cutL l)).length ≤ 40000 := by
      rw [SL, List.length_map, List.length_map]
      omega
    refine q_when (et_not (et_B (ev_allL (bs := (cutL l).map fun m => nameOk (SX.S m)) (by
      have hg : given (SL (cutL l)).length (fun _ => true) (fun k => V.bl (nameOk (SX.S ((cutL l).getD k [])))) = ((cutL l).map fun m => nameOk (SX.S m)).map V.bl := by
        rw [given_all, SL, List.length_map, List.length_map, List.map_map]
        refine List.ext_getElem? fun k => ?_
        by_cases hk : k < (cutL l).length
        · rw [List.getElem?_map, List.getElem?_range hk, List.getElem?_map, List.getElem?_eq_getElem hk]
          show some (V.bl (nameOk (SX.S ((cutL l).getD k [])))) = some (V.bl (nameOk (SX.S (cutL l)[k])))
          rw [List.getD_eq_getElem?_getD, List.getElem?_eq_getElem hk]
          rfl
        · rw [List.getElem?_eq_none (by rw [List.length_map, List.length_range]; omega), List.getElem?_eq_none (by rw [List.length_map]; omega)]
      rw [← hg]
      refine el_lcNL (fun _ => true) (fun k => V.bl (nameOk (SX.S ((cutL l).getD k [])))) (hsp rfl) hcn (fun _ => rfl) (fun _ _ _ _ _ => et_yes) (fun k x H10 e10 hx _ => ?_)
      have hk : k < (cutL l).length := by
        have := (List.getElem?_eq_some_iff.mp hx).1
        rw [SL, List.length_map, List.length_map] at this
        exact this
      have hx2 : x = V.str (SX.S ((cutL l).getD k [])) := by
        rw [SL, List.getElem?_map, List.getElem?_map, List.getElem?_eq_getElem hk] at hx
        rw [List.getD_eq_getElem?_getD, List.getElem?_eq_getElem hk]
        exact (Option.some.inj hx).symm
      rw [hx2]
      exact ev_call (ea_cons (ev_var rfl) ea_nil) (sp_nm (hcl _ (memD hk))))))) (fun hb2 H10 e10 => ?_) (fun hb2 H10 e10 => ?_)
    · have hall : (cutL l).all (fun m => nameOk (SX.S m)) = false := by
        rw [Bool.not_eq_true'] at hb2
        rw [List.all_map] at hb2
        exact hb2
      unfold readP at hv
      rw [if_neg hne, hall, if_neg Bool.false_ne_true] at hv
      have hv2 : v = .non := hv
      subst hv2
      exact s_ret (ev_op (ev_var rfl) ev_c rv_isN) fun H11 e11 => q H11
    · have hall : (cutL l).all (fun m => nameOk (SX.S m)) = true := by
        rw [Bool.not_eq_false'] at hb2
        rw [List.all_map] at hb2
        exact hb2
      unfold readP at hv
      rw [if_neg hne, hall, if_pos rfl] at hv
      obtain ⟨pv9, rfl, hpv⟩ := hv
      have hpv2 := e10 pv9 _ (e9 pv9 _ hpv)
      refine s_ret (ev_andV (b := true) (ev_opU (xs := SL (cutL l)) (ev_var rfl) (eu_tupOfL (hsp rfl)) fun pz H11 h11 e11 => rv_eqP (b := true) (fun H12 e12 => dp_SL (e12 pv9 _ (e11 pv9 _ hpv2))) (fun H12 e12 => dp_SL (e12 pz _ h11)) (pl_SL _) (pl_SL _) (dd_SL _) (SeqAt.eqv_refl_plain _ (pl_SL _))) (fun _ => ev_is (ev_op (ev_call (ea_cons (ev_var rfl) ea_nil) (sp_ptext (st_of hpv2) (by omega) (fun m hm => by have := cut_mem hm; omega))) (ev_var rfl) (rv_eq rfl)) (congrArg V.bl (decide_eq_true (congrArg (fun z => V.str (SX.S z)) (join_cut l []).1))))) fun H11 e11 => q H11

end
/-! ### what the top has made; the law's own head -/
theorem all_mk {l : PySem.W.OpenLaw} {w : World} {K : PySem.W.Frag} {h : Heap} {mg : Str → Option Value} {fa f1 f2 f3 f4 f5 f6 : Addr} (X : K.In h) (G : h.Ns mainGlobals mg) (hfa : mg "law" = some (.ref fa)) {t1 t2 : Tok}
    {od1 an1 od2 an2 od3 an3 od4 an4 od5 an5 od6 an6 : Option Addr} {sl1 sl2 sl3 sl4 sl5 sl6 : Array (Option Value)} {oc1 kV1 dc1 pm1 cd1 ct1 oc2 kV2 dc2 pm2 cd2 ct2 oc3 kV3 dc3 pm3 cd3 ct3 oc4 kV4 dc4 pm4 cd4 ct4 oc5 kV5 dc5 pm5 cd5 ct5 oc6 kV6 dc6 pm6 cd6 ct6 : Value}
    (a1 : PySem.W.nsIn K mainGlobals "is_name" = some (some (.ref f1))) (l1 : K.lookup f1 = some ⟨oc1, od1, .func (PySem.W.fnOf "is_name" "is_name" (defArgs s_is_name) (defBody s_is_name) (defScope s_is_name) .none kV1 dc1 pm1 an1 cd1 ct1), sl1⟩) (c1 : PySem.W.codeIn K cd1 "is_name" = true) (k1 : PySem.W.keepIn K (.ref f1) = true)
    (a2 : PySem.W.nsIn K mainGlobals "path_text" = some (some (.ref f2))) (l2 : K.lookup f2 = some ⟨oc2, od2, .func (PySem.W.fnOf "path_text" "path_text" (defArgs s_path_text) (defBody s_path_text) (defScope s_path_text) .none kV2 dc2 pm2 an2 cd2 ct2), sl2⟩) (c2 : PySem.W.codeIn K cd2 "path_text" = true) (k2 : PySem.W.keepIn K (.ref f2) = true)
    (a3 : PySem.W.nsIn K mainGlobals "read_path" = some (some (.ref f3))) (l3 : K.lookup f3 = some ⟨oc3, od3, .func (PySem.W.fnOf "read_path" "read_path" (defArgs s_read_path) (defBody s_read_path) (defScope s_read_path) .none kV3 dc3 pm3 an3 cd3 ct3), sl3⟩) (c3 : PySem.W.codeIn K cd3 "read_path" = true) (k3 : PySem.W.keepIn K (.ref f3) = true)
    (a4 : PySem.W.nsIn K mainGlobals "_law_cells" = some (some (.ref f4))) (l4 : K.lookup f4 = some ⟨oc4, od4, .func (PySem.W.fnOf "_law_cells" "_law_cells" (defArgs s_law_cells) (defBody s_law_cells) (defScope s_law_cells) .none kV4 dc4 pm4 an4 cd4 ct4), sl4⟩) (c4 : PySem.W.codeIn K cd4 "_law_cells" = true) (k4 : PySem.W.keepIn K (.ref f4) = true)
    (a5 : PySem.W.nsIn K mainGlobals "_law_part" = some (some (.ref f5))) (l5 : K.lookup f5 = some ⟨oc5, od5, .func (PySem.W.fnOf "_law_part" "_law_part" (defArgs s_law_part) (defBody s_law_part) (defScope s_law_part) .none kV5 dc5 pm5 an5 cd5 ct5), sl5⟩) (c5 : PySem.W.codeIn K cd5 "_law_part" = true) (k5 : PySem.W.keepIn K (.ref f5) = true)
    (a6 : PySem.W.nsIn K mainGlobals "law" = some (some (.ref f6))) (l6 : K.lookup f6 = some ⟨oc6, od6, .func (PySem.W.fnOf "law" "law" (defArgs s_law) (defBody s_law) (defScope s_law) .none kV6 dc6 pm6 an6 cd6 ct6), sl6⟩) (c6 : PySem.W.codeIn K cd6 "law" = true) (k6 : PySem.W.keepIn K (.ref f6) = true)
    (z1 : PySem.W.nsIn K mainGlobals "all" = some none) (z2 : PySem.W.nsIn K mainGlobals "int" = some none) (z3 : PySem.W.nsIn K mainGlobals "len" = some none) (z4 : PySem.W.nsIn K mainGlobals "ord" = some none) (z5 : PySem.W.nsIn K mainGlobals "range" = some none) (z6 : PySem.W.nsIn K mainGlobals "tuple" = some none) (g1 : PySem.W.nsIn K mainGlobals "FIRST_SIGN" = some (some (.int 32 t1))) (g2 : PySem.W.nsIn K mainGlobals "MOST_SIGNS" = some (some (.int 100 t2))) :
    ∃ fd : FuncData, (∀ (s : Shared) (v : Value), BindsTo s fd ⟨[v], []⟩ [("script", v)]) ∧ ∀ base : Heap, K.In base → base.Ns mainGlobals mg → FnOk l.prog w K mg base CX0 3 fa fd ["script"] (spLaw K) := by
  have e := hfa.symm.trans (PySem.W.mg_of X G a6)
  cases e
  have T : Txt K mg := ⟨PySem.W.mg_none_of X G z1, PySem.W.mg_none_of X G z2, PySem.W.mg_none_of X G z3, PySem.W.mg_none_of X G z4, PySem.W.mg_none_of X G z5, PySem.W.mg_none_of X G z6, ⟨_, PySem.W.mg_of X G g1, ⟨_, rfl⟩⟩, ⟨_, PySem.W.mg_of X G g2, ⟨_, rfl⟩⟩⟩
  have F1 := fun_mk (st := s_is_name) l1 c1 k1
  have D1 : Df K mg "is_name" s_is_name ["text"] := ⟨_, _, F1, PySem.W.mg_of X G a1, F1.binds (ps := ["text"]) fun _ _ _ _ _ _ us hl => match us, hl with | [_], _ => rfl⟩
  have F2 := fun_mk (st := s_path_text) l2 c2 k2
  have D2 : Df K mg "path_text" s_path_text ["path"] := ⟨_, _, F2, PySem.W.mg_of X G a2, F2.binds (ps := ["path"]) fun _ _ _ _ _ _ us hl => match us, hl with | [_], _ => rfl⟩
  have F3 := fun_mk (st := s_read_path) l3 c3 k3
  have D3 : Df K mg "read_path" s_read_path ["text"] := ⟨_, _, F3, PySem.W.mg_of X G a3, F3.binds (ps := ["text"]) fun _ _ _ _ _ _ us hl => match us, hl with | [_], _ => rfl⟩
  have F4 := fun_mk (st := s_law_cells) l4 c4 k4
  have D4 : Df K mg "_law_cells" s_law_cells ["script", "count"] := ⟨_, _, F4, PySem.W.mg_of X G a4, F4.binds (ps := ["script", "count"]) fun _ _ _ _ _ _ us hl => match us, hl with | [_, _], _ => rfl⟩
  have F5 := fun_mk (st := s_law_part) l5 c5 k5
  have D5 : Df K mg "_law_part" s_law_part ["cell"] := ⟨_, _, F5, PySem.W.mg_of X G a5, F5.binds (ps := ["cell"]) fun _ _ _ _ _ _ us hl => match us, hl with | [_], _ => rfl⟩
  have F6 := fun_mk (st := s_law) l6 c6 k6
  refine ⟨PySem.W.fnOf "law" "law" (defArgs s_law) (defBody s_law) (defScope s_law) .none kV6 dc6 pm6 an6 cd6 ct6, fun s v => .of_eq rfl, fun base _ _ => ?_⟩
  have G_is_name := ok_is_name (P := l.prog) (w := w) (base := base) D1 T 
  have G_path_text := ok_path_text (P := l.prog) (w := w) (base := base) D2 T 
  have G_read_path := ok_read_path (P := l.prog) (w := w) (base := base) D3 T G_is_name
  have G_law_cells := ok_law_cells (P := l.prog) (w := w) (base := base) D4 T 
  have G_law_part := ok_law_part (P := l.prog) (w := w) (base := base) D5 T 
  exact ok_law F6 T G_is_name G_path_text G_read_path G_law_cells G_law_part
end K03
open PySem PySem.W PyProof.Rows
set_option maxHeartbeats 0 in
theorem PySem.Challenge.cw_foldkeep_k03_paths_holds : PySem.Challenge.rw_foldkeep_k03_paths.Holds := by
  w_on; o_law; k_head; (case hw => w_witness2)
  k_fill
  refine L2.walk_of (l := PySem.Challenge.rw_foldkeep_k03_paths) (n := 63) (k := 3) (x := "script") (CX := fun _ => L2.CX0) (sp := fun w => Lw.spLaw _) rfl (by decide) rfl ⟨rfl, by decide, by decide⟩ (fun w h Y => PySem.W.kIn_of Y) ?F (fun _ _ a ns hl _ hS => ⟨a, ns, rfl, hS, hl, fun _ => rfl⟩) (fun _ _ _ _ _ h => h)
  case F =>
    intro w mg fa h KX G hmg
    refine' K03.all_mk KX G hmg ?a1 ?l1 ?c1 ?k1 ?a2 ?l2 ?c2 ?k2 ?a3 ?l3 ?c3 ?k3 ?a4 ?l4 ?c4 ?k4 ?a5 ?l5 ?c5 ?k5 ?a6 ?l6 ?c6 ?k6 ?z1 ?z2 ?z3 ?z4 ?z5 ?z6 ?g1 ?g2
    (case a1 => k_is); (case l1 => k_is); (case c1 => k_is); (case k1 => k_is)
    (case a2 => k_is); (case l2 => k_is); (case c2 => k_is); (case k2 => k_is)
    (case a3 => k_is); (case l3 => k_is); (case c3 => k_is); (case k3 => k_is)
    (case a4 => k_is); (case l4 => k_is); (case c4 => k_is); (case k4 => k_is)
    (case a5 => k_is); (case l5 => k_is); (case c5 => k_is); (case k5 => k_is)
    (case a6 => k_is); (case l6 => k_is); (case c6 => k_is); (case k6 => k_is)
    (case z1 => k_is); (case z2 => k_is); (case z3 => k_is); (case z4 => k_is)
    (case z5 => k_is); (case z6 => k_is); (case g1 => k_is); (case g2 => k_is)
#print axioms PySem.Challenge.cw_foldkeep_k03_paths_holds
