import PyProof.Rows.All
import Wide.All
import OpenK.AllK
import Wide.FinOn
import HandS.ForMost
import HandS.Codes
import HandS.Evl
import HandS.IsInst
import HandS.FStr
import HandS.StrMore
import KE.DataEq
import PySem.Challenge.RW_foldkeep_k04_names_of_copies
set_option Elab.async false
set_option linter.all false
set_option maxRecDepth 100000
set_option maxHeartbeats 4000000
/-! what the laws' helpers share: values, texts, cells -/
namespace Lw
open PySem PySem.Spec PyProof.Rows L2 Evl

/-! ### small readings -/
section
variable {K : PySem.W.Frag} {σ : L2.St} {H H' : Hp} {ta tb te tx : TE} {t u : TT} {x y z v : V}
theorem rc_int {i : Int} : RC (fun xs H Q => (∃ i, xs = [V.int i] ∧ Q (V.int i) H) ∨ ∃ k, xs = [V.bl k] ∧ Q (V.int (if k = true then 1 else 0)) H) [.int i] H (.int i) :=
  fun H1 _ _ q => Or.inl ⟨i, rfl, q H1 (Ex.refl H1)⟩
theorem rc_lenStr {a : Str} (h : a.length ≤ 100000) : RC (fun xs H Q => ∃ z : Str, xs = [V.str z] ∧ z.length ≤ sizeLine ∧ Q (V.int z.length) H) [.str a] H (.int a.length) :=
  fun H1 _ _ q => ⟨a, rfl, sz_of h, q H1 (Ex.refl H1)⟩
theorem rc_ord {a : Str} (h : a.length = 1) : RC (fun xs H Q => ∃ x : Str, xs = [V.str x] ∧ x.length = 1 ∧ Q (V.int (x.cps.getD 0 0 : Nat)) H) [.str a] H (.int (a.cps.getD 0 0 : Nat)) :=
  fun H1 _ _ q => ⟨a, rfl, h, q H1 (Ex.refl H1)⟩
theorem rv_addS {a b : Str} (h : a.length + b.length ≤ 100000) : RV (fun x y H Q => ∃ i j, x = .str i ∧ y = .str j ∧ i.length + j.length ≤ sizeLine ∧ Q (.str (i ++ j)) H) (.str a) (.str b) H (.str (a ++ b)) :=
  fun H1 _ _ q => ⟨a, b, rfl, rfl, sz_of h, q H1 (Ex.refl H1)⟩
theorem rv_inSign {c : Nat} {a z : Str} (e : a = ⟨#[c]⟩) : RV (fun x y H Q => ∃ (c : Nat) (z : Str), x = .str ⟨#[c]⟩ ∧ y = .str z ∧ Q (.bl (decide (c ∈ z.cps.toList))) H) (.str a) (.str z) H (.bl (decide (c ∈ z.cps.toList))) :=
  fun H1 _ _ q => ⟨c, z, by rw [e], rfl, q H1 (Ex.refl H1)⟩
/-- a text times a small number -/
def rMulStr : R2 := fun x y H Q => ∃ (a : Str) (n : Int), x = .str a ∧ y = .int n ∧ 1 ≤ n ∧ n ≤ 20000 ∧ a.length ≤ 200 ∧ Q (.str (Txt.mul a n)) H
theorem op_mul_str {X : Cx} : OpR X (binaryOp .Mult) rMulStr := by
  intro pins s σ H x y v u Q I rx ry h
  obtain ⟨a, n, rfl, rfl, h1, h2, h3, q⟩ := h
  obtain ⟨t, rfl⟩ := rx
  obtain ⟨t', rfl⟩ := ry
  refine SB.mul (n := n) ⟨?_, fun _ _ => ?_, fun _ _ => ?_⟩ fun t' k => ⟨.str (Txt.mul a n), H, I.tok _, ⟨_, rfl⟩, q⟩
  · rw [decide_eq_false (by omega), decide_eq_false (by omega)]
    rfl
  · have : (2 ^ 63 - 1) / n ≥ 200 := by
      refine (Int.le_ediv_iff_mul_le (by omega)).mpr ?_
      omega
    omega
  · have e : a.length * n.toNat ≤ 200 * 20000 := Nat.mul_le_mul h3 (by omega)
    exact decide_eq_false (by show ¬ a.length * n.toNat > 2 ^ 24; omega)
theorem rv_mulStr {a : Str} {n : Int} (h1 : 1 ≤ n) (h2 : n ≤ 20000) (h3 : a.length ≤ 200) : RV rMulStr (.str a) (.int n) H (.str (Txt.mul a n)) :=
  fun H1 _ _ q => ⟨a, n, rfl, rfl, h1, h2, h3, q H1 (Ex.refl H1)⟩
theorem rc_max2 {i j : Int} : RC (fun xs H Q => ∃ i j : Int, xs = [V.int i, V.int j] ∧ Q (V.int (if j > i then j else i)) H) [.int i, .int j] H (.int (if j > i then j else i)) :=
  fun H1 _ _ q => ⟨i, j, rfl, q H1 (Ex.refl H1)⟩
theorem rc_min2 {i j : Int} : RC (fun xs H Q => ∃ i j : Int, xs = [V.int i, V.int j] ∧ Q (V.int (if j < i then j else i)) H) [.int i, .int j] H (.int (if j < i then j else i)) :=
  fun H1 _ _ q => ⟨i, j, rfl, q H1 (Ex.refl H1)⟩
theorem et_yes : EvT tYes σ H true := fun H1 _ _ q => q H1 (Ex.refl H1)
/-- a slice of a text -/
theorem ev_cutS {tl th : TO} {z : Str} {lo hi : Option Int} (h : Ev te σ H (.str z)) (h1 : EvO tl σ H lo) (h2 : EvO th σ H hi) (hz : z.length ≤ 100000) : Ev (tSl rSlS te tl th) σ H (.str (cutS z lo hi)) := fun H1 e Q q =>
  h H1 e _ fun H2 e2 => h1 H2 (e.trans e2) _ fun H3 e3 => h2 H3 ((e.trans e2).trans e3) _ fun H4 e4 => ⟨z, rfl, sz_of hz, q H4 ((e2.trans e3).trans e4)⟩
/-- sep.join(a new list of texts) -/
theorem ev_joinL {a : Str} {ys : List Str} (ho : Ev ta σ H (.str a)) (h : EvL te σ H (ys.map V.str)) (hz : (ys.map (·.length)).sum + ys.length * a.length ≤ 16777216) :
    Ev (tM1 (fun x xs H Q => ∃ a p, ∃ ys : List Str, x = .str a ∧ xs = [.ref p] ∧ (SqL K H p (ys.map V.str) ∨ SqT K H p (ys.map V.str)) ∧ (ys.map (·.length)).sum + ys.length * a.length ≤ 16777216 ∧ Q (.str (Txt.join a ys)) H) ta te) σ H (.str (Txt.join a ys)) := fun H1 e Q q =>
  ho H1 e _ fun H2 e2 => ⟨⟨a, rfl⟩, h H2 (e.trans e2) _ fun p H3 _ e3 h3 => ⟨a, p, ys, rfl, rfl, .inl (sq_of h3), hz, q H3 (e2.trans e3)⟩⟩
/-- sep.join(a list of texts that stands) -/
theorem ev_joinS {a : Str} {p : Addr} {ys : List Str} (ho : Ev ta σ H (.str a)) (h : Ev te σ H (.ref p)) (hp : SqL K H p (ys.map V.str) ∨ SqT K H p (ys.map V.str)) (hz : (ys.map (·.length)).sum + ys.length * a.length ≤ 16777216) :
    Ev (tM1 (fun x xs H Q => ∃ a p, ∃ ys : List Str, x = .str a ∧ xs = [.ref p] ∧ (SqL K H p (ys.map V.str) ∨ SqT K H p (ys.map V.str)) ∧ (ys.map (·.length)).sum + ys.length * a.length ≤ 16777216 ∧ Q (.str (Txt.join a ys)) H) ta te) σ H (.str (Txt.join a ys)) := fun H1 e Q q =>
  ho H1 e _ fun H2 e2 => ⟨⟨a, rfl⟩, h H2 (e.trans e2) _ fun H3 e3 => ⟨a, p, ys, rfl, rfl, hp.elim (fun h => .inl (ex_l ((e.trans e2).trans e3) h)) (fun h => .inr (ex_t ((e.trans e2).trans e3) h)), hz, q H3 (e2.trans e3)⟩⟩
/-- the second operand told once the first is there -/
theorem ev_opV2 {r : R2} (ha : Ev ta σ H x) (hb : ∀ H1, Ex H H1 → Ev tb σ H1 y) (hr : RV r x y H z) : Ev (tOp r ta tb) σ H z := fun H1 e Q q =>
  ha H1 e _ fun H2 e2 => hb H2 (e.trans e2) H2 (Ex.refl H2) _ fun H3 e3 => hr H3 ((e.trans e2).trans e3) Q fun H4 e4 => q H4 ((e2.trans e3).trans e4)
theorem ev_chain {r r' : R2} {tc : TE} {a b : Bool} (ha : Ev ta σ H x) (hb : Ev tb σ H y) (hr : RV r x y H (.bl a)) (hc : a = true → Ev tc σ H z) (hr' : a = true → RV r' y z H (.bl b)) : Ev (tChain r r' ta tb tc) σ H (.bl (a && b)) := fun H1 e Q q =>
  ha H1 e _ fun H2 e2 => hb H2 (e.trans e2) _ fun H3 e3 => hr H3 ((e.trans e2).trans e3) _ fun H4 e4 => ⟨a, rfl, by
    cases a with
    | true =>
      show tc σ H4 _
      exact hc rfl H4 (((e.trans e2).trans e3).trans e4) _ fun H5 e5 => hr' rfl H5 ((((e.trans e2).trans e3).trans e4).trans e5) Q fun H6 e6 => q H6 ((((e2.trans e3).trans e4).trans e5).trans e6)
    | false =>
      show Q (.bl false) H4
      exact q H4 ((e2.trans e3).trans e4)⟩
/-- some value of which R holds -/
def EvP (te : TE) (σ : L2.St) (H : Hp) (R : V → Prop) : Prop := ∀ H1, Ex H H1 → ∀ Q : VK, (∀ v H2, R v → Ex H1 H2 → Q v H2) → te σ H1 Q
def SpP (sp : Sp) (vs : List V) (H : Hp) (R : V → Prop) : Prop := ∀ H1, Ex H H1 → ∀ Q : VK, (∀ v H2, R v → Ex H1 H2 → Q v H2) → ∀ E : XK, sp vs H1 Q E
theorem s_asgP {R : V → Prop} {D : Ends} {i : Nat} (h : EvP te σ H R) (k : ∀ v H1, R v → Ex H H1 → D.nx (σ.set i (some v)) H1) : tAsg te (gName i) D σ H := h H (Ex.refl H) _ fun v H1 r e => k v H1 r e
theorem q_asgP {R : V → Prop} {D : Ends} {tz : TS} {i : Nat} (h : EvP te σ H R) (k : ∀ v H1, R v → Ex H H1 → tz D (σ.set i (some v)) H1) : tSeq (tAsg te (gName i)) tz D σ H := s_asgP (D := { D with nx := tz D }) h k
theorem ep_call {R : V → Prop} {sp : Sp} {dvs vs : List V} {E : XK} {ta : TA} (h : EvA ta σ H vs) (hs : SpP sp (vs ++ dvs) H R) : EvP (tCall sp dvs E ta) σ H R := fun H1 e Q q =>
  h H1 e _ fun H2 e2 => hs H2 (e.trans e2) Q (fun v H3 r e3 => q v H3 r (e2.trans e3)) E
/-- of one argument, a new list -/
theorem ep_callL {R : V → Prop} {sp : Sp} {dvs xs : List V} {E : XK} (h : EvL te σ H xs) (hs : ∀ p H1, Ex H H1 → H1 p = some (.lst xs) → SpP sp (.ref p :: dvs) H1 R) : EvP (tCall sp dvs E (tCons te tNil)) σ H R := fun H1 e Q q =>
  h H1 e _ fun p H2 _ e2 h2 => hs p H2 (e.trans e2) h2 H2 (Ex.refl H2) Q (fun v H3 r e3 => q v H3 r (e2.trans e3)) E
theorem at_int {ns : List Int} {i : Int} (h0 : 0 ≤ i) (h : i < (ns.length : Int)) : atI (ns.map V.int) i = some (.int (ns.getD i.toNat 0)) := by
  obtain ⟨j, rfl⟩ := Int.eq_ofNat_of_zero_le h0
  refine atI_nat ?_
  have hj : j < ns.length := by omega
  rw [List.getElem?_map, List.getElem?_eq_getElem hj, Int.toNat_natCast, List.getD_eq_getElem?_getD, List.getElem?_eq_getElem hj]
  rfl
end

/-! ### loops over texts -/
section
variable {σ : L2.St} {H H' : Hp} {te : TE} {D : Ends} {tu tz : TS} {g : TG}
theorem for_str {x : Str} {tb : TS} (Pv : Nat → L2.St → Hp → Prop) (h0 : Pv 0 σ H)
    (hs : ∀ i c σ H, x.cps.toList[i]? = some c → Pv i σ H → g (.str ⟨#[c]⟩) σ H fun σ2 H2 => tb { D with nx := Pv (i + 1), ct := Pv (i + 1), bk := D.nx } σ2 H2) (hd : ∀ σ H, Pv x.cps.size σ H → D.nx σ H) :
    ∃ W : Nat → Nat → L2.St → Hp → Prop, (∃ m, W 0 m σ H) ∧ ∀ i m σ H, W i m σ H →
      ((Its x).stop i H ∧ D.nx σ H) ∨ ((Its x).go i H ∧ ∃ N : L2.St → Hp → Prop, (∀ σ' H', N σ' H' → ∃ m', m' < m ∧ W (i + 1) m' σ' H') ∧ ∀ y H', (Its x).yld i H y H' → g y σ H' fun σ2 H2 => tb { D with nx := N, ct := N, bk := D.nx } σ2 H2) := by
  refine ⟨fun i m σ H => m = x.cps.size - i ∧ i ≤ x.cps.size ∧ Pv i σ H, ⟨x.cps.size, by simp, Nat.zero_le _, h0⟩, ?_⟩
  rintro i m σ H ⟨rfl, hi, p⟩
  by_cases hlt : i < x.cps.size
  · refine .inr ⟨hlt, Pv (i + 1), fun σ' H' p' => ⟨x.cps.size - (i + 1), by omega, rfl, hlt, p'⟩, fun y H' q => ?_⟩
    obtain ⟨rfl, c, hc, rfl⟩ := q
    exact hs i c σ _ (by rw [Array.getElem?_toList]; exact hc) p
  · have e : i = x.cps.size := by omega
    subst e
    exact .inl ⟨Nat.le_refl _, hd σ H p⟩
theorem s_forS {x : Str} {j : Nat} (h : Ev te σ H (.str x)) (Pv : Nat → L2.St → Hp → Prop) (h0 : ∀ H1, Ex H H1 → Pv 0 σ H1)
    (hs : ∀ i c σ' H', x.cps.toList[i]? = some c → Pv i σ' H' → tu { D with nx := Pv (i + 1), ct := Pv (i + 1), bk := D.nx } (σ'.set j (some (.str ⟨#[c]⟩))) H') (hd : ∀ σ' H', Pv x.cps.size σ' H' → D.nx σ' H') : tFor (iStr te) (gName j) tu D σ H :=
  h H (Ex.refl H) _ fun H1 e => ⟨x, rfl, for_str Pv (h0 H1 e) hs hd⟩
theorem q_forS {x : Str} {j : Nat} (h : Ev te σ H (.str x)) (Pv : Nat → L2.St → Hp → Prop) (h0 : ∀ H1, Ex H H1 → Pv 0 σ H1)
    (hs : ∀ i c σ' H', x.cps.toList[i]? = some c → Pv i σ' H' → tu { D with nx := Pv (i + 1), ct := Pv (i + 1), bk := tz D } (σ'.set j (some (.str ⟨#[c]⟩))) H') (hd : ∀ σ' H', Pv x.cps.size σ' H' → tz D σ' H') : tSeq (tFor (iStr te) (gName j) tu) tz D σ H :=
  s_forS (D := { D with nx := tz D }) h Pv h0 hs hd
end
theorem at_str {xs : List Str} {i : Int} (h0 : 0 ≤ i) (h : i < (xs.length : Int)) : atI (xs.map V.str) i = some (.str (xs.getD i.toNat Str.empty)) := by
  obtain ⟨j, rfl⟩ := Int.eq_ofNat_of_zero_le h0
  refine atI_nat ?_
  have hj : j < xs.length := by omega
  rw [List.getElem?_map, List.getElem?_eq_getElem hj, Int.toNat_natCast, List.getD_eq_getElem?_getD, List.getElem?_eq_getElem hj]
  rfl
theorem memD {α : Type} {xs : List α} {d : α} {j : Nat} (h : j < xs.length) : xs.getD j d ∈ xs := by
  rw [List.getD_eq_getElem?_getD, List.getElem?_eq_getElem h]
  exact List.getElem_mem h
theorem dec_str1 {c d : Nat} {a : Str} (e : a = ⟨#[d]⟩) : decide (V.str ⟨#[c]⟩ = V.str a) = decide (c = d) := by
  rw [e, Bool.eq_iff_iff, decide_eq_true_iff, decide_eq_true_iff]
  constructor
  · intro h
    have h1 : (⟨#[c]⟩ : Str) = ⟨#[d]⟩ := V.str.inj h
    have h2 : (#[c] : Array Nat) = #[d] := congrArg Str.cps h1
    have h3 : ([c] : List Nat) = [d] := congrArg Array.toList h2
    exact (List.cons.inj h3).1
  · intro h
    rw [h]
theorem all_take_succ {p : Nat → Bool} {xs : List Nat} {i c : Nat} (h : xs[i]? = some c) : (xs.take (i + 1)).all p = ((xs.take i).all p && p c) := by
  rw [List.take_add_one, h, List.all_append]
  simp

/-- a new tuple is handed back -/
def RetU (xs : List V) (H : Hp) (Q : VK) : Prop := ∀ p H2, H p = none → Ex H H2 → H2 p = some (.tup xs) → Q (.ref p) H2
def SpU (sp : Sp) (vs : List V) (H : Hp) (xs : List V) : Prop := ∀ H1, Ex H H1 → ∀ Q : VK, (∀ p H2, H1 p = none → Ex H1 H2 → H2 p = some (.tup xs) → Q (.ref p) H2) → ∀ E : XK, sp vs H1 Q E
section
variable {K : PySem.W.Frag} {σ : L2.St} {H H' : Hp} {te : TE} {D : Ends} {tu tz : TS} {g : TG}
theorem eu_call {sp : Sp} {dvs vs xs : List V} {E : XK} {ta : TA} (h : EvA ta σ H vs) (hs : SpU sp (vs ++ dvs) H xs) : EvU (tCall sp dvs E ta) σ H xs := fun H1 e Q q =>
  h H1 e _ fun H2 e2 => hs H2 (e.trans e2) Q (fun p H3 hp e3 h3 => q p H3 (fresh_back e2 hp) (e2.trans e3) h3) E
/-- a for over a new tuple -/
theorem s_forNT {xs : List V} {tl : TE} {j : Nat} (h : EvU tl σ H xs) (Pv : Addr → Nat → L2.St → Hp → Prop) (h0 : ∀ p H1, H p = none → Ex H H1 → H1 p = some (.tup xs) → Pv p 0 σ H1) (hl : ∀ p i σ' H', i ≤ xs.length → Pv p i σ' H' → SqT K H' p xs)
    (hs : ∀ p i x σ' H', xs[i]? = some x → Pv p i σ' H' → tu { D with nx := Pv p (i + 1), ct := Pv p (i + 1), bk := D.nx } (σ'.set j (some x)) H') (hd : ∀ p σ' H', Pv p xs.length σ' H' → D.nx σ' H') : tFor (iTup K tl) (gName j) tu D σ H :=
  h H (Ex.refl H) _ fun p H1 hp e h1 => ⟨p, rfl, ⟨xs, st_of h1⟩, for_tup (Pv p) (h0 p H1 hp e h1) (hl p) (hs p) (hd p)⟩
theorem q_forNT {xs : List V} {tl : TE} {j : Nat} (h : EvU tl σ H xs) (Pv : Addr → Nat → L2.St → Hp → Prop) (h0 : ∀ p H1, H p = none → Ex H H1 → H1 p = some (.tup xs) → Pv p 0 σ H1) (hl : ∀ p i σ' H', i ≤ xs.length → Pv p i σ' H' → SqT K H' p xs)
    (hs : ∀ p i x σ' H', xs[i]? = some x → Pv p i σ' H' → tu { D with nx := Pv p (i + 1), ct := Pv p (i + 1), bk := tz D } (σ'.set j (some x)) H') (hd : ∀ p σ' H', Pv p xs.length σ' H' → tz D σ' H') : tSeq (tFor (iTup K tl) (gName j) tu) tz D σ H :=
  s_forNT (D := { D with nx := tz D }) h Pv h0 hl hs hd
/-- len of a tuple -/
theorem ev_lenT {ta : TE} {p : Addr} {xs : List V} (ha : Ev ta σ H (.ref p)) (h : SqT K H p xs) : Ev (tCB (Evl.rLenS K) (tCons ta tNil)) σ H (.int (xs.length : Int)) := fun H1 e Q q =>
  ha H1 e _ fun H2 e2 => ⟨p, xs, rfl, Or.inr (ex_t (e.trans e2) h), q H2 e2⟩
end

section
variable {K : PySem.W.Frag} {H H' : Hp} {x y : V}
theorem rc_isTup {p : Addr} {xs : List V} (h : H p = some (.tup xs)) : RC (rIsi K) [.ref p, .ty "tuple"] H (.bl true) := fun H1 e _ q =>
  ⟨_, _, _, _, true, rfl, .ty "tuple", .base (.tup (e p _ h)), (by unfold PySem.W.kitOne; rw [if_pos (by decide)]), q H1 (Ex.refl H1)⟩
theorem rc_isBool {b : Bool} : RC (rIsi K) [.bl b, .ty "bool"] H (.bl true) := fun H1 e _ q =>
  ⟨_, _, _, _, true, rfl, .ty "bool", .base (.bl b), (by unfold PySem.W.kitOne; rw [if_pos (by decide)]), q H1 (Ex.refl H1)⟩
/-- two equal data -/
theorem rv_eqD {d e : PyData} {b : Bool} (hx : ∀ H1, Ex H H1 → Dp K H1 x d) (hy : ∀ H1, Ex H H1 → Dp K H1 y e) (sd : SeqAt.shaped d = true) (se : SeqAt.shaped e = true) (hb : PyData.eqv d e = b) : RV (rEqD K) x y H (.bl b) := fun H1 e1 _ q =>
  ⟨d, e, hx H1 e1, hy H1 e1, sd, se, by rw [hb]; exact q H1 (Ex.refl H1)⟩
theorem rv_neD {d e : PyData} {b : Bool} (hx : ∀ H1, Ex H H1 → Dp K H1 x d) (hy : ∀ H1, Ex H H1 → Dp K H1 y e) (sd : SeqAt.shaped d = true) (se : SeqAt.shaped e = true) (hb : PyData.eqv d e = b) : RV (rNeD K) x y H (.bl (!b)) := fun H1 e1 _ q =>
  ⟨d, e, hx H1 e1, hy H1 e1, sd, se, by rw [hb]; exact q H1 (Ex.refl H1)⟩
theorem at_codeS {l : List Nat} {i : Int} (h0 : 0 ≤ i) (h : i < (l.length : Int)) : atI (SX.S l).cps.toList i = some (l.getD i.toNat 0) := by
  obtain ⟨j, rfl⟩ := Int.eq_ofNat_of_zero_le h0
  have hj : j < l.length := by omega
  refine atI_nat ?_
  show l[j]? = _
  rw [List.getElem?_eq_getElem hj, Int.toNat_natCast, List.getD_eq_getElem?_getD, List.getElem?_eq_getElem hj]
  rfl
theorem mod_bd (x m : Int) (h : 0 < m) : 0 ≤ x % m ∧ x % m < m := ⟨Int.emod_nonneg _ (by omega), Int.emod_lt_of_pos _ h⟩
theorem given_all (n : Nat) (v : Nat → V) : given n (fun _ => true) v = (List.range n).map v := by
  unfold given
  rw [List.filter_eq_self.mpr (fun _ _ => rfl)]
theorem at_range {n i : Nat} {v : Nat → V} (h : i < n) : atI ((List.range n).map v) (i : Int) = some (v i) := by
  refine atI_nat ?_
  rw [List.getElem?_map, List.getElem?_range h]
  rfl
end

/-! ### texts by their codes -/
theorem len_S (l : List Nat) : (SX.S l).length = l.length := SX.S_len l
theorem cut_mid (l : List Nat) (a b : Nat) : cutS (SX.S l) (some (a : Int)) (some (b : Int)) = SX.S ((l.drop a).take (b - a)) := by
  unfold cutS
  rw [len_S, HT.sIx_nat, HT.sIx_nat]
  show SX.S ((l.drop (min a l.length)).take (min b l.length - min a l.length)) = _
  refine congrArg SX.S ?_
  by_cases h : a ≤ l.length
  · rw [Nat.min_eq_left h, List.take_eq_take_iff, List.length_drop]
    omega
  · rw [Nat.min_eq_right (show l.length ≤ a by omega), List.drop_eq_nil_of_le (Nat.le_refl _), List.drop_eq_nil_of_le (show l.length ≤ a by omega)]
    simp
theorem cut_to (l : List Nat) (b : Nat) : cutS (SX.S l) none (some (b : Int)) = SX.S (l.take b) := by
  unfold cutS
  rw [len_S, HT.sIx_nat, HT.sIx_none]
  show SX.S ((l.drop 0).take (min b l.length - 0)) = _
  refine congrArg SX.S ?_
  rw [List.drop_zero, List.take_eq_take_iff]
  omega
theorem cut_from (l : List Nat) (a : Nat) : cutS (SX.S l) (some (a : Int)) none = SX.S (l.drop a) := by
  unfold cutS
  rw [len_S, HT.sIx_nat, HT.sIx_none]
  show SX.S ((l.drop (min a l.length)).take (l.length - min a l.length)) = _
  refine congrArg SX.S ?_
  by_cases h : a ≤ l.length
  · rw [Nat.min_eq_left h]
    exact List.take_of_length_le (by rw [List.length_drop]; omega)
  · rw [Nat.min_eq_right (show l.length ≤ a by omega), List.drop_eq_nil_of_le (Nat.le_refl _), List.drop_eq_nil_of_le (show l.length ≤ a by omega)]
    simp
theorem join_ones : ∀ l : List Nat, Txt.join (SX.S []) (l.map fun c => SX.S [c]) = SX.S l := fun l => by
  have e : (l.map fun c => SX.S [c]) = (l.map fun c => [c]).map SX.S := by rw [List.map_map]; rfl
  rw [e, SX.join_S]
  refine congrArg SX.S ?_
  induction l with
  | nil => rfl
  | cons c l ih =>
    cases l with
    | nil => rfl
    | cons d l =>
      show [c] ++ ([] ++ TL.joinL [] (((d :: l).map fun c => [c]))) = _
      rw [ih (by rw [List.map_map]; rfl)]
      rfl
theorem sum_ones (l : List Nat) : ((l.map fun c => SX.S [c]).map (·.length)).sum = l.length := by
  induction l with
  | nil => rfl
  | cons c l ih =>
    rw [List.map_cons, List.map_cons, List.sum_cons, ih, len_S]
    simp [Nat.add_comm]

/-! ### names -/
theorem e_slashS : Str.ofString "/" = ⟨#[47]⟩ := by decide +kernel
def nameOk (z : Str) : Bool := (!(decide (V.str z = V.str (Str.ofString ".")) || (decide (V.str z = V.str (Str.ofString "..")) || decide (47 ∈ z.cps.toList)))) && ((!(decide ((z.length : Int) < 1) || decide ((100 : Int) < (z.length : Int)))) && z.cps.toList.all fun c => !decide (((c : Nat) : Int) < 32))
def sp_is_name (K : PySem.W.Frag) : Sp := fun vs H Q _ => ∃ z : Str, vs = [.str z] ∧ z.length ≤ 100000 ∧ RetV (.bl (nameOk z)) H Q
theorem sp_nm {K : PySem.W.Frag} {H : Hp} {z : Str} (h : z.length ≤ 100000) : SpV (sp_is_name K) [.str z] H (.bl (nameOk z)) := fun H1 e Q q E => ⟨z, rfl, h, fun H2 e2 => q H2 e2⟩

/-! ### == of data, whatever texts lie within -/
def rEqP (K : PySem.W.Frag) : R2 := fun x y H Q => ∃ d e, Dp K H x d ∧ Dp K H y e ∧ d.plain = true ∧ e.plain = true ∧ d.depth ≤ 60 ∧ Q (.bl (PyData.eqv d e)) H
def rNeP (K : PySem.W.Frag) : R2 := fun x y H Q => ∃ d e, Dp K H x d ∧ Dp K H y e ∧ d.plain = true ∧ e.plain = true ∧ d.depth ≤ 60 ∧ Q (.bl (!PyData.eqv d e)) H
theorem op_eqP {X : Cx} (hu : X.A.units + 64 < cLine) : OpR X (compareOp .Eq) (rEqP X.K) := by
  intro pins s σ H x y v u Q I rx ry h
  obtain ⟨d, e, hd, he, pd, pe, dd, q⟩ := h
  obtain ⟨as, r1⟩ := Dp.reads I d x v hd rx
  obtain ⟨bs, r2⟩ := Dp.reads I e y u he ry
  exact SeqAt.eq_plain r1 r2 pd pe (by omega) ⟨.bl _, H, I, rfl, q⟩
theorem op_neP {X : Cx} (hu : X.A.units + 64 < cLine) : OpR X (compareOp .NotEq) (rNeP X.K) := by
  intro pins s σ H x y v u Q I rx ry h
  obtain ⟨d, e, hd, he, pd, pe, dd, q⟩ := h
  obtain ⟨as, r1⟩ := Dp.reads I d x v hd rx
  obtain ⟨bs, r2⟩ := Dp.reads I e y u he ry
  exact SeqAt.ne_plain r1 r2 pd pe (by omega) ⟨.bl _, H, I, rfl, q⟩
section
variable {K : PySem.W.Frag} {σ : L2.St} {H H' : Hp} {ta tb te : TE} {x y z v : V} {r : R2}
theorem rv_eqP {d e : PyData} {b : Bool} (hx : ∀ H1, Ex H H1 → Dp K H1 x d) (hy : ∀ H1, Ex H H1 → Dp K H1 y e) (pd : d.plain = true) (pe : e.plain = true) (dd : d.depth ≤ 60) (hb : PyData.eqv d e = b) : RV (rEqP K) x y H (.bl b) := fun H1 e1 _ q =>
  ⟨d, e, hx H1 e1, hy H1 e1, pd, pe, dd, by rw [hb]; exact q H1 (Ex.refl H1)⟩
theorem rv_neP {d e : PyData} {b : Bool} (hx : ∀ H1, Ex H H1 → Dp K H1 x d) (hy : ∀ H1, Ex H H1 → Dp K H1 y e) (pd : d.plain = true) (pe : e.plain = true) (dd : d.depth ≤ 60) (hb : PyData.eqv d e = b) : RV (rNeP K) x y H (.bl (!b)) := fun H1 e1 _ q =>
  ⟨d, e, hx H1 e1, hy H1 e1, pd, pe, dd, by rw [hb]; exact q H1 (Ex.refl H1)⟩
theorem dp_strs {K : PySem.W.Frag} {H : Hp} : ∀ ys : List Str, DpAll K H (ys.map V.str) (ys.map PyData.str)
  | [] => .nil
  | y :: ys => .cons (.str y) (dp_strs ys)
theorem plain_strs : ∀ ys : List Str, PyData.plainAll (ys.map PyData.str) = true
  | [] => rfl
  | _ :: ys => plain_strs ys
theorem depth_strs : ∀ ys : List Str, PyData.depthAll (ys.map PyData.str) = 0
  | [] => rfl
  | _ :: ys => by
    show max 0 (PyData.depthAll (ys.map PyData.str)) = 0
    rw [depth_strs ys]
    rfl
/-- a value of which R holds, at the heap behind -/
def EvH (te : TE) (σ : L2.St) (H : Hp) (R : V → Hp → Prop) : Prop := ∀ H1, Ex H H1 → ∀ Q : VK, (∀ v H2, Ex H1 H2 → R v H2 → Q v H2) → te σ H1 Q
def SpH (sp : Sp) (vs : List V) (H : Hp) (R : V → Hp → Prop) : Prop := ∀ H1, Ex H H1 → ∀ Q : VK, (∀ v H2, Ex H1 H2 → R v H2 → Q v H2) → ∀ E : XK, sp vs H1 Q E
theorem eh_call {R : V → Hp → Prop} {sp : Sp} {dvs vs : List V} {E : XK} {ta : TA} (h : EvA ta σ H vs) (hs : SpH sp (vs ++ dvs) H R) : EvH (tCall sp dvs E ta) σ H R := fun H1 e Q q =>
  h H1 e _ fun H2 e2 => hs H2 (e.trans e2) Q (fun v H3 e3 r => q v H3 (e2.trans e3) r) E
theorem s_asgH {R : V → Hp → Prop} {D : Ends} {i : Nat} (h : EvH te σ H R) (k : ∀ v H1, Ex H H1 → R v H1 → D.nx (σ.set i (some v)) H1) : tAsg te (gName i) D σ H := h H (Ex.refl H) _ k
theorem q_asgH {R : V → Hp → Prop} {D : Ends} {tz : TS} {i : Nat} (h : EvH te σ H R) (k : ∀ v H1, Ex H H1 → R v H1 → tz D (σ.set i (some v)) H1) : tSeq (tAsg te (gName i)) tz D σ H := s_asgH (D := { D with nx := tz D }) h k
theorem ev_opH {R : V → Hp → Prop} (hm : ∀ v H1 H2, Ex H1 H2 → R v H1 → R v H2) (ha : EvH ta σ H R) (hb : ∀ H1, Ex H H1 → Ev tb σ H1 y) (hr : ∀ x H1, Ex H H1 → R x H1 → RV r x y H1 z) : Ev (tOp r ta tb) σ H z := fun H1 e Q q =>
  ha H1 e _ fun x H2 e2 rx => hb H2 (e.trans e2) H2 (Ex.refl H2) _ fun H3 e3 => hr x H3 ((e.trans e2).trans e3) (hm x _ _ e3 rx) H3 (Ex.refl H3) Q fun H4 e4 => q H4 ((e2.trans e3).trans e4)
/-- tuple(a list), tuple(a new list) -/
def rTup (K : PySem.W.Frag) : List V → Hp → VK → Prop := fun xs H Q => ∃ p ys, xs = [.ref p] ∧ ((SqL K H p ys ∧ ∀ l, H l = none → Q (.ref l) (upd H l (.tup ys))) ∨ (SqT K H p ys ∧ Q (.ref p) H))
theorem eu_tupOf {p : Addr} {xs : List V} (ha : Ev ta σ H (.ref p)) (h : SqL K H p xs) : EvU (tCB (rTup K) (tCons ta tNil)) σ H xs := fun H1 e Q q =>
  ha H1 e _ fun H2 e2 => ⟨p, xs, rfl, .inl ⟨ex_l (e.trans e2) h, fun l hl => q l _ (fresh_back e2 hl) (e2.trans (Ex.new hl)) upd_same⟩⟩
theorem eu_tupOfL {xs : List V} (ha : EvL ta σ H xs) : EvU (tCB (rTup K) (tCons ta tNil)) σ H xs := fun H1 e Q q =>
  ha H1 e _ fun p H2 _ e2 h2 => ⟨p, xs, rfl, .inl ⟨sq_of h2, fun l hl => q l _ (fresh_back e2 hl) (e2.trans (Ex.new hl)) upd_same⟩⟩
/-- s.split(t) -/
theorem el_split {a b : Str} (ho : Ev ta σ H (.str a)) (he : Ev te σ H (.str b)) (hb : (b.length == 0) = false) (ha : a.length ≤ 90000) :
    EvL (tM1 (fun x xs H Q => ∃ a b, x = .str a ∧ xs = [.str b] ∧ (b.length == 0) = false ∧ a.length + 2 ≤ sizeLine ∧ rNewStrs (Txt.split a b) H Q) ta te) σ H ((Txt.split a b).map V.str) := fun H1 e Q q =>
  ho H1 e _ fun H2 e2 => ⟨⟨a, rfl⟩, he H2 (e.trans e2) _ fun H3 e3 => ⟨a, b, rfl, rfl, hb, sz_of (by omega), fun p hp => q p _ (fresh_back (e2.trans e3) hp) ((e2.trans e3).trans (Ex.new hp)) upd_same⟩⟩
/-- all(a new list of truths), any(..) -/
theorem ev_allL {bs : List Bool} (ha : EvL ta σ H (bs.map V.bl)) : Ev (tCB (rAll K) (tCons ta tNil)) σ H (.bl (bs.all id)) := fun H1 e Q q =>
  ha H1 e _ fun p H2 _ e2 h2 => ⟨p, bs, rfl, sq_of h2, q H2 e2⟩
theorem ev_anyL {bs : List Bool} (ha : EvL ta σ H (bs.map V.bl)) : Ev (tCB (rAny K) (tCons ta tNil)) σ H (.bl (bs.any id)) := fun H1 e Q q =>
  ha H1 e _ fun p H2 _ e2 h2 => ⟨p, bs, rfl, sq_of h2, q H2 e2⟩
theorem rv_isN : RV (fun x y H Q => y = .non ∧ Q (.bl (decide (x = .non))) H) x .non H (.bl (decide (x = .non))) := fun H1 _ _ q => ⟨rfl, q H1 (Ex.refl H1)⟩
end
theorem join_cut : ∀ (l acc : List Nat), TL.joinL [47] (TL.spl [47] 0 acc l) = acc ++ l ∧ TL.spl [47] 0 acc l ≠ []
  | [], acc => by
    rw [TL.spl_nil]
    exact ⟨(List.append_nil acc).symm, by simp⟩
  | c :: r, acc => by
    by_cases h : TL.pre [47] (c :: r) = true
    · have hc : c = 47 := by
        simp [TL.pre] at h
        exact h
      rw [TL.spl_hit h]
      show TL.joinL [47] (acc :: TL.spl [47] 0 [] r) = acc ++ c :: r ∧ _
      obtain ⟨i1, i2⟩ := join_cut r []
      refine ⟨?_, by simp⟩
      cases hs : TL.spl [47] 0 [] r with
      | nil => exact absurd hs i2
      | cons x xs =>
        show acc ++ ([47] ++ TL.joinL [47] (x :: xs)) = _
        rw [← hs, i1, hc]
        rfl
    · have h' : TL.pre [47] (c :: r) = false := by
        cases hb : TL.pre [47] (c :: r) with
        | true => exact absurd hb h
        | false => rfl
      rw [TL.spl_miss h']
      obtain ⟨i1, i2⟩ := join_cut r (acc ++ [c])
      exact ⟨by rw [i1, List.append_assoc]; rfl, i2⟩

/-! ### f-strings, numbers as texts, unpacking -/
section
variable {K : PySem.W.Frag} {σ : L2.St} {H H' : Hp} {te : TE} {D : Ends} {tz : TS}
theorem ev_fmtS {y : Str} (h : Ev te σ H (.str y)) (hy : y.length ≤ 100000) : Ev (tFmt te) σ H (.str y) := fun H1 e Q q => h H1 e _ fun H2 e2 => .inl ⟨y, rfl, sz_of hy, q H2 e2⟩
theorem log_small {i : Int} (h : i.natAbs < 2 ^ 100) : i.natAbs.log2 < 1920 := by
  by_cases h0 : i.natAbs = 0
  · rw [h0]
    decide
  · have := (Nat.log2_lt h0).mpr h
    omega
theorem ev_fmtN {n : Nat} (h : Ev te σ H (.int (n : Int))) (hn : n < 2 ^ 100) : Ev (tFmt te) σ H (.str (SX.S (TL.numL n))) := fun H1 e Q q => h H1 e _ fun H2 e2 => .inr ⟨(n : Int), rfl, log_small hn, by
  have g := q H2 e2
  rw [← SX.num_S] at g
  exact g⟩
theorem rc_strN {n : Nat} (hn : n < 2 ^ 100) : RC (fun xs H Q => ∃ i : Int, xs = [V.int i] ∧ i.natAbs.log2 < 1920 ∧ Q (V.str (toString i : String)) H) [.int (n : Int)] H (.str (SX.S (TL.numL n))) := fun H1 _ _ q => ⟨(n : Int), rfl, log_small hn, by
  have g := q H1 (Ex.refl H1)
  rw [← SX.num_S] at g
  exact g⟩
inductive EvJ (σ : L2.St) (H : Hp) : List TE → List (List Nat) → Prop where
  | nil : EvJ σ H [] []
  | cons {t : TE} {y : List Nat} {ts : List TE} {ys : List (List Nat)} (h : Ev t σ H (.str (SX.S y))) (r : EvJ σ H ts ys) : EvJ σ H (t :: ts) (y :: ys)
theorem ev_js {ts : List TE} {ys : List (List Nat)} (h : EvJ σ H ts ys) : ∀ (acc : List Nat) (H1 : Hp), Ex H H1 → acc.length + (ys.map List.length).sum ≤ 100000 → ∀ Q : Str → Hp → Prop, (∀ H2, Ex H1 H2 → Q (SX.S (ys.foldl (· ++ ·) acc)) H2) → tJs ts (SX.S acc) σ H1 Q := by
  induction h with
  | nil =>
    intro acc H1 e _ Q q
    exact q H1 (Ex.refl H1)
  | @cons t y ts ys h r ih =>
    intro acc H1 e hl Q q
    rw [List.map_cons, List.sum_cons] at hl
    refine h H1 e _ fun H2 e2 => ⟨SX.S y, rfl, ?_, ?_⟩
    · rw [SX.S_cat, len_S, List.length_append]
      exact sz_of (by omega)
    · rw [SX.S_cat]
      exact ih (acc ++ y) H2 (e.trans e2) (by rw [List.length_append]; omega) Q fun H3 e3 => q H3 (e2.trans e3)
theorem ev_joined {ts : List TE} {ys : List (List Nat)} (h : EvJ σ H ts ys) (hl : (ys.map List.length).sum ≤ 100000) : Ev (fun σ H Q => tJs ts Str.empty σ H fun out H1 => Q (.str out) H1) σ H (.str (SX.S (ys.foldl (· ++ ·) []))) := fun H1 e Q q =>
  ev_js h [] H1 e (by rw [List.length_nil, Nat.zero_add]; exact hl) (fun out H2 => Q (.str out) H2) q
theorem q_unp2 {p : Addr} {x y : V} {i j : Nat} (h : Ev te σ H (.ref p)) (hp : SqT K H p [x, y]) (k : ∀ H1, Ex H H1 → tz D ((σ.set i (some x)).set j (some y)) H1) : tSeq (tAsg te (gTup K 2 (gCons (gName i) (gCons (gName j) gNil)))) tz D σ H :=
  h H (Ex.refl H) _ fun H1 e => ⟨p, _, rfl, ex_t e hp, rfl, x, _, rfl, y, _, rfl, rfl, k H1 e⟩
end

/-! ### the cells that a law draws -/
def fixC (c : Int) : Int := if c < 0 then 1 - 2 * c else c
def cell0 (ns : List Int) (k : Nat) : Int := if k < ns.length then ns.getD k 0 else 0
def cell2 (ns : List Int) (k : Nat) (c : Int) : Int := if 0 < ns.length then ns.getD (((k : Int) % (ns.length : Int)).toNat) 0 else c
def mix1 (k : Nat) (c : Int) : Int := ((c + 131 * (k : Int) + 7) * 48271 + (k : Int) * (k : Int) * 69621) % 1000000007
def mix2 (k : Nat) (c : Int) : Int := ((c + 17 * (k : Int) + 3) * 2862933555777941757) % 18446744073709551557
def cellAt (ns : List Int) (k : Nat) : Int :=
  if (ns.length : Int) ≤ (k : Int) ∨ fixC (cell0 ns k) < 1000000000 then mix2 k (mix1 k (fixC (cell2 ns k (fixC (cell0 ns k))))) else fixC (cell0 ns k)
def cellsOf (ns : List Int) (n : Nat) : List Int := (List.range n).map (cellAt ns)
theorem cellsOf_len (ns : List Int) (n : Nat) : (cellsOf ns n).length = n := by
  unfold cellsOf
  rw [List.length_map, List.length_range]
theorem cellsOf_succ (ns : List Int) (n : Nat) : cellsOf ns (n + 1) = cellsOf ns n ++ [cellAt ns n] := by
  unfold cellsOf
  rw [List.range_succ, List.map_append]
  rfl
theorem fixC_nn (c : Int) : 0 ≤ fixC c := by
  unfold fixC
  split <;> omega
theorem cellAt_nn (ns : List Int) (k : Nat) : 0 ≤ cellAt ns k := by
  unfold cellAt
  split
  · exact Int.emod_nonneg _ (by decide)
  · exact fixC_nn _
theorem cellsOf_nn (ns : List Int) (n : Nat) : ∀ c ∈ cellsOf ns n, 0 ≤ c := by
  intro c hc
  obtain ⟨k, _, rfl⟩ := List.mem_map.mp hc
  exact cellAt_nn ns k
theorem fixC_neg {c : Int} (h : decide (c < 0) = true) : 1 - 2 * c = fixC c := (if_pos (of_decide_eq_true h)).symm
theorem fixC_pos {c : Int} (h : decide (c < 0) = false) : fixC c = c := if_neg (of_decide_eq_false h)
theorem cellAt_mix {ns : List Int} {k : Nat} (h : (decide ((ns.length : Int) ≤ (k : Int)) || decide (fixC (cell0 ns k) < 1000000000)) = true) : mix2 k (mix1 k (fixC (cell2 ns k (fixC (cell0 ns k))))) = cellAt ns k := by
  unfold cellAt
  rw [if_pos]
  rcases (Bool.or_eq_true _ _).mp h with h | h
  · exact .inl (of_decide_eq_true h)
  · exact .inr (of_decide_eq_true h)
theorem cellAt_own {ns : List Int} {k : Nat} (h : (decide ((ns.length : Int) ≤ (k : Int)) || decide (fixC (cell0 ns k) < 1000000000)) = false) : fixC (cell0 ns k) = cellAt ns k := by
  unfold cellAt
  obtain ⟨h1, h2⟩ := (Bool.or_eq_false_iff).mp h
  rw [if_neg]
  rintro (h | h)
  · exact of_decide_eq_false h1 h
  · exact of_decide_eq_false h2 h
def spCells (K : PySem.W.Frag) : Sp := fun vs H Q _ => ∃ (a : Addr) (ns : List Int) (n : Nat), vs = [.ref a, .int (n : Int)] ∧ SqL K H a (ns.map V.int) ∧ ns.length ≤ 63 ∧ n ≤ 1000 ∧ RetL ((cellsOf ns n).map V.int) H Q
theorem sp_cells {K : PySem.W.Frag} {H : Hp} {a : Addr} {ns : List Int} {n : Nat} (hS : SqL K H a (ns.map V.int)) (hl : ns.length ≤ 63) (hn : n ≤ 1000) : SpL (spCells K) [.ref a, .int (n : Int)] H ((cellsOf ns n).map V.int) :=
  fun H1 e Q q E => ⟨a, ns, n, rfl, ex_l e hS, hl, hn, fun p H2 hp e2 h2 => q p H2 hp e2 h2⟩
/-! ### the rows that a law draws -/
def spRows (K : PySem.W.Frag) : Sp := fun vs H Q _ => ∃ (a : Addr) (ns : List Int) (n : Nat), vs = [.ref a, .int (n : Int)] ∧ SqL K H a (ns.map V.int) ∧ ns.length ≤ 63 ∧ n ≤ 1000 ∧ ∀ rs : List Int, rs.length = n → (∀ c ∈ rs, 0 ≤ c) → RetL (rs.map V.int) H Q
/-- what is there behind a call that gives a new list of n numbers from 0 on -/
def EvRows (te : TE) (σ : L2.St) (H : Hp) (n : Nat) : Prop := ∀ H1, Ex H H1 → ∀ Q : VK, (∀ p rs H2, H1 p = none → Ex H1 H2 → H2 p = some (.lst (List.map V.int rs)) → rs.length = n → (∀ c ∈ rs, 0 ≤ c) → Q (.ref p) H2) → te σ H1 Q
theorem ev_rows {K : PySem.W.Frag} {σ : L2.St} {H : Hp} {E : XK} {ta : TA} {a : Addr} {ns : List Int} {n : Nat} (h : EvA ta σ H [.ref a, .int (n : Int)]) (hS : SqL K H a (ns.map V.int)) (hl : ns.length ≤ 63) (hn : n ≤ 1000) : EvRows (tCall (spRows K) [] E ta) σ H n := fun H1 e Q q =>
  h H1 e _ fun H2 e2 => ⟨a, ns, n, rfl, ex_l (e.trans e2) hS, hl, hn, fun rs hr h0 p H3 hp e3 h3 => q p rs H3 (fresh_back e2 hp) (e2.trans e3) h3 hr h0⟩
theorem q_asgRows {σ : L2.St} {H : Hp} {te : TE} {D : Ends} {tz : TS} {i n : Nat} (h : EvRows te σ H n) (k : ∀ p rs H1, H p = none → Ex H H1 → H1 p = some (.lst (List.map V.int rs)) → rs.length = n → (∀ c ∈ rs, 0 ≤ c) → tz D (σ.set i (some (.ref p))) H1) : tSeq (tAsg te (gName i)) tz D σ H :=
  h H (Ex.refl H) _ fun p rs H1 hp e h1 hr h0 => k p rs H1 hp e h1 hr h0
/-- a def of the top: its text, its place, how it is called -/
structure Df (K : PySem.W.Frag) (mg : Str → Option Value) (x : Str) (st : Stmt) (ps : List Str) : Prop where
  ex : ∃ (f : Addr) (fd : FuncData), L2.Fun K x x st f fd ∧ mg x = some (.ref f) ∧ Binds K fd ps []
theorem Df.cal {P : Program} {w : World} {K : PySem.W.Frag} {mg : Str → Option Value} {base : Heap} {x : Str} {st : Stmt} {N ps : List Str} {k : Nat} {sp : Sp} (D : Df K mg x st ps) (S : FnScope N ps (defScope st)) (len : ∀ vs H Q E, sp vs H Q E → vs.length = ps.length)
    (hbody : ∀ (f : Addr) (cdv : Value) (A : Around) (outer : List Env) (s : Shared) (H : Hp) (vs : List V) (Q : VK) (E : XK), Room k (A.deeper (envOfC x (defScope st) s.heap.objs.size f cdv)) → sp vs H Q E →
      ∃ t, PSs (cxOf L2.CX0 P w K mg base N x (defScope st) f cdv A outer s H E).nox (defBody st) t ∧ t { nx := fun _ H' => Q .non H', rt := Q } (start N vs) H) : C8.Cal P w K mg base (k + 1) x sp [] := by
  obtain ⟨f, fd, F, hm, hb⟩ := D.ex
  exact ⟨f, fd, ps, [], F.ok S len (hbody f), hm, F.kp, hb, .nil⟩
def spLaw (K : PySem.W.Frag) : Sp := fun vs H Q _ => ∃ (a : Addr) (ns : List Int), vs = [.ref a] ∧ SqL K H a (ns.map V.int) ∧ ns.length ≤ 63 ∧ ∀ H', Q (.bl true) H'
end Lw
namespace K04
open PySem PySem.Spec PyProof.Rows L2 Evl Lw
def top (i : Nat) : Stmt := PySem.Challenge.pw_foldkeep_k04_names_of_copies.main.body.getD i (.Pass ⟨0, 0, 0, 0⟩)
abbrev s_ending_start : Stmt := top 2
abbrev s_ending : Stmt := top 3
abbrev s_stem : Stmt := top 4
abbrev s_with_word : Stmt := top 5
abbrev s_copy_name : Stmt := top 6
abbrev s_numbered_name : Stmt := top 7
abbrev s_law_cells : Stmt := top 9
abbrev s_law_name : Stmt := top 10
abbrev s_law_ending : Stmt := top 11
abbrev s_law_with : Stmt := top 12
abbrev s_law : Stmt := top 13
theorem sc_ending_start : FnScope ["name", "dot"] ["name"] (defScope s_ending_start) := ⟨rfl, rfl, rfl, by decide +kernel, rfl, by decide +kernel, by decide +kernel⟩
theorem sc_ending : FnScope ["name"] ["name"] (defScope s_ending) := ⟨rfl, rfl, rfl, by decide +kernel, rfl, by decide +kernel, by decide +kernel⟩
theorem sc_stem : FnScope ["name"] ["name"] (defScope s_stem) := ⟨rfl, rfl, rfl, by decide +kernel, rfl, by decide +kernel, by decide +kernel⟩
theorem sc_with_word : FnScope ["longest", "name", "word", "room"] ["longest", "name", "word"] (defScope s_with_word) := ⟨rfl, rfl, rfl, by decide +kernel, rfl, by decide +kernel, by decide +kernel⟩
theorem sc_copy_name : FnScope ["longest", "name", "number", "k", "clock", "device", "word"] ["longest", "name", "number", "k"] (defScope s_copy_name) := ⟨rfl, rfl, rfl, by decide +kernel, rfl, by decide +kernel, by decide +kernel⟩
theorem sc_numbered_name : FnScope ["longest", "name", "k"] ["longest", "name", "k"] (defScope s_numbered_name) := ⟨rfl, rfl, rfl, by decide +kernel, rfl, by decide +kernel, by decide +kernel⟩
theorem sc_law_cells : FnScope ["script", "count", "cells", "k", "cell"] ["script", "count"] (defScope s_law_cells) := ⟨rfl, rfl, rfl, by decide +kernel, rfl, by decide +kernel, by decide +kernel⟩
theorem sc_law_name : FnScope ["cells", "size", "name", "k"] ["cells"] (defScope s_law_name) := ⟨rfl, rfl, rfl, by decide +kernel, rfl, by decide +kernel, by decide +kernel⟩
theorem sc_law_ending : FnScope ["name", "at", "k"] ["name"] (defScope s_law_ending) := ⟨rfl, rfl, rfl, by decide +kernel, rfl, by decide +kernel, by decide +kernel⟩
theorem sc_law_with : FnScope ["longest", "name", "word", "end", "body"] ["longest", "name", "word"] (defScope s_law_with) := ⟨rfl, rfl, rfl, by decide +kernel, rfl, by decide +kernel, by decide +kernel⟩
theorem sc_law : FnScope ["script", "cells", "name", "longest", "number", "first", "second", "word", "told"] ["script"] (defScope s_law) := ⟨rfl, rfl, rfl, by decide +kernel, rfl, by decide +kernel, by decide +kernel⟩
/-- the names of the top that are asked for -/
structure Txt (K : PySem.W.Frag) (mg : Str → Option Value) : Prop where
  n_int : mg "int" = none
  n_len : mg "len" = none
  n_max : mg "max" = none
  n_range : mg "range" = none
  n_str : mg "str" = none
  g_MOST_ENDING : ∃ u, mg "MOST_ENDING" = some u ∧ RelV (.int 10) u
open TL (numL)
abbrev sp_law_cells := spCells
/-- the last dot behind the first sign, among the first m signs; 0 if there is none -/
def dotUp (l : List Nat) : Nat → Nat
  | 0 => 0
  | m + 1 => if 1 ≤ m ∧ l[m]? = some 46 then m else dotUp l m
theorem dotUp_spec (l : List Nat) : ∀ m, (dotUp l m = 0 ∧ ∀ k, 1 ≤ k → k < m → l[k]? ≠ some 46) ∨ (1 ≤ dotUp l m ∧ dotUp l m < m ∧ l[dotUp l m]? = some 46 ∧ ∀ k, dotUp l m < k → k < m → l[k]? ≠ some 46)
  | 0 => .inl ⟨rfl, fun k _ h => by omega⟩
  | m + 1 => by
    by_cases h : 1 ≤ m ∧ l[m]? = some 46
    · have e : dotUp l (m + 1) = m := if_pos h
      rw [e]
      exact .inr ⟨h.1, by omega, h.2, fun k h1 h2 => by omega⟩
    · have e : dotUp l (m + 1) = dotUp l m := if_neg h
      rw [e]
      rcases dotUp_spec l m with ⟨h1, h2⟩ | ⟨h1, h2, h3, h4⟩
      · refine .inl ⟨h1, fun k k1 k2 hk => ?_⟩
        by_cases hkm : k < m
        · exact h2 k k1 hkm hk
        · have : k = m := by omega
          subst this
          exact h ⟨k1, hk⟩
      · refine .inr ⟨h1, by omega, h3, fun k k1 k2 hk => ?_⟩
        by_cases hkm : k < m
        · exact h4 k k1 hkm hk
        · have : k = m := by omega
          subst this
          exact h ⟨by omega, hk⟩
def dotOf (l : List Nat) : Nat := dotUp l l.length
theorem dot_le (l : List Nat) : dotOf l ≤ l.length := by
  rcases dotUp_spec l l.length with ⟨h1, _⟩ | ⟨_, h2, _, _⟩
  · show dotUp l l.length ≤ l.length
    omega
  · show dotUp l l.length ≤ l.length
    omega
theorem pre_one {l : List Nat} {i : Nat} : TL.pre [46] (l.drop i) = true ↔ l[i]? = some 46 := by
  unfold TL.pre
  show ((l.drop i).take 1 == [46]) = true ↔ _
  by_cases h : i < l.length
  · have e : (l.drop i).take 1 = [l[i]] := by
      rw [List.drop_eq_getElem_cons h]
      rfl
    rw [e, List.getElem?_eq_getElem h]
    simp
  · rw [List.drop_eq_nil_of_le (by omega), List.getElem?_eq_none (by omega)]
    simp
theorem rfind_dot (l : List Nat) : (PySem.Txt.rfind (SX.S l) (SX.S [46])).toNat = dotOf l ∧ PySem.Txt.rfind (SX.S l) (SX.S [46]) ≤ (dotOf l : Int) := by
  have hat : ∀ i, StrLaws.At (SX.S l) (SX.S [46]) (SX.S l).length i ↔ l[i]? = some 46 := fun i => (TL.at_iff (x := SX.S l) (y := SX.S [46]) (by show [46] ≠ []; simp) i).trans pre_one
  have hd := dotUp_spec l l.length
  rcases rfind_whole (SX.S l) (SX.S [46]) with ⟨h1, h2⟩ | ⟨i, h1, h2, h3⟩
  · rw [h1]
    have e : dotOf l = 0 := by
      rcases hd with ⟨h, _⟩ | ⟨_, _, h, _⟩
      · exact h
      · exact absurd ((hat _).mpr h) (h2 _)
    rw [e]
    decide
  · rw [h1]
    have hi := (hat i).mp h2
    have hil : i < l.length := (List.getElem?_eq_some_iff.mp hi).1
    have e : dotOf l = i := by
      rcases hd with ⟨h, hn⟩ | ⟨ha, hb, hc, hn⟩
      · by_cases h0 : i = 0
        · rw [h0]
          exact h
        · exact absurd hi (hn i (by omega) hil)
      · rcases Nat.lt_trichotomy (dotUp l l.length) i with h | h | h
        · exact absurd hi (hn i h hil)
        · exact h
        · exact absurd ((hat _).mpr hc) (h3 _ h)
    rw [e]
    exact ⟨Int.toNat_natCast i, Int.le_refl _⟩
/-- where the ending starts -/
def stOf (l : List Nat) : Nat := if 0 < dotOf l ∧ l.length - dotOf l ≤ 10 then dotOf l else l.length
theorem st_le (l : List Nat) : stOf l ≤ l.length := by
  unfold stOf
  have := dot_le l
  split <;> omega
theorem end_len (l : List Nat) : (l.drop (stOf l)).length ≤ 10 := by
  rw [List.length_drop]
  unfold stOf
  split <;> omega
def ww (n : Nat) (l word : List Nat) : List Nat := ((l.take (stOf l)).take (n - word.length - (l.drop (stOf l)).length) ++ word) ++ l.drop (stOf l)
theorem ww_len {n : Nat} {l word : List Nat} (h : word.length + 10 ≤ n) : (ww n l word).length ≤ n := by
  unfold ww
  have := end_len l
  rw [List.length_append, List.length_append, List.length_take]
  omega
def W0 (c d : Nat) : List Nat := ((([32, 40] ++ numL c) ++ [45]) ++ numL d) ++ [41]
def Wk (c d k : Nat) : List Nat := if 0 < k then (W0 c d ++ [32]) ++ numL k else W0 c d
theorem W0_len {c d : Nat} (hc : c < 10 ^ 10) (hd : d < 10 ^ 10) : (W0 c d).length ≤ 24 := by
  have h1 := TL.numL_len (k := 10) (by decide) hc
  have h2 := TL.numL_len (k := 10) (by decide) hd
  unfold W0
  rw [List.length_append, List.length_append, List.length_append, List.length_append]
  show 2 + _ + 1 + _ + 1 ≤ 24
  omega
theorem Wk_len {c d k : Nat} (hc : c < 10 ^ 10) (hd : d < 10 ^ 10) (hk : k < 10 ^ 5) : (Wk c d k).length ≤ 30 := by
  have h1 := W0_len hc hd
  have h2 := TL.numL_len (k := 5) (by decide) hk
  unfold Wk
  split
  · rw [List.length_append, List.length_append]
    show _ + 1 + _ ≤ 30
    omega
  · omega
theorem num_word_len {k : Nat} (hk : k < 10 ^ 6) : ([32] ++ numL k).length ≤ 7 := by
  have h2 := TL.numL_len (k := 6) (by decide) hk
  rw [List.length_append]
  show 1 + _ ≤ 7
  omega
/-- what stands behind the last sign c -/
theorem last_free {c : Nat} {p q d e : List Nat} (hd : c ∉ d) (he : c ∉ e) (h : p ++ ([c] ++ d) = q ++ ([c] ++ e)) : d = e := by
  rcases List.append_eq_append_iff.mp h with ⟨a, h1, h2⟩ | ⟨a, h1, h2⟩
  · cases a with
    | nil => exact (List.cons.inj h2).2
    | cons x a =>
      have h3 := (List.cons.inj h2).2
      exact absurd (by rw [show d = a ++ ([c] ++ e) from h3]; simp) hd
  · cases a with
    | nil => exact ((List.cons.inj h2).2).symm
    | cons x a =>
      have h3 := (List.cons.inj h2).2
      exact absurd (by rw [show e = a ++ ([c] ++ d) from h3]; simp) he
theorem last_mem {c : Nat} {X Y d : List Nat} (hd : d ≠ []) (h : X ++ [c] = Y ++ d) : c ∈ d := by
  have h1 := congrArg List.reverse h
  rw [List.reverse_append, List.reverse_append] at h1
  cases hr : d.reverse with
  | nil => exact absurd (List.reverse_eq_nil_iff.mp hr) hd
  | cons x r =>
    rw [hr] at h1
    have h2 : c = x := (List.cons.inj h1).1
    rw [h2]
    have : x ∈ d.reverse := by rw [hr]; exact List.mem_cons_self
    exact List.mem_reverse.mp this
theorem sp_free (k : Nat) : 32 ∉ numL k := TL.numL_free (.inl (by decide))
theorem ww_apart {n : Nat} {l v1 v2 : List Nat} {a b : Nat} (h : ww n l (v1 ++ ([32] ++ numL a)) = ww n l (v2 ++ ([32] ++ numL b))) : a = b := by
  unfold ww at h
  have h1 := List.append_cancel_right h
  have e : ∀ (X v : List Nat) (k : Nat), X ++ (v ++ ([32] ++ numL k)) = (X ++ v) ++ ([32] ++ numL k) := fun X v k => (List.append_assoc _ _ _).symm
  rw [e, e] at h1
  exact TL.numL_inj (last_free (sp_free a) (sp_free b) h1)
theorem ww_apart0 {n : Nat} {l v1 v2 : List Nat} {b : Nat} : ww n l (v1 ++ [41]) ≠ ww n l (v2 ++ ([32] ++ numL b)) := by
  intro h
  unfold ww at h
  have h1 := List.append_cancel_right h
  have hne := TL.numL_ne b
  have e1 : ∀ X v : List Nat, X ++ (v ++ [41]) = (X ++ v) ++ [41] := fun X v => (List.append_assoc _ _ _).symm
  have e2 : ∀ X v : List Nat, X ++ (v ++ ([32] ++ numL b)) = (X ++ (v ++ [32])) ++ numL b := fun X v => by
    rw [List.append_assoc, List.append_assoc]
  rw [e1, e2] at h1
  exact TL.numL_free (n := b) (s := 41) (.inl (by decide)) (last_mem hne h1)
theorem Wk_apart {n c d a b : Nat} {l : List Nat} (hab : a ≠ b) : ww n l (Wk c d a) ≠ ww n l (Wk c d b) := by
  unfold Wk
  by_cases ha : 0 < a
  · rw [if_pos ha]
    by_cases hb : 0 < b
    · rw [if_pos hb]
      intro h
      rw [List.append_assoc, List.append_assoc] at h
      exact hab (ww_apart h)
    · rw [if_neg hb, List.append_assoc]
      intro h
      exact ww_apart0 h.symm
  · rw [if_neg ha]
    by_cases hb : 0 < b
    · rw [if_pos hb, List.append_assoc]
      exact ww_apart0
    · omega
theorem num_apart {n a b : Nat} {l : List Nat} (hab : a ≠ b) : ww n l ([32] ++ numL a) ≠ ww n l ([32] ++ numL b) := by
  intro h
  exact hab (ww_apart (v1 := []) (v2 := []) h)
def small (l : List Nat) : Prop := l.length ≤ 100
def sp_ending_start (K : PySem.W.Frag) : Sp := fun vs H Q _ => ∃ l : List Nat, vs = [.str (SX.S l)] ∧ small l ∧ RetV (.int (stOf l : Nat)) H Q
def sp_ending (K : PySem.W.Frag) : Sp := fun vs H Q _ => ∃ l : List Nat, vs = [.str (SX.S l)] ∧ small l ∧ RetV (.str (SX.S (l.drop (stOf l)))) H Q
def sp_stem (K : PySem.W.Frag) : Sp := fun vs H Q _ => ∃ l : List Nat, vs = [.str (SX.S l)] ∧ small l ∧ RetV (.str (SX.S (l.take (stOf l)))) H Q
def sp_law_ending := sp_ending
def sp_with_word (K : PySem.W.Frag) : Sp := fun vs H Q _ => ∃ (n : Nat) (l word : List Nat), vs = [.int (n : Int), .str (SX.S l), .str (SX.S word)] ∧ small l ∧ small word ∧ RetV (.str (SX.S (ww n l word))) H Q
def sp_law_with := sp_with_word
def sp_copy_name (K : PySem.W.Frag) : Sp := fun vs H Q _ => ∃ (n : Nat) (l : List Nat) (p : Addr) (c d k : Nat), vs = [.int (n : Int), .str (SX.S l), .ref p, .int (k : Int)] ∧ SqT K H p [.int (c : Int), .int (d : Int)] ∧ small l ∧ c < 10 ^ 10 ∧ d < 10 ^ 10 ∧ k < 10 ^ 5 ∧ RetV (.str (SX.S (ww n l (Wk c d k)))) H Q
def numb (n : Nat) (l : List Nat) (k : Nat) : List Nat := if k = 0 then l else ww n l ([32] ++ numL k)
def sp_numbered_name (K : PySem.W.Frag) : Sp := fun vs H Q _ => ∃ (n : Nat) (l : List Nat) (k : Nat), vs = [.int (n : Int), .str (SX.S l), .int (k : Int)] ∧ small l ∧ k < 10 ^ 6 ∧ RetV (.str (SX.S (numb n l k))) H Q
def sp_law_name (K : PySem.W.Frag) : Sp := fun vs H Q _ => ∃ (a : Addr) (cs : List Int), vs = [.ref a] ∧ SqL K H a (cs.map V.int) ∧ cs.length = 120 ∧ ∀ l : List Nat, small l → RetV (.str (SX.S l)) H Q
theorem e_dot : Str.ofString "." = SX.S [46] := by decide +kernel
theorem lenV (l : List Nat) : V.int ((SX.S l).length : Int) = V.int (l.length : Int) := by rw [len_S]
theorem ev_lenS {σ : L2.St} {H : Hp} {te : TE} {l : List Nat} (h : Ev te σ H (.str (SX.S l))) (hl : l.length ≤ 100000) : Ev (tCB (fun xs H Q => ∃ z : Str, xs = [V.str z] ∧ z.length ≤ sizeLine ∧ Q (V.int z.length) H) (tCons te tNil)) σ H (.int (l.length : Int)) :=
  ev_is (ev_cb (ea_cons h ea_nil) (rc_lenStr (by rw [len_S]; exact hl))) (lenV l)
theorem eq_S (a b : List Nat) : decide (V.str (SX.S a) = V.str (SX.S b)) = decide (a = b) := decide_eq_decide.mpr ⟨fun h => SX.S_inj (V.str.inj h), fun h => by rw [h]⟩
theorem sp_st {K : PySem.W.Frag} {H : Hp} {l : List Nat} (h : small l) : SpV (sp_ending_start K) [.str (SX.S l)] H (.int (stOf l : Nat)) := fun H1 e Q q E => ⟨l, rfl, h, fun H2 e2 => q H2 e2⟩
theorem sp_en {K : PySem.W.Frag} {H : Hp} {l : List Nat} (h : small l) : SpV (sp_ending K) [.str (SX.S l)] H (.str (SX.S (l.drop (stOf l)))) := fun H1 e Q q E => ⟨l, rfl, h, fun H2 e2 => q H2 e2⟩
theorem sp_sm {K : PySem.W.Frag} {H : Hp} {l : List Nat} (h : small l) : SpV (sp_stem K) [.str (SX.S l)] H (.str (SX.S (l.take (stOf l)))) := fun H1 e Q q E => ⟨l, rfl, h, fun H2 e2 => q H2 e2⟩
theorem sp_ww {K : PySem.W.Frag} {H : Hp} {n : Nat} {l word : List Nat} (h : small l) (h2 : small word) : SpV (sp_with_word K) [.int (n : Int), .str (SX.S l), .str (SX.S word)] H (.str (SX.S (ww n l word))) := fun H1 e Q q E => ⟨n, l, word, rfl, h, h2, fun H2 e2 => q H2 e2⟩
theorem sp_cn {K : PySem.W.Frag} {H : Hp} {n : Nat} {l : List Nat} {p : Addr} {c d k : Nat} (hp : SqT K H p [.int (c : Int), .int (d : Int)]) (h : small l) (hc : c < 10 ^ 10) (hd : d < 10 ^ 10) (hk : k < 10 ^ 5) : SpV (sp_copy_name K) [.int (n : Int), .str (SX.S l), .ref p, .int (k : Int)] H (.str (SX.S (ww n l (Wk c d k)))) := fun H1 e Q q E => ⟨n, l, p, c, d, k, rfl, ex_t e hp, h, hc, hd, hk, fun H2 e2 => q H2 e2⟩
theorem sp_nn {K : PySem.W.Frag} {H : Hp} {n : Nat} {l : List Nat} {k : Nat} (h : small l) (hk : k < 10 ^ 6) : SpV (sp_numbered_name K) [.int (n : Int), .str (SX.S l), .int (k : Int)] H (.str (SX.S (numb n l k))) := fun H1 e Q q E => ⟨n, l, k, rfl, h, hk, fun H2 e2 => q H2 e2⟩
section
variable {P : Program} {w : World} {K : PySem.W.Frag} {mg : Str → Option Value} {base : Heap}
/-! ### ending_start -/
theorem ok_ending_start (D : Df K mg "ending_start" s_ending_start ["name"]) (T : Txt K mg)  : C8.Cal P w K mg base 1 "ending_start" (sp_ending_start K) [] := by
  refine D.cal sc_ending_start (fun vs H Q E h => ?_) (fun f cdv A outer s H vs Q E hr h => ?_)
  · obtain ⟨l, rfl, _⟩ := h
    rfl
  · obtain ⟨l, rfl, hl, q⟩ := h
    refine ⟨_,
        (pss_cons (ps_set (i := 1) sc_ending_start.nd rfl (.inl rfl) (pe_m1 PySem.F.slot_str_rfind PySem.F.type_str_rfind mt_rfind (pv 0) pe_str))
        (pss_cons (ps_if (PW.pt (pw_or (pt_cmpR op_le (pv 1) pe_int (nomark _)) (pw_or1 (pt_cmpR op_gt (pe_op op_sub (pe_callB call_len_str (by rfl) T.n_len PySem.boot_len (pa_cons (pv 0) pa_nil)) (pv 1)) (C8.pe_gc (by rfl) T.g_MOST_ENDING) (nomark _)))))
          (pss_one (ps_ret (pe_callB call_len_str (by rfl) T.n_len PySem.boot_len (pa_cons (pv 0) pa_nil))))
          pss_nil)
        (pss_one (ps_ret (pv 1))))), ?_⟩
    have hz : l.length ≤ 100000 := by unfold small at hl; omega
    obtain ⟨r1, r2⟩ := rfind_dot l
    have hd := dot_le l
    have hst : stOf l = if 0 < dotOf l ∧ l.length - dotOf l ≤ 10 then dotOf l else l.length := rfl
    refine q_asg (v := .int (PySem.Txt.rfind (SX.S l) (SX.S [46]))) (fun H1 e1 Q q => ⟨_, rfl, ⟨_, rfl⟩, _, _, rfl, by rw [e_dot], q H1 (Ex.refl H1)⟩) fun H1 e1 => ?_
    generalize PySem.Txt.rfind (SX.S l) (SX.S [46]) = x at r1 r2
    refine q_when (et_or (et_test (ev_op (ev_var rfl) ev_c rv_I0)) (fun _ => et_test (ev_op (ev_op (ev_lenS (ev_var rfl) hz) (ev_var rfl) rv_I0) ev_c rv_I0))) (fun hb H2 e2 => ?_) (fun hb H2 e2 => ?_)
    · refine s_ret (v := .int (stOf l : Nat)) (ev_is (ev_lenS (ev_var rfl) hz) (congrArg V.int ?_)) fun H3 e3 => q H3 ((e1.trans e2).trans e3)
      rw [hst, if_neg]
      intro h
      rw [Bool.or_eq_true, decide_eq_true_iff, decide_eq_true_iff] at hb
      omega
    · refine s_ret (v := .int (stOf l : Nat)) (ev_is (ev_var rfl) (congrArg V.int ?_)) fun H3 e3 => q H3 ((e1.trans e2).trans e3)
      rw [Bool.or_eq_false_iff, decide_eq_false_iff_not, decide_eq_false_iff_not] at hb
      rw [hst, if_pos (by omega)]
      omega

/-! ### ending -/
theorem ok_ending (D : Df K mg "ending" s_ending ["name"]) (T : Txt K mg) (G_ending_start : C8.Cal P w K mg base 1 "ending_start" (sp_ending_start K) []) : C8.Cal P w K mg base 2 "ending" (sp_ending K) [] := by
  refine D.cal sc_ending (fun vs H Q E h => ?_) (fun f cdv A outer s H vs Q E hr h => ?_)
  · obtain ⟨l, rfl, _⟩ := h
    rfl
  · obtain ⟨l, rfl, hl, q⟩ := h
    refine ⟨_,
        (pss_one (ps_ret (pe_slice sl_str (pv 0) (po_some (C8.pe_c G_ending_start hr (by decide) (by rfl) (pa_cons (pv 0) pa_nil))) po_none))), ?_⟩
    have hz : (SX.S l).length ≤ 100000 := by rw [len_S]; unfold small at hl; omega
    refine s_ret (ev_is (ev_cutS (ev_var rfl) (eo_some (ev_call (ea_cons (ev_var rfl) ea_nil) (sp_st hl))) eo_none hz) (congrArg V.str (cut_from l (stOf l)))) fun H1 e1 => q H1 e1

/-! ### stem -/
theorem ok_stem (D : Df K mg "stem" s_stem ["name"]) (T : Txt K mg) (G_ending_start : C8.Cal P w K mg base 1 "ending_start" (sp_ending_start K) []) : C8.Cal P w K mg base 2 "stem" (sp_stem K) [] := by
  refine D.cal sc_stem (fun vs H Q E h => ?_) (fun f cdv A outer s H vs Q E hr h => ?_)
  · obtain ⟨l, rfl, _⟩ := h
    rfl
  · obtain ⟨l, rfl, hl, q⟩ := h
    refine ⟨_,
        (pss_one (ps_ret (pe_slice sl_str (pv 0) po_none (po_some (C8.pe_c G_ending_start hr (by decide) (by rfl) (pa_cons (pv 0) pa_nil)))))), ?_⟩
    have hz : (SX.S l).length ≤ 100000 := by rw [len_S]; unfold small at hl; omega
    refine s_ret (ev_is (ev_cutS (ev_var rfl) eo_none (eo_some (ev_call (ea_cons (ev_var rfl) ea_nil) (sp_st hl))) hz) (congrArg V.str (cut_to l (stOf l)))) fun H1 e1 => q H1 e1

/-! ### with_word -/
theorem ok_with_word (D : Df K mg "with_word" s_with_word ["longest", "name", "word"]) (T : Txt K mg) (G_ending : C8.Cal P w K mg base 2 "ending" (sp_ending K) []) (G_stem : C8.Cal P w K mg base 2 "stem" (sp_stem K) []) : C8.Cal P w K mg base 3 "with_word" (sp_with_word K) [] := by
  refine D.cal sc_with_word (fun vs H Q E h => ?_) (fun f cdv A outer s H vs Q E hr h => ?_)
  · obtain ⟨n, l, word, rfl, _⟩ := h
    rfl
  · obtain ⟨n, l, word, rfl, hl, hw, q⟩ := h
    refine ⟨_,
        (pss_cons (ps_set (i := 3) sc_with_word.nd rfl (.inl rfl) (pe_op op_sub (pe_op op_sub (pv 0) (pe_callB call_len_str (by rfl) T.n_len PySem.boot_len (pa_cons (pv 2) pa_nil))) (pe_callB call_len_str (by rfl) T.n_len PySem.boot_len (pa_cons (C8.pe_c G_ending hr (by decide) (by rfl) (pa_cons (pv 1) pa_nil)) pa_nil))))
        (pss_one (ps_ret (pe_op op_add_str (pe_op op_add_str (pe_slice sl_str (C8.pe_c G_stem hr (by decide) (by rfl) (pa_cons (pv 1) pa_nil)) po_none (po_some (pe_callB (call_max2 rfl) (by rfl) T.n_max (by decide +kernel) (pa_cons pe_int (pa_cons (pv 3) pa_nil))))) (pv 2)) (C8.pe_c G_ending hr (by decide) (by rfl) (pa_cons (pv 1) pa_nil)))))), ?_⟩
    have hl' : l.length ≤ 100 := hl
    have hw' : word.length ≤ 100 := hw
    have he := end_len l
    refine q_asg (ev_op (ev_op (ev_var rfl) (ev_lenS (ev_var rfl) (by omega)) rv_I0) (ev_lenS (ev_call (ea_cons (ev_var rfl) ea_nil) (sp_en hl)) (by omega)) rv_I0) fun H1 e1 => ?_
    have hroom : (if (n : Int) - (word.length : Int) - ((l.drop (stOf l)).length : Int) > 0 then (n : Int) - (word.length : Int) - ((l.drop (stOf l)).length : Int) else 0) = ((n - word.length - (l.drop (stOf l)).length : Nat) : Int) := by split <;> omega
    have hzt : (SX.S (l.take (stOf l))).length ≤ 100000 := by rw [len_S, List.length_take]; omega
    refine s_ret (v := .str (SX.S (ww n l word))) (ev_is (ev_op (ev_op (ev_is (ev_cutS (ev_call (ea_cons (ev_var rfl) ea_nil) (sp_sm hl)) eo_none (eo_some (ev_is (ev_cb (ea_cons ev_c (ea_cons (ev_var rfl) ea_nil)) rc_max2) (congrArg V.int hroom))) hzt) (congrArg V.str (cut_to _ _))) (ev_var rfl) (rv_addS (by rw [len_S, len_S, List.length_take, List.length_take]; omega))) (ev_call (ea_cons (ev_var rfl) ea_nil) (sp_en hl)) (rv_addS (by rw [SX.S_cat, len_S, len_S, List.length_append, List.length_take, List.length_take]; omega))) (congrArg V.str (by rw [SX.S_cat, SX.S_cat]; rfl))) fun H2 e2 => q H2 (e1.trans e2)

/-! ### copy_name -/
theorem ok_copy_name (D : Df K mg "copy_name" s_copy_name ["longest", "name", "number", "k"]) (T : Txt K mg) (G_with_word : C8.Cal P w K mg base 3 "with_word" (sp_with_word K) []) : C8.Cal P w K mg base 4 "copy_name" (sp_copy_name K) [] := by
  refine D.cal sc_copy_name (fun vs H Q E h => ?_) (fun f cdv A outer s H vs Q E hr h => ?_)
  · obtain ⟨n, l, p, c, d, k, rfl, _⟩ := h
    rfl
  · obtain ⟨n, l, p, c, d, k, rfl, hp, hl, hc, hd, hk, q⟩ := h
    refine ⟨_,
        (pss_cons (ps_asg (pv 2) (pg_tup rfl (pgs_cons (pg_name (i := 4) sc_copy_name.nd rfl (.inl rfl)) (pgs_cons (pg_name (i := 5) sc_copy_name.nd rfl (.inl rfl)) pgs_nil))))
        (pss_cons (ps_set (i := 6) sc_copy_name.nd rfl (.inl rfl) (pe_joined (.cons pe_str (.cons (pe_fmt (pv 4)) (.cons pe_str (.cons (pe_fmt (pv 5)) (.cons pe_str .nil)))))))
        (pss_cons (ps_if (pt_cmpR op_gt (pv 3) pe_int (nomark _))
          (pss_one (ps_set (i := 6) sc_copy_name.nd rfl (.inl rfl) (pe_joined (.cons (pe_fmt (pv 6)) (.cons pe_str (.cons (pe_fmt (pv 3)) .nil))))))
          pss_nil)
        (pss_one (ps_ret (C8.pe_c G_with_word hr (by decide) (by rfl) (pa_cons (pv 0) (pa_cons (pv 1) (pa_cons (pv 6) pa_nil))))))))), ?_⟩
    have hl' : l.length ≤ 100 := hl
    have lc := TL.numL_len (k := 10) (by decide) hc
    have ld := TL.numL_len (k := 10) (by decide) hd
    have lk := TL.numL_len (k := 5) (by decide) hk
    have hw := W0_len hc hd
    refine q_unp2 (ev_var rfl) hp fun H1 e1 => ?_
    refine q_asg (v := .str (SX.S (W0 c d))) (ev_joined (ys := [[32, 40], numL c, [45], numL d, [41]]) (.cons (ev_is ev_c (congrArg V.str (by decide +kernel))) (.cons (ev_fmtN (ev_var rfl) (by omega)) (.cons (ev_is ev_c (congrArg V.str (by decide +kernel))) (.cons (ev_fmtN (ev_var rfl) (by omega)) (.cons (ev_is ev_c (congrArg V.str (by decide +kernel))) .nil))))) (by
      show 2 + ((numL c).length + (1 + ((numL d).length + (1 + 0)))) ≤ 100000
      omega)) fun H2 e2 => ?_
    refine q_ifAsg (v := .str (SX.S (Wk c d k))) (et_test (ev_op (ev_var rfl) ev_c rv_I0)) (fun hb => ?_) (fun hb => ?_) fun H3 e3 => ?_
    · have hk0 : 0 < k := by have := of_decide_eq_true hb; omega
      refine ev_is (ev_joined (ys := [W0 c d, [32], numL k]) (.cons (ev_fmtS (ev_var rfl) (by rw [len_S]; omega)) (.cons (ev_is ev_c (congrArg V.str (by decide +kernel))) (.cons (ev_fmtN (ev_var rfl) (by omega)) .nil))) (by
        show (W0 c d).length + (1 + ((numL k).length + 0)) ≤ 100000
        omega)) (congrArg (fun z => V.str (SX.S z)) ?_)
      unfold Wk
      rw [if_pos hk0]
      rfl
    · have hk0 : ¬ 0 < k := by have := of_decide_eq_false hb; omega
      unfold Wk
      rw [if_neg hk0]
      rfl
    have hwk := Wk_len hc hd hk
    refine s_ret (ev_call (ea_cons (ev_var rfl) (ea_cons (ev_var rfl) (ea_cons (ev_var rfl) ea_nil))) (sp_ww hl (by unfold small; omega))) fun H4 e4 => q H4 (((e1.trans e2).trans e3).trans e4)

/-! ### numbered_name -/
theorem ok_numbered_name (D : Df K mg "numbered_name" s_numbered_name ["longest", "name", "k"]) (T : Txt K mg) (G_with_word : C8.Cal P w K mg base 3 "with_word" (sp_with_word K) []) : C8.Cal P w K mg base 4 "numbered_name" (sp_numbered_name K) [] := by
  refine D.cal sc_numbered_name (fun vs H Q E h => ?_) (fun f cdv A outer s H vs Q E hr h => ?_)
  · obtain ⟨n, l, k, rfl, _⟩ := h
    rfl
  · obtain ⟨n, l, k, rfl, hl, hk, q⟩ := h
    refine ⟨_,
        (pss_cons (ps_if (pt_cmpR op_eq (pv 2) pe_int (nomark _))
          (pss_one (ps_ret (pv 1)))
          pss_nil)
        (pss_one (ps_ret (C8.pe_c G_with_word hr (by decide) (by rfl) (pa_cons (pv 0) (pa_cons (pv 1) (pa_cons (pe_joined (.cons pe_str (.cons (pe_fmt (pv 2)) .nil))) pa_nil))))))), ?_⟩
    have hwl := num_word_len hk
    refine q_when (et_test (ev_op (ev_var rfl) ev_c (rv_eq rfl))) (fun hb H1 e1 => ?_) (fun hb H1 e1 => ?_)
    · have hk0 : k = 0 := by
        have := V.int.inj (of_decide_eq_true hb)
        omega
      refine s_ret (ev_var rfl) fun H2 e2 => ?_
      have g := q H2 (e1.trans e2)
      unfold numb at g
      rw [if_pos hk0] at g
      exact g
    · have hk0 : ¬ k = 0 := fun h => of_decide_eq_false hb (by rw [h]; rfl)
      refine s_ret (ev_call (ea_cons (ev_var rfl) (ea_cons (ev_var rfl) (ea_cons (ev_joined (ys := [[32], numL k]) (.cons (ev_is ev_c (congrArg V.str (by decide +kernel))) (.cons (ev_fmtN (ev_var rfl) (by omega)) .nil)) (by
        rw [List.length_append] at hwl
        show 1 + ((numL k).length + 0) ≤ 100000
        have : ([32] : List Nat).length = 1 := rfl
        omega)) ea_nil))) (sp_ww (word := [32] ++ numL k) hl (by unfold small; omega))) fun H2 e2 => ?_
      have g := q H2 (e1.trans e2)
      unfold numb at g
      rw [if_neg hk0] at g
      exact g

/-! ### law_cells -/
theorem ok_law_cells (D : Df K mg "_law_cells" s_law_cells ["script", "count"]) (T : Txt K mg)  : C8.Cal P w K mg base 1 "_law_cells" (sp_law_cells K) [] := by
  refine D.cal sc_law_cells (fun vs H Q E h => ?_) (fun f cdv A outer s H vs Q E hr h => ?_)
  · obtain ⟨a, ns, n, rfl, _⟩ := h
    rfl
  · obtain ⟨a, ns, n, rfl, hS, hl, hn, q⟩ := h
    refine ⟨_,
        (pss_cons (ps_set (i := 2) sc_law_cells.nd rfl (.inl rfl) (pe_lst pa_nil))
        (pss_cons (ps_for PassesOwn.never rfl (pi_range1 (by rfl) T.n_range (pa_cons (pv 1) pa_nil)) (pg_name (i := 3) sc_law_cells.nd rfl (.inl rfl))
          (pss_cons (ps_set (i := 4) sc_law_cells.nd rfl (.inl rfl) pe_int)
          (pss_cons (ps_if (pt_cmpR op_lt (pv 3) (pe_callB call_len_seq (by rfl) T.n_len PySem.boot_len (pa_cons (pv 0) pa_nil)) (nomark _))
            (pss_one (ps_set (i := 4) sc_law_cells.nd rfl (.inl rfl) (pe_callTy call_int1 (by rfl) T.n_int (by decide +kernel) (pa_cons (pe_ix ix_list (pv 0) (pv 3) (fun _ _ => rfl)) pa_nil))))
            pss_nil)
          (pss_cons (ps_if (pt_cmpR op_lt (pv 4) pe_int (nomark _))
            (pss_one (ps_set (i := 4) sc_law_cells.nd rfl (.inl rfl) (pe_op op_sub pe_int (pe_op op_mul pe_int (pv 4)))))
            pss_nil)
          (pss_cons (ps_if (PW.pt (pw_or (pt_cmpR op_ge (pv 3) (pe_callB call_len_seq (by rfl) T.n_len PySem.boot_len (pa_cons (pv 0) pa_nil)) (nomark _)) (pw_or1 (pt_cmpR op_lt (pv 4) pe_int (nomark _)))))
            (pss_cons (ps_if (pt_cmpR op_gt (pe_callB call_len_seq (by rfl) T.n_len PySem.boot_len (pa_cons (pv 0) pa_nil)) pe_int (nomark _))
              (pss_one (ps_set (i := 4) sc_law_cells.nd rfl (.inl rfl) (pe_callTy call_int1 (by rfl) T.n_int (by decide +kernel) (pa_cons (pe_ix ix_list (pv 0) (pe_op op_mod (pe_callTy call_int1 (by rfl) T.n_int (by decide +kernel) (pa_cons (pv 3) pa_nil)) (pe_callB call_len_seq (by rfl) T.n_len PySem.boot_len (pa_cons (pv 0) pa_nil))) (fun _ _ => rfl)) pa_nil))))
              pss_nil)
            (pss_cons (ps_if (pt_cmpR op_lt (pv 4) pe_int (nomark _))
              (pss_one (ps_set (i := 4) sc_law_cells.nd rfl (.inl rfl) (pe_op op_sub pe_int (pe_op op_mul pe_int (pv 4)))))
              pss_nil)
            (pss_cons (ps_set (i := 4) sc_law_cells.nd rfl (.inl rfl) (pe_op op_mod (pe_callTy call_int1 (by rfl) T.n_int (by decide +kernel) (pa_cons (pe_op op_add (pe_op op_mul (pe_op op_add (pe_op op_add (pv 4) (pe_op op_mul pe_int (pv 3))) pe_int) pe_int) (pe_op op_mul (pe_op op_mul (pv 3) (pv 3)) pe_int)) pa_nil)) pe_int))
            (pss_one (ps_set (i := 4) sc_law_cells.nd rfl (.inl rfl) (pe_op op_mod (pe_callTy call_int1 (by rfl) T.n_int (by decide +kernel) (pa_cons (pe_op op_mul (pe_op op_add (pe_op op_add (pv 4) (pe_op op_mul pe_int (pv 3))) pe_int) pe_int) pa_nil)) pe_int))))))
            pss_nil)
          (pss_one (ps_expr (pe_bm PySem.F.plainAttrs_list PySem.F.slot_list_append PySem.F.type_list_append mt_append (pv 2) (pa_cons (pv 4) pa_nil)))))))))
        (pss_one (ps_ret (pv 2))))), ?_⟩
    refine q_asgL (el_lst ea_nil (by simp)) fun p H1 hp e1 h1 => ?_
    refine q_forR1 (n := (n : Int)) (ea_cons (ev_var rfl) ea_nil) ⟨by omega, by omega⟩
      (fun i σ' H' => ∃ k c, σ' = [some (.ref a), some (.int (n : Int)), some (.ref p), k, c] ∧ Ex H H' ∧ H' p = some (.lst ((cellsOf ns i).map V.int)))
      (fun H2 e2 => ⟨none, none, rfl, e1.trans e2, e2 p _ h1⟩) ?_ ?_
    · rintro i σ' H' hi ⟨k0, c0, rfl, eH, hc⟩
      have hS' := ex_l eH hS
      have hlen : ((ns.map V.int).length : Int) = (ns.length : Int) := by rw [List.length_map]
      -- cell = 0; if k < len(script): cell = int(script[k])
      refine q_asg ev_c fun H2 e2 => ?_
      refine q_ifAsg (v := .int (cell0 ns i)) (et_test (ev_op (ev_var rfl) (ev_len (ev_var rfl) (ex_l e2 hS')) rv_I0)) (fun hb => ?_) (fun hb => ?_) fun H3 e3 => ?_
      · have hlt : i < ns.length := by
          have := of_decide_eq_true hb
          rw [hlen] at this
          omega
        refine ev_is (ev_cb (ea_cons (ev_op (ev_var rfl) (ev_var rfl) (rv_ixL (ex_l e2 hS') (at_int (by omega) (by omega)))) ea_nil) rc_int) ?_
        unfold cell0
        rw [if_pos hlt, Int.toNat_natCast]
      · have hlt : ¬ i < ns.length := by
          have := of_decide_eq_false hb
          rw [hlen] at this
          omega
        unfold cell0
        rw [if_neg hlt]
        rfl
      -- if cell < 0: cell = 1 - 2 * cell
      refine q_ifAsg (v := .int (fixC (cell0 ns i))) (et_test (ev_op (ev_var rfl) ev_c rv_I0)) (fun hb => ev_is (ev_op ev_c (ev_op ev_c (ev_var rfl) (rv_I (.inl (by decide)))) rv_I0) (congrArg V.int (fixC_neg hb))) (fun hb => by rw [fixC_pos hb]; rfl) fun H4 e4 => ?_
      have hS4 := ex_l ((e2.trans e3).trans e4) hS'
      have eH4 := (eH.trans ((e2.trans e3).trans e4))
      have hc4 := ((e2.trans e3).trans e4) p _ hc
      have lenc : ((cellsOf ns i).map V.int).length < 100000 := by
        rw [List.length_map, cellsOf_len]
        omega
      have fin : ∀ H5, Ex H4 H5 → ∃ k c, ([some (.ref a), some (.int (n : Int)), some (.ref p), some (.int (i : Int)), some (.int (cellAt ns i))] : L2.St) = [some (.ref a), some (.int (n : Int)), some (.ref p), k, c] ∧ Ex H (upd H5 p (.lst ((cellsOf ns i).map V.int ++ [.int (cellAt ns i)]))) ∧ (upd H5 p (.lst ((cellsOf ns i).map V.int ++ [.int (cellAt ns i)]))) p = some (.lst ((cellsOf ns (i + 1)).map V.int)) := fun H5 e5 => by
        refine ⟨_, _, rfl, Ex.mut (eH4.trans e5) hp, ?_⟩
        rw [upd_same, cellsOf_succ, List.map_append]
        rfl
      refine q_when (et_or (et_test (ev_op (ev_var rfl) (ev_len (ev_var rfl) hS4) rv_I0)) (fun _ => et_test (ev_op (ev_var rfl) ev_c rv_I0))) (fun hb H5 e5 => ?_) (fun hb H5 e5 => ?_)
      · rw [hlen] at hb
        have hS5 := ex_l e5 hS4
        refine q_ifAsg (v := .int (cell2 ns i (fixC (cell0 ns i)))) (et_test (ev_op (ev_len (ev_var rfl) hS5) ev_c rv_I0)) (fun hb => ?_) (fun hb => ?_) fun H6 e6 => ?_
        · have hpos : 0 < ns.length := by
            have := of_decide_eq_true hb
            rw [hlen] at this
            omega
          have hm0 : 0 ≤ (i : Int) % (ns.length : Int) := Int.emod_nonneg _ (by omega)
          have hm1 : (i : Int) % (ns.length : Int) < (ns.length : Int) := Int.emod_lt_of_pos _ (by omega)
          refine ev_is (ev_cb (ea_cons (ev_op (ev_var rfl) (ev_op (ev_cb (ea_cons (ev_var rfl) ea_nil) rc_int) (ev_len (ev_var rfl) hS5) (rv_I (by rw [hlen]; omega))) (rv_ixL hS5 (by rw [hlen]; exact at_int hm0 hm1))) ea_nil) rc_int) ?_
          unfold cell2
          rw [if_pos hpos]
        · have hpos : ¬ 0 < ns.length := by
            have := of_decide_eq_false hb
            rw [hlen] at this
            omega
          unfold cell2
          rw [if_neg hpos]
          rfl
        refine q_ifAsg (v := .int (fixC (cell2 ns i (fixC (cell0 ns i))))) (et_test (ev_op (ev_var rfl) ev_c rv_I0)) (fun hb => ev_is (ev_op ev_c (ev_op ev_c (ev_var rfl) (rv_I (.inl (by decide)))) rv_I0) (congrArg V.int (fixC_neg hb))) (fun hb => by rw [fixC_pos hb]; rfl) fun H7 e7 => ?_
        refine q_asg (v := .int (mix1 i (fixC (cell2 ns i (fixC (cell0 ns i)))))) (ev_op (ev_cb (ea_cons (ev_op (ev_op (ev_op (ev_op (ev_var rfl) (ev_op ev_c (ev_var rfl) (rv_I (.inl (by decide)))) rv_I0) ev_c rv_I0) ev_c (rv_I (.inr (by decide)))) (ev_op (ev_op (ev_var rfl) (ev_var rfl) (rv_I (.inl (by omega)))) ev_c (rv_I (.inr (by decide)))) rv_I0) ea_nil) rc_int) ev_c (rv_I (by show (0 : Int) < 1000000007; decide))) fun H8 e8 => ?_
        refine s_asg (v := .int (cellAt ns i)) (ev_is (ev_op (ev_cb (ea_cons (ev_op (ev_op (ev_op (ev_var rfl) (ev_op ev_c (ev_var rfl) (rv_I (.inl (by decide)))) rv_I0) ev_c rv_I0) ev_c (rv_I (.inr (by decide)))) ea_nil) rc_int) ev_c (rv_I (by show (0 : Int) < 18446744073709551557; decide))) (congrArg V.int (cellAt_mix hb))) fun H9 e9 => ?_
        have e49 := (((e5.trans e6).trans e7).trans e8).trans e9
        exact s_app (e49 p _ hc4) (ev_var rfl) (ev_var rfl) lenc fun H10 e10 => fin H10 (e49.trans e10)
      · rw [hlen] at hb
        rw [cellAt_own hb] at *
        exact s_app (e5 p _ hc4) (ev_var rfl) (ev_var rfl) lenc fun H10 e10 => fin H10 (e5.trans e10)
    · rintro σ' H' ⟨k0, c0, rfl, eH, hc⟩
      exact s_ret (ev_var rfl) fun H1' e' => q p H1' hp (eH.trans e') (e' p _ hc)

/-! ### law_name -/
theorem ok_law_name (D : Df K mg "_law_name" s_law_name ["cells"]) (T : Txt K mg)  : C8.Cal P w K mg base 1 "_law_name" (sp_law_name K) [] := by
  refine D.cal sc_law_name (fun vs H Q E h => ?_) (fun f cdv A outer s H vs Q E hr h => ?_)
  · obtain ⟨a, cs, rfl, _⟩ := h
    rfl
  · obtain ⟨a, cs, rfl, hS, hl, q⟩ := h
    refine ⟨_,
        (pss_cons (ps_set (i := 1) sc_law_name.nd rfl (.inl rfl) (pe_op op_add pe_int (pe_op op_mod (pe_callTy call_int1 (by rfl) T.n_int (by decide +kernel) (pa_cons (pe_ix ix_list (pv 0) pe_int (fun _ _ => rfl)) pa_nil)) (pe_ix ix_list (pe_lst (pa_cons pe_int (pa_cons pe_int (pa_cons pe_int pa_nil)))) (pe_op op_mod (pe_callTy call_int1 (by rfl) T.n_int (by decide +kernel) (pa_cons (pe_ix ix_list (pv 0) pe_int (fun _ _ => rfl)) pa_nil)) pe_int) (fun _ _ => rfl)))))
        (pss_cons (ps_set (i := 2) sc_law_name.nd rfl (.inl rfl) pe_str)
        (pss_cons (ps_for PassesOwn.never rfl (pi_range1 (by rfl) T.n_range (pa_cons (pv 1) pa_nil)) (pg_name (i := 3) sc_law_name.nd rfl (.inl rfl))
          (pss_one (ps_set (i := 2) sc_law_name.nd rfl (.inl rfl) (pe_op op_add_str (pv 2) (pe_ix ix_str pe_str (pe_op op_mod (pe_callTy call_int1 (by rfl) T.n_int (by decide +kernel) (pa_cons (pe_ix ix_list (pv 0) (pe_op op_add pe_int (pv 3)) (fun _ _ => rfl)) pa_nil)) (pe_ix ix_list (pe_lst (pa_cons pe_int (pa_cons pe_int (pa_cons pe_int pa_nil)))) (pe_op op_mod (pe_op op_fdiv (pe_callTy call_int1 (by rfl) T.n_int (by decide +kernel) (pa_cons (pe_ix ix_list (pv 0) pe_int (fun _ _ => rfl)) pa_nil)) pe_int) pe_int) (fun _ _ => rfl))) (fun _ _ => rfl))))))
        (pss_cons (ps_if (PW.pt (pw_or (pt_cmpR op_eq (pv 2) pe_str (nomark _)) (pw_or1 (pt_cmpR op_eq (pv 2) pe_str (nomark _)))))
          (pss_one (ps_ret pe_str))
          pss_nil)
        (pss_one (ps_ret (pv 2))))))), ?_⟩
    have cell : ∀ {σ : L2.St} {ti : TE} {H1 : Hp} {i : Int}, Ex H H1 → σ[0]? = some (some (.ref a)) → Ev ti σ H1 (.int i) → 0 ≤ i → i < 120 → Ev (tCB (fun xs H Q => (∃ i, xs = [V.int i] ∧ Q (V.int i) H) ∨ ∃ k, xs = [V.bl k] ∧ Q (V.int (if k = true then 1 else 0)) H) (tCons (tOp (rIxL K) (tVar 0) ti) tNil)) σ H1 (.int (cs.getD i.toNat 0)) := fun e h0 hi i0 i1 =>
      ev_cb (ea_cons (ev_op (ev_var h0) hi (rv_ixL (ex_l e hS) (at_int i0 (by omega)))) ea_nil) rc_int
    have hm1 := mod_bd (cs.getD (1 : Int).toNat 0) 3 (by decide)
    have hm2 := mod_bd (cs.getD (1 : Int).toNat 0 / 3) 3 (by decide)
    have hnum : ∀ j : Nat, j < 3 → 0 < ([6, 30, 100] : List Int).getD j 0 ∧ ([6, 30, 100] : List Int).getD j 0 ≤ 100 := fun j hj => by
      rcases j with _ | _ | _ | j
      · decide
      · decide
      · decide
      · omega
    have hnum2 : ∀ j : Nat, j < 3 → 0 < ([14, 15, 16] : List Int).getD j 0 ∧ ([14, 15, 16] : List Int).getD j 0 ≤ 16 := fun j hj => by
      rcases j with _ | _ | _ | j
      · decide
      · decide
      · decide
      · omega
    have h1 := hnum (cs.getD (1 : Int).toNat 0 % 3).toNat (by omega)
    have h2 := hnum2 (cs.getD (1 : Int).toNat 0 / 3 % 3).toNat (by omega)
    have hr2 := mod_bd (cs.getD (0 : Int).toNat 0) (([6, 30, 100] : List Int).getD (cs.getD (1 : Int).toNat 0 % 3).toNat 0) h1.1
    refine q_asg (ev_op ev_c (ev_opV2 (cell (Ex.refl H) rfl ev_c (by decide) (by decide)) (fun H5 e5 => ev_opL1 (xs := ([6, 30, 100] : List Int).map V.int) (el_lst (ea_cons ev_c (ea_cons ev_c (ea_cons ev_c ea_nil))) (by show 3 ≤ 100000; decide)) (fun H6 e6 => ev_op (cell (e5.trans e6) rfl ev_c (by decide) (by decide)) ev_c (rv_I (by show (0 : Int) < 3; decide))) fun p6 H6 h6 _ => rv_ixL (sq_of h6) (at_int hm1.1 (by show _ < ((3 : Nat) : Int); omega))) (rv_I h1.1)) rv_I0) fun H1 e1 => ?_
    refine q_asg (v := .str (SX.S [])) (ev_is ev_c (congrArg V.str (by decide +kernel))) fun H2 e2 => ?_
    refine q_forR1 (ea_cons (ev_var rfl) ea_nil) ⟨by omega, by omega⟩
      (fun i σ' H' => ∃ (l : List Nat) (z k : Option V), σ' = [some (.ref a), z, some (.str (SX.S l)), k] ∧ Ex H H' ∧ l.length = i) (fun H3 e3 => ⟨[], _, none, rfl, (e1.trans e2).trans e3, rfl⟩) ?_ ?_
    · rintro i σ' H' hi ⟨l, z, k, rfl, eH, hli⟩
      have hm3 := mod_bd (cs.getD (2 + (i : Int)).toNat 0) (([14, 15, 16] : List Int).getD (cs.getD (1 : Int).toNat 0 / 3 % 3).toNat 0) h2.1
      have hlen16 : (Str.ofString "abcdefgh. 1(-)x.") = SX.S [97, 98, 99, 100, 101, 102, 103, 104, 46, 32, 49, 40, 45, 41, 120, 46] := by decide +kernel
      refine s_asg (ev_is (ev_op (ev_var rfl) (ev_op (ev_is ev_c (congrArg V.str hlen16)) (ev_opV2 (cell eH rfl (ev_op ev_c (ev_var rfl) rv_I0) (by omega) (by omega)) (fun H5 e5 => ev_opL1 (xs := ([14, 15, 16] : List Int).map V.int) (el_lst (ea_cons ev_c (ea_cons ev_c (ea_cons ev_c ea_nil))) (by show 3 ≤ 100000; decide)) (fun H6 e6 => ev_op (ev_op (cell ((eH.trans e5).trans e6) rfl ev_c (by decide) (by decide)) ev_c (rv_I ⟨by decide, by decide⟩)) ev_c (rv_I (by show (0 : Int) < 3; decide))) fun p6 H6 h6 _ => rv_ixL (sq_of h6) (at_int hm2.1 (by show _ < ((3 : Nat) : Int); omega))) (rv_I h2.1)) (rv_ixS (by decide) (at_codeS hm3.1 (by show _ < ((16 : Nat) : Int); omega)))) (rv_addS (by rw [len_S]; show _ + 1 ≤ 100000; omega))) (congrArg V.str (SX.S_cat _ _))) fun H5 e5 => ⟨_, _, _, rfl, eH.trans e5, ?_⟩
      rw [List.length_append, hli]
      rfl
    · rintro σ' H' ⟨l, z, k, rfl, eH, hli⟩
      have hsm : small l := by unfold small; omega
      refine q_when (et_or (et_test (ev_op (ev_var rfl) ev_c (rv_eq rfl))) (fun _ => et_test (ev_op (ev_var rfl) ev_c (rv_eq rfl)))) (fun hb H3 e3 => ?_) (fun hb H3 e3 => ?_)
      · exact s_ret (v := .str (SX.S [97])) (ev_is ev_c (congrArg V.str (by decide +kernel))) fun H4 e4 => q [97] (by show 1 ≤ 100; decide) H4 ((eH.trans e3).trans e4)
      · exact s_ret (ev_var rfl) fun H4 e4 => q l hsm H4 ((eH.trans e3).trans e4)

/-! ### law_ending -/
theorem ok_law_ending (D : Df K mg "_law_ending" s_law_ending ["name"]) (T : Txt K mg)  : C8.Cal P w K mg base 1 "_law_ending" (sp_law_ending K) [] := by
  refine D.cal sc_law_ending (fun vs H Q E h => ?_) (fun f cdv A outer s H vs Q E hr h => ?_)
  · obtain ⟨l, rfl, _⟩ := h
    rfl
  · obtain ⟨l, rfl, hl, q⟩ := h
    refine ⟨_,
        (pss_cons (ps_set (i := 1) sc_law_ending.nd rfl (.inl rfl) pe_int)
        (pss_cons (ps_for PassesOwn.never rfl (pi_range2 (by rfl) T.n_range (pa_cons pe_int (pa_cons (pe_callB call_len_str (by rfl) T.n_len PySem.boot_len (pa_cons (pv 0) pa_nil)) pa_nil))) (pg_name (i := 2) sc_law_ending.nd rfl (.inl rfl))
          (pss_one (ps_if (pt_cmpR op_eq (pe_ix ix_str (pv 0) (pv 2) (fun _ _ => rfl)) pe_str (nomark _))
            (pss_one (ps_set (i := 1) sc_law_ending.nd rfl (.inl rfl) (pv 2)))
            pss_nil)))
        (pss_cons (ps_if (PW.pt (pw_and (pt_cmpR op_gt (pv 1) pe_int (nomark _)) (pw_and1 (pt_cmpR op_le (pe_op op_sub (pe_callB call_len_str (by rfl) T.n_len PySem.boot_len (pa_cons (pv 0) pa_nil)) (pv 1)) pe_int (nomark _)))))
          (pss_one (ps_ret (pe_slice sl_str (pv 0) (po_some (pv 1)) po_none)))
          pss_nil)
        (pss_one (ps_ret pe_str))))), ?_⟩
    have hl' : l.length ≤ 100 := hl
    have hz : (SX.S l).length ≤ 100000 := by rw [len_S]; omega
    have hd := dot_le l
    have hst : stOf l = if 0 < dotOf l ∧ l.length - dotOf l ≤ 10 then dotOf l else l.length := rfl
    refine q_asg ev_c fun H1 e1 => ?_
    refine q_forR2 (lo := 1) (n := (l.length : Int)) (ea_cons ev_c (ea_cons (ev_lenS (ev_var rfl) (by omega)) ea_nil)) ⟨by decide, by decide, by omega, by omega⟩
      (fun i σ' H' => ∃ k : Option V, σ' = [some (.str (SX.S l)), some (.int (dotUp l (1 + i) : Nat)), k] ∧ Ex H H') (fun H2 e2 => ⟨none, rfl, e1.trans e2⟩) ?_ ?_
    · rintro i σ' H' hi ⟨k, rfl, eH⟩
      have hlt : 1 + i < l.length := by omega
      have hup : dotUp l (1 + (i + 1)) = if 1 ≤ 1 + i ∧ l[1 + i]? = some 46 then 1 + i else dotUp l (1 + i) := by
        rw [show 1 + (i + 1) = (1 + i) + 1 by omega]
        rfl
      have hget : l.getD ((1 : Int) + (i : Int)).toNat 0 = l[1 + i] := by
        rw [show ((1 : Int) + (i : Int)).toNat = 1 + i by omega, List.getD_eq_getElem?_getD, List.getElem?_eq_getElem hlt]
        rfl
      refine s_when (et_is (et_test (ev_op (ev_op (ev_var rfl) (ev_var rfl) (rv_ixS hz (at_codeS (by omega) (by omega)))) ev_c (rv_eq rfl))) ((dec_str1 (show Str.ofString "." = ⟨#[46]⟩ from e_dot)).trans (by rw [hget]))) (fun hb H2 e2 => ?_) (fun hb H2 e2 => ?_)
      · refine s_asg (v := .int (dotUp l (1 + (i + 1)) : Nat)) (ev_is (ev_var rfl) (congrArg V.int ?_)) fun H3 e3 => ⟨_, rfl, (eH.trans e2).trans e3⟩
        rw [hup, if_pos ⟨by omega, by rw [List.getElem?_eq_getElem hlt, of_decide_eq_true hb]⟩]
        omega
      · refine ⟨some (.int (1 + (i : Int))), ?_, eH.trans e2⟩
        rw [hup, if_neg fun h => of_decide_eq_false hb (by rw [List.getElem?_eq_getElem hlt] at h; exact Option.some.inj h.2)]
        rfl
    · rintro σ' H' ⟨k, rfl, eH⟩
      have hdn : dotUp l (1 + ((l.length : Int) - 1).toNat) = dotOf l := by
        unfold dotOf
        by_cases h0 : l.length = 0
        · rw [h0]
          rfl
        · rw [show 1 + ((l.length : Int) - 1).toNat = l.length by omega]
      rw [hdn]
      refine q_when (et_and (et_test (ev_op (ev_var rfl) ev_c rv_I0)) (fun _ => et_test (ev_op (ev_op (ev_lenS (ev_var rfl) (by omega)) (ev_var rfl) rv_I0) ev_c rv_I0))) (fun hb H2 e2 => ?_) (fun hb H2 e2 => ?_)
      · rw [Bool.and_eq_true, decide_eq_true_iff, decide_eq_true_iff] at hb
        rw [if_pos (by omega)] at hst
        refine s_ret (ev_is (ev_cutS (ev_var rfl) (eo_some (ev_var rfl)) eo_none hz) (congrArg V.str (cut_from l (dotOf l)))) fun H3 e3 => ?_
        have g := q H3 ((eH.trans e2).trans e3)
        rw [hst] at g
        exact g
      · rw [Bool.and_eq_false_iff, decide_eq_false_iff_not, decide_eq_false_iff_not] at hb
        rw [if_neg (by omega)] at hst
        refine s_ret (v := .str (SX.S [])) (ev_is ev_c (congrArg V.str (by decide +kernel))) fun H3 e3 => ?_
        have g := q H3 ((eH.trans e2).trans e3)
        rw [hst, List.drop_length] at g
        exact g

/-! ### law_with -/
theorem ok_law_with (D : Df K mg "_law_with" s_law_with ["longest", "name", "word"]) (T : Txt K mg) (G_law_ending : C8.Cal P w K mg base 1 "_law_ending" (sp_law_ending K) []) : C8.Cal P w K mg base 2 "_law_with" (sp_law_with K) [] := by
  refine D.cal sc_law_with (fun vs H Q E h => ?_) (fun f cdv A outer s H vs Q E hr h => ?_)
  · obtain ⟨n, l, word, rfl, _⟩ := h
    rfl
  · obtain ⟨n, l, word, rfl, hl, hw, q⟩ := h
    refine ⟨_,
        (pss_cons (ps_set (i := 3) sc_law_with.nd rfl (.inl rfl) (C8.pe_c G_law_ending hr (by decide) (by rfl) (pa_cons (pv 1) pa_nil)))
        (pss_cons (ps_set (i := 4) sc_law_with.nd rfl (.inl rfl) (pe_slice sl_str (pv 1) po_none (po_some (pe_op op_sub (pe_callB call_len_str (by rfl) T.n_len PySem.boot_len (pa_cons (pv 1) pa_nil)) (pe_callB call_len_str (by rfl) T.n_len PySem.boot_len (pa_cons (pv 3) pa_nil))))))
        (pss_cons (ps_while PassesOwn.never (PW.pt (pw_and (pt_cmpR op_gt (pe_op op_add (pe_op op_add (pe_callB call_len_str (by rfl) T.n_len PySem.boot_len (pa_cons (pv 4) pa_nil)) (pe_callB call_len_str (by rfl) T.n_len PySem.boot_len (pa_cons (pv 2) pa_nil))) (pe_callB call_len_str (by rfl) T.n_len PySem.boot_len (pa_cons (pv 3) pa_nil))) (pv 0) (nomark _)) (pw_and1 (pt_cmpR op_gt (pe_callB call_len_str (by rfl) T.n_len PySem.boot_len (pa_cons (pv 4) pa_nil)) pe_int (nomark _)))))
          (pss_one (ps_set (i := 4) sc_law_with.nd rfl (.inl rfl) (pe_slice sl_str (pv 4) po_none (po_some (pe_op op_sub (pe_callB call_len_str (by rfl) T.n_len PySem.boot_len (pa_cons (pv 4) pa_nil)) pe_int))))))
        (pss_one (ps_ret (pe_op op_add_str (pe_op op_add_str (pv 4) (pv 2)) (pv 3))))))), ?_⟩
    have hl' : l.length ≤ 100 := hl
    have hw' : word.length ≤ 100 := hw
    have hz : (SX.S l).length ≤ 100000 := by rw [len_S]; omega
    have he := end_len l
    have hs := st_le l
    refine q_asg (ev_call (ea_cons (ev_var rfl) ea_nil) (sp_en hl)) fun H1 e1 => ?_
    have hb0 : (l.length : Int) - ((l.drop (stOf l)).length : Int) = ((stOf l : Nat) : Int) := by rw [List.length_drop]; omega
    refine q_asg (ev_is (ev_cutS (ev_var rfl) eo_none (eo_some (ev_is (ev_op (ev_lenS (ev_var rfl) (by omega)) (ev_lenS (ev_var rfl) (by omega)) rv_I0) (congrArg V.int hb0))) hz) (congrArg V.str (cut_to l (stOf l)))) fun H2 e2 => ?_
    have hle : (l.drop (stOf l)).length = l.length - stOf l := List.length_drop
    refine q_while (fun m σ' H' => σ' = [some (.int (n : Int)), some (.str (SX.S l)), some (.str (SX.S word)), some (.str (SX.S (l.drop (stOf l)))), some (.str (SX.S (l.take m)))] ∧ Ex H H' ∧ m ≤ stOf l ∧ min (stOf l) (n - word.length - (l.drop (stOf l)).length) ≤ m) (stOf l) ⟨rfl, e1.trans e2, Nat.le_refl _, Nat.min_le_left _ _⟩ ?_
    rintro m σ' H' ⟨rfl, eH, hm, hmin⟩
    have hlm : (l.take m).length = m := by rw [List.length_take]; omega
    refine ⟨_, et_and (et_test (ev_op (ev_op (ev_op (ev_lenS (ev_var rfl) (by omega)) (ev_lenS (ev_var rfl) (by omega)) rv_I0) (ev_lenS (ev_var rfl) (by omega)) rv_I0) (ev_var rfl) rv_I0)) (fun _ => et_test (ev_op (ev_lenS (ev_var rfl) (by omega)) ev_c rv_I0)), fun hb H3 e3 => ?_, fun hb H3 e3 => ?_⟩
    · rw [Bool.and_eq_true, decide_eq_true_iff, decide_eq_true_iff, hlm] at hb
      refine ⟨fun σ2 H2 => σ2 = [some (.int (n : Int)), some (.str (SX.S l)), some (.str (SX.S word)), some (.str (SX.S (l.drop (stOf l)))), some (.str (SX.S (l.take (m - 1))))] ∧ Ex H H2, fun σ2 H2 h => ⟨m - 1, by omega, h.1, h.2, by omega, by omega⟩, ?_⟩
      have hb1 : ((l.take m).length : Int) - 1 = ((m - 1 : Nat) : Int) := by rw [hlm]; omega
      refine s_asg (v := .str (SX.S (l.take (m - 1)))) (ev_is (ev_cutS (ev_var rfl) eo_none (eo_some (ev_is (ev_op (ev_lenS (ev_var rfl) (by omega)) ev_c rv_I0) (congrArg V.int hb1))) (by rw [len_S]; omega)) (congrArg V.str ?_)) fun H4 e4 => ⟨rfl, (eH.trans e3).trans e4⟩
      rw [cut_to, List.take_take, Nat.min_eq_left (by omega)]
    · rw [Bool.and_eq_false_iff, decide_eq_false_iff_not, decide_eq_false_iff_not, hlm] at hb
      have hmv : l.take m = (l.take (stOf l)).take (n - word.length - (l.drop (stOf l)).length) := by
        rw [List.take_take]
        refine List.take_eq_take_iff.mpr ?_
        omega
      refine s_ret (v := .str (SX.S (ww n l word))) (ev_is (ev_op (ev_op (ev_var rfl) (ev_var rfl) (rv_addS (by rw [len_S, len_S]; omega))) (ev_var rfl) (rv_addS (by rw [SX.S_cat, len_S, len_S, List.length_append]; omega))) (congrArg V.str (by rw [SX.S_cat, SX.S_cat, hmv]; rfl))) fun H4 e4 => q H4 ((eH.trans e3).trans e4)

/-! ### law -/
theorem ok_law {f : Addr} {fd : FuncData} (F : Fun K "law" "law" s_law f fd) (T : Txt K mg) (G_ending : C8.Cal P w K mg base 2 "ending" (sp_ending K) []) (G_stem : C8.Cal P w K mg base 2 "stem" (sp_stem K) []) (G_copy_name : C8.Cal P w K mg base 4 "copy_name" (sp_copy_name K) []) (G_numbered_name : C8.Cal P w K mg base 4 "numbered_name" (sp_numbered_name K) []) (G_law_cells : C8.Cal P w K mg base 1 "_law_cells" (sp_law_cells K) []) (G_law_name : C8.Cal P w K mg base 1 "_law_name" (sp_law_name K) []) (G_law_ending : C8.Cal P w K mg base 1 "_law_ending" (sp_law_ending K) []) (G_law_with : C8.Cal P w K mg base 2 "_law_with" (sp_law_with K) []) : FnOk P w K mg base CX0 5 f fd ["script"] (spLaw K) := by
  refine F.ok sc_law (fun vs H Q E h => ?_) (fun cdv A outer s H vs Q E hr h => ?_)
  · obtain ⟨a, ns, rfl, _⟩ := h
    rfl
  · obtain ⟨a, ns, rfl, hS, hl, q⟩ := h
    refine ⟨_,
        (pss_cons (ps_set (i := 1) sc_law.nd rfl (.inl rfl) (C8.pe_c G_law_cells hr (by decide) (by rfl) (pa_cons (pv 0) (pa_cons pe_int pa_nil))))
        (pss_cons (ps_set (i := 2) sc_law.nd rfl (.inl rfl) (C8.pe_c G_law_name hr (by decide) (by rfl) (pa_cons (pv 1) pa_nil)))
        (pss_cons (ps_set (i := 3) sc_law.nd rfl (.inl rfl) (pe_op op_add pe_int (pe_op op_mod (pe_callTy call_int1 (by rfl) T.n_int (by decide +kernel) (pa_cons (pe_ix ix_list (pv 1) pe_int (fun _ _ => rfl)) pa_nil)) pe_int)))
        (pss_cons (ps_set (i := 4) sc_law.nd rfl (.inl rfl) (pe_tup (pa_cons (pe_op op_mod (pe_callTy call_int1 (by rfl) T.n_int (by decide +kernel) (pa_cons (pe_ix ix_list (pv 1) pe_int (fun _ _ => rfl)) pa_nil)) pe_int) (pa_cons (pe_op op_mod (pe_callTy call_int1 (by rfl) T.n_int (by decide +kernel) (pa_cons (pe_ix ix_list (pv 1) pe_int (fun _ _ => rfl)) pa_nil)) pe_int) pa_nil))))
        (pss_cut (ps_if (pt_cmpR op_eq (pe_op op_mod (pe_ix ix_list (pv 1) pe_int (fun _ _ => rfl)) pe_int) pe_int (nomark _))
          (pss_one (ps_set (i := 4) sc_law.nd rfl (.inl rfl) (pe_tup (pa_cons (pe_op op_sub pe_int (pe_op op_mod (pe_callTy call_int1 (by rfl) T.n_int (by decide +kernel) (pa_cons (pe_ix ix_list (pv 1) pe_int (fun _ _ => rfl)) pa_nil)) pe_int)) (pa_cons pe_int pa_nil)))))
          pss_nil)
        (pss_cons (ps_set (i := 5) sc_law.nd rfl (.inl rfl) (pe_op op_mod (pe_callTy call_int1 (by rfl) T.n_int (by decide +kernel) (pa_cons (pe_ix ix_list (pv 1) pe_int (fun _ _ => rfl)) pa_nil)) pe_int))
        (pss_cons (ps_set (i := 6) sc_law.nd rfl (.inl rfl) (pe_op op_mod (pe_callTy call_int1 (by rfl) T.n_int (by decide +kernel) (pa_cons (pe_ix ix_list (pv 1) pe_int (fun _ _ => rfl)) pa_nil)) pe_int))
        (pss_cut (ps_if (pt_cmpR op_eq (pe_op op_mod (pe_ix ix_list (pv 1) pe_int (fun _ _ => rfl)) pe_int) pe_int (nomark _))
          (pss_one (ps_set (i := 5) sc_law.nd rfl (.inl rfl) (pe_op op_sub pe_int (pv 5))))
          pss_nil)
        (pss_cons (ps_if (PW.pt (pw_or (pt_cmpR op_ne (C8.pe_c G_ending hr (by decide) (by rfl) (pa_cons (pv 2) pa_nil)) (C8.pe_c G_law_ending hr (by decide) (by rfl) (pa_cons (pv 2) pa_nil)) (nomark _)) (pw_or1 (pt_cmpR op_ne (pe_op op_add_str (C8.pe_c G_stem hr (by decide) (by rfl) (pa_cons (pv 2) pa_nil)) (C8.pe_c G_ending hr (by decide) (by rfl) (pa_cons (pv 2) pa_nil))) (pv 2) (nomark _)))))
          (pss_one (ps_ret pe_bl))
          pss_nil)
        (pss_cons (ps_set (i := 7) sc_law.nd rfl (.inl rfl) (pe_op op_add_str (pe_op op_add_str (pe_op op_add_str (pe_op op_add_str pe_str (pe_callTy call_str_int (by rfl) T.n_str (by decide +kernel) (pa_cons (pe_ix ix_tup (pv 4) pe_int (fun _ _ => rfl)) pa_nil))) pe_str) (pe_callTy call_str_int (by rfl) T.n_str (by decide +kernel) (pa_cons (pe_ix ix_tup (pv 4) pe_int (fun _ _ => rfl)) pa_nil))) pe_str))
        (pss_cons (ps_if (pt_cmpR op_gt (pv 5) pe_int (nomark _))
          (pss_one (ps_set (i := 7) sc_law.nd rfl (.inl rfl) (pe_op op_add_str (pe_op op_add_str (pv 7) pe_str) (pe_callTy call_str_int (by rfl) T.n_str (by decide +kernel) (pa_cons (pv 5) pa_nil)))))
          pss_nil)
        (pss_cons (ps_set (i := 8) sc_law.nd rfl (.inl rfl) (C8.pe_c G_copy_name hr (by decide) (by rfl) (pa_cons (pv 3) (pa_cons (pv 2) (pa_cons (pv 4) (pa_cons (pv 5) pa_nil))))))
        (pss_cons (ps_if (PW.pt (pw_or (pt_cmpR op_ne (pv 8) (C8.pe_c G_law_with hr (by decide) (by rfl) (pa_cons (pv 3) (pa_cons (pv 2) (pa_cons (pv 7) pa_nil)))) (nomark _)) (pw_or1 (pt_cmpR op_gt (pe_callB call_len_str (by rfl) T.n_len PySem.boot_len (pa_cons (pv 8) pa_nil)) (pv 3) (nomark _)))))
          (pss_one (ps_ret pe_bl))
          pss_nil)
        (pss_cons (ps_if (pt_cmpR op_ne (C8.pe_c G_numbered_name hr (by decide) (by rfl) (pa_cons (pv 3) (pa_cons (pv 2) (pa_cons pe_int pa_nil)))) (pv 2) (nomark _))
          (pss_one (ps_ret pe_bl))
          pss_nil)
        (pss_cons (ps_if (pt_cmpR op_ne (C8.pe_c G_numbered_name hr (by decide) (by rfl) (pa_cons (pv 3) (pa_cons (pv 2) (pa_cons (pe_op op_add (pv 5) pe_int) pa_nil)))) (C8.pe_c G_law_with hr (by decide) (by rfl) (pa_cons (pv 3) (pa_cons (pv 2) (pa_cons (pe_op op_add_str pe_str (pe_callTy call_str_int (by rfl) T.n_str (by decide +kernel) (pa_cons (pe_op op_add (pv 5) pe_int) pa_nil))) pa_nil)))) (nomark _))
          (pss_one (ps_ret pe_bl))
          pss_nil)
        (pss_cons (ps_if (pt_cmpR op_eq (pv 5) (pv 6) (nomark _))
          (pss_one (ps_ret pe_bl))
          pss_nil)
        (pss_cons (ps_if (pt_cmpR op_eq (C8.pe_c G_numbered_name hr (by decide) (by rfl) (pa_cons (pv 3) (pa_cons (pv 2) (pa_cons (pe_op op_add (pv 5) pe_int) pa_nil)))) (C8.pe_c G_numbered_name hr (by decide) (by rfl) (pa_cons (pv 3) (pa_cons (pv 2) (pa_cons (pe_op op_add (pv 6) pe_int) pa_nil)))) (nomark _))
          (pss_one (ps_ret pe_bl))
          pss_nil)
        (pss_one (ps_ret (pe_cmpR op_ne (pv 8) (C8.pe_c G_copy_name hr (by decide) (by rfl) (pa_cons (pv 3) (pa_cons (pv 2) (pa_cons (pv 4) (pa_cons (pv 6) pa_nil))))) (nomark _))))))))))))))))))))), ?_⟩
    refine q_asgL (el_call (ea_cons (ev_var rfl) (ea_cons ev_c ea_nil)) (sp_cells (n := 120) hS hl (by decide))) fun p1 H1 hp1 e1 h1 => ?_
    have cl := cellsOf_len ns 120
    have cnn := cellsOf_nn ns 120
    generalize cellsOf ns 120 = cs at h1 cl cnn
    have cell : ∀ {σ : L2.St} {ti : TE} {H' : Hp} {i : Int}, Ex H1 H' → σ[1]? = some (some (.ref p1)) → Ev ti σ H' (.int i) → 0 ≤ i → i < 120 → Ev (tOp (rIxL K) (tVar 1) ti) σ H' (.int (cs.getD i.toNat 0)) := fun e h0 hi i0 i1 =>
      ev_op (ev_var h0) hi (rv_ixL (sq_of (e p1 _ h1)) (at_int i0 (by omega)))
    refine q_asgP (R := fun v => ∃ l : List Nat, v = .str (SX.S l) ∧ small l) (ep_call (vs := [.ref p1]) (ea_cons (ev_var rfl) ea_nil) fun H2 e2 Q q E => ⟨p1, cs, rfl, ex_l e2 (sq_of h1), cl, fun l hl H3 e3 => q _ H3 ⟨l, rfl, hl⟩ e3⟩) ?_
    rintro _ H2 ⟨l, rfl, hsm⟩ e2
    have hl' : l.length ≤ 100 := hsm
    have hm110 := mod_bd (cs.getD (110 : Int).toNat 0) 53 (by decide)
    obtain ⟨n, hn⟩ := Int.eq_ofNat_of_zero_le (show 0 ≤ 48 + cs.getD (110 : Int).toNat 0 % 53 by omega)
    refine q_asg (v := .int (n : Int)) (ev_is (ev_op ev_c (ev_op (ev_cb (ea_cons (cell e2 rfl ev_c (by decide) (by decide)) ea_nil) rc_int) ev_c (rv_I (by show (0 : Int) < 53; decide))) rv_I0) (congrArg V.int hn)) fun H3 e3 => ?_
    have e13 := e2.trans e3
    have hm111 := mod_bd (cs.getD (111 : Int).toNat 0) 50 (by decide)
    have hm111b := mod_bd (cs.getD (111 : Int).toNat 0) 3 (by decide)
    have hm112 := mod_bd (cs.getD (112 : Int).toNat 0) 16 (by decide)
    obtain ⟨c1, hc1⟩ := Int.eq_ofNat_of_zero_le hm111.1
    obtain ⟨d1, hd1⟩ := Int.eq_ofNat_of_zero_le hm112.1
    obtain ⟨c2, hc2⟩ := Int.eq_ofNat_of_zero_le (show 0 ≤ 4294967295 - cs.getD (111 : Int).toNat 0 % 3 by omega)
    refine q_asgU (xs := [.int (c1 : Int), .int (d1 : Int)]) (eu_tup (ea_cons (ev_is (ev_op (ev_cb (ea_cons (cell e13 rfl ev_c (by decide) (by decide)) ea_nil) rc_int) ev_c (rv_I (by show (0 : Int) < 50; decide))) (congrArg V.int hc1)) (ea_cons (ev_is (ev_op (ev_cb (ea_cons (cell e13 rfl ev_c (by decide) (by decide)) ea_nil) rc_int) ev_c (rv_I (by show (0 : Int) < 16; decide))) (congrArg V.int hd1)) ea_nil)) (by show 2 ≤ 100000; decide)) fun p4 H4 hp4 e4 h4 => ?_
    have e14 := e13.trans e4
    refine q_cut (M := fun σ' H' => ∃ (p5 : Addr) (c d : Nat), σ' = [some (.ref a), some (.ref p1), some (.str (SX.S l)), some (.int (n : Int)), some (.ref p5), none, none, none, none] ∧ Ex H1 H' ∧ H' p5 = some (.tup [.int (c : Int), .int (d : Int)]) ∧ c < 10 ^ 10 ∧ d < 10 ^ 10) ?_ ?_
    · refine s_when (et_test (ev_op (ev_op (cell e14 rfl ev_c (by decide) (by decide)) ev_c (rv_I (by show (0 : Int) < 3; decide))) ev_c (rv_eq rfl))) (fun hb H5 e5 => ?_) (fun hb H5 e5 => ?_)
      · exact s_asgU (xs := [.int (c2 : Int), .int ((4294967295 : Nat) : Int)]) (eu_tup (ea_cons (ev_is (ev_op ev_c (ev_op (ev_cb (ea_cons (cell (e14.trans e5) rfl ev_c (by decide) (by decide)) ea_nil) rc_int) ev_c (rv_I (by show (0 : Int) < 3; decide))) rv_I0) (congrArg V.int hc2)) (ea_cons ev_c ea_nil)) (by show 2 ≤ 100000; decide)) fun p5 H6 hp5 e6 h6 => ⟨p5, c2, 4294967295, rfl, (e14.trans e5).trans e6, h6, by omega, by decide⟩
      · exact ⟨p4, c1, d1, rfl, e14.trans e5, e5 p4 _ h4, by omega, by omega⟩
    rintro σ' H5 ⟨p5, c, d, rfl, e15, h5, hc, hd⟩
    have hm114 := mod_bd (cs.getD (114 : Int).toNat 0) 31 (by decide)
    have hm115 := mod_bd (cs.getD (115 : Int).toNat 0) 31 (by decide)
    obtain ⟨f1, hf1⟩ := Int.eq_ofNat_of_zero_le hm114.1
    obtain ⟨s1, hs1⟩ := Int.eq_ofNat_of_zero_le hm115.1
    refine q_asg (v := .int (f1 : Int)) (ev_is (ev_op (ev_cb (ea_cons (cell e15 rfl ev_c (by decide) (by decide)) ea_nil) rc_int) ev_c (rv_I (by show (0 : Int) < 31; decide))) (congrArg V.int hf1)) fun H6 e6 => ?_
    have e16 := e15.trans e6
    refine q_asg (v := .int (s1 : Int)) (ev_is (ev_op (ev_cb (ea_cons (cell e16 rfl ev_c (by decide) (by decide)) ea_nil) rc_int) ev_c (rv_I (by show (0 : Int) < 31; decide))) (congrArg V.int hs1)) fun H7 e7 => ?_
    have e17 := e16.trans e7
    refine q_cut (M := fun σ' H' => ∃ f2 : Nat, σ' = [some (.ref a), some (.ref p1), some (.str (SX.S l)), some (.int (n : Int)), some (.ref p5), some (.int (f2 : Int)), some (.int (s1 : Int)), none, none] ∧ Ex H5 H' ∧ f2 < 10 ^ 5) ?_ ?_
    · refine s_when (et_test (ev_op (ev_op (cell e17 rfl ev_c (by decide) (by decide)) ev_c (rv_I (by show (0 : Int) < 4; decide))) ev_c (rv_eq rfl))) (fun hb H8 e8 => ?_) (fun hb H8 e8 => ?_)
      · exact s_asg (v := .int ((99990 - f1 : Nat) : Int)) (ev_is (ev_op ev_c (ev_var rfl) rv_I0) (congrArg V.int (by omega))) fun H9 e9 => ⟨99990 - f1, rfl, ((e6.trans e7).trans e8).trans e9, by omega⟩
      · exact ⟨f1, rfl, (e6.trans e7).trans e8, by omega⟩
    rintro σ' H8 ⟨f2, rfl, e58, hf2⟩
    have hp5 := e58 p5 _ h5
    have hz : l.length ≤ 100000 := by omega
    have hwk := Wk_len hc hd hf2
    have hw0 := W0_len hc hd
    have lc := TL.numL_len (k := 10) (by decide) hc
    have ld := TL.numL_len (k := 10) (by decide) hd
    have lf := TL.numL_len (k := 5) (by decide) hf2
    have hwl : (ww n l (Wk c d f2)).length ≤ n := ww_len (by omega)
    -- the ending, the stem
    refine q_when (b := false) (et_is (et_or (et_test (ev_op (ev_call (ea_cons (ev_var rfl) ea_nil) (sp_en hsm)) (ev_call (ea_cons (ev_var rfl) ea_nil) (sp_en hsm)) (rv_ne rfl))) (fun _ => et_test (ev_is (ev_op (ev_op (ev_call (ea_cons (ev_var rfl) ea_nil) (sp_sm hsm)) (ev_call (ea_cons (ev_var rfl) ea_nil) (sp_en hsm)) (rv_addS (by rw [len_S, len_S, List.length_take, List.length_drop]; omega))) (ev_var rfl) (rv_ne rfl)) (show _ = V.bl false by rw [SX.S_cat, List.take_append_drop, decide_eq_true rfl]; rfl)))) (by rw [decide_eq_true rfl]; rfl)) (fun hb => by cases hb) (fun _ H9 e9 => ?_)
    have hp9 := e9 p5 _ hp5
    -- the word
    refine q_asg (v := .str (SX.S (W0 c d))) (ev_is (ev_op (ev_op (ev_op (ev_op (ev_is ev_c (congrArg V.str (show Str.ofString " (" = SX.S [32, 40] by decide +kernel))) (ev_cb (ea_cons (ev_op (ev_var rfl) ev_c (rv_ixT (st_of hp9) (atI_nat (j := 0) rfl))) ea_nil) (rc_strN (by omega))) (rv_addS (by rw [len_S, len_S]; show 2 + _ ≤ 100000; omega))) (ev_is ev_c (congrArg V.str (show Str.ofString "-" = SX.S [45] by decide +kernel))) (rv_addS (by rw [SX.S_cat, len_S, len_S, List.length_append]; show 2 + _ + 1 ≤ 100000; omega))) (ev_cb (ea_cons (ev_op (ev_var rfl) ev_c (rv_ixT (st_of hp9) (atI_nat (j := 1) rfl))) ea_nil) (rc_strN (by omega))) (rv_addS (by rw [SX.S_cat, SX.S_cat, len_S, len_S, List.length_append, List.length_append]; show 2 + _ + 1 + _ ≤ 100000; omega))) (ev_is ev_c (congrArg V.str (show Str.ofString ")" = SX.S [41] by decide +kernel))) (rv_addS (by rw [SX.S_cat, SX.S_cat, SX.S_cat, len_S, len_S, List.length_append, List.length_append, List.length_append]; show 2 + _ + 1 + _ + 1 ≤ 100000; omega))) (congrArg V.str (by rw [SX.S_cat, SX.S_cat, SX.S_cat, SX.S_cat]; rfl))) fun H10 e10 => ?_
    refine q_ifAsg (v := .str (SX.S (Wk c d f2))) (et_test (ev_op (ev_var rfl) ev_c rv_I0)) (fun hb => ?_) (fun hb => ?_) fun H11 e11 => ?_
    · have hk0 : 0 < f2 := by have := of_decide_eq_true hb; omega
      refine ev_is (ev_op (ev_op (ev_var rfl) (ev_is ev_c (congrArg V.str (show Str.ofString " " = SX.S [32] by decide +kernel))) (rv_addS (by rw [len_S, len_S]; show _ + 1 ≤ 100000; omega))) (ev_cb (ea_cons (ev_var rfl) ea_nil) (rc_strN (by omega))) (rv_addS (by rw [SX.S_cat, len_S, len_S, List.length_append]; show _ + 1 + _ ≤ 100000; omega))) (congrArg V.str ?_)
      rw [SX.S_cat, SX.S_cat]
      unfold Wk
      rw [if_pos hk0]
    · have hk0 : ¬ 0 < f2 := by have := of_decide_eq_false hb; omega
      unfold Wk
      rw [if_neg hk0]
      rfl
    have e911 := e9.trans (e10.trans e11)
    refine q_asg (ev_call (ea_cons (ev_var rfl) (ea_cons (ev_var rfl) (ea_cons (ev_var rfl) (ea_cons (ev_var rfl) ea_nil)))) (sp_cn (st_of (e911 p5 _ hp5)) hsm hc hd hf2)) fun H12 e12 => ?_
    have e812 := e911.trans e12
    refine q_when (b := false) (et_is (et_or (et_test (ev_op (ev_var rfl) (ev_call (ea_cons (ev_var rfl) (ea_cons (ev_var rfl) (ea_cons (ev_var rfl) ea_nil))) (sp_ww hsm (by unfold small; omega))) (rv_ne rfl))) (fun _ => et_test (ev_op (ev_lenS (ev_var rfl) (by omega)) (ev_var rfl) rv_I0))) (by rw [decide_eq_true rfl, decide_eq_false (by omega)]; rfl)) (fun hb => by cases hb) (fun _ H13 e13 => ?_)
    refine q_when (b := false) (et_is (et_test (ev_op (ev_call (ea_cons (ev_var rfl) (ea_cons (ev_var rfl) (ea_cons ev_c ea_nil))) (sp_nn (k := 0) hsm (by decide))) (ev_var rfl) (rv_ne rfl))) (by rw [show numb n l 0 = l from if_pos rfl, decide_eq_true rfl]; rfl)) (fun hb => by cases hb) (fun _ H14 e14' => ?_)
    have hnw := num_word_len (k := f2 + 1) (by omega)
    have hnb : ∀ k, numb n l (k + 1) = ww n l ([32] ++ TL.numL (k + 1)) := fun k => if_neg (by omega)
    have e_sp : Str.ofString " " = SX.S [32] := by decide +kernel
    refine q_when (b := false) (et_is (et_test (ev_op (ev_call (ea_cons (ev_var rfl) (ea_cons (ev_var rfl) (ea_cons (ev_is (ev_op (ev_var rfl) ev_c rv_I0) (show _ = V.int ((f2 + 1 : Nat) : Int) from rfl)) ea_nil))) (sp_nn (k := f2 + 1) hsm (by omega))) (ev_call (ea_cons (ev_var rfl) (ea_cons (ev_var rfl) (ea_cons (ev_is (ev_op (ev_is ev_c (congrArg V.str e_sp)) (ev_cb (ea_cons (ev_is (ev_op (ev_var rfl) ev_c rv_I0) (show _ = V.int ((f2 + 1 : Nat) : Int) from rfl)) ea_nil) (rc_strN (by omega))) (rv_addS (by rw [len_S, len_S, ← List.length_append]; omega))) (congrArg V.str (SX.S_cat _ _))) ea_nil))) (sp_ww hsm (by unfold small; omega))) (rv_ne rfl))) (by rw [hnb, decide_eq_true rfl]; rfl)) (fun hb => by cases hb) (fun _ H15 e15' => ?_)
    refine q_when (et_test (ev_op (ev_var rfl) (ev_var rfl) (rv_eq rfl))) (fun _ H16 e16 => s_ret ev_c fun H17 e17 => q H17) (fun hb H16 e16 => ?_)
    have hne : f2 ≠ s1 := fun h => of_decide_eq_false hb (by rw [h])
    have hfalse : decide (V.str (SX.S (numb n l (f2 + 1))) = V.str (SX.S (numb n l (s1 + 1)))) = false := by
      rw [eq_S, hnb, hnb]
      exact decide_eq_false (num_apart (by omega))
    refine q_when (b := false) (et_is (et_test (ev_op (ev_call (ea_cons (ev_var rfl) (ea_cons (ev_var rfl) (ea_cons (ev_is (ev_op (ev_var rfl) ev_c rv_I0) (show _ = V.int ((f2 + 1 : Nat) : Int) from rfl)) ea_nil))) (sp_nn (k := f2 + 1) hsm (by omega))) (ev_call (ea_cons (ev_var rfl) (ea_cons (ev_var rfl) (ea_cons (ev_is (ev_op (ev_var rfl) ev_c rv_I0) (show _ = V.int ((s1 + 1 : Nat) : Int) from rfl)) ea_nil))) (sp_nn (k := s1 + 1) hsm (by omega))) (rv_eq rfl))) hfalse) (fun hb => by cases hb) (fun _ H17 e17 => ?_)
    have e817 := ((((e812.trans e13).trans e14').trans e15').trans e16).trans e17
    have htrue : (!decide (V.str (SX.S (ww n l (Wk c d f2))) = V.str (SX.S (ww n l (Wk c d s1))))) = true := by
      rw [eq_S, decide_eq_false (Wk_apart hne)]
      rfl
    refine s_ret (ev_op (ev_var rfl) (ev_call (ea_cons (ev_var rfl) (ea_cons (ev_var rfl) (ea_cons (ev_var rfl) (ea_cons (ev_var rfl) ea_nil)))) (sp_cn (k := s1) (st_of (e817 p5 _ hp5)) hsm hc hd (by omega))) (rv_ne rfl)) fun H18 e18 => ?_
    rw [htrue]
    exact q H18

end
/-! ### what the top has made; the law's own head -/
theorem all_mk {l : PySem.W.OpenLaw} {w : World} {K : PySem.W.Frag} {h : Heap} {mg : Str → Option Value} {fa f1 f2 f3 f4 f5 f6 f7 f8 f9 f10 f11 : Addr} (X : K.In h) (G : h.Ns mainGlobals mg) (hfa : mg "law" = some (.ref fa)) {t1 : Tok}
    {od1 an1 od2 an2 od3 an3 od4 an4 od5 an5 od6 an6 od7 an7 od8 an8 od9 an9 od10 an10 od11 an11 : Option Addr} {sl1 sl2 sl3 sl4 sl5 sl6 sl7 sl8 sl9 sl10 sl11 : Array (Option Value)} {oc1 kV1 dc1 pm1 cd1 ct1 oc2 kV2 dc2 pm2 cd2 ct2 oc3 kV3 dc3 pm3 cd3 ct3 oc4 kV4 dc4 pm4 cd4 ct4 oc5 kV5 dc5 pm5 cd5 ct5 oc6 kV6 dc6 pm6 cd6 ct6 oc7 kV7 dc7 pm7 cd7 ct7 oc8 kV8 dc8 pm8 cd8 ct8 oc9 kV9 dc9 pm9 cd9 ct9 oc10 kV10 dc10 pm10 cd10 ct10 oc11 kV11 dc11 pm11 cd11 ct11 : Value}
    (a1 : PySem.W.nsIn K mainGlobals "ending_start" = some (some (.ref f1))) (l1 : K.lookup f1 = some ⟨oc1, od1, .func (PySem.W.fnOf "ending_start" "ending_start" (defArgs s_ending_start) (defBody s_ending_start) (defScope s_ending_start) .none kV1 dc1 pm1 an1 cd1 ct1), sl1⟩) (c1 : PySem.W.codeIn K cd1 "ending_start" = true) (k1 : PySem.W.keepIn K (.ref f1) = true)
    (a2 : PySem.W.nsIn K mainGlobals "ending" = some (some (.ref f2))) (l2 : K.lookup f2 = some ⟨oc2, od2, .func (PySem.W.fnOf "ending" "ending" (defArgs s_ending) (defBody s_ending) (defScope s_ending) .none kV2 dc2 pm2 an2 cd2 ct2), sl2⟩) (c2 : PySem.W.codeIn K cd2 "ending" = true) (k2 : PySem.W.keepIn K (.ref f2) = true)
    (a3 : PySem.W.nsIn K mainGlobals "stem" = some (some (.ref f3))) (l3 : K.lookup f3 = some ⟨oc3, od3, .func (PySem.W.fnOf "stem" "stem" (defArgs s_stem) (defBody s_stem) (defScope s_stem) .none kV3 dc3 pm3 an3 cd3 ct3), sl3⟩) (c3 : PySem.W.codeIn K cd3 "stem" = true) (k3 : PySem.W.keepIn K (.ref f3) = true)
    (a4 : PySem.W.nsIn K mainGlobals "with_word" = some (some (.ref f4))) (l4 : K.lookup f4 = some ⟨oc4, od4, .func (PySem.W.fnOf "with_word" "with_word" (defArgs s_with_word) (defBody s_with_word) (defScope s_with_word) .none kV4 dc4 pm4 an4 cd4 ct4), sl4⟩) (c4 : PySem.W.codeIn K cd4 "with_word" = true) (k4 : PySem.W.keepIn K (.ref f4) = true)
    (a5 : PySem.W.nsIn K mainGlobals "copy_name" = some (some (.ref f5))) (l5 : K.lookup f5 = some ⟨oc5, od5, .func (PySem.W.fnOf "copy_name" "copy_name" (defArgs s_copy_name) (defBody s_copy_name) (defScope s_copy_name) .none kV5 dc5 pm5 an5 cd5 ct5), sl5⟩) (c5 : PySem.W.codeIn K cd5 "copy_name" = true) (k5 : PySem.W.keepIn K (.ref f5) = true)
    (a6 : PySem.W.nsIn K mainGlobals "numbered_name" = some (some (.ref f6))) (l6 : K.lookup f6 = some ⟨oc6, od6, .func (PySem.W.fnOf "numbered_name" "numbered_name" (defArgs s_numbered_name) (defBody s_numbered_name) (defScope s_numbered_name) .none kV6 dc6 pm6 an6 cd6 ct6), sl6⟩) (c6 : PySem.W.codeIn K cd6 "numbered_name" = true) (k6 : PySem.W.keepIn K (.ref f6) = true)
    (a7 : PySem.W.nsIn K mainGlobals "_law_cells" = some (some (.ref f7))) (l7 : K.lookup f7 = some ⟨oc7, od7, .func (PySem.W.fnOf "_law_cells" "_law_cells" (defArgs s_law_cells) (defBody s_law_cells) (defScope s_law_cells) .none kV7 dc7 pm7 an7 cd7 ct7), sl7⟩) (c7 : PySem.W.codeIn K cd7 "_law_cells" = true) (k7 : PySem.W.keepIn K (.ref f7) = true)
    (a8 : PySem.W.nsIn K mainGlobals "_law_name" = some (some (.ref f8))) (l8 : K.lookup f8 = some ⟨oc8, od8, .func (PySem.W.fnOf "_law_name" "_law_name" (defArgs s_law_name) (defBody s_law_name) (defScope s_law_name) .none kV8 dc8 pm8 an8 cd8 ct8), sl8⟩) (c8 : PySem.W.codeIn K cd8 "_law_name" = true) (k8 : PySem.W.keepIn K (.ref f8) = true)
    (a9 : PySem.W.nsIn K mainGlobals "_law_ending" = some (some (.ref f9))) (l9 : K.lookup f9 = some ⟨oc9, od9, .func (PySem.W.fnOf "_law_ending" "_law_ending" (defArgs s_law_ending) (defBody s_law_ending) (defScope s_law_ending) .none kV9 dc9 pm9 an9 cd9 ct9), sl9⟩) (c9 : PySem.W.codeIn K cd9 "_law_ending" = true) (k9 : PySem.W.keepIn K (.ref f9) = true)
    (a10 : PySem.W.nsIn K mainGlobals "_law_with" = some (some (.ref f10))) (l10 : K.lookup f10 = some ⟨oc10, od10, .func (PySem.W.fnOf "_law_with" "_law_with" (defArgs s_law_with) (defBody s_law_with) (defScope s_law_with) .none kV10 dc10 pm10 an10 cd10 ct10), sl10⟩) (c10 : PySem.W.codeIn K cd10 "_law_with" = true) (k10 : PySem.W.keepIn K (.ref f10) = true)
    (a11 : PySem.W.nsIn K mainGlobals "law" = some (some (.ref f11))) (l11 : K.lookup f11 = some ⟨oc11, od11, .func (PySem.W.fnOf "law" "law" (defArgs s_law) (defBody s_law) (defScope s_law) .none kV11 dc11 pm11 an11 cd11 ct11), sl11⟩) (c11 : PySem.W.codeIn K cd11 "law" = true) (k11 : PySem.W.keepIn K (.ref f11) = true)
    (z1 : PySem.W.nsIn K mainGlobals "int" = some none) (z2 : PySem.W.nsIn K mainGlobals "len" = some none) (z3 : PySem.W.nsIn K mainGlobals "max" = some none) (z4 : PySem.W.nsIn K mainGlobals "range" = some none) (z5 : PySem.W.nsIn K mainGlobals "str" = some none) (g1 : PySem.W.nsIn K mainGlobals "MOST_ENDING" = some (some (.int 10 t1))) :
    ∃ fd : FuncData, (∀ (s : Shared) (v : Value), BindsTo s fd ⟨[v], []⟩ [("script", v)]) ∧ ∀ base : Heap, K.In base → base.Ns mainGlobals mg → FnOk l.prog w K mg base CX0 5 fa fd ["script"] (spLaw K) := by
  have e := hfa.symm.trans (PySem.W.mg_of X G a11)
  cases e
  have T : Txt K mg := ⟨PySem.W.mg_none_of X G z1, PySem.W.mg_none_of X G z2, PySem.W.mg_none_of X G z3, PySem.W.mg_none_of X G z4, PySem.W.mg_none_of X G z5, ⟨_, PySem.W.mg_of X G g1, ⟨_, rfl⟩⟩⟩
  have F1 := fun_mk (st := s_ending_start) l1 c1 k1
  have D1 : Df K mg "ending_start" s_ending_start ["name"] := ⟨_, _, F1, PySem.W.mg_of X G a1, F1.binds (ps := ["name"]) fun _ _ _ _ _ _ us hl => match us, hl with | [_], _ => rfl⟩
  have F2 := fun_mk (st := s_ending) l2 c2 k2
  have D2 : Df K mg "ending" s_ending ["name"] := ⟨_, _, F2, PySem.W.mg_of X G a2, F2.binds (ps := ["name"]) fun _ _ _ _ _ _ us hl => match us, hl with | [_], _ => rfl⟩
  have F3 := fun_mk (st := s_stem) l3 c3 k3
  have D3 : Df K mg "stem" s_stem ["name"] := ⟨_, _, F3, PySem.W.mg_of X G a3, F3.binds (ps := ["name"]) fun _ _ _ _ _ _ us hl => match us, hl with | [_], _ => rfl⟩
  have F4 := fun_mk (st := s_with_word) l4 c4 k4
  have D4 : Df K mg "with_word" s_with_word ["longest", "name", "word"] := ⟨_, _, F4, PySem.W.mg_of X G a4, F4.binds (ps := ["longest", "name", "word"]) fun _ _ _ _ _ _ us hl => match us, hl with | [_, _, _], _ => rfl⟩
  have F5 := fun_mk (st := s_copy_name) l5 c5 k5
  have D5 : Df K mg "copy_name" s_copy_name ["longest", "name", "number", "k"] := ⟨_, _, F5, PySem.W.mg_of X G a5, F5.binds (ps := ["longest", "name", "number", "k"]) fun _ _ _ _ _ _ us hl => match us, hl with | [_, _, _, _], _ => rfl⟩
  have F6 := fun_mk (st := s_numbered_name) l6 c6 k6
  have D6 : Df K mg "numbered_name" s_numbered_name ["longest", "name", "k"] := ⟨_, _, F6, PySem.W.mg_of X G a6, F6.binds (ps := ["longest", "name", "k"]) fun _ _ _ _ _ _ us hl => match us, hl with | [_, _, _], _ => rfl⟩
  have F7 := fun_mk (st := s_law_cells) l7 c7 k7
  have D7 : Df K mg "_law_cells" s_law_cells ["script", "count"] := ⟨_, _, F7, PySem.W.mg_of X G a7, F7.binds (ps := ["script", "count"]) fun _ _ _ _ _ _ us hl => match us, hl with | [_, _], _ => rfl⟩
  have F8 := fun_mk (st := s_law_name) l8 c8 k8
  have D8 : Df K mg "_law_name" s_law_name ["cells"] := ⟨_, _, F8, PySem.W.mg_of X G a8, F8.binds (ps := ["cells"]) fun _ _ _ _ _ _ us hl => match us, hl with | [_], _ => rfl⟩
  have F9 := fun_mk (st := s_law_ending) l9 c9 k9
  have D9 : Df K mg "_law_ending" s_law_ending ["name"] := ⟨_, _, F9, PySem.W.mg_of X G a9, F9.binds (ps := ["name"]) fun _ _ _ _ _ _ us hl => match us, hl with | [_], _ => rfl⟩
  have F10 := fun_mk (st := s_law_with) l10 c10 k10
  have D10 : Df K mg "_law_with" s_law_with ["longest", "name", "word"] := ⟨_, _, F10, PySem.W.mg_of X G a10, F10.binds (ps := ["longest", "name", "word"]) fun _ _ _ _ _ _ us hl => match us, hl with | [_, _, _], _ => rfl⟩
  have F11 := fun_mk (st := s_law) l11 c11 k11
  refine ⟨PySem.W.fnOf "law" "law" (defArgs s_law) (defBody s_law) (defScope s_law) .none kV11 dc11 pm11 an11 cd11 ct11, fun s v => .of_eq rfl, fun base _ _ => ?_⟩
  have G_ending_start := ok_ending_start (P := l.prog) (w := w) (base := base) D1 T 
  have G_ending := ok_ending (P := l.prog) (w := w) (base := base) D2 T G_ending_start
  have G_stem := ok_stem (P := l.prog) (w := w) (base := base) D3 T G_ending_start
  have G_with_word := ok_with_word (P := l.prog) (w := w) (base := base) D4 T G_ending G_stem
  have G_copy_name := ok_copy_name (P := l.prog) (w := w) (base := base) D5 T G_with_word
  have G_numbered_name := ok_numbered_name (P := l.prog) (w := w) (base := base) D6 T G_with_word
  have G_law_cells := ok_law_cells (P := l.prog) (w := w) (base := base) D7 T 
  have G_law_name := ok_law_name (P := l.prog) (w := w) (base := base) D8 T 
  have G_law_ending := ok_law_ending (P := l.prog) (w := w) (base := base) D9 T 
  have G_law_with := ok_law_with (P := l.prog) (w := w) (base := base) D10 T G_law_ending
  exact ok_law F11 T G_ending G_stem G_copy_name G_numbered_name G_law_cells G_law_name G_law_ending G_law_with
end K04
open PySem PySem.W PyProof.Rows
set_option maxHeartbeats 0 in
theorem PySem.Challenge.cw_foldkeep_k04_names_of_copies_holds : PySem.Challenge.rw_foldkeep_k04_names_of_copies.Holds := by
  w_on; o_law; k_head; (case hw => w_witness2)
  k_fill
  refine L2.walk_of (l := PySem.Challenge.rw_foldkeep_k04_names_of_copies) (n := 63) (k := 5) (x := "script") (CX := fun _ => L2.CX0) (sp := fun w => Lw.spLaw _) rfl (by decide) rfl ⟨rfl, by decide, by decide⟩ (fun w h Y => PySem.W.kIn_of Y) ?F (fun _ _ a ns hl _ hS => ⟨a, ns, rfl, hS, hl, fun _ => rfl⟩) (fun _ _ _ _ _ h => h)
  case F =>
    intro w mg fa h KX G hmg
    refine' K04.all_mk KX G hmg ?a1 ?l1 ?c1 ?k1 ?a2 ?l2 ?c2 ?k2 ?a3 ?l3 ?c3 ?k3 ?a4 ?l4 ?c4 ?k4 ?a5 ?l5 ?c5 ?k5 ?a6 ?l6 ?c6 ?k6 ?a7 ?l7 ?c7 ?k7 ?a8 ?l8 ?c8 ?k8 ?a9 ?l9 ?c9 ?k9 ?a10 ?l10 ?c10 ?k10 ?a11 ?l11 ?c11 ?k11 ?z1 ?z2 ?z3 ?z4 ?z5 ?g1
    (case a1 => k_is); (case l1 => k_is); (case c1 => k_is); (case k1 => k_is)
    (case a2 => k_is); (case l2 => k_is); (case c2 => k_is); (case k2 => k_is)
    (case a3 => k_is); (case l3 => k_is); (case c3 => k_is); (case k3 => k_is)
    (case a4 => k_is); (case l4 => k_is); (case c4 => k_is); (case k4 => k_is)
    (case a5 => k_is); (case l5 => k_is); (case c5 => k_is); (case k5 => k_is)
    (case a6 => k_is); (case l6 => k_is); (case c6 => k_is); (case k6 => k_is)
    (case a7 => k_is); (case l7 => k_is); (case c7 => k_is); (case k7 => k_is)
    (case a8 => k_is); (case l8 => k_is); (case c8 => k_is); (case k8 => k_is)
    (case a9 => k_is); (case l9 => k_is); (case c9 => k_is); (case k9 => k_is)
    (case a10 => k_is); (case l10 => k_is); (case c10 => k_is); (case k10 => k_is)
    (case a11 => k_is); (case l11 => k_is); (case c11 => k_is); (case k11 => k_is)
    (case z1 => k_is); (case z2 => k_is); (case z3 => k_is); (case z4 => k_is)
    (case z5 => k_is); (case g1 => k_is)
#print axioms PySem.Challenge.cw_foldkeep_k04_names_of_copies_holds
