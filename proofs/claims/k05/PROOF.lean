import PyProof.Rows.All
import Wide.All
import OpenK.AllK
import Wide.FinOn
import HandS.ForMost
import HandS.Codes
import HandS.Evl
import HandS.IsInst
import HandS.FStr
import HandS.StrMore
import KE.DataEq
import HandS.SetKeys
import HandS.MakeKwOnly
import HandS.SetFor
import HandS.Strs
import HandS.Conv
import PySem.Challenge.RW_foldkeep_k05_patterns
set_option Elab.async false
set_option linter.all false
set_option maxRecDepth 100000
set_option maxHeartbeats 4000000
/-! what the laws' helpers share: values, texts, cells -/
namespace Lw
open PySem PySem.Spec PyProof.Rows L2 Evl

/-! ### small readings -/
section
variable {K : PySem.W.Frag} {σ : L2.St} {H H' : Hp} {ta tb te tx : TE} {t u : TT} {x y z v : V}
theorem rc_int {i : Int} : RC (fun xs H Q => (∃ i, xs = [V.int i] ∧ Q (V.int i) H) ∨ ∃ k, xs = [V.bl k] ∧ Q (V.int (if k = true then 1 else 0)) H) [.int i] H (.int i) :=
  fun H1 _ _ q => Or.inl ⟨i, rfl, q H1 (Ex.refl H1)⟩
theorem rc_lenStr {a : Str} (h : a.length ≤ 100000) : RC (fun xs H Q => ∃ z : Str, xs = [V.str z] ∧ z.length ≤ sizeLine ∧ Q (V.int z.length) H) [.str a] H (.int a.length) :=
  fun H1 _ _ q => ⟨a, rfl, sz_of h, q H1 (Ex.refl H1)⟩
theorem rc_ord {a : Str} (h : a.length = 1) : RC (fun xs H Q => ∃ x : Str, xs = [V.str x] ∧ x.length = 1 ∧ Q (V.int (x.cps.getD 0 0 : Nat)) H) [.str a] H (.int (a.cps.getD 0 0 : Nat)) :=
  fun H1 _ _ q => ⟨a, rfl, h, q H1 (Ex.refl H1)⟩
theorem rv_addS {a b : Str} (h : a.length + b.length ≤ 100000) : RV (fun x y H Q => ∃ i j, x = .str i ∧ y = .str j ∧ i.length + j.length ≤ sizeLine ∧ Q (.str (i ++ j)) H) (.str a) (.str b) H (.str (a ++ b)) :=
  fun H1 _ _ q => ⟨a, b, rfl, rfl, sz_of h, q H1 (Ex.refl H1)⟩
theorem rv_inSign {c : Nat} {a z : Str} (e : a = ⟨#[c]⟩) : RV (fun x y H Q => ∃ (c : Nat) (z : Str), x = .str ⟨#[c]⟩ ∧ y = .str z ∧ Q (.bl (decide (c ∈ z.cps.toList))) H) (.str a) (.str z) H (.bl (decide (c ∈ z.cps.toList))) :=
  fun H1 _ _ q => ⟨c, z, by rw [e], rfl, q H1 (Ex.refl H1)⟩
/-- a text times a small number -/
def rMulStr : R2 := fun x y H Q => ∃ (a : Str) (n : Int), x = .str a ∧ y = .int n ∧ 1 ≤ n ∧ n ≤ 20000 ∧ a.length ≤ 200 ∧ Q (.str (Txt.mul a n)) H
theorem op_mul_str {X : Cx} : OpR X (binaryOp .Mult) rMulStr := by
  intro pins s σ H x y v u Q I rx ry h
  obtain ⟨a, n, rfl, rfl, h1, h2, h3, q⟩ := h
  obtain ⟨t, rfl⟩ := rx
  obtain ⟨t', rfl⟩ := ry
  refine SB.mul (n := n) ⟨?_, fun _ _ => ?_, fun _ _ => ?_⟩ fun t' k => ⟨.str (Txt.mul a n), H, I.tok _, ⟨_, rfl⟩, q⟩
  · rw [decide_eq_false (by omega), decide_eq_false (by omega)]
    rfl
  · have : (2 ^ 63 - 1) / n ≥ 200 := by
      refine (Int.le_ediv_iff_mul_le (by omega)).mpr ?_
      omega
    omega
  · have e : a.length * n.toNat ≤ 200 * 20000 := Nat.mul_le_mul h3 (by omega)
    exact decide_eq_false (by show ¬ a.length * n.toNat > 2 ^ 24; omega)
theorem rv_mulStr {a : Str} {n : Int} (h1 : 1 ≤ n) (h2 : n ≤ 20000) (h3 : a.length ≤ 200) : RV rMulStr (.str a) (.int n) H (.str (Txt.mul a n)) :=
  fun H1 _ _ q => ⟨a, n, rfl, rfl, h1, h2, h3, q H1 (Ex.refl H1)⟩
theorem rc_max2 {i j : Int} : RC (fun xs H Q => ∃ i j : Int, xs = [V.int i, V.int j] ∧ Q (V.int (if j > i then j else i)) H) [.int i, .int j] H (.int (if j > i then j else i)) :=
  fun H1 _ _ q => ⟨i, j, rfl, q H1 (Ex.refl H1)⟩
theorem rc_min2 {i j : Int} : RC (fun xs H Q => ∃ i j : Int, xs = [V.int i, V.int j] ∧ Q (V.int (if j < i then j else i)) H) [.int i, .int j] H (.int (if j < i then j else i)) :=
  fun H1 _ _ q => ⟨i, j, rfl, q H1 (Ex.refl H1)⟩
theorem et_yes : EvT tYes σ H true := fun H1 _ _ q => q H1 (Ex.refl H1)
/-- a slice of a text -/
theorem ev_cutS {tl th : TO} {z : Str} {lo hi : Option Int} (h : Ev te σ H (.str z)) (h1 : EvO tl σ H lo) (h2 : EvO th σ H hi) (hz : z.length ≤ 100000) : Ev (tSl rSlS te tl th) σ H (.str (cutS z lo hi)) := fun H1 e Q q =>
  h H1 e _ fun H2 e2 => h1 H2 (e.trans e2) _ fun H3 e3 => h2 H3 ((e.trans e2).trans e3) _ fun H4 e4 => ⟨z, rfl, sz_of hz, q H4 ((e2.trans e3).trans e4)⟩
/-- sep.join(a new list of texts) -/
theorem ev_joinL {a : Str} {ys : List Str} (ho : Ev ta σ H (.str a)) (h : EvL te σ H (ys.map V.str)) (hz : (ys.map (·.length)).sum + ys.length * a.length ≤ 16777216) :
    Ev (tM1 (fun x xs H Q => ∃ a p, ∃ ys : List Str, x = .str a ∧ xs = [.ref p] ∧ (SqL K H p (ys.map V.str) ∨ SqT K H p (ys.map V.str)) ∧ (ys.map (·.length)).sum + ys.length * a.length ≤ 16777216 ∧ Q (.str (Txt.join a ys)) H) ta te) σ H (.str (Txt.join a ys)) := fun H1 e Q q =>
  ho H1 e _ fun H2 e2 => ⟨⟨a, rfl⟩, h H2 (e.trans e2) _ fun p H3 _ e3 h3 => ⟨a, p, ys, rfl, rfl, .inl (sq_of h3), hz, q H3 (e2.trans e3)⟩⟩
/-- sep.join(a list of texts that stands) -/
theorem ev_joinS {a : Str} {p : Addr} {ys : List Str} (ho : Ev ta σ H (.str a)) (h : Ev te σ H (.ref p)) (hp : SqL K H p (ys.map V.str) ∨ SqT K H p (ys.map V.str)) (hz : (ys.map (·.length)).sum + ys.length * a.length ≤ 16777216) :
    Ev (tM1 (fun x xs H Q => ∃ a p, ∃ ys : List Str, x = .str a ∧ xs = [.ref p] ∧ (SqL K H p (ys.map V.str) ∨ SqT K H p (ys.map V.str)) ∧ (ys.map (·.length)).sum + ys.length * a.length ≤ 16777216 ∧ Q (.str (Txt.join a ys)) H) ta te) σ H (.str (Txt.join a ys)) := fun H1 e Q q =>
  ho H1 e _ fun H2 e2 => ⟨⟨a, rfl⟩, h H2 (e.trans e2) _ fun H3 e3 => ⟨a, p, ys, rfl, rfl, hp.elim (fun h => .inl (ex_l ((e.trans e2).trans e3) h)) (fun h => .inr (ex_t ((e.trans e2).trans e3) h)), hz, q H3 (e2.trans e3)⟩⟩
/-- the second operand told once the first is there -/
theorem ev_opV2 {r : R2} (ha : Ev ta σ H x) (hb : ∀ H1, Ex H H1 → Ev tb σ H1 y) (hr : RV r x y H z) : Ev (tOp r ta tb) σ H z := fun H1 e Q q =>
  ha H1 e _ fun H2 e2 => hb H2 (e.trans e2) H2 (Ex.refl H2) _ fun H3 e3 => hr H3 ((e.trans e2).trans e3) Q fun H4 e4 => q H4 ((e2.trans e3).trans e4)
theorem ev_chain {r r' : R2} {tc : TE} {a b : Bool} (ha : Ev ta σ H x) (hb : Ev tb σ H y) (hr : RV r x y H (.bl a)) (hc : a = true → Ev tc σ H z) (hr' : a = true → RV r' y z H (.bl b)) : Ev (tChain r r' ta tb tc) σ H (.bl (a && b)) := fun H1 e Q q =>
  ha H1 e _ fun H2 e2 => hb H2 (e.trans e2) _ fun H3 e3 => hr H3 ((e.trans e2).trans e3) _ fun H4 e4 => ⟨a, rfl, by
    cases a with
    | true =>
      show tc σ H4 _
      exact hc rfl H4 (((e.trans e2).trans e3).trans e4) _ fun H5 e5 => hr' rfl H5 ((((e.trans e2).trans e3).trans e4).trans e5) Q fun H6 e6 => q H6 ((((e2.trans e3).trans e4).trans e5).trans e6)
    | false =>
      show Q (.bl false) H4
      exact q H4 ((e2.trans e3).trans e4)⟩
/-- some value of which R holds -/
def EvP (te : TE) (σ : L2.St) (H : Hp) (R : V → Prop) : Prop := ∀ H1, Ex H H1 → ∀ Q : VK, (∀ v H2, R v → Ex H1 H2 → Q v H2) → te σ H1 Q
def SpP (sp : Sp) (vs : List V) (H : Hp) (R : V → Prop) : Prop := ∀ H1, Ex H H1 → ∀ Q : VK, (∀ v H2, R v → Ex H1 H2 → Q v H2) → ∀ E : XK, sp vs H1 Q E
theorem s_asgP {R : V → Prop} {D : Ends} {i : Nat} (h : EvP te σ H R) (k : ∀ v H1, R v → Ex H H1 → D.nx (σ.set i (some v)) H1) : tAsg te (gName i) D σ H := h H (Ex.refl H) _ fun v H1 r e => k v H1 r e
theorem q_asgP {R : V → Prop} {D : Ends} {tz : TS} {i : Nat} (h : EvP te σ H R) (k : ∀ v H1, R v → Ex H H1 → tz D (σ.set i (some v)) H1) : tSeq (tAsg te (gName i)) tz D σ H := s_asgP (D := { D with nx := tz D }) h k
theorem ep_call {R : V → Prop} {sp : Sp} {dvs vs : List V} {E : XK} {ta : TA} (h : EvA ta σ H vs) (hs : SpP sp (vs ++ dvs) H R) : EvP (tCall sp dvs E ta) σ H R := fun H1 e Q q =>
  h H1 e _ fun H2 e2 => hs H2 (e.trans e2) Q (fun v H3 r e3 => q v H3 r (e2.trans e3)) E
/-- of one argument, a new list -/
theorem ep_callL {R : V → Prop} {sp : Sp} {dvs xs : List V} {E : XK} (h : EvL te σ H xs) (hs : ∀ p H1, Ex H H1 → H1 p = some (.lst xs) → SpP sp (.ref p :: dvs) H1 R) : EvP (tCall sp dvs E (tCons te tNil)) σ H R := fun H1 e Q q =>
  h H1 e _ fun p H2 _ e2 h2 => hs p H2 (e.trans e2) h2 H2 (Ex.refl H2) Q (fun v H3 r e3 => q v H3 r (e2.trans e3)) E
theorem at_int {ns : List Int} {i : Int} (h0 : 0 ≤ i) (h : i < (ns.length : Int)) : atI (ns.map V.int) i = some (.int (ns.getD i.toNat 0)) := by
  obtain ⟨j, rfl⟩ := Int.eq_ofNat_of_zero_le h0
  refine atI_nat ?_
  have hj : j < ns.length := by omega
  rw [List.getElem?_map, List.getElem?_eq_getElem hj, Int.toNat_natCast, List.getD_eq_getElem?_getD, List.getElem?_eq_getElem hj]
  rfl
end

/-! ### loops over texts -/
section
variable {σ : L2.St} {H H' : Hp} {te : TE} {D : Ends} {tu tz : TS} {g : TG}
theorem for_str {x : Str} {tb : TS} (Pv : Nat → L2.St → Hp → Prop) (h0 : Pv 0 σ H)
    (hs : ∀ i c σ H, x.cps.toList[i]? = some c → Pv i σ H → g (.str ⟨#[c]⟩) σ H fun σ2 H2 => tb { D with nx := Pv (i + 1), ct := Pv (i + 1), bk := D.nx } σ2 H2) (hd : ∀ σ H, Pv x.cps.size σ H → D.nx σ H) :
    ∃ W : Nat → Nat → L2.St → Hp → Prop, (∃ m, W 0 m σ H) ∧ ∀ i m σ H, W i m σ H →
      ((Its x).stop i H ∧ D.nx σ H) ∨ ((Its x).go i H ∧ ∃ N : L2.St → Hp → Prop, (∀ σ' H', N σ' H' → ∃ m', m' < m ∧ W (i + 1) m' σ' H') ∧ ∀ y H', (Its x).yld i H y H' → g y σ H' fun σ2 H2 => tb { D with nx := N, ct := N, bk := D.nx } σ2 H2) := by
  refine ⟨fun i m σ H => m = x.cps.size - i ∧ i ≤ x.cps.size ∧ Pv i σ H, ⟨x.cps.size, by simp, Nat.zero_le _, h0⟩, ?_⟩
  rintro i m σ H ⟨rfl, hi, p⟩
  by_cases hlt : i < x.cps.size
  · refine .inr ⟨hlt, Pv (i + 1), fun σ' H' p' => ⟨x.cps.size - (i + 1), by omega, rfl, hlt, p'⟩, fun y H' q => ?_⟩
    obtain ⟨rfl, c, hc, rfl⟩ := q
    exact hs i c σ _ (by rw [Array.getElem?_toList]; exact hc) p
  · have e : i = x.cps.size := by omega
    subst e
    exact .inl ⟨Nat.le_refl _, hd σ H p⟩
theorem s_forS {x : Str} {j : Nat} (h : Ev te σ H (.str x)) (Pv : Nat → L2.St → Hp → Prop) (h0 : ∀ H1, Ex H H1 → Pv 0 σ H1)
    (hs : ∀ i c σ' H', x.cps.toList[i]? = some c → Pv i σ' H' → tu { D with nx := Pv (i + 1), ct := Pv (i + 1), bk := D.nx } (σ'.set j (some (.str ⟨#[c]⟩))) H') (hd : ∀ σ' H', Pv x.cps.size σ' H' → D.nx σ' H') : tFor (iStr te) (gName j) tu D σ H :=
  h H (Ex.refl H) _ fun H1 e => ⟨x, rfl, for_str Pv (h0 H1 e) hs hd⟩
theorem q_forS {x : Str} {j : Nat} (h : Ev te σ H (.str x)) (Pv : Nat → L2.St → Hp → Prop) (h0 : ∀ H1, Ex H H1 → Pv 0 σ H1)
    (hs : ∀ i c σ' H', x.cps.toList[i]? = some c → Pv i σ' H' → tu { D with nx := Pv (i + 1), ct := Pv (i + 1), bk := tz D } (σ'.set j (some (.str ⟨#[c]⟩))) H') (hd : ∀ σ' H', Pv x.cps.size σ' H' → tz D σ' H') : tSeq (tFor (iStr te) (gName j) tu) tz D σ H :=
  s_forS (D := { D with nx := tz D }) h Pv h0 hs hd
end
theorem at_str {xs : List Str} {i : Int} (h0 : 0 ≤ i) (h : i < (xs.length : Int)) : atI (xs.map V.str) i = some (.str (xs.getD i.toNat Str.empty)) := by
  obtain ⟨j, rfl⟩ := Int.eq_ofNat_of_zero_le h0
  refine atI_nat ?_
  have hj : j < xs.length := by omega
  rw [List.getElem?_map, List.getElem?_eq_getElem hj, Int.toNat_natCast, List.getD_eq_getElem?_getD, List.getElem?_eq_getElem hj]
  rfl
theorem memD {α : Type} {xs : List α} {d : α} {j : Nat} (h : j < xs.length) : xs.getD j d ∈ xs := by
  rw [List.getD_eq_getElem?_getD, List.getElem?_eq_getElem h]
  exact List.getElem_mem h
theorem dec_str1 {c d : Nat} {a : Str} (e : a = ⟨#[d]⟩) : decide (V.str ⟨#[c]⟩ = V.str a) = decide (c = d) := by
  rw [e, Bool.eq_iff_iff, decide_eq_true_iff, decide_eq_true_iff]
  constructor
  · intro h
    have h1 : (⟨#[c]⟩ : Str) = ⟨#[d]⟩ := V.str.inj h
    have h2 : (#[c] : Array Nat) = #[d] := congrArg Str.cps h1
    have h3 : ([c] : List Nat) = [d] := congrArg Array.toList h2
    exact (List.cons.inj h3).1
  · intro h
    rw [h]
theorem all_take_succ {p : Nat → Bool} {xs : List Nat} {i c : Nat} (h : xs[i]? = some c) : (xs.take (i + 1)).all p = ((xs.take i).all p && p c) := by
  rw [List.take_add_one, h, List.all_append]
  simp

/-- a new tuple is handed back -/
def RetU (xs : List V) (H : Hp) (Q : VK) : Prop := ∀ p H2, H p = none → Ex H H2 → H2 p = some (.tup xs) → Q (.ref p) H2
def SpU (sp : Sp) (vs : List V) (H : Hp) (xs : List V) : Prop := ∀ H1, Ex H H1 → ∀ Q : VK, (∀ p H2, H1 p = none → Ex H1 H2 → H2 p = some (.tup xs) → Q (.ref p) H2) → ∀ E : XK, sp vs H1 Q E
section
variable {K : PySem.W.Frag} {σ : L2.St} {H H' : Hp} {te : TE} {D : Ends} {tu tz : TS} {g : TG}
theorem eu_call {sp : Sp} {dvs vs xs : List V} {E : XK} {ta : TA} (h : EvA ta σ H vs) (hs : SpU sp (vs ++ dvs) H xs) : EvU (tCall sp dvs E ta) σ H xs := fun H1 e Q q =>
  h H1 e _ fun H2 e2 => hs H2 (e.trans e2) Q (fun p H3 hp e3 h3 => q p H3 (fresh_back e2 hp) (e2.trans e3) h3) E
/-- a for over a new tuple -/
theorem s_forNT {xs : List V} {tl : TE} {j : Nat} (h : EvU tl σ H xs) (Pv : Addr → Nat → L2.St → Hp → Prop) (h0 : ∀ p H1, H p = none → Ex H H1 → H1 p = some (.tup xs) → Pv p 0 σ H1) (hl : ∀ p i σ' H', i ≤ xs.length → Pv p i σ' H' → SqT K H' p xs)
    (hs : ∀ p i x σ' H', xs[i]? = some x → Pv p i σ' H' → tu { D with nx := Pv p (i + 1), ct := Pv p (i + 1), bk := D.nx } (σ'.set j (some x)) H') (hd : ∀ p σ' H', Pv p xs.length σ' H' → D.nx σ' H') : tFor (iTup K tl) (gName j) tu D σ H :=
  h H (Ex.refl H) _ fun p H1 hp e h1 => ⟨p, rfl, ⟨xs, st_of h1⟩, for_tup (Pv p) (h0 p H1 hp e h1) (hl p) (hs p) (hd p)⟩
theorem q_forNT {xs : List V} {tl : TE} {j : Nat} (h : EvU tl σ H xs) (Pv : Addr → Nat → L2.St → Hp → Prop) (h0 : ∀ p H1, H p = none → Ex H H1 → H1 p = some (.tup xs) → Pv p 0 σ H1) (hl : ∀ p i σ' H', i ≤ xs.length → Pv p i σ' H' → SqT K H' p xs)
    (hs : ∀ p i x σ' H', xs[i]? = some x → Pv p i σ' H' → tu { D with nx := Pv p (i + 1), ct := Pv p (i + 1), bk := tz D } (σ'.set j (some x)) H') (hd : ∀ p σ' H', Pv p xs.length σ' H' → tz D σ' H') : tSeq (tFor (iTup K tl) (gName j) tu) tz D σ H :=
  s_forNT (D := { D with nx := tz D }) h Pv h0 hl hs hd
/-- len of a tuple -/
theorem ev_lenT {ta : TE} {p : Addr} {xs : List V} (ha : Ev ta σ H (.ref p)) (h : SqT K H p xs) : Ev (tCB (Evl.rLenS K) (tCons ta tNil)) σ H (.int (xs.length : Int)) := fun H1 e Q q =>
  ha H1 e _ fun H2 e2 => ⟨p, xs, rfl, Or.inr (ex_t (e.trans e2) h), q H2 e2⟩
end

section
variable {K : PySem.W.Frag} {H H' : Hp} {x y : V}
theorem rc_isTup {p : Addr} {xs : List V} (h : H p = some (.tup xs)) : RC (rIsi K) [.ref p, .ty "tuple"] H (.bl true) := fun H1 e _ q =>
  ⟨_, _, _, _, true, rfl, .ty "tuple", .base (.tup (e p _ h)), (by unfold PySem.W.kitOne; rw [if_pos (by decide)]), q H1 (Ex.refl H1)⟩
theorem rc_isBool {b : Bool} : RC (rIsi K) [.bl b, .ty "bool"] H (.bl true) := fun H1 e _ q =>
  ⟨_, _, _, _, true, rfl, .ty "bool", .base (.bl b), (by unfold PySem.W.kitOne; rw [if_pos (by decide)]), q H1 (Ex.refl H1)⟩
/-- two equal data -/
theorem rv_eqD {d e : PyData} {b : Bool} (hx : ∀ H1, Ex H H1 → Dp K H1 x d) (hy : ∀ H1, Ex H H1 → Dp K H1 y e) (sd : SeqAt.shaped d = true) (se : SeqAt.shaped e = true) (hb : PyData.eqv d e = b) : RV (rEqD K) x y H (.bl b) := fun H1 e1 _ q =>
  ⟨d, e, hx H1 e1, hy H1 e1, sd, se, by rw [hb]; exact q H1 (Ex.refl H1)⟩
theorem rv_neD {d e : PyData} {b : Bool} (hx : ∀ H1, Ex H H1 → Dp K H1 x d) (hy : ∀ H1, Ex H H1 → Dp K H1 y e) (sd : SeqAt.shaped d = true) (se : SeqAt.shaped e = true) (hb : PyData.eqv d e = b) : RV (rNeD K) x y H (.bl (!b)) := fun H1 e1 _ q =>
  ⟨d, e, hx H1 e1, hy H1 e1, sd, se, by rw [hb]; exact q H1 (Ex.refl H1)⟩
theorem at_codeS {l : List Nat} {i : Int} (h0 : 0 ≤ i) (h : i < (l.length : Int)) : atI (SX.S l).cps.toList i = some (l.getD i.toNat 0) := by
  obtain ⟨j, rfl⟩ := Int.eq_ofNat_of_zero_le h0
  have hj : j < l.length := by omega
  refine atI_nat ?_
  show l[j]? = _
  rw [List.getElem?_eq_getElem hj, Int.toNat_natCast, List.getD_eq_getElem?_getD, List.getElem?_eq_getElem hj]
  rfl
theorem mod_bd (x m : Int) (h : 0 < m) : 0 ≤ x % m ∧ x % m < m := ⟨Int.emod_nonneg _ (by omega), Int.emod_lt_of_pos _ h⟩
theorem given_all (n : Nat) (v : Nat → V) : given n (fun _ => true) v = (List.range n).map v := by
  unfold given
  rw [List.filter_eq_self.mpr (fun _ _ => rfl)]
theorem at_range {n i : Nat} {v : Nat → V} (h : i < n) : atI ((List.range n).map v) (i : Int) = some (v i) := by
  refine atI_nat ?_
  rw [List.getElem?_map, List.getElem?_range h]
  rfl
end

/-! ### texts by their codes -/
theorem len_S (l : List Nat) : (SX.S l).length = l.length := SX.S_len l
theorem cut_mid (l : List Nat) (a b : Nat) : cutS (SX.S l) (some (a : Int)) (some (b : Int)) = SX.S ((l.drop a).take (b - a)) := by
  unfold cutS
  rw [len_S, HT.sIx_nat, HT.sIx_nat]
  show SX.S ((l.drop (min a l.length)).take (min b l.length - min a l.length)) = _
  refine congrArg SX.S ?_
  by_cases h : a ≤ l.length
  · rw [Nat.min_eq_left h, List.take_eq_take_iff, List.length_drop]
    omega
  · rw [Nat.min_eq_right (show l.length ≤ a by omega), List.drop_eq_nil_of_le (Nat.le_refl _), List.drop_eq_nil_of_le (show l.length ≤ a by omega)]
    simp
theorem cut_to (l : List Nat) (b : Nat) : cutS (SX.S l) none (some (b : Int)) = SX.S (l.take b) := by
  unfold cutS
  rw [len_S, HT.sIx_nat, HT.sIx_none]
  show SX.S ((l.drop 0).take (min b l.length - 0)) = _
  refine congrArg SX.S ?_
  rw [List.drop_zero, List.take_eq_take_iff]
  omega
theorem cut_from (l : List Nat) (a : Nat) : cutS (SX.S l) (some (a : Int)) none = SX.S (l.drop a) := by
  unfold cutS
  rw [len_S, HT.sIx_nat, HT.sIx_none]
  show SX.S ((l.drop (min a l.length)).take (l.length - min a l.length)) = _
  refine congrArg SX.S ?_
  by_cases h : a ≤ l.length
  · rw [Nat.min_eq_left h]
    exact List.take_of_length_le (by rw [List.length_drop]; omega)
  · rw [Nat.min_eq_right (show l.length ≤ a by omega), List.drop_eq_nil_of_le (Nat.le_refl _), List.drop_eq_nil_of_le (show l.length ≤ a by omega)]
    simp
theorem join_ones : ∀ l : List Nat, Txt.join (SX.S []) (l.map fun c => SX.S [c]) = SX.S l := fun l => by
  have e : (l.map fun c => SX.S [c]) = (l.map fun c => [c]).map SX.S := by rw [List.map_map]; rfl
  rw [e, SX.join_S]
  refine congrArg SX.S ?_
  induction l with
  | nil => rfl
  | cons c l ih =>
    cases l with
    | nil => rfl
    | cons d l =>
      show [c] ++ ([] ++ TL.joinL [] (((d :: l).map fun c => [c]))) = _
      rw [ih (by rw [List.map_map]; rfl)]
      rfl
theorem sum_ones (l : List Nat) : ((l.map fun c => SX.S [c]).map (·.length)).sum = l.length := by
  induction l with
  | nil => rfl
  | cons c l ih =>
    rw [List.map_cons, List.map_cons, List.sum_cons, ih, len_S]
    simp [Nat.add_comm]

/-! ### names -/
theorem e_slashS : Str.ofString "/" = ⟨#[47]⟩ := by decide +kernel
def nameOk (z : Str) : Bool := (!(decide (V.str z = V.str (Str.ofString ".")) || (decide (V.str z = V.str (Str.ofString "..")) || decide (47 ∈ z.cps.toList)))) && ((!(decide ((z.length : Int) < 1) || decide ((100 : Int) < (z.length : Int)))) && z.cps.toList.all fun c => !decide (((c : Nat) : Int) < 32))
def sp_is_name (K : PySem.W.Frag) : Sp := fun vs H Q _ => ∃ z : Str, vs = [.str z] ∧ z.length ≤ 100000 ∧ RetV (.bl (nameOk z)) H Q
theorem sp_nm {K : PySem.W.Frag} {H : Hp} {z : Str} (h : z.length ≤ 100000) : SpV (sp_is_name K) [.str z] H (.bl (nameOk z)) := fun H1 e Q q E => ⟨z, rfl, h, fun H2 e2 => q H2 e2⟩

/-! ### == of data, whatever texts lie within -/
def rEqP (K : PySem.W.Frag) : R2 := fun x y H Q => ∃ d e, Dp K H x d ∧ Dp K H y e ∧ d.plain = true ∧ e.plain = true ∧ d.depth ≤ 60 ∧ Q (.bl (PyData.eqv d e)) H
def rNeP (K : PySem.W.Frag) : R2 := fun x y H Q => ∃ d e, Dp K H x d ∧ Dp K H y e ∧ d.plain = true ∧ e.plain = true ∧ d.depth ≤ 60 ∧ Q (.bl (!PyData.eqv d e)) H
theorem op_eqP {X : Cx} (hu : X.A.units + 64 < cLine) : OpR X (compareOp .Eq) (rEqP X.K) := by
  intro pins s σ H x y v u Q I rx ry h
  obtain ⟨d, e, hd, he, pd, pe, dd, q⟩ := h
  obtain ⟨as, r1⟩ := Dp.reads I d x v hd rx
  obtain ⟨bs, r2⟩ := Dp.reads I e y u he ry
  exact SeqAt.eq_plain r1 r2 pd pe (by omega) ⟨.bl _, H, I, rfl, q⟩
theorem op_neP {X : Cx} (hu : X.A.units + 64 < cLine) : OpR X (compareOp .NotEq) (rNeP X.K) := by
  intro pins s σ H x y v u Q I rx ry h
  obtain ⟨d, e, hd, he, pd, pe, dd, q⟩ := h
  obtain ⟨as, r1⟩ := Dp.reads I d x v hd rx
  obtain ⟨bs, r2⟩ := Dp.reads I e y u he ry
  exact SeqAt.ne_plain r1 r2 pd pe (by omega) ⟨.bl _, H, I, rfl, q⟩
section
variable {K : PySem.W.Frag} {σ : L2.St} {H H' : Hp} {ta tb te : TE} {x y z v : V} {r : R2}
theorem rv_eqP {d e : PyData} {b : Bool} (hx : ∀ H1, Ex H H1 → Dp K H1 x d) (hy : ∀ H1, Ex H H1 → Dp K H1 y e) (pd : d.plain = true) (pe : e.plain = true) (dd : d.depth ≤ 60) (hb : PyData.eqv d e = b) : RV (rEqP K) x y H (.bl b) := fun H1 e1 _ q =>
  ⟨d, e, hx H1 e1, hy H1 e1, pd, pe, dd, by rw [hb]; exact q H1 (Ex.refl H1)⟩
theorem rv_neP {d e : PyData} {b : Bool} (hx : ∀ H1, Ex H H1 → Dp K H1 x d) (hy : ∀ H1, Ex H H1 → Dp K H1 y e) (pd : d.plain = true) (pe : e.plain = true) (dd : d.depth ≤ 60) (hb : PyData.eqv d e = b) : RV (rNeP K) x y H (.bl (!b)) := fun H1 e1 _ q =>
  ⟨d, e, hx H1 e1, hy H1 e1, pd, pe, dd, by rw [hb]; exact q H1 (Ex.refl H1)⟩
theorem dp_strs {K : PySem.W.Frag} {H : Hp} : ∀ ys : List Str, DpAll K H (ys.map V.str) (ys.map PyData.str)
  | [] => .nil
  | y :: ys => .cons (.str y) (dp_strs ys)
theorem plain_strs : ∀ ys : List Str, PyData.plainAll (ys.map PyData.str) = true
  | [] => rfl
  | _ :: ys => plain_strs ys
theorem depth_strs : ∀ ys : List Str, PyData.depthAll (ys.map PyData.str) = 0
  | [] => rfl
  | _ :: ys => by
    show max 0 (PyData.depthAll (ys.map PyData.str)) = 0
    rw [depth_strs ys]
    rfl
/-- a value of which R holds, at the heap behind -/
def EvH (te : TE) (σ : L2.St) (H : Hp) (R : V → Hp → Prop) : Prop := ∀ H1, Ex H H1 → ∀ Q : VK, (∀ v H2, Ex H1 H2 → R v H2 → Q v H2) → te σ H1 Q
def SpH (sp : Sp) (vs : List V) (H : Hp) (R : V → Hp → Prop) : Prop := ∀ H1, Ex H H1 → ∀ Q : VK, (∀ v H2, Ex H1 H2 → R v H2 → Q v H2) → ∀ E : XK, sp vs H1 Q E
theorem eh_call {R : V → Hp → Prop} {sp : Sp} {dvs vs : List V} {E : XK} {ta : TA} (h : EvA ta σ H vs) (hs : SpH sp (vs ++ dvs) H R) : EvH (tCall sp dvs E ta) σ H R := fun H1 e Q q =>
  h H1 e _ fun H2 e2 => hs H2 (e.trans e2) Q (fun v H3 e3 r => q v H3 (e2.trans e3) r) E
theorem s_asgH {R : V → Hp → Prop} {D : Ends} {i : Nat} (h : EvH te σ H R) (k : ∀ v H1, Ex H H1 → R v H1 → D.nx (σ.set i (some v)) H1) : tAsg te (gName i) D σ H := h H (Ex.refl H) _ k
theorem q_asgH {R : V → Hp → Prop} {D : Ends} {tz : TS} {i : Nat} (h : EvH te σ H R) (k : ∀ v H1, Ex H H1 → R v H1 → tz D (σ.set i (some v)) H1) : tSeq (tAsg te (gName i)) tz D σ H := s_asgH (D := { D with nx := tz D }) h k
theorem ev_opH {R : V → Hp → Prop} (hm : ∀ v H1 H2, Ex H1 H2 → R v H1 → R v H2) (ha : EvH ta σ H R) (hb : ∀ H1, Ex H H1 → Ev tb σ H1 y) (hr : ∀ x H1, Ex H H1 → R x H1 → RV r x y H1 z) : Ev (tOp r ta tb) σ H z := fun H1 e Q q =>
  ha H1 e _ fun x H2 e2 rx => hb H2 (e.trans e2) H2 (Ex.refl H2) _ fun H3 e3 => hr x H3 ((e.trans e2).trans e3) (hm x _ _ e3 rx) H3 (Ex.refl H3) Q fun H4 e4 => q H4 ((e2.trans e3).trans e4)
/-- tuple(a list), tuple(a new list) -/
def rTup (K : PySem.W.Frag) : List V → Hp → VK → Prop := fun xs H Q => ∃ p ys, xs = [.ref p] ∧ ((SqL K H p ys ∧ ∀ l, H l = none → Q (.ref l) (upd H l (.tup ys))) ∨ (SqT K H p ys ∧ Q (.ref p) H))
theorem eu_tupOf {p : Addr} {xs : List V} (ha : Ev ta σ H (.ref p)) (h : SqL K H p xs) : EvU (tCB (rTup K) (tCons ta tNil)) σ H xs := fun H1 e Q q =>
  ha H1 e _ fun H2 e2 => ⟨p, xs, rfl, .inl ⟨ex_l (e.trans e2) h, fun l hl => q l _ (fresh_back e2 hl) (e2.trans (Ex.new hl)) upd_same⟩⟩
theorem eu_tupOfL {xs : List V} (ha : EvL ta σ H xs) : EvU (tCB (rTup K) (tCons ta tNil)) σ H xs := fun H1 e Q q =>
  ha H1 e _ fun p H2 _ e2 h2 => ⟨p, xs, rfl, .inl ⟨sq_of h2, fun l hl => q l _ (fresh_back e2 hl) (e2.trans (Ex.new hl)) upd_same⟩⟩
/-- s.split(t) -/
theorem el_split {a b : Str} (ho : Ev ta σ H (.str a)) (he : Ev te σ H (.str b)) (hb : (b.length == 0) = false) (ha : a.length ≤ 90000) :
    EvL (tM1 (fun x xs H Q => ∃ a b, x = .str a ∧ xs = [.str b] ∧ (b.length == 0) = false ∧ a.length + 2 ≤ sizeLine ∧ rNewStrs (Txt.split a b) H Q) ta te) σ H ((Txt.split a b).map V.str) := fun H1 e Q q =>
  ho H1 e _ fun H2 e2 => ⟨⟨a, rfl⟩, he H2 (e.trans e2) _ fun H3 e3 => ⟨a, b, rfl, rfl, hb, sz_of (by omega), fun p hp => q p _ (fresh_back (e2.trans e3) hp) ((e2.trans e3).trans (Ex.new hp)) upd_same⟩⟩
/-- all(a new list of truths), any(..) -/
theorem ev_allL {bs : List Bool} (ha : EvL ta σ H (bs.map V.bl)) : Ev (tCB (rAll K) (tCons ta tNil)) σ H (.bl (bs.all id)) := fun H1 e Q q =>
  ha H1 e _ fun p H2 _ e2 h2 => ⟨p, bs, rfl, sq_of h2, q H2 e2⟩
theorem ev_anyL {bs : List Bool} (ha : EvL ta σ H (bs.map V.bl)) : Ev (tCB (rAny K) (tCons ta tNil)) σ H (.bl (bs.any id)) := fun H1 e Q q =>
  ha H1 e _ fun p H2 _ e2 h2 => ⟨p, bs, rfl, sq_of h2, q H2 e2⟩
theorem rv_isN : RV (fun x y H Q => y = .non ∧ Q (.bl (decide (x = .non))) H) x .non H (.bl (decide (x = .non))) := fun H1 _ _ q => ⟨rfl, q H1 (Ex.refl H1)⟩
end
theorem join_cut : ∀ (l acc : List Nat), TL.joinL [47] (TL.spl [47] 0 acc l) = acc ++ l ∧ TL.spl [47] 0 acc l ≠ []
  | [], acc => by
    rw [TL.spl_nil]
    exact ⟨(List.append_nil acc).symm, by simp⟩
  | c :: r, acc => by
    by_cases h : TL.pre [47] (c :: r) = true
    · have hc : c = 47 := by
        simp [TL.pre] at h
        exact h
      rw [TL.spl_hit h]
      show TL.joinL [47] (acc :: TL.spl [47] 0 [] r) = acc ++ c :: r ∧ _
      obtain ⟨i1, i2⟩ := join_cut r []
      refine ⟨?_, by simp⟩
      cases hs : TL.spl [47] 0 [] r with
      | nil => exact absurd hs i2
      | cons x xs =>
        show acc ++ ([47] ++ TL.joinL [47] (x :: xs)) = _
        rw [← hs, i1, hc]
        rfl
    · have h' : TL.pre [47] (c :: r) = false := by
        cases hb : TL.pre [47] (c :: r) with
        | true => exact absurd hb h
        | false => rfl
      rw [TL.spl_miss h']
      obtain ⟨i1, i2⟩ := join_cut r (acc ++ [c])
      exact ⟨by rw [i1, List.append_assoc]; rfl, i2⟩

/-! ### f-strings, numbers as texts, unpacking -/
section
variable {K : PySem.W.Frag} {σ : L2.St} {H H' : Hp} {te : TE} {D : Ends} {tz : TS}
theorem ev_fmtS {y : Str} (h : Ev te σ H (.str y)) (hy : y.length ≤ 100000) : Ev (tFmt te) σ H (.str y) := fun H1 e Q q => h H1 e _ fun H2 e2 => .inl ⟨y, rfl, sz_of hy, q H2 e2⟩
theorem log_small {i : Int} (h : i.natAbs < 2 ^ 100) : i.natAbs.log2 < 1920 := by
  by_cases h0 : i.natAbs = 0
  · rw [h0]
    decide
  · have := (Nat.log2_lt h0).mpr h
    omega
theorem ev_fmtN {n : Nat} (h : Ev te σ H (.int (n : Int))) (hn : n < 2 ^ 100) : Ev (tFmt te) σ H (.str (SX.S (TL.numL n))) := fun H1 e Q q => h H1 e _ fun H2 e2 => .inr ⟨(n : Int), rfl, log_small hn, by
  have g := q H2 e2
  rw [← SX.num_S] at g
  exact g⟩
theorem rc_strN {n : Nat} (hn : n < 2 ^ 100) : RC (fun xs H Q => ∃ i : Int, xs = [V.int i] ∧ i.natAbs.log2 < 1920 ∧ Q (V.str (toString i : String)) H) [.int (n : Int)] H (.str (SX.S (TL.numL n))) := fun H1 _ _ q => ⟨(n : Int), rfl, log_small hn, by
  have g := q H1 (Ex.refl H1)
  rw [← SX.num_S] at g
  exact g⟩
inductive EvJ (σ : L2.St) (H : Hp) : List TE → List (List Nat) → Prop where
  | nil : EvJ σ H [] []
  | cons {t : TE} {y : List Nat} {ts : List TE} {ys : List (List Nat)} (h : Ev t σ H (.str (SX.S y))) (r : EvJ σ H ts ys) : EvJ σ H (t :: ts) (y :: ys)
theorem ev_js {ts : List TE} {ys : List (List Nat)} (h : EvJ σ H ts ys) : ∀ (acc : List Nat) (H1 : Hp), Ex H H1 → acc.length + (ys.map List.length).sum ≤ 100000 → ∀ Q : Str → Hp → Prop, (∀ H2, Ex H1 H2 → Q (SX.S (ys.foldl (· ++ ·) acc)) H2) → tJs ts (SX.S acc) σ H1 Q := by
  induction h with
  | nil =>
    intro acc H1 e _ Q q
    exact q H1 (Ex.refl H1)
  | @cons t y ts ys h r ih =>
    intro acc H1 e hl Q q
    rw [List.map_cons, List.sum_cons] at hl
    refine h H1 e _ fun H2 e2 => ⟨SX.S y, rfl, ?_, ?_⟩
    · rw [SX.S_cat, len_S, List.length_append]
      exact sz_of (by omega)
    · rw [SX.S_cat]
      exact ih (acc ++ y) H2 (e.trans e2) (by rw [List.length_append]; omega) Q fun H3 e3 => q H3 (e2.trans e3)
theorem ev_joined {ts : List TE} {ys : List (List Nat)} (h : EvJ σ H ts ys) (hl : (ys.map List.length).sum ≤ 100000) : Ev (fun σ H Q => tJs ts Str.empty σ H fun out H1 => Q (.str out) H1) σ H (.str (SX.S (ys.foldl (· ++ ·) []))) := fun H1 e Q q =>
  ev_js h [] H1 e (by rw [List.length_nil, Nat.zero_add]; exact hl) (fun out H2 => Q (.str out) H2) q
theorem q_unp2 {p : Addr} {x y : V} {i j : Nat} (h : Ev te σ H (.ref p)) (hp : SqT K H p [x, y]) (k : ∀ H1, Ex H H1 → tz D ((σ.set i (some x)).set j (some y)) H1) : tSeq (tAsg te (gTup K 2 (gCons (gName i) (gCons (gName j) gNil)))) tz D σ H :=
  h H (Ex.refl H) _ fun H1 e => ⟨p, _, rfl, ex_t e hp, rfl, x, _, rfl, y, _, rfl, rfl, k H1 e⟩
end

/-! ### the cells that a law draws -/
def fixC (c : Int) : Int := if c < 0 then 1 - 2 * c else c
def cell0 (ns : List Int) (k : Nat) : Int := if k < ns.length then ns.getD k 0 else 0
def cell2 (ns : List Int) (k : Nat) (c : Int) : Int := if 0 < ns.length then ns.getD (((k : Int) % (ns.length : Int)).toNat) 0 else c
def mix1 (k : Nat) (c : Int) : Int := ((c + 131 * (k : Int) + 7) * 48271 + (k : Int) * (k : Int) * 69621) % 1000000007
def mix2 (k : Nat) (c : Int) : Int := ((c + 17 * (k : Int) + 3) * 2862933555777941757) % 18446744073709551557
def cellAt (ns : List Int) (k : Nat) : Int :=
  if (ns.length : Int) ≤ (k : Int) ∨ fixC (cell0 ns k) < 1000000000 then mix2 k (mix1 k (fixC (cell2 ns k (fixC (cell0 ns k))))) else fixC (cell0 ns k)
def cellsOf (ns : List Int) (n : Nat) : List Int := (List.range n).map (cellAt ns)
theorem cellsOf_len (ns : List Int) (n : Nat) : (cellsOf ns n).length = n := by
  unfold cellsOf
  rw [List.length_map, List.length_range]
theorem cellsOf_succ (ns : List Int) (n : Nat) : cellsOf ns (n + 1) = cellsOf ns n ++ [cellAt ns n] := by
  unfold cellsOf
  rw [List.range_succ, List.map_append]
  rfl
theorem fixC_nn (c : Int) : 0 ≤ fixC c := by
  unfold fixC
  split <;> omega
theorem cellAt_nn (ns : List Int) (k : Nat) : 0 ≤ cellAt ns k := by
  unfold cellAt
  split
  · exact Int.emod_nonneg _ (by decide)
  · exact fixC_nn _
theorem cellsOf_nn (ns : List Int) (n : Nat) : ∀ c ∈ cellsOf ns n, 0 ≤ c := by
  intro c hc
  obtain ⟨k, _, rfl⟩ := List.mem_map.mp hc
  exact cellAt_nn ns k
theorem fixC_neg {c : Int} (h : decide (c < 0) = true) : 1 - 2 * c = fixC c := (if_pos (of_decide_eq_true h)).symm
theorem fixC_pos {c : Int} (h : decide (c < 0) = false) : fixC c = c := if_neg (of_decide_eq_false h)
theorem cellAt_mix {ns : List Int} {k : Nat} (h : (decide ((ns.length : Int) ≤ (k : Int)) || decide (fixC (cell0 ns k) < 1000000000)) = true) : mix2 k (mix1 k (fixC (cell2 ns k (fixC (cell0 ns k))))) = cellAt ns k := by
  unfold cellAt
  rw [if_pos]
  rcases (Bool.or_eq_true _ _).mp h with h | h
  · exact .inl (of_decide_eq_true h)
  · exact .inr (of_decide_eq_true h)
theorem cellAt_own {ns : List Int} {k : Nat} (h : (decide ((ns.length : Int) ≤ (k : Int)) || decide (fixC (cell0 ns k) < 1000000000)) = false) : fixC (cell0 ns k) = cellAt ns k := by
  unfold cellAt
  obtain ⟨h1, h2⟩ := (Bool.or_eq_false_iff).mp h
  rw [if_neg]
  rintro (h | h)
  · exact of_decide_eq_false h1 h
  · exact of_decide_eq_false h2 h
def spCells (K : PySem.W.Frag) : Sp := fun vs H Q _ => ∃ (a : Addr) (ns : List Int) (n : Nat), vs = [.ref a, .int (n : Int)] ∧ SqL K H a (ns.map V.int) ∧ ns.length ≤ 63 ∧ n ≤ 1000 ∧ RetL ((cellsOf ns n).map V.int) H Q
theorem sp_cells {K : PySem.W.Frag} {H : Hp} {a : Addr} {ns : List Int} {n : Nat} (hS : SqL K H a (ns.map V.int)) (hl : ns.length ≤ 63) (hn : n ≤ 1000) : SpL (spCells K) [.ref a, .int (n : Int)] H ((cellsOf ns n).map V.int) :=
  fun H1 e Q q E => ⟨a, ns, n, rfl, ex_l e hS, hl, hn, fun p H2 hp e2 h2 => q p H2 hp e2 h2⟩
/-! ### the rows that a law draws -/
def spRows (K : PySem.W.Frag) : Sp := fun vs H Q _ => ∃ (a : Addr) (ns : List Int) (n : Nat), vs = [.ref a, .int (n : Int)] ∧ SqL K H a (ns.map V.int) ∧ ns.length ≤ 63 ∧ n ≤ 1000 ∧ ∀ rs : List Int, rs.length = n → (∀ c ∈ rs, 0 ≤ c) → RetL (rs.map V.int) H Q
/-- what is there behind a call that gives a new list of n numbers from 0 on -/
def EvRows (te : TE) (σ : L2.St) (H : Hp) (n : Nat) : Prop := ∀ H1, Ex H H1 → ∀ Q : VK, (∀ p rs H2, H1 p = none → Ex H1 H2 → H2 p = some (.lst (List.map V.int rs)) → rs.length = n → (∀ c ∈ rs, 0 ≤ c) → Q (.ref p) H2) → te σ H1 Q
theorem ev_rows {K : PySem.W.Frag} {σ : L2.St} {H : Hp} {E : XK} {ta : TA} {a : Addr} {ns : List Int} {n : Nat} (h : EvA ta σ H [.ref a, .int (n : Int)]) (hS : SqL K H a (ns.map V.int)) (hl : ns.length ≤ 63) (hn : n ≤ 1000) : EvRows (tCall (spRows K) [] E ta) σ H n := fun H1 e Q q =>
  h H1 e _ fun H2 e2 => ⟨a, ns, n, rfl, ex_l (e.trans e2) hS, hl, hn, fun rs hr h0 p H3 hp e3 h3 => q p rs H3 (fresh_back e2 hp) (e2.trans e3) h3 hr h0⟩
theorem q_asgRows {σ : L2.St} {H : Hp} {te : TE} {D : Ends} {tz : TS} {i n : Nat} (h : EvRows te σ H n) (k : ∀ p rs H1, H p = none → Ex H H1 → H1 p = some (.lst (List.map V.int rs)) → rs.length = n → (∀ c ∈ rs, 0 ≤ c) → tz D (σ.set i (some (.ref p))) H1) : tSeq (tAsg te (gName i)) tz D σ H :=
  h H (Ex.refl H) _ fun p rs H1 hp e h1 hr h0 => k p rs H1 hp e h1 hr h0
/-- a def of the top: its text, its place, how it is called -/
structure Df (K : PySem.W.Frag) (mg : Str → Option Value) (x : Str) (st : Stmt) (ps : List Str) : Prop where
  ex : ∃ (f : Addr) (fd : FuncData), L2.Fun K x x st f fd ∧ mg x = some (.ref f) ∧ Binds K fd ps []
theorem Df.cal {P : Program} {w : World} {K : PySem.W.Frag} {mg : Str → Option Value} {base : Heap} {x : Str} {st : Stmt} {N ps : List Str} {k : Nat} {sp : Sp} (D : Df K mg x st ps) (S : FnScope N ps (defScope st)) (len : ∀ vs H Q E, sp vs H Q E → vs.length = ps.length)
    (hbody : ∀ (f : Addr) (cdv : Value) (A : Around) (outer : List Env) (s : Shared) (H : Hp) (vs : List V) (Q : VK) (E : XK), Room k (A.deeper (envOfC x (defScope st) s.heap.objs.size f cdv)) → sp vs H Q E →
      ∃ t, PSs (cxOf L2.CX0 P w K mg base N x (defScope st) f cdv A outer s H E).nox (defBody st) t ∧ t { nx := fun _ H' => Q .non H', rt := Q } (start N vs) H) : C8.Cal P w K mg base (k + 1) x sp [] := by
  obtain ⟨f, fd, F, hm, hb⟩ := D.ex
  exact ⟨f, fd, ps, [], F.ok S len (hbody f), hm, F.kp, hb, .nil⟩
def spLaw (K : PySem.W.Frag) : Sp := fun vs H Q _ => ∃ (a : Addr) (ns : List Int), vs = [.ref a] ∧ SqL K H a (ns.map V.int) ∧ ns.length ≤ 63 ∧ ∀ H', Q (.bl true) H'

/-! ### fields, dicts, classes made by keywords -/
section
variable {K : PySem.W.Frag} {σ : L2.St} {H H' : Hp} {te td ty tx ts : TE} {tt : TT} {D : Ends} {tz tu : TS} {x v : V}
theorem ev_fld {a C dx : Addr} {fs : List (Str × V)} {f : Str} (h : Ev te σ H (.ref a)) (ho : H a = some (.ins C dx fs)) (c : Cls K C) (n : NoAttr K C f) (l : fs.lookup f = some v) : Ev (tFld K te f) σ H v := fun H1 e Q q =>
  h H1 e _ fun H2 e2 => ⟨a, C, dx, fs, v, rfl, (e.trans e2) _ _ ho, c, n, l, q H2 e2⟩
theorem q_asgDN {i : Nat} (k : ∀ p H1, H p = none → Ex H H1 → H1 p = some (.dK []) → tz D (σ.set i (some (.ref p))) H1) : tSeq (tAsg tDNewK (gName i)) tz D σ H := fun p hp => k p _ hp (Ex.new hp) upd_same
theorem s_setd {d : Addr} {kvs : List (Key × V)} {k : Key} (h : Ev td σ H (.ref d)) (hd : H d = some (.dK kvs)) (hy : Ev ty σ H (kV k)) (hx : Ev tx σ H v) (hl : kvs.length < 100000)
    (k1 : ∀ y H1, valV kvs k = some y → Ex H H1 → D.nx σ H1) (k2 : ∀ H1, valV kvs k = none → Ex H H1 → D.nx σ (upd H1 d (.dK (putK kvs k v)))) : tDrop (tDSetd td ty tx) D σ H :=
  h H (Ex.refl H) _ fun H1 e1 => ⟨d, rfl, .inl ⟨kvs, .inl (e1 _ _ hd)⟩, hy H1 e1 _ fun H2 e2 => hx H2 (e1.trans e2) _ fun H3 e3 => ⟨kvs, k, ((e1.trans e2).trans e3) _ _ hd, rfl, sz_lt hl, fun y hy => k1 y H3 hy ((e1.trans e2).trans e3), fun hn => k2 H3 hn ((e1.trans e2).trans e3)⟩⟩
theorem ev_get2 {d : Addr} {kvs : List (Key × V)} {k : Key} (h : Ev td σ H (.ref d)) (hd : H d = some (.dK kvs)) (hy : Ev ty σ H (kV k)) (hx : Ev tx σ H v) : Ev (tDGet2 td ty tx) σ H ((valV kvs k).getD v) := fun H0 e Q q =>
  h H0 e _ fun H1 e1 => ⟨d, rfl, .inl ⟨kvs, .inl ((e.trans e1) _ _ hd)⟩, hy H1 (e.trans e1) _ fun H2 e2 => hx H2 ((e.trans e1).trans e2) _ fun H3 e3 => ⟨valV kvs k, DGet.k ((((e.trans e1).trans e2).trans e3) _ _ hd), q H3 ((e1.trans e2).trans e3)⟩⟩
/-- a comprehension over a text -/
theorem lc_str {x : Str} {g : TG} {vs : List Nat} {H1 : Hp} {Dl : Addr} {Qd : Hp → Prop} (Pv : Nat → Hp → Prop) (h0 : Pv 0 (upd H1 Dl (.lst [])))
    (hs : ∀ i c H, x.cps.toList[i]? = some c → Pv i H → g (.str ⟨#[c]⟩) (wipe σ vs) H fun σ2 H2 => wipe σ2 vs = wipe σ vs ∧ tt σ2 H2 fun b H3 =>
      if b = true then te σ2 H3 fun y H4 => ∃ acc, H4 Dl = some (.lst acc) ∧ acc.length < sizeLine ∧ Pv (i + 1) (upd H4 Dl (.lst (acc ++ [y]))) else Pv (i + 1) H3) (hd : ∀ H, Pv x.cps.size H → Qd H) :
    ∃ W : Nat → Nat → Hp → Prop, (∃ m, W 0 m (upd H1 Dl (.lst []))) ∧ ∀ i m H, W i m H →
      ((Its x).stop i H ∧ Qd H) ∨ ((Its x).go i H ∧ ∃ Nx : Hp → Prop, (∀ H', Nx H' → ∃ m', m' < m ∧ W (i + 1) m' H') ∧ ∀ y H', (Its x).yld i H y H' → g y (wipe σ vs) H' fun σ2 H2 => wipe σ2 vs = wipe σ vs ∧ tt σ2 H2 fun b H3 =>
        if b = true then te σ2 H3 fun y H4 => ∃ acc, H4 Dl = some (.lst acc) ∧ acc.length < sizeLine ∧ Nx (upd H4 Dl (.lst (acc ++ [y]))) else Nx H3) := by
  refine ⟨fun i m H => m = x.cps.size - i ∧ i ≤ x.cps.size ∧ Pv i H, ⟨x.cps.size, by simp, Nat.zero_le _, h0⟩, ?_⟩
  rintro i m H ⟨rfl, hi, p⟩
  by_cases hlt : i < x.cps.size
  · refine .inr ⟨hlt, Pv (i + 1), fun H' p' => ⟨x.cps.size - (i + 1), by omega, rfl, hlt, p'⟩, fun y H' q => ?_⟩
    obtain ⟨rfl, c, hc, rfl⟩ := q
    exact hs i c _ (by rw [Array.getElem?_toList]; exact hc) p
  · have e : i = x.cps.size := by omega
    subst e
    exact .inl ⟨Nat.le_refl _, hd H p⟩
theorem el_lcS {z : Str} {tl : TE} {j : Nat} {vs : List Nat} (f : Nat → Bool) (v : Nat → V) (h : Ev tl σ H (.str z)) (hz : z.length ≤ 40000) (hw : ∀ x, wipe ((wipe σ vs).set j (some x)) vs = wipe σ vs)
    (ht : ∀ (i c : Nat) H1, Ex H H1 → z.cps.toList[i]? = some c → EvT tt ((wipe σ vs).set j (some (.str ⟨#[c]⟩))) H1 (f i)) (he : ∀ (i c : Nat) H1, Ex H H1 → z.cps.toList[i]? = some c → f i = true → Ev te ((wipe σ vs).set j (some (.str ⟨#[c]⟩))) H1 (v i)) :
    EvL (tLc (iStr tl) (gName j) tt te vs) σ H (given z.cps.size f v) := fun H0 e Q q => h H0 e _ fun H1 e1 => ⟨z, rfl, fun Dl hD =>
  lc_str (x := z) (Cw H1 f v Dl) ⟨hD, Ex.new hD, upd_same⟩ (fun i c H' hi p => ⟨hw _, cw_turn p (by have h1 := (List.getElem?_eq_some_iff.mp hi).1; have h2 : z.length = z.cps.size := rfl; rw [Array.length_toList] at h1; omega) (ht i c H1 (e.trans e1) hi) (fun hf => he i c H1 (e.trans e1) hi hf)⟩)
    (fun H' p => q Dl H' (fresh_back e1 p.1) (e1.trans p.2.1) p.2.2)⟩
end
/-- a class that is made by its name, by keywords alone -/
def MkK (P : Program) (w : World) (K : PySem.W.Frag) (mg : Str → Option Value) (base : Heap) (k : Nat) (x : Str) (C : Addr) (n : Nat) (ks : List Str) (sp : Sp) (gV : List V → List V → List V) : Prop :=
  ∃ (f : Addr) (fd : FuncData) (ps : List Str) (g : List Value → List Value → List Value), Mk K C f ∧ FnOk P w K mg base CX0 k f fd ps sp ∧ KBn K fd ps n ks g gV ∧ mg x = some (.ref C)
theorem pe_mkK {X : Cx} {k j : Nat} {C : Addr} {x : Str} {ks : List Str} {sp : Sp} {gV : List V → List V → List V} {p pos : Pos} {kws : List Keyword} {tk : TA} (M : MkK X.prog X.w X.K X.mg X.base k x C 1 ks sp gV) (hr : Room j X.A) (hk : k + 1 ≤ j) (hg : Gl X x) (hkw : PK X kws tk)
    (hall : (backToKw pos (keywordEach kws X.env)).all (·.1.isSome) = true := by rfl) (hks : (backToKw pos (keywordEach kws X.env)).filterMap (·.1) = ks := by rfl) (hdb : (x == ("__debug__" : Str)) = false := by decide)
    (hpl : ((backTo pos (starEach [] X.env)).any (·.1) || (backToKw pos (keywordEach kws X.env)).any (·.1.isNone)) = false := by rfl) : PE X (.Call (.Name x p) [] kws pos) (tMakeK C 0 ks.length sp gV E0 tNil tk) := by
  obtain ⟨f, fd, ps, g, M, F, b, hm⟩ := M
  exact pe_makeK0 M F (hr.mono hk) hg hm b pass0 hkw hall hks hdb hpl
theorem eqv_strs : ∀ a b : List Str, PyData.eqvAll (a.map PyData.str) (b.map PyData.str) = decide (a = b)
  | [], [] => by rw [List.map_nil, PyData.eqvAll]; rfl
  | [], _ :: _ => by rw [List.map_nil, List.map_cons, PyData.eqvAll]; simp
  | _ :: _, [] => by rw [List.map_nil, List.map_cons, PyData.eqvAll]; simp
  | x :: xs, y :: ys => by
    rw [List.map_cons, List.map_cons, PyData.eqvAll, eqv_strs xs ys, PyData.eqv]
    by_cases h : x = y
    · rw [h, beq_self_eq_true]
      simp
    · have h1 : (x == y) = false := beq_eq_false_iff_ne.mpr h
      rw [h1]
      simp [h]
theorem eq_S (a b : List Nat) : decide (V.str (SX.S a) = V.str (SX.S b)) = decide (a = b) := decide_eq_decide.mpr ⟨fun h => SX.S_inj (V.str.inj h), fun h => by rw [h]⟩
theorem ones_inj : ∀ {a b : List Nat}, (a.map fun c => SX.S [c]) = (b.map fun c => SX.S [c]) → a = b
  | [], [], _ => rfl
  | [], _ :: _, h => by simp at h
  | _ :: _, [], h => by simp at h
  | x :: xs, y :: ys, h => by
    rw [List.map_cons, List.map_cons] at h
    obtain ⟨h1, h2⟩ := List.cons.inj h
    rw [ones_inj h2, (List.cons.inj (SX.S_inj h1)).1]
theorem map_getD {α β : Type} (f : α → β) (d : α) : ∀ l : List α, (List.range l.length).map (fun k => f (l.getD k d)) = l.map f := fun l => by
  refine List.ext_getElem (by simp) fun k h1 h2 => ?_
  rw [List.length_map, List.length_range] at h1
  rw [List.getElem_map, List.getElem_map, List.getElem_range, List.getD_eq_getElem?_getD, List.getElem?_eq_getElem h1]
  rfl
theorem take_up {α : Type} {l : List α} {i : Nat} {q : α} (h : l[i]? = some q) : l.take (i + 1) = l.take i ++ [q] := by
  rw [List.take_add_one, h]
  rfl
theorem len_lt {α : Type} {l : List α} {i : Nat} {q : α} (h : l[i]? = some q) : i < l.length := (List.getElem?_eq_some_iff.mp h).1
theorem len_put {f : Str} {v : V} {fs : List (Str × V)} {n : Nat} (h : fs.length ≤ n) : (putF f v fs).length ≤ n + 1 := Nat.le_trans (length_putF f v fs) (by omega)
/-- the signs of a text that is repeated -/
theorem mul_mem {l : List Nat} {n : Int} {c : Nat} (h : c ∈ (Txt.mul (SX.S l) n).cps.toList) : c ∈ l := by
  unfold Txt.mul at h
  split at h
  · exact absurd h (by show ¬ c ∈ ([] : List Nat); simp)
  · split at h
    · exact h
    · have key : ∀ (k : Nat) (acc : Array Nat), (∀ c ∈ acc.toList, c ∈ l) → ∀ c ∈ ((List.replicate k (SX.S l).cps).foldl (· ++ ·) acc).toList, c ∈ l := by
        intro k
        induction k with
        | zero => intro acc ha; exact ha
        | succ k ih =>
          intro acc ha
          rw [List.replicate_succ, List.foldl_cons]
          refine ih _ fun c hc => ?_
          rw [Array.toList_append] at hc
          rcases List.mem_append.mp hc with h | h
          · exact ha c h
          · exact h
      exact key _ #[] (fun c hc => by simp at hc) c h
theorem rc_intB {b : Bool} : RC (fun xs H Q => (∃ i, xs = [V.int i] ∧ Q (V.int i) H) ∨ ∃ k, xs = [V.bl k] ∧ Q (V.int (if k = true then 1 else 0)) H) [.bl b] H (.int (if b = true then 1 else 0)) :=
  fun H1 _ _ q => Or.inr ⟨b, rfl, q H1 (Ex.refl H1)⟩
end Lw
namespace K05
open PySem PySem.Spec PyProof.Rows L2 Evl Lw
def top (i : Nat) : Stmt := PySem.Challenge.pw_foldkeep_k05_patterns.main.body.getD i (.Pass ⟨0, 0, 0, 0⟩)
abbrev s_matches : Stmt := top 1
abbrev s_follow_in_order : Stmt := top 2
abbrev s_ignored : Stmt := top 3
abbrev s_law_cells : Stmt := top 5
abbrev s_law_word : Stmt := top 6
abbrev s_law_matches : Stmt := top 7
abbrev s_law : Stmt := top 8
theorem sc_matches : FnScope ["pattern", "name", "parts", "first", "last"] ["pattern", "name"] (defScope s_matches) := ⟨rfl, rfl, rfl, by decide +kernel, rfl, by decide +kernel, by decide +kernel⟩
theorem sc_follow_in_order : FnScope ["parts", "text", "at", "part", "found"] ["parts", "text"] (defScope s_follow_in_order) := ⟨rfl, rfl, rfl, by decide +kernel, rfl, by decide +kernel, by decide +kernel⟩
theorem sc_ignored : FnScope ["patterns", "name", "pattern"] ["patterns", "name"] (defScope s_ignored) := ⟨rfl, rfl, rfl, by decide +kernel, rfl, by decide +kernel, by decide +kernel⟩
theorem sc_law_cells : FnScope ["script", "count", "cells", "k", "cell"] ["script", "count"] (defScope s_law_cells) := ⟨rfl, rfl, rfl, by decide +kernel, rfl, by decide +kernel, by decide +kernel⟩
theorem sc_law_word : FnScope ["cells", "at", "size", "menu", "word", "k"] ["cells", "at", "size", "menu"] (defScope s_law_word) := ⟨rfl, rfl, rfl, by decide +kernel, rfl, by decide +kernel, by decide +kernel⟩
theorem sc_law_matches : FnScope ["pattern", "name", "ends", "sign", "following", "at"] ["pattern", "name"] (defScope s_law_matches) := ⟨rfl, rfl, rfl, by decide +kernel, rfl, by decide +kernel, by decide +kernel⟩
theorem sc_law : FnScope ["script", "cells", "name", "patterns", "k", "pattern", "count", "expected"] ["script"] (defScope s_law) := ⟨rfl, rfl, rfl, by decide +kernel, rfl, by decide +kernel, by decide +kernel⟩
/-- the names of the top that are asked for -/
structure Txt (K : PySem.W.Frag) (mg : Str → Option Value) : Prop where
  n_any : mg "any" = none
  n_int : mg "int" = none
  n_len : mg "len" = none
  n_list : mg "list" = none
  n_range : mg "range" = none
  n_set : mg "set" = none
  n_sorted : mg "sorted" = none
/-! ### set(a list of ints) -/
section
variable {P : Program} {w : World} {A : Around} {E : Value → Shared → Prop} {s : Shared}
/-- a set as it is made -/
abbrev bare (w : World) : Obj := { cls := .type "set", dict := none, data := .set #[] 0 (.fresh 0 0 (!w.params.followText "set-order")) }
set_option maxRecDepth 100000 in
set_option maxHeartbeats 3200000 in
theorem set_of_list {l : Addr} {xs : Array Value} {ns : List Int} {Q : Value → Shared → Prop} (calm : A.handled = none) (hl : s.heap.IsList l xs) (hi : IntsAre xs.toList ns) (few : ns.length + 1 < scanBound)
    (hQ : ∀ (h' : Heap) (tk c : Nat), SetR w h' s.heap.objs.size (fun j => decide (j ∈ ns)) c → (∀ b o, s.heap.get? b = some o → h'.get? b = some o) → Q (.ref s.heap.objs.size) { s with heap := h', toks := tk }) :
    wpAny (model P w) A (call (.type "set") [.ref l]) Q E s := by
  have size : xs.size = ns.length := by
    have e := IntsAre.length hi
    rwa [Array.length_toList] at e
  obtain ⟨_, _, mro⟩ := F.called_set.mro
  have m1 := F.called_set.made
  have m2 := F.called_set.sub
  have m3 := F.called_set.notType
  have m4 := F.called_set.canCreate
  have m5 := F.typeCall_set_1 (.ref l)
  refine wpAny_call (codeAny_of_tree ?_)
  show wpAny _ _ (callAny (.type "set") _) _ _ _
  refine wpAny_pure ⟨Code.quiet_builtin _ (by decide +kernel), codeAny_builtin F.entry_type_call ?_⟩
  rw [Around.under_plain (weight_type_call_type "set" [.ref l] []) rfl]
  repeat (any_goals (first | assumption | wp_step))
  refine codeAny_mono (code_set_led1 (.ref l) (E := E) (Q₁ := fun v z => v = .ref s.heap.objs.size ∧ z = { s with heap := s.heap.push (bare w) }) ⟨rfl, rfl⟩) fun r z hr => ?_
  rcases r with e | fl
  · exact hr
  cases fl
  case ret v =>
    obtain ⟨rfl, rfl⟩ := hr
    have got : (s.heap.push (bare w)).get? s.heap.objs.size = some (bare w) := Heap.get?_push_size _ rfl
    have typ : Shared.TypeIs { s with heap := s.heap.push (bare w) } (.ref s.heap.objs.size) "set" := ⟨_, got, rfl⟩
    have i1 := F.called_set.init.lookup
    have i2 := F.called_set.init.bind (.ref s.heap.objs.size)
    repeat (any_goals (first | assumption | wp_step))
    refine codeAny_mono (codeAny_call_builtin (R := wants (fun r z => r = .none ∧ ∃ h' tk c, z = { s with heap := h', toks := tk } ∧ SetR w h' s.heap.objs.size (fun j => decide (j ∈ ns)) c ∧ (∀ b o, s.heap.get? b = some o → h'.get? b = some o)) E) F.called_set.init.plain F.entry_set_init (check_set_init_1 typ ?_)) fun r z hr => ?_
    · obtain ⟨⟨ocls, odict, odata, oslots⟩, hol, hcl, nl, hdl⟩ := hl
      simp only at hcl hdl
      subst hcl
      subst hdl
      have hol1 : (s.heap.push (bare w)).get? l = some { cls := .type "list", dict := odict, data := .seq xs nl, slots := oslots } := Heap.get?_push_of_some _ hol
      have u1 := F.sub_list_set
      have u2 := F.sub_list_frozenset
      have u3 : (Value.type "list" == Value.type "dict") = false := by decide
      have isl : (s.heap.push (bare w)).IsList l xs := ⟨_, hol1, rfl, nl, rfl⟩
      unfold Builtin.«set.__init__» noKeywords Builtin.Frozenset.updateFrom
      generalize hPI : pyIter = PI
      wp_walk
      subst hPI
      refine wpAny_pyIter_list isl (wpAny_bind (wpAny_runValue ?_))
      have lt : l < s.heap.objs.size := Heap.lt_size hol
      have up : (s.heap.push (bare w)).objs.size = s.heap.objs.size + 1 := Heap.size_push ..
      have calm3 : A.in1.in1.in1.handled = none := by simp [calm]
      have ne : l ≠ (s.heap.push (bare w)).objs.size := by
        rw [up]
        exact Nat.ne_of_lt (Nat.lt_succ_of_lt lt)
      have off : s.heap.objs.size ∉ [(s.heap.push (bare w)).objs.size, l] := by
        simp only [List.mem_cons, List.not_mem_nil, or_false, not_or]
        rw [up]
        exact ⟨Nat.ne_of_lt (Nat.lt_succ_self _), Nat.ne_of_gt lt⟩
      have vals : ∀ (i : Nat) (v : Value), xs[i]? = some v → ∃ k t, ns[i]? = some k ∧ v = .int k t := fun i v hv => by
        have hlt : i < ns.length := size ▸ (Array.getElem?_eq_some_iff.mp hv).1
        obtain ⟨t, e⟩ := IntsAre.int_at hi i v (by rwa [Array.getElem?_toList])
        have e2 : ns[i]? = some ns[i] := List.getElem?_eq_getElem hlt
        rw [List.getD_eq_getElem?_getD, e2] at e
        exact ⟨_, t, e2, e⟩
      refine set_update_ints ((Walks.list calm3 _ l ne xs).toS) s.heap.objs.size off ns size few vals (xs.size - 0) 0 _ (by omega) (Nat.zero_le _) ⟨⟨_, Heap.get?_push_size _ rfl, rfl, rfl⟩, (isl.push _)⟩ ⟨0, Nat.le_refl 0, setR_new_at (Heap.get?_push_of_some _ got)⟩ ?_
      intro z c moved _ hz
      obtain ⟨h', g2, d2, tk, os2⟩ := z
      obtain rfl : g2 = s.gens := moved.gens
      obtain rfl : d2 = s.drawn := moved.drawn
      obtain rfl : os2 = s.os := moved.os
      show wpAny _ _ _ _ _ _
      refine wpAny_pure ?_
      show wpAny _ _ (ret Value.none) _ _ _
      refine wpAny_pure ⟨rfl, h', tk, c, rfl, hz, fun b o e => ?_⟩
      have hb := Heap.lt_size e
      refine moved.heap b o ?_ (Heap.get?_push_of_some _ (Heap.get?_push_of_some _ e))
      simp only [List.mem_cons, List.not_mem_nil, or_false, not_or]
      refine ⟨Nat.ne_of_lt hb, ?_⟩
      rw [up]
      exact Nat.ne_of_lt (Nat.lt_succ_of_lt hb)
    · rcases r with e | fl
      · exact hr
      cases fl
      case ret v =>
        obtain ⟨rfl, h', tk, c, rfl, hz, hk⟩ := hr
        repeat (any_goals (first | assumption | wp_step))
        exact hQ _ _ _ hz hk
      all_goals exact hr.elim
  all_goals exact hr.elim
end
section
variable {X : Cx} {K : PySem.W.Frag} {σ : L2.St} {H : Hp} {ta tb : TE}
theorem nd_len : ∀ (B : Nat) (l : List Int), l.Nodup → (∀ k ∈ l, 0 ≤ k ∧ k < (B : Int)) → l.length ≤ B
  | 0, [], _, _ => Nat.le_refl 0
  | 0, x :: _, _, h => by
    have := h x (List.mem_cons_self ..)
    omega
  | B + 1, l, nd, h => by
    have h1 := nd_len B (l.erase (B : Int)) (nd.erase _) fun k hk => by
      rw [nd.mem_erase_iff] at hk
      have := h k hk.2
      omega
    have h2 : l.length ≤ (l.erase (B : Int)).length + 1 := by
      rw [List.length_erase]
      split <;> omega
    omega
theorem setR_few {w : World} {h : Heap} {a : Addr} {S : Int → Bool} {n B : Nat} (R : SetR w h a S n) (hS : ∀ k, S k = true → 0 ≤ k ∧ k < (B : Int)) : n ≤ B := by
  obtain ⟨o, es, ep, t, _, _, _, _, nd, hm, _, _, hn, _⟩ := R
  have := nd_len B (es.toList.map keyOf) nd fun k hk => hS k ((hm k).mpr hk)
  rw [List.length_map, Array.length_toList] at this
  omega
def rSetI (K : PySem.W.Frag) (w : World) : List V → Hp → VK → Prop := fun xs H Q => ∃ (l : Addr) (ns : List Int), xs = [.ref l] ∧ SqL K H l (ns.map V.int) ∧ ns.length ≤ 3000 ∧ ∀ a m, H a = none → (∀ B : Nat, (∀ k ∈ ns, 0 ≤ k ∧ k < (B : Int)) → m ≤ B) → Q (.ref a) (upd H a (SetO w a (fun z => decide (z ∈ ns)) m))
theorem cr_setI (hc : X.calm = true) : CallR X (.type "set") (rSetI X.K X.w) := by
  intro pins s σ H xs us Q I r h
  obtain ⟨l, ns, rfl, hl, hf, q⟩ := h
  rw [Vals.ref1 r]
  obtain ⟨its, rv, pl, hz⟩ := I.list hl
  have hn : H s.heap.objs.size = none := I.hok.fresh (Nat.le_refl _)
  refine set_of_list (P := X.prog) (w := X.w) (ns := ns) (I.ok.hd hc) pl.isList (by simpa using intsAre_of rv) (by unfold scanBound; omega) fun h' tk c R k => ?_
  exact ⟨.ref s.heap.objs.size, upd H s.heap.objs.size (SetO X.w s.heap.objs.size (fun z => decide (z ∈ ns)) c), I.laid (t' := tk) k (Nat.le_refl _) (setO_new R), rfl, q _ c hn fun B hB => setR_few R fun k hk => hB k (of_decide_eq_true hk)⟩
/-- sorted(set(a list of ints)) -/
theorem eh_sortedSet {w : World} {p : Addr} {ns : List Int} {B : Nat} (ha : Ev ta σ H (.ref p)) (h : SqL K H p (ns.map V.int)) (hl : ns.length ≤ 3000) (hb : ∀ k ∈ ns, 0 ≤ k ∧ k < (B : Int)) (hB : B < 64) :
    EvH (tCB (rSortedSet w) (tCons (tCB (rSetI K w) (tCons ta tNil)) tNil)) σ H (fun v H' => ∃ (q : Addr) (es : List Int), v = .ref q ∧ H' q = some (.lst (es.map V.int)) ∧ es.length ≤ B ∧ ∀ k : Int, k ∈ es ↔ k ∈ ns) := fun H1 e Q q =>
  ha H1 e _ fun H2 e2 => ⟨p, ns, rfl, ex_l (e.trans e2) h, hl, fun a m hn hm => ⟨a, _, m, rfl, upd_same, Nat.lt_of_le_of_lt (hm B hb) hB, fun es c pw hme hle hc => by
    have hf := fresh_back (Ex.new hn) hc
    exact q _ _ (e2.trans ((Ex.new hn).trans (Ex.new hc))) ⟨c, es, rfl, upd_same, by rw [hle]; exact hm B hb, fun k => (hme k).trans decide_eq_true_iff⟩⟩⟩
theorem el_cat {p : Addr} {xs ys : List V} (ha : Ev ta σ H (.ref p)) (hp : H p = some (.lst xs)) (hb : EvL tb σ H ys) (hz : xs.length + ys.length ≤ 100000) : EvL (tOp rCat ta tb) σ H (xs ++ ys) := fun H1 e Q k =>
  ha H1 e _ fun H2 e2 => hb H2 (e.trans e2) _ fun b H3 hb' e3 h3 => ⟨p, b, xs, ys, rfl, rfl, ((e.trans e2).trans e3) _ _ hp, h3, sz_of hz, fun c hc => k c _ (fresh_back (e2.trans e3) hc) ((e2.trans e3).trans (Ex.new hc)) upd_same⟩
theorem el_range {a b : Int} (ha : Ev ta σ H (.int a)) (hb : Ev tb σ H (.int b)) (h0 : 0 ≤ a ∧ a ≤ 100000 ∧ 0 ≤ b ∧ b ≤ 100000) : EvL (tLstRg (tRg2 ta tb)) σ H (rgV a b) := fun H1 e Q k =>
  ha H1 e _ fun H2 e2 => hb H2 (e.trans e2) _ fun H3 e3 => ⟨a, b, rfl, rfl, RgOk.of_le (by omega) (by omega) (by omega) (by omega), fun c hc => k c _ (fresh_back (e2.trans e3) hc) ((e2.trans e3).trans (Ex.new hc)) upd_same⟩
theorem rgV_eq (a b : Int) : rgV a b = ((List.range (b - a).toNat).map fun (i : Nat) => a + (i : Int)).map V.int := by
  unfold rgV
  rw [List.map_map]
  rfl
theorem inV_int (n : Int) : ∀ es : List Int, inV (.int n) (es.map V.int) = decide (n ∈ es)
  | [] => rfl
  | x :: es => by
    have ih := inV_int n es
    unfold inV at ih ⊢
    rw [List.map_cons, List.any_cons, ih, Bool.eq_iff_iff, Bool.or_eq_true, decide_eq_true_iff, decide_eq_true_iff, List.mem_cons]
    have : eqV (.int x) (.int n) = true ↔ n = x := by
      show (x == n) = true ↔ _
      rw [beq_iff_eq]
      exact eq_comm
    rw [this]
theorem ev_find {z y : Str} {i : Int} {tc : TE} (h1 : Ev ta σ H (.str z)) (h2 : Ev tb σ H (.str y)) (h3 : Ev tc σ H (.int i)) : Ev (tBM K "str" (fun x xs H Q => ∃ (a b : Str) (i : Int), x = V.str a ∧ xs = [.str b, .int i] ∧ Q (.int (Txt.find3 a b i)) H) ta (tCons tb (tCons tc tNil))) σ H (.int (Txt.find3 z y i)) := fun H1 e Q q =>
  h1 H1 e _ fun H2 e2 => ⟨rfl, h2 H2 (e.trans e2) _ fun H3 e3 => h3 H3 ((e.trans e2).trans e3) _ fun H4 e4 => ⟨z, y, i, rfl, rfl, q H4 ((e2.trans e3).trans e4)⟩⟩
theorem ev_starts {z y : Str} (h1 : Ev ta σ H (.str z)) (h2 : Ev tb σ H (.str y)) : Ev (tM1 (fun x xs H Q => ∃ a b, x = V.str a ∧ xs = [.str b] ∧ Q (.bl (Txt.startswith a b)) H) ta tb) σ H (.bl (Txt.startswith z y)) := fun H1 e Q q =>
  h1 H1 e _ fun H2 e2 => ⟨⟨z, rfl⟩, h2 H2 (e.trans e2) _ fun H3 e3 => ⟨z, y, rfl, rfl, q H3 (e2.trans e3)⟩⟩
theorem ev_ends {z y : Str} (h1 : Ev ta σ H (.str z)) (h2 : Ev tb σ H (.str y)) : Ev (tM1 (fun x xs H Q => ∃ a b, x = V.str a ∧ xs = [.str b] ∧ Q (.bl (Txt.endswith a b)) H) ta tb) σ H (.bl (Txt.endswith z y)) := fun H1 e Q q =>
  h1 H1 e _ fun H2 e2 => ⟨⟨z, rfl⟩, h2 H2 (e.trans e2) _ fun H3 e3 => ⟨z, y, rfl, rfl, q H3 (e2.trans e3)⟩⟩
end
/-! ### what a pattern asks -/
noncomputable def B (p : Prop) : Bool := @decide p (Classical.propDecidable p)
theorem B_true {p : Prop} (h : p) : B p = true := by unfold B; simp [h]
theorem B_false {p : Prop} (h : ¬ p) : B p = false := by unfold B; simp [h]
theorem B_iff {p q : Prop} (h : p ↔ q) : B p = B q := by rw [propext h]
theorem B_of {p : Prop} (h : B p = true) : p := Classical.byContradiction fun n => by rw [B_false n] at h; cases h
/-- m stands in l at i -/
def occ (l m : List Nat) (i : Nat) : Prop := i + m.length ≤ l.length ∧ (l.drop i).take m.length = m
theorem at_occ {l m : List Nat} {i : Nat} : StrLaws.At (SX.S l) (SX.S m) (SX.S l).length i ↔ occ l m i := by
  unfold StrLaws.At occ
  rw [StrLaws.subAt_eq, len_S, len_S]
  show _ ∧ ((l.drop i).take m.length == m) = true ↔ _
  rw [beq_iff_eq]
theorem occ_cons {l : List Nat} {c : Nat} {m : List Nat} {i : Nat} : occ l (c :: m) i ↔ l[i]? = some c ∧ occ l m (i + 1) := by
  unfold occ
  by_cases h : i < l.length
  · have hd : l.drop i = l[i] :: l.drop (i + 1) := List.drop_eq_getElem_cons h
    rw [hd, List.getElem?_eq_getElem h, List.length_cons, List.take_succ_cons, List.cons.injEq, Option.some.injEq]
    constructor
    · rintro ⟨h1, h2, h3⟩
      exact ⟨h2, by omega, h3⟩
    · rintro ⟨h1, h2, h3⟩
      exact ⟨by omega, h1, h3⟩
  · rw [List.getElem?_eq_none (by omega), List.length_cons]
    constructor
    · rintro ⟨h1, _⟩
      omega
    · rintro ⟨h1, _⟩
      cases h1
/-- one sign of a pattern -/
def stp (l : List Nat) (E : Nat → Prop) (c : Nat) : Nat → Prop := fun e => if c = 42 then ∃ a, E a ∧ a ≤ e ∧ e ≤ l.length else ∃ a, E a ∧ l[a]? = some c ∧ e = a + 1
def rch (l p : List Nat) : Nat → Prop := p.foldl (stp l) (fun e => e = 0)
theorem stp_lit {l m : List Nat} (hm : 42 ∉ m) : ∀ {E : Nat → Prop}, (∀ e, E e → e ≤ l.length) → ∀ e, m.foldl (stp l) E e ↔ ∃ a, E a ∧ occ l m a ∧ e = a + m.length := by
  induction m with
  | nil =>
    intro E hE e
    constructor
    · intro h
      exact ⟨e, h, ⟨hE e h, rfl⟩, rfl⟩
    · rintro ⟨a, h, _, rfl⟩
      exact h
  | cons c m ih =>
    intro E hE e
    have hc : ¬ c = 42 := fun h => hm (by rw [h]; exact List.mem_cons_self ..)
    have hle : ∀ e, stp l E c e → e ≤ l.length := fun e h => by
      unfold stp at h
      rw [if_neg hc] at h
      obtain ⟨a, _, h2, rfl⟩ := h
      exact len_lt h2
    rw [List.foldl_cons, ih (fun h => hm (List.mem_cons_of_mem _ h)) hle]
    unfold stp
    constructor
    · rintro ⟨a, h, ho, rfl⟩
      rw [if_neg hc] at h
      obtain ⟨b, h1, h2, rfl⟩ := h
      exact ⟨b, h1, occ_cons.mpr ⟨h2, ho⟩, by rw [List.length_cons]; omega⟩
    · rintro ⟨b, h1, ho, rfl⟩
      obtain ⟨h2, h3⟩ := occ_cons.mp ho
      exact ⟨b + 1, by rw [if_neg hc]; exact ⟨b, h1, h2, rfl⟩, h3, by rw [List.length_cons]; omega⟩
theorem lit_le {l m : List Nat} {E : Nat → Prop} : ∀ e, (∃ a, E a ∧ occ l m a ∧ e = a + m.length) → e ≤ l.length := by
  rintro e ⟨a, _, h, rfl⟩
  exact h.1
/-- stars and texts after -/
def stars (l : List Nat) : List (List Nat) → (Nat → Prop) → Nat → Prop
  | [], E => E
  | m :: r, E => stars l r fun e => ∃ b, (∃ a, E a ∧ a ≤ b ∧ b ≤ l.length) ∧ occ l m b ∧ e = b + m.length
theorem joinL_cons (m : List Nat) (n : List Nat) (r : List (List Nat)) : TL.joinL [42] (m :: n :: r) = m ++ 42 :: TL.joinL [42] (n :: r) := rfl
theorem fold_parts (l : List Nat) : ∀ (r : List (List Nat)) (m : List Nat) (E : Nat → Prop), (∀ p ∈ m :: r, 42 ∉ p) → (∀ e, E e → e ≤ l.length) → ∀ e, (TL.joinL [42] (m :: r)).foldl (stp l) E e ↔ stars l r (fun e => ∃ a, E a ∧ occ l m a ∧ e = a + m.length) e
  | [], m, E, hp, hE, e => stp_lit (hp m (List.mem_cons_self ..)) hE e
  | n :: r, m, E, hp, hE, e => by
    rw [joinL_cons, List.foldl_append, List.foldl_cons]
    have h1 : m.foldl (stp l) E = fun e => ∃ a, E a ∧ occ l m a ∧ e = a + m.length := funext fun e => propext (stp_lit (hp m (List.mem_cons_self ..)) hE e)
    rw [h1]
    have h2 : stp l (fun e => ∃ a, E a ∧ occ l m a ∧ e = a + m.length) 42 = fun e => ∃ a, (∃ z, E z ∧ occ l m z ∧ a = z + m.length) ∧ a ≤ e ∧ e ≤ l.length := funext fun e => if_pos rfl
    rw [h2]
    exact fold_parts l r n _ (fun p hp' => hp p (List.mem_cons_of_mem _ hp')) (fun e ⟨_, _, _, h⟩ => h) e
/-- the texts in their order, each behind the one before, within the first b signs -/
def chn (l : List Nat) (b : Nat) : List (List Nat) → Nat → Prop
  | [], a => a ≤ b
  | m :: r, a => ∃ j, a ≤ j ∧ occ l m j ∧ chn l b r (j + m.length)
theorem chn_le {l : List Nat} {b : Nat} : ∀ {r : List (List Nat)} {a : Nat}, chn l b r a → a ≤ b
  | [], _, h => h
  | m :: r, a, h => by
    obtain ⟨j, h1, _, h2⟩ := h
    have := chn_le h2
    omega
theorem chn_mono {l : List Nat} {b : Nat} : ∀ {r : List (List Nat)} {a a' : Nat}, a' ≤ a → chn l b r a → chn l b r a'
  | [], _, _, h, h1 => Nat.le_trans h h1
  | m :: r, a, a', h, ⟨j, h1, h2, h3⟩ => ⟨j, Nat.le_trans h h1, h2, h3⟩
theorem stars_chn {l : List Nat} {b : Nat} (hb : b ≤ l.length) : ∀ (r : List (List Nat)) (E : Nat → Prop), (∃ a, stars l r E a ∧ a ≤ b) ↔ ∃ a, E a ∧ chn l b r a
  | [], E => Iff.rfl
  | m :: r, E => by
    refine (stars_chn hb r _).trans ?_
    constructor
    · rintro ⟨e, ⟨j, ⟨a, h1, h2, h3⟩, h4, rfl⟩, h5⟩
      exact ⟨a, h1, j, h2, h4, h5⟩
    · rintro ⟨a, h1, j, h2, h4, h5⟩
      exact ⟨j + m.length, ⟨j, ⟨a, h1, h2, by have := h4.1; omega⟩, h4, rfl⟩, h5⟩
theorem stars_snoc (l last : List Nat) : ∀ (r : List (List Nat)) (E : Nat → Prop) (e : Nat), stars l (r ++ [last]) E e ↔ ∃ b, (∃ a, stars l r E a ∧ a ≤ b ∧ b ≤ l.length) ∧ occ l last b ∧ e = b + last.length
  | [], E, e => Iff.rfl
  | m :: r, E, e => stars_snoc l last r _ e
/-- a cut text -/
theorem occ_cut {l m : List Nat} {s b j : Nat} (hs : s ≤ b) (hb : b ≤ l.length) : occ ((l.drop s).take (b - s)) m j ↔ occ l m (s + j) ∧ s + j + m.length ≤ b := by
  unfold occ
  have hl : ((l.drop s).take (b - s)).length = b - s := by
    rw [List.length_take, List.length_drop]
    omega
  rw [hl]
  by_cases h : j + m.length ≤ b - s
  · have e : (((l.drop s).take (b - s)).drop j).take m.length = (l.drop (s + j)).take m.length := by
      rw [List.drop_take, List.take_take, List.drop_drop, Nat.min_eq_left (by omega)]
    rw [e]
    constructor
    · rintro ⟨h1, h2⟩
      exact ⟨⟨by omega, h2⟩, by omega⟩
    · rintro ⟨⟨h1, h2⟩, h3⟩
      exact ⟨by omega, h2⟩
  · constructor
    · rintro ⟨h1, _⟩
      omega
    · rintro ⟨_, h1⟩
      omega
theorem chn_cut {l : List Nat} {s b : Nat} (hs : s ≤ b) (hb : b ≤ l.length) : ∀ (r : List (List Nat)) (a : Nat), chn ((l.drop s).take (b - s)) (b - s) r a ↔ chn l b r (s + a)
  | [], a => by
    show a ≤ b - s ↔ s + a ≤ b
    omega
  | m :: r, a => by
    constructor
    · rintro ⟨j, h1, h2, h3⟩
      have h3' := (chn_cut hs hb r _).mp h3
      refine ⟨s + j, by omega, ((occ_cut hs hb).mp h2).1, ?_⟩
      rw [Nat.add_assoc]
      exact h3'
    · rintro ⟨j, h1, h2, h3⟩
      have hle := chn_le h3
      have ej : j = s + (j - s) := by omega
      refine ⟨j - s, by omega, (occ_cut hs hb).mpr ⟨by rw [← ej]; exact h2, by omega⟩, (chn_cut hs hb r _).mpr ?_⟩
      rw [show s + (j - s + m.length) = j + m.length by omega]
      exact h3
/-- the whole -/
theorem rch_parts {l first last : List Nat} {mid : List (List Nat)} (hp : ∀ p ∈ first :: (mid ++ [last]), 42 ∉ p) :
    rch l (TL.joinL [42] (first :: (mid ++ [last]))) l.length ↔ first.length + last.length ≤ l.length ∧ occ l first 0 ∧ occ l last (l.length - last.length) ∧ chn ((l.drop first.length).take (l.length - last.length - first.length)) (l.length - last.length - first.length) mid 0 := by
  unfold rch
  rw [fold_parts l (mid ++ [last]) first _ hp (fun e h => by omega), stars_snoc]
  constructor
  · rintro ⟨b, ⟨a, h1, h2, h3⟩, h4, h5⟩
    have eb : b = l.length - last.length := by omega
    obtain ⟨s, ⟨z, rfl, h6, rfl⟩, h7⟩ := (stars_chn h3 mid _).mp ⟨a, h1, h2⟩
    rw [Nat.zero_add] at h7
    have hle := chn_le h7
    refine ⟨by omega, h6, by rw [← eb]; exact h4, ?_⟩
    rw [← eb]
    refine (chn_cut hle h3 mid 0).mpr ?_
    exact h7
  · rintro ⟨h0, h1, h2, h3⟩
    have hb : l.length - last.length ≤ l.length := by omega
    have h4 := (chn_cut (by omega) hb mid 0).mp h3
    obtain ⟨a, h5, h6⟩ := (stars_chn hb mid (fun e => ∃ a, a = 0 ∧ occ l first a ∧ e = a + first.length)).mpr ⟨first.length, ⟨0, rfl, h1, by omega⟩, h4⟩
    exact ⟨l.length - last.length, ⟨a, h5, h6, hb⟩, h2, by omega⟩
theorem rch_one {l first : List Nat} (hp : 42 ∉ first) : rch l first l.length ↔ first = l := by
  unfold rch
  rw [stp_lit hp (fun e h => by omega)]
  constructor
  · rintro ⟨a, rfl, h1, h2⟩
    have h3 := h1.2
    rw [List.drop_zero, List.take_of_length_le (by omega)] at h3
    exact h3.symm
  · rintro rfl
    exact ⟨0, rfl, ⟨by omega, by rw [List.drop_zero, List.take_of_length_le (Nat.le_refl _)]⟩, by omega⟩
theorem rch_le {l p : List Nat} {e : Nat} (h : rch l p e) : e ≤ l.length := by
  have key : ∀ (p : List Nat) (E : Nat → Prop), (∀ e, E e → e ≤ l.length) → ∀ e, p.foldl (stp l) E e → e ≤ l.length := by
    intro p
    induction p with
    | nil => intro E hE e h; exact hE e h
    | cons c p ih =>
      intro E hE e h
      refine ih _ (fun e h => ?_) e h
      unfold stp at h
      split at h
      · obtain ⟨_, _, _, h⟩ := h
        exact h
      · obtain ⟨a, _, h, rfl⟩ := h
        exact len_lt h
  exact key p _ (fun e h => by omega) e h
theorem rch_snoc (l p : List Nat) (c : Nat) : rch l (p ++ [c]) = stp l (rch l p) c := by
  unfold rch
  rw [List.foldl_append]
  rfl
theorem find_spec (l m : List Nat) (i : Nat) (hi : i ≤ l.length) : (Txt.find3 (SX.S l) (SX.S m) (i : Int) = -1 ∧ ∀ j, i ≤ j → ¬ occ l m j) ∨ ∃ k : Nat, Txt.find3 (SX.S l) (SX.S m) (i : Int) = (k : Int) ∧ i ≤ k ∧ occ l m k ∧ ∀ j, i ≤ j → j < k → ¬ occ l m j := by
  have hf : PySem.fromIndex (SX.S l).length (i : Int) = i := by
    unfold PySem.fromIndex
    rw [if_neg (by omega)]
    omega
  unfold Txt.find3
  rw [hf]
  rcases StrLaws.occ_head_from (SX.S l) (SX.S m) i 1 (Nat.le_refl 1) with ⟨h0, hn⟩ | ⟨k, r, h0, hlo, hk, hn⟩
  · rw [h0]
    exact .inl ⟨rfl, fun j hj h => hn j hj (at_occ.mpr h)⟩
  · rw [h0]
    exact .inr ⟨k, rfl, hlo, at_occ.mp hk, fun j h1 h2 h => hn j h1 h2 (at_occ.mpr h)⟩
theorem chn_find {l m : List Nat} {b i k : Nat} {r : List (List Nat)} (h1 : i ≤ k) (h2 : occ l m k) (h3 : ∀ j, i ≤ j → j < k → ¬ occ l m j) : chn l b (m :: r) i ↔ chn l b r (k + m.length) := by
  constructor
  · rintro ⟨j, a1, a2, a3⟩
    have : k ≤ j := Nat.le_of_not_lt fun h => h3 j a1 h a2
    exact chn_mono (by omega) a3
  · intro h
    exact ⟨k, h1, h2, h⟩
theorem starts_S (l m : List Nat) : Txt.startswith (SX.S l) (SX.S m) = B (occ l m 0) := by
  have h : Txt.startswith (SX.S l) (SX.S m) = true ↔ occ l m 0 := by
    unfold Txt.startswith
    rw [Bool.and_eq_true, decide_eq_true_iff]
    exact at_occ
  cases hb : Txt.startswith (SX.S l) (SX.S m) with
  | true => exact (B_true (h.mp hb)).symm
  | false => exact (B_false fun ho => by rw [h.mpr ho] at hb; cases hb).symm
theorem ends_S {l m : List Nat} (hl : m.length ≤ l.length) : Txt.endswith (SX.S l) (SX.S m) = B (occ l m (l.length - m.length)) := by
  have h : Txt.endswith (SX.S l) (SX.S m) = true ↔ occ l m (l.length - m.length) := by
    unfold Txt.endswith
    rw [Bool.and_eq_true, decide_eq_true_iff, len_S, len_S, StrLaws.subAt_eq, len_S]
    show _ ∧ ((l.drop (l.length - m.length)).take m.length == m) = true ↔ _
    rw [beq_iff_eq]
    unfold occ
    constructor
    · rintro ⟨_, h2⟩
      exact ⟨by omega, h2⟩
    · rintro ⟨_, h2⟩
      exact ⟨by omega, h2⟩
  cases hb : Txt.endswith (SX.S l) (SX.S m) with
  | true => exact (B_true (h.mp hb)).symm
  | false => exact (B_false fun ho => by rw [h.mpr ho] at hb; cases hb).symm
theorem join_star : ∀ (l acc : List Nat), 42 ∉ acc → TL.joinL [42] (TL.spl [42] 0 acc l) = acc ++ l ∧ TL.spl [42] 0 acc l ≠ [] ∧ ∀ p ∈ TL.spl [42] 0 acc l, 42 ∉ p
  | [], acc, ha => by
    rw [TL.spl_nil]
    exact ⟨(List.append_nil acc).symm, by simp, fun p hp => by rw [List.mem_singleton.mp hp]; exact ha⟩
  | c :: r, acc, ha => by
    by_cases h : TL.pre [42] (c :: r) = true
    · have hc : c = 42 := by
        simp [TL.pre] at h
        exact h
      rw [TL.spl_hit h]
      show TL.joinL [42] (acc :: TL.spl [42] 0 [] r) = acc ++ c :: r ∧ _
      obtain ⟨i1, i2, i3⟩ := join_star r [] (by simp)
      refine ⟨?_, by simp, fun p hp => ?_⟩
      · cases hs : TL.spl [42] 0 [] r with
        | nil => exact absurd hs i2
        | cons x xs =>
          show acc ++ ([42] ++ TL.joinL [42] (x :: xs)) = _
          rw [← hs, i1, hc]
          rfl
      · rcases List.mem_cons.mp hp with h | h
        · rw [h]
          exact ha
        · exact i3 p h
    · have h' : TL.pre [42] (c :: r) = false := by
        cases hb : TL.pre [42] (c :: r) with
        | true => exact absurd hb h
        | false => rfl
      have hc : c ≠ 42 := fun hc => h (by rw [hc]; simp [TL.pre])
      rw [TL.spl_miss h']
      obtain ⟨i1, i2, i3⟩ := join_star r (acc ++ [c]) (by
        rw [List.mem_append, List.mem_singleton]
        rintro (h | h)
        · exact ha h
        · exact hc h.symm)
      exact ⟨by rw [i1, List.append_assoc]; rfl, i2, i3⟩
/-! ### the defs -/
section
variable {K : PySem.W.Frag} {σ : L2.St} {H : Hp} {te : TE} {z : V}
theorem ev_callL {sp : Sp} {dvs : List V} {E : XK} {tr : TA} {xs vs : List V} (h : EvL te σ H xs) (hr : ∀ p H1, Ex H H1 → H1 p = some (.lst xs) → EvA tr σ H1 vs) (hs : ∀ p H1, Ex H H1 → H1 p = some (.lst xs) → SpV sp (.ref p :: (vs ++ dvs)) H1 z) : Ev (tCall sp dvs E (tCons te tr)) σ H z := fun H1 e Q q =>
  h H1 e _ fun p H2 _ e2 h2 => hr p H2 (e.trans e2) h2 H2 (Ex.refl H2) _ fun H3 e3 => hs p H2 (e.trans e2) h2 H3 e3 Q (fun H4 e4 => q H4 ((e2.trans e3).trans e4)) E
theorem sIx_last {n d : Nat} (h : 1 ≤ n) : HT.sIx n d (some (-1)) = n - 1 := by
  unfold HT.sIx
  simp
  omega
end
def uvs (un : List (List Nat)) : List V := un.map fun l => V.str (SX.S l)
theorem uvs_at {un : List (List Nat)} {i : Nat} {x : V} (h : (uvs un)[i]? = some x) : ∃ l, un[i]? = some l ∧ x = V.str (SX.S l) := by
  unfold uvs at h
  rw [List.getElem?_map] at h
  cases e : un[i]? with
  | none => rw [e] at h; cases h
  | some q => rw [e] at h; exact ⟨q, rfl, (Option.some.inj h).symm⟩
theorem uvs_len (un : List (List Nat)) : (uvs un).length = un.length := List.length_map ..
theorem split_star (p : List Nat) : (Txt.split (SX.S p) (SX.S [42])).map V.str = uvs (TL.spl [42] 0 [] p) := by
  rw [SX.split_S (by simp) (by decide), List.map_map]
  rfl
theorem cut_inner (first last : List Nat) (mid : List (List Nat)) : cutV (uvs (first :: (mid ++ [last]))) (some 1) (some (-1)) = uvs mid := by
  have h1 : HT.sIx (uvs (first :: (mid ++ [last]))).length 0 (some 1) = 1 := by
    have := HT.sIx_nat (uvs (first :: (mid ++ [last]))).length 0 1
    rw [uvs_len, List.length_cons, List.length_append] at this ⊢
    rw [show ((1 : Nat) : Int) = 1 from rfl] at this
    rw [this]
    omega
  unfold cutV
  rw [h1, sIx_last (by rw [uvs_len]; simp), uvs_len]
  show ((uvs (mid ++ [last])).take _) = uvs mid
  unfold uvs
  rw [List.map_append, List.length_cons, List.length_append, List.length_singleton, List.take_append_of_le_length (by rw [List.length_map]; omega), List.take_of_length_le (by rw [List.length_map]; omega)]
theorem joinL_mem : ∀ {ps : List (List Nat)} {p : List Nat}, p ∈ ps → p.length ≤ (TL.joinL [42] ps).length
  | [], _, h => by cases h
  | [m], p, h => by
    rw [List.mem_singleton.mp h]
    exact Nat.le_refl _
  | m :: n :: r, p, h => by
    rw [joinL_cons, List.length_append, List.length_cons]
    rcases List.mem_cons.mp h with e | e
    · rw [e]
      omega
    · have := joinL_mem (ps := n :: r) e
      omega
abbrev sp_law_cells := spCells
def wrd (cs : List Int) (i j : Nat) (menu : List Nat) : List Nat := (List.range j).map fun k => menu.getD (cs.getD (i + k) 0 % (menu.length : Int)).toNat 0
theorem wrd_len {cs : List Int} {i j : Nat} {menu : List Nat} : (wrd cs i j menu).length = j := by unfold wrd; rw [List.length_map, List.length_range]
def sp_follow_in_order (K : PySem.W.Frag) : Sp := fun vs H Q _ => ∃ (a : Addr) (ms : List (List Nat)) (l : List Nat), vs = [.ref a, .str (SX.S l)] ∧ SqL K H a (uvs ms) ∧ l.length ≤ 200 ∧ (∀ m ∈ ms, m.length ≤ 200) ∧ RetV (.bl (B (chn l l.length ms 0))) H Q
def sp_matches (K : PySem.W.Frag) : Sp := fun vs H Q _ => ∃ p l : List Nat, vs = [.str (SX.S p), .str (SX.S l)] ∧ p.length ≤ 200 ∧ l.length ≤ 200 ∧ RetV (.bl (B (rch l p l.length))) H Q
def sp_ignored (K : PySem.W.Frag) : Sp := fun vs H Q _ => ∃ (a : Addr) (ps : List (List Nat)) (l : List Nat), vs = [.ref a, .str (SX.S l)] ∧ SqL K H a (uvs ps) ∧ l.length ≤ 200 ∧ (∀ m ∈ ps, m.length ≤ 200) ∧ RetV (.bl (ps.any fun p => B (rch l p l.length))) H Q
def sp_law_word (K : PySem.W.Frag) : Sp := fun vs H Q _ => ∃ (p : Addr) (cs : List Int) (i j : Nat) (menu : List Nat), vs = [.ref p, .int (i : Int), .int (j : Int), .str (SX.S menu)] ∧ SqL K H p (cs.map V.int) ∧ i + j ≤ cs.length ∧ j ≤ 100 ∧ 0 < menu.length ∧ menu.length ≤ 100 ∧ RetV (.str (SX.S (wrd cs i j menu))) H Q
def sp_law_matches (K : PySem.W.Frag) : Sp := fun vs H Q _ => ∃ p l : List Nat, vs = [.str (SX.S p), .str (SX.S l)] ∧ p.length ≤ 200 ∧ l.length ≤ 40 ∧ RetV (.bl (B (rch l p l.length))) H Q
theorem sp_fo {K : PySem.W.Frag} {H : Hp} {a : Addr} {ms : List (List Nat)} {l : List Nat} (h : SqL K H a (uvs ms)) (hl : l.length ≤ 200) (hm : ∀ m ∈ ms, m.length ≤ 200) : SpV (sp_follow_in_order K) [.ref a, .str (SX.S l)] H (.bl (B (chn l l.length ms 0))) := fun H1 e Q q E => ⟨a, ms, l, rfl, ex_l e h, hl, hm, fun H2 e2 => q H2 e2⟩
theorem sp_ma {K : PySem.W.Frag} {H : Hp} {p l : List Nat} (hp : p.length ≤ 200) (hl : l.length ≤ 200) : SpV (sp_matches K) [.str (SX.S p), .str (SX.S l)] H (.bl (B (rch l p l.length))) := fun H1 e Q q E => ⟨p, l, rfl, hp, hl, fun H2 e2 => q H2 e2⟩
theorem sp_lm {K : PySem.W.Frag} {H : Hp} {p l : List Nat} (hp : p.length ≤ 200) (hl : l.length ≤ 40) : SpV (sp_law_matches K) [.str (SX.S p), .str (SX.S l)] H (.bl (B (rch l p l.length))) := fun H1 e Q q E => ⟨p, l, rfl, hp, hl, fun H2 e2 => q H2 e2⟩
theorem sp_ig {K : PySem.W.Frag} {H : Hp} {a : Addr} {ps : List (List Nat)} {l : List Nat} (h : SqL K H a (uvs ps)) (hl : l.length ≤ 200) (hm : ∀ m ∈ ps, m.length ≤ 200) : SpV (sp_ignored K) [.ref a, .str (SX.S l)] H (.bl (ps.any fun p => B (rch l p l.length))) := fun H1 e Q q E => ⟨a, ps, l, rfl, ex_l e h, hl, hm, fun H2 e2 => q H2 e2⟩
theorem sp_wd {K : PySem.W.Frag} {H : Hp} {p : Addr} {cs : List Int} {i j : Nat} {menu : List Nat} (h : SqL K H p (cs.map V.int)) (h1 : i + j ≤ cs.length) (h2 : j ≤ 100) (h3 : 0 < menu.length) (h4 : menu.length ≤ 100) : SpV (sp_law_word K) [.ref p, .int (i : Int), .int (j : Int), .str (SX.S menu)] H (.str (SX.S (wrd cs i j menu))) := fun H1 e Q q E => ⟨p, cs, i, j, menu, rfl, ex_l e h, h1, h2, h3, h4, fun H2 e2 => q H2 e2⟩
section
variable {P : Program} {w : World} {K : PySem.W.Frag} {mg : Str → Option Value} {base : Heap}
/-! ### matches -/
theorem ok_matches (D : Df K mg "matches" s_matches ["pattern", "name"]) (T : Txt K mg) (G_follow_in_order : C8.Cal P w K mg base 1 "follow_in_order" (sp_follow_in_order K) []) : C8.Cal P w K mg base 2 "matches" (sp_matches K) [] := by
  refine D.cal sc_matches (fun vs H Q E h => ?_) (fun f cdv A outer s H vs Q E hr h => ?_)
  · obtain ⟨p, l, rfl, _⟩ := h
    rfl
  · obtain ⟨p, l, rfl, hp, hl, q⟩ := h
    refine ⟨_,
        (pss_cons (ps_set (i := 2) sc_matches.nd rfl (.inl rfl) (pe_split (pv 0) pe_str))
        (pss_cons (ps_if (pt_cmpR op_eq (pe_callB call_len_seq (by rfl) T.n_len PySem.boot_len (pa_cons (pv 2) pa_nil)) pe_int (nomark _))
          (pss_one (ps_ret (pe_cmpR op_eq (pv 0) (pv 1) (nomark _))))
          pss_nil)
        (pss_cons (ps_set (i := 3) sc_matches.nd rfl (.inl rfl) (pe_ix ix_list (pv 2) pe_int (fun _ _ => rfl)))
        (pss_cons (ps_set (i := 4) sc_matches.nd rfl (.inl rfl) (pe_ix ix_list (pv 2) (pe_un un_neg pe_int) (fun _ _ => rfl)))
        (pss_cons (ps_if (pt_cmpR op_lt (pe_callB call_len_str (by rfl) T.n_len PySem.boot_len (pa_cons (pv 1) pa_nil)) (pe_op op_add (pe_callB call_len_str (by rfl) T.n_len PySem.boot_len (pa_cons (pv 3) pa_nil)) (pe_callB call_len_str (by rfl) T.n_len PySem.boot_len (pa_cons (pv 4) pa_nil))) (nomark _))
          (pss_one (ps_ret pe_bl))
          pss_nil)
        (pss_cons (ps_if (PW.pt (pw_or (pt_not (pt_val (pe_m1 PySem.F.slot_str_startswith PySem.F.type_str_startswith mt_startswith (pv 1) (pv 3)))) (pw_or1 (pt_not (pt_val (pe_m1 PySem.F.slot_str_endswith PySem.F.type_str_endswith mt_endswith (pv 1) (pv 4)))))))
          (pss_one (ps_ret pe_bl))
          pss_nil)
        (pss_one (ps_ret (C8.pe_c G_follow_in_order hr (by decide) (by rfl) (pa_cons (pe_slice sl_list (pv 2) (po_some pe_int) (po_some (pe_un un_neg pe_int))) (pa_cons (pe_slice sl_str (pv 1) (po_some (pe_callB call_len_str (by rfl) T.n_len PySem.boot_len (pa_cons (pv 3) pa_nil))) (po_some (pe_op op_sub (pe_callB call_len_str (by rfl) T.n_len PySem.boot_len (pa_cons (pv 1) pa_nil)) (pe_callB call_len_str (by rfl) T.n_len PySem.boot_len (pa_cons (pv 4) pa_nil))))) pa_nil))))))))))), ?_⟩
    have hzp : (SX.S p).length ≤ 90000 := by rw [len_S]; omega
    have hzl : (SX.S l).length ≤ 100000 := by rw [len_S]; omega
    obtain ⟨j1, j2, j3⟩ := join_star p [] (by simp)
    rw [List.nil_append] at j1
    refine q_asgL (xs := uvs (TL.spl [42] 0 [] p)) (by rw [← split_star]; exact el_split (ev_var rfl) (ev_is ev_c (congrArg V.str (show Str.ofString "*" = SX.S [42] by decide +kernel))) (by decide) hzp) fun p2 H2 hp2 e2 h2 => ?_
    generalize hpt : TL.spl [42] 0 [] p = pts at h2 j1 j2 j3
    have hS2 := sq_of (K := K) h2
    refine q_when (b := decide (pts.length = 1)) (et_is (et_test (ev_op (ev_len (ev_var rfl) hS2) ev_c (rv_eq rfl))) (by rw [uvs_len]; exact decide_eq_decide.mpr ⟨fun h => by have := V.int.inj h; omega, fun h => by rw [h]; rfl⟩)) (fun hb H3 e3 => ?_) (fun hb H3 e3 => ?_)
    · obtain ⟨m, rfl⟩ := List.length_eq_one_iff.mp (of_decide_eq_true hb)
      have em : m = p := j1
      have hno : 42 ∉ p := em ▸ j3 m (List.mem_cons_self ..)
      refine s_ret (ev_is (ev_op (ev_var rfl) (ev_var rfl) (rv_eq rfl)) (congrArg V.bl ?_)) fun H4 e4 => q H4 ((e2.trans e3).trans e4)
      rw [eq_S, B_iff (rch_one hno)]
      by_cases h : p = l
      · rw [decide_eq_true h, B_true h]
      · rw [decide_eq_false h, B_false h]
    · have hne1 := of_decide_eq_false hb
      obtain ⟨first, rest, rfl⟩ := List.exists_cons_of_ne_nil j2
      have hrest : rest ≠ [] := fun h => hne1 (by rw [h]; rfl)
      obtain ⟨mid, last, rfl⟩ : ∃ mid last, rest = mid ++ [last] := ⟨_, _, (List.dropLast_concat_getLast hrest).symm⟩
      have hps : ∀ m ∈ first :: (mid ++ [last]), m.length ≤ 200 := fun m hm => by
        have := joinL_mem hm
        rw [j1] at this
        omega
      have hf := hps first (by simp)
      have hla := hps last (by simp)
      have main := rch_parts (l := l) (first := first) (last := last) (mid := mid) j3
      rw [j1] at main
      have hS3 := ex_l e3 hS2
      refine q_asg (ev_op (ev_var rfl) ev_c (rv_ixL (v := V.str (SX.S first)) hS3 (atI_nat (j := 0) rfl))) fun H4 e4 => ?_
      have hlast : atI (uvs (first :: (mid ++ [last]))) (-1) = some (V.str (SX.S last)) := by
        have e : uvs (first :: (mid ++ [last])) = uvs (first :: mid) ++ [V.str (SX.S last)] := by
          unfold uvs
          rw [← List.cons_append, List.map_append]
          rfl
        rw [e]
        exact atI_last _ _
      refine q_asg (ev_op (ev_var rfl) (ev_un ev_c ru_neg) (rv_ixL (v := V.str (SX.S last)) (ex_l e4 hS3) hlast)) fun H5 e5 => ?_
      have hzf : (SX.S first).length ≤ 100000 := by rw [len_S]; omega
      have hza : (SX.S last).length ≤ 100000 := by rw [len_S]; omega
      have e15 := ((e2.trans e3).trans e4).trans e5
      refine q_when (b := decide (l.length < first.length + last.length)) (et_is (et_test (ev_op (ev_cb (ea_cons (ev_var rfl) ea_nil) (rc_lenStr hzl)) (ev_op (ev_cb (ea_cons (ev_var rfl) ea_nil) (rc_lenStr hzf)) (ev_cb (ea_cons (ev_var rfl) ea_nil) (rc_lenStr hza)) rv_I0) rv_I0)) (by rw [len_S, len_S, len_S]; exact decide_eq_decide.mpr (by omega))) (fun hb H6 e6 => ?_) (fun hb H6 e6 => ?_)
      · have hlt := of_decide_eq_true hb
        refine s_ret ev_c fun H7 e7 => ?_
        have g := q H7 ((e15.trans e6).trans e7)
        rw [B_false (fun h => by have := (main.mp h).1; omega)] at g
        exact g
      · have hge := of_decide_eq_false hb
        refine q_when (b := !(B (occ l first 0) && B (occ l last (l.length - last.length)))) (et_is (et_or (et_not (et_B (ev_starts (ev_var rfl) (ev_var rfl)))) (fun _ => et_not (et_B (ev_ends (ev_var rfl) (ev_var rfl))))) (by rw [starts_S, ends_S (by omega)]; cases B (occ l first 0) <;> cases B (occ l last (l.length - last.length)) <;> rfl)) (fun hb H7 e7 => ?_) (fun hb H7 e7 => ?_)
        · refine s_ret ev_c fun H8 e8 => ?_
          have g := q H8 (((e15.trans e6).trans e7).trans e8)
          rw [B_false (fun h => by
            have h' := main.mp h
            rw [B_true h'.2.1, B_true h'.2.2.1] at hb
            cases hb)] at g
          exact g
        · rw [Bool.not_eq_false', Bool.and_eq_true] at hb
          have ho1 := B_of hb.1
          have ho2 := B_of hb.2
          have hz' : ((l.drop first.length).take (l.length - last.length - first.length)).length = l.length - last.length - first.length := by
            rw [List.length_take, List.length_drop]
            omega
          have hval : B (rch l p l.length) = B (chn ((l.drop first.length).take (l.length - last.length - first.length)) ((l.drop first.length).take (l.length - last.length - first.length)).length mid 0) := by
            rw [hz']
            exact B_iff ⟨fun h => (main.mp h).2.2.2, fun h => main.mpr ⟨by omega, ho1, ho2, h⟩⟩
          have hS7 := ex_l (((e3.trans e4).trans e5).trans (e6.trans e7)) hS2
          have hcut : EvL (tSl (rSlL K) (tVar 2) (tPart (tC (.int 1))) (tPart (tUn (rU fun i => .int (-i)) (tC (.int 1))))) [some (.str (SX.S p)), some (.str (SX.S l)), some (.ref p2), some (.str (SX.S first)), some (.str (SX.S last))] H7 (uvs mid) := by
            have h := el_sl (K := K) (te := tVar 2) (σ := [some (.str (SX.S p)), some (.str (SX.S l)), some (.ref p2), some (.str (SX.S first)), some (.str (SX.S last))]) (H := H7) (ev_var rfl) (eo_some (te := tC (.int 1)) (i := 1) ev_c) (eo_some (te := tUn (rU fun i => .int (-i)) (tC (.int 1))) (i := -1) (ev_un ev_c ru_neg)) hS7
            rw [cut_inner] at h
            exact h
          refine s_ret (ev_callL hcut (fun pz H8 e8 h8 => ea_cons (ev_is (ev_cutS (ev_var rfl) (eo_some (ev_is (ev_cb (ea_cons (ev_var rfl) ea_nil) (rc_lenStr hzf)) (show _ = V.int ((first.length : Nat) : Int) by rw [len_S]))) (eo_some (ev_is (ev_op (ev_cb (ea_cons (ev_var rfl) ea_nil) (rc_lenStr hzl)) (ev_cb (ea_cons (ev_var rfl) ea_nil) (rc_lenStr hza)) rv_I0) (show _ = V.int ((l.length - last.length : Nat) : Int) by rw [len_S, len_S]; exact congrArg V.int (by omega)))) hzl) (congrArg V.str (cut_mid l first.length (l.length - last.length)))) ea_nil) (fun pz H8 e8 h8 => sp_fo (sq_of h8) (by rw [hz']; omega) (fun m hm => hps m (by simp [hm])))) fun H9 e9 => ?_
          have g := q H9 (((e15.trans e6).trans e7).trans e9)
          rw [hval] at g
          exact g

/-! ### follow_in_order -/
theorem ok_follow_in_order (D : Df K mg "follow_in_order" s_follow_in_order ["parts", "text"]) (T : Txt K mg)  : C8.Cal P w K mg base 1 "follow_in_order" (sp_follow_in_order K) [] := by
  refine D.cal sc_follow_in_order (fun vs H Q E h => ?_) (fun f cdv A outer s H vs Q E hr h => ?_)
  · obtain ⟨a, ms, l, rfl, _⟩ := h
    rfl
  · obtain ⟨a, ms, l, rfl, hS, hl, hm, q⟩ := h
    refine ⟨_,
        (pss_cons (ps_set (i := 2) sc_follow_in_order.nd rfl (.inl rfl) pe_int)
        (pss_cons (ps_for PassesOwn.never rfl (pi_list (pv 0)) (pg_name (i := 3) sc_follow_in_order.nd rfl (.inl rfl))
          (pss_cons (ps_set (i := 4) sc_follow_in_order.nd rfl (.inl rfl) (pe_bm PySem.F.plainAttrs_str PySem.F.slot_str_find PySem.F.type_str_find mt_find3 (pv 1) (pa_cons (pv 3) (pa_cons (pv 2) pa_nil))))
          (pss_cons (ps_if (pt_cmpR op_lt (pv 4) pe_int (nomark _))
            (pss_one (ps_ret pe_bl))
            pss_nil)
          (pss_one (ps_set (i := 2) sc_follow_in_order.nd rfl (.inl rfl) (pe_op op_add (pv 4) (pe_callB call_len_str (by rfl) T.n_len PySem.boot_len (pa_cons (pv 3) pa_nil))))))))
        (pss_one (ps_ret pe_bl)))), ?_⟩
    have hzl : (SX.S l).length ≤ 100000 := by rw [len_S]; omega
    refine q_asg ev_c fun H1 e1 => ?_
    refine q_forLn (K := K) (a := a) (xs := uvs ms) (ev_var rfl) (ex_l e1 hS) (fun i σ' H' => ∃ (at_ : Nat) (x y : Option V), σ' = [some (.ref a), some (.str (SX.S l)), some (.int (at_ : Int)), x, y] ∧ Ex H H' ∧ at_ ≤ l.length ∧ (chn l l.length ms 0 ↔ chn l l.length (ms.drop i) at_)) (fun H2 e2 => ⟨0, none, none, rfl, e1.trans e2, Nat.zero_le _, Iff.rfl⟩) (fun i σ' H' _ ⟨_, _, _, _, eH, _⟩ => ex_l eH hS) ?_ ?_
    · rintro i x σ' H' hi ⟨at_, x0, y0, rfl, eH, hat, hch⟩
      obtain ⟨m, hmi, rfl⟩ := uvs_at hi
      have hml := hm m (List.mem_of_getElem? hmi)
      have hd : ms.drop i = m :: ms.drop (i + 1) := by
        have hlt := len_lt hmi
        rw [List.drop_eq_getElem_cons hlt]
        rw [List.getElem?_eq_getElem hlt] at hmi
        rw [Option.some.inj hmi]
      rw [hd] at hch
      refine q_asg (ev_find (ev_var rfl) (ev_var rfl) (ev_var rfl)) fun H2 e2 => ?_
      rcases find_spec l m at_ hat with ⟨h1, h2⟩ | ⟨k, h1, h2, h3, h4⟩
      · rw [h1]
        refine q_when (b := true) (et_is (et_test (ev_op (ev_var rfl) ev_c rv_I0)) (by decide)) (fun hb H3 e3 => ?_) (fun hb => by cases hb)
        refine s_ret ev_c fun H4 e4 => ?_
        have g := q H4 (((eH.trans e2).trans e3).trans e4)
        rw [B_false (fun h => by
          obtain ⟨j, a1, a2, _⟩ := hch.mp h
          exact h2 j a1 a2)] at g
        exact g
      · rw [h1]
        refine q_when (b := false) (et_is (et_test (ev_op (ev_var rfl) ev_c rv_I0)) (decide_eq_false (by omega))) (fun hb => by cases hb) (fun hb H3 e3 => ?_)
        refine s_asg (v := .int ((k + m.length : Nat) : Int)) (ev_is (ev_op (ev_var rfl) (ev_cb (ea_cons (ev_var rfl) ea_nil) (rc_lenStr (by rw [len_S]; omega))) rv_I0) (by rw [len_S]; rfl)) fun H4 e4 => ⟨k + m.length, _, _, rfl, ((eH.trans e2).trans e3).trans e4, h3.1, hch.trans (chn_find h2 h3 h4)⟩
    · rintro σ' H' ⟨at_, x0, y0, rfl, eH, hat, hch⟩
      rw [uvs_len, List.drop_eq_nil_of_le (Nat.le_refl _)] at hch
      refine s_ret ev_c fun H3 e3 => ?_
      have g := q H3 (eH.trans e3)
      rw [B_true (hch.mpr hat)] at g
      exact g

/-! ### ignored -/
theorem ok_ignored (D : Df K mg "ignored" s_ignored ["patterns", "name"]) (T : Txt K mg) (G_matches : C8.Cal P w K mg base 2 "matches" (sp_matches K) []) : C8.Cal P w K mg base 3 "ignored" (sp_ignored K) [] := by
  refine D.cal sc_ignored (fun vs H Q E h => ?_) (fun f cdv A outer s H vs Q E hr h => ?_)
  · obtain ⟨a, ps, l, rfl, _⟩ := h
    rfl
  · obtain ⟨a, ps, l, rfl, hS, hl, hm, q⟩ := h
    refine ⟨_,
        (pss_cons (ps_for PassesOwn.never rfl (pi_list (pv 0)) (pg_name (i := 2) sc_ignored.nd rfl (.inl rfl))
          (pss_one (ps_if (pt_val (C8.pe_c G_matches hr (by decide) (by rfl) (pa_cons (pv 2) (pa_cons (pv 1) pa_nil))))
            (pss_one (ps_ret pe_bl))
            pss_nil)))
        (pss_one (ps_ret pe_bl))), ?_⟩
    refine q_forLn (K := K) (a := a) (xs := uvs ps) (ev_var rfl) hS (fun i σ' H' => ∃ x : Option V, σ' = [some (.ref a), some (.str (SX.S l)), x] ∧ Ex H H' ∧ ((ps.take i).any fun p => B (rch l p l.length)) = false) (fun H2 e2 => ⟨none, rfl, e2, rfl⟩) (fun i σ' H' _ ⟨_, _, eH, _⟩ => ex_l eH hS) ?_ ?_
    · rintro i x σ' H' hi ⟨x0, rfl, eH, hno⟩
      obtain ⟨m, hmi, rfl⟩ := uvs_at hi
      have hmm := List.mem_of_getElem? hmi
      refine s_when (et_B (ev_call (ea_cons (ev_var rfl) (ea_cons (ev_var rfl) ea_nil)) (sp_ma (hm m hmm) hl))) (fun hb H2 e2 => ?_) (fun hb H2 e2 => ?_)
      · refine s_ret ev_c fun H3 e3 => ?_
        have g := q H3 ((eH.trans e2).trans e3)
        rw [List.any_eq_true.mpr ⟨m, hmm, hb⟩] at g
        exact g
      · refine ⟨_, rfl, eH.trans e2, ?_⟩
        rw [take_up hmi, List.any_append, hno]
        simp [hb]
    · rintro σ' H' ⟨x0, rfl, eH, hno⟩
      rw [uvs_len, List.take_of_length_le (Nat.le_refl _)] at hno
      rw [hno] at q
      exact s_ret ev_c fun H3 e3 => q H3 (eH.trans e3)

/-! ### law_cells -/
theorem ok_law_cells (D : Df K mg "_law_cells" s_law_cells ["script", "count"]) (T : Txt K mg)  : C8.Cal P w K mg base 1 "_law_cells" (sp_law_cells K) [] := by
  refine D.cal sc_law_cells (fun vs H Q E h => ?_) (fun f cdv A outer s H vs Q E hr h => ?_)
  · obtain ⟨a, ns, n, rfl, _⟩ := h
    rfl
  · obtain ⟨a, ns, n, rfl, hS, hl, hn, q⟩ := h
    refine ⟨_,
        (pss_cons (ps_set (i := 2) sc_law_cells.nd rfl (.inl rfl) (pe_lst pa_nil))
        (pss_cons (ps_for PassesOwn.never rfl (pi_range1 (by rfl) T.n_range (pa_cons (pv 1) pa_nil)) (pg_name (i := 3) sc_law_cells.nd rfl (.inl rfl))
          (pss_cons (ps_set (i := 4) sc_law_cells.nd rfl (.inl rfl) pe_int)
          (pss_cons (ps_if (pt_cmpR op_lt (pv 3) (pe_callB call_len_seq (by rfl) T.n_len PySem.boot_len (pa_cons (pv 0) pa_nil)) (nomark _))
            (pss_one (ps_set (i := 4) sc_law_cells.nd rfl (.inl rfl) (pe_callTy call_int1 (by rfl) T.n_int (by decide +kernel) (pa_cons (pe_ix ix_list (pv 0) (pv 3) (fun _ _ => rfl)) pa_nil))))
            pss_nil)
          (pss_cons (ps_if (pt_cmpR op_lt (pv 4) pe_int (nomark _))
            (pss_one (ps_set (i := 4) sc_law_cells.nd rfl (.inl rfl) (pe_op op_sub pe_int (pe_op op_mul pe_int (pv 4)))))
            pss_nil)
          (pss_cons (ps_if (PW.pt (pw_or (pt_cmpR op_ge (pv 3) (pe_callB call_len_seq (by rfl) T.n_len PySem.boot_len (pa_cons (pv 0) pa_nil)) (nomark _)) (pw_or1 (pt_cmpR op_lt (pv 4) pe_int (nomark _)))))
            (pss_cons (ps_if (pt_cmpR op_gt (pe_callB call_len_seq (by rfl) T.n_len PySem.boot_len (pa_cons (pv 0) pa_nil)) pe_int (nomark _))
              (pss_one (ps_set (i := 4) sc_law_cells.nd rfl (.inl rfl) (pe_callTy call_int1 (by rfl) T.n_int (by decide +kernel) (pa_cons (pe_ix ix_list (pv 0) (pe_op op_mod (pe_callTy call_int1 (by rfl) T.n_int (by decide +kernel) (pa_cons (pv 3) pa_nil)) (pe_callB call_len_seq (by rfl) T.n_len PySem.boot_len (pa_cons (pv 0) pa_nil))) (fun _ _ => rfl)) pa_nil))))
              pss_nil)
            (pss_cons (ps_if (pt_cmpR op_lt (pv 4) pe_int (nomark _))
              (pss_one (ps_set (i := 4) sc_law_cells.nd rfl (.inl rfl) (pe_op op_sub pe_int (pe_op op_mul pe_int (pv 4)))))
              pss_nil)
            (pss_cons (ps_set (i := 4) sc_law_cells.nd rfl (.inl rfl) (pe_op op_mod (pe_callTy call_int1 (by rfl) T.n_int (by decide +kernel) (pa_cons (pe_op op_add (pe_op op_mul (pe_op op_add (pe_op op_add (pv 4) (pe_op op_mul pe_int (pv 3))) pe_int) pe_int) (pe_op op_mul (pe_op op_mul (pv 3) (pv 3)) pe_int)) pa_nil)) pe_int))
            (pss_one (ps_set (i := 4) sc_law_cells.nd rfl (.inl rfl) (pe_op op_mod (pe_callTy call_int1 (by rfl) T.n_int (by decide +kernel) (pa_cons (pe_op op_mul (pe_op op_add (pe_op op_add (pv 4) (pe_op op_mul pe_int (pv 3))) pe_int) pe_int) pa_nil)) pe_int))))))
            pss_nil)
          (pss_one (ps_expr (pe_bm PySem.F.plainAttrs_list PySem.F.slot_list_append PySem.F.type_list_append mt_append (pv 2) (pa_cons (pv 4) pa_nil)))))))))
        (pss_one (ps_ret (pv 2))))), ?_⟩
    refine q_asgL (el_lst ea_nil (by simp)) fun p H1 hp e1 h1 => ?_
    refine q_forR1 (n := (n : Int)) (ea_cons (ev_var rfl) ea_nil) ⟨by omega, by omega⟩
      (fun i σ' H' => ∃ k c, σ' = [some (.ref a), some (.int (n : Int)), some (.ref p), k, c] ∧ Ex H H' ∧ H' p = some (.lst ((cellsOf ns i).map V.int)))
      (fun H2 e2 => ⟨none, none, rfl, e1.trans e2, e2 p _ h1⟩) ?_ ?_
    · rintro i σ' H' hi ⟨k0, c0, rfl, eH, hc⟩
      have hS' := ex_l eH hS
      have hlen : ((ns.map V.int).length : Int) = (ns.length : Int) := by rw [List.length_map]
      -- cell = 0; if k < len(script): cell = int(script[k])
      refine q_asg ev_c fun H2 e2 => ?_
      refine q_ifAsg (v := .int (cell0 ns i)) (et_test (ev_op (ev_var rfl) (ev_len (ev_var rfl) (ex_l e2 hS')) rv_I0)) (fun hb => ?_) (fun hb => ?_) fun H3 e3 => ?_
      · have hlt : i < ns.length := by
          have := of_decide_eq_true hb
          rw [hlen] at this
          omega
        refine ev_is (ev_cb (ea_cons (ev_op (ev_var rfl) (ev_var rfl) (rv_ixL (ex_l e2 hS') (at_int (by omega) (by omega)))) ea_nil) rc_int) ?_
        unfold cell0
        rw [if_pos hlt, Int.toNat_natCast]
      · have hlt : ¬ i < ns.length := by
          have := of_decide_eq_false hb
          rw [hlen] at this
          omega
        unfold cell0
        rw [if_neg hlt]
        rfl
      -- if cell < 0: cell = 1 - 2 * cell
      refine q_ifAsg (v := .int (fixC (cell0 ns i))) (et_test (ev_op (ev_var rfl) ev_c rv_I0)) (fun hb => ev_is (ev_op ev_c (ev_op ev_c (ev_var rfl) (rv_I (.inl (by decide)))) rv_I0) (congrArg V.int (fixC_neg hb))) (fun hb => by rw [fixC_pos hb]; rfl) fun H4 e4 => ?_
      have hS4 := ex_l ((e2.trans e3).trans e4) hS'
      have eH4 := (eH.trans ((e2.trans e3).trans e4))
      have hc4 := ((e2.trans e3).trans e4) p _ hc
      have lenc : ((cellsOf ns i).map V.int).length < 100000 := by
        rw [List.length_map, cellsOf_len]
        omega
      have fin : ∀ H5, Ex H4 H5 → ∃ k c, ([some (.ref a), some (.int (n : Int)), some (.ref p), some (.int (i : Int)), some (.int (cellAt ns i))] : L2.St) = [some (.ref a), some (.int (n : Int)), some (.ref p), k, c] ∧ Ex H (upd H5 p (.lst ((cellsOf ns i).map V.int ++ [.int (cellAt ns i)]))) ∧ (upd H5 p (.lst ((cellsOf ns i).map V.int ++ [.int (cellAt ns i)]))) p = some (.lst ((cellsOf ns (i + 1)).map V.int)) := fun H5 e5 => by
        refine ⟨_, _, rfl, Ex.mut (eH4.trans e5) hp, ?_⟩
        rw [upd_same, cellsOf_succ, List.map_append]
        rfl
      refine q_when (et_or (et_test (ev_op (ev_var rfl) (ev_len (ev_var rfl) hS4) rv_I0)) (fun _ => et_test (ev_op (ev_var rfl) ev_c rv_I0))) (fun hb H5 e5 => ?_) (fun hb H5 e5 => ?_)
      · rw [hlen] at hb
        have hS5 := ex_l e5 hS4
        refine q_ifAsg (v := .int (cell2 ns i (fixC (cell0 ns i)))) (et_test (ev_op (ev_len (ev_var rfl) hS5) ev_c rv_I0)) (fun hb => ?_) (fun hb => ?_) fun H6 e6 => ?_
        · have hpos : 0 < ns.length := by
            have := of_decide_eq_true hb
            rw [hlen] at this
            omega
          have hm0 : 0 ≤ (i : Int) % (ns.length : Int) := Int.emod_nonneg _ (by omega)
          have hm1 : (i : Int) % (ns.length : Int) < (ns.length : Int) := Int.emod_lt_of_pos _ (by omega)
          refine ev_is (ev_cb (ea_cons (ev_op (ev_var rfl) (ev_op (ev_cb (ea_cons (ev_var rfl) ea_nil) rc_int) (ev_len (ev_var rfl) hS5) (rv_I (by rw [hlen]; omega))) (rv_ixL hS5 (by rw [hlen]; exact at_int hm0 hm1))) ea_nil) rc_int) ?_
          unfold cell2
          rw [if_pos hpos]
        · have hpos : ¬ 0 < ns.length := by
            have := of_decide_eq_false hb
            rw [hlen] at this
            omega
          unfold cell2
          rw [if_neg hpos]
          rfl
        refine q_ifAsg (v := .int (fixC (cell2 ns i (fixC (cell0 ns i))))) (et_test (ev_op (ev_var rfl) ev_c rv_I0)) (fun hb => ev_is (ev_op ev_c (ev_op ev_c (ev_var rfl) (rv_I (.inl (by decide)))) rv_I0) (congrArg V.int (fixC_neg hb))) (fun hb => by rw [fixC_pos hb]; rfl) fun H7 e7 => ?_
        refine q_asg (v := .int (mix1 i (fixC (cell2 ns i (fixC (cell0 ns i)))))) (ev_op (ev_cb (ea_cons (ev_op (ev_op (ev_op (ev_op (ev_var rfl) (ev_op ev_c (ev_var rfl) (rv_I (.inl (by decide)))) rv_I0) ev_c rv_I0) ev_c (rv_I (.inr (by decide)))) (ev_op (ev_op (ev_var rfl) (ev_var rfl) (rv_I (.inl (by omega)))) ev_c (rv_I (.inr (by decide)))) rv_I0) ea_nil) rc_int) ev_c (rv_I (by show (0 : Int) < 1000000007; decide))) fun H8 e8 => ?_
        refine s_asg (v := .int (cellAt ns i)) (ev_is (ev_op (ev_cb (ea_cons (ev_op (ev_op (ev_op (ev_var rfl) (ev_op ev_c (ev_var rfl) (rv_I (.inl (by decide)))) rv_I0) ev_c rv_I0) ev_c (rv_I (.inr (by decide)))) ea_nil) rc_int) ev_c (rv_I (by show (0 : Int) < 18446744073709551557; decide))) (congrArg V.int (cellAt_mix hb))) fun H9 e9 => ?_
        have e49 := (((e5.trans e6).trans e7).trans e8).trans e9
        exact s_app (e49 p _ hc4) (ev_var rfl) (ev_var rfl) lenc fun H10 e10 => fin H10 (e49.trans e10)
      · rw [hlen] at hb
        rw [cellAt_own hb] at *
        exact s_app (e5 p _ hc4) (ev_var rfl) (ev_var rfl) lenc fun H10 e10 => fin H10 (e5.trans e10)
    · rintro σ' H' ⟨k0, c0, rfl, eH, hc⟩
      exact s_ret (ev_var rfl) fun H1' e' => q p H1' hp (eH.trans e') (e' p _ hc)

/-! ### law_word -/
theorem ok_law_word (D : Df K mg "_law_word" s_law_word ["cells", "at", "size", "menu"]) (T : Txt K mg)  : C8.Cal P w K mg base 1 "_law_word" (sp_law_word K) [] := by
  refine D.cal sc_law_word (fun vs H Q E h => ?_) (fun f cdv A outer s H vs Q E hr h => ?_)
  · obtain ⟨p, cs, i, j, menu, rfl, _⟩ := h
    rfl
  · obtain ⟨p, cs, i, j, menu, rfl, hS, hij, hj, hm0, hm1, q⟩ := h
    refine ⟨_,
        (pss_cons (ps_set (i := 4) sc_law_word.nd rfl (.inl rfl) pe_str)
        (pss_cons (ps_for PassesOwn.never rfl (pi_range1 (by rfl) T.n_range (pa_cons (pv 2) pa_nil)) (pg_name (i := 5) sc_law_word.nd rfl (.inl rfl))
          (pss_one (ps_set (i := 4) sc_law_word.nd rfl (.inl rfl) (pe_op op_add_str (pv 4) (pe_ix ix_str (pv 3) (pe_op op_mod (pe_callTy call_int1 (by rfl) T.n_int (by decide +kernel) (pa_cons (pe_ix ix_list (pv 0) (pe_op op_add (pv 1) (pv 5)) (fun _ _ => rfl)) pa_nil)) (pe_callB call_len_str (by rfl) T.n_len PySem.boot_len (pa_cons (pv 3) pa_nil))) (fun _ _ => rfl))))))
        (pss_one (ps_ret (pv 4))))), ?_⟩
    have hzm : (SX.S menu).length ≤ 100000 := by rw [len_S]; omega
    refine q_asg (v := .str (SX.S [])) (ev_is ev_c (congrArg V.str (by decide +kernel))) fun H1 e1 => ?_
    refine q_forR1 (n := (j : Int)) (ea_cons (ev_var rfl) ea_nil) ⟨by omega, by omega⟩
      (fun m σ' H' => ∃ k, σ' = [some (.ref p), some (.int (i : Int)), some (.int (j : Int)), some (.str (SX.S menu)), some (.str (SX.S (wrd cs i m menu))), k] ∧ Ex H H') (fun H2 e2 => ⟨none, rfl, e1.trans e2⟩) ?_ ?_
    · rintro m σ' H' hm ⟨k, rfl, eH⟩
      have hlt : i + m < cs.length := by omega
      have hmd := mod_bd (cs.getD ((i : Int) + (m : Int)).toNat 0) (menu.length : Int) (by omega)
      refine s_asg (v := .str (SX.S (wrd cs i (m + 1) menu))) (ev_is (ev_op (ev_var rfl) (ev_op (ev_var rfl) (ev_op (ev_cb (ea_cons (ev_op (ev_var rfl) (ev_op (ev_var rfl) (ev_var rfl) rv_I0) (rv_ixL (ex_l eH hS) (at_int (by omega) (by omega)))) ea_nil) rc_int) (ev_is (ev_cb (ea_cons (ev_var rfl) ea_nil) (rc_lenStr hzm)) (show _ = V.int ((menu.length : Nat) : Int) by rw [len_S])) (rv_I (by show (0 : Int) < ((menu.length : Nat) : Int); omega))) (rv_ixS hzm (at_codeS hmd.1 hmd.2))) (rv_addS (by rw [len_S, wrd_len]; show m + 1 ≤ 100000; omega))) (congrArg V.str ?_)) fun H2 e2 => ⟨_, rfl, eH.trans e2⟩
      have hS1 : ∀ c : Nat, (⟨#[c]⟩ : Str) = SX.S [c] := fun c => rfl
      rw [hS1, SX.S_cat]
      refine congrArg SX.S ?_
      unfold wrd
      rw [List.range_succ, List.map_append, show ((i : Int) + (m : Int)).toNat = i + m by omega]
      rfl
    · rintro σ' H' ⟨k, rfl, eH⟩
      exact s_ret (ev_var rfl) fun H3 e3 => q H3 (eH.trans e3)

/-! ### law_matches -/
theorem ok_law_matches (D : Df K mg "_law_matches" s_law_matches ["pattern", "name"]) (T : Txt K mg)  : C8.Cal P w K mg base 1 "_law_matches" (sp_law_matches K) [] := by
  refine D.cal sc_law_matches (fun vs H Q E h => ?_) (fun f cdv A outer s H vs Q E hr h => ?_)
  · obtain ⟨p, l, rfl, _⟩ := h
    rfl
  · obtain ⟨p, l, rfl, hp, hl, q⟩ := h
    refine ⟨_,
        (pss_cons (ps_set (i := 2) sc_law_matches.nd rfl (.inl rfl) (pe_lst (pa_cons pe_int pa_nil)))
        (pss_cons (ps_for PassesOwn.never rfl (pi_str (pv 0)) (pg_name (i := 3) sc_law_matches.nd rfl (.inl rfl))
          (pss_cons (ps_set (i := 4) sc_law_matches.nd rfl (.inl rfl) (pe_lst pa_nil))
          (pss_cons (ps_for PassesOwn.never rfl (pi_list (pv 2)) (pg_name (i := 5) sc_law_matches.nd rfl (.inl rfl))
            (pss_one (ps_if (pt_cmpR op_eq (pv 3) pe_str (nomark _))
              (pss_one (ps_set (i := 4) sc_law_matches.nd rfl (.inl rfl) (pe_op op_cat (pv 4) (pe_listRg rfl (by rfl) T.n_list (prg_2 (by rfl) T.n_range (pv 5) (pe_op op_add (pe_callB call_len_str (by rfl) T.n_len PySem.boot_len (pa_cons (pv 1) pa_nil)) pe_int))))))
              (pss_one (ps_if (PW.pt (pw_and (pt_cmpR op_lt (pv 5) (pe_callB call_len_str (by rfl) T.n_len PySem.boot_len (pa_cons (pv 1) pa_nil)) (nomark _)) (pw_and1 (pt_cmpR op_eq (pe_ix ix_str (pv 1) (pv 5) (fun _ _ => rfl)) (pv 3) (nomark _)))))
                (pss_one (ps_expr (pe_bm PySem.F.plainAttrs_list PySem.F.slot_list_append PySem.F.type_list_append mt_append (pv 4) (pa_cons (pe_op op_add (pv 5) pe_int) pa_nil))))
                pss_nil)))))
          (pss_one (ps_set (i := 2) sc_law_matches.nd rfl (.inl rfl) (pe_callB (cr_sortedSet rfl) (by rfl) T.n_sorted (by decide +kernel) (pa_cons (pe_callTy (cr_setI rfl) (by rfl) T.n_set (by decide +kernel) (pa_cons (pv 4) pa_nil)) pa_nil)))))))
        (pss_one (ps_ret (pe_cmpR op_in_seq (pe_callB call_len_str (by rfl) T.n_len PySem.boot_len (pa_cons (pv 1) pa_nil)) (pv 2) (by with_unfolding_all rfl)))))), ?_⟩
    have hzl : (SX.S l).length ≤ 100000 := by rw [len_S]; omega
    refine q_asgL (xs := ([0] : List Int).map V.int) (el_lst (ea_cons ev_c ea_nil) (by show 1 ≤ 100000; decide)) fun p2 H1 hp2 e1 h1 => ?_
    refine q_forS (x := SX.S p) (ev_var rfl) (fun i σ' H' => ∃ (q : Addr) (es : List Int) (x y z : Option V), σ' = [some (.str (SX.S p)), some (.str (SX.S l)), some (.ref q), x, y, z] ∧ Ex H H' ∧ H' q = some (.lst (es.map V.int)) ∧ es.length ≤ l.length + 1 ∧ ∀ k : Int, k ∈ es ↔ ∃ e : Nat, k = (e : Int) ∧ rch l (p.take i) e)
      (fun H2 e2 => ⟨p2, [0], none, none, none, rfl, e1.trans e2, e2 _ _ h1, by simp, fun k => by
        rw [List.mem_singleton]
        constructor
        · rintro rfl
          exact ⟨0, rfl, rfl⟩
        · rintro ⟨e, rfl, h⟩
          have h' : e = 0 := h
          rw [h']
          rfl⟩) ?_ ?_
    · rintro i c σ' H' hc ⟨q2, es, x0, y0, z0, rfl, eH, hq2, hesl, hes⟩
      have hc' : p[i]? = some c := hc
      refine q_asgL (xs := ([] : List Int).map V.int) (el_lst ea_nil (by simp)) fun f H2 hf e2 h2 => ?_
      refine q_forLn (K := K) (a := q2) (xs := es.map V.int) (ev_var rfl) (sq_of (e2 _ _ hq2))
        (fun j σ2 H3 => ∃ (g : Addr) (fs : List Int) (z : Option V), σ2 = [some (.str (SX.S p)), some (.str (SX.S l)), some (.ref q2), some (.str ⟨#[c]⟩), some (.ref g), z] ∧ Ex H' H3 ∧ H' g = none ∧ H3 g = some (.lst (fs.map V.int)) ∧ fs.length ≤ j * (l.length + 1) ∧
          ∀ k : Int, k ∈ fs ↔ ∃ a : Nat, (a : Int) ∈ es.take j ∧ ∃ e : Nat, k = (e : Int) ∧ if c = 42 then a ≤ e ∧ e ≤ l.length else l[a]? = some c ∧ e = a + 1)
        (fun H3 e3 => ⟨f, [], _, rfl, e2.trans e3, hf, e3 _ _ h2, by simp, fun k => by simp⟩) (fun j σ2 H3 _ ⟨_, _, _, _, e3, _⟩ => sq_of (e3 _ _ hq2)) ?_ ?_
      · rintro j x σ2 H3 hj ⟨g, fs, z, rfl, e3, hg0, hg, hfl, hfs⟩
        obtain ⟨xi, hxi, rfl⟩ : ∃ xi, es[j]? = some xi ∧ x = V.int xi := by
          rw [List.getElem?_map] at hj
          cases e : es[j]? with
          | none => rw [e] at hj; cases hj
          | some xi => rw [e] at hj; exact ⟨xi, rfl, (Option.some.inj hj).symm⟩
        obtain ⟨n, rfl, hn⟩ := (hes xi).mp (List.mem_of_getElem? hxi)
        have hnl := rch_le hn
        have hjl := len_lt hxi
        have htk : es.take (j + 1) = es.take j ++ [(n : Int)] := take_up hxi
        have hmul : (j + 1) * (l.length + 1) = j * (l.length + 1) + (l.length + 1) := Nat.succ_mul j _
        have hbig : j * (l.length + 1) ≤ 41 * 41 := Nat.mul_le_mul (by omega) (by omega)
        have split : ∀ k : Int, (∃ a : Nat, (a : Int) ∈ es.take (j + 1) ∧ ∃ e : Nat, k = (e : Int) ∧ if c = 42 then a ≤ e ∧ e ≤ l.length else l[a]? = some c ∧ e = a + 1) ↔ k ∈ fs ∨ ∃ e : Nat, k = (e : Int) ∧ if c = 42 then n ≤ e ∧ e ≤ l.length else l[n]? = some c ∧ e = n + 1 := fun k => by
          rw [htk, hfs k]
          constructor
          · rintro ⟨a, ha, he⟩
            rcases List.mem_append.mp ha with h | h
            · exact .inl ⟨a, h, he⟩
            · have : a = n := by
                have := List.mem_singleton.mp h
                omega
              rw [this] at he
              exact .inr he
          · rintro (⟨a, ha, he⟩ | he)
            · exact ⟨a, List.mem_append_left _ ha, he⟩
            · exact ⟨n, List.mem_append_right _ (List.mem_singleton_self _), he⟩
        refine s_if (b := decide (c = 42)) (et_is (et_test (ev_op (ev_var rfl) ev_c (rv_eq rfl))) (dec_str1 (show Str.ofString "*" = ⟨#[42]⟩ by decide +kernel))) (fun hb H4 e4 => ?_) (fun hb H4 e4 => ?_)
        · have hc42 := of_decide_eq_true hb
          refine s_asgL (el_cat (ev_var rfl) (e4 _ _ hg) (el_range (b := ((l.length + 1 : Nat) : Int)) (ev_var rfl) (ev_is (ev_op (ev_cb (ea_cons (ev_var rfl) ea_nil) (rc_lenStr hzl)) ev_c rv_I0) (congrArg V.int (by rw [len_S]; omega))) ⟨by omega, by omega, by omega, by omega⟩) (by rw [rgV_length, List.length_map]; omega)) fun g2 H5 hg2 e5 h5 => ?_
          rw [rgV_eq, ← List.map_append] at h5
          refine ⟨g2, _, _, rfl, (e3.trans e4).trans e5, fresh_back (e3.trans e4) hg2, h5, ?_, fun k => ?_⟩
          · rw [List.length_append, List.length_map, List.length_range, hmul]
            omega
          · rw [split k, List.mem_append, List.mem_map]
            refine or_congr Iff.rfl ?_
            constructor
            · rintro ⟨t, ht, rfl⟩
              have := List.mem_range.mp ht
              exact ⟨n + t, by omega, by rw [if_pos hc42]; omega⟩
            · rintro ⟨e, rfl, he⟩
              rw [if_pos hc42] at he
              exact ⟨e - n, List.mem_range.mpr (by omega), by omega⟩
        · have hc42 := of_decide_eq_false hb
          have hget : n < l.length → l[n]? = some (l.getD ((n : Int)).toNat 0) := fun h => by
            rw [Int.toNat_natCast, List.getD_eq_getElem?_getD, List.getElem?_eq_getElem h]
            rfl
          have hbv : (decide ((n : Int) < ((SX.S l).length : Int)) && decide (V.str ⟨#[l.getD ((n : Int)).toNat 0]⟩ = V.str ⟨#[c]⟩)) = decide (l[n]? = some c) := by
            rw [len_S]
            by_cases h : n < l.length
            · rw [decide_eq_true (show (n : Int) < (l.length : Int) by omega), Bool.true_and, hget h, dec_str1 rfl]
              exact decide_eq_decide.mpr ⟨fun h => by rw [h], fun h => Option.some.inj h⟩
            · rw [decide_eq_false (show ¬ (n : Int) < (l.length : Int) by omega), Bool.false_and, List.getElem?_eq_none (by omega)]
              rfl
          refine s_when (b := decide (l[n]? = some c)) (et_is (et_and (et_test (ev_op (ev_var rfl) (ev_cb (ea_cons (ev_var rfl) ea_nil) (rc_lenStr hzl)) rv_I0)) (fun hb2 => et_test (ev_op (ev_op (ev_var rfl) (ev_var rfl) (rv_ixS hzl (at_codeS (by omega) (by have := of_decide_eq_true hb2; rw [len_S] at this; omega)))) (ev_var rfl) (rv_eq rfl)))) hbv) (fun hb2 H5 e5 => ?_) (fun hb2 H5 e5 => ?_)
          · have hn2 := of_decide_eq_true hb2
            refine s_app (e5 _ _ (e4 _ _ hg)) (ev_var rfl) (ev_op (ev_var rfl) ev_c rv_I0) (by rw [List.length_map]; omega) fun H6 e6 => ?_
            refine ⟨g, fs ++ [(n : Int) + 1], _, rfl, Ex.mut (((e3.trans e4).trans e5).trans e6) hg0, hg0, by rw [upd_same, List.map_append]; rfl, ?_, fun k => ?_⟩
            · rw [List.length_append, List.length_singleton, hmul]
              omega
            · rw [split k, List.mem_append, List.mem_singleton]
              refine or_congr Iff.rfl ?_
              constructor
              · rintro rfl
                exact ⟨n + 1, by omega, by rw [if_neg hc42]; exact ⟨hn2, rfl⟩⟩
              · rintro ⟨e, rfl, he⟩
                rw [if_neg hc42] at he
                omega
          · have hn2 := of_decide_eq_false hb2
            refine ⟨g, fs, _, rfl, (e3.trans e4).trans e5, hg0, e5 _ _ (e4 _ _ hg), by rw [hmul]; omega, fun k => ?_⟩
            rw [split k]
            constructor
            · exact .inl
            · rintro (h | ⟨e, rfl, he⟩)
              · exact h
              · rw [if_neg hc42] at he
                exact absurd he.1 hn2
      · rintro σ2 H3 ⟨g, fs, z, rfl, e3, hg0, hg, hfl, hfs⟩
        rw [List.length_map] at hfl
        rw [List.length_map, List.take_of_length_le (Nat.le_refl _)] at hfs
        have hbig : es.length * (l.length + 1) ≤ 41 * 41 := Nat.mul_le_mul (by omega) (by omega)
        have step : ∀ k : Int, k ∈ fs ↔ ∃ e : Nat, k = (e : Int) ∧ rch l (p.take (i + 1)) e := fun k => by
          rw [hfs k, take_up hc', rch_snoc]
          unfold stp
          constructor
          · rintro ⟨a, ha, e, rfl, he⟩
            obtain ⟨a', ha', hr⟩ := (hes _).mp ha
            have : a = a' := by omega
            subst this
            refine ⟨e, rfl, ?_⟩
            by_cases h42 : c = 42
            · rw [if_pos h42] at he ⊢
              exact ⟨a, hr, he⟩
            · rw [if_neg h42] at he ⊢
              exact ⟨a, hr, he⟩
          · rintro ⟨e, rfl, he⟩
            by_cases h42 : c = 42
            · rw [if_pos h42] at he
              obtain ⟨a, h1, h2⟩ := he
              exact ⟨a, (hes _).mpr ⟨a, rfl, h1⟩, e, rfl, by rw [if_pos h42]; exact h2⟩
            · rw [if_neg h42] at he
              obtain ⟨a, h1, h2⟩ := he
              exact ⟨a, (hes _).mpr ⟨a, rfl, h1⟩, e, rfl, by rw [if_neg h42]; exact h2⟩
        refine s_asgH (eh_sortedSet (K := K) (B := l.length + 1) (ev_var rfl) (sq_of hg) (by omega) (fun k hk => ?_) (by omega)) ?_
        · obtain ⟨e, rfl, he⟩ := (step k).mp hk
          have := rch_le he
          omega
        · rintro _ H4 e4 ⟨q3, es3, rfl, hq3, hl3, hm3⟩
          exact ⟨q3, es3, _, _, _, rfl, (eH.trans e3).trans e4, hq3, hl3, fun k => (hm3 k).trans (step k)⟩
    · rintro σ' H' ⟨q2, es, x0, y0, z0, rfl, eH, hq2, hesl, hes⟩
      rw [show (SX.S p).cps.size = p.length from rfl, List.take_of_length_le (Nat.le_refl _)] at hes
      have hflat : (es.map V.int).all flatV = true := by
        rw [List.all_map]
        exact List.all_eq_true.mpr fun k _ => rfl
      refine s_ret (ev_is (ev_op (ev_cb (ea_cons (ev_var rfl) ea_nil) (rc_lenStr hzl)) (ev_var rfl) (rv_isL (sq_of hq2) rfl hflat)) (congrArg V.bl ?_)) fun H3 e3 => q H3 (eH.trans e3)
      rw [inV_int, len_S]
      by_cases h : rch l p l.length
      · rw [B_true h, decide_eq_true ((hes _).mpr ⟨l.length, rfl, h⟩)]
      · rw [B_false h]
        refine decide_eq_false fun hh => h ?_
        obtain ⟨e, he, hr⟩ := (hes _).mp hh
        have : e = l.length := by omega
        rw [← this]
        exact hr

/-! ### law -/
theorem ok_law {f : Addr} {fd : FuncData} (F : Fun K "law" "law" s_law f fd) (T : Txt K mg) (G_matches : C8.Cal P w K mg base 2 "matches" (sp_matches K) []) (G_ignored : C8.Cal P w K mg base 3 "ignored" (sp_ignored K) []) (G_law_cells : C8.Cal P w K mg base 1 "_law_cells" (sp_law_cells K) []) (G_law_word : C8.Cal P w K mg base 1 "_law_word" (sp_law_word K) []) (G_law_matches : C8.Cal P w K mg base 1 "_law_matches" (sp_law_matches K) []) : FnOk P w K mg base CX0 4 f fd ["script"] (spLaw K) := by
  refine F.ok sc_law (fun vs H Q E h => ?_) (fun cdv A outer s H vs Q E hr h => ?_)
  · obtain ⟨a, ns, rfl, _⟩ := h
    rfl
  · obtain ⟨a, ns, rfl, hS, hl, q⟩ := h
    refine ⟨_,
        (pss_cons (ps_set (i := 1) sc_law.nd rfl (.inl rfl) (C8.pe_c G_law_cells hr (by decide) (by rfl) (pa_cons (pv 0) (pa_cons pe_int pa_nil))))
        (pss_cons (ps_set (i := 2) sc_law.nd rfl (.inr rfl) (C8.pe_c G_law_word hr (by decide) (by rfl) (pa_cons (pv 1) (pa_cons pe_int (pa_cons (pe_op op_add pe_int (pe_op op_mod (pe_callTy call_int1 (by rfl) T.n_int (by decide +kernel) (pa_cons (pe_ix ix_list (pv 1) pe_int (fun _ _ => rfl)) pa_nil)) pe_int)) (pa_cons pe_str pa_nil))))))
        (pss_cons (ps_set (i := 3) sc_law.nd rfl (.inl rfl) (pe_lst pa_nil))
        (pss_cons (ps_for PassesOwn.never rfl (pi_range1 (by rfl) T.n_range (pa_cons pe_int pa_nil)) (pg_name (i := 4) sc_law.nd rfl (.inl rfl))
          (pss_one (ps_expr (pe_bm PySem.F.plainAttrs_list PySem.F.slot_list_append PySem.F.type_list_append mt_append (pv 3) (pa_cons (C8.pe_c G_law_word hr (by decide) (by rfl) (pa_cons (pv 1) (pa_cons (pe_op op_add pe_int (pe_op op_mul pe_int (pv 4))) (pa_cons (pe_op op_mod (pe_callTy call_int1 (by rfl) T.n_int (by decide +kernel) (pa_cons (pe_ix ix_list (pv 1) (pe_op op_add pe_int (pe_op op_mul pe_int (pv 4))) (fun _ _ => rfl)) pa_nil)) pe_int) (pa_cons pe_str pa_nil))))) pa_nil)))))
        (pss_cut (ps_if (pt_cmpR op_eq (pe_op op_mod (pe_ix ix_list (pv 1) pe_int (fun _ _ => rfl)) pe_int) pe_int (nomark _))
          (pss_one (ps_asg (pe_op op_add_str (pe_op op_add_str pe_str (pe_slice sl_str (pv 2) (po_some (pe_op op_mod (pe_callTy call_int1 (by rfl) T.n_int (by decide +kernel) (pa_cons (pe_ix ix_list (pv 1) pe_int (fun _ _ => rfl)) pa_nil)) (pe_callB call_len_str (by rfl) T.n_len PySem.boot_len (pa_cons (pv 2) pa_nil)))) po_none)) pe_str) (pg_sub (pv 3) pe_int set_list)))
          pss_nil)
        (pss_cons (ps_for PassesOwn.never rfl (pi_list (pv 3)) (pg_name (i := 5) sc_law.nd rfl (.inl rfl))
          (pss_one (ps_if (pt_cmpR op_ne (C8.pe_c G_matches hr (by decide) (by rfl) (pa_cons (pv 5) (pa_cons (pv 2) pa_nil))) (C8.pe_c G_law_matches hr (by decide) (by rfl) (pa_cons (pv 5) (pa_cons (pv 2) pa_nil))) (nomark _))
            (pss_one (ps_ret pe_bl))
            pss_nil)))
        (pss_cons (ps_set (i := 6) sc_law.nd rfl (.inl rfl) (pe_op op_mod (pe_callTy call_int1 (by rfl) T.n_int (by decide +kernel) (pa_cons (pe_ix ix_list (pv 1) pe_int (fun _ _ => rfl)) pa_nil)) pe_int))
        (pss_cons (ps_set (i := 7) sc_law.nd rfl (.inl rfl) (pe_callB (cr_any rfl) (by rfl) T.n_any (by decide +kernel) (pa_cons (pe_lc (own := [("pattern", 5)]) (g := gName 5) (tt := tYes) rfl sc_law.nd (pi_list (pe_slice sl_list (pv 3) po_none (po_some (pv 6)))) (blkOk_by (own := [("pattern", 5)]) (N := ["script", "cells", "name", "patterns", "k", "pattern", "count", "expected"]) (sc := defScope s_law) (by decide +kernel)) (fun _ _ _ _ _ => (pg_name (i := 5) sc_law.nd rfl (Or.inl rfl))) (fun _ _ _ _ _ => pts_nil) (fun _ _ _ _ _ => (C8.pe_c G_law_matches hr (by decide) (by rfl) (pa_cons (pv 5) (pa_cons (pv 2) pa_nil))))) pa_nil)))
        (pss_one (ps_ret (pe_cmpR op_eq (C8.pe_c G_ignored hr (by decide) (by rfl) (pa_cons (pe_slice sl_list (pv 3) po_none (po_some (pv 6))) (pa_cons (pv 2) pa_nil))) (pv 7) (nomark _)))))))))))), ?_⟩
    refine q_asgL (el_call (ea_cons (ev_var rfl) (ea_cons ev_c ea_nil)) (sp_cells (n := 50) hS hl (by decide))) fun p1 H1 hp1 e1 h1 => ?_
    have cl := cellsOf_len ns 50
    generalize cellsOf ns 50 = cs at h1 cl
    have cell : ∀ {σ : L2.St} {ti : TE} {H' : Hp} {i : Int}, Ex H1 H' → σ[1]? = some (some (.ref p1)) → Ev ti σ H' (.int i) → 0 ≤ i → i < 50 → Ev (tOp (rIxL K) (tVar 1) ti) σ H' (.int (cs.getD i.toNat 0)) := fun e h0 hi i0 i1 =>
      ev_op (ev_var h0) hi (rv_ixL (sq_of (e p1 _ h1)) (at_int i0 (by omega)))
    have hm9 := mod_bd (cs.getD (9 : Int).toNat 0) 8 (by decide)
    obtain ⟨n, hn⟩ := Int.eq_ofNat_of_zero_le (show 0 ≤ 1 + cs.getD (9 : Int).toNat 0 % 8 by omega)
    have e_m1 : Str.ofString "abA" = SX.S [97, 98, 65] := by decide +kernel
    have e_m2 : Str.ofString "ab**A" = SX.S [97, 98, 42, 42, 65] := by decide +kernel
    have e_st : Str.ofString "*" = SX.S [42] := by decide +kernel
    refine q_asg (ev_call (ea_cons (ev_var rfl) (ea_cons ev_c (ea_cons (ev_is (ev_op ev_c (ev_op (ev_cb (ea_cons (cell (Ex.refl H1) rfl ev_c (by decide) (by decide)) ea_nil) rc_int) ev_c (rv_I (by show (0 : Int) < 8; decide))) rv_I0) (congrArg V.int hn)) (ea_cons (ev_is ev_c (congrArg V.str e_m1)) ea_nil)))) (sp_wd (i := 0) (sq_of h1) (by omega) (by omega) (by decide) (by decide))) fun H2 e2 => ?_
    have hl1 : (wrd cs 0 n [97, 98, 65]).length = n := wrd_len
    generalize wrd cs 0 n [97, 98, 65] = l at hl1
    have hzl : (SX.S l).length ≤ 100000 := by rw [len_S]; omega
    refine q_asgL (xs := uvs []) (el_lst ea_nil (by show 0 ≤ 100000; decide)) fun pp H3 hpp e3 h3 => ?_
    refine q_forR1 (n := 3) (ea_cons ev_c ea_nil) ⟨by decide, by decide⟩ (fun k σ' H' => ∃ (ps : List (List Nat)) (x : Option V), σ' = [some (.ref a), some (.ref p1), some (.str (SX.S l)), some (.ref pp), x, none, none, none] ∧ Ex H2 H' ∧ H' pp = some (.lst (uvs ps)) ∧ ps.length = k ∧ ∀ m ∈ ps, m.length ≤ 10)
      (fun H4 e4 => ⟨[], none, rfl, e3.trans e4, e4 _ _ h3, rfl, fun m hm => by cases hm⟩) ?_ ?_
    · rintro k σ' H' hk ⟨ps, x0, rfl, eH, hps, hpl, hpm⟩
      have hm := mod_bd (cs.getD ((19 : Int) + 10 * (k : Int)).toNat 0) 8 (by decide)
      obtain ⟨j, hj⟩ := Int.eq_ofNat_of_zero_le hm.1
      refine s_app hps (ev_var rfl) (ev_call (ea_cons (ev_var rfl) (ea_cons (ev_is (ev_op ev_c (ev_op ev_c (ev_var rfl) (rv_I (.inl (by decide)))) rv_I0) (congrArg V.int (show (10 : Int) + 10 * (k : Int) = ((10 + 10 * k : Nat) : Int) by omega))) (ea_cons (ev_is (ev_op (ev_cb (ea_cons (cell (e2.trans eH) rfl (ev_op ev_c (ev_op ev_c (ev_var rfl) (rv_I (.inl (by decide)))) rv_I0) (by omega) (by omega)) ea_nil) rc_int) ev_c (rv_I (by show (0 : Int) < 8; decide))) (congrArg V.int hj)) (ea_cons (ev_is ev_c (congrArg V.str e_m2)) ea_nil)))) (sp_wd (sq_of ((e2.trans eH) _ _ h1)) (by omega) (by omega) (by decide) (by decide))) (by rw [uvs_len]; omega) fun H4 e4 => ?_
      refine ⟨ps ++ [wrd cs (10 + 10 * k) j [97, 98, 42, 42, 65]], _, rfl, Ex.mut (eH.trans e4) hpp, ?_, by rw [List.length_append, hpl]; rfl, fun m hm => ?_⟩
      · rw [upd_same]
        unfold uvs
        rw [List.map_append]
        rfl
      · rcases List.mem_append.mp hm with h | h
        · exact hpm m h
        · rw [List.mem_singleton.mp h, wrd_len]
          omega
    rintro σ' H4 ⟨ps0, x0, rfl, e4, hps0, hpl0, hpm0⟩
    have hpl3 : ps0.length = 3 := hpl0
    refine q_cut (M := fun σ' H' => ∃ ps : List (List Nat), σ' = [some (.ref a), some (.ref p1), some (.str (SX.S l)), some (.ref pp), x0, none, none, none] ∧ Ex H2 H' ∧ H' pp = some (.lst (uvs ps)) ∧ ps.length = 3 ∧ ∀ m ∈ ps, m.length ≤ 10) ?_ ?_
    · refine s_when (et_test (ev_op (ev_op (cell (e2.trans e4) rfl ev_c (by decide) (by decide)) ev_c (rv_I (by show (0 : Int) < 3; decide))) ev_c (rv_eq rfl))) (fun hb H5 e5 => ?_) (fun hb H5 e5 => ?_)
      · have hm := mod_bd (cs.getD (46 : Int).toNat 0) (l.length : Int) (by omega)
        obtain ⟨j, hj⟩ := Int.eq_ofNat_of_zero_le hm.1
        have hd : (l.drop j).length ≤ 8 := by rw [List.length_drop]; omega
        refine s_setL (v := .str (SX.S ([42] ++ l.drop j ++ [42]))) (j := 0) (e5 _ _ hps0) (ev_is (ev_op (ev_op (ev_is ev_c (congrArg V.str e_st)) (ev_is (ev_cutS (ev_var rfl) (eo_some (ev_is (ev_op (ev_cb (ea_cons (cell ((e2.trans e4).trans e5) rfl ev_c (by decide) (by decide)) ea_nil) rc_int) (ev_is (ev_cb (ea_cons (ev_var rfl) ea_nil) (rc_lenStr hzl)) (show _ = V.int ((l.length : Nat) : Int) by rw [len_S])) (rv_I (by show (0 : Int) < ((l.length : Nat) : Int); omega))) (congrArg V.int hj))) eo_none hzl) (congrArg V.str (cut_from l j))) (rv_addS (by rw [len_S, len_S]; show 1 + _ ≤ 100000; omega))) (ev_is ev_c (congrArg V.str e_st)) (rv_addS (by rw [SX.S_cat, len_S, len_S, List.length_append]; show 1 + _ + 1 ≤ 100000; omega))) (congrArg V.str (by rw [SX.S_cat, SX.S_cat]))) (ev_var rfl) ev_c (by rw [uvs_len]; omega) fun H6 e6 => ?_
        refine ⟨ps0.set 0 ([42] ++ l.drop j ++ [42]), rfl, Ex.mut ((e4.trans e5).trans e6) hpp, ?_, by rw [List.length_set]; exact hpl3, fun m hm => ?_⟩
        · rw [upd_same]
          unfold uvs
          rw [List.map_set]
        · rcases List.mem_or_eq_of_mem_set hm with h | h
          · exact hpm0 m h
          · rw [h, List.length_append, List.length_append]
            show 1 + _ + 1 ≤ 10
            omega
      · exact ⟨ps0, rfl, e4.trans e5, e5 _ _ hps0, hpl3, hpm0⟩
    rintro σ' H5 ⟨ps, rfl, e5, hps, hpl, hpm⟩
    have hpm2 : ∀ m ∈ ps, m.length ≤ 200 := fun m hm => by have := hpm m hm; omega
    refine q_forLn (K := K) (a := pp) (xs := uvs ps) (ev_var rfl) (sq_of hps) (fun i σ' H' => ∃ x : Option V, σ' = [some (.ref a), some (.ref p1), some (.str (SX.S l)), some (.ref pp), x0, x, none, none] ∧ Ex H5 H') (fun H6 e6 => ⟨none, rfl, e6⟩) (fun i σ' H' _ ⟨_, _, eH⟩ => sq_of (eH _ _ hps)) ?_ ?_
    · rintro i x σ' H' hi ⟨x1, rfl, eH⟩
      obtain ⟨m, hmi, rfl⟩ := uvs_at hi
      have hmm := hpm2 m (List.mem_of_getElem? hmi)
      refine s_when (b := false) (et_is (et_test (ev_op (ev_call (ea_cons (ev_var rfl) (ea_cons (ev_var rfl) ea_nil)) (sp_ma hmm (by omega))) (ev_call (ea_cons (ev_var rfl) (ea_cons (ev_var rfl) ea_nil)) (sp_lm hmm (by omega))) (rv_ne rfl))) (by rw [decide_eq_true rfl]; rfl)) (fun hb => by cases hb) (fun _ H6 e6 => ⟨_, rfl, eH.trans e6⟩)
    · rintro σ' H6 ⟨x1, rfl, e6⟩
      have hm47 := mod_bd (cs.getD (47 : Int).toNat 0) 4 (by decide)
      obtain ⟨c, hc⟩ := Int.eq_ofNat_of_zero_le hm47.1
      refine q_asg (v := .int (c : Int)) (ev_is (ev_op (ev_cb (ea_cons (cell ((e2.trans e5).trans e6) rfl ev_c (by decide) (by decide)) ea_nil) rc_int) ev_c (rv_I (by show (0 : Int) < 4; decide))) (congrArg V.int hc)) fun H7 e7 => ?_
      have hcv : cutV (uvs ps) none (some (c : Int)) = uvs (ps.take c) := by
        unfold cutV
        rw [HT.sIx_none, HT.sIx_nat]
        unfold uvs
        rw [List.drop_zero, Nat.sub_zero, List.length_map, List.map_take, List.take_eq_take_iff, List.length_map]
        omega
      have hsl : ∀ {σ : L2.St} {H' : Hp}, σ[3]? = some (some (.ref pp)) → σ[6]? = some (some (.int (c : Int))) → Ex H6 H' → EvL (tSl (rSlL K) (tVar 3) tNoPart (tPart (tVar 6))) σ H' (uvs (ps.take c)) := fun {σ H'} h3 h6 e => by
        have h := el_sl (K := K) (σ := σ) (H := H') (ev_var (i := 3) h3) eo_none (eo_some (ev_var (i := 6) h6)) (sq_of (e _ _ (e6 _ _ hps)))
        rw [hcv] at h
        exact h
      have htm : ∀ m ∈ ps.take c, m.length ≤ 200 := fun m hm => hpm2 m (List.mem_of_mem_take hm)
      refine q_asg (v := .bl ((ps.take c).any fun p => B (rch l p l.length))) (ev_is (ev_anyL (bs := (ps.take c).map fun p => B (rch l p l.length)) ?_) (congrArg V.bl (by rw [List.any_map]; rfl))) fun H8 e8 => ?_
      · have e : given (uvs (ps.take c)).length (fun _ => true) (fun i => V.bl (B (rch l ((ps.take c).getD i []) l.length))) = ((ps.take c).map fun p => B (rch l p l.length)).map V.bl := by
          rw [given_all, uvs_len, List.map_map]
          exact map_getD (fun p => V.bl (B (rch l p l.length))) [] (ps.take c)
        rw [← e]
        refine el_lcNL (fun _ => true) (fun i => V.bl (B (rch l ((ps.take c).getD i []) l.length))) (hsl rfl rfl e7) (by rw [uvs_len, List.length_take]; omega) (fun _ => rfl) (fun _ _ _ _ _ => et_yes) (fun i x H8 e8 hx _ => ?_)
        obtain ⟨m, hmi, rfl⟩ := uvs_at hx
        have hg : (ps.take c).getD i [] = m := by
          rw [List.getD_eq_getElem?_getD, hmi]
          rfl
        rw [hg]
        exact ev_call (ea_cons (ev_var rfl) (ea_cons (ev_var rfl) ea_nil)) (sp_lm (htm m (List.mem_of_getElem? hmi)) (by omega))
      · refine s_ret (ev_is (ev_op (ev_callL (hsl rfl rfl (e7.trans e8)) (fun pz H9 e9 h9 => ea_cons (ev_var rfl) ea_nil) (fun pz H9 e9 h9 => sp_ig (sq_of h9) (by omega) htm)) (ev_var rfl) (rv_eq rfl)) (by rw [decide_eq_true rfl])) fun H9 e9 => q H9

end
/-! ### what the top has made; the law's own head -/
theorem all_mk {l : PySem.W.OpenLaw} {w : World} {K : PySem.W.Frag} {h : Heap} {mg : Str → Option Value} {fa f1 f2 f3 f4 f5 f6 f7 : Addr} (X : K.In h) (G : h.Ns mainGlobals mg) (hfa : mg "law" = some (.ref fa)) 
    {od1 an1 od2 an2 od3 an3 od4 an4 od5 an5 od6 an6 od7 an7 : Option Addr} {sl1 sl2 sl3 sl4 sl5 sl6 sl7 : Array (Option Value)} {oc1 kV1 dc1 pm1 cd1 ct1 oc2 kV2 dc2 pm2 cd2 ct2 oc3 kV3 dc3 pm3 cd3 ct3 oc4 kV4 dc4 pm4 cd4 ct4 oc5 kV5 dc5 pm5 cd5 ct5 oc6 kV6 dc6 pm6 cd6 ct6 oc7 kV7 dc7 pm7 cd7 ct7 : Value}
    (a1 : PySem.W.nsIn K mainGlobals "matches" = some (some (.ref f1))) (l1 : K.lookup f1 = some ⟨oc1, od1, .func (PySem.W.fnOf "matches" "matches" (defArgs s_matches) (defBody s_matches) (defScope s_matches) .none kV1 dc1 pm1 an1 cd1 ct1), sl1⟩) (c1 : PySem.W.codeIn K cd1 "matches" = true) (k1 : PySem.W.keepIn K (.ref f1) = true)
    (a2 : PySem.W.nsIn K mainGlobals "follow_in_order" = some (some (.ref f2))) (l2 : K.lookup f2 = some ⟨oc2, od2, .func (PySem.W.fnOf "follow_in_order" "follow_in_order" (defArgs s_follow_in_order) (defBody s_follow_in_order) (defScope s_follow_in_order) .none kV2 dc2 pm2 an2 cd2 ct2), sl2⟩) (c2 : PySem.W.codeIn K cd2 "follow_in_order" = true) (k2 : PySem.W.keepIn K (.ref f2) = true)
    (a3 : PySem.W.nsIn K mainGlobals "ignored" = some (some (.ref f3))) (l3 : K.lookup f3 = some ⟨oc3, od3, .func (PySem.W.fnOf "ignored" "ignored" (defArgs s_ignored) (defBody s_ignored) (defScope s_ignored) .none kV3 dc3 pm3 an3 cd3 ct3), sl3⟩) (c3 : PySem.W.codeIn K cd3 "ignored" = true) (k3 : PySem.W.keepIn K (.ref f3) = true)
    (a4 : PySem.W.nsIn K mainGlobals "_law_cells" = some (some (.ref f4))) (l4 : K.lookup f4 = some ⟨oc4, od4, .func (PySem.W.fnOf "_law_cells" "_law_cells" (defArgs s_law_cells) (defBody s_law_cells) (defScope s_law_cells) .none kV4 dc4 pm4 an4 cd4 ct4), sl4⟩) (c4 : PySem.W.codeIn K cd4 "_law_cells" = true) (k4 : PySem.W.keepIn K (.ref f4) = true)
    (a5 : PySem.W.nsIn K mainGlobals "_law_word" = some (some (.ref f5))) (l5 : K.lookup f5 = some ⟨oc5, od5, .func (PySem.W.fnOf "_law_word" "_law_word" (defArgs s_law_word) (defBody s_law_word) (defScope s_law_word) .none kV5 dc5 pm5 an5 cd5 ct5), sl5⟩) (c5 : PySem.W.codeIn K cd5 "_law_word" = true) (k5 : PySem.W.keepIn K (.ref f5) = true)
    (a6 : PySem.W.nsIn K mainGlobals "_law_matches" = some (some (.ref f6))) (l6 : K.lookup f6 = some ⟨oc6, od6, .func (PySem.W.fnOf "_law_matches" "_law_matches" (defArgs s_law_matches) (defBody s_law_matches) (defScope s_law_matches) .none kV6 dc6 pm6 an6 cd6 ct6), sl6⟩) (c6 : PySem.W.codeIn K cd6 "_law_matches" = true) (k6 : PySem.W.keepIn K (.ref f6) = true)
    (a7 : PySem.W.nsIn K mainGlobals "law" = some (some (.ref f7))) (l7 : K.lookup f7 = some ⟨oc7, od7, .func (PySem.W.fnOf "law" "law" (defArgs s_law) (defBody s_law) (defScope s_law) .none kV7 dc7 pm7 an7 cd7 ct7), sl7⟩) (c7 : PySem.W.codeIn K cd7 "law" = true) (k7 : PySem.W.keepIn K (.ref f7) = true)
    (z1 : PySem.W.nsIn K mainGlobals "any" = some none) (z2 : PySem.W.nsIn K mainGlobals "int" = some none) (z3 : PySem.W.nsIn K mainGlobals "len" = some none) (z4 : PySem.W.nsIn K mainGlobals "list" = some none) (z5 : PySem.W.nsIn K mainGlobals "range" = some none) (z6 : PySem.W.nsIn K mainGlobals "set" = some none) (z7 : PySem.W.nsIn K mainGlobals "sorted" = some none)  :
    ∃ fd : FuncData, (∀ (s : Shared) (v : Value), BindsTo s fd ⟨[v], []⟩ [("script", v)]) ∧ ∀ base : Heap, K.In base → base.Ns mainGlobals mg → FnOk l.prog w K mg base CX0 4 fa fd ["script"] (spLaw K) := by
  have e := hfa.symm.trans (PySem.W.mg_of X G a7)
  cases e
  have T : Txt K mg := ⟨PySem.W.mg_none_of X G z1, PySem.W.mg_none_of X G z2, PySem.W.mg_none_of X G z3, PySem.W.mg_none_of X G z4, PySem.W.mg_none_of X G z5, PySem.W.mg_none_of X G z6, PySem.W.mg_none_of X G z7⟩
  have F1 := fun_mk (st := s_matches) l1 c1 k1
  have D1 : Df K mg "matches" s_matches ["pattern", "name"] := ⟨_, _, F1, PySem.W.mg_of X G a1, F1.binds (ps := ["pattern", "name"]) fun _ _ _ _ _ _ us hl => match us, hl with | [_, _], _ => rfl⟩
  have F2 := fun_mk (st := s_follow_in_order) l2 c2 k2
  have D2 : Df K mg "follow_in_order" s_follow_in_order ["parts", "text"] := ⟨_, _, F2, PySem.W.mg_of X G a2, F2.binds (ps := ["parts", "text"]) fun _ _ _ _ _ _ us hl => match us, hl with | [_, _], _ => rfl⟩
  have F3 := fun_mk (st := s_ignored) l3 c3 k3
  have D3 : Df K mg "ignored" s_ignored ["patterns", "name"] := ⟨_, _, F3, PySem.W.mg_of X G a3, F3.binds (ps := ["patterns", "name"]) fun _ _ _ _ _ _ us hl => match us, hl with | [_, _], _ => rfl⟩
  have F4 := fun_mk (st := s_law_cells) l4 c4 k4
  have D4 : Df K mg "_law_cells" s_law_cells ["script", "count"] := ⟨_, _, F4, PySem.W.mg_of X G a4, F4.binds (ps := ["script", "count"]) fun _ _ _ _ _ _ us hl => match us, hl with | [_, _], _ => rfl⟩
  have F5 := fun_mk (st := s_law_word) l5 c5 k5
  have D5 : Df K mg "_law_word" s_law_word ["cells", "at", "size", "menu"] := ⟨_, _, F5, PySem.W.mg_of X G a5, F5.binds (ps := ["cells", "at", "size", "menu"]) fun _ _ _ _ _ _ us hl => match us, hl with | [_, _, _, _], _ => rfl⟩
  have F6 := fun_mk (st := s_law_matches) l6 c6 k6
  have D6 : Df K mg "_law_matches" s_law_matches ["pattern", "name"] := ⟨_, _, F6, PySem.W.mg_of X G a6, F6.binds (ps := ["pattern", "name"]) fun _ _ _ _ _ _ us hl => match us, hl with | [_, _], _ => rfl⟩
  have F7 := fun_mk (st := s_law) l7 c7 k7
  refine ⟨PySem.W.fnOf "law" "law" (defArgs s_law) (defBody s_law) (defScope s_law) .none kV7 dc7 pm7 an7 cd7 ct7, fun s v => .of_eq rfl, fun base _ _ => ?_⟩
  have G_follow_in_order := ok_follow_in_order (P := l.prog) (w := w) (base := base) D2 T 
  have G_matches := ok_matches (P := l.prog) (w := w) (base := base) D1 T G_follow_in_order
  have G_ignored := ok_ignored (P := l.prog) (w := w) (base := base) D3 T G_matches
  have G_law_cells := ok_law_cells (P := l.prog) (w := w) (base := base) D4 T 
  have G_law_word := ok_law_word (P := l.prog) (w := w) (base := base) D5 T 
  have G_law_matches := ok_law_matches (P := l.prog) (w := w) (base := base) D6 T 
  exact ok_law F7 T G_matches G_ignored G_law_cells G_law_word G_law_matches
end K05
open PySem PySem.W PyProof.Rows
set_option maxHeartbeats 0 in
theorem PySem.Challenge.cw_foldkeep_k05_patterns_holds : PySem.Challenge.rw_foldkeep_k05_patterns.Holds := by
  w_on; o_law; k_head; (case hw => w_witness2)
  k_fill
  refine L2.walk_of (l := PySem.Challenge.rw_foldkeep_k05_patterns) (n := 63) (k := 4) (x := "script") (CX := fun _ => L2.CX0) (sp := fun w => Lw.spLaw _) rfl (by decide) rfl ⟨rfl, by decide, by decide⟩ (fun w h Y => PySem.W.kIn_of Y) ?F (fun _ _ a ns hl _ hS => ⟨a, ns, rfl, hS, hl, fun _ => rfl⟩) (fun _ _ _ _ _ h => h)
  case F =>
    intro w mg fa h KX G hmg
    refine' K05.all_mk KX G hmg ?a1 ?l1 ?c1 ?k1 ?a2 ?l2 ?c2 ?k2 ?a3 ?l3 ?c3 ?k3 ?a4 ?l4 ?c4 ?k4 ?a5 ?l5 ?c5 ?k5 ?a6 ?l6 ?c6 ?k6 ?a7 ?l7 ?c7 ?k7 ?z1 ?z2 ?z3 ?z4 ?z5 ?z6 ?z7
    (case a1 => k_is); (case l1 => k_is); (case c1 => k_is); (case k1 => k_is)
    (case a2 => k_is); (case l2 => k_is); (case c2 => k_is); (case k2 => k_is)
    (case a3 => k_is); (case l3 => k_is); (case c3 => k_is); (case k3 => k_is)
    (case a4 => k_is); (case l4 => k_is); (case c4 => k_is); (case k4 => k_is)
    (case a5 => k_is); (case l5 => k_is); (case c5 => k_is); (case k5 => k_is)
    (case a6 => k_is); (case l6 => k_is); (case c6 => k_is); (case k6 => k_is)
    (case a7 => k_is); (case l7 => k_is); (case c7 => k_is); (case k7 => k_is)
    (case z1 => k_is); (case z2 => k_is); (case z3 => k_is); (case z4 => k_is)
    (case z5 => k_is); (case z6 => k_is); (case z7 => k_is)
#print axioms PySem.Challenge.cw_foldkeep_k05_patterns_holds
