import PyProof.Rows.All
import Wide.All
import OpenK.AllK
import Wide.FinOn
import HandS.ForMost
import HandS.Codes
import HandS.Evl
import HandS.IsInst
import HandS.FStr
import HandS.StrMore
import KE.DataEq
import HandS.SetKeys
import HandS.MakeKwOnly
import HandS.SetFor
import HandS.Strs
import HandS.Conv
import HandS.TupAny
import HandS.Star
import PySem.Challenge.RW_foldkeep_k12_what_ends_leaves_paths
set_option Elab.async false
set_option linter.all false
set_option maxRecDepth 100000
set_option maxHeartbeats 4000000
/-! what the laws' helpers share: values, texts, cells -/
namespace Lw
open PySem PySem.Spec PyProof.Rows L2 Evl

/-! ### small readings -/
section
variable {K : PySem.W.Frag} {σ : L2.St} {H H' : Hp} {ta tb te tx : TE} {t u : TT} {x y z v : V}
theorem rc_int {i : Int} : RC (fun xs H Q => (∃ i, xs = [V.int i] ∧ Q (V.int i) H) ∨ ∃ k, xs = [V.bl k] ∧ Q (V.int (if k = true then 1 else 0)) H) [.int i] H (.int i) :=
  fun H1 _ _ q => Or.inl ⟨i, rfl, q H1 (Ex.refl H1)⟩
theorem rc_lenStr {a : Str} (h : a.length ≤ 100000) : RC (fun xs H Q => ∃ z : Str, xs = [V.str z] ∧ z.length ≤ sizeLine ∧ Q (V.int z.length) H) [.str a] H (.int a.length) :=
  fun H1 _ _ q => ⟨a, rfl, sz_of h, q H1 (Ex.refl H1)⟩
theorem rc_ord {a : Str} (h : a.length = 1) : RC (fun xs H Q => ∃ x : Str, xs = [V.str x] ∧ x.length = 1 ∧ Q (V.int (x.cps.getD 0 0 : Nat)) H) [.str a] H (.int (a.cps.getD 0 0 : Nat)) :=
  fun H1 _ _ q => ⟨a, rfl, h, q H1 (Ex.refl H1)⟩
theorem rv_addS {a b : Str} (h : a.length + b.length ≤ 100000) : RV (fun x y H Q => ∃ i j, x = .str i ∧ y = .str j ∧ i.length + j.length ≤ sizeLine ∧ Q (.str (i ++ j)) H) (.str a) (.str b) H (.str (a ++ b)) :=
  fun H1 _ _ q => ⟨a, b, rfl, rfl, sz_of h, q H1 (Ex.refl H1)⟩
theorem rv_inSign {c : Nat} {a z : Str} (e : a = ⟨#[c]⟩) : RV (fun x y H Q => ∃ (c : Nat) (z : Str), x = .str ⟨#[c]⟩ ∧ y = .str z ∧ Q (.bl (decide (c ∈ z.cps.toList))) H) (.str a) (.str z) H (.bl (decide (c ∈ z.cps.toList))) :=
  fun H1 _ _ q => ⟨c, z, by rw [e], rfl, q H1 (Ex.refl H1)⟩
/-- a text times a small number -/
def rMulStr : R2 := fun x y H Q => ∃ (a : Str) (n : Int), x = .str a ∧ y = .int n ∧ 1 ≤ n ∧ n ≤ 20000 ∧ a.length ≤ 200 ∧ Q (.str (Txt.mul a n)) H
theorem op_mul_str {X : Cx} : OpR X (binaryOp .Mult) rMulStr := by
  intro pins s σ H x y v u Q I rx ry h
  obtain ⟨a, n, rfl, rfl, h1, h2, h3, q⟩ := h
  obtain ⟨t, rfl⟩ := rx
  obtain ⟨t', rfl⟩ := ry
  refine SB.mul (n := n) ⟨?_, fun _ _ => ?_, fun _ _ => ?_⟩ fun t' k => ⟨.str (Txt.mul a n), H, I.tok _, ⟨_, rfl⟩, q⟩
  · rw [decide_eq_false (by omega), decide_eq_false (by omega)]
    rfl
  · have : (2 ^ 63 - 1) / n ≥ 200 := by
      refine (Int.le_ediv_iff_mul_le (by omega)).mpr ?_
      omega
    omega
  · have e : a.length * n.toNat ≤ 200 * 20000 := Nat.mul_le_mul h3 (by omega)
    exact decide_eq_false (by show ¬ a.length * n.toNat > 2 ^ 24; omega)
theorem rv_mulStr {a : Str} {n : Int} (h1 : 1 ≤ n) (h2 : n ≤ 20000) (h3 : a.length ≤ 200) : RV rMulStr (.str a) (.int n) H (.str (Txt.mul a n)) :=
  fun H1 _ _ q => ⟨a, n, rfl, rfl, h1, h2, h3, q H1 (Ex.refl H1)⟩
theorem rc_max2 {i j : Int} : RC (fun xs H Q => ∃ i j : Int, xs = [V.int i, V.int j] ∧ Q (V.int (if j > i then j else i)) H) [.int i, .int j] H (.int (if j > i then j else i)) :=
  fun H1 _ _ q => ⟨i, j, rfl, q H1 (Ex.refl H1)⟩
theorem rc_min2 {i j : Int} : RC (fun xs H Q => ∃ i j : Int, xs = [V.int i, V.int j] ∧ Q (V.int (if j < i then j else i)) H) [.int i, .int j] H (.int (if j < i then j else i)) :=
  fun H1 _ _ q => ⟨i, j, rfl, q H1 (Ex.refl H1)⟩
theorem et_yes : EvT tYes σ H true := fun H1 _ _ q => q H1 (Ex.refl H1)
/-- a slice of a text -/
theorem ev_cutS {tl th : TO} {z : Str} {lo hi : Option Int} (h : Ev te σ H (.str z)) (h1 : EvO tl σ H lo) (h2 : EvO th σ H hi) (hz : z.length ≤ 100000) : Ev (tSl rSlS te tl th) σ H (.str (cutS z lo hi)) := fun H1 e Q q =>
  h H1 e _ fun H2 e2 => h1 H2 (e.trans e2) _ fun H3 e3 => h2 H3 ((e.trans e2).trans e3) _ fun H4 e4 => ⟨z, rfl, sz_of hz, q H4 ((e2.trans e3).trans e4)⟩
/-- sep.join(a new list of texts) -/
theorem ev_joinL {a : Str} {ys : List Str} (ho : Ev ta σ H (.str a)) (h : EvL te σ H (ys.map V.str)) (hz : (ys.map (·.length)).sum + ys.length * a.length ≤ 16777216) :
    Ev (tM1 (fun x xs H Q => ∃ a p, ∃ ys : List Str, x = .str a ∧ xs = [.ref p] ∧ (SqL K H p (ys.map V.str) ∨ SqT K H p (ys.map V.str)) ∧ (ys.map (·.length)).sum + ys.length * a.length ≤ 16777216 ∧ Q (.str (Txt.join a ys)) H) ta te) σ H (.str (Txt.join a ys)) := fun H1 e Q q =>
  ho H1 e _ fun H2 e2 => ⟨⟨a, rfl⟩, h H2 (e.trans e2) _ fun p H3 _ e3 h3 => ⟨a, p, ys, rfl, rfl, .inl (sq_of h3), hz, q H3 (e2.trans e3)⟩⟩
/-- sep.join(a list of texts that stands) -/
theorem ev_joinS {a : Str} {p : Addr} {ys : List Str} (ho : Ev ta σ H (.str a)) (h : Ev te σ H (.ref p)) (hp : SqL K H p (ys.map V.str) ∨ SqT K H p (ys.map V.str)) (hz : (ys.map (·.length)).sum + ys.length * a.length ≤ 16777216) :
    Ev (tM1 (fun x xs H Q => ∃ a p, ∃ ys : List Str, x = .str a ∧ xs = [.ref p] ∧ (SqL K H p (ys.map V.str) ∨ SqT K H p (ys.map V.str)) ∧ (ys.map (·.length)).sum + ys.length * a.length ≤ 16777216 ∧ Q (.str (Txt.join a ys)) H) ta te) σ H (.str (Txt.join a ys)) := fun H1 e Q q =>
  ho H1 e _ fun H2 e2 => ⟨⟨a, rfl⟩, h H2 (e.trans e2) _ fun H3 e3 => ⟨a, p, ys, rfl, rfl, hp.elim (fun h => .inl (ex_l ((e.trans e2).trans e3) h)) (fun h => .inr (ex_t ((e.trans e2).trans e3) h)), hz, q H3 (e2.trans e3)⟩⟩
/-- the second operand told once the first is there -/
theorem ev_opV2 {r : R2} (ha : Ev ta σ H x) (hb : ∀ H1, Ex H H1 → Ev tb σ H1 y) (hr : RV r x y H z) : Ev (tOp r ta tb) σ H z := fun H1 e Q q =>
  ha H1 e _ fun H2 e2 => hb H2 (e.trans e2) H2 (Ex.refl H2) _ fun H3 e3 => hr H3 ((e.trans e2).trans e3) Q fun H4 e4 => q H4 ((e2.trans e3).trans e4)
theorem ev_chain {r r' : R2} {tc : TE} {a b : Bool} (ha : Ev ta σ H x) (hb : Ev tb σ H y) (hr : RV r x y H (.bl a)) (hc : a = true → Ev tc σ H z) (hr' : a = true → RV r' y z H (.bl b)) : Ev (tChain r r' ta tb tc) σ H (.bl (a && b)) := fun H1 e Q q =>
  ha H1 e _ fun H2 e2 => hb H2 (e.trans e2) _ fun H3 e3 => hr H3 ((e.trans e2).trans e3) _ fun H4 e4 => ⟨a, rfl, by
    cases a with
    | true =>
      show tc σ H4 _
      exact hc rfl H4 (((e.trans e2).trans e3).trans e4) _ fun H5 e5 => hr' rfl H5 ((((e.trans e2).trans e3).trans e4).trans e5) Q fun H6 e6 => q H6 ((((e2.trans e3).trans e4).trans e5).trans e6)
    | false =>
      show Q (.bl false) H4
      exact q H4 ((e2.trans e3).trans e4)⟩
/-- some value of which R holds -/
def EvP (te : TE) (σ : L2.St) (H : Hp) (R : V → Prop) : Prop := ∀ H1, Ex H H1 → ∀ Q : VK, (∀ v H2, R v → Ex H1 H2 → Q v H2) → te σ H1 Q
def SpP (sp : Sp) (vs : List V) (H : Hp) (R : V → Prop) : Prop := ∀ H1, Ex H H1 → ∀ Q : VK, (∀ v H2, R v → Ex H1 H2 → Q v H2) → ∀ E : XK, sp vs H1 Q E
theorem s_asgP {R : V → Prop} {D : Ends} {i : Nat} (h : EvP te σ H R) (k : ∀ v H1, R v → Ex H H1 → D.nx (σ.set i (some v)) H1) : tAsg te (gName i) D σ H := h H (Ex.refl H) _ fun v H1 r e => k v H1 r e
theorem q_asgP {R : V → Prop} {D : Ends} {tz : TS} {i : Nat} (h : EvP te σ H R) (k : ∀ v H1, R v → Ex H H1 → tz D (σ.set i (some v)) H1) : tSeq (tAsg te (gName i)) tz D σ H := s_asgP (D := { D with nx := tz D }) h k
theorem ep_call {R : V → Prop} {sp : Sp} {dvs vs : List V} {E : XK} {ta : TA} (h : EvA ta σ H vs) (hs : SpP sp (vs ++ dvs) H R) : EvP (tCall sp dvs E ta) σ H R := fun H1 e Q q =>
  h H1 e _ fun H2 e2 => hs H2 (e.trans e2) Q (fun v H3 r e3 => q v H3 r (e2.trans e3)) E
/-- of one argument, a new list -/
theorem ep_callL {R : V → Prop} {sp : Sp} {dvs xs : List V} {E : XK} (h : EvL te σ H xs) (hs : ∀ p H1, Ex H H1 → H1 p = some (.lst xs) → SpP sp (.ref p :: dvs) H1 R) : EvP (tCall sp dvs E (tCons te tNil)) σ H R := fun H1 e Q q =>
  h H1 e _ fun p H2 _ e2 h2 => hs p H2 (e.trans e2) h2 H2 (Ex.refl H2) Q (fun v H3 r e3 => q v H3 r (e2.trans e3)) E
theorem at_int {ns : List Int} {i : Int} (h0 : 0 ≤ i) (h : i < (ns.length : Int)) : atI (ns.map V.int) i = some (.int (ns.getD i.toNat 0)) := by
  obtain ⟨j, rfl⟩ := Int.eq_ofNat_of_zero_le h0
  refine atI_nat ?_
  have hj : j < ns.length := by omega
  rw [List.getElem?_map, List.getElem?_eq_getElem hj, Int.toNat_natCast, List.getD_eq_getElem?_getD, List.getElem?_eq_getElem hj]
  rfl
end

/-! ### loops over texts -/
section
variable {σ : L2.St} {H H' : Hp} {te : TE} {D : Ends} {tu tz : TS} {g : TG}
theorem for_str {x : Str} {tb : TS} (Pv : Nat → L2.St → Hp → Prop) (h0 : Pv 0 σ H)
    (hs : ∀ i c σ H, x.cps.toList[i]? = some c → Pv i σ H → g (.str ⟨#[c]⟩) σ H fun σ2 H2 => tb { D with nx := Pv (i + 1), ct := Pv (i + 1), bk := D.nx } σ2 H2) (hd : ∀ σ H, Pv x.cps.size σ H → D.nx σ H) :
    ∃ W : Nat → Nat → L2.St → Hp → Prop, (∃ m, W 0 m σ H) ∧ ∀ i m σ H, W i m σ H →
      ((Its x).stop i H ∧ D.nx σ H) ∨ ((Its x).go i H ∧ ∃ N : L2.St → Hp → Prop, (∀ σ' H', N σ' H' → ∃ m', m' < m ∧ W (i + 1) m' σ' H') ∧ ∀ y H', (Its x).yld i H y H' → g y σ H' fun σ2 H2 => tb { D with nx := N, ct := N, bk := D.nx } σ2 H2) := by
  refine ⟨fun i m σ H => m = x.cps.size - i ∧ i ≤ x.cps.size ∧ Pv i σ H, ⟨x.cps.size, by simp, Nat.zero_le _, h0⟩, ?_⟩
  rintro i m σ H ⟨rfl, hi, p⟩
  by_cases hlt : i < x.cps.size
  · refine .inr ⟨hlt, Pv (i + 1), fun σ' H' p' => ⟨x.cps.size - (i + 1), by omega, rfl, hlt, p'⟩, fun y H' q => ?_⟩
    obtain ⟨rfl, c, hc, rfl⟩ := q
    exact hs i c σ _ (by rw [Array.getElem?_toList]; exact hc) p
  · have e : i = x.cps.size := by omega
    subst e
    exact .inl ⟨Nat.le_refl _, hd σ H p⟩
theorem s_forS {x : Str} {j : Nat} (h : Ev te σ H (.str x)) (Pv : Nat → L2.St → Hp → Prop) (h0 : ∀ H1, Ex H H1 → Pv 0 σ H1)
    (hs : ∀ i c σ' H', x.cps.toList[i]? = some c → Pv i σ' H' → tu { D with nx := Pv (i + 1), ct := Pv (i + 1), bk := D.nx } (σ'.set j (some (.str ⟨#[c]⟩))) H') (hd : ∀ σ' H', Pv x.cps.size σ' H' → D.nx σ' H') : tFor (iStr te) (gName j) tu D σ H :=
  h H (Ex.refl H) _ fun H1 e => ⟨x, rfl, for_str Pv (h0 H1 e) hs hd⟩
theorem q_forS {x : Str} {j : Nat} (h : Ev te σ H (.str x)) (Pv : Nat → L2.St → Hp → Prop) (h0 : ∀ H1, Ex H H1 → Pv 0 σ H1)
    (hs : ∀ i c σ' H', x.cps.toList[i]? = some c → Pv i σ' H' → tu { D with nx := Pv (i + 1), ct := Pv (i + 1), bk := tz D } (σ'.set j (some (.str ⟨#[c]⟩))) H') (hd : ∀ σ' H', Pv x.cps.size σ' H' → tz D σ' H') : tSeq (tFor (iStr te) (gName j) tu) tz D σ H :=
  s_forS (D := { D with nx := tz D }) h Pv h0 hs hd
end
theorem at_str {xs : List Str} {i : Int} (h0 : 0 ≤ i) (h : i < (xs.length : Int)) : atI (xs.map V.str) i = some (.str (xs.getD i.toNat Str.empty)) := by
  obtain ⟨j, rfl⟩ := Int.eq_ofNat_of_zero_le h0
  refine atI_nat ?_
  have hj : j < xs.length := by omega
  rw [List.getElem?_map, List.getElem?_eq_getElem hj, Int.toNat_natCast, List.getD_eq_getElem?_getD, List.getElem?_eq_getElem hj]
  rfl
theorem memD {α : Type} {xs : List α} {d : α} {j : Nat} (h : j < xs.length) : xs.getD j d ∈ xs := by
  rw [List.getD_eq_getElem?_getD, List.getElem?_eq_getElem h]
  exact List.getElem_mem h
theorem dec_str1 {c d : Nat} {a : Str} (e : a = ⟨#[d]⟩) : decide (V.str ⟨#[c]⟩ = V.str a) = decide (c = d) := by
  rw [e, Bool.eq_iff_iff, decide_eq_true_iff, decide_eq_true_iff]
  constructor
  · intro h
    have h1 : (⟨#[c]⟩ : Str) = ⟨#[d]⟩ := V.str.inj h
    have h2 : (#[c] : Array Nat) = #[d] := congrArg Str.cps h1
    have h3 : ([c] : List Nat) = [d] := congrArg Array.toList h2
    exact (List.cons.inj h3).1
  · intro h
    rw [h]
theorem all_take_succ {p : Nat → Bool} {xs : List Nat} {i c : Nat} (h : xs[i]? = some c) : (xs.take (i + 1)).all p = ((xs.take i).all p && p c) := by
  rw [List.take_add_one, h, List.all_append]
  simp

/-- a new tuple is handed back -/
def RetU (xs : List V) (H : Hp) (Q : VK) : Prop := ∀ p H2, H p = none → Ex H H2 → H2 p = some (.tup xs) → Q (.ref p) H2
def SpU (sp : Sp) (vs : List V) (H : Hp) (xs : List V) : Prop := ∀ H1, Ex H H1 → ∀ Q : VK, (∀ p H2, H1 p = none → Ex H1 H2 → H2 p = some (.tup xs) → Q (.ref p) H2) → ∀ E : XK, sp vs H1 Q E
section
variable {K : PySem.W.Frag} {σ : L2.St} {H H' : Hp} {te : TE} {D : Ends} {tu tz : TS} {g : TG}
theorem eu_call {sp : Sp} {dvs vs xs : List V} {E : XK} {ta : TA} (h : EvA ta σ H vs) (hs : SpU sp (vs ++ dvs) H xs) : EvU (tCall sp dvs E ta) σ H xs := fun H1 e Q q =>
  h H1 e _ fun H2 e2 => hs H2 (e.trans e2) Q (fun p H3 hp e3 h3 => q p H3 (fresh_back e2 hp) (e2.trans e3) h3) E
/-- a for over a new tuple -/
theorem s_forNT {xs : List V} {tl : TE} {j : Nat} (h : EvU tl σ H xs) (Pv : Addr → Nat → L2.St → Hp → Prop) (h0 : ∀ p H1, H p = none → Ex H H1 → H1 p = some (.tup xs) → Pv p 0 σ H1) (hl : ∀ p i σ' H', i ≤ xs.length → Pv p i σ' H' → SqT K H' p xs)
    (hs : ∀ p i x σ' H', xs[i]? = some x → Pv p i σ' H' → tu { D with nx := Pv p (i + 1), ct := Pv p (i + 1), bk := D.nx } (σ'.set j (some x)) H') (hd : ∀ p σ' H', Pv p xs.length σ' H' → D.nx σ' H') : tFor (iTup K tl) (gName j) tu D σ H :=
  h H (Ex.refl H) _ fun p H1 hp e h1 => ⟨p, rfl, ⟨xs, st_of h1⟩, for_tup (Pv p) (h0 p H1 hp e h1) (hl p) (hs p) (hd p)⟩
theorem q_forNT {xs : List V} {tl : TE} {j : Nat} (h : EvU tl σ H xs) (Pv : Addr → Nat → L2.St → Hp → Prop) (h0 : ∀ p H1, H p = none → Ex H H1 → H1 p = some (.tup xs) → Pv p 0 σ H1) (hl : ∀ p i σ' H', i ≤ xs.length → Pv p i σ' H' → SqT K H' p xs)
    (hs : ∀ p i x σ' H', xs[i]? = some x → Pv p i σ' H' → tu { D with nx := Pv p (i + 1), ct := Pv p (i + 1), bk := tz D } (σ'.set j (some x)) H') (hd : ∀ p σ' H', Pv p xs.length σ' H' → tz D σ' H') : tSeq (tFor (iTup K tl) (gName j) tu) tz D σ H :=
  s_forNT (D := { D with nx := tz D }) h Pv h0 hl hs hd
/-- len of a tuple -/
theorem ev_lenT {ta : TE} {p : Addr} {xs : List V} (ha : Ev ta σ H (.ref p)) (h : SqT K H p xs) : Ev (tCB (Evl.rLenS K) (tCons ta tNil)) σ H (.int (xs.length : Int)) := fun H1 e Q q =>
  ha H1 e _ fun H2 e2 => ⟨p, xs, rfl, Or.inr (ex_t (e.trans e2) h), q H2 e2⟩
end

section
variable {K : PySem.W.Frag} {H H' : Hp} {x y : V}
theorem rc_isTup {p : Addr} {xs : List V} (h : H p = some (.tup xs)) : RC (rIsi K) [.ref p, .ty "tuple"] H (.bl true) := fun H1 e _ q =>
  ⟨_, _, _, _, true, rfl, .ty "tuple", .base (.tup (e p _ h)), (by unfold PySem.W.kitOne; rw [if_pos (by decide)]), q H1 (Ex.refl H1)⟩
theorem rc_isBool {b : Bool} : RC (rIsi K) [.bl b, .ty "bool"] H (.bl true) := fun H1 e _ q =>
  ⟨_, _, _, _, true, rfl, .ty "bool", .base (.bl b), (by unfold PySem.W.kitOne; rw [if_pos (by decide)]), q H1 (Ex.refl H1)⟩
/-- two equal data -/
theorem rv_eqD {d e : PyData} {b : Bool} (hx : ∀ H1, Ex H H1 → Dp K H1 x d) (hy : ∀ H1, Ex H H1 → Dp K H1 y e) (sd : SeqAt.shaped d = true) (se : SeqAt.shaped e = true) (hb : PyData.eqv d e = b) : RV (rEqD K) x y H (.bl b) := fun H1 e1 _ q =>
  ⟨d, e, hx H1 e1, hy H1 e1, sd, se, by rw [hb]; exact q H1 (Ex.refl H1)⟩
theorem rv_neD {d e : PyData} {b : Bool} (hx : ∀ H1, Ex H H1 → Dp K H1 x d) (hy : ∀ H1, Ex H H1 → Dp K H1 y e) (sd : SeqAt.shaped d = true) (se : SeqAt.shaped e = true) (hb : PyData.eqv d e = b) : RV (rNeD K) x y H (.bl (!b)) := fun H1 e1 _ q =>
  ⟨d, e, hx H1 e1, hy H1 e1, sd, se, by rw [hb]; exact q H1 (Ex.refl H1)⟩
theorem at_codeS {l : List Nat} {i : Int} (h0 : 0 ≤ i) (h : i < (l.length : Int)) : atI (SX.S l).cps.toList i = some (l.getD i.toNat 0) := by
  obtain ⟨j, rfl⟩ := Int.eq_ofNat_of_zero_le h0
  have hj : j < l.length := by omega
  refine atI_nat ?_
  show l[j]? = _
  rw [List.getElem?_eq_getElem hj, Int.toNat_natCast, List.getD_eq_getElem?_getD, List.getElem?_eq_getElem hj]
  rfl
theorem mod_bd (x m : Int) (h : 0 < m) : 0 ≤ x % m ∧ x % m < m := ⟨Int.emod_nonneg _ (by omega), Int.emod_lt_of_pos _ h⟩
theorem given_all (n : Nat) (v : Nat → V) : given n (fun _ => true) v = (List.range n).map v := by
  unfold given
  rw [List.filter_eq_self.mpr (fun _ _ => rfl)]
theorem at_range {n i : Nat} {v : Nat → V} (h : i < n) : atI ((List.range n).map v) (i : Int) = some (v i) := by
  refine atI_nat ?_
  rw [List.getElem?_map, List.getElem?_range h]
  rfl
end

/-! ### texts by their codes -/
theorem len_S (l : List Nat) : (SX.S l).length = l.length := SX.S_len l
theorem cut_mid (l : List Nat) (a b : Nat) : cutS (SX.S l) (some (a : Int)) (some (b : Int)) = SX.S ((l.drop a).take (b - a)) := by
  unfold cutS
  rw [len_S, HT.sIx_nat, HT.sIx_nat]
  show SX.S ((l.drop (min a l.length)).take (min b l.length - min a l.length)) = _
  refine congrArg SX.S ?_
  by_cases h : a ≤ l.length
  · rw [Nat.min_eq_left h, List.take_eq_take_iff, List.length_drop]
    omega
  · rw [Nat.min_eq_right (show l.length ≤ a by omega), List.drop_eq_nil_of_le (Nat.le_refl _), List.drop_eq_nil_of_le (show l.length ≤ a by omega)]
    simp
theorem cut_to (l : List Nat) (b : Nat) : cutS (SX.S l) none (some (b : Int)) = SX.S (l.take b) := by
  unfold cutS
  rw [len_S, HT.sIx_nat, HT.sIx_none]
  show SX.S ((l.drop 0).take (min b l.length - 0)) = _
  refine congrArg SX.S ?_
  rw [List.drop_zero, List.take_eq_take_iff]
  omega
theorem cut_from (l : List Nat) (a : Nat) : cutS (SX.S l) (some (a : Int)) none = SX.S (l.drop a) := by
  unfold cutS
  rw [len_S, HT.sIx_nat, HT.sIx_none]
  show SX.S ((l.drop (min a l.length)).take (l.length - min a l.length)) = _
  refine congrArg SX.S ?_
  by_cases h : a ≤ l.length
  · rw [Nat.min_eq_left h]
    exact List.take_of_length_le (by rw [List.length_drop]; omega)
  · rw [Nat.min_eq_right (show l.length ≤ a by omega), List.drop_eq_nil_of_le (Nat.le_refl _), List.drop_eq_nil_of_le (show l.length ≤ a by omega)]
    simp
theorem join_ones : ∀ l : List Nat, Txt.join (SX.S []) (l.map fun c => SX.S [c]) = SX.S l := fun l => by
  have e : (l.map fun c => SX.S [c]) = (l.map fun c => [c]).map SX.S := by rw [List.map_map]; rfl
  rw [e, SX.join_S]
  refine congrArg SX.S ?_
  induction l with
  | nil => rfl
  | cons c l ih =>
    cases l with
    | nil => rfl
    | cons d l =>
      show [c] ++ ([] ++ TL.joinL [] (((d :: l).map fun c => [c]))) = _
      rw [ih (by rw [List.map_map]; rfl)]
      rfl
theorem sum_ones (l : List Nat) : ((l.map fun c => SX.S [c]).map (·.length)).sum = l.length := by
  induction l with
  | nil => rfl
  | cons c l ih =>
    rw [List.map_cons, List.map_cons, List.sum_cons, ih, len_S]
    simp [Nat.add_comm]

/-! ### names -/
theorem e_slashS : Str.ofString "/" = ⟨#[47]⟩ := by decide +kernel
def nameOk (z : Str) : Bool := (!(decide (V.str z = V.str (Str.ofString ".")) || (decide (V.str z = V.str (Str.ofString "..")) || decide (47 ∈ z.cps.toList)))) && ((!(decide ((z.length : Int) < 1) || decide ((100 : Int) < (z.length : Int)))) && z.cps.toList.all fun c => !decide (((c : Nat) : Int) < 32))
def sp_is_name (K : PySem.W.Frag) : Sp := fun vs H Q _ => ∃ z : Str, vs = [.str z] ∧ z.length ≤ 100000 ∧ RetV (.bl (nameOk z)) H Q
theorem sp_nm {K : PySem.W.Frag} {H : Hp} {z : Str} (h : z.length ≤ 100000) : SpV (sp_is_name K) [.str z] H (.bl (nameOk z)) := fun H1 e Q q E => ⟨z, rfl, h, fun H2 e2 => q H2 e2⟩

/-! ### == of data, whatever texts lie within -/
def rEqP (K : PySem.W.Frag) : R2 := fun x y H Q => ∃ d e, Dp K H x d ∧ Dp K H y e ∧ d.plain = true ∧ e.plain = true ∧ d.depth ≤ 60 ∧ Q (.bl (PyData.eqv d e)) H
def rNeP (K : PySem.W.Frag) : R2 := fun x y H Q => ∃ d e, Dp K H x d ∧ Dp K H y e ∧ d.plain = true ∧ e.plain = true ∧ d.depth ≤ 60 ∧ Q (.bl (!PyData.eqv d e)) H
theorem op_eqP {X : Cx} (hu : X.A.units + 64 < cLine) : OpR X (compareOp .Eq) (rEqP X.K) := by
  intro pins s σ H x y v u Q I rx ry h
  obtain ⟨d, e, hd, he, pd, pe, dd, q⟩ := h
  obtain ⟨as, r1⟩ := Dp.reads I d x v hd rx
  obtain ⟨bs, r2⟩ := Dp.reads I e y u he ry
  exact SeqAt.eq_plain r1 r2 pd pe (by omega) ⟨.bl _, H, I, rfl, q⟩
theorem op_neP {X : Cx} (hu : X.A.units + 64 < cLine) : OpR X (compareOp .NotEq) (rNeP X.K) := by
  intro pins s σ H x y v u Q I rx ry h
  obtain ⟨d, e, hd, he, pd, pe, dd, q⟩ := h
  obtain ⟨as, r1⟩ := Dp.reads I d x v hd rx
  obtain ⟨bs, r2⟩ := Dp.reads I e y u he ry
  exact SeqAt.ne_plain r1 r2 pd pe (by omega) ⟨.bl _, H, I, rfl, q⟩
section
variable {K : PySem.W.Frag} {σ : L2.St} {H H' : Hp} {ta tb te : TE} {x y z v : V} {r : R2}
theorem rv_eqP {d e : PyData} {b : Bool} (hx : ∀ H1, Ex H H1 → Dp K H1 x d) (hy : ∀ H1, Ex H H1 → Dp K H1 y e) (pd : d.plain = true) (pe : e.plain = true) (dd : d.depth ≤ 60) (hb : PyData.eqv d e = b) : RV (rEqP K) x y H (.bl b) := fun H1 e1 _ q =>
  ⟨d, e, hx H1 e1, hy H1 e1, pd, pe, dd, by rw [hb]; exact q H1 (Ex.refl H1)⟩
theorem rv_neP {d e : PyData} {b : Bool} (hx : ∀ H1, Ex H H1 → Dp K H1 x d) (hy : ∀ H1, Ex H H1 → Dp K H1 y e) (pd : d.plain = true) (pe : e.plain = true) (dd : d.depth ≤ 60) (hb : PyData.eqv d e = b) : RV (rNeP K) x y H (.bl (!b)) := fun H1 e1 _ q =>
  ⟨d, e, hx H1 e1, hy H1 e1, pd, pe, dd, by rw [hb]; exact q H1 (Ex.refl H1)⟩
theorem dp_strs {K : PySem.W.Frag} {H : Hp} : ∀ ys : List Str, DpAll K H (ys.map V.str) (ys.map PyData.str)
  | [] => .nil
  | y :: ys => .cons (.str y) (dp_strs ys)
theorem plain_strs : ∀ ys : List Str, PyData.plainAll (ys.map PyData.str) = true
  | [] => rfl
  | _ :: ys => plain_strs ys
theorem depth_strs : ∀ ys : List Str, PyData.depthAll (ys.map PyData.str) = 0
  | [] => rfl
  | _ :: ys => by
    show max 0 (PyData.depthAll (ys.map PyData.str)) = 0
    rw [depth_strs ys]
    rfl
/-- a value of which R holds, at the heap behind -/
def EvH (te : TE) (σ : L2.St) (H : Hp) (R : V → Hp → Prop) : Prop := ∀ H1, Ex H H1 → ∀ Q : VK, (∀ v H2, Ex H1 H2 → R v H2 → Q v H2) → te σ H1 Q
def SpH (sp : Sp) (vs : List V) (H : Hp) (R : V → Hp → Prop) : Prop := ∀ H1, Ex H H1 → ∀ Q : VK, (∀ v H2, Ex H1 H2 → R v H2 → Q v H2) → ∀ E : XK, sp vs H1 Q E
theorem eh_call {R : V → Hp → Prop} {sp : Sp} {dvs vs : List V} {E : XK} {ta : TA} (h : EvA ta σ H vs) (hs : SpH sp (vs ++ dvs) H R) : EvH (tCall sp dvs E ta) σ H R := fun H1 e Q q =>
  h H1 e _ fun H2 e2 => hs H2 (e.trans e2) Q (fun v H3 e3 r => q v H3 (e2.trans e3) r) E
theorem s_asgH {R : V → Hp → Prop} {D : Ends} {i : Nat} (h : EvH te σ H R) (k : ∀ v H1, Ex H H1 → R v H1 → D.nx (σ.set i (some v)) H1) : tAsg te (gName i) D σ H := h H (Ex.refl H) _ k
theorem q_asgH {R : V → Hp → Prop} {D : Ends} {tz : TS} {i : Nat} (h : EvH te σ H R) (k : ∀ v H1, Ex H H1 → R v H1 → tz D (σ.set i (some v)) H1) : tSeq (tAsg te (gName i)) tz D σ H := s_asgH (D := { D with nx := tz D }) h k
theorem ev_opH {R : V → Hp → Prop} (hm : ∀ v H1 H2, Ex H1 H2 → R v H1 → R v H2) (ha : EvH ta σ H R) (hb : ∀ H1, Ex H H1 → Ev tb σ H1 y) (hr : ∀ x H1, Ex H H1 → R x H1 → RV r x y H1 z) : Ev (tOp r ta tb) σ H z := fun H1 e Q q =>
  ha H1 e _ fun x H2 e2 rx => hb H2 (e.trans e2) H2 (Ex.refl H2) _ fun H3 e3 => hr x H3 ((e.trans e2).trans e3) (hm x _ _ e3 rx) H3 (Ex.refl H3) Q fun H4 e4 => q H4 ((e2.trans e3).trans e4)
/-- tuple(a list), tuple(a new list) -/
def rTup (K : PySem.W.Frag) : List V → Hp → VK → Prop := fun xs H Q => ∃ p ys, xs = [.ref p] ∧ ((SqL K H p ys ∧ ∀ l, H l = none → Q (.ref l) (upd H l (.tup ys))) ∨ (SqT K H p ys ∧ Q (.ref p) H))
theorem eu_tupOf {p : Addr} {xs : List V} (ha : Ev ta σ H (.ref p)) (h : SqL K H p xs) : EvU (tCB (rTup K) (tCons ta tNil)) σ H xs := fun H1 e Q q =>
  ha H1 e _ fun H2 e2 => ⟨p, xs, rfl, .inl ⟨ex_l (e.trans e2) h, fun l hl => q l _ (fresh_back e2 hl) (e2.trans (Ex.new hl)) upd_same⟩⟩
theorem eu_tupOfL {xs : List V} (ha : EvL ta σ H xs) : EvU (tCB (rTup K) (tCons ta tNil)) σ H xs := fun H1 e Q q =>
  ha H1 e _ fun p H2 _ e2 h2 => ⟨p, xs, rfl, .inl ⟨sq_of h2, fun l hl => q l _ (fresh_back e2 hl) (e2.trans (Ex.new hl)) upd_same⟩⟩
/-- s.split(t) -/
theorem el_split {a b : Str} (ho : Ev ta σ H (.str a)) (he : Ev te σ H (.str b)) (hb : (b.length == 0) = false) (ha : a.length ≤ 90000) :
    EvL (tM1 (fun x xs H Q => ∃ a b, x = .str a ∧ xs = [.str b] ∧ (b.length == 0) = false ∧ a.length + 2 ≤ sizeLine ∧ rNewStrs (Txt.split a b) H Q) ta te) σ H ((Txt.split a b).map V.str) := fun H1 e Q q =>
  ho H1 e _ fun H2 e2 => ⟨⟨a, rfl⟩, he H2 (e.trans e2) _ fun H3 e3 => ⟨a, b, rfl, rfl, hb, sz_of (by omega), fun p hp => q p _ (fresh_back (e2.trans e3) hp) ((e2.trans e3).trans (Ex.new hp)) upd_same⟩⟩
/-- all(a new list of truths), any(..) -/
theorem ev_allL {bs : List Bool} (ha : EvL ta σ H (bs.map V.bl)) : Ev (tCB (rAll K) (tCons ta tNil)) σ H (.bl (bs.all id)) := fun H1 e Q q =>
  ha H1 e _ fun p H2 _ e2 h2 => ⟨p, bs, rfl, sq_of h2, q H2 e2⟩
theorem ev_anyL {bs : List Bool} (ha : EvL ta σ H (bs.map V.bl)) : Ev (tCB (rAny K) (tCons ta tNil)) σ H (.bl (bs.any id)) := fun H1 e Q q =>
  ha H1 e _ fun p H2 _ e2 h2 => ⟨p, bs, rfl, sq_of h2, q H2 e2⟩
theorem rv_isN : RV (fun x y H Q => y = .non ∧ Q (.bl (decide (x = .non))) H) x .non H (.bl (decide (x = .non))) := fun H1 _ _ q => ⟨rfl, q H1 (Ex.refl H1)⟩
end
theorem join_cut : ∀ (l acc : List Nat), TL.joinL [47] (TL.spl [47] 0 acc l) = acc ++ l ∧ TL.spl [47] 0 acc l ≠ []
  | [], acc => by
    rw [TL.spl_nil]
    exact ⟨(List.append_nil acc).symm, by simp⟩
  | c :: r, acc => by
    by_cases h : TL.pre [47] (c :: r) = true
    · have hc : c = 47 := by
        simp [TL.pre] at h
        exact h
      rw [TL.spl_hit h]
      show TL.joinL [47] (acc :: TL.spl [47] 0 [] r) = acc ++ c :: r ∧ _
      obtain ⟨i1, i2⟩ := join_cut r []
      refine ⟨?_, by simp⟩
      cases hs : TL.spl [47] 0 [] r with
      | nil => exact absurd hs i2
      | cons x xs =>
        show acc ++ ([47] ++ TL.joinL [47] (x :: xs)) = _
        rw [← hs, i1, hc]
        rfl
    · have h' : TL.pre [47] (c :: r) = false := by
        cases hb : TL.pre [47] (c :: r) with
        | true => exact absurd hb h
        | false => rfl
      rw [TL.spl_miss h']
      obtain ⟨i1, i2⟩ := join_cut r (acc ++ [c])
      exact ⟨by rw [i1, List.append_assoc]; rfl, i2⟩

/-! ### f-strings, numbers as texts, unpacking -/
section
variable {K : PySem.W.Frag} {σ : L2.St} {H H' : Hp} {te : TE} {D : Ends} {tz : TS}
theorem ev_fmtS {y : Str} (h : Ev te σ H (.str y)) (hy : y.length ≤ 100000) : Ev (tFmt te) σ H (.str y) := fun H1 e Q q => h H1 e _ fun H2 e2 => .inl ⟨y, rfl, sz_of hy, q H2 e2⟩
theorem log_small {i : Int} (h : i.natAbs < 2 ^ 100) : i.natAbs.log2 < 1920 := by
  by_cases h0 : i.natAbs = 0
  · rw [h0]
    decide
  · have := (Nat.log2_lt h0).mpr h
    omega
theorem ev_fmtN {n : Nat} (h : Ev te σ H (.int (n : Int))) (hn : n < 2 ^ 100) : Ev (tFmt te) σ H (.str (SX.S (TL.numL n))) := fun H1 e Q q => h H1 e _ fun H2 e2 => .inr ⟨(n : Int), rfl, log_small hn, by
  have g := q H2 e2
  rw [← SX.num_S] at g
  exact g⟩
theorem rc_strN {n : Nat} (hn : n < 2 ^ 100) : RC (fun xs H Q => ∃ i : Int, xs = [V.int i] ∧ i.natAbs.log2 < 1920 ∧ Q (V.str (toString i : String)) H) [.int (n : Int)] H (.str (SX.S (TL.numL n))) := fun H1 _ _ q => ⟨(n : Int), rfl, log_small hn, by
  have g := q H1 (Ex.refl H1)
  rw [← SX.num_S] at g
  exact g⟩
inductive EvJ (σ : L2.St) (H : Hp) : List TE → List (List Nat) → Prop where
  | nil : EvJ σ H [] []
  | cons {t : TE} {y : List Nat} {ts : List TE} {ys : List (List Nat)} (h : Ev t σ H (.str (SX.S y))) (r : EvJ σ H ts ys) : EvJ σ H (t :: ts) (y :: ys)
theorem ev_js {ts : List TE} {ys : List (List Nat)} (h : EvJ σ H ts ys) : ∀ (acc : List Nat) (H1 : Hp), Ex H H1 → acc.length + (ys.map List.length).sum ≤ 100000 → ∀ Q : Str → Hp → Prop, (∀ H2, Ex H1 H2 → Q (SX.S (ys.foldl (· ++ ·) acc)) H2) → tJs ts (SX.S acc) σ H1 Q := by
  induction h with
  | nil =>
    intro acc H1 e _ Q q
    exact q H1 (Ex.refl H1)
  | @cons t y ts ys h r ih =>
    intro acc H1 e hl Q q
    rw [List.map_cons, List.sum_cons] at hl
    refine h H1 e _ fun H2 e2 => ⟨SX.S y, rfl, ?_, ?_⟩
    · rw [SX.S_cat, len_S, List.length_append]
      exact sz_of (by omega)
    · rw [SX.S_cat]
      exact ih (acc ++ y) H2 (e.trans e2) (by rw [List.length_append]; omega) Q fun H3 e3 => q H3 (e2.trans e3)
theorem ev_joined {ts : List TE} {ys : List (List Nat)} (h : EvJ σ H ts ys) (hl : (ys.map List.length).sum ≤ 100000) : Ev (fun σ H Q => tJs ts Str.empty σ H fun out H1 => Q (.str out) H1) σ H (.str (SX.S (ys.foldl (· ++ ·) []))) := fun H1 e Q q =>
  ev_js h [] H1 e (by rw [List.length_nil, Nat.zero_add]; exact hl) (fun out H2 => Q (.str out) H2) q
theorem q_unp2 {p : Addr} {x y : V} {i j : Nat} (h : Ev te σ H (.ref p)) (hp : SqT K H p [x, y]) (k : ∀ H1, Ex H H1 → tz D ((σ.set i (some x)).set j (some y)) H1) : tSeq (tAsg te (gTup K 2 (gCons (gName i) (gCons (gName j) gNil)))) tz D σ H :=
  h H (Ex.refl H) _ fun H1 e => ⟨p, _, rfl, ex_t e hp, rfl, x, _, rfl, y, _, rfl, rfl, k H1 e⟩
end

/-! ### the cells that a law draws -/
def fixC (c : Int) : Int := if c < 0 then 1 - 2 * c else c
def cell0 (ns : List Int) (k : Nat) : Int := if k < ns.length then ns.getD k 0 else 0
def cell2 (ns : List Int) (k : Nat) (c : Int) : Int := if 0 < ns.length then ns.getD (((k : Int) % (ns.length : Int)).toNat) 0 else c
def mix1 (k : Nat) (c : Int) : Int := ((c + 131 * (k : Int) + 7) * 48271 + (k : Int) * (k : Int) * 69621) % 1000000007
def mix2 (k : Nat) (c : Int) : Int := ((c + 17 * (k : Int) + 3) * 2862933555777941757) % 18446744073709551557
def cellAt (ns : List Int) (k : Nat) : Int :=
  if (ns.length : Int) ≤ (k : Int) ∨ fixC (cell0 ns k) < 1000000000 then mix2 k (mix1 k (fixC (cell2 ns k (fixC (cell0 ns k))))) else fixC (cell0 ns k)
def cellsOf (ns : List Int) (n : Nat) : List Int := (List.range n).map (cellAt ns)
theorem cellsOf_len (ns : List Int) (n : Nat) : (cellsOf ns n).length = n := by
  unfold cellsOf
  rw [List.length_map, List.length_range]
theorem cellsOf_succ (ns : List Int) (n : Nat) : cellsOf ns (n + 1) = cellsOf ns n ++ [cellAt ns n] := by
  unfold cellsOf
  rw [List.range_succ, List.map_append]
  rfl
theorem fixC_nn (c : Int) : 0 ≤ fixC c := by
  unfold fixC
  split <;> omega
theorem cellAt_nn (ns : List Int) (k : Nat) : 0 ≤ cellAt ns k := by
  unfold cellAt
  split
  · exact Int.emod_nonneg _ (by decide)
  · exact fixC_nn _
theorem cellsOf_nn (ns : List Int) (n : Nat) : ∀ c ∈ cellsOf ns n, 0 ≤ c := by
  intro c hc
  obtain ⟨k, _, rfl⟩ := List.mem_map.mp hc
  exact cellAt_nn ns k
theorem fixC_neg {c : Int} (h : decide (c < 0) = true) : 1 - 2 * c = fixC c := (if_pos (of_decide_eq_true h)).symm
theorem fixC_pos {c : Int} (h : decide (c < 0) = false) : fixC c = c := if_neg (of_decide_eq_false h)
theorem cellAt_mix {ns : List Int} {k : Nat} (h : (decide ((ns.length : Int) ≤ (k : Int)) || decide (fixC (cell0 ns k) < 1000000000)) = true) : mix2 k (mix1 k (fixC (cell2 ns k (fixC (cell0 ns k))))) = cellAt ns k := by
  unfold cellAt
  rw [if_pos]
  rcases (Bool.or_eq_true _ _).mp h with h | h
  · exact .inl (of_decide_eq_true h)
  · exact .inr (of_decide_eq_true h)
theorem cellAt_own {ns : List Int} {k : Nat} (h : (decide ((ns.length : Int) ≤ (k : Int)) || decide (fixC (cell0 ns k) < 1000000000)) = false) : fixC (cell0 ns k) = cellAt ns k := by
  unfold cellAt
  obtain ⟨h1, h2⟩ := (Bool.or_eq_false_iff).mp h
  rw [if_neg]
  rintro (h | h)
  · exact of_decide_eq_false h1 h
  · exact of_decide_eq_false h2 h
def spCells (K : PySem.W.Frag) : Sp := fun vs H Q _ => ∃ (a : Addr) (ns : List Int) (n : Nat), vs = [.ref a, .int (n : Int)] ∧ SqL K H a (ns.map V.int) ∧ ns.length ≤ 63 ∧ n ≤ 1000 ∧ RetL ((cellsOf ns n).map V.int) H Q
theorem sp_cells {K : PySem.W.Frag} {H : Hp} {a : Addr} {ns : List Int} {n : Nat} (hS : SqL K H a (ns.map V.int)) (hl : ns.length ≤ 63) (hn : n ≤ 1000) : SpL (spCells K) [.ref a, .int (n : Int)] H ((cellsOf ns n).map V.int) :=
  fun H1 e Q q E => ⟨a, ns, n, rfl, ex_l e hS, hl, hn, fun p H2 hp e2 h2 => q p H2 hp e2 h2⟩
/-! ### the rows that a law draws -/
def spRows (K : PySem.W.Frag) : Sp := fun vs H Q _ => ∃ (a : Addr) (ns : List Int) (n : Nat), vs = [.ref a, .int (n : Int)] ∧ SqL K H a (ns.map V.int) ∧ ns.length ≤ 63 ∧ n ≤ 1000 ∧ ∀ rs : List Int, rs.length = n → (∀ c ∈ rs, 0 ≤ c) → RetL (rs.map V.int) H Q
/-- what is there behind a call that gives a new list of n numbers from 0 on -/
def EvRows (te : TE) (σ : L2.St) (H : Hp) (n : Nat) : Prop := ∀ H1, Ex H H1 → ∀ Q : VK, (∀ p rs H2, H1 p = none → Ex H1 H2 → H2 p = some (.lst (List.map V.int rs)) → rs.length = n → (∀ c ∈ rs, 0 ≤ c) → Q (.ref p) H2) → te σ H1 Q
theorem ev_rows {K : PySem.W.Frag} {σ : L2.St} {H : Hp} {E : XK} {ta : TA} {a : Addr} {ns : List Int} {n : Nat} (h : EvA ta σ H [.ref a, .int (n : Int)]) (hS : SqL K H a (ns.map V.int)) (hl : ns.length ≤ 63) (hn : n ≤ 1000) : EvRows (tCall (spRows K) [] E ta) σ H n := fun H1 e Q q =>
  h H1 e _ fun H2 e2 => ⟨a, ns, n, rfl, ex_l (e.trans e2) hS, hl, hn, fun rs hr h0 p H3 hp e3 h3 => q p rs H3 (fresh_back e2 hp) (e2.trans e3) h3 hr h0⟩
theorem q_asgRows {σ : L2.St} {H : Hp} {te : TE} {D : Ends} {tz : TS} {i n : Nat} (h : EvRows te σ H n) (k : ∀ p rs H1, H p = none → Ex H H1 → H1 p = some (.lst (List.map V.int rs)) → rs.length = n → (∀ c ∈ rs, 0 ≤ c) → tz D (σ.set i (some (.ref p))) H1) : tSeq (tAsg te (gName i)) tz D σ H :=
  h H (Ex.refl H) _ fun p rs H1 hp e h1 hr h0 => k p rs H1 hp e h1 hr h0
/-- a def of the top: its text, its place, how it is called -/
structure Df (K : PySem.W.Frag) (mg : Str → Option Value) (x : Str) (st : Stmt) (ps : List Str) : Prop where
  ex : ∃ (f : Addr) (fd : FuncData), L2.Fun K x x st f fd ∧ mg x = some (.ref f) ∧ Binds K fd ps []
theorem Df.cal {P : Program} {w : World} {K : PySem.W.Frag} {mg : Str → Option Value} {base : Heap} {x : Str} {st : Stmt} {N ps : List Str} {k : Nat} {sp : Sp} (D : Df K mg x st ps) (S : FnScope N ps (defScope st)) (len : ∀ vs H Q E, sp vs H Q E → vs.length = ps.length)
    (hbody : ∀ (f : Addr) (cdv : Value) (A : Around) (outer : List Env) (s : Shared) (H : Hp) (vs : List V) (Q : VK) (E : XK), Room k (A.deeper (envOfC x (defScope st) s.heap.objs.size f cdv)) → sp vs H Q E →
      ∃ t, PSs (cxOf L2.CX0 P w K mg base N x (defScope st) f cdv A outer s H E).nox (defBody st) t ∧ t { nx := fun _ H' => Q .non H', rt := Q } (start N vs) H) : C8.Cal P w K mg base (k + 1) x sp [] := by
  obtain ⟨f, fd, F, hm, hb⟩ := D.ex
  exact ⟨f, fd, ps, [], F.ok S len (hbody f), hm, F.kp, hb, .nil⟩
def spLaw (K : PySem.W.Frag) : Sp := fun vs H Q _ => ∃ (a : Addr) (ns : List Int), vs = [.ref a] ∧ SqL K H a (ns.map V.int) ∧ ns.length ≤ 63 ∧ ∀ H', Q (.bl true) H'

/-! ### fields, dicts, classes made by keywords -/
section
variable {K : PySem.W.Frag} {σ : L2.St} {H H' : Hp} {te td ty tx ts : TE} {tt : TT} {D : Ends} {tz tu : TS} {x v : V}
theorem ev_fld {a C dx : Addr} {fs : List (Str × V)} {f : Str} (h : Ev te σ H (.ref a)) (ho : H a = some (.ins C dx fs)) (c : Cls K C) (n : NoAttr K C f) (l : fs.lookup f = some v) : Ev (tFld K te f) σ H v := fun H1 e Q q =>
  h H1 e _ fun H2 e2 => ⟨a, C, dx, fs, v, rfl, (e.trans e2) _ _ ho, c, n, l, q H2 e2⟩
theorem q_asgDN {i : Nat} (k : ∀ p H1, H p = none → Ex H H1 → H1 p = some (.dK []) → tz D (σ.set i (some (.ref p))) H1) : tSeq (tAsg tDNewK (gName i)) tz D σ H := fun p hp => k p _ hp (Ex.new hp) upd_same
theorem s_setd {d : Addr} {kvs : List (Key × V)} {k : Key} (h : Ev td σ H (.ref d)) (hd : H d = some (.dK kvs)) (hy : Ev ty σ H (kV k)) (hx : Ev tx σ H v) (hl : kvs.length < 100000)
    (k1 : ∀ y H1, valV kvs k = some y → Ex H H1 → D.nx σ H1) (k2 : ∀ H1, valV kvs k = none → Ex H H1 → D.nx σ (upd H1 d (.dK (putK kvs k v)))) : tDrop (tDSetd td ty tx) D σ H :=
  h H (Ex.refl H) _ fun H1 e1 => ⟨d, rfl, .inl ⟨kvs, .inl (e1 _ _ hd)⟩, hy H1 e1 _ fun H2 e2 => hx H2 (e1.trans e2) _ fun H3 e3 => ⟨kvs, k, ((e1.trans e2).trans e3) _ _ hd, rfl, sz_lt hl, fun y hy => k1 y H3 hy ((e1.trans e2).trans e3), fun hn => k2 H3 hn ((e1.trans e2).trans e3)⟩⟩
theorem ev_get2 {d : Addr} {kvs : List (Key × V)} {k : Key} (h : Ev td σ H (.ref d)) (hd : H d = some (.dK kvs)) (hy : Ev ty σ H (kV k)) (hx : Ev tx σ H v) : Ev (tDGet2 td ty tx) σ H ((valV kvs k).getD v) := fun H0 e Q q =>
  h H0 e _ fun H1 e1 => ⟨d, rfl, .inl ⟨kvs, .inl ((e.trans e1) _ _ hd)⟩, hy H1 (e.trans e1) _ fun H2 e2 => hx H2 ((e.trans e1).trans e2) _ fun H3 e3 => ⟨valV kvs k, DGet.k ((((e.trans e1).trans e2).trans e3) _ _ hd), q H3 ((e1.trans e2).trans e3)⟩⟩
/-- a comprehension over a text -/
theorem lc_str {x : Str} {g : TG} {vs : List Nat} {H1 : Hp} {Dl : Addr} {Qd : Hp → Prop} (Pv : Nat → Hp → Prop) (h0 : Pv 0 (upd H1 Dl (.lst [])))
    (hs : ∀ i c H, x.cps.toList[i]? = some c → Pv i H → g (.str ⟨#[c]⟩) (wipe σ vs) H fun σ2 H2 => wipe σ2 vs = wipe σ vs ∧ tt σ2 H2 fun b H3 =>
      if b = true then te σ2 H3 fun y H4 => ∃ acc, H4 Dl = some (.lst acc) ∧ acc.length < sizeLine ∧ Pv (i + 1) (upd H4 Dl (.lst (acc ++ [y]))) else Pv (i + 1) H3) (hd : ∀ H, Pv x.cps.size H → Qd H) :
    ∃ W : Nat → Nat → Hp → Prop, (∃ m, W 0 m (upd H1 Dl (.lst []))) ∧ ∀ i m H, W i m H →
      ((Its x).stop i H ∧ Qd H) ∨ ((Its x).go i H ∧ ∃ Nx : Hp → Prop, (∀ H', Nx H' → ∃ m', m' < m ∧ W (i + 1) m' H') ∧ ∀ y H', (Its x).yld i H y H' → g y (wipe σ vs) H' fun σ2 H2 => wipe σ2 vs = wipe σ vs ∧ tt σ2 H2 fun b H3 =>
        if b = true then te σ2 H3 fun y H4 => ∃ acc, H4 Dl = some (.lst acc) ∧ acc.length < sizeLine ∧ Nx (upd H4 Dl (.lst (acc ++ [y]))) else Nx H3) := by
  refine ⟨fun i m H => m = x.cps.size - i ∧ i ≤ x.cps.size ∧ Pv i H, ⟨x.cps.size, by simp, Nat.zero_le _, h0⟩, ?_⟩
  rintro i m H ⟨rfl, hi, p⟩
  by_cases hlt : i < x.cps.size
  · refine .inr ⟨hlt, Pv (i + 1), fun H' p' => ⟨x.cps.size - (i + 1), by omega, rfl, hlt, p'⟩, fun y H' q => ?_⟩
    obtain ⟨rfl, c, hc, rfl⟩ := q
    exact hs i c _ (by rw [Array.getElem?_toList]; exact hc) p
  · have e : i = x.cps.size := by omega
    subst e
    exact .inl ⟨Nat.le_refl _, hd H p⟩
theorem el_lcS {z : Str} {tl : TE} {j : Nat} {vs : List Nat} (f : Nat → Bool) (v : Nat → V) (h : Ev tl σ H (.str z)) (hz : z.length ≤ 40000) (hw : ∀ x, wipe ((wipe σ vs).set j (some x)) vs = wipe σ vs)
    (ht : ∀ (i c : Nat) H1, Ex H H1 → z.cps.toList[i]? = some c → EvT tt ((wipe σ vs).set j (some (.str ⟨#[c]⟩))) H1 (f i)) (he : ∀ (i c : Nat) H1, Ex H H1 → z.cps.toList[i]? = some c → f i = true → Ev te ((wipe σ vs).set j (some (.str ⟨#[c]⟩))) H1 (v i)) :
    EvL (tLc (iStr tl) (gName j) tt te vs) σ H (given z.cps.size f v) := fun H0 e Q q => h H0 e _ fun H1 e1 => ⟨z, rfl, fun Dl hD =>
  lc_str (x := z) (Cw H1 f v Dl) ⟨hD, Ex.new hD, upd_same⟩ (fun i c H' hi p => ⟨hw _, cw_turn p (by have h1 := (List.getElem?_eq_some_iff.mp hi).1; have h2 : z.length = z.cps.size := rfl; rw [Array.length_toList] at h1; omega) (ht i c H1 (e.trans e1) hi) (fun hf => he i c H1 (e.trans e1) hi hf)⟩)
    (fun H' p => q Dl H' (fresh_back e1 p.1) (e1.trans p.2.1) p.2.2)⟩
end
/-- a class that is made by its name, by keywords alone -/
def MkK (P : Program) (w : World) (K : PySem.W.Frag) (mg : Str → Option Value) (base : Heap) (k : Nat) (x : Str) (C : Addr) (n : Nat) (ks : List Str) (sp : Sp) (gV : List V → List V → List V) : Prop :=
  ∃ (f : Addr) (fd : FuncData) (ps : List Str) (g : List Value → List Value → List Value), Mk K C f ∧ FnOk P w K mg base CX0 k f fd ps sp ∧ KBn K fd ps n ks g gV ∧ mg x = some (.ref C)
theorem pe_mkK {X : Cx} {k j : Nat} {C : Addr} {x : Str} {ks : List Str} {sp : Sp} {gV : List V → List V → List V} {p pos : Pos} {kws : List Keyword} {tk : TA} (M : MkK X.prog X.w X.K X.mg X.base k x C 1 ks sp gV) (hr : Room j X.A) (hk : k + 1 ≤ j) (hg : Gl X x) (hkw : PK X kws tk)
    (hall : (backToKw pos (keywordEach kws X.env)).all (·.1.isSome) = true := by rfl) (hks : (backToKw pos (keywordEach kws X.env)).filterMap (·.1) = ks := by rfl) (hdb : (x == ("__debug__" : Str)) = false := by decide)
    (hpl : ((backTo pos (starEach [] X.env)).any (·.1) || (backToKw pos (keywordEach kws X.env)).any (·.1.isNone)) = false := by rfl) : PE X (.Call (.Name x p) [] kws pos) (tMakeK C 0 ks.length sp gV E0 tNil tk) := by
  obtain ⟨f, fd, ps, g, M, F, b, hm⟩ := M
  exact pe_makeK0 M F (hr.mono hk) hg hm b pass0 hkw hall hks hdb hpl
theorem eqv_strs : ∀ a b : List Str, PyData.eqvAll (a.map PyData.str) (b.map PyData.str) = decide (a = b)
  | [], [] => by rw [List.map_nil, PyData.eqvAll]; rfl
  | [], _ :: _ => by rw [List.map_nil, List.map_cons, PyData.eqvAll]; simp
  | _ :: _, [] => by rw [List.map_nil, List.map_cons, PyData.eqvAll]; simp
  | x :: xs, y :: ys => by
    rw [List.map_cons, List.map_cons, PyData.eqvAll, eqv_strs xs ys, PyData.eqv]
    by_cases h : x = y
    · rw [h, beq_self_eq_true]
      simp
    · have h1 : (x == y) = false := beq_eq_false_iff_ne.mpr h
      rw [h1]
      simp [h]
theorem eq_S (a b : List Nat) : decide (V.str (SX.S a) = V.str (SX.S b)) = decide (a = b) := decide_eq_decide.mpr ⟨fun h => SX.S_inj (V.str.inj h), fun h => by rw [h]⟩
theorem ones_inj : ∀ {a b : List Nat}, (a.map fun c => SX.S [c]) = (b.map fun c => SX.S [c]) → a = b
  | [], [], _ => rfl
  | [], _ :: _, h => by simp at h
  | _ :: _, [], h => by simp at h
  | x :: xs, y :: ys, h => by
    rw [List.map_cons, List.map_cons] at h
    obtain ⟨h1, h2⟩ := List.cons.inj h
    rw [ones_inj h2, (List.cons.inj (SX.S_inj h1)).1]
theorem map_getD {α β : Type} (f : α → β) (d : α) : ∀ l : List α, (List.range l.length).map (fun k => f (l.getD k d)) = l.map f := fun l => by
  refine List.ext_getElem (by simp) fun k h1 h2 => ?_
  rw [List.length_map, List.length_range] at h1
  rw [List.getElem_map, List.getElem_map, List.getElem_range, List.getD_eq_getElem?_getD, List.getElem?_eq_getElem h1]
  rfl
theorem take_up {α : Type} {l : List α} {i : Nat} {q : α} (h : l[i]? = some q) : l.take (i + 1) = l.take i ++ [q] := by
  rw [List.take_add_one, h]
  rfl
theorem len_lt {α : Type} {l : List α} {i : Nat} {q : α} (h : l[i]? = some q) : i < l.length := (List.getElem?_eq_some_iff.mp h).1
theorem len_put {f : Str} {v : V} {fs : List (Str × V)} {n : Nat} (h : fs.length ≤ n) : (putF f v fs).length ≤ n + 1 := Nat.le_trans (length_putF f v fs) (by omega)
/-- the signs of a text that is repeated -/
theorem mul_mem {l : List Nat} {n : Int} {c : Nat} (h : c ∈ (Txt.mul (SX.S l) n).cps.toList) : c ∈ l := by
  unfold Txt.mul at h
  split at h
  · exact absurd h (by show ¬ c ∈ ([] : List Nat); simp)
  · split at h
    · exact h
    · have key : ∀ (k : Nat) (acc : Array Nat), (∀ c ∈ acc.toList, c ∈ l) → ∀ c ∈ ((List.replicate k (SX.S l).cps).foldl (· ++ ·) acc).toList, c ∈ l := by
        intro k
        induction k with
        | zero => intro acc ha; exact ha
        | succ k ih =>
          intro acc ha
          rw [List.replicate_succ, List.foldl_cons]
          refine ih _ fun c hc => ?_
          rw [Array.toList_append] at hc
          rcases List.mem_append.mp hc with h | h
          · exact ha c h
          · exact h
      exact key _ #[] (fun c hc => by simp at hc) c h
theorem rc_intB {b : Bool} : RC (fun xs H Q => (∃ i, xs = [V.int i] ∧ Q (V.int i) H) ∨ ∃ k, xs = [V.bl k] ∧ Q (V.int (if k = true then 1 else 0)) H) [.bl b] H (.int (if b = true then 1 else 0)) :=
  fun H1 _ _ q => Or.inr ⟨b, rfl, q H1 (Ex.refl H1)⟩
end Lw
/-! values that are data (tuples and lists that no one changes), read by what they hold -/
namespace Lw
open PySem PySem.Spec PyProof.Rows L2 Evl
/-- the heap without the addresses that may still change -/
noncomputable def cutN (N : Addr → Prop) (H : Hp) : Hp := fun a => @ite _ (N a) (Classical.propDecidable _) none (H a)
def Live (N : Addr → Prop) (H : Hp) : Prop := ∀ a, N a → H a ≠ none
section
variable {N : Addr → Prop} {H H' H1 : Hp}
theorem cutN_yes {a : Addr} (h : N a) : cutN N H a = none := by unfold cutN; simp [h]
theorem cutN_no {a : Addr} (h : ¬ N a) : cutN N H a = H a := by unfold cutN; simp [h]
theorem cutN_sub : Ex (cutN N H) H := fun a o h => by
  by_cases n : N a
  · rw [cutN_yes n] at h
    cases h
  · rw [cutN_no n] at h
    exact h
theorem cutN_ex (e : Ex H H') : Ex (cutN N H) (cutN N H') := fun a o h => by
  by_cases n : N a
  · rw [cutN_yes n] at h
    cases h
  · rw [cutN_no n] at h ⊢
    exact e a o h
theorem Live.ex (L : Live N H) (e : Ex H H') : Live N H' := fun a n h => by
  cases q : H a with
  | none => exact L a n q
  | some o => rw [e a o q] at h; cases h
theorem Live.off (L : Live N H) {a : Addr} (h : H a = none) : ¬ N a := fun n => L a n h
/-- one address more -/
def plusN (N : Addr → Prop) (p : Addr) : Addr → Prop := fun a => N a ∨ a = p
theorem Live.plus {p : Addr} {o : HO} (L : Live N H) (e : Ex H H') (h : H' p = some o) : Live (plusN N p) H' := fun a n => by
  rcases n with n | n
  · exact L.ex e a n
  · rw [n, h]
    intro z
    cases z
theorem cutN_plus {p : Addr} (hp : H p = none) (e : Ex H H') : Ex (cutN N H) (cutN (plusN N p) H') := fun a o h => by
  by_cases n : N a
  · rw [cutN_yes n] at h
    cases h
  · rw [cutN_no n] at h
    have ne : a ≠ p := fun z => by rw [z, hp] at h; cases h
    rw [cutN_no (fun z => z.elim n ne)]
    exact e a o h
/-- what does not rest on p stands when p changes -/
theorem cutN_set {p : Addr} {o : HO} : Ex (cutN (plusN N p) H) (cutN N (upd H p o)) := fun a u h => by
  by_cases n : plusN N p a
  · rw [cutN_yes n] at h
    cases h
  · rw [cutN_no n] at h
    rw [cutN_no (fun z => n (.inl z)), upd_ne (fun z => n (.inr z))]
    exact h
theorem cutN_keep {p : Addr} {o : HO} : Ex (cutN (plusN N p) H) (cutN (plusN N p) (upd H p o)) := fun a u h => by
  by_cases n : plusN N p a
  · rw [cutN_yes n] at h
    cases h
  · rw [cutN_no n] at h ⊢
    rw [upd_ne (fun z => n (.inr z))]
    exact h
end
end Lw
namespace L2
open PySem PySem.Spec PyProof.Rows Evl
mutual
theorem Dp.ex {K : PySem.W.Frag} {H H' : Hp} (e : Ex H H') : ∀ (d : PyData) (v : V), Dp K H v d → Dp K H' v d
  | .none, _, h => by
    cases h
    exact .non
  | .bool b, _, h => by
    cases h
    exact .bl b
  | .int i, _, h => by
    cases h
    exact .int i
  | .str x, _, h => by
    cases h
    exact .str x
  | .list ds, _, h => by
    cases h with
    | lst hs ha => exact .lst (ex_l e hs) (DpAll.ex e ds _ ha)
  | .tuple ds, _, h => by
    cases h with
    | tup hs ha => exact .tup (ex_t e hs) (DpAll.ex e ds _ ha)
  | .dict _, _, h => by cases h
theorem DpAll.ex {K : PySem.W.Frag} {H H' : Hp} (e : Ex H H') : ∀ (ds : List PyData) (vs : List V), DpAll K H vs ds → DpAll K H' vs ds
  | [], _, h => by
    cases h
    exact .nil
  | d :: ds, _, h => by
    cases h with
    | cons h1 h2 => exact .cons (Dp.ex e d _ h1) (DpAll.ex e ds _ h2)
end
section
variable {K : PySem.W.Frag} {H : Hp} {ds es : List PyData} {vs : List V} {d : PyData}
theorem DpAll.len : ∀ {ds : List PyData} {vs : List V}, DpAll K H vs ds → vs.length = ds.length
  | [], _, h => by cases h; rfl
  | d :: ds, _, h => by
    cases h with
    | cons h1 h2 => rw [List.length_cons, List.length_cons, DpAll.len h2]
theorem DpAll.get : ∀ {ds : List PyData} {vs : List V} {n : Nat} {d : PyData}, DpAll K H vs ds → ds[n]? = some d → ∃ v, vs[n]? = some v ∧ Dp K H v d
  | [], _, _, _, _, h => by simp at h
  | e :: ds, _, n, d, h, hd => by
    cases h with
    | cons h1 h2 =>
      cases n with
      | zero =>
        rw [List.getElem?_cons_zero] at hd ⊢
        cases hd
        exact ⟨_, rfl, h1⟩
      | succ n =>
        rw [List.getElem?_cons_succ] at hd ⊢
        exact DpAll.get h2 hd
theorem DpAll.back : ∀ {ds : List PyData} {vs : List V} {n : Nat} {v : V}, DpAll K H vs ds → vs[n]? = some v → ∃ d, ds[n]? = some d ∧ Dp K H v d
  | [], _, _, _, h, hv => by cases h; simp at hv
  | e :: ds, _, n, v, h, hv => by
    cases h with
    | cons h1 h2 =>
      cases n with
      | zero =>
        rw [List.getElem?_cons_zero] at hv ⊢
        cases hv
        exact ⟨_, rfl, h1⟩
      | succ n =>
        rw [List.getElem?_cons_succ] at hv ⊢
        exact DpAll.back h2 hv
theorem DpAll.app : ∀ {ds es : List PyData} {vs ws : List V}, DpAll K H vs ds → DpAll K H ws es → DpAll K H (vs ++ ws) (ds ++ es)
  | [], _, _, _, h, k => by cases h; exact k
  | d :: ds, _, _, _, h, k => by
    cases h with
    | cons h1 h2 => exact .cons h1 (DpAll.app h2 k)
theorem DpAll.snoc {y : V} (h : DpAll K H vs ds) (k : Dp K H y d) : DpAll K H (vs ++ [y]) (ds ++ [d]) := h.app (.cons k .nil)
end
end L2
namespace Lw
open PySem PySem.Spec PyProof.Rows L2 Evl
section
variable {K : PySem.W.Frag} {N : Addr → Prop} {σ : L2.St} {H H' : Hp} {te ta tb : TE} {tr : TA} {tt : TT} {D : Ends} {tz tu : TS} {v : V} {d d' : PyData} {ds es : List PyData} {vs : List V} {g : TG}
/-- what an expression gives is the data d -/
def EvD (K : PySem.W.Frag) (N : Addr → Prop) (te : TE) (σ : L2.St) (H : Hp) (d : PyData) : Prop := Live N H → ∀ H1, Ex H H1 → ∀ Q : VK, (∀ v H2, Ex H1 H2 → Dp K (cutN N H2) v d → Q v H2) → te σ H1 Q
def EvDA (K : PySem.W.Frag) (N : Addr → Prop) (ta : TA) (σ : L2.St) (H : Hp) (ds : List PyData) : Prop := Live N H → ∀ H1, Ex H H1 → ∀ Q : List V → Hp → Prop, (∀ vs H2, Ex H1 H2 → DpAll K (cutN N H2) vs ds → Q vs H2) → ta σ H1 Q
theorem EvD.mono (e : Ex H H') (L : Live N H) (h : EvD K N te σ H d) : EvD K N te σ H' d := fun _ H1 a Q q => h L H1 (e.trans a) Q q
theorem EvD.is (h : EvD K N te σ H d) (e : d = d') : EvD K N te σ H d' := e ▸ h
theorem ed_v (h : Ev te σ H v) (hd : Dp K (cutN N H) v d) : EvD K N te σ H d := fun _ H1 e Q q => h H1 e _ fun H2 e2 => q v H2 e2 (Dp.ex (cutN_ex (e.trans e2)) d v hd)
theorem ed_var {i : Nat} (h : σ[i]? = some (some v)) (hd : Dp K (cutN N H) v d) : EvD K N (tVar i) σ H d := ed_v (ev_var h) hd
theorem ed_int {i : Int} : EvD K N (tC (.int i)) σ H (.int i) := ed_v ev_c (.int i)
theorem ed_str {x : Str} : EvD K N (tC (.str x)) σ H (.str x) := ed_v ev_c (.str x)
theorem ed_bl {b : Bool} : EvD K N (tC (.bl b)) σ H (.bool b) := ed_v ev_c (.bl b)
theorem ed_non : EvD K N (tC .non) σ H .none := ed_v ev_c .non
theorem ed_ofI {i : Int} (h : Ev te σ H (.int i)) : EvD K N te σ H (.int i) := ed_v h (.int i)
theorem ev_ofB {b : Bool} (L : Live N H) (h : EvD K N te σ H (.bool b)) : Ev te σ H (.bl b) := fun H1 e Q q => h L H1 e _ fun v H2 e2 hv => by
  cases hv
  exact q H2 e2
theorem ev_ofI {i : Int} (L : Live N H) (h : EvD K N te σ H (.int i)) : Ev te σ H (.int i) := fun H1 e Q q => h L H1 e _ fun v H2 e2 hv => by
  cases hv
  exact q H2 e2
theorem ev_ofS {x : Str} (L : Live N H) (h : EvD K N te σ H (.str x)) : Ev te σ H (.str x) := fun H1 e Q q => h L H1 e _ fun v H2 e2 hv => by
  cases hv
  exact q H2 e2
theorem ed_ix {n : Nat} (h : EvD K N te σ H (.tuple ds)) (hd : ds[n]? = some d) : EvD K N (tOp (rIxT K) te (tC (.int (n : Int)))) σ H d := fun L H1 e Q q => h L H1 e _ fun v H2 e2 hv => by
  cases hv with
  | tup hs ha =>
    obtain ⟨x, hx, hdx⟩ := ha.get hd
    exact ⟨_, _, (n : Int), x, rfl, rfl, ex_t cutN_sub hs, atI_nat hx, q x H2 e2 hdx⟩
theorem ed_ixL {n : Nat} (h : EvD K N te σ H (.list ds)) (hi : Ev ta σ H (.int (n : Int))) (hd : ds[n]? = some d) : EvD K N (tOp (rIxL K) te ta) σ H d := fun L H1 e Q q => h L H1 e _ fun v H2 e2 hv => by
  cases hv with
  | lst hs ha =>
    obtain ⟨x, hx, hdx⟩ := ha.get hd
    exact hi H2 (e.trans e2) _ fun H3 e3 => ⟨_, _, (n : Int), x, rfl, rfl, ex_l (cutN_sub.trans e3) hs, atI_nat hx, q x H3 (e2.trans e3) (Dp.ex (cutN_ex e3) d x hdx)⟩
theorem eda_nil : EvDA K N tNil σ H [] := fun _ H1 _ _ q => q [] H1 (Ex.refl H1) .nil
theorem eda_cons (h : EvD K N ta σ H d) (hr : EvDA K N tr σ H ds) : EvDA K N (tCons ta tr) σ H (d :: ds) := fun L H1 e _ q =>
  h L H1 e _ fun v H2 e2 hv => hr L H2 (e.trans e2) _ fun vs H3 e3 hvs => q (v :: vs) H3 (e2.trans e3) (.cons (Dp.ex (cutN_ex e3) d v hv) hvs)
theorem ed_tup (h : EvDA K N tr σ H ds) (hl : ds.length ≤ 100000) : EvD K N (tTup tr) σ H (.tuple ds) := fun L H1 e _ q =>
  h L H1 e _ fun vs H2 e2 hvs => ⟨sz_of (by rw [hvs.len]; exact hl), fun p hp => q _ _ (e2.trans (Ex.new hp)) (.tup (st_of (by rw [cutN_no ((L.ex (e.trans e2)).off hp), upd_same])) (DpAll.ex (cutN_ex (Ex.new hp)) ds vs hvs))⟩
theorem ed_lst (h : EvDA K N tr σ H ds) (hl : ds.length ≤ 100000) : EvD K N (tLst tr) σ H (.list ds) := fun L H1 e _ q =>
  h L H1 e _ fun vs H2 e2 hvs => ⟨sz_of (by rw [hvs.len]; exact hl), fun p hp => q _ _ (e2.trans (Ex.new hp)) (.lst (sq_of (by rw [cutN_no ((L.ex (e.trans e2)).off hp), upd_same])) (DpAll.ex (cutN_ex (Ex.new hp)) ds vs hvs))⟩
/-- [*xs, ..] -/
theorem eda_star (h : EvD K N ta σ H (.list ds)) (hr : EvDA K N tr σ H es) : EvDA K N (StX.tStar K ta tr) σ H (ds ++ es) := fun L H1 e _ q =>
  h L H1 e _ fun v H2 e2 hv => by
    cases hv with
    | lst hs ha => exact ⟨_, _, rfl, .inr (ex_l cutN_sub hs), hr L H2 (e.trans e2) _ fun vs H3 e3 hvs => q _ H3 (e2.trans e3) ((DpAll.ex (cutN_ex e3) ds _ ha).app hvs)⟩
theorem ed_cat (ha : EvD K N ta σ H (.tuple ds)) (hb : EvD K N tb σ H (.tuple es)) (hz : ds.length + es.length ≤ 100000) : EvD K N (tOp (rCatA K) ta tb) σ H (.tuple (ds ++ es)) := fun L H1 e Q q =>
  ha L H1 e _ fun x H2 e2 hx => hb L H2 (e.trans e2) _ fun y H3 e3 hy => by
    have hx3 := Dp.ex (cutN_ex e3) _ _ hx
    cases hx3 with
    | tup hs ha =>
      have hy3 := hy
      cases hy3 with
      | tup ht hb =>
        refine ⟨_, _, _, _, rfl, rfl, ex_t cutN_sub hs, ex_t cutN_sub ht, sz_of (by rw [ha.len, hb.len]; exact hz), fun h0 => ?_, fun h0 h1 => ?_, fun h0 h1 p hp => ?_⟩
        · subst h0
          cases ha
          exact q _ H3 (e2.trans e3) hy
        · subst h1
          cases hb
          rw [List.append_nil] at *
          exact q _ H3 (e2.trans e3) (.tup hs ha)
        · exact q _ _ ((e2.trans e3).trans (Ex.new hp)) (.tup (st_of (by rw [cutN_no ((L.ex ((e.trans e2).trans e3)).off hp), upd_same])) (DpAll.ex (cutN_ex (Ex.new hp)) _ _ (ha.app hb)))
def isN : PyData → Bool
  | .none => true
  | _ => false
theorem isN_of (h : Dp K H v d) : decide (v = .non) = isN d := by
  cases h <;> rfl
theorem ev_isN (L : Live N H) (h : EvD K N ta σ H d) : Ev (tOp (fun x y H Q => y = .non ∧ Q (.bl (decide (x = .non))) H) ta (tC .non)) σ H (.bl (isN d)) := fun H1 e Q q =>
  h L H1 e _ fun v H2 e2 hv => ⟨rfl, by rw [isN_of hv]; exact q H2 e2⟩
theorem ev_noN (L : Live N H) (h : EvD K N ta σ H d) : Ev (tOp (fun x y H Q => y = .non ∧ Q (.bl (!decide (x = .non))) H) ta (tC .non)) σ H (.bl (!isN d)) := fun H1 e Q q =>
  h L H1 e _ fun v H2 e2 hv => ⟨rfl, by rw [isN_of hv]; exact q H2 e2⟩
theorem ev_eqD (L : Live N H) (ha : EvD K N ta σ H d) (hb : EvD K N tb σ H d') (p1 : d.plain = true) (p2 : d'.plain = true) (hd : d.depth ≤ 60) : Ev (tOp (rEqP K) ta tb) σ H (.bl (PyData.eqv d d')) := fun H1 e Q q =>
  ha L H1 e _ fun x H2 e2 hx => hb L H2 (e.trans e2) _ fun y H3 e3 hy => ⟨d, d', Dp.ex (cutN_sub.trans e3) d x hx, Dp.ex cutN_sub d' y hy, p1, p2, hd, q H3 (e2.trans e3)⟩
theorem ev_neD (L : Live N H) (ha : EvD K N ta σ H d) (hb : EvD K N tb σ H d') (p1 : d.plain = true) (p2 : d'.plain = true) (hd : d.depth ≤ 60) : Ev (tOp (rNeP K) ta tb) σ H (.bl (!PyData.eqv d d')) := fun H1 e Q q =>
  ha L H1 e _ fun x H2 e2 hx => hb L H2 (e.trans e2) _ fun y H3 e3 hy => ⟨d, d', Dp.ex (cutN_sub.trans e3) d x hx, Dp.ex cutN_sub d' y hy, p1, p2, hd, q H3 (e2.trans e3)⟩
/-- x in a list or tuple of data -/
def rInD (K : PySem.W.Frag) (neg : Bool) : R2 := fun x y H Q => ∃ d es, Dp K H x d ∧ (Dp K H y (.list es) ∨ Dp K H y (.tuple es)) ∧ PyData.plainAll es = true ∧ d.plain = true ∧ d.depth ≤ 60 ∧ Q (.bl (if neg = true then !es.any fun z => PyData.eqv z d else es.any fun z => PyData.eqv z d)) H
theorem op_inD {X : Cx} (hu : X.A.units + 64 < cLine) : OpR X (compareOp .In) (rInD X.K false) := by
  intro pins s σ H x y v u Q I rx ry h
  obtain ⟨d, es, hd, he, pe, pd, dd, q⟩ := h
  obtain ⟨as, r1⟩ := Dp.reads I d x v hd rx
  rcases he with he | he
  · obtain ⟨bs, r2⟩ := Dp.reads I _ y u he ry
    exact SeqAt.in_list_data r2 r1 pe pd (by omega) ⟨.bl _, H, I, rfl, q⟩
  · obtain ⟨bs, r2⟩ := Dp.reads I _ y u he ry
    exact SeqAt.in_tuple_data r2 r1 pe pd (by omega) ⟨.bl _, H, I, rfl, q⟩
theorem op_niD {X : Cx} (hu : X.A.units + 64 < cLine) : OpR X (compareOp .NotIn) (rInD X.K true) := by
  intro pins s σ H x y v u Q I rx ry h
  obtain ⟨d, es, hd, he, pe, pd, dd, q⟩ := h
  obtain ⟨as, r1⟩ := Dp.reads I d x v hd rx
  rcases he with he | he
  · obtain ⟨bs, r2⟩ := Dp.reads I _ y u he ry
    exact SeqAt.notIn_list_data r2 r1 pe pd (by omega) ⟨.bl _, H, I, rfl, q⟩
  · obtain ⟨bs, r2⟩ := Dp.reads I _ y u he ry
    exact SeqAt.notIn_tuple_data r2 r1 pe pd (by omega) ⟨.bl _, H, I, rfl, q⟩
theorem ev_inD {neg : Bool} (L : Live N H) (ha : EvD K N ta σ H d) (hb : EvD K N tb σ H (.list es) ∨ EvD K N tb σ H (.tuple es)) (p1 : PyData.plainAll es = true) (p2 : d.plain = true) (hd : d.depth ≤ 60) : Ev (tOp (rInD K neg) ta tb) σ H (.bl (if neg = true then !es.any fun z => PyData.eqv z d else es.any fun z => PyData.eqv z d)) := fun H1 e Q q =>
  ha L H1 e _ fun x H2 e2 hx => by
    rcases hb with hb | hb
    · exact hb L H2 (e.trans e2) _ fun y H3 e3 hy => ⟨d, es, Dp.ex (cutN_sub.trans e3) d x hx, .inl (Dp.ex cutN_sub _ y hy), p1, p2, hd, q H3 (e2.trans e3)⟩
    · exact hb L H2 (e.trans e2) _ fun y H3 e3 hy => ⟨d, es, Dp.ex (cutN_sub.trans e3) d x hx, .inr (Dp.ex cutN_sub _ y hy), p1, p2, hd, q H3 (e2.trans e3)⟩
theorem ed_if {b : Bool} (h : EvT tt σ H b) (h1 : b = true → EvD K N ta σ H d) (h2 : b = false → EvD K N tb σ H d) : EvD K N (tIf tt ta tb) σ H d := fun L H1 e Q q => h H1 e _ fun H2 e2 => by
  cases b with
  | true => exact h1 rfl L H2 (e.trans e2) Q fun v H3 e3 hv => q v H3 (e2.trans e3) hv
  | false => exact h2 rfl L H2 (e.trans e2) Q fun v H3 e3 hv => q v H3 (e2.trans e3) hv
/-! ### promises over data -/
def SpD (K : PySem.W.Frag) (pre : List PyData → PyData → Prop) : Sp := fun vs H Q _ => ∃ N ds d, Live N H ∧ DpAll K (cutN N H) vs ds ∧ pre ds d ∧ ∀ v H2, Ex H H2 → Dp K (cutN N H2) v d → Q v H2
theorem ed_call {pre : List PyData → PyData → Prop} {E : XK} (h : EvDA K N tr σ H ds) (hp : pre ds d) : EvD K N (tCall (SpD K pre) [] E tr) σ H d := fun L H1 e Q q =>
  h L H1 e _ fun vs H2 e2 hvs => ⟨N, ds, d, L.ex (e.trans e2), by rw [List.append_nil]; exact hvs, hp, fun v H3 e3 hv => q v H3 (e2.trans e3) hv⟩
/-! ### statements -/
theorem s_asgD {i : Nat} (L : Live N H) (h : EvD K N te σ H d) (k : ∀ v H1, Ex H H1 → Dp K (cutN N H1) v d → D.nx (σ.set i (some v)) H1) : tAsg te (gName i) D σ H := h L H (Ex.refl H) _ k
theorem q_asgD {i : Nat} (L : Live N H) (h : EvD K N te σ H d) (k : ∀ v H1, Ex H H1 → Dp K (cutN N H1) v d → tz D (σ.set i (some v)) H1) : tSeq (tAsg te (gName i)) tz D σ H := s_asgD (D := { D with nx := tz D }) L h k
theorem s_retD (L : Live N H) (h : EvD K N te σ H d) (k : ∀ v H1, Ex H H1 → Dp K (cutN N H1) v d → D.rt v H1) : tRet te D σ H := h L H (Ex.refl H) _ k
theorem g_unp3 {i j m : Nat} {d0 d1 d2 : PyData} {Q : L2.St → Hp → Prop} (hv : Dp K (cutN N H) v (.tuple [d0, d1, d2])) (k : ∀ x y z, Dp K (cutN N H) x d0 → Dp K (cutN N H) y d1 → Dp K (cutN N H) z d2 → Q (((σ.set i (some x)).set j (some y)).set m (some z)) H) : (gTup K 3 (gCons (gName i) (gCons (gName j) (gCons (gName m) gNil)))) v σ H Q := by
  cases hv with
  | tup hs ha =>
    cases ha with
    | cons a0 ha => cases ha with
      | cons a1 ha => cases ha with
        | cons a2 ha =>
          cases ha
          exact ⟨_, _, rfl, ex_t cutN_sub hs, rfl, _, _, rfl, _, _, rfl, _, _, rfl, rfl, k _ _ _ a0 a1 a2⟩
theorem g_unp5 {i j m n o : Nat} {d0 d1 d2 d3 d4 : PyData} {Q : L2.St → Hp → Prop} (hv : Dp K (cutN N H) v (.tuple [d0, d1, d2, d3, d4])) (k : ∀ x y z u w, Dp K (cutN N H) x d0 → Dp K (cutN N H) y d1 → Dp K (cutN N H) z d2 → Dp K (cutN N H) u d3 → Dp K (cutN N H) w d4 → Q (((((σ.set i (some x)).set j (some y)).set m (some z)).set n (some u)).set o (some w)) H) :
    (gTup K 5 (gCons (gName i) (gCons (gName j) (gCons (gName m) (gCons (gName n) (gCons (gName o) gNil)))))) v σ H Q := by
  cases hv with
  | tup hs ha =>
    cases ha with
    | cons a0 ha => cases ha with
      | cons a1 ha => cases ha with
        | cons a2 ha => cases ha with
          | cons a3 ha => cases ha with
            | cons a4 ha =>
              cases ha
              exact ⟨_, _, rfl, ex_t cutN_sub hs, rfl, _, _, rfl, _, _, rfl, _, _, rfl, _, _, rfl, _, _, rfl, rfl, k _ _ _ _ _ a0 a1 a2 a3 a4⟩
theorem q_unp {n : Nat} {tgs : TGs} (L : Live N H) (h : EvD K N te σ H d) (k : ∀ v H1, Ex H H1 → Dp K (cutN N H1) v d → (gTup K n tgs) v σ H1 fun σ2 H2 => tz D σ2 H2) : tSeq (tAsg te (gTup K n tgs)) tz D σ H := h L H (Ex.refl H) _ k
/-- for over a list, a tuple of data -/
theorem q_forDL (L : Live N H) (h : EvD K N te σ H (.list ds)) (Pv : Hp → Nat → L2.St → Hp → Prop) (h0 : ∀ H1, Ex H H1 → Pv H1 0 σ H1) (hE : ∀ H1 i σ' H', Ex H H1 → Pv H1 i σ' H' → Ex (cutN N H1) (cutN N H'))
    (hs : ∀ H1 i v d σ' H', Ex H H1 → ds[i]? = some d → Dp K (cutN N H') v d → Pv H1 i σ' H' → g v σ' H' fun σ2 H2 => tu { D with nx := Pv H1 (i + 1), ct := Pv H1 (i + 1), bk := tz D } σ2 H2) (hd : ∀ H1 σ' H', Ex H H1 → Pv H1 ds.length σ' H' → tz D σ' H') : tSeq (tFor (iList K te) g tu) tz D σ H :=
  h L H (Ex.refl H) _ fun v H1 e hv => by
    cases hv with
    | lst hs' ha =>
      have hq : SqL K H1 _ _ := ex_l cutN_sub hs'
      refine ⟨_, rfl, ⟨_, hq⟩, for_list (Pv H1) (h0 H1 e) (fun i σ' H' _ p => ex_l ((hE H1 i σ' H' e p).trans cutN_sub) hs') (fun i x σ' H' hx p => ?_) fun σ' H' p => hd H1 σ' H' e (by rw [← ha.len]; exact p)⟩
      obtain ⟨d, hd1, hd2⟩ := ha.back hx
      exact hs H1 i x d σ' H' e hd1 (Dp.ex (hE H1 i σ' H' e p) d x hd2) p
theorem s_forDL (L : Live N H) (h : EvD K N te σ H (.list ds)) (Pv : Hp → Nat → L2.St → Hp → Prop) (h0 : ∀ H1, Ex H H1 → Pv H1 0 σ H1) (hE : ∀ H1 i σ' H', Ex H H1 → Pv H1 i σ' H' → Ex (cutN N H1) (cutN N H'))
    (hs : ∀ H1 i v d σ' H', Ex H H1 → ds[i]? = some d → Dp K (cutN N H') v d → Pv H1 i σ' H' → g v σ' H' fun σ2 H2 => tu { D with nx := Pv H1 (i + 1), ct := Pv H1 (i + 1), bk := D.nx } σ2 H2) (hd : ∀ H1 σ' H', Ex H H1 → Pv H1 ds.length σ' H' → D.nx σ' H') : tFor (iList K te) g tu D σ H :=
  h L H (Ex.refl H) _ fun v H1 e hv => by
    cases hv with
    | lst hs' ha =>
      have hq : SqL K H1 _ _ := ex_l cutN_sub hs'
      refine ⟨_, rfl, ⟨_, hq⟩, for_list (Pv H1) (h0 H1 e) (fun i σ' H' _ p => ex_l ((hE H1 i σ' H' e p).trans cutN_sub) hs') (fun i x σ' H' hx p => ?_) fun σ' H' p => hd H1 σ' H' e (by rw [← ha.len]; exact p)⟩
      obtain ⟨d, hd1, hd2⟩ := ha.back hx
      exact hs H1 i x d σ' H' e hd1 (Dp.ex (hE H1 i σ' H' e p) d x hd2) p
theorem q_forDT (L : Live N H) (h : EvD K N te σ H (.tuple ds)) (Pv : Hp → Nat → L2.St → Hp → Prop) (h0 : ∀ H1, Ex H H1 → Pv H1 0 σ H1) (hE : ∀ H1 i σ' H', Ex H H1 → Pv H1 i σ' H' → Ex (cutN N H1) (cutN N H'))
    (hs : ∀ H1 i v d σ' H', Ex H H1 → ds[i]? = some d → Dp K (cutN N H') v d → Pv H1 i σ' H' → g v σ' H' fun σ2 H2 => tu { D with nx := Pv H1 (i + 1), ct := Pv H1 (i + 1), bk := tz D } σ2 H2) (hd : ∀ H1 σ' H', Ex H H1 → Pv H1 ds.length σ' H' → tz D σ' H') : tSeq (tFor (iTup K te) g tu) tz D σ H :=
  h L H (Ex.refl H) _ fun v H1 e hv => by
    cases hv with
    | tup hs' ha =>
      have hq : SqT K H1 _ _ := ex_t cutN_sub hs'
      refine ⟨_, rfl, ⟨_, hq⟩, for_tup (Pv H1) (h0 H1 e) (fun i σ' H' _ p => ex_t ((hE H1 i σ' H' e p).trans cutN_sub) hs') (fun i x σ' H' hx p => ?_) fun σ' H' p => hd H1 σ' H' e (by rw [← ha.len]; exact p)⟩
      obtain ⟨d, hd1, hd2⟩ := ha.back hx
      exact hs H1 i x d σ' H' e hd1 (Dp.ex (hE H1 i σ' H' e p) d x hd2) p
/-- a comprehension over a list of data -/
def Cd (K : PySem.W.Frag) (N : Addr → Prop) (H : Hp) (es : List PyData) (Dl : Addr) (H' : Hp) : Prop := H Dl = none ∧ Ex H H' ∧ ∃ acc, H' Dl = some (.lst acc) ∧ DpAll K (cutN (plusN N Dl) H') acc es
theorem map_at {α : Type} {as : List α} {enc : α → PyData} {i : Nat} {d : PyData} (h : (as.map enc)[i]? = some d) : ∃ a, as[i]? = some a ∧ d = enc a := by
  rw [List.getElem?_map] at h
  cases e : as[i]? with
  | none => rw [e] at h; cases h
  | some a => rw [e] at h; exact ⟨a, rfl, (Option.some.inj h).symm⟩
theorem ed_lcL {α : Type} {as : List α} (enc : α → PyData) {j : Nat} {ws : List Nat} (f : α → Bool) (gd : α → PyData) (h : EvD K N ta σ H (.list (as.map enc))) (hz : as.length ≤ 40000) (hw : ∀ x, wipe ((wipe σ ws).set j (some x)) ws = wipe σ ws)
    (ht : ∀ v a M H1, a ∈ as → Ex H H1 → Ex (cutN N H) (cutN M H1) → Live M H1 → Dp K (cutN M H1) v (enc a) → EvT tt ((wipe σ ws).set j (some v)) H1 (f a))
    (he : ∀ v a M H1, a ∈ as → Ex H H1 → Ex (cutN N H) (cutN M H1) → Live M H1 → Dp K (cutN M H1) v (enc a) → f a = true → EvD K M te ((wipe σ ws).set j (some v)) H1 (gd a)) :
    EvD K N (tLc (iList K ta) (gName j) tt te ws) σ H (.list ((as.filter f).map gd)) := fun L H0 e Q q => h L H0 e _ fun v H1 e1 hv => by
  cases hv with
  | @lst a xs _ hs ha =>
    have hq : SqL K H1 a xs := ex_l cutN_sub hs
    have hlen := ha.len
    refine ⟨_, rfl, ⟨_, hq⟩, fun Dl hD => lc_list (xs := xs) (fun i H' => Cd K N H1 (((as.take i).filter f).map gd) Dl H') ⟨hD, Ex.new hD, [], upd_same, .nil⟩ (fun i H' _ p => ex_l p.2.1 hq) (fun i x H' hi p => ⟨hw x, ?_⟩) (fun H' p => ?_)⟩
    · obtain ⟨p1, p2, acc, p3, p4⟩ := p
      obtain ⟨_, hd1', hd2⟩ := ha.back hi
      obtain ⟨d, hd1, rfl⟩ := map_at hd1'
      have hil := len_lt hd1
      have hmem := List.mem_of_getElem? hd1
      have hsub : Ex (cutN N H1) (cutN (plusN N Dl) H') := cutN_plus p1 p2
      have hsub0 : Ex (cutN N H) (cutN (plusN N Dl) H') := (cutN_ex (e.trans e1)).trans hsub
      have L' : Live (plusN N Dl) H' := (L.ex (e.trans e1)).plus p2 p3
      have hx := Dp.ex hsub _ x hd2
      refine ht x d (plusN N Dl) H' hmem ((e.trans e1).trans p2) hsub0 L' hx H' (Ex.refl H') _ fun H3 e3 => ?_
      have htk : as.take (i + 1) = as.take i ++ [d] := take_up hd1
      have hacc : acc.length ≤ 40000 := by
        rw [p4.len, List.length_map]
        have := List.length_filter_le f (as.take i)
        rw [List.length_take] at this
        omega
      cases hf : f d with
      | true =>
        refine he x d (plusN N Dl) H3 hmem (((e.trans e1).trans p2).trans e3) (hsub0.trans (cutN_ex e3)) (L'.ex e3) (Dp.ex (cutN_ex e3) _ x hx) hf (L'.ex e3) H3 (Ex.refl H3) _ fun y H4 e4 hy => ⟨acc, e4 _ _ (e3 _ _ p3), sz_lt (by omega), p1, Ex.mut ((p2.trans e3).trans e4) p1, acc ++ [y], upd_same, ?_⟩
        rw [htk, List.filter_append, List.map_append, List.filter_cons_of_pos hf]
        exact (DpAll.ex ((cutN_ex (e3.trans e4)).trans cutN_keep) _ _ p4).snoc (Dp.ex cutN_keep _ _ hy)
      | false =>
        refine ⟨p1, p2.trans e3, acc, e3 _ _ p3, ?_⟩
        rw [htk, List.filter_append, List.filter_cons_of_neg (by rw [hf]; decide), List.filter_nil, List.append_nil]
        exact DpAll.ex (cutN_ex e3) _ _ p4
    · obtain ⟨p1, p2, acc, p3, p4⟩ := p
      rw [hlen, List.length_map, List.take_of_length_le (Nat.le_refl _)] at p4
      refine q _ H' (e1.trans p2) (.lst (sq_of ?_) (DpAll.ex (fun b o hb => ?_) _ _ p4))
      · rw [cutN_no ((L.ex (e.trans e1)).off p1)]
        exact p3
      · by_cases n : plusN N Dl b
        · rw [cutN_yes n] at hb
          cases hb
        · rw [cutN_no n] at hb
          rw [cutN_no (fun z => n (.inl z))]
          exact hb
theorem ed_lcT {α : Type} {as : List α} (enc : α → PyData) {j : Nat} {ws : List Nat} (f : α → Bool) (gd : α → PyData) (h : EvD K N ta σ H (.tuple (as.map enc))) (hz : as.length ≤ 40000) (hw : ∀ x, wipe ((wipe σ ws).set j (some x)) ws = wipe σ ws)
    (ht : ∀ v a M H1, a ∈ as → Ex H H1 → Ex (cutN N H) (cutN M H1) → Live M H1 → Dp K (cutN M H1) v (enc a) → EvT tt ((wipe σ ws).set j (some v)) H1 (f a))
    (he : ∀ v a M H1, a ∈ as → Ex H H1 → Ex (cutN N H) (cutN M H1) → Live M H1 → Dp K (cutN M H1) v (enc a) → f a = true → EvD K M te ((wipe σ ws).set j (some v)) H1 (gd a)) :
    EvD K N (tLc (iTup K ta) (gName j) tt te ws) σ H (.list ((as.filter f).map gd)) := fun L H0 e Q q => h L H0 e _ fun v H1 e1 hv => by
  cases hv with
  | @tup a xs _ hs ha =>
    have hq : SqT K H1 a xs := ex_t cutN_sub hs
    have hlen := ha.len
    refine ⟨_, rfl, ⟨_, hq⟩, fun Dl hD => lc_tup (xs := xs) (fun i H' => Cd K N H1 (((as.take i).filter f).map gd) Dl H') ⟨hD, Ex.new hD, [], upd_same, .nil⟩ (fun i H' _ p => ex_t p.2.1 hq) (fun i x H' hi p => ⟨hw x, ?_⟩) (fun H' p => ?_)⟩
    · obtain ⟨p1, p2, acc, p3, p4⟩ := p
      obtain ⟨_, hd1', hd2⟩ := ha.back hi
      obtain ⟨d, hd1, rfl⟩ := map_at hd1'
      have hil := len_lt hd1
      have hmem := List.mem_of_getElem? hd1
      have hsub : Ex (cutN N H1) (cutN (plusN N Dl) H') := cutN_plus p1 p2
      have hsub0 : Ex (cutN N H) (cutN (plusN N Dl) H') := (cutN_ex (e.trans e1)).trans hsub
      have L' : Live (plusN N Dl) H' := (L.ex (e.trans e1)).plus p2 p3
      have hx := Dp.ex hsub _ x hd2
      refine ht x d (plusN N Dl) H' hmem ((e.trans e1).trans p2) hsub0 L' hx H' (Ex.refl H') _ fun H3 e3 => ?_
      have htk : as.take (i + 1) = as.take i ++ [d] := take_up hd1
      have hacc : acc.length ≤ 40000 := by
        rw [p4.len, List.length_map]
        have := List.length_filter_le f (as.take i)
        rw [List.length_take] at this
        omega
      cases hf : f d with
      | true =>
        refine he x d (plusN N Dl) H3 hmem (((e.trans e1).trans p2).trans e3) (hsub0.trans (cutN_ex e3)) (L'.ex e3) (Dp.ex (cutN_ex e3) _ x hx) hf (L'.ex e3) H3 (Ex.refl H3) _ fun y H4 e4 hy => ⟨acc, e4 _ _ (e3 _ _ p3), sz_lt (by omega), p1, Ex.mut ((p2.trans e3).trans e4) p1, acc ++ [y], upd_same, ?_⟩
        rw [htk, List.filter_append, List.map_append, List.filter_cons_of_pos hf]
        exact (DpAll.ex ((cutN_ex (e3.trans e4)).trans cutN_keep) _ _ p4).snoc (Dp.ex cutN_keep _ _ hy)
      | false =>
        refine ⟨p1, p2.trans e3, acc, e3 _ _ p3, ?_⟩
        rw [htk, List.filter_append, List.filter_cons_of_neg (by rw [hf]; decide), List.filter_nil, List.append_nil]
        exact DpAll.ex (cutN_ex e3) _ _ p4
    · obtain ⟨p1, p2, acc, p3, p4⟩ := p
      rw [hlen, List.length_map, List.take_of_length_le (Nat.le_refl _)] at p4
      refine q _ H' (e1.trans p2) (.lst (sq_of ?_) (DpAll.ex (fun b o hb => ?_) _ _ p4))
      · rw [cutN_no ((L.ex (e.trans e1)).off p1)]
        exact p3
      · by_cases n : plusN N Dl b
        · rw [cutN_yes n] at hb
          cases hb
        · rw [cutN_no n] at hb
          rw [cutN_no (fun z => n (.inl z))]
          exact hb
end

/-! ### for over a list or a tuple, whichever it is -/
def iEit (K : PySem.W.Frag) (tl : TE) : TI := fun σ H R => tl σ H fun x H1 => ∃ a, x = .ref a ∧ (((∃ xs, SqL K H1 a xs) ∧ R (Itl K a) H1) ∨ ((∃ xs, SqT K H1 a xs) ∧ R (Itt K a) H1))
theorem pi_eit {X : Cx} {tg l : Expr} {tl : TE} (hl : PE X l tl) : PI X tg l (iEit X.K tl) := by
  refine ⟨fun pins s σ H R I h => thn (hl.run pins s σ H _ I h) fun v s1 ⟨x, H1, I1, r1, a, ex, q⟩ => ?_⟩
  subst ex
  cases r1
  rcases q with ⟨⟨xs, hq⟩, q⟩ | ⟨⟨xs, hq⟩, q⟩
  · obtain ⟨its, _, p, _⟩ := I1.list hq
    refine wpAny_pyIter_list p.isList ⟨s1.heap.objs.size, [s1.heap.objs.size], _, _, H1, rfl, I1.kept (t' := s1.toks) fun b o e => Heap.get?_push_of_some _ e, turn_list a _, ⟨_, Heap.get?_push_size _ rfl, rfl, rfl⟩, fun b hb => ?_, q⟩
    obtain rfl : b = s1.heap.objs.size := List.mem_singleton.mp hb
    exact I1.fpOk (Nat.le_refl _) (I1.hok.fresh (Nat.le_refl _))
  · obtain ⟨its, _, p, _⟩ := I1.tuple hq
    refine wpAny_pyIter_tuple (show s1.heap.IsTuple a its.toArray from p) ⟨s1.heap.objs.size, [s1.heap.objs.size], _, _, H1, rfl, I1.kept (t' := s1.toks) fun b o e => Heap.get?_push_of_some _ e, turn_tuple a _, ⟨_, Heap.get?_push_size _ rfl, rfl, rfl⟩, fun b hb => ?_, q⟩
    obtain rfl : b = s1.heap.objs.size := List.mem_singleton.mp hb
    exact I1.fpOk (Nat.le_refl _) (I1.hok.fresh (Nat.le_refl _))
/-- a sequence of the data ds -/
def IsSeqD (ds : List PyData) (d : PyData) : Prop := d = .list ds ∨ d = .tuple ds
section
variable {K : PySem.W.Frag} {N : Addr → Prop} {σ : L2.St} {H H' : Hp} {te ta tb : TE} {tr : TA} {tt : TT} {D : Ends} {tz tu : TS} {v : V} {d d' : PyData} {ds es : List PyData} {g : TG}
theorem q_forDE (L : Live N H) (h : EvD K N te σ H d) (hd0 : IsSeqD ds d) (Pv : Hp → Nat → L2.St → Hp → Prop) (h0 : ∀ H1, Ex H H1 → Pv H1 0 σ H1) (hE : ∀ H1 i σ' H', Ex H H1 → Pv H1 i σ' H' → Ex (cutN N H1) (cutN N H'))
    (hs : ∀ H1 i v d σ' H', Ex H H1 → ds[i]? = some d → Dp K (cutN N H') v d → Pv H1 i σ' H' → g v σ' H' fun σ2 H2 => tu { D with nx := Pv H1 (i + 1), ct := Pv H1 (i + 1), bk := tz D } σ2 H2) (hd : ∀ H1 σ' H', Ex H H1 → Pv H1 ds.length σ' H' → tz D σ' H') : tSeq (tFor (iEit K te) g tu) tz D σ H :=
  h L H (Ex.refl H) _ fun v H1 e hv => by
    rcases hd0 with rfl | rfl
    · cases hv with
      | lst hs' ha =>
        have hq : SqL K H1 _ _ := ex_l cutN_sub hs'
        refine ⟨_, rfl, .inl ⟨⟨_, hq⟩, for_list (Pv H1) (h0 H1 e) (fun i σ' H' _ p => ex_l ((hE H1 i σ' H' e p).trans cutN_sub) hs') (fun i x σ' H' hx p => ?_) fun σ' H' p => hd H1 σ' H' e (by rw [← ha.len]; exact p)⟩⟩
        obtain ⟨d, hd1, hd2⟩ := ha.back hx
        exact hs H1 i x d σ' H' e hd1 (Dp.ex (hE H1 i σ' H' e p) d x hd2) p
    · cases hv with
      | tup hs' ha =>
        have hq : SqT K H1 _ _ := ex_t cutN_sub hs'
        refine ⟨_, rfl, .inr ⟨⟨_, hq⟩, for_tup (Pv H1) (h0 H1 e) (fun i σ' H' _ p => ex_t ((hE H1 i σ' H' e p).trans cutN_sub) hs') (fun i x σ' H' hx p => ?_) fun σ' H' p => hd H1 σ' H' e (by rw [← ha.len]; exact p)⟩⟩
        obtain ⟨d, hd1, hd2⟩ := ha.back hx
        exact hs H1 i x d σ' H' e hd1 (Dp.ex (hE H1 i σ' H' e p) d x hd2) p
/-- a list that grows in place: its items, which don't rest on it -/
def Grw (K : PySem.W.Frag) (N : Addr → Prop) (H : Hp) (p : Addr) (es : List PyData) (H' : Hp) : Prop := H p = none ∧ Ex H H' ∧ ∃ acc, H' p = some (.lst acc) ∧ DpAll K (cutN (plusN N p) H') acc es
theorem Grw.ex {p : Addr} {H2 : Hp} (h : Grw K N H p es H') (e : Ex H' H2) : Grw K N H p es H2 := by
  obtain ⟨h1, h2, acc, h3, h4⟩ := h
  exact ⟨h1, h2.trans e, acc, e _ _ h3, DpAll.ex (cutN_ex e) _ _ h4⟩
theorem Grw.live {p : Addr} (L : Live N H) (h : Grw K N H p es H') : Live (plusN N p) H' := by
  obtain ⟨h1, h2, acc, h3, h4⟩ := h
  exact L.plus h2 h3
theorem Grw.sub {p : Addr} (h : Grw K N H p es H') : Ex (cutN N H) (cutN (plusN N p) H') := cutN_plus h.1 h.2.1
theorem Grw.nil {p : Addr} (hp : H p = none) (e : Ex H H') (h : H' p = some (.lst [])) : Grw K N H p [] H' := ⟨hp, e, [], h, .nil⟩
/-- done: it is a list of data -/
theorem Grw.dp {p : Addr} (L : Live N H) (h : Grw K N H p es H') : Dp K (cutN N H') (.ref p) (.list es) := by
  obtain ⟨h1, h2, acc, h3, h4⟩ := h
  refine .lst (sq_of ?_) (DpAll.ex (fun b o hb => ?_) _ _ h4)
  · rw [cutN_no (L.off h1)]
    exact h3
  · by_cases n : plusN N p b
    · rw [cutN_yes n] at hb
      cases hb
    · rw [cutN_no n] at hb
      rw [cutN_no (fun z => n (.inl z))]
      exact hb
theorem s_appD {p : Addr} (L : Live N H) (h : Grw K N H p es H') (ho : Ev ta σ H' (.ref p)) (hv : EvD K (plusN N p) te σ H' d) (hz : es.length < 90000) (k : ∀ H2, Ex H H2 → Ex (cutN (plusN N p) H') (cutN (plusN N p) H2) → Grw K N H p (es ++ [d]) H2 → D.nx σ H2) :
    tDrop (tBM K "list" rAppend ta (tCons te tNil)) D σ H' := by
  obtain ⟨h1, h2, acc, h3, h4⟩ := id h
  refine ho H' (Ex.refl H') _ fun H2 e2 => ⟨.inl ⟨rfl, acc, sq_of (e2 _ _ h3)⟩, hv (h.live L) H2 e2 _ fun v H3 e3 hv => ⟨p, acc, v, rfl, rfl, e3 _ _ (e2 _ _ h3), sz_lt (by rw [h4.len]; omega), ?_⟩⟩
  have e4 : Ex H (upd H3 p (.lst (acc ++ [v]))) := Ex.mut ((h2.trans e2).trans e3) h1
  exact k _ e4 ((cutN_ex (e2.trans e3)).trans cutN_keep) ⟨h1, e4, acc ++ [v], upd_same, (DpAll.ex ((cutN_ex (e2.trans e3)).trans cutN_keep) _ _ h4).snoc (Dp.ex cutN_keep _ _ hv)⟩
/-- list(a list of data) -/
theorem ed_listOf (h : EvD K N ta σ H (.list ds)) : EvD K N (tCB (rListS K) (tCons ta tNil)) σ H (.list ds) := fun L H1 e Q q =>
  h L H1 e _ fun v H2 e2 hv => by
    cases hv with
    | lst hs ha => exact ⟨_, _, rfl, .inl (ex_l cutN_sub hs), fun l hl => q _ _ (e2.trans (Ex.new hl)) (.lst (sq_of (by rw [cutN_no ((L.ex (e.trans e2)).off hl), upd_same])) (DpAll.ex (cutN_ex (Ex.new hl)) _ _ ha))⟩
theorem q_ifAsgD {b : Bool} {i : Nat} {v0 : V} (L : Live N H) (h : EvT tt σ H b) (h1 : b = true → EvD K N te σ H d) (h2 : b = false → σ.set i (some v0) = σ ∧ Dp K (cutN N H) v0 d) (k : ∀ v H1, Ex H H1 → Dp K (cutN N H1) v d → tz D (σ.set i (some v)) H1) : tSeq (tIfS tt (tAsg te (gName i)) tNext) tz D σ H :=
  h H (Ex.refl H) _ fun H1 e => by
    cases b with
    | true => exact h1 rfl L H1 e _ fun v H2 e2 hv => k v H2 (e.trans e2) hv
    | false =>
      obtain ⟨g1, g2⟩ := h2 rfl
      have g := k v0 H1 e (Dp.ex (cutN_ex e) d v0 g2)
      rw [g1] at g
      exact g
theorem g_unp2 {i j : Nat} {d0 d1 : PyData} {Q : L2.St → Hp → Prop} (hv : Dp K (cutN N H) v (.tuple [d0, d1])) (k : ∀ x y, Dp K (cutN N H) x d0 → Dp K (cutN N H) y d1 → Q ((σ.set i (some x)).set j (some y)) H) : (gTup K 2 (gCons (gName i) (gCons (gName j) gNil))) v σ H Q := by
  cases hv with
  | tup hs ha =>
    cases ha with
    | cons a0 ha => cases ha with
      | cons a1 ha =>
        cases ha
        exact ⟨_, _, rfl, ex_t cutN_sub hs, rfl, _, _, rfl, _, _, rfl, rfl, k _ _ a0 a1⟩
theorem g_unp6 {i j m n o r : Nat} {d0 d1 d2 d3 d4 d5 : PyData} {Q : L2.St → Hp → Prop} (hv : Dp K (cutN N H) v (.tuple [d0, d1, d2, d3, d4, d5])) (k : ∀ x y z u w t, Dp K (cutN N H) x d0 → Dp K (cutN N H) y d1 → Dp K (cutN N H) z d2 → Dp K (cutN N H) u d3 → Dp K (cutN N H) w d4 → Dp K (cutN N H) t d5 → Q ((((((σ.set i (some x)).set j (some y)).set m (some z)).set n (some u)).set o (some w)).set r (some t)) H) :
    (gTup K 6 (gCons (gName i) (gCons (gName j) (gCons (gName m) (gCons (gName n) (gCons (gName o) (gCons (gName r) gNil))))))) v σ H Q := by
  cases hv with
  | tup hs ha =>
    cases ha with
    | cons a0 ha => cases ha with
      | cons a1 ha => cases ha with
        | cons a2 ha => cases ha with
          | cons a3 ha => cases ha with
            | cons a4 ha => cases ha with
              | cons a5 ha =>
                cases ha
                exact ⟨_, _, rfl, ex_t cutN_sub hs, rfl, _, _, rfl, _, _, rfl, _, _, rfl, _, _, rfl, _, _, rfl, _, _, rfl, rfl, k _ _ _ _ _ _ a0 a1 a2 a3 a4 a5⟩
end
end Lw
/-! lines and edits as data of Lean, and what the module `lines` makes of them -/
namespace Ln
open PySem PySem.Spec PyProof.Rows L2 Evl Lw
abbrev Id := Int × Int
abbrev Ct := Int × Int × Int × Bool
structure Line where
  id : Id
  hd : Id
  ins : Option Id
  path : List Str
  ct : Option Ct
deriving DecidableEq
abbrev Place := Option Id × List Str × List Str
abbrev Mv := Option Id × Option Id × Place
inductive Edit where
  | write (id : Id) (pl : Place) (ct : Option Ct) (meant : Option Id) (heads : List Id)
  | drop (id : Id) (heads : List Id)
  | move (id : Id) (ms : List Mv)
def dId (i : Id) : PyData := .tuple [.int i.1, .int i.2]
def dOp {α : Type} (f : α → PyData) : Option α → PyData
  | none => .none
  | some a => f a
def dPath (p : List Str) : PyData := .tuple (p.map PyData.str)
def dCt (c : Ct) : PyData := .tuple [.int c.1, .int c.2.1, .int c.2.2.1, .bool c.2.2.2]
def dLn (l : Line) : PyData := .tuple [dId l.id, dId l.hd, dOp dId l.ins, dPath l.path, dOp dCt l.ct]
def dLs (ls : List Line) : PyData := .list (ls.map dLn)
def dIds (is : List Id) : PyData := .tuple (is.map dId)
def dPl (p : Place) : PyData := .tuple [dOp dId p.1, dPath p.2.1, dPath p.2.2]
def dMv (m : Mv) : PyData := .tuple [dOp dId m.1, dOp dId m.2.1, dPl m.2.2]
def dEd : Edit → PyData
  | .write id pl ct meant heads => .tuple [.str (Str.ofString "write"), dId id, dPl pl, dOp dCt ct, dOp dId meant, dIds heads]
  | .drop id heads => .tuple [.str (Str.ofString "drop"), dId id, dIds heads]
  | .move id ms => .tuple [.str (Str.ofString "move"), dId id, .tuple (ms.map dMv)]
/-! ### == -/
theorem eqv_id (a b : Id) : PyData.eqv (dId a) (dId b) = decide (a = b) := by
  obtain ⟨a1, a2⟩ := a
  obtain ⟨b1, b2⟩ := b
  show PyData.eqv (.tuple [.int a1, .int a2]) (.tuple [.int b1, .int b2]) = _
  simp only [PyData.eqv, PyData.eqvAll]
  rw [Bool.eq_iff_iff]
  simp
theorem eqv_oid (a b : Option Id) : PyData.eqv (dOp dId a) (dOp dId b) = decide (a = b) := by
  cases a with
  | none => cases b with
    | none => rfl
    | some b => rfl
  | some a => cases b with
    | none => rfl
    | some b =>
      show PyData.eqv (dId a) (dId b) = _
      rw [eqv_id]
      simp
theorem eqv_ido (a : Id) (b : Option Id) : PyData.eqv (dId a) (dOp dId b) = decide (some a = b) := eqv_oid (some a) b
theorem eqv_path (a b : List Str) : PyData.eqv (dPath a) (dPath b) = decide (a = b) := by
  show PyData.eqv (.tuple _) (.tuple _) = _
  rw [PyData.eqv, eqv_strs]
theorem eqv_ct (a b : Ct) : PyData.eqv (dCt a) (dCt b) = decide (a = b) := by
  obtain ⟨a1, a2, a3, a4⟩ := a
  obtain ⟨b1, b2, b3, b4⟩ := b
  show PyData.eqv (.tuple [.int a1, .int a2, .int a3, .bool a4]) (.tuple [.int b1, .int b2, .int b3, .bool b4]) = _
  simp only [PyData.eqv, PyData.eqvAll]
  rw [Bool.eq_iff_iff]
  simp
theorem eqv_oct (a b : Option Ct) : PyData.eqv (dOp dCt a) (dOp dCt b) = decide (a = b) := by
  cases a with
  | none => cases b with
    | none => rfl
    | some b => rfl
  | some a => cases b with
    | none => rfl
    | some b =>
      show PyData.eqv (dCt a) (dCt b) = _
      rw [eqv_ct]
      simp
theorem eqv_ln (a b : Line) : PyData.eqv (dLn a) (dLn b) = decide (a = b) := by
  obtain ⟨a1, a2, a3, a4, a5⟩ := a
  obtain ⟨b1, b2, b3, b4, b5⟩ := b
  show PyData.eqv (.tuple [dId a1, dId a2, dOp dId a3, dPath a4, dOp dCt a5]) (.tuple [dId b1, dId b2, dOp dId b3, dPath b4, dOp dCt b5]) = _
  rw [PyData.eqv, PyData.eqvAll, PyData.eqvAll, PyData.eqvAll, PyData.eqvAll, PyData.eqvAll, PyData.eqvAll, eqv_id, eqv_id, eqv_oid, eqv_path, eqv_oct]
  simp [Bool.eq_iff_iff]
theorem eqv_lns : ∀ a b : List Line, PyData.eqvAll (a.map dLn) (b.map dLn) = decide (a = b)
  | [], [] => by rw [List.map_nil, PyData.eqvAll]; rfl
  | [], _ :: _ => by rw [List.map_nil, List.map_cons, PyData.eqvAll]; simp
  | _ :: _, [] => by rw [List.map_nil, List.map_cons, PyData.eqvAll]; simp
  | x :: xs, y :: ys => by
    rw [List.map_cons, List.map_cons, PyData.eqvAll, eqv_ln, eqv_lns xs ys]
    simp [Bool.eq_iff_iff]
theorem eqv_ls (a b : List Line) : PyData.eqv (dLs a) (dLs b) = decide (a = b) := by
  show PyData.eqv (.list _) (.list _) = _
  rw [PyData.eqv, eqv_lns]
theorem any_ids (i : Id) (is : List Id) : ((is.map dId).any fun z => PyData.eqv z (dId i)) = decide (i ∈ is) := by
  induction is with
  | nil => rfl
  | cons a is ih =>
    rw [List.map_cons, List.any_cons, ih, eqv_id]
    simp [Bool.eq_iff_iff, eq_comm]
/-! ### plain, not deep -/
theorem pl_id (i : Id) : (dId i).plain = true := rfl
theorem pl_oid (i : Option Id) : (dOp dId i).plain = true := by cases i <;> rfl
theorem pl_path (p : List Str) : (dPath p).plain = true := plain_strs p
theorem pl_oct (c : Option Ct) : (dOp dCt c).plain = true := by cases c <;> rfl
theorem pl_ln (l : Line) : (dLn l).plain = true := by
  show PyData.plainAll [dId l.id, dId l.hd, dOp dId l.ins, dPath l.path, dOp dCt l.ct] = true
  simp [PyData.plainAll, pl_id, pl_oid, pl_path, pl_oct]
theorem pl_all {α : Type} {f : α → PyData} (h : ∀ a, (f a).plain = true) : ∀ l : List α, PyData.plainAll (l.map f) = true
  | [] => rfl
  | a :: l => by
    rw [List.map_cons, PyData.plainAll, h a, pl_all h l]
    rfl
theorem pl_ls (ls : List Line) : (dLs ls).plain = true := pl_all pl_ln ls
theorem dp_id (i : Id) : (dId i).depth ≤ 1 := by
  show max 0 (max 0 0) + 1 ≤ 1
  decide
theorem dp_oid (i : Option Id) : (dOp dId i).depth ≤ 1 := by
  cases i with
  | none => exact Nat.zero_le 1
  | some i => exact dp_id i
theorem dp_path (p : List Str) : (dPath p).depth ≤ 1 := by
  show PyData.depthAll _ + 1 ≤ 1
  rw [depth_strs]
  decide
theorem dp_oct (c : Option Ct) : (dOp dCt c).depth ≤ 1 := by
  cases c with
  | none => exact Nat.zero_le 1
  | some c =>
    show max 0 (max 0 (max 0 (max 0 0))) + 1 ≤ 1
    decide
theorem dp_ln (l : Line) : (dLn l).depth ≤ 2 := by
  have h1 := dp_id l.id
  have h2 := dp_id l.hd
  have h3 := dp_oid l.ins
  have h4 := dp_path l.path
  have h5 := dp_oct l.ct
  show max (dId l.id).depth (max (dId l.hd).depth (max (dOp dId l.ins).depth (max (dPath l.path).depth (max (dOp dCt l.ct).depth 0)))) + 1 ≤ 2
  omega
theorem dp_all {α : Type} {f : α → PyData} {n : Nat} (h : ∀ a, (f a).depth ≤ n) : ∀ l : List α, PyData.depthAll (l.map f) ≤ n
  | [] => Nat.zero_le n
  | a :: l => by
    have h1 := h a
    have h2 := dp_all h l
    show max (f a).depth (PyData.depthAll (l.map f)) ≤ n
    omega
theorem dp_ls (ls : List Line) : (dLs ls).depth ≤ 3 := by
  have := dp_all dp_ln ls
  show PyData.depthAll (ls.map dLn) + 1 ≤ 3
  omega

/-! ### what the defs give -/
def findLine (ls : List Line) (o : Option Id) : Option Line := ls.find? fun l => decide (some l.id = o)
def findHead (ls : List Line) (o : Option Id) : Option Line := ls.find? fun l => decide (some l.hd = o)
def settleF (ls : List Line) (pl : Place) : Option Id × List Str := match findLine ls pl.1 with
  | some f => if f.ct = none then (pl.1, pl.2.1) else (none, pl.2.2)
  | none => (none, pl.2.2)
def dTwo (w : Option Id × List Str) : PyData := .tuple [dOp dId w.1, dPath w.2]
def woLine (ls : List Line) (e : Line) : List Line := ls.flatMap fun k => if k.ins = some e.id then [{ k with ins := e.ins, path := e.path ++ k.path }] else if k.id ≠ e.id then [k] else []
def woHead (ls : List Line) (h : Id) : List Line := match findHead ls (some h) with
  | some e => woLine ls e
  | none => ls
def woHeads (ls : List Line) (hs : List Id) : List Line := hs.foldl woHead ls
def whereF (ls : List Line) (pl : Place) (meant : Option Id) : Option Id × List Str := match findLine ls meant with
  | some m => (m.ins, m.path)
  | none => settleF ls pl
def withNew (ls : List Line) (id : Id) (pl : Place) (ct : Option Ct) (meant : Option Id) : List Line := ls ++ [⟨id, id, (whereF ls pl meant).1, (whereF ls pl meant).2, ct⟩]
def firstRep (ls : List Line) (hs : List Id) : Option Line := ls.find? fun l => l.ct.isSome && decide (l.hd ∈ hs)
/-- x stands in o, or is it: found by going up n times -/
inductive SIn (ls : List Line) (x : Id) : Nat → Option Id → Bool → Prop where
  | root : SIn ls x 0 none false
  | hit : SIn ls x 0 (some x) true
  | up {i : Id} {f : Line} {n : Nat} {b : Bool} : i ≠ x → findLine ls (some i) = some f → SIn ls x n f.ins b → SIn ls x (n + 1) (some i) b
/-- the path that is found by going up n times -/
inductive Std (ls : List Line) : Nat → Option Id → List Str → List Str → Prop where
  | root (p : List Str) : Std ls 0 none p p
  | up {i : Id} {f : Line} {n : Nat} {p r : List Str} : findLine ls (some i) = some f → Std ls n f.ins (f.path ++ p) r → Std ls (n + 1) (some i) p r
theorem Std.len {ls : List Line} {n : Nat} {o : Option Id} {p r : List Str} (h : Std ls n o p r) : p.length ≤ r.length := by
  induction h with
  | root p => exact Nat.le_refl _
  | up _ _ ih =>
    rw [List.length_append] at ih
    omega
def Short (ls : List Line) : Prop := ls.length ≤ 1000 ∧ ∀ l ∈ ls, l.path.length ≤ 10000
/-! ### promises -/
def pFindLine : List PyData → PyData → Prop := fun ds d => ∃ ls o, ds = [dLs ls, dOp dId o] ∧ d = dOp dLn (findLine ls o)
def pFindHead : List PyData → PyData → Prop := fun ds d => ∃ ls o, ds = [dLs ls, dOp dId o] ∧ d = dOp dLn (findHead ls o)
def pStands : List PyData → PyData → Prop := fun ds d => ∃ ls l n r, ds = [dLs ls, dLn l] ∧ Std ls n l.ins l.path r ∧ r.length ≤ 90000 ∧ d = dPath r
def pSettle : List PyData → PyData → Prop := fun ds d => ∃ ls pl, ds = [dLs ls, dPl pl] ∧ d = dTwo (settleF ls pl)
def pStandsIn : List PyData → PyData → Prop := fun ds d => ∃ ls o x n b, ds = [dLs ls, dOp dId o, dId x] ∧ SIn ls x n o b ∧ d = .bool b
def pWoLine : List PyData → PyData → Prop := fun ds d => ∃ ls e, ds = [dLs ls, dLn e] ∧ Short ls ∧ e.path.length ≤ 10000 ∧ d = dLs (woLine ls e)
def pFirstRep : List PyData → PyData → Prop := fun ds d => ∃ ls hs, ds = [dLs ls, dIds hs] ∧ d = dOp dLn (firstRep ls hs)
abbrev sp_find_line (K : PySem.W.Frag) : Sp := SpD K pFindLine
abbrev sp_find_head (K : PySem.W.Frag) : Sp := SpD K pFindHead
abbrev sp_stands (K : PySem.W.Frag) : Sp := SpD K pStands
abbrev sp_settle (K : PySem.W.Frag) : Sp := SpD K pSettle
abbrev sp_stands_in (K : PySem.W.Frag) : Sp := SpD K pStandsIn
abbrev sp_without_line (K : PySem.W.Frag) : Sp := SpD K pWoLine
abbrev sp_first_replaced (K : PySem.W.Frag) : Sp := SpD K pFirstRep
/-! ### the arguments taken apart -/
theorem args1 {K : PySem.W.Frag} {H : Hp} {vs : List V} {d1 : PyData} (h : DpAll K H vs [d1]) : ∃ v1, vs = [v1] ∧ Dp K H v1 d1 := by
  cases h with
  | cons a h =>
    cases h
    exact ⟨_, rfl, a⟩
theorem args2 {K : PySem.W.Frag} {H : Hp} {vs : List V} {d1 d2 : PyData} (h : DpAll K H vs [d1, d2]) : ∃ v1 v2, vs = [v1, v2] ∧ Dp K H v1 d1 ∧ Dp K H v2 d2 := by
  cases h with
  | cons a h => cases h with
    | cons b h =>
      cases h
      exact ⟨_, _, rfl, a, b⟩
theorem args3 {K : PySem.W.Frag} {H : Hp} {vs : List V} {d1 d2 d3 : PyData} (h : DpAll K H vs [d1, d2, d3]) : ∃ v1 v2 v3, vs = [v1, v2, v3] ∧ Dp K H v1 d1 ∧ Dp K H v2 d2 ∧ Dp K H v3 d3 := by
  cases h with
  | cons a h => cases h with
    | cons b h => cases h with
      | cons c h =>
        cases h
        exact ⟨_, _, _, rfl, a, b, c⟩
theorem args4 {K : PySem.W.Frag} {H : Hp} {vs : List V} {d1 d2 d3 d4 : PyData} (h : DpAll K H vs [d1, d2, d3, d4]) : ∃ v1 v2 v3 v4, vs = [v1, v2, v3, v4] ∧ Dp K H v1 d1 ∧ Dp K H v2 d2 ∧ Dp K H v3 d3 ∧ Dp K H v4 d4 := by
  cases h with
  | cons a h => cases h with
    | cons b h => cases h with
      | cons c h => cases h with
        | cons d h =>
          cases h
          exact ⟨_, _, _, _, rfl, a, b, c, d⟩
theorem ls_at {ls : List Line} {i : Nat} {d : PyData} (h : (ls.map dLn)[i]? = some d) : ∃ l, ls[i]? = some l ∧ d = dLn l := by
  rw [List.getElem?_map] at h
  cases e : ls[i]? with
  | none => rw [e] at h; cases h
  | some l => rw [e] at h; exact ⟨l, rfl, (Option.some.inj h).symm⟩
theorem ids_at {is : List Id} {i : Nat} {d : PyData} (h : (is.map dId)[i]? = some d) : ∃ l, is[i]? = some l ∧ d = dId l := by
  rw [List.getElem?_map] at h
  cases e : is[i]? with
  | none => rw [e] at h; cases h
  | some l => rw [e] at h; exact ⟨l, rfl, (Option.some.inj h).symm⟩
/-- the first that is asked for -/
theorem find_hit {ls : List Line} {p : Line → Bool} {i : Nat} {l : Line} (h : (ls.take i).find? p = none) (hl : ls[i]? = some l) (hp : p l = true) : ls.find? p = some l := by
  have e : ls = ls.take (i + 1) ++ ls.drop (i + 1) := (List.take_append_drop _ _).symm
  rw [e, take_up hl, List.append_assoc, List.find?_append, h]
  simp [hp]
theorem find_miss {ls : List Line} {p : Line → Bool} {i : Nat} {l : Line} (h : (ls.take i).find? p = none) (hl : ls[i]? = some l) (hp : p l = false) : (ls.take (i + 1)).find? p = none := by
  rw [take_up hl, List.find?_append, h]
  simp [hp]
theorem up {K : PySem.W.Frag} {N : Addr → Prop} {H H1 : Hp} {v : V} {d : PyData} (e : Ex H H1) (h : Dp K (cutN N H) v d) : Dp K (cutN N H1) v d := Dp.ex (cutN_ex e) d v h
theorem eqv_oi (a : Option Id) (b : Id) : PyData.eqv (dOp dId a) (dId b) = decide (a = some b) := eqv_oid a (some b)
theorem isN_oid (o : Option Id) : isN (dOp dId o) = o.isNone := by cases o <;> rfl
theorem isN_oln (o : Option Line) : isN (dOp dLn o) = o.isNone := by cases o <;> rfl
theorem isN_oct (o : Option Ct) : isN (dOp dCt o) = o.isNone := by cases o <;> rfl
theorem woLine_up {ls : List Line} {e k : Line} {i : Nat} (h : ls[i]? = some k) : woLine (ls.take (i + 1)) e = woLine (ls.take i) e ++ (if k.ins = some e.id then [{ k with ins := e.ins, path := e.path ++ k.path }] else if k.id ≠ e.id then [k] else []) := by
  unfold woLine
  rw [take_up h, List.flatMap_append]
  simp
theorem woLine_len (ls : List Line) (e : Line) : (woLine ls e).length ≤ ls.length := by
  unfold woLine
  induction ls with
  | nil => exact Nat.le_refl _
  | cons k ls ih =>
    rw [List.flatMap_cons, List.length_append, List.length_cons]
    have : (if k.ins = some e.id then [{ k with ins := e.ins, path := e.path ++ k.path }] else if k.id ≠ e.id then [k] else []).length ≤ 1 := by
      split
      · exact Nat.le_refl 1
      · split
        · exact Nat.le_refl 1
        · exact Nat.zero_le 1
    omega
/-- a line is moved -/
def mvTo (ls : List Line) (l : Line) (w : Option Id × List Str) : List Line := ls.map fun k => if k.id = l.id then ⟨l.id, l.hd, w.1, w.2, l.ct⟩ else k
def meantBy (ls : List Line) (m : Mv) : Option Line := (findHead ls m.1).or (findLine ls m.2.1)
inductive MvR (ls : List Line) (m : Mv) : List Line → Prop where
  | no : meantBy ls m = none → MvR ls m ls
  | ring {l : Line} {n : Nat} : meantBy ls m = some l → SIn ls l.id n (settleF ls m.2.2).1 true → MvR ls m ls
  | yes {l : Line} {n : Nat} : meantBy ls m = some l → SIn ls l.id n (settleF ls m.2.2).1 false → MvR ls m (mvTo ls l (settleF ls m.2.2))
def pMove : List PyData → PyData → Prop := fun ds d => ∃ ls m ls', ds = [dLs ls, dOp dId m.1, dOp dId m.2.1, dPl m.2.2] ∧ Short ls ∧ MvR ls m ls' ∧ d = dLs ls'
abbrev sp_move_line (K : PySem.W.Frag) : Sp := SpD K pMove
def pWoHeads : List PyData → PyData → Prop := fun ds d => ∃ ls hs d1, ds = [dLs ls, d1] ∧ IsSeqD (hs.map dId) d1 ∧ (∀ i, Short (woHeads ls (hs.take i))) ∧ d = dLs (woHeads ls hs)
abbrev sp_without_heads (K : PySem.W.Frag) : Sp := SpD K pWoHeads
def pWithNew : List PyData → PyData → Prop := fun ds d => ∃ ls id pl ct meant hs, ds = [dLs ls, dEd (.write id pl ct meant hs)] ∧ Short ls ∧ d = dLs (withNew ls id pl ct meant)
abbrev sp_with_new_line (K : PySem.W.Frag) : Sp := SpD K pWithNew
theorem woHeads_up {ls : List Line} {hs : List Id} {i : Nat} {h : Id} (e : hs[i]? = some h) : woHeads ls (hs.take (i + 1)) = woHead (woHeads ls (hs.take i)) h := by
  unfold woHeads
  rw [take_up e, List.foldl_append]
  rfl
def textIn (ls : List Line) (id : Id) (pl : Place) (ct : Option Ct) (meant : Option Id) (hs : List Id) : List Line := match firstRep ls hs with
  | none => withNew ls id pl ct meant
  | some c => ls.map fun k => if k.id = c.id then ⟨c.id, id, c.ins, c.path, ct⟩ else k
def afterText (ls : List Line) (id : Id) (pl : Place) (ct : Option Ct) (meant : Option Id) (hs : List Id) : List Line := woHeads (textIn ls id pl ct meant hs) (hs.filter fun h => !decide (h = id))
inductive MvsR : List Line → List Mv → List Line → Prop where
  | nil (ls : List Line) : MvsR ls [] ls
  | cons {ls ls1 ls2 : List Line} {m : Mv} {ms : List Mv} : Short ls → MvR ls m ls1 → MvsR ls1 ms ls2 → MvsR ls (m :: ms) ls2
/-- what an edit does, where it can be followed -/
inductive AftR (ls : List Line) : Edit → List Line → Prop where
  | drop (id : Id) (hs : List Id) : (∀ i, Short (woHeads ls (hs.take i))) → AftR ls (.drop id hs) (woHeads ls hs)
  | move (id : Id) {ms : List Mv} {ls' : List Line} : MvsR ls ms ls' → AftR ls (.move id ms) ls'
  | mark (id : Id) (pl : Place) (meant : Option Id) (hs : List Id) : Short ls → (∀ i, Short (woHeads (withNew ls id pl none meant) (hs.take i))) → AftR ls (.write id pl none meant hs) (woHeads (withNew ls id pl none meant) hs)
  | text (id : Id) (pl : Place) (c : Ct) (meant : Option Id) (hs : List Id) : Short ls → hs.length ≤ 1000 → (∀ i, Short (woHeads (textIn ls id pl (some c) meant hs) ((hs.filter fun h => !decide (h = id)).take i))) → AftR ls (.write id pl (some c) meant hs) (afterText ls id pl (some c) meant hs)
inductive FoldR : List Line → List Edit → List Line → Prop where
  | nil (ls : List Line) : FoldR ls [] ls
  | cons {ls ls1 ls2 : List Line} {e : Edit} {es : List Edit} : AftR ls e ls1 → FoldR ls1 es ls2 → FoldR ls (e :: es) ls2
def pAfterText : List PyData → PyData → Prop := fun ds d => ∃ ls id pl ct meant hs, ds = [dLs ls, dEd (.write id pl ct meant hs)] ∧ Short ls ∧ hs.length ≤ 1000 ∧ (∀ i, Short (woHeads (textIn ls id pl ct meant hs) ((hs.filter fun h => !decide (h = id)).take i))) ∧ d = dLs (afterText ls id pl ct meant hs)
def pAfterMove : List PyData → PyData → Prop := fun ds d => ∃ ls id ms ls', ds = [dLs ls, dEd (.move id ms)] ∧ MvsR ls ms ls' ∧ d = dLs ls'
def pLinesAfter : List PyData → PyData → Prop := fun ds d => ∃ ls e ls', ds = [dLs ls, dEd e] ∧ AftR ls e ls' ∧ d = dLs ls'
def pFold : List PyData → PyData → Prop := fun ds d => ∃ ls es ls', ds = [dLs ls, .list (es.map dEd)] ∧ FoldR ls es ls' ∧ d = dLs ls'
def pLinesOf : List PyData → PyData → Prop := fun ds d => ∃ es ls', ds = [.list (es.map dEd)] ∧ FoldR [] es ls' ∧ d = dLs ls'
abbrev sp_after_text (K : PySem.W.Frag) : Sp := SpD K pAfterText
abbrev sp_after_move (K : PySem.W.Frag) : Sp := SpD K pAfterMove
abbrev sp_lines_after (K : PySem.W.Frag) : Sp := SpD K pLinesAfter
abbrev sp_fold_lines (K : PySem.W.Frag) : Sp := SpD K pFold
abbrev sp_lines_of (K : PySem.W.Frag) : Sp := SpD K pLinesOf
theorem mv_cases {ls ls' : List Line} {m : Mv} (h : MvR ls m ls') : (meantBy ls m = none ∧ ls' = ls) ∨ ∃ l n b, meantBy ls m = some l ∧ SIn ls l.id n (settleF ls m.2.2).1 b ∧ ls' = if b = true then ls else mvTo ls l (settleF ls m.2.2) := by
  cases h with
  | no h => exact .inl ⟨h, rfl⟩
  | ring h1 h2 => exact .inr ⟨_, _, true, h1, h2, rfl⟩
  | yes h1 h2 => exact .inr ⟨_, _, false, h1, h2, rfl⟩
theorem flt_all {α : Type} (l : List α) : l.filter (fun _ => true) = l := List.filter_eq_self.mpr fun _ _ => rfl
theorem pl_ids (is : List Id) : PyData.plainAll (is.map dId) = true := pl_all pl_id is
end Ln
/-! lines that stay sound: what every edit keeps -/
namespace Ln
open PySem L2 Lw
/-- U: all ids that there were; r: falls on the way up; S: the ended lines whose paths a line has taken over -/
structure OkW (ls : List Line) (U : List Id) (r : Id → Nat) (S : Id → List Id) : Prop where
  nd : (ls.map (·.id)).Nodup
  hnd : (ls.map (·.hd)).Nodup
  fol : ∀ l ∈ ls, l.ct = none → l.hd = l.id
  idU : ∀ l ∈ ls, l.id ∈ U ∧ l.hd ∈ U
  up : ∀ l ∈ ls, ∀ i, l.ins = some i → ∃ f ∈ ls, f.id = i ∧ f.ct = none ∧ r i < r l.id
  len : ∀ l ∈ ls, 1 ≤ l.path.length ∧ l.path.length ≤ 3 * ((S l.id).length + 1)
  snd : ∀ l ∈ ls, (S l.id).Nodup
  gone : ∀ l ∈ ls, ∀ x ∈ S l.id, x ∈ U ∧ ∀ k ∈ ls, k.id ≠ x
  sib : ∀ k ∈ ls, ∀ l ∈ ls, k.id ≠ l.id → ∀ x, x ∈ S k.id → x ∈ S l.id → k.ins = l.ins
theorem nodup_inj {α β : Type} {f : α → β} : ∀ {l : List α}, (l.map f).Nodup → ∀ a ∈ l, ∀ b ∈ l, f a = f b → a = b
  | [], _, a, ha, _, _, _ => by cases ha
  | x :: l, h, a, ha, b, hb, e => by
    rw [List.map_cons, List.nodup_cons] at h
    rcases List.mem_cons.mp ha with h1 | h1
    · rcases List.mem_cons.mp hb with h2 | h2
      · rw [h1, h2]
      · rw [h1] at e
        exact absurd (List.mem_map.mpr ⟨b, h2, e.symm⟩) h.1
    · rcases List.mem_cons.mp hb with h2 | h2
      · rw [h2] at e
        exact absurd (List.mem_map.mpr ⟨a, h1, e⟩) h.1
      · exact nodup_inj h.2 a h1 b h2 e
theorem nodup_sub {α : Type} [DecidableEq α] : ∀ {l u : List α}, l.Nodup → (∀ x ∈ l, x ∈ u) → l.length ≤ u.length
  | [], _, _, _ => Nat.zero_le _
  | x :: l, u, h, hs => by
    rw [List.nodup_cons] at h
    have hx := hs x (List.mem_cons_self ..)
    have h1 := nodup_sub (l := l) (u := u.erase x) h.2 fun y hy => (List.mem_erase_of_ne (fun e => h.1 (by rw [← e]; exact hy))).mpr (hs y (List.mem_cons_of_mem _ hy))
    rw [List.length_erase_of_mem hx] at h1
    have : 0 < u.length := List.length_pos_of_mem hx
    rw [List.length_cons]
    omega
section
variable {ls : List Line} {U : List Id} {r : Id → Nat} {S : Id → List Id}
theorem OkW.find (h : OkW ls U r S) {l : Line} (hl : l ∈ ls) : findLine ls (some l.id) = some l := by
  unfold findLine
  cases hf : ls.find? fun k => decide (some k.id = some l.id) with
  | none =>
    have := List.find?_eq_none.mp hf l hl
    simp at this
  | some k =>
    have h1 := List.mem_of_find?_eq_some hf
    have h2 := List.find?_some hf
    rw [nodup_inj h.nd k h1 l hl (Option.some.inj (of_decide_eq_true h2))]
theorem OkW.findH (h : OkW ls U r S) {l : Line} (hl : l ∈ ls) : findHead ls (some l.hd) = some l := by
  unfold findHead
  cases hf : ls.find? fun k => decide (some k.hd = some l.hd) with
  | none =>
    have := List.find?_eq_none.mp hf l hl
    simp at this
  | some k =>
    have h1 := List.mem_of_find?_eq_some hf
    have h2 := List.find?_some hf
    rw [nodup_inj h.hnd k h1 l hl (Option.some.inj (of_decide_eq_true h2))]
theorem find_mem {o : Option Id} {l : Line} (h : findLine ls o = some l) : l ∈ ls ∧ o = some l.id := by
  unfold findLine at h
  have h2 := List.find?_some h
  exact ⟨List.mem_of_find?_eq_some h, (of_decide_eq_true h2).symm⟩
theorem findH_mem {o : Option Id} {l : Line} (h : findHead ls o = some l) : l ∈ ls ∧ o = some l.hd := by
  unfold findHead at h
  have h2 := List.find?_some h
  exact ⟨List.mem_of_find?_eq_some h, (of_decide_eq_true h2).symm⟩
/-- something of the list, or the root -/
def InLs (ls : List Line) (o : Option Id) : Prop := ∀ i, o = some i → ∃ f ∈ ls, f.id = i
theorem OkW.ins (h : OkW ls U r S) {l : Line} (hl : l ∈ ls) : InLs ls l.ins := fun i e => let ⟨f, h1, h2, _⟩ := h.up l hl i e; ⟨f, h1, h2⟩
theorem OkW.sin (h : OkW ls U r S) (x : Id) : ∀ (k : Nat) (o : Option Id), InLs ls o → (∀ i, o = some i → r i < k) → ∃ n b, SIn ls x n o b
  | _, none, _, _ => ⟨0, false, .root⟩
  | 0, some i, _, hk => absurd (hk i rfl) (Nat.not_lt_zero _)
  | k + 1, some i, ho, hk => by
    by_cases e : i = x
    · rw [e]
      exact ⟨0, true, .hit⟩
    · obtain ⟨f, hf, rfl⟩ := ho i rfl
      obtain ⟨n, b, hs⟩ := OkW.sin h x k f.ins (h.ins hf) fun j hj => by
        obtain ⟨g, _, rfl, _, hlt⟩ := h.up f hf j hj
        have := hk f.id rfl
        omega
      exact ⟨n + 1, b, .up e (h.find hf) hs⟩
theorem OkW.sin_any (h : OkW ls U r S) (x : Id) {o : Option Id} (ho : InLs ls o) : ∃ n b, SIn ls x n o b := by
  cases o with
  | none => exact ⟨0, false, .root⟩
  | some i => exact h.sin x (r i + 1) (some i) ho fun j hj => by cases hj; exact Nat.lt_succ_self _
theorem sin_one {x : Id} : ∀ {n : Nat} {o : Option Id} {b : Bool}, SIn ls x n o b → ∀ {m : Nat} {c : Bool}, SIn ls x m o c → b = c := by
  intro n o b h
  induction h with
  | root =>
    intro m c k
    cases k
    rfl
  | hit =>
    intro m c k
    cases k with
    | hit => rfl
    | up hne _ _ => exact absurd rfl hne
  | up hne hf hs ih =>
    intro m c k
    cases k with
    | hit => exact absurd rfl hne
    | up _ hf' hs' =>
      rw [hf] at hf'
      cases hf'
      exact ih hs'
/-- paths are short -/
theorem OkW.short (h : OkW ls U r S) (hU : U.length ≤ 500) : Short ls := by
  refine ⟨?_, fun l hl => ?_⟩
  · have := nodup_sub h.nd fun x hx => by
      obtain ⟨l, hl, rfl⟩ := List.mem_map.mp hx
      exact (h.idU l hl).1
    rw [List.length_map] at this
    omega
  · have h1 := nodup_sub (h.snd l hl) fun x hx => (h.gone l hl x hx).1
    have h2 := (h.len l hl).2
    omega
/-! ### a line ends -/
theorem mem_wo {e k : Line} : k ∈ woLine ls e ↔ ∃ l ∈ ls, (l.ins = some e.id ∧ k = { l with ins := e.ins, path := e.path ++ l.path }) ∨ (l.ins ≠ some e.id ∧ l.id ≠ e.id ∧ k = l) := by
  unfold woLine
  rw [List.mem_flatMap]
  constructor
  · rintro ⟨l, hl, hk⟩
    by_cases h1 : l.ins = some e.id
    · rw [if_pos h1] at hk
      exact ⟨l, hl, .inl ⟨h1, List.mem_singleton.mp hk⟩⟩
    · rw [if_neg h1] at hk
      by_cases h2 : l.id ≠ e.id
      · rw [if_pos h2] at hk
        exact ⟨l, hl, .inr ⟨h1, h2, List.mem_singleton.mp hk⟩⟩
      · rw [if_neg h2] at hk
        cases hk
  · rintro ⟨l, hl, ⟨h1, rfl⟩ | ⟨h1, h2, rfl⟩⟩
    · exact ⟨l, hl, by rw [if_pos h1]; exact List.mem_singleton_self _⟩
    · exact ⟨k, hl, by rw [if_neg h1, if_pos h2]; exact List.mem_singleton_self _⟩
theorem wo_map {β : Type} (f : Line → β) (e : Line) (hf : ∀ (l : Line) (o : Option Id) (p : List Str), f { l with ins := o, path := p } = f l) (h0 : ∀ l ∈ ls, l.ins = some e.id → l.id ≠ e.id) : (woLine ls e).map f = (ls.filter fun l => !decide (l.id = e.id)).map f := by
  unfold woLine
  induction ls with
  | nil => rfl
  | cons l ls ih =>
    have ih := ih fun k hk => h0 k (List.mem_cons_of_mem _ hk)
    rw [List.flatMap_cons, List.map_append, ih]
    by_cases h1 : l.ins = some e.id
    · have h2 := h0 l (List.mem_cons_self ..) h1
      rw [if_pos h1, List.filter_cons_of_pos (by rw [decide_eq_false h2]; rfl), List.map_cons]
      show [f _] ++ _ = _
      rw [hf]
      rfl
    · by_cases h2 : l.id = e.id
      · rw [if_neg h1, if_neg (fun h => h h2), List.filter_cons_of_neg (by rw [decide_eq_true h2]; decide)]
        rfl
      · rw [if_neg h1, if_pos h2, List.filter_cons_of_pos (by rw [decide_eq_false h2]; rfl), List.map_cons]
        rfl
theorem OkW.not_self (h : OkW ls U r S) {l : Line} (hl : l ∈ ls) : l.ins ≠ some l.id := fun e => by
  obtain ⟨f, _, _, _, hlt⟩ := h.up l hl l.id e
  omega
def soS (S : Id → List Id) (ls : List Line) (e : Line) (x : Id) : List Id := if ∃ l ∈ ls, l.id = x ∧ l.ins = some e.id then e.id :: (S e.id ++ S x) else S x
theorem OkW.wo (h : OkW ls U r S) {e : Line} (he : e ∈ ls) : ∃ S', OkW (woLine ls e) U r S' := by
  have hns : ∀ l ∈ ls, l.ins = some e.id → l.id ≠ e.id := fun l hl h1 h2 => by
    have : l = e := nodup_inj h.nd l hl e he h2
    rw [this] at h1
    exact h.not_self he h1
  classical
  let S' : Id → List Id := fun x => if ∃ l ∈ ls, l.id = x ∧ l.ins = some e.id then e.id :: (S e.id ++ S x) else S x
  have s1 : ∀ l ∈ ls, l.ins = some e.id → S' l.id = e.id :: (S e.id ++ S l.id) := fun l hl h1 => if_pos ⟨l, hl, rfl, h1⟩
  have s2 : ∀ l ∈ ls, l.ins ≠ some e.id → S' l.id = S l.id := fun l hl h1 => if_neg fun ⟨k, hk, h2, h3⟩ => h1 (by rw [← nodup_inj h.nd k hk l hl h2]; exact h3)
  have dj : ∀ l ∈ ls, l.ins = some e.id → ∀ x, x ∈ S e.id → x ∈ S l.id → False := fun l hl h1 x hx1 hx2 => by
    have h2 := h.sib e he l hl (fun z => hns l hl h1 z.symm) x hx1 hx2
    rw [h1] at h2
    exact h.not_self he h2
  refine ⟨S', ?_, ?_, ?_, ?_, ?_, ?_, ?_, ?_, ?_⟩
  · rw [wo_map (·.id) e (fun _ _ _ => rfl) hns]
    exact (List.filter_sublist.map _).nodup h.nd
  · rw [wo_map (·.hd) e (fun _ _ _ => rfl) hns]
    exact (List.filter_sublist.map _).nodup h.hnd
  · intro k hk hc
    obtain ⟨l, hl, ⟨_, rfl⟩ | ⟨_, _, rfl⟩⟩ := mem_wo.mp hk
    · exact h.fol l hl hc
    · exact h.fol k hl hc
  · intro k hk
    obtain ⟨l, hl, ⟨_, rfl⟩ | ⟨_, _, rfl⟩⟩ := mem_wo.mp hk
    · exact h.idU l hl
    · exact h.idU k hl
  · -- the way up
    have stay : ∀ f ∈ ls, f.id ≠ e.id → f.ct = none → ∃ g ∈ woLine ls e, g.id = f.id ∧ g.ct = none := fun f hf h1 h2 => by
      by_cases h3 : f.ins = some e.id
      · exact ⟨_, mem_wo.mpr ⟨f, hf, .inl ⟨h3, rfl⟩⟩, rfl, h2⟩
      · exact ⟨f, mem_wo.mpr ⟨f, hf, .inr ⟨h3, h1, rfl⟩⟩, rfl, h2⟩
    intro k hk i hi
    obtain ⟨l, hl, ⟨h1, rfl⟩ | ⟨h1, h2, rfl⟩⟩ := mem_wo.mp hk
    · obtain ⟨f, hf, rfl, h3, h4⟩ := h.up e he i hi
      obtain ⟨_, _, _, _, h5⟩ := h.up l hl e.id h1
      obtain ⟨g, g1, g2, g3⟩ := stay f hf (fun z => by rw [z] at h4; omega) h3
      exact ⟨g, g1, g2, g3, Nat.lt_trans h4 h5⟩
    · obtain ⟨f, hf, rfl, h3, h4⟩ := h.up k hl i hi
      obtain ⟨g, g1, g2, g3⟩ := stay f hf (fun z => h1 (by rw [hi, z])) h3
      exact ⟨g, g1, g2, g3, h4⟩
  · intro k hk
    obtain ⟨l, hl, ⟨h1, rfl⟩ | ⟨h1, h2, rfl⟩⟩ := mem_wo.mp hk
    · have a1 := h.len l hl
      have a2 := h.len e he
      show 1 ≤ (e.path ++ l.path).length ∧ (e.path ++ l.path).length ≤ 3 * ((S' l.id).length + 1)
      rw [s1 l hl h1, List.length_cons, List.length_append, List.length_append]
      omega
    · rw [s2 k hl h1]
      exact h.len k hl
  · intro k hk
    obtain ⟨l, hl, ⟨h1, rfl⟩ | ⟨h1, h2, rfl⟩⟩ := mem_wo.mp hk
    · show (S' l.id).Nodup
      rw [s1 l hl h1, List.nodup_cons, List.mem_append, List.nodup_append]
      refine ⟨?_, h.snd e he, h.snd l hl, fun a ha b hb z => dj l hl h1 a ha (z ▸ hb)⟩
      rintro (z | z)
      · exact (h.gone e he _ z).2 e he rfl
      · exact (h.gone l hl _ z).2 e he rfl
    · rw [s2 k hl h1]
      exact h.snd k hl
  · -- ended ids
    have old : ∀ x, x ∈ U → (∀ k ∈ ls, k.id ≠ x) → x ∈ U ∧ ∀ k ∈ woLine ls e, k.id ≠ x := fun x hu hx => ⟨hu, fun k hk => by
      obtain ⟨l, hl, ⟨_, rfl⟩ | ⟨_, _, rfl⟩⟩ := mem_wo.mp hk
      · exact hx l hl
      · exact hx k hl⟩
    intro k hk x hx
    obtain ⟨l, hl, ⟨h1, rfl⟩ | ⟨h1, h2, rfl⟩⟩ := mem_wo.mp hk
    · have hx' : x ∈ S' l.id := hx
      rw [s1 l hl h1, List.mem_cons, List.mem_append] at hx'
      rcases hx' with rfl | hx' | hx'
      · refine ⟨(h.idU e he).1, fun k hk => ?_⟩
        obtain ⟨m, hm, ⟨h5, rfl⟩ | ⟨_, h6, rfl⟩⟩ := mem_wo.mp hk
        · exact hns m hm h5
        · exact h6
      · exact old x (h.gone e he x hx').1 (h.gone e he x hx').2
      · exact old x (h.gone l hl x hx').1 (h.gone l hl x hx').2
    · rw [s2 k hl h1] at hx
      exact old x (h.gone k hl x hx).1 (h.gone k hl x hx).2
  · -- side by side
    have one : ∀ l ∈ ls, l.ins = some e.id → ∀ m ∈ ls, m.ins ≠ some e.id → m.id ≠ e.id → ∀ x, x ∈ S' l.id → x ∈ S m.id → e.ins = m.ins := fun l hl h1 m hm h3 h4 x hx1 hx2 => by
      rw [s1 l hl h1, List.mem_cons, List.mem_append] at hx1
      rcases hx1 with rfl | hx1 | hx1
      · exact absurd rfl ((h.gone m hm _ hx2).2 e he)
      · exact h.sib e he m hm (fun z => h4 z.symm) x hx1 hx2
      · have hne : l.id ≠ m.id := fun z => h3 (by rw [← nodup_inj h.nd l hl m hm z]; exact h1)
        have := h.sib l hl m hm hne x hx1 hx2
        rw [h1] at this
        exact absurd this.symm h3
    intro k hk k' hk' hne x hx hx'
    obtain ⟨l, hl, ⟨h1, rfl⟩ | ⟨h1, h2, rfl⟩⟩ := mem_wo.mp hk
    · obtain ⟨m, hm, ⟨h3, rfl⟩ | ⟨h3, h4, rfl⟩⟩ := mem_wo.mp hk'
      · rfl
      · rw [s2 k' hm h3] at hx'
        exact one l hl h1 k' hm h3 h4 x hx hx'
    · rw [s2 k hl h1] at hx
      obtain ⟨m, hm, ⟨h3, rfl⟩ | ⟨h3, h4, rfl⟩⟩ := mem_wo.mp hk'
      · exact (one m hm h3 k hl h1 h2 x hx' hx).symm
      · rw [s2 k' hm h3] at hx'
        exact h.sib k hl k' hm hne x hx hx'
/-! ### a line more -/
def upR (r : Id → Nat) : Option Id → Nat
  | some i => r i + 1
  | none => 0
def Fol (ls : List Line) (o : Option Id) : Prop := ∀ i, o = some i → ∃ f ∈ ls, f.id = i ∧ f.ct = none
theorem OkW.add (h : OkW ls U r S) {id : Id} (hid : id ∉ U) {o : Option Id} {p : List Str} {T : List Id} (ct : Option Ct) (ho : Fol ls o) (hp : 1 ≤ p.length ∧ p.length ≤ 3 * (T.length + 1)) (hT : T.Nodup)
    (hg : ∀ x ∈ T, x ∈ U ∧ ∀ k ∈ ls, k.id ≠ x) (hs : ∀ k ∈ ls, ∀ x, x ∈ S k.id → x ∈ T → k.ins = o) : ∃ r' S', OkW (ls ++ [⟨id, id, o, p, ct⟩]) (id :: U) r' S' := by
  have hne : ∀ l ∈ ls, l.id ≠ id := fun l hl e => hid (e ▸ (h.idU l hl).1)
  have hnh : ∀ l ∈ ls, l.hd ≠ id := fun l hl e => hid (e ▸ (h.idU l hl).2)
  refine ⟨fun x => if x = id then upR r o else r x, fun x => if x = id then T else S x, ?_, ?_, ?_, ?_, ?_, ?_, ?_, ?_, ?_⟩
  · rw [List.map_append, List.nodup_append]
    refine ⟨h.nd, by simp, fun a ha b hb => ?_⟩
    obtain ⟨l, hl, rfl⟩ := List.mem_map.mp ha
    rw [List.mem_singleton.mp hb]
    exact hne l hl
  · rw [List.map_append, List.nodup_append]
    refine ⟨h.hnd, by simp, fun a ha b hb => ?_⟩
    obtain ⟨l, hl, rfl⟩ := List.mem_map.mp ha
    rw [List.mem_singleton.mp hb]
    exact hnh l hl
  · intro l hl hc
    rcases List.mem_append.mp hl with hl | hl
    · exact h.fol l hl hc
    · rw [List.mem_singleton.mp hl]
  · intro l hl
    rcases List.mem_append.mp hl with hl | hl
    · exact ⟨List.mem_cons_of_mem _ (h.idU l hl).1, List.mem_cons_of_mem _ (h.idU l hl).2⟩
    · rw [List.mem_singleton.mp hl]
      exact ⟨List.mem_cons_self .., List.mem_cons_self ..⟩
  · intro l hl i hi
    rcases List.mem_append.mp hl with hl | hl
    · obtain ⟨f, hf, rfl, h1, h2⟩ := h.up l hl i hi
      refine ⟨f, List.mem_append_left _ hf, rfl, h1, ?_⟩
      show (if f.id = id then _ else r f.id) < if l.id = id then _ else r l.id
      rw [if_neg (hne f hf), if_neg (hne l hl)]
      exact h2
    · obtain rfl := List.mem_singleton.mp hl
      obtain ⟨f, hf, rfl, h1⟩ := ho i hi
      refine ⟨f, List.mem_append_left _ hf, rfl, h1, ?_⟩
      have hi' : o = some f.id := hi
      show (if f.id = id then _ else r f.id) < if id = id then _ else _
      rw [if_neg (hne f hf), if_pos rfl, hi']
      exact Nat.lt_succ_self _
  · intro l hl
    rcases List.mem_append.mp hl with hl | hl
    · show 1 ≤ l.path.length ∧ l.path.length ≤ 3 * ((if l.id = id then T else S l.id).length + 1)
      rw [if_neg (hne l hl)]
      exact h.len l hl
    · obtain rfl := List.mem_singleton.mp hl
      show 1 ≤ p.length ∧ p.length ≤ 3 * ((if id = id then T else S id).length + 1)
      rw [if_pos rfl]
      exact hp
  · intro l hl
    rcases List.mem_append.mp hl with hl | hl
    · show (if l.id = id then T else S l.id).Nodup
      rw [if_neg (hne l hl)]
      exact h.snd l hl
    · obtain rfl := List.mem_singleton.mp hl
      show (if id = id then T else S id).Nodup
      rw [if_pos rfl]
      exact hT
  · have all : ∀ x, x ∈ U → (∀ k ∈ ls, k.id ≠ x) → x ∈ id :: U ∧ ∀ k ∈ ls ++ [(⟨id, id, o, p, ct⟩ : Line)], k.id ≠ x := fun x hx hk => ⟨List.mem_cons_of_mem _ hx, fun k hk' => by
      rcases List.mem_append.mp hk' with h1 | h1
      · exact hk k h1
      · rw [List.mem_singleton.mp h1]
        exact fun e => hid (by have e' : id = x := e; rw [e']; exact hx)⟩
    intro l hl x hx
    rcases List.mem_append.mp hl with hl | hl
    · have hx' : x ∈ if l.id = id then T else S l.id := hx
      rw [if_neg (hne l hl)] at hx'
      exact all x (h.gone l hl x hx').1 (h.gone l hl x hx').2
    · obtain rfl := List.mem_singleton.mp hl
      have hx' : x ∈ if id = id then T else S id := hx
      rw [if_pos rfl] at hx'
      exact all x (hg x hx').1 (hg x hx').2
  · intro k hk l hl hn x hx hx'
    have hx1 : x ∈ if k.id = id then T else S k.id := hx
    have hx2 : x ∈ if l.id = id then T else S l.id := hx'
    rcases List.mem_append.mp hk with hk | hk
    · rw [if_neg (hne k hk)] at hx1
      rcases List.mem_append.mp hl with hl | hl
      · rw [if_neg (hne l hl)] at hx2
        exact h.sib k hk l hl hn x hx1 hx2
      · obtain rfl := List.mem_singleton.mp hl
        rw [if_pos rfl] at hx2
        exact hs k hk x hx1 hx2
    · obtain rfl := List.mem_singleton.mp hk
      rw [if_pos rfl] at hx1
      rcases List.mem_append.mp hl with hl | hl
      · rw [if_neg (hne l hl)] at hx2
        exact (hs l hl x hx2 hx1).symm
      · obtain rfl := List.mem_singleton.mp hl
        exact absurd rfl hn
/-! ### a text goes on in its line -/
def textOn (ls : List Line) (c : Line) (id : Id) (ct : Option Ct) : List Line := ls.map fun k => if k.id = c.id then ⟨c.id, id, c.ins, c.path, ct⟩ else k
theorem OkW.text (h : OkW ls U r S) {c : Line} (hc : c ∈ ls) (hct : c.ct ≠ none) {id : Id} (hid : id ∉ U) (ct : Ct) : OkW (textOn ls c id (some ct)) (id :: U) r S := by
  have mem : ∀ {k : Line}, k ∈ textOn ls c id (some ct) → ∃ l ∈ ls, k.id = l.id ∧ k.ins = l.ins ∧ k.path = l.path ∧ ((l = c ∧ k.hd = id ∧ k.ct = some ct) ∨ (l ≠ c ∧ k = l)) := fun {k} hk => by
    obtain ⟨l, hl, rfl⟩ := List.mem_map.mp hk
    by_cases e : l.id = c.id
    · rw [if_pos e]
      have := nodup_inj h.nd l hl c hc e
      subst this
      exact ⟨l, hl, rfl, rfl, rfl, .inl ⟨rfl, rfl, rfl⟩⟩
    · rw [if_neg e]
      exact ⟨l, hl, rfl, rfl, rfl, .inr ⟨fun z => e (by rw [z]), rfl⟩⟩
  have ids : (textOn ls c id (some ct)).map (·.id) = ls.map (·.id) := by
    unfold textOn
    rw [List.map_map]
    refine List.map_congr_left fun l _ => ?_
    show (if l.id = c.id then (⟨c.id, id, c.ins, c.path, some ct⟩ : Line) else l).id = l.id
    split
    · next e => exact e.symm
    · rfl
  refine ⟨by rw [ids]; exact h.nd, ?_, ?_, ?_, ?_, ?_, ?_, ?_, ?_⟩
  · -- heads
    have hnh : ∀ l ∈ ls, l.hd ≠ id := fun l hl e => hid (e ▸ (h.idU l hl).2)
    have key : ∀ m : List Line, (∀ l ∈ m, l ∈ ls) → (m.map (·.id)).Nodup → (m.map (·.hd)).Nodup → ((textOn m c id (some ct)).map (·.hd)).Nodup := by
      intro m
      induction m with
      | nil => intro _ _ _; exact List.nodup_nil
      | cons l m ih =>
        intro hm h1 h2
        rw [List.map_cons, List.nodup_cons] at h1 h2
        unfold textOn
        rw [List.map_cons, List.map_cons, List.nodup_cons]
        refine ⟨fun hx => ?_, ih (fun k hk => hm k (List.mem_cons_of_mem _ hk)) h1.2 h2.2⟩
        obtain ⟨k, hk, e⟩ := List.mem_map.mp hx
        obtain ⟨k0, hk0, rfl⟩ := List.mem_map.mp hk
        have hk0' := hm k0 (List.mem_cons_of_mem _ hk0)
        have hl' := hm l (List.mem_cons_self ..)
        by_cases e1 : k0.id = c.id
        · by_cases e2 : l.id = c.id
          · exact h1.1 (List.mem_map.mpr ⟨k0, hk0, e1.trans e2.symm⟩)
          · rw [if_pos e1, if_neg e2] at e
            exact hnh l hl' e.symm
        · by_cases e2 : l.id = c.id
          · rw [if_neg e1, if_pos e2] at e
            exact hnh k0 hk0' e
          · rw [if_neg e1, if_neg e2] at e
            exact h2.1 (List.mem_map.mpr ⟨k0, hk0, e⟩)
    exact key ls (fun _ hl => hl) h.nd h.hnd
  · intro k hk hk2
    obtain ⟨l, hl, h1, h2, h3, ⟨rfl, h4, h5⟩ | ⟨h4, rfl⟩⟩ := mem hk
    · rw [h5] at hk2
      cases hk2
    · exact h.fol k hl hk2
  · intro k hk
    obtain ⟨l, hl, h1, h2, h3, ⟨rfl, h4, h5⟩ | ⟨h4, rfl⟩⟩ := mem hk
    · rw [h1, h4]
      exact ⟨List.mem_cons_of_mem _ (h.idU l hl).1, List.mem_cons_self ..⟩
    · exact ⟨List.mem_cons_of_mem _ (h.idU k hl).1, List.mem_cons_of_mem _ (h.idU k hl).2⟩
  · intro k hk i hi
    obtain ⟨l, hl, h1, h2, h3, _⟩ := mem hk
    rw [h2] at hi
    obtain ⟨f, hf, rfl, h5, h6⟩ := h.up l hl i hi
    have hfc : f.id ≠ c.id := fun e => hct (by rw [← nodup_inj h.nd f hf c hc e]; exact h5)
    exact ⟨f, List.mem_map.mpr ⟨f, hf, if_neg hfc⟩, rfl, h5, by rw [h1]; exact h6⟩
  · intro k hk
    obtain ⟨l, hl, h1, h2, h3, _⟩ := mem hk
    rw [h1, h3]
    exact h.len l hl
  · intro k hk
    obtain ⟨l, hl, h1, _⟩ := mem hk
    rw [h1]
    exact h.snd l hl
  · intro k hk x hx
    obtain ⟨l, hl, h1, _⟩ := mem hk
    rw [h1] at hx
    refine ⟨List.mem_cons_of_mem _ (h.gone l hl x hx).1, fun m hm => ?_⟩
    obtain ⟨n, hn, h5, _⟩ := mem hm
    rw [h5]
    exact (h.gone l hl x hx).2 n hn
  · intro k hk l hl hne x hx hx'
    obtain ⟨k0, hk0, h1, h2, _⟩ := mem hk
    obtain ⟨l0, hl0, h3, h4, _⟩ := mem hl
    rw [h1] at hx hne
    rw [h3] at hx' hne
    rw [h2, h4]
    exact h.sib k0 hk0 l0 hl0 hne x hx hx'
/-! ### a line is moved -/
theorem OkW.mv (h : OkW ls U r S) {l : Line} (hl : l ∈ ls) {o : Option Id} {p : List Str} (ho : Fol ls o) (hp : 1 ≤ p.length ∧ p.length ≤ 3) {n : Nat} (hs : SIn ls l.id n o false) : ∃ r' S', OkW (mvTo ls l (o, p)) U r' S' := by
  classical
  let De : Id → Prop := fun x => ∃ n, SIn ls l.id n (some x) true
  let up : Nat := upR r o
  have dl : De l.id := ⟨0, .hit⟩
  have mem : ∀ {k : Line}, k ∈ mvTo ls l (o, p) → (k = ⟨l.id, l.hd, o, p, l.ct⟩) ∨ (k ∈ ls ∧ k.id ≠ l.id) := fun {k} hk => by
    obtain ⟨m, hm, rfl⟩ := List.mem_map.mp hk
    by_cases e : m.id = l.id
    · rw [if_pos e]
      exact .inl rfl
    · rw [if_neg e]
      exact .inr ⟨hm, e⟩
  have low : ∀ {k : Line}, k ∈ mvTo ls l (o, p) → ∃ m ∈ ls, k.id = m.id ∧ k.hd = m.hd ∧ k.ct = m.ct := fun {k} hk => by
    rcases mem hk with rfl | ⟨h1, _⟩
    · exact ⟨l, hl, rfl, rfl, rfl⟩
    · exact ⟨k, h1, rfl, rfl, rfl⟩
  have stay : ∀ f ∈ ls, f.ct = none → ∃ g ∈ mvTo ls l (o, p), g.id = f.id ∧ g.ct = none := fun f hf h1 => by
    by_cases e : f.id = l.id
    · refine ⟨⟨l.id, l.hd, o, p, l.ct⟩, List.mem_map.mpr ⟨f, hf, if_pos e⟩, e.symm, ?_⟩
      rw [← nodup_inj h.nd f hf l hl e]
      exact h1
    · exact ⟨f, List.mem_map.mpr ⟨f, hf, if_neg e⟩, rfl, h1⟩
  have eqs : ∀ {β : Type} (g : Line → β), g ⟨l.id, l.hd, o, p, l.ct⟩ = g l → (mvTo ls l (o, p)).map g = ls.map g := fun {β} g hg => by
    unfold mvTo
    rw [List.map_map]
    refine List.map_congr_left fun m hm => ?_
    show g (if m.id = l.id then _ else m) = g m
    by_cases e : m.id = l.id
    · rw [if_pos e, nodup_inj h.nd m hm l hl e]
      exact hg
    · rw [if_neg e]
  refine ⟨fun x => if De x then r x + up else r x, fun x => if x = l.id then [] else S x, ?_, ?_, ?_, ?_, ?_, ?_, ?_, ?_, ?_⟩
  · rw [eqs (·.id) rfl]
    exact h.nd
  · rw [eqs (·.hd) rfl]
    exact h.hnd
  · intro k hk hc
    obtain ⟨m, hm, h1, h2, h3⟩ := low hk
    rw [h1, h2]
    exact h.fol m hm (h3 ▸ hc)
  · intro k hk
    obtain ⟨m, hm, h1, h2, h3⟩ := low hk
    rw [h1, h2]
    exact h.idU m hm
  · intro k hk i hi
    rcases mem hk with rfl | ⟨h1, h2⟩
    · have hi' : o = some i := hi
      obtain ⟨f, hf, rfl, h3⟩ := ho i hi'
      obtain ⟨g, g1, g2, g3⟩ := stay f hf h3
      refine ⟨g, g1, g2, g3, ?_⟩
      have nd : ¬ De f.id := fun ⟨m, hm⟩ => by
        rw [hi'] at hs
        exact absurd (sin_one hs hm) (by decide)
      show (if De f.id then _ else r f.id) < if De l.id then r l.id + up else _
      rw [if_neg nd, if_pos dl]
      have : up = r f.id + 1 := by
        show upR r o = _
        rw [hi']
        rfl
      omega
    · obtain ⟨f, hf, rfl, h3, h4⟩ := h.up k h1 i hi
      obtain ⟨g, g1, g2, g3⟩ := stay f hf h3
      refine ⟨g, g1, g2, g3, ?_⟩
      have go : De f.id → De k.id := fun ⟨m, hm⟩ => ⟨m + 1, .up h2 (h.find h1) (by rw [hi]; exact hm)⟩
      show (if De f.id then r f.id + up else r f.id) < if De k.id then r k.id + up else r k.id
      by_cases d1 : De f.id
      · rw [if_pos d1, if_pos (go d1)]
        omega
      · rw [if_neg d1]
        split <;> omega
  · intro k hk
    rcases mem hk with rfl | ⟨h1, h2⟩
    · show 1 ≤ p.length ∧ p.length ≤ 3 * ((if l.id = l.id then [] else S l.id).length + 1)
      rw [if_pos rfl]
      exact ⟨hp.1, by show p.length ≤ 3 * (0 + 1); omega⟩
    · show 1 ≤ k.path.length ∧ k.path.length ≤ 3 * ((if k.id = l.id then [] else S k.id).length + 1)
      rw [if_neg h2]
      exact h.len k h1
  · intro k hk
    rcases mem hk with rfl | ⟨h1, h2⟩
    · show (if l.id = l.id then [] else S l.id).Nodup
      rw [if_pos rfl]
      exact List.nodup_nil
    · show (if k.id = l.id then [] else S k.id).Nodup
      rw [if_neg h2]
      exact h.snd k h1
  · intro k hk x hx
    rcases mem hk with rfl | ⟨h1, h2⟩
    · have hx' : x ∈ if l.id = l.id then [] else S l.id := hx
      rw [if_pos rfl] at hx'
      cases hx'
    · have hx' : x ∈ if k.id = l.id then [] else S k.id := hx
      rw [if_neg h2] at hx'
      refine ⟨(h.gone k h1 x hx').1, fun m hm => ?_⟩
      obtain ⟨m0, hm0, h3, _⟩ := low hm
      rw [h3]
      exact (h.gone k h1 x hx').2 m0 hm0
  · intro k hk m hm hne x hx hx'
    rcases mem hk with rfl | ⟨h1, h2⟩
    · have hx1 : x ∈ if l.id = l.id then [] else S l.id := hx
      rw [if_pos rfl] at hx1
      cases hx1
    · have hx1 : x ∈ if k.id = l.id then [] else S k.id := hx
      rw [if_neg h2] at hx1
      rcases mem hm with rfl | ⟨h3, h4⟩
      · have hx2 : x ∈ if l.id = l.id then [] else S l.id := hx'
        rw [if_pos rfl] at hx2
        cases hx2
      · have hx2 : x ∈ if m.id = l.id then [] else S m.id := hx'
        rw [if_neg h4] at hx2
        exact h.sib k h1 m h3 hne x hx1 hx2
/-! ### what an edit makes of sound lines -/
def Ok (ls : List Line) (U : List Id) : Prop := ∃ r S, OkW ls U r S
theorem OkW.more (h : OkW ls U r S) {U' : List Id} (hu : ∀ x ∈ U, x ∈ U') : OkW ls U' r S :=
  ⟨h.nd, h.hnd, h.fol, fun l hl => ⟨hu _ (h.idU l hl).1, hu _ (h.idU l hl).2⟩, h.up, h.len, h.snd, fun l hl x hx => ⟨hu x (h.gone l hl x hx).1, (h.gone l hl x hx).2⟩, h.sib⟩
theorem Ok.more (h : Ok ls U) {U' : List Id} (hu : ∀ x ∈ U, x ∈ U') : Ok ls U' := let ⟨r, S, h⟩ := h; ⟨r, S, h.more hu⟩
theorem Ok.short (h : Ok ls U) (hU : U.length ≤ 500) : Short ls := let ⟨_, _, h⟩ := h; h.short hU
theorem ok_nil : Ok [] [] := by
  refine ⟨fun _ => 0, fun _ => [], ⟨by simp, by simp, ?_, ?_, ?_, ?_, ?_, ?_, ?_⟩⟩
  all_goals
    intro l hl
    cases hl
def GoodPl (pl : Place) : Prop := (1 ≤ pl.2.1.length ∧ pl.2.1.length ≤ 3) ∧ 1 ≤ pl.2.2.length ∧ pl.2.2.length ≤ 3
theorem settle_fol (ls : List Line) (pl : Place) : Fol ls (settleF ls pl).1 := fun i hi => by
  unfold settleF at hi
  cases hf : findLine ls pl.1 with
  | none => rw [hf] at hi; cases hi
  | some f =>
    rw [hf] at hi
    obtain ⟨h1, h2⟩ := find_mem hf
    by_cases hc : f.ct = none
    · have hi' : pl.1 = some i := by
        have : (if f.ct = none then (pl.1, pl.2.1) else (none, pl.2.2)).1 = some i := hi
        rw [if_pos hc] at this
        exact this
      rw [h2] at hi'
      exact ⟨f, h1, Option.some.inj hi', hc⟩
    · have : (if f.ct = none then (pl.1, pl.2.1) else (none, pl.2.2)).1 = some i := hi
      rw [if_neg hc] at this
      cases this
theorem settle_len (ls : List Line) {pl : Place} (h : GoodPl pl) : 1 ≤ (settleF ls pl).2.length ∧ (settleF ls pl).2.length ≤ 3 := by
  unfold settleF
  cases findLine ls pl.1 with
  | none => exact h.2
  | some f =>
    show 1 ≤ (if f.ct = none then (pl.1, pl.2.1) else (none, pl.2.2)).2.length ∧ (if f.ct = none then (pl.1, pl.2.1) else (none, pl.2.2)).2.length ≤ 3
    split
    · exact h.1
    · exact h.2
theorem Ok.head (h : Ok ls U) (x : Id) : Ok (woHead ls x) U := by
  unfold woHead
  cases hf : findHead ls (some x) with
  | none => exact h
  | some e =>
    obtain ⟨r, S, h⟩ := h
    obtain ⟨S', h'⟩ := h.wo (findH_mem hf).1
    exact ⟨r, S', h'⟩
theorem Ok.heads : ∀ (hs : List Id) {ls : List Line}, Ok ls U → Ok (woHeads ls hs) U
  | [], _, h => h
  | x :: hs, _, h => Ok.heads hs (h.head x)
theorem Ok.new (h : Ok ls U) {id : Id} (hid : id ∉ U) {pl : Place} (hp : GoodPl pl) (ct : Option Ct) (meant : Option Id) : Ok (withNew ls id pl ct meant) (id :: U) := by
  obtain ⟨r, S, h⟩ := h
  unfold withNew whereF
  cases hf : findLine ls meant with
  | none => exact h.add hid (T := []) ct (settle_fol ls pl) (by have := settle_len ls hp; simpa using this) List.nodup_nil (fun x hx => by cases hx) (fun _ _ x _ hx => by cases hx)
  | some m =>
    obtain ⟨h1, _⟩ := find_mem hf
    refine h.add hid (T := S m.id) ct (fun i hi => let ⟨f, a, b, c, _⟩ := h.up m h1 i hi; ⟨f, a, b, c⟩) (h.len m h1) (h.snd m h1) (h.gone m h1) fun k hk x hx1 hx2 => ?_
    by_cases e : k.id = m.id
    · rw [nodup_inj h.nd k hk m h1 e]
    · exact h.sib k hk m h1 e x hx1 hx2
theorem Ok.textIn (h : Ok ls U) {id : Id} (hid : id ∉ U) {pl : Place} (hp : GoodPl pl) (c : Ct) (meant : Option Id) (hs : List Id) : Ok (textIn ls id pl (some c) meant hs) (id :: U) := by
  unfold Ln.textIn
  cases hf : firstRep ls hs with
  | none => exact h.new hid hp _ _
  | some k =>
    obtain ⟨r, S, h⟩ := h
    unfold firstRep at hf
    have h1 := List.mem_of_find?_eq_some hf
    have h2 := List.find?_some hf
    rw [Bool.and_eq_true] at h2
    exact ⟨r, S, h.text h1 (fun e => by rw [e] at h2; cases h2.1) hid c⟩
theorem Ok.mv (h : Ok ls U) {m : Mv} (hm : GoodPl m.2.2) : ∃ ls', MvR ls m ls' ∧ Ok ls' U := by
  obtain ⟨r, S, h⟩ := h
  cases hf : meantBy ls m with
  | none => exact ⟨ls, .no hf, r, S, h⟩
  | some l =>
    have hl : l ∈ ls := by
      unfold meantBy at hf
      cases hh : findHead ls m.1 with
      | none =>
        rw [hh, Option.none_or] at hf
        exact (find_mem hf).1
      | some k =>
        rw [hh, Option.some_or] at hf
        cases hf
        exact (findH_mem hh).1
    have hfo := settle_fol ls m.2.2
    obtain ⟨n, b, hs⟩ := h.sin_any l.id (o := (settleF ls m.2.2).1) fun i hi => let ⟨f, a, b, _⟩ := hfo i hi; ⟨f, a, b⟩
    cases b with
    | true => exact ⟨ls, .ring hf hs, r, S, h⟩
    | false =>
      obtain ⟨r', S', h'⟩ := h.mv hl hfo (settle_len ls hm) hs
      exact ⟨_, .yes hf hs, r', S', h'⟩
theorem Ok.mvs (hU : U.length ≤ 500) : ∀ (ms : List Mv) {ls : List Line}, Ok ls U → (∀ m ∈ ms, GoodPl m.2.2) → ∃ ls', MvsR ls ms ls' ∧ Ok ls' U
  | [], ls, h, _ => ⟨ls, .nil ls, h⟩
  | m :: ms, ls, h, hm => by
    obtain ⟨l1, h1, h2⟩ := h.mv (hm m (List.mem_cons_self ..))
    obtain ⟨l2, h3, h4⟩ := Ok.mvs hU ms h2 fun k hk => hm k (List.mem_cons_of_mem _ hk)
    exact ⟨l2, .cons (h.short hU) h1 h3, h4⟩
def eId : Edit → Id
  | .write id .. => id
  | .drop id _ => id
  | .move id _ => id
def GoodEd : Edit → Prop
  | .write _ pl _ _ hs => GoodPl pl ∧ hs.length ≤ 1000
  | .drop _ _ => True
  | .move _ ms => ∀ m ∈ ms, GoodPl m.2.2
theorem Ok.edit (h : Ok ls U) (hU : U.length ≤ 400) {e : Edit} (hid : eId e ∉ U) (he : GoodEd e) : ∃ ls', AftR ls e ls' ∧ Ok ls' (eId e :: U) := by
  have hm : ∀ x ∈ U, x ∈ eId e :: U := fun x hx => List.mem_cons_of_mem _ hx
  have hU' : (eId e :: U).length ≤ 500 := by rw [List.length_cons]; omega
  cases e with
  | write id pl ct meant hs =>
    cases ct with
    | none => exact ⟨_, .mark id pl meant hs (h.short (by omega)) fun i => (Ok.heads _ (h.new hid he.1 none meant)).short hU', Ok.heads hs (h.new hid he.1 none meant)⟩
    | some c => exact ⟨_, .text id pl c meant hs (h.short (by omega)) he.2 fun i => (Ok.heads _ (h.textIn hid he.1 c meant hs)).short hU', Ok.heads _ (h.textIn hid he.1 c meant hs)⟩
  | drop id hs => exact ⟨_, .drop id hs fun i => (Ok.heads _ h).short (by omega), (Ok.heads hs h).more hm⟩
  | move id ms =>
    obtain ⟨ls', h1, h2⟩ := Ok.mvs (by omega) ms h he
    exact ⟨ls', .move id h1, h2.more hm⟩
/-- edits with new ids -/
theorem Ok.fold : ∀ (es : List Edit) {ls : List Line} {U : List Id}, Ok ls U → U.length + es.length ≤ 400 → (es.map eId).Nodup → (∀ e ∈ es, eId e ∉ U ∧ GoodEd e) → ∃ ls' U', FoldR ls es ls' ∧ Ok ls' U' ∧ U'.length = U.length + es.length ∧ ∀ x ∈ U', x ∈ U ∨ x ∈ es.map eId
  | [], ls, U, h, _, _, _ => ⟨ls, U, .nil ls, h, rfl, fun x hx => .inl hx⟩
  | e :: es, ls, U, h, hU, hn, hg => by
    rw [List.length_cons] at hU
    rw [List.map_cons, List.nodup_cons] at hn
    obtain ⟨l1, h1, h2⟩ := h.edit (by omega) (hg e (List.mem_cons_self ..)).1 (hg e (List.mem_cons_self ..)).2
    obtain ⟨l2, U2, h3, h4, h5, h6⟩ := Ok.fold es h2 (by rw [List.length_cons]; omega) hn.2 fun k hk => ⟨fun hx => by
      rcases List.mem_cons.mp hx with h | h
      · exact hn.1 (List.mem_map.mpr ⟨k, hk, h⟩)
      · exact (hg k (List.mem_cons_of_mem _ hk)).1 h, (hg k (List.mem_cons_of_mem _ hk)).2⟩
    refine ⟨l2, U2, .cons h1 h3, h4, by rw [h5, List.length_cons, List.length_cons]; omega, fun x hx => ?_⟩
    rcases h6 x hx with h | h
    · rcases List.mem_cons.mp h with h | h
      · exact .inr (by rw [List.map_cons, h]; exact List.mem_cons_self ..)
      · exact .inl h
    · exact .inr (by rw [List.map_cons]; exact List.mem_cons_of_mem _ h)
/-! ### where lines stand -/
theorem OkW.std (h : OkW ls U r S) : ∀ (k : Nat) (o : Option Id) (p : List Str), InLs ls o → (∀ i, o = some i → r i < k) → ∃ n q, Std ls n o p (q ++ p)
  | _, none, p, _, _ => ⟨0, [], .root p⟩
  | 0, some i, _, _, hk => absurd (hk i rfl) (Nat.not_lt_zero _)
  | k + 1, some i, p, ho, hk => by
    obtain ⟨f, hf, rfl⟩ := ho i rfl
    obtain ⟨n, q, hs⟩ := OkW.std h k f.ins (f.path ++ p) (h.ins hf) fun j hj => by
      obtain ⟨g, _, rfl, _, hlt⟩ := h.up f hf j hj
      have := hk f.id rfl
      omega
    exact ⟨n + 1, q ++ f.path, by rw [List.append_assoc]; exact .up (h.find hf) hs⟩
theorem OkW.std_any (h : OkW ls U r S) (p : List Str) {o : Option Id} (ho : InLs ls o) : ∃ n q, Std ls n o p (q ++ p) := by
  cases o with
  | none => exact ⟨0, [], .root p⟩
  | some i => exact h.std (r i + 1) (some i) p ho fun j hj => by cases hj; exact Nat.lt_succ_self _
theorem std_one : ∀ {n : Nat} {o : Option Id} {p q : List Str}, Std ls n o p q → ∀ {m : Nat} {q' : List Str}, Std ls m o p q' → q = q' ∧ n = m := by
  intro n o p q h
  induction h with
  | root p =>
    intro m q' k
    cases k
    exact ⟨rfl, rfl⟩
  | up hf hs ih =>
    intro m q' k
    cases k with
    | up hf' hs' =>
      rw [hf] at hf'
      cases hf'
      obtain ⟨h1, h2⟩ := ih hs'
      exact ⟨h1, by rw [h2]⟩
end
end Ln
/-! the edits that the laws of lines draw -/
namespace Ln
open PySem PySem.Spec PyProof.Rows L2 Evl Lw
def namesD : List Str := [Str.ofString "a", Str.ofString "b", Str.ofString "c.txt", Str.ofString "d"]
def pathF (row most : Int) : List Str := (List.range (1 + row / 5 % most).toNat).map fun (j : Nat) => namesD.getD (row / (11 * (j : Int) + 3) % 4).toNat Str.empty
def pickF (row : Int) (is : List Id) : Option Id := if is = [] ∨ row % 3 = 0 then none else if row / 7 % 2 = 0 then is[(row / 3 % (is.length : Int)).toNat]? else is[((is.length : Int) - 1 - row / 3 % min 3 (is.length : Int)).toNat]?
def placeF (row : Int) (is : List Id) : Place := (pickF (row / 2) is, pathF (row / 13) 2, pathF (row / 101) 3)
def headsF (row : Int) (is : List Id) : Nat → List Id
  | 0 => []
  | j + 1 => headsF row is j ++ (pickF (row / (23 * (j : Int) + 5)) is).toList
def headsA (row : Int) (is : List Id) : List Id := headsF row is (row / 17 % 4).toNat
def mvF (row : Int) (is : List Id) (j : Nat) : Mv := (pickF (1 + 3 * (row / (37 * (j : Int) + 2))) is, pickF (1 + 3 * (row / (41 * (j : Int) + 3))) is, placeF (row / (43 * (j : Int) + 7)) is)
def editF (row : Int) (id : Id) (is : List Id) : Edit :=
  if row % 6 = 0 then .write id (placeF (row / 6) is) none none (headsA row is)
  else if row % 6 ≤ 3 ∨ is.length = 0 then .write id (placeF (row / 6) is) (some (row / 19 % 3, row / 19 % 3, row / 19 % 3 + 1, false)) (pickF (row / 29) is) (headsA row is)
  else if row % 6 = 4 then .drop id (headsA (row / 3) is)
  else .move id ((List.range (1 + row / 31 % 2).toNat).map (mvF row is))
def idAt (k : Nat) : Id := ((k : Int) / 2 + 1, (k : Int) % 2)
def idsTo (n : Nat) : List Id := (List.range n).map idAt
def editsF (rs : List Int) (n : Nat) : List Edit := (List.range n).map fun k => editF (rs.getD k 0) (idAt k) (idsTo k)
theorem pathF_len {row most : Int} (h : 1 ≤ most) : 1 ≤ (pathF row most).length ∧ ((pathF row most).length : Int) ≤ most := by
  unfold pathF
  rw [List.length_map, List.length_range]
  have h1 := Int.emod_nonneg (row / 5) (show most ≠ 0 by omega)
  have h2 := Int.emod_lt_of_pos (row / 5) (show 0 < most by omega)
  omega
theorem placeF_good (row : Int) (is : List Id) : GoodPl (placeF row is) := by
  have h1 := pathF_len (row := row / 13) (most := 2) (by decide)
  have h2 := pathF_len (row := row / 101) (most := 3) (by decide)
  show (1 ≤ (pathF (row / 13) 2).length ∧ (pathF (row / 13) 2).length ≤ 3) ∧ 1 ≤ (pathF (row / 101) 3).length ∧ (pathF (row / 101) 3).length ≤ 3
  omega
theorem headsF_len (row : Int) (is : List Id) : ∀ n, (headsF row is n).length ≤ n
  | 0 => Nat.le_refl 0
  | n + 1 => by
    have ih := headsF_len row is n
    have h : (pickF (row / (23 * (n : Int) + 5)) is).toList.length ≤ 1 := by cases pickF (row / (23 * (n : Int) + 5)) is <;> simp
    show (headsF row is n ++ _).length ≤ n + 1
    rw [List.length_append]
    omega
theorem headsA_len (row : Int) (is : List Id) : (headsA row is).length ≤ 3 := by
  have h1 := headsF_len row is (row / 17 % 4).toNat
  have h2 := mod_bd (row / 17) 4 (by decide)
  unfold headsA
  omega
theorem editF_good (row : Int) (id : Id) (is : List Id) : GoodEd (editF row id is) := by
  unfold editF
  split
  · exact ⟨placeF_good _ _, Nat.le_trans (headsA_len _ _) (by decide)⟩
  · split
    · exact ⟨placeF_good _ _, Nat.le_trans (headsA_len _ _) (by decide)⟩
    · split
      · trivial
      · intro m hm
        obtain ⟨j, _, rfl⟩ := List.mem_map.mp hm
        exact placeF_good _ _
theorem editF_id (row : Int) (id : Id) (is : List Id) : eId (editF row id is) = id := by
  unfold editF
  split
  · rfl
  · split
    · rfl
    · split <;> rfl
theorem idAt_inj {j k : Nat} (h : idAt j = idAt k) : j = k := by
  have h1 : (j : Int) / 2 + 1 = (k : Int) / 2 + 1 := congrArg Prod.fst h
  have h2 : (j : Int) % 2 = (k : Int) % 2 := congrArg Prod.snd h
  omega
/-- the drawn edits can be folded -/
theorem drawn_fold (rs : List Int) (n : Nat) (hn : n ≤ 400) : ∃ ls U, FoldR [] (editsF rs n) ls ∧ Ok ls U ∧ U.length = n ∧ ∀ x ∈ U, x ∈ idsTo n := by
  have hmap : (editsF rs n).map eId = idsTo n := by
    unfold editsF idsTo
    rw [List.map_map]
    exact List.map_congr_left fun k _ => editF_id _ _ _
  obtain ⟨ls, U, h1, h2, h3, h4⟩ := Ok.fold (editsF rs n) ok_nil (by unfold editsF; rw [List.length_map, List.length_range]; show 0 + n ≤ 400; omega) (by
    rw [hmap]
    unfold idsTo
    exact List.Pairwise.map _ (fun a b hab e => hab (idAt_inj e)) (List.nodup_range)) (fun e he => ⟨by simp, by
      obtain ⟨k, _, rfl⟩ := List.mem_map.mp he
      exact editF_good _ _ _⟩)
  refine ⟨ls, U, h1, h2, ?_, fun x hx => ?_⟩
  · rw [h3]
    unfold editsF
    rw [List.length_map, List.length_range]
    exact Nat.zero_add n
  · rcases h4 x hx with h | h
    · cases h
    · rw [hmap] at h
      exact h
/-! ### promises -/
/-- a row and a list of ids (the list itself may still change) -/
def SpI (K : PySem.W.Frag) (f : Int → List Id → PyData) : Sp := fun vs H Q _ => ∃ N row p xs is, vs = [.int row, .ref p] ∧ Live N H ∧ SqL K H p xs ∧ DpAll K (cutN N H) xs (is.map dId) ∧ is.length ≤ 1000 ∧ ∀ v H2, Ex H H2 → Dp K (cutN N H2) v (f row is) → Q v H2
theorem ed_callI {K : PySem.W.Frag} {N : Addr → Prop} {σ : L2.St} {H : Hp} {ta tb : TE} {E : XK} {f : Int → List Id → PyData} {row : Int} {p : Addr} {xs : List V} {is : List Id} (h1 : Ev ta σ H (.int row)) (h2 : Ev tb σ H (.ref p)) (hS : SqL K H p xs) (hD : DpAll K (cutN N H) xs (is.map dId)) (hl : is.length ≤ 1000) :
    EvD K N (tCall (SpI K f) [] E (tCons ta (tCons tb tNil))) σ H (f row is) := fun L H1 e Q q =>
  h1 H1 e _ fun H2 e2 => h2 H2 (e.trans e2) _ fun H3 e3 => ⟨N, row, p, xs, is, rfl, L.ex ((e.trans e2).trans e3), ex_l ((e.trans e2).trans e3) hS, DpAll.ex (cutN_ex ((e.trans e2).trans e3)) _ _ hD, hl, fun v H4 e4 hv => q v H4 ((e2.trans e3).trans e4) hv⟩
def sp_law_path (K : PySem.W.Frag) : Sp := fun vs H Q _ => ∃ (row : Int) (most : Nat), vs = [.int row, .int (most : Int)] ∧ 1 ≤ most ∧ most ≤ 100 ∧ RetU ((pathF row most).map V.str) H Q
abbrev sp_law_pick (K : PySem.W.Frag) : Sp := SpI K fun row is => dOp dId (pickF row is)
abbrev sp_law_place (K : PySem.W.Frag) : Sp := SpI K fun row is => dPl (placeF row is)
abbrev sp_law_heads (K : PySem.W.Frag) : Sp := SpI K fun row is => dIds (headsA row is)
theorem ed_ofU {K : PySem.W.Frag} {N : Addr → Prop} {σ : L2.St} {H : Hp} {te : TE} {ss : List Str} (h : EvU te σ H (ss.map V.str)) : EvD K N te σ H (dPath ss) := fun L H1 e Q q =>
  h H1 e _ fun p H2 hp e2 h2 => q _ H2 e2 (.tup (st_of (by rw [cutN_no ((L.ex e).off hp)]; exact h2)) (dp_strs ss))
theorem sp_pa {K : PySem.W.Frag} {H : Hp} {row : Int} {most : Nat} (h1 : 1 ≤ most) (h2 : most ≤ 100) : SpU (sp_law_path K) [.int row, .int (most : Int)] H ((pathF row most).map V.str) := fun H1 e Q q E => ⟨row, most, rfl, h1, h2, fun p H2 hp e2 h => q p H2 hp e2 h⟩
theorem idsTo_len (n : Nat) : (idsTo n).length = n := by unfold idsTo; rw [List.length_map, List.length_range]
theorem idsTo_up (n : Nat) : idsTo (n + 1) = idsTo n ++ [idAt n] := by unfold idsTo; rw [List.range_succ, List.map_append]; rfl
theorem editsF_up (rs : List Int) (n : Nat) : editsF rs (n + 1) = editsF rs n ++ [editF (rs.getD n 0) (idAt n) (idsTo n)] := by unfold editsF; rw [List.range_succ, List.map_append]; rfl
abbrev sp_law_rows := spRows
/-- a row, the edit's id, a list of ids -/
def sp_law_edit (K : PySem.W.Frag) : Sp := fun vs H Q _ => ∃ N row v1 p xs id is, vs = [.int row, v1, .ref p] ∧ Live N H ∧ Dp K (cutN N H) v1 (dId id) ∧ SqL K H p xs ∧ DpAll K (cutN N H) xs (is.map dId) ∧ is.length ≤ 1000 ∧ ∀ v H2, Ex H H2 → Dp K (cutN N H2) v (dEd (editF row id is)) → Q v H2
def sp_law_edits (K : PySem.W.Frag) : Sp := fun vs H Q _ => ∃ (a : Addr) (ns : List Int) (n : Nat), vs = [.ref a, .int (n : Int)] ∧ SqL K H a (ns.map V.int) ∧ ns.length ≤ 63 ∧ n ≤ 200 ∧ ∀ rs : List Int, rs.length = n → ∀ p H2, H p = none → Ex H H2 → Dp K H2 (.ref p) (.list ((editsF rs n).map dEd)) → Q (.ref p) H2
theorem ed_tupGrw {K : PySem.W.Frag} {N : Addr → Prop} {σ : L2.St} {H H' : Hp} {ta : TE} {p : Addr} {es : List PyData} (L : Live N H) (h : Grw K N H p es H') (ho : Ev ta σ H' (.ref p)) : EvD K N (tCB (rTup K) (tCons ta tNil)) σ H' (.tuple es) := fun _ H2 e2 Q q2 => by
  obtain ⟨g1, g2, acc, g3, g4⟩ := h
  refine (eu_tupOf (K := K) ho (sq_of g3)) H2 e2 _ fun pt H3 hpt e3 h3 => q2 _ H3 e3 (.tup (st_of (by rw [cutN_no ((L.ex (g2.trans e2)).off hpt)]; exact h3)) (DpAll.ex (fun c o hc => ?_) _ _ g4))
  by_cases n : plusN N p c
  · rw [cutN_yes n] at hc
    cases hc
  · rw [cutN_no n] at hc
    rw [cutN_no (fun z => n (.inl z))]
    exact e3 c o (e2 c o hc)
theorem cutN_off {N : Addr → Prop} {H : Hp} {p : Addr} {o : HO} (n : N p) : Ex (cutN N H) (cutN N (upd H p o)) := fun a u h => by
  by_cases m : N a
  · rw [cutN_yes m] at h
    cases h
  · rw [cutN_no m] at h ⊢
    rw [upd_ne (fun z => m (by rw [z]; exact n))]
    exact h
theorem s_appM {K : PySem.W.Frag} {M : Addr → Prop} {σ : L2.St} {H : Hp} {ta te : TE} {D : Ends} {l : Addr} {acc : List V} {d : PyData} (L : Live M H) (hM : M l) (hl : H l = some (.lst acc)) (ho : Ev ta σ H (.ref l)) (h : EvD K M te σ H d) (hz : acc.length < 90000)
    (k : ∀ v H1, Ex (cutN M H) (cutN M H1) → (∀ a o, a ≠ l → H a = some o → H1 a = some o) → H1 l = some (.lst (acc ++ [v])) → Dp K (cutN M H1) v d → D.nx σ H1) : tDrop (tBM K "list" rAppend ta (tCons te tNil)) D σ H :=
  ho H (Ex.refl H) _ fun H2 e2 => ⟨.inl ⟨rfl, acc, sq_of (e2 _ _ hl)⟩, h L H2 e2 _ fun v H3 e3 hv => ⟨l, acc, v, rfl, rfl, e3 _ _ (e2 _ _ hl), sz_lt (by omega),
    k v _ ((cutN_ex (e2.trans e3)).trans (cutN_off hM)) (fun a o ha hb => by rw [upd_ne ha]; exact (e2.trans e3) a o hb) upd_same (Dp.ex (cutN_off hM) _ _ hv)⟩⟩
theorem q_appM {K : PySem.W.Frag} {M : Addr → Prop} {σ : L2.St} {H : Hp} {ta te : TE} {D : Ends} {tz : TS} {l : Addr} {acc : List V} {d : PyData} (L : Live M H) (hM : M l) (hl : H l = some (.lst acc)) (ho : Ev ta σ H (.ref l)) (h : EvD K M te σ H d) (hz : acc.length < 90000)
    (k : ∀ v H1, Ex (cutN M H) (cutN M H1) → (∀ a o, a ≠ l → H a = some o → H1 a = some o) → H1 l = some (.lst (acc ++ [v])) → Dp K (cutN M H1) v d → tz D σ H1) : tSeq (tDrop (tBM K "list" rAppend ta (tCons te tNil))) tz D σ H := s_appM (D := { D with nx := tz D }) L hM hl ho h hz k
theorem ed_callE {K : PySem.W.Frag} {N : Addr → Prop} {σ : L2.St} {H : Hp} {ta tb tc : TE} {E : XK} {row : Int} {v1 : V} {id : Id} {p : Addr} {xs : List V} {is : List Id} (h1 : Ev ta σ H (.int row)) (h2 : Ev tb σ H v1) (hv : Dp K (cutN N H) v1 (dId id)) (h3 : Ev tc σ H (.ref p)) (hS : SqL K H p xs) (hD : DpAll K (cutN N H) xs (is.map dId)) (hl : is.length ≤ 1000) :
    EvD K N (tCall (sp_law_edit K) [] E (tCons ta (tCons tb (tCons tc tNil)))) σ H (dEd (editF row id is)) := fun L H1 e Q q =>
  h1 H1 e _ fun H2 e2 => h2 H2 (e.trans e2) _ fun H3 e3 => h3 H3 ((e.trans e2).trans e3) _ fun H4 e4 =>
    have e' := ((e.trans e2).trans e3).trans e4
    ⟨N, row, v1, p, xs, id, is, rfl, L.ex e', up e' hv, ex_l e' hS, DpAll.ex (cutN_ex e') _ _ hD, hl, fun v H5 e5 hv => q v H5 (((e2.trans e3).trans e4).trans e5) hv⟩
end Ln
/-! paths are kept when lines end -/
namespace Ln
open PySem L2 Lw
section
variable {ls : List Line} {U : List Id} {r : Id → Nat} {S : Id → List Id}
theorem flt_more {α : Type} {p q : α → Bool} : ∀ {l : List α}, (∀ x ∈ l, p x = true → q x = true) → ∀ f ∈ l, q f = true → p f = false → (l.filter p).length + 1 ≤ (l.filter q).length
  | [], _, f, hf, _, _ => by cases hf
  | x :: l, h, f, hf, h1, h2 => by
    have hle : ∀ {l : List α}, (∀ x ∈ l, p x = true → q x = true) → (l.filter p).length ≤ (l.filter q).length := by
      intro l
      induction l with
      | nil => intro _; exact Nat.le_refl _
      | cons y l ih =>
        intro h
        have ih := ih fun z hz => h z (List.mem_cons_of_mem _ hz)
        cases hp : p y with
        | true =>
          rw [List.filter_cons_of_pos hp, List.filter_cons_of_pos (h y (List.mem_cons_self ..) hp), List.length_cons, List.length_cons]
          omega
        | false =>
          rw [List.filter_cons_of_neg (by rw [hp]; decide), List.filter_cons]
          split
          · rw [List.length_cons]
            omega
          · exact ih
    rcases List.mem_cons.mp hf with rfl | hf
    · rw [List.filter_cons_of_neg (by rw [h2]; decide), List.filter_cons_of_pos h1, List.length_cons]
      have := hle fun z hz => h z (List.mem_cons_of_mem _ hz)
      omega
    · have ih := flt_more (fun z hz => h z (List.mem_cons_of_mem _ hz)) f hf h1 h2
      cases hp : p x with
      | true =>
        rw [List.filter_cons_of_pos hp, List.filter_cons_of_pos (h x (List.mem_cons_self ..) hp), List.length_cons, List.length_cons]
        omega
      | false =>
        rw [List.filter_cons_of_neg (by rw [hp]; decide), List.filter_cons]
        split
        · rw [List.length_cons]
          omega
        · exact ih
/-- one goes up at most once to each line -/
theorem OkW.high (h : OkW ls U r S) {n : Nat} {o : Option Id} {p q : List Str} (hs : Std ls n o p q) : ∀ k : Nat, (∀ i, o = some i → r i < k) → n ≤ (ls.filter fun l => decide (r l.id < k)).length := by
  induction hs with
  | root p => intro k _; exact Nat.zero_le _
  | @up i f n p q hf hs ih =>
    intro k hk
    obtain ⟨h1, h2⟩ := find_mem hf
    have h3 : i = f.id := Option.some.inj h2
    have hk' := hk i rfl
    rw [h3] at hk'
    have h4 := ih (r f.id) fun j hj => by
      obtain ⟨g, _, rfl, _, hlt⟩ := h.up f h1 j hj
      exact hlt
    have h5 := flt_more (p := fun l : Line => decide (r l.id < r f.id)) (q := fun l : Line => decide (r l.id < k)) (l := ls) (fun x _ hx => by
      have := of_decide_eq_true hx
      exact decide_eq_true (by omega)) f h1 (decide_eq_true hk') (decide_eq_false (by omega))
    omega
theorem OkW.high_len (h : OkW ls U r S) {n : Nat} {o : Option Id} {p q : List Str} (hs : Std ls n o p q) : n ≤ ls.length := by
  have h1 : n ≤ (ls.filter fun l => decide (r l.id < upR r o)).length := h.high hs (upR r o) fun i hi => by
    rw [hi]
    exact Nat.lt_succ_self _
  exact Nat.le_trans h1 (List.length_filter_le _ _)
/-- where one stands when e ends -/
theorem std_wo (h : OkW ls U r S) {e : Line} (he : e ∈ ls) {n : Nat} {o : Option Id} {p q : List Str} (hs : Std ls n o p q) : ∃ m, Std (woLine ls e) m (if o = some e.id then e.ins else o) (if o = some e.id then e.path ++ p else p) q := by
  obtain ⟨S', h'⟩ := h.wo he
  induction hs with
  | root p => exact ⟨0, .root p⟩
  | @up i f n p q hf hs ih =>
    obtain ⟨h1, h2⟩ := find_mem hf
    have h3 : i = f.id := Option.some.inj h2
    subst h3
    obtain ⟨m, ih⟩ := ih
    by_cases hi : f.id = e.id
    · have hfe := nodup_inj h.nd f h1 e he hi
      subst hfe
      rw [if_pos rfl, if_pos rfl]
      rw [if_neg (h.not_self h1), if_neg (h.not_self h1)] at ih
      exact ⟨m, ih⟩
    · rw [if_neg (fun z => hi (Option.some.inj z)), if_neg (fun z => hi (Option.some.inj z))]
      by_cases hfe : f.ins = some e.id
      · rw [if_pos hfe, if_pos hfe] at ih
        have hm : ({ f with ins := e.ins, path := e.path ++ f.path } : Line) ∈ woLine ls e := mem_wo.mpr ⟨f, h1, .inl ⟨hfe, rfl⟩⟩
        exact ⟨m + 1, Std.up (f := ({ f with ins := e.ins, path := e.path ++ f.path } : Line)) (h'.find hm) (by rw [← List.append_assoc] at ih; exact ih)⟩
      · rw [if_neg hfe, if_neg hfe] at ih
        have hm : f ∈ woLine ls e := mem_wo.mpr ⟨f, h1, .inr ⟨hfe, hi, rfl⟩⟩
        exact ⟨m + 1, .up (h'.find hm) ih⟩
/-- the standing paths, by ids -/
def Stands (ls : List Line) (sp : Id → List Str) : Prop := ∀ l ∈ ls, ∃ n, Std ls n l.ins l.path (sp l.id)
theorem OkW.stands (h : OkW ls U r S) : ∃ sp, Stands ls sp := by
  classical
  refine ⟨fun i => if hx : ∃ q n l, l ∈ ls ∧ l.id = i ∧ Std ls n l.ins l.path q then hx.choose else [], fun l hl => ?_⟩
  obtain ⟨n, q, hs⟩ := h.std_any l.path (h.ins hl)
  have hx : ∃ q n m, m ∈ ls ∧ m.id = l.id ∧ Std ls n m.ins m.path q := ⟨_, n, l, hl, rfl, hs⟩
  show ∃ n, Std ls n l.ins l.path (if hx : ∃ q n m, m ∈ ls ∧ m.id = l.id ∧ Std ls n m.ins m.path q then hx.choose else [])
  rw [dif_pos hx]
  obtain ⟨k, m, hm, hi, hk⟩ := hx.choose_spec
  rw [nodup_inj h.nd m hm l hl hi] at hk
  exact ⟨k, hk⟩
theorem Stands.wo (h : OkW ls U r S) {e : Line} (he : e ∈ ls) {sp : Id → List Str} (hs : Stands ls sp) : Stands (woLine ls e) sp := fun k hk => by
  obtain ⟨l, hl, ⟨h1, rfl⟩ | ⟨h1, h2, rfl⟩⟩ := mem_wo.mp hk
  · obtain ⟨n, hn⟩ := hs l hl
    obtain ⟨m, hm⟩ := std_wo h he hn
    rw [if_pos h1, if_pos h1] at hm
    exact ⟨m, hm⟩
  · obtain ⟨n, hn⟩ := hs k hl
    obtain ⟨m, hm⟩ := std_wo h he hn
    rw [if_neg h1, if_neg h1] at hm
    exact ⟨m, hm⟩
/-- what a drop of heads leaves: the lines without these heads, each with what f asks of it -/
theorem heads_map {β : Type} (f : Line → β) (hf : ∀ (l : Line) (o : Option Id) (p : List Str), f { l with ins := o, path := p } = f l) {sp : Id → List Str} : ∀ (hs : List Id) {ls : List Line}, Ok ls U → Stands ls sp →
    (woHeads ls hs).map f = (ls.filter fun l => !decide (l.hd ∈ hs)).map f ∧ Stands (woHeads ls hs) sp
  | [], ls, _, hS => ⟨by
    show ls.map f = _
    rw [List.filter_eq_self.mpr fun l _ => by simp], hS⟩
  | x :: hs, ls, hO, hS => by
    obtain ⟨r, S, h⟩ := id hO
    show (woHeads (woHead ls x) hs).map f = _ ∧ Stands (woHeads (woHead ls x) hs) sp
    unfold woHead
    cases hx : findHead ls (some x) with
    | none =>
      obtain ⟨i1, i2⟩ := heads_map f hf hs hO hS
      refine ⟨i1.trans (congrArg (List.map f) (List.filter_congr fun l hl => ?_)), i2⟩
      have hne : l.hd ≠ x := fun e => by
        unfold findHead at hx
        have := List.find?_eq_none.mp hx l hl
        rw [e] at this
        simp at this
      simp [hne]
    | some e =>
      obtain ⟨he, h2⟩ := findH_mem hx
      have h3 : x = e.hd := Option.some.inj h2
      obtain ⟨S', h'⟩ := h.wo he
      obtain ⟨i1, i2⟩ := heads_map f hf hs ⟨r, S', h'⟩ (hS.wo h he)
      refine ⟨i1.trans ?_, i2⟩
      have hns : ∀ l ∈ ls, l.ins = some e.id → l.id ≠ e.id := fun l hl h1 h2 => by
        rw [nodup_inj h.nd l hl e he h2] at h1
        exact h.not_self he h1
      -- the heads of what is left are old heads
      have key := wo_map (ls := ls) (fun l => (f l, l.hd)) e (fun l o p => by rw [hf]) hns
      have g : ∀ m : List Line, (m.filter fun l => !decide (l.hd ∈ hs)).map f = ((m.map fun l => (f l, l.hd)).filter fun b => !decide (b.2 ∈ hs)).map Prod.fst := fun m => by
        rw [List.filter_map, List.map_map]
        rfl
      rw [g, key, ← g, List.filter_filter]
      refine congrArg (List.map f) (List.filter_congr fun l hl => ?_)
      have e1 : decide (l.id = e.id) = decide (l.hd = x) := decide_eq_decide.mpr ⟨fun z => by rw [nodup_inj h.nd l hl e he z, h3], fun z => by rw [nodup_inj h.hnd l hl e he (z.trans h3)]⟩
      rw [e1]
      by_cases z : l.hd = x
      · simp [z]
      · simp [z]
theorem std_short (h : OkW ls U r S) (hU : U.length ≤ 200) {n : Nat} {o : Option Id} {p q : List Str} (hs : Std ls n o p q) : q.length ≤ n * 1000 + p.length := by
  induction hs with
  | root p => omega
  | up hf hs ih =>
    rw [List.length_append] at ih
    have h1 := nodup_sub (h.snd _ (find_mem hf).1) fun x hx => (h.gone _ (find_mem hf).1 x hx).1
    have h2 := (h.len _ (find_mem hf).1).2
    omega
end
def pPathOf : List PyData → PyData → Prop := fun ds d => ∃ ls l n q, ds = [dLs ls, dLn l] ∧ Std ls n l.ins l.path q ∧ n ≤ ls.length ∧ ls.length ≤ 1000 ∧ q.length ≤ 90000 ∧ d = dPath q
def dRow (sp : Id → List Str) (l : Line) : PyData := .tuple [dId l.id, dId l.hd, dOp dCt l.ct, dPath (sp l.id)]
def pPaths : List PyData → PyData → Prop := fun ds d => ∃ ls sp, ds = [dLs ls] ∧ Stands ls sp ∧ ls.length ≤ 1000 ∧ (∀ l ∈ ls, (sp l.id).length ≤ 90000) ∧ d = .list (ls.map (dRow sp))
abbrev sp_law_path_of (K : PySem.W.Frag) : Sp := SpD K pPathOf
abbrev sp_law_paths (K : PySem.W.Frag) : Sp := SpD K pPaths
end Ln
namespace Ln
open PySem PySem.Spec PyProof.Rows L2 Evl Lw
theorem pl_idsT (is : List Id) : (dIds is).plain = true := by
  unfold dIds
  rw [PyData.plain]
  exact pl_ids is
theorem dp_idsT (is : List Id) : (dIds is).depth ≤ 60 := by
  have := dp_all (n := 1) dp_id is
  show PyData.depthAll (is.map dId) + 1 ≤ 60
  omega
theorem eqv_idsN (is : List Id) : PyData.eqv (dIds is) (.tuple []) = decide (is = []) := by
  cases is with
  | nil =>
    unfold dIds
    rw [PyData.eqv]
    rfl
  | cons a is =>
    unfold dIds
    rw [PyData.eqv, List.map_cons, PyData.eqvAll]
    simp
end Ln
namespace K12
open PySem PySem.Spec PyProof.Rows L2 Evl Lw Ln
def top (i : Nat) : Stmt := PySem.Challenge.pw_foldkeep_k12_what_ends_leaves_paths.main.body.getD i (.Pass ⟨0, 0, 0, 0⟩)
abbrev s_find_line : Stmt := top 1
abbrev s_find_head : Stmt := top 2
abbrev s_stands : Stmt := top 3
abbrev s_settle : Stmt := top 4
abbrev s_stands_in : Stmt := top 5
abbrev s_move_line : Stmt := top 6
abbrev s_without_line : Stmt := top 7
abbrev s_without_heads : Stmt := top 8
abbrev s_with_new_line : Stmt := top 9
abbrev s_first_replaced : Stmt := top 10
abbrev s_after_text : Stmt := top 11
abbrev s_after_move : Stmt := top 12
abbrev s_lines_after : Stmt := top 13
abbrev s_fold_lines : Stmt := top 14
abbrev s_lines_of : Stmt := top 15
abbrev s_law_rows : Stmt := top 17
abbrev s_law_path : Stmt := top 18
abbrev s_law_pick : Stmt := top 19
abbrev s_law_place : Stmt := top 20
abbrev s_law_heads : Stmt := top 21
abbrev s_law_edit : Stmt := top 22
abbrev s_law_edits : Stmt := top 23
abbrev s_law_path_of : Stmt := top 24
abbrev s_law_paths : Stmt := top 25
abbrev s_law : Stmt := top 26
theorem sc_find_line : FnScope ["lines", "line_id", "line"] ["lines", "line_id"] (defScope s_find_line) := ⟨rfl, rfl, rfl, by decide +kernel, rfl, by decide +kernel, by decide +kernel⟩
theorem sc_find_head : FnScope ["lines", "head", "line"] ["lines", "head"] (defScope s_find_head) := ⟨rfl, rfl, rfl, by decide +kernel, rfl, by decide +kernel, by decide +kernel⟩
theorem sc_stands : FnScope ["lines", "line", "_", "inside", "path", "below"] ["lines", "line"] (defScope s_stands) := ⟨rfl, rfl, rfl, by decide +kernel, rfl, by decide +kernel, by decide +kernel⟩
theorem sc_settle : FnScope ["lines", "place", "inside", "below", "seen", "folder"] ["lines", "place"] (defScope s_settle) := ⟨rfl, rfl, rfl, by decide +kernel, rfl, by decide +kernel, by decide +kernel⟩
theorem sc_stands_in : FnScope ["lines", "inside", "line_id"] ["lines", "inside", "line_id"] (defScope s_stands_in) := ⟨rfl, rfl, rfl, by decide +kernel, rfl, by decide +kernel, by decide +kernel⟩
theorem sc_move_line : FnScope ["lines", "head", "line_id", "place", "line", "inside", "below", "moved", "known"] ["lines", "head", "line_id", "place"] (defScope s_move_line) := ⟨rfl, rfl, rfl, by decide +kernel, rfl, by decide +kernel, by decide +kernel⟩
theorem sc_without_line : FnScope ["lines", "ended", "left", "known", "line_id", "head", "inside", "below", "content"] ["lines", "ended"] (defScope s_without_line) := ⟨rfl, rfl, rfl, by decide +kernel, rfl, by decide +kernel, by decide +kernel⟩
theorem sc_without_heads : FnScope ["lines", "heads", "head", "ended"] ["lines", "heads"] (defScope s_without_heads) := ⟨rfl, rfl, rfl, by decide +kernel, rfl, by decide +kernel, by decide +kernel⟩
theorem sc_with_new_line : FnScope ["lines", "edit", "_", "edit_id", "place", "content", "meant_id", "meant", "inside", "below"] ["lines", "edit"] (defScope s_with_new_line) := ⟨rfl, rfl, rfl, by decide +kernel, rfl, by decide +kernel, by decide +kernel⟩
theorem sc_first_replaced : FnScope ["lines", "replaces", "line"] ["lines", "replaces"] (defScope s_first_replaced) := ⟨rfl, rfl, rfl, by decide +kernel, rfl, by decide +kernel, by decide +kernel⟩
theorem sc_after_text : FnScope ["lines", "edit", "_", "edit_id", "content", "replaces", "continued", "line_id", "inside", "below", "row", "known", "head"] ["lines", "edit"] (defScope s_after_text) := ⟨rfl, rfl, rfl, by decide +kernel, rfl, by decide +kernel, by decide +kernel⟩
theorem sc_after_move : FnScope ["lines", "edit", "head", "line_id", "place"] ["lines", "edit"] (defScope s_after_move) := ⟨rfl, rfl, rfl, by decide +kernel, rfl, by decide +kernel, by decide +kernel⟩
theorem sc_lines_after : FnScope ["lines", "edit"] ["lines", "edit"] (defScope s_lines_after) := ⟨rfl, rfl, rfl, by decide +kernel, rfl, by decide +kernel, by decide +kernel⟩
theorem sc_fold_lines : FnScope ["lines", "edits", "edit"] ["lines", "edits"] (defScope s_fold_lines) := ⟨rfl, rfl, rfl, by decide +kernel, rfl, by decide +kernel, by decide +kernel⟩
theorem sc_lines_of : FnScope ["edits"] ["edits"] (defScope s_lines_of) := ⟨rfl, rfl, rfl, by decide +kernel, rfl, by decide +kernel, by decide +kernel⟩
theorem sc_law_rows : FnScope ["script", "count", "rows", "mixed", "k", "cell"] ["script", "count"] (defScope s_law_rows) := ⟨rfl, rfl, rfl, by decide +kernel, rfl, by decide +kernel, by decide +kernel⟩
theorem sc_law_path : FnScope ["row", "most", "names", "j"] ["row", "most"] (defScope s_law_path) := ⟨rfl, rfl, rfl, by decide +kernel, rfl, by decide +kernel, by decide +kernel⟩
theorem sc_law_pick : FnScope ["row", "ids"] ["row", "ids"] (defScope s_law_pick) := ⟨rfl, rfl, rfl, by decide +kernel, rfl, by decide +kernel, by decide +kernel⟩
theorem sc_law_place : FnScope ["row", "ids"] ["row", "ids"] (defScope s_law_place) := ⟨rfl, rfl, rfl, by decide +kernel, rfl, by decide +kernel, by decide +kernel⟩
theorem sc_law_heads : FnScope ["row", "ids", "heads", "j", "head"] ["row", "ids"] (defScope s_law_heads) := ⟨rfl, rfl, rfl, by decide +kernel, rfl, by decide +kernel, by decide +kernel⟩
theorem sc_law_edit : FnScope ["row", "edit_id", "ids", "place", "kind", "size", "moved", "j", "head", "line"] ["row", "edit_id", "ids"] (defScope s_law_edit) := ⟨rfl, rfl, rfl, by decide +kernel, rfl, by decide +kernel, by decide +kernel⟩
theorem sc_law_edits : FnScope ["script", "count", "rows", "edits", "ids", "k", "edit_id"] ["script", "count"] (defScope s_law_edits) := ⟨rfl, rfl, rfl, by decide +kernel, rfl, by decide +kernel, by decide +kernel⟩
theorem sc_law_path_of : FnScope ["lines", "line", "path", "inside", "_law_turn", "other"] ["lines", "line"] (defScope s_law_path_of) := ⟨rfl, rfl, rfl, by decide +kernel, rfl, by decide +kernel, by decide +kernel⟩
theorem sc_law_paths : FnScope ["lines", "line"] ["lines"] (defScope s_law_paths) := ⟨rfl, rfl, rfl, by decide +kernel, rfl, by decide +kernel, by decide +kernel⟩
theorem sc_law : FnScope ["script", "edits", "lines", "line", "rows", "heads", "folders", "dropped", "after", "row"] ["script"] (defScope s_law) := ⟨rfl, rfl, rfl, by decide +kernel, rfl, by decide +kernel, by decide +kernel⟩
/-- the names of the top that are asked for -/
structure Txt (K : PySem.W.Frag) (mg : Str → Option Value) : Prop where
  n_all : mg "all" = none
  n_int : mg "int" = none
  n_len : mg "len" = none
  n_list : mg "list" = none
  n_min : mg "min" = none
  n_range : mg "range" = none
  n_tuple : mg "tuple" = none
theorem cut0 {H : Hp} : Ex H (cutN (fun _ => False) H) := fun a o h => by rw [cutN_no (fun z => z)]; exact h
theorem live0 {H : Hp} : Live (fun _ => False) H := fun _ h => h.elim
theorem ed_callIL {K : PySem.W.Frag} {N : Addr → Prop} {σ : L2.St} {H : Hp} {ta tb : TE} {E : XK} {f : Int → List Ln.Id → PyData} {row : Int} {is : List Ln.Id} (h1 : Ev ta σ H (.int row)) (h2 : EvD K N tb σ H (.list (is.map dId))) (hl : is.length ≤ 1000) : EvD K N (tCall (SpI K f) [] E (tCons ta (tCons tb tNil))) σ H (f row is) := fun L H1 e Q q =>
  h1 H1 e _ fun H2 e2 => h2 L H2 (e.trans e2) _ fun v H3 e3 hv => by
    cases hv with
    | lst hs ha => exact ⟨N, row, _, _, is, rfl, L.ex ((e.trans e2).trans e3), ex_l cutN_sub hs, ha, hl, fun v H4 e4 hv => q v H4 ((e2.trans e3).trans e4) hv⟩
theorem ed_tupOf {K : PySem.W.Frag} {N : Addr → Prop} {σ : L2.St} {H : Hp} {ta : TE} {ds : List PyData} (h : EvD K N ta σ H (.list ds)) : EvD K N (tCB (rTup K) (tCons ta tNil)) σ H (.tuple ds) := fun L H1 e Q q =>
  h L H1 e _ fun v H2 e2 hv => by
    cases hv with
    | lst hs ha => exact ⟨_, _, rfl, .inl ⟨ex_l cutN_sub hs, fun l hl => q _ _ (e2.trans (Ex.new hl)) (.tup (st_of (by rw [cutN_no ((L.ex (e.trans e2)).off hl), upd_same])) (DpAll.ex (cutN_ex (Ex.new hl)) _ _ ha))⟩⟩
theorem dp_bools {K : PySem.W.Frag} {H : Hp} : ∀ {bs : List Bool} {vs : List V}, DpAll K H vs (bs.map PyData.bool) → vs = bs.map V.bl
  | [], _, h => by cases h; rfl
  | b :: bs, _, h => by
    cases h with
    | cons h1 h2 =>
      cases h1
      rw [dp_bools h2]
      rfl
theorem ev_allD {K : PySem.W.Frag} {N : Addr → Prop} {σ : L2.St} {H : Hp} {ta : TE} {bs : List Bool} (L : Live N H) (h : EvD K N ta σ H (.list (bs.map PyData.bool))) : Ev (tCB (rAll K) (tCons ta tNil)) σ H (.bl (bs.all id)) := fun H1 e Q q =>
  h L H1 e _ fun v H2 e2 hv => by
    cases hv with
    | lst hs ha =>
      rw [dp_bools ha] at hs
      exact ⟨_, bs, rfl, ex_l cutN_sub hs, q H2 e2⟩
theorem pl_row (sp : Ln.Id → List Str) (l : Line) : (dRow sp l).plain = true := by
  show PyData.plainAll [dId l.id, dId l.hd, dOp dCt l.ct, dPath (sp l.id)] = true
  simp [PyData.plainAll, pl_id, pl_oct, pl_path]
theorem dp_row (sp : Ln.Id → List Str) (l : Line) : (dRow sp l).depth ≤ 2 := by
  have h1 := dp_id l.id
  have h2 := dp_id l.hd
  have h3 := dp_oct l.ct
  have h4 := dp_path (sp l.id)
  show max (dId l.id).depth (max (dId l.hd).depth (max (dOp dCt l.ct).depth (max (dPath (sp l.id)).depth 0))) + 1 ≤ 2
  omega
section
variable {P : Program} {w : World} {K : PySem.W.Frag} {mg : Str → Option Value} {base : Heap}
/-! ### find_line -/
theorem ok_find_line (D : Df K mg "find_line" s_find_line ["lines", "line_id"]) (T : Txt K mg)  : C8.Cal P w K mg base 1 "find_line" (sp_find_line K) [] := by
  refine D.cal sc_find_line (fun vs H Q E h => ?_) (fun f cdv A outer s H vs Q E hr h => ?_)
  · obtain ⟨N, ds, d, L, ha, ⟨ls, o, rfl, _⟩, _⟩ := h
    exact ha.len
  · obtain ⟨N, ds, d, L, ha, ⟨ls, o, rfl, rfl⟩, q⟩ := h
    obtain ⟨v0, v1, rfl, h0, h1⟩ := args2 ha
    refine ⟨_,
        (pss_cons (ps_if (pt_cmpR op_isN (pv 1) pe_non (nomark _))
          (pss_one (ps_ret pe_non))
          pss_nil)
        (pss_cons (ps_for PassesOwn.never rfl (pi_list (pv 0)) (pg_name (i := 2) sc_find_line.nd rfl (.inl rfl))
          (pss_one (ps_if (pt_cmpR (op_eqP hr.units) (pe_ix ix_tup (pv 2) pe_int (fun _ _ => rfl)) (pv 1) (nomark _))
            (pss_one (ps_ret (pv 2)))
            pss_nil)))
        (pss_one (ps_ret pe_non)))), ?_⟩
    refine q_when (b := o.isNone) (et_is (et_test (ev_isN L (ed_var rfl h1))) (isN_oid o)) (fun hb H1 e1 => ?_) (fun hb H1 e1 => ?_)
    · refine s_retD (K := K) (L.ex e1) ed_non fun w H2 e2 hw => q w H2 (e1.trans e2) ?_
      have ho := Option.isNone_iff_eq_none.mp hb
      have hf : findLine ls o = none := by
        rw [ho]
        unfold findLine
        rw [List.find?_eq_none]
        intro x _
        simp
      rw [hf]
      exact hw
    have h0 := up e1 h0
    have h1 := up e1 h1
    have L := L.ex e1
    have q := fun w H3 (e : Ex H1 H3) hw => q w H3 (e1.trans e) hw
    refine q_forDL L (ed_var rfl h0) (fun H1 i σ' H' => ∃ x, σ' = [some v0, some v1, x] ∧ Ex H1 H' ∧ ((ls.take i).find? fun l => decide (some l.id = o)) = none) (fun H1 e1 => ⟨none, rfl, Ex.refl H1, rfl⟩) (fun H1 i σ' H' _ h => let ⟨_, _, h, _⟩ := h; cutN_ex h) ?_ ?_
    · rintro H1 i v d σ' H' e1 hd hv ⟨x, rfl, e2, hno⟩
      obtain ⟨l, hl, rfl⟩ := ls_at hd
      have e12 := e1.trans e2
      have L' := L.ex e12
      refine s_when (et_test (ev_is (ev_eqD L' (ed_ix (n := 0) (ed_var rfl hv) rfl) (ed_var rfl (up e12 h1)) (pl_id _) (pl_oid _) (Nat.le_trans (dp_id _) (by decide))) (congrArg V.bl (eqv_ido l.id o)))) (fun hb H2 e3 => ?_) (fun hb H2 e3 => ?_)
      · refine s_retD (K := K) (L'.ex e3) (ed_var rfl (up e3 hv)) fun w H3 e4 hw => q w H3 ((e12.trans e3).trans e4) ?_
        have hf : findLine ls o = some l := find_hit hno hl hb
        rw [hf]
        exact hw
      · exact ⟨_, rfl, e2.trans e3, find_miss hno hl hb⟩
    · rintro H1 σ' H' e1 ⟨x, rfl, e2, hno⟩
      rw [List.length_map, List.take_of_length_le (Nat.le_refl _)] at hno
      refine s_retD (K := K) (L.ex (e1.trans e2)) ed_non fun w H3 e3 hw => q w H3 ((e1.trans e2).trans e3) ?_
      have hf : findLine ls o = none := hno
      rw [hf]
      exact hw

/-! ### find_head -/
theorem ok_find_head (D : Df K mg "find_head" s_find_head ["lines", "head"]) (T : Txt K mg)  : C8.Cal P w K mg base 1 "find_head" (sp_find_head K) [] := by
  refine D.cal sc_find_head (fun vs H Q E h => ?_) (fun f cdv A outer s H vs Q E hr h => ?_)
  · obtain ⟨N, ds, d, L, ha, ⟨ls, o, rfl, _⟩, _⟩ := h
    exact ha.len
  · obtain ⟨N, ds, d, L, ha, ⟨ls, o, rfl, rfl⟩, q⟩ := h
    obtain ⟨v0, v1, rfl, h0, h1⟩ := args2 ha
    refine ⟨_,
        (pss_cons (ps_for PassesOwn.never rfl (pi_list (pv 0)) (pg_name (i := 2) sc_find_head.nd rfl (.inl rfl))
          (pss_one (ps_if (pt_cmpR (op_eqP hr.units) (pe_ix ix_tup (pv 2) pe_int (fun _ _ => rfl)) (pv 1) (nomark _))
            (pss_one (ps_ret (pv 2)))
            pss_nil)))
        (pss_one (ps_ret pe_non))), ?_⟩
    refine q_forDL L (ed_var rfl h0) (fun H1 i σ' H' => ∃ x, σ' = [some v0, some v1, x] ∧ Ex H1 H' ∧ ((ls.take i).find? fun l => decide (some l.hd = o)) = none) (fun H1 e1 => ⟨none, rfl, Ex.refl H1, rfl⟩) (fun H1 i σ' H' _ h => let ⟨_, _, h, _⟩ := h; cutN_ex h) ?_ ?_
    · rintro H1 i v d σ' H' e1 hd hv ⟨x, rfl, e2, hno⟩
      obtain ⟨l, hl, rfl⟩ := ls_at hd
      have e12 := e1.trans e2
      have L' := L.ex e12
      refine s_when (et_test (ev_is (ev_eqD L' (ed_ix (n := 1) (ed_var rfl hv) rfl) (ed_var rfl (up e12 h1)) (pl_id _) (pl_oid _) (Nat.le_trans (dp_id _) (by decide))) (congrArg V.bl (eqv_ido l.hd o)))) (fun hb H2 e3 => ?_) (fun hb H2 e3 => ?_)
      · refine s_retD (K := K) (L'.ex e3) (ed_var rfl (up e3 hv)) fun w H3 e4 hw => q w H3 ((e12.trans e3).trans e4) ?_
        have hf : findHead ls o = some l := find_hit hno hl hb
        rw [hf]
        exact hw
      · exact ⟨_, rfl, e2.trans e3, find_miss hno hl hb⟩
    · rintro H1 σ' H' e1 ⟨x, rfl, e2, hno⟩
      rw [List.length_map, List.take_of_length_le (Nat.le_refl _)] at hno
      refine s_retD (K := K) (L.ex (e1.trans e2)) ed_non fun w H3 e3 hw => q w H3 ((e1.trans e2).trans e3) ?_
      have hf : findHead ls o = none := hno
      rw [hf]
      exact hw

/-! ### stands -/
theorem ok_stands (D : Df K mg "stands" s_stands ["lines", "line"]) (T : Txt K mg) (G_find_line : C8.Cal P w K mg base 1 "find_line" (sp_find_line K) []) : C8.Cal P w K mg base 2 "stands" (sp_stands K) [] := by
  refine D.cal sc_stands (fun vs H Q E h => ?_) (fun f cdv A outer s H vs Q E hr h => ?_)
  · obtain ⟨N, ds, d, L, ha, ⟨ls, l, n, r, rfl, _⟩, _⟩ := h
    exact ha.len
  · obtain ⟨N, ds, d, L, ha, ⟨ls, l, n, r, rfl, hst, hrl, rfl⟩, q⟩ := h
    obtain ⟨v0, v1, rfl, h0, h1⟩ := args2 ha
    refine ⟨_,
        (pss_cons (ps_asg (pv 1) (pg_tup rfl (pgs_cons (pg_name (i := 2) sc_stands.nd rfl (.inl rfl)) (pgs_cons (pg_name (i := 2) sc_stands.nd rfl (.inl rfl)) (pgs_cons (pg_name (i := 3) sc_stands.nd rfl (.inl rfl)) (pgs_cons (pg_name (i := 4) sc_stands.nd rfl (.inl rfl)) (pgs_cons (pg_name (i := 2) sc_stands.nd rfl (.inl rfl)) pgs_nil)))))))
        (pss_cons (ps_while PassesOwn.never (pt_cmpR op_notN (pv 3) pe_non (nomark _))
          (pss_cons (ps_asg (C8.pe_c G_find_line hr (by decide) (by rfl) (pa_cons (pv 0) (pa_cons (pv 3) pa_nil))) (pg_tup rfl (pgs_cons (pg_name (i := 2) sc_stands.nd rfl (.inl rfl)) (pgs_cons (pg_name (i := 2) sc_stands.nd rfl (.inl rfl)) (pgs_cons (pg_name (i := 3) sc_stands.nd rfl (.inl rfl)) (pgs_cons (pg_name (i := 5) sc_stands.nd rfl (.inl rfl)) (pgs_cons (pg_name (i := 2) sc_stands.nd rfl (.inl rfl)) pgs_nil)))))))
          (pss_one (ps_set (i := 4) sc_stands.nd rfl (.inl rfl) (pe_op op_catA (pv 5) (pv 4))))))
        (pss_one (ps_ret (pv 4))))), ?_⟩
    refine q_unp L (ed_var rfl h1) fun v H1 e1 hv => g_unp5 hv fun x0 x1 xi xp x4 hx0 hx1 hxi hxp hx4 => ?_
    refine q_while (fun m σ' H' => ∃ a b vi vp o p, σ' = [some v0, some v1, a, some vi, some vp, b] ∧ Ex H H' ∧ Dp K (cutN N H') vi (dOp dId o) ∧ Dp K (cutN N H') vp (dPath p) ∧ Std ls m o p r) n ⟨_, _, xi, xp, l.ins, l.path, rfl, e1, hxi, hxp, hst⟩ ?_
    rintro m σ' H' ⟨a, b, vi, vp, o, p, rfl, eH, hvi, hvp, hs⟩
    have L' := L.ex eH
    refine ⟨!o.isNone, et_test (ev_is (ev_noN L' (ed_var rfl hvi)) (by rw [isN_oid])), fun hb H2 e2 => ?_, fun hb H2 e2 => ?_⟩
    · cases hs with
      | root p => cases hb
      | @up i f m p r hf hs =>
        have hlen := hs.len
        rw [List.length_append] at hlen
        refine ⟨fun σ2 H3 => ∃ a b vi vp o p, σ2 = [some v0, some v1, a, some vi, some vp, b] ∧ Ex H H3 ∧ Dp K (cutN N H3) vi (dOp dId o) ∧ Dp K (cutN N H3) vp (dPath p) ∧ Std ls m o p r, fun σ2 H3 h => ⟨m, Nat.lt_succ_self m, h⟩, ?_⟩
        have L2' := L'.ex e2
        refine q_unp L2' ((ed_call (eda_cons (ed_var rfl (up (eH.trans e2) h0)) (eda_cons (ed_var rfl (up e2 hvi)) eda_nil)) ⟨ls, some i, rfl, rfl⟩).is (by rw [hf]; rfl)) fun v H3 e3 hv => g_unp5 hv fun y0 y1 yi yp y4 hy0 hy1 hyi hyp hy4 => ?_
        refine s_asgD (L2'.ex e3) (ed_cat (ds := f.path.map PyData.str) (es := p.map PyData.str) (ed_var rfl hyp) (ed_var rfl (up (e2.trans e3) hvp)) (by rw [List.length_map, List.length_map]; omega)) fun w H4 e4 hw => ?_
        exact ⟨_, _, yi, w, f.ins, f.path ++ p, rfl, (eH.trans e2).trans (e3.trans e4), up e4 hyi, by unfold dPath; rw [List.map_append]; exact hw, hs⟩
    · cases hs with
      | root p =>
        exact s_retD (K := K) (L'.ex e2) (ed_var rfl (up e2 hvp)) fun w H3 e3 hw => q w H3 ((eH.trans e2).trans e3) hw
      | up hf hs => cases hb

/-! ### settle -/
theorem ok_settle (D : Df K mg "settle" s_settle ["lines", "place"]) (T : Txt K mg) (G_find_line : C8.Cal P w K mg base 1 "find_line" (sp_find_line K) []) : C8.Cal P w K mg base 2 "settle" (sp_settle K) [] := by
  refine D.cal sc_settle (fun vs H Q E h => ?_) (fun f cdv A outer s H vs Q E hr h => ?_)
  · obtain ⟨N, ds, d, L, ha, ⟨ls, pl, rfl, _⟩, _⟩ := h
    exact ha.len
  · obtain ⟨N, ds, d, L, ha, ⟨ls, pl, rfl, rfl⟩, q⟩ := h
    obtain ⟨v0, v1, rfl, h0, h1⟩ := args2 ha
    refine ⟨_,
        (pss_cons (ps_asg (pv 1) (pg_tup rfl (pgs_cons (pg_name (i := 2) sc_settle.nd rfl (.inl rfl)) (pgs_cons (pg_name (i := 3) sc_settle.nd rfl (.inl rfl)) (pgs_cons (pg_name (i := 4) sc_settle.nd rfl (.inl rfl)) pgs_nil)))))
        (pss_cons (ps_set (i := 5) sc_settle.nd rfl (.inl rfl) (C8.pe_c G_find_line hr (by decide) (by rfl) (pa_cons (pv 0) (pa_cons (pv 2) pa_nil))))
        (pss_cons (ps_if (PW.pt (pw_or (pt_cmpR op_isN (pv 5) pe_non (nomark _)) (pw_or1 (pt_cmpR op_notN (pe_ix ix_tup (pv 5) pe_int (fun _ _ => rfl)) pe_non (nomark _)))))
          (pss_one (ps_ret (pe_tup (pa_cons pe_non (pa_cons (pv 4) pa_nil)))))
          pss_nil)
        (pss_one (ps_ret (pe_tup (pa_cons (pv 2) (pa_cons (pv 3) pa_nil)))))))), ?_⟩
    refine q_unp L (ed_var rfl h1) fun v H1 e1 hv => g_unp3 hv fun xi xb xs hxi hxb hxs => ?_
    refine q_asgD (L.ex e1) (ed_call (eda_cons (ed_var rfl (up e1 h0)) (eda_cons (ed_var rfl hxi) eda_nil)) ⟨ls, pl.1, rfl, rfl⟩) fun vf H2 e2 hvf => ?_
    have L2' := (L.ex e1).ex e2
    have e12 := e1.trans e2
    cases hf : findLine ls pl.1 with
    | none =>
      rw [hf] at hvf
      refine q_when (b := true) (et_or (a := true) (b := true) (et_test (ev_isN L2' (ed_var rfl hvf))) (fun h => by cases h)) (fun hb H3 e3 => ?_) (fun hb => by cases hb)
      refine s_retD (K := K) (L2'.ex e3) (ed_tup (eda_cons ed_non (eda_cons (ed_var rfl (up (e2.trans e3) hxs)) eda_nil)) (by show 2 ≤ 100000; decide)) fun w H4 e4 hw => q w H4 ((e12.trans e3).trans e4) ?_
      unfold settleF
      rw [hf]
      exact hw
    | some f =>
      rw [hf] at hvf
      refine q_when (b := !f.ct.isNone) (et_is (et_or (a := false) (et_test (ev_isN L2' (ed_var rfl hvf))) (fun _ => et_test (ev_noN L2' (ed_ix (n := 4) (ed_var rfl hvf) rfl)))) (by rw [isN_oct]; rfl)) (fun hb H3 e3 => ?_) (fun hb H3 e3 => ?_)
      · refine s_retD (K := K) (L2'.ex e3) (ed_tup (eda_cons ed_non (eda_cons (ed_var rfl (up (e2.trans e3) hxs)) eda_nil)) (by show 2 ≤ 100000; decide)) fun w H4 e4 hw => q w H4 ((e12.trans e3).trans e4) ?_
        have hs : settleF ls pl = (none, pl.2.2) := by
          unfold settleF
          rw [hf]
          refine if_neg fun h => ?_
          rw [h] at hb
          cases hb
        rw [hs]
        exact hw
      · refine s_retD (K := K) (L2'.ex e3) (ed_tup (eda_cons (ed_var rfl (up (e2.trans e3) hxi)) (eda_cons (ed_var rfl (up (e2.trans e3) hxb)) eda_nil)) (by show 2 ≤ 100000; decide)) fun w H4 e4 hw => q w H4 ((e12.trans e3).trans e4) ?_
        have hs : settleF ls pl = (pl.1, pl.2.1) := by
          unfold settleF
          rw [hf]
          refine if_pos ?_
          cases h : f.ct with
          | none => rfl
          | some c => rw [h] at hb; cases hb
        rw [hs]
        exact hw

/-! ### stands_in -/
theorem ok_stands_in (D : Df K mg "stands_in" s_stands_in ["lines", "inside", "line_id"]) (T : Txt K mg) (G_find_line : C8.Cal P w K mg base 1 "find_line" (sp_find_line K) []) : C8.Cal P w K mg base 2 "stands_in" (sp_stands_in K) [] := by
  refine D.cal sc_stands_in (fun vs H Q E h => ?_) (fun f cdv A outer s H vs Q E hr h => ?_)
  · obtain ⟨N, ds, d, L, ha, ⟨ls, o, x, n, b, rfl, _⟩, _⟩ := h
    exact ha.len
  · obtain ⟨N, ds, d, L, ha, ⟨ls, o, x, n, b, rfl, hsi, rfl⟩, q⟩ := h
    obtain ⟨v0, v1, v2, rfl, h0, h1, h2⟩ := args3 ha
    refine ⟨_,
        (pss_cons (ps_while PassesOwn.never (pt_cmpR op_notN (pv 1) pe_non (nomark _))
          (pss_cons (ps_if (pt_cmpR (op_eqP hr.units) (pv 1) (pv 2) (nomark _))
            (pss_one (ps_ret pe_bl))
            pss_nil)
          (pss_one (ps_set (i := 1) sc_stands_in.nd rfl (.inl rfl) (pe_ix ix_tup (C8.pe_c G_find_line hr (by decide) (by rfl) (pa_cons (pv 0) (pa_cons (pv 1) pa_nil))) pe_int (fun _ _ => rfl))))))
        (pss_one (ps_ret pe_bl))), ?_⟩
    refine q_while (fun m σ' H' => ∃ vi o, σ' = [some v0, some vi, some v2] ∧ Ex H H' ∧ Dp K (cutN N H') vi (dOp dId o) ∧ SIn ls x m o b) n ⟨v1, o, rfl, Ex.refl H, h1, hsi⟩ ?_
    rintro m σ' H' ⟨vi, o', rfl, eH, hvi, hs⟩
    have L' := L.ex eH
    refine ⟨!o'.isNone, et_test (ev_is (ev_noN L' (ed_var rfl hvi)) (by rw [isN_oid])), fun hb H2 e2 => ?_, fun hb H2 e2 => ?_⟩
    · have L2' := L'.ex e2
      cases hs with
      | root => cases hb
      | hit =>
        refine ⟨fun _ _ => False, fun _ _ h => h.elim, ?_⟩
        refine q_when (b := true) (et_is (et_test (ev_eqD L2' (ed_var rfl (up e2 hvi)) (ed_var rfl (up (eH.trans e2) h2)) (pl_oid _) (pl_id _) (Nat.le_trans (dp_oid _) (by decide)))) (by rw [eqv_oi]; exact decide_eq_true rfl)) (fun _ H3 e3 => ?_) (fun h => by cases h)
        exact s_retD (K := K) (L2'.ex e3) ed_bl fun w H4 e4 hw => q w H4 ((eH.trans e2).trans (e3.trans e4)) hw
      | @up i f m b hne hf hs =>
        refine ⟨fun σ2 H3 => ∃ vi o, σ2 = [some v0, some vi, some v2] ∧ Ex H H3 ∧ Dp K (cutN N H3) vi (dOp dId o) ∧ SIn ls x m o b, fun σ2 H3 h => ⟨m, Nat.lt_succ_self m, h⟩, ?_⟩
        refine q_when (b := false) (et_is (et_test (ev_eqD L2' (ed_var rfl (up e2 hvi)) (ed_var rfl (up (eH.trans e2) h2)) (pl_oid _) (pl_id _) (Nat.le_trans (dp_oid _) (by decide)))) (by rw [eqv_oi]; exact decide_eq_false fun h => hne (Option.some.inj h))) (fun h => by cases h) (fun _ H3 e3 => ?_)
        refine s_asgD (L2'.ex e3) (ed_ix (n := 2) ((ed_call (eda_cons (ed_var rfl (up ((eH.trans e2).trans e3) h0)) (eda_cons (ed_var rfl (up (e2.trans e3) hvi)) eda_nil)) ⟨ls, some i, rfl, rfl⟩).is (by rw [hf]; rfl)) rfl) fun w H4 e4 hw => ?_
        exact ⟨w, f.ins, rfl, (eH.trans e2).trans (e3.trans e4), hw, hs⟩
    · cases hs with
      | root => exact s_retD (K := K) (L'.ex e2) ed_bl fun w H3 e3 hw => q w H3 ((eH.trans e2).trans e3) hw
      | hit => cases hb
      | up => cases hb

/-! ### move_line -/
theorem ok_move_line (D : Df K mg "move_line" s_move_line ["lines", "head", "line_id", "place"]) (T : Txt K mg) (G_find_line : C8.Cal P w K mg base 1 "find_line" (sp_find_line K) []) (G_find_head : C8.Cal P w K mg base 1 "find_head" (sp_find_head K) []) (G_settle : C8.Cal P w K mg base 2 "settle" (sp_settle K) []) (G_stands_in : C8.Cal P w K mg base 2 "stands_in" (sp_stands_in K) []) : C8.Cal P w K mg base 3 "move_line" (sp_move_line K) [] := by
  refine D.cal sc_move_line (fun vs H Q E h => ?_) (fun f cdv A outer s H vs Q E hr h => ?_)
  · obtain ⟨N, ds, d, L, ha, ⟨ls, m, ls', rfl, _⟩, _⟩ := h
    exact ha.len
  · obtain ⟨N, ds, d, L, ha, ⟨ls, m, ls', rfl, hsh, hmv, rfl⟩, q⟩ := h
    obtain ⟨v0, v1, v2, v3, rfl, h0, h1, h2, h3⟩ := args4 ha
    refine ⟨_,
        (pss_cons (ps_set (i := 4) sc_move_line.nd rfl (.inr rfl) (C8.pe_c G_find_head hr (by decide) (by rfl) (pa_cons (pv 0) (pa_cons (pv 1) pa_nil))))
        (pss_cons (ps_if (pt_cmpR op_isN (pv 4) pe_non (nomark _))
          (pss_one (ps_set (i := 4) sc_move_line.nd rfl (.inr rfl) (C8.pe_c G_find_line hr (by decide) (by rfl) (pa_cons (pv 0) (pa_cons (pv 2) pa_nil)))))
          pss_nil)
        (pss_cons (ps_if (pt_cmpR op_isN (pv 4) pe_non (nomark _))
          (pss_one (ps_ret (pe_callTy call_list_of (by rfl) T.n_list (by decide +kernel) (pa_cons (pv 0) pa_nil))))
          pss_nil)
        (pss_cons (ps_asg (C8.pe_c G_settle hr (by decide) (by rfl) (pa_cons (pv 0) (pa_cons (pv 3) pa_nil))) (pg_tup rfl (pgs_cons (pg_name (i := 5) sc_move_line.nd rfl (.inl rfl)) (pgs_cons (pg_name (i := 6) sc_move_line.nd rfl (.inl rfl)) pgs_nil))))
        (pss_cons (ps_if (pt_val (C8.pe_c G_stands_in hr (by decide) (by rfl) (pa_cons (pv 0) (pa_cons (pv 5) (pa_cons (pe_ix ix_tup (pv 4) pe_int (fun _ _ => rfl)) pa_nil)))))
          (pss_one (ps_ret (pe_callTy call_list_of (by rfl) T.n_list (by decide +kernel) (pa_cons (pv 0) pa_nil))))
          pss_nil)
        (pss_cons (ps_set (i := 7) sc_move_line.nd rfl (.inr rfl) (pe_tup (pa_cons (pe_ix ix_tup (pv 4) pe_int (fun _ _ => rfl)) (pa_cons (pe_ix ix_tup (pv 4) pe_int (fun _ _ => rfl)) (pa_cons (pv 5) (pa_cons (pv 6) (pa_cons (pe_ix ix_tup (pv 4) pe_int (fun _ _ => rfl)) pa_nil)))))))
        (pss_one (ps_ret (pe_lc (own := [("known", 8)]) (g := gName 8) (tt := tYes) rfl sc_move_line.nd (pi_list (pv 0)) (blkOk_by (own := [("known", 8)]) (N := ["lines", "head", "line_id", "place", "line", "inside", "below", "moved", "known"]) (sc := defScope s_move_line) (by decide +kernel)) (fun _ _ _ _ _ => (pg_name (i := 8) sc_move_line.nd rfl (Or.inl rfl))) (fun _ _ _ _ _ => pts_nil) (fun _ _ _ _ _ => (pe_ifExp (pt_cmpR (show OpR _ _ (rEqP K) from op_eqP hr.units) (pe_ix (show IxR _ (rIxT K) from ix_tup) (pv 8) pe_int (fun _ _ => rfl)) (pe_ix (show IxR _ (rIxT K) from ix_tup) (pv 4) pe_int (fun _ _ => rfl)) (nomark _)) (pv 7) (pv 8)))))))))))), ?_⟩
    refine q_asgD L (ed_call (eda_cons (ed_var rfl h0) (eda_cons (ed_var rfl h1) eda_nil)) ⟨ls, m.1, rfl, rfl⟩) fun vh H1 e1 hvh => ?_
    have L1 := L.ex e1
    refine q_ifAsgD (K := K) (v0 := vh) (d := dOp dLn (meantBy ls m)) L1 (et_test (ev_isN L1 (ed_var rfl hvh))) (fun hb => ?_) (fun hb => ⟨rfl, ?_⟩) fun vl H2 e2 hvl => ?_
    · rw [isN_oln] at hb
      have hh : findHead ls m.1 = none := Option.isNone_iff_eq_none.mp hb
      refine (ed_call (eda_cons (ed_var rfl (up e1 h0)) (eda_cons (ed_var rfl (up e1 h2)) eda_nil)) ⟨ls, m.2.1, rfl, rfl⟩).is ?_
      unfold meantBy
      rw [hh, Option.none_or]
    · rw [isN_oln] at hb
      have hm : meantBy ls m = findHead ls m.1 := by
        unfold meantBy
        cases h : findHead ls m.1 with
        | none => rw [h] at hb; cases hb
        | some l => rfl
      rw [hm]
      exact hvh
    have e02 := e1.trans e2
    have L2' := L.ex e02
    rcases mv_cases hmv with ⟨hme, rfl⟩ | ⟨l, n, b, hme, hsi, rfl⟩
    · rw [hme] at hvl
      refine q_when (b := true) (et_is (et_test (ev_isN L2' (ed_var rfl hvl))) rfl) (fun _ H3 e3 => ?_) (fun hb => by cases hb)
      exact s_retD (K := K) (L2'.ex e3) (ed_listOf (ed_var rfl (up (e02.trans e3) h0))) fun w H4 e4 hw => q w H4 ((e02.trans e3).trans e4) hw
    · rw [hme] at hvl
      refine q_when (b := false) (et_is (et_test (ev_isN L2' (ed_var rfl hvl))) rfl) (fun hb => by cases hb) (fun _ H3 e3 => ?_)
      have e03 := e02.trans e3
      have L3 := L.ex e03
      refine q_unp L3 (d := dTwo (settleF ls m.2.2)) (ed_call (eda_cons (ed_var rfl (up e03 h0)) (eda_cons (ed_var rfl (up e03 h3)) eda_nil)) ⟨ls, m.2.2, rfl, rfl⟩) fun vt H4 e4 hvt => g_unp2 hvt fun xi xb hxi hxb => ?_
      have e04 := e03.trans e4
      have L4 := L.ex e04
      have hl4 := up (e3.trans e4) hvl
      refine q_when (b := b) (et_B (ev_ofB L4 (ed_call (eda_cons (ed_var rfl (up e04 h0)) (eda_cons (ed_var rfl hxi) (eda_cons (ed_ix (n := 0) (ed_var rfl hl4) rfl) eda_nil))) ⟨ls, (settleF ls m.2.2).1, l.id, n, b, rfl, hsi, rfl⟩))) (fun hb H5 e5 => ?_) (fun hb H5 e5 => ?_)
      · refine s_retD (K := K) (L4.ex e5) (ed_listOf (ed_var rfl (up (e04.trans e5) h0))) fun w H6 e6 hw => q w H6 ((e04.trans e5).trans e6) ?_
        rw [if_pos hb]
        exact hw
      · have e05 := e04.trans e5
        have L5 := L.ex e05
        refine q_asgD L5 (d := dLn ⟨l.id, l.hd, (settleF ls m.2.2).1, (settleF ls m.2.2).2, l.ct⟩) (ed_tup (eda_cons (ed_ix (n := 0) (ed_var rfl (up e5 hl4)) rfl) (eda_cons (ed_ix (n := 1) (ed_var rfl (up e5 hl4)) rfl) (eda_cons (ed_var rfl (up e5 hxi)) (eda_cons (ed_var rfl (up e5 hxb)) (eda_cons (ed_ix (n := 4) (ed_var rfl (up e5 hl4)) rfl) eda_nil))))) (by show 5 ≤ 100000; decide)) fun vm H6 e6 hvm => ?_
        have e06 := e05.trans e6
        refine s_retD (K := K) (L.ex e06) (ed_lcL (as := ls) dLn (fun _ => true) (fun k => dLn (if k.id = l.id then ⟨l.id, l.hd, (settleF ls m.2.2).1, (settleF ls m.2.2).2, l.ct⟩ else k)) (ed_var rfl (up e06 h0)) (Nat.le_trans hsh.1 (by decide)) (fun _ => rfl) (fun _ _ _ _ _ _ _ _ _ => et_yes) (fun v k M H7 hk e7 hsub LM hv _ => ?_)) fun w H7 e7 hw => q w H7 (e06.trans e7) ?_
        · refine ed_if (b := decide (k.id = l.id)) (et_is (et_test (ev_eqD LM (ed_ix (n := 0) (ed_var rfl hv) rfl) (ed_ix (n := 0) (ed_var rfl (Dp.ex hsub _ _ (up (e5.trans e6) hl4))) rfl) (pl_id _) (pl_id _) (Nat.le_trans (dp_id _) (by decide)))) (eqv_id _ _)) (fun hb => ?_) (fun hb => ?_)
          · rw [if_pos (of_decide_eq_true hb)]
            exact ed_var rfl (Dp.ex hsub _ _ hvm)
          · rw [if_neg (of_decide_eq_false hb)]
            exact ed_var rfl hv
        · rw [if_neg (by rw [hb]; decide)]
          rw [flt_all] at hw
          unfold mvTo dLs
          rw [List.map_map]
          exact hw

/-! ### without_line -/
theorem ok_without_line (D : Df K mg "without_line" s_without_line ["lines", "ended"]) (T : Txt K mg)  : C8.Cal P w K mg base 1 "without_line" (sp_without_line K) [] := by
  refine D.cal sc_without_line (fun vs H Q E h => ?_) (fun f cdv A outer s H vs Q E hr h => ?_)
  · obtain ⟨N, ds, d, L, ha, ⟨ls, e, rfl, _⟩, _⟩ := h
    exact ha.len
  · obtain ⟨N, ds, d, L, ha, ⟨ls, e, rfl, hsh, hep, rfl⟩, q⟩ := h
    obtain ⟨v0, v1, rfl, h0, h1⟩ := args2 ha
    refine ⟨_,
        (pss_cons (ps_set (i := 2) sc_without_line.nd rfl (.inl rfl) (pe_lst pa_nil))
        (pss_cons (ps_for PassesOwn.never rfl (pi_list (pv 0)) (pg_name (i := 3) sc_without_line.nd rfl (.inl rfl))
          (pss_cons (ps_asg (pv 3) (pg_tup rfl (pgs_cons (pg_name (i := 4) sc_without_line.nd rfl (.inl rfl)) (pgs_cons (pg_name (i := 5) sc_without_line.nd rfl (.inl rfl)) (pgs_cons (pg_name (i := 6) sc_without_line.nd rfl (.inl rfl)) (pgs_cons (pg_name (i := 7) sc_without_line.nd rfl (.inl rfl)) (pgs_cons (pg_name (i := 8) sc_without_line.nd rfl (.inl rfl)) pgs_nil)))))))
          (pss_one (ps_if (pt_cmpR (op_eqP hr.units) (pv 6) (pe_ix ix_tup (pv 1) pe_int (fun _ _ => rfl)) (nomark _))
            (pss_one (ps_expr (pe_bm PySem.F.plainAttrs_list PySem.F.slot_list_append PySem.F.type_list_append mt_append (pv 2) (pa_cons (pe_tup (pa_cons (pv 4) (pa_cons (pv 5) (pa_cons (pe_ix ix_tup (pv 1) pe_int (fun _ _ => rfl)) (pa_cons (pe_op op_catA (pe_ix ix_tup (pv 1) pe_int (fun _ _ => rfl)) (pv 7)) (pa_cons (pv 8) pa_nil)))))) pa_nil))))
            (pss_one (ps_if (pt_cmpR (op_neP hr.units) (pv 4) (pe_ix ix_tup (pv 1) pe_int (fun _ _ => rfl)) (nomark _))
              (pss_one (ps_expr (pe_bm PySem.F.plainAttrs_list PySem.F.slot_list_append PySem.F.type_list_append mt_append (pv 2) (pa_cons (pv 3) pa_nil))))
              pss_nil))))))
        (pss_one (ps_ret (pv 2))))), ?_⟩
    refine q_asgL (xs := []) (el_lst ea_nil (by show 0 ≤ 100000; decide)) fun p H1 hp e1 hp1 => ?_
    have g0 : Grw K N H p [] H1 := Grw.nil hp e1 hp1
    have L1 := g0.live L
    have a0 := Dp.ex g0.sub _ _ h0
    have a1 := Dp.ex g0.sub _ _ h1
    refine q_forDL (N := plusN N p) L1 (ed_var rfl a0) (fun H2 i σ' H' => ∃ b1 b2 b3 b4 b5 b6, σ' = [some v0, some v1, some (.ref p), b1, b2, b3, b4, b5, b6] ∧ Ex (cutN (plusN N p) H2) (cutN (plusN N p) H') ∧ Grw K N H p ((woLine (ls.take i) e).map dLn) H') (fun H2 e2 => ⟨none, none, none, none, none, none, rfl, Ex.refl _, g0.ex e2⟩) (fun H2 i σ' H' _ h => let ⟨_, _, _, _, _, _, _, h, _⟩ := h; h) ?_ ?_
    · rintro H2 i v d σ' H' e2 hd hv ⟨b1, b2, b3, b4, b5, b6, rfl, e3, hg⟩
      obtain ⟨k, hk, rfl⟩ := ls_at hd
      have hkp := hsh.2 k (List.mem_of_getElem? hk)
      have hil := len_lt hk
      have hwl : (woLine (ls.take i) e).length ≤ 1000 := by
        have h1 := woLine_len (ls.take i) e
        have h2 := hsh.1
        rw [List.length_take] at h1
        omega
      have a1' := Dp.ex ((cutN_ex e2).trans e3) _ _ a1
      have L' := hg.live L
      refine q_unp L' (ed_var rfl hv) fun v' H3 e4 hv' => g_unp5 hv' fun x0 x1 xi xp x4 hx0 hx1 hxi hxp hx4 => ?_
      have L3 := L'.ex e4
      refine s_if (b := decide (k.ins = some e.id)) (et_is (et_test (ev_eqD L3 (ed_var rfl hxi) (ed_ix (n := 0) (ed_var rfl (up e4 a1')) rfl) (pl_oid _) (pl_id _) (Nat.le_trans (dp_oid _) (by decide)))) (eqv_oi k.ins e.id)) (fun hb H4 e5 => ?_) (fun hb H4 e5 => ?_)
      · have hb' := of_decide_eq_true hb
        refine s_appD L (hg.ex (e4.trans e5)) (ev_var rfl) (d := dLn { k with ins := e.ins, path := e.path ++ k.path }) (EvD.is (ed_tup (eda_cons (ed_var rfl (up e5 hx0)) (eda_cons (ed_var rfl (up e5 hx1)) (eda_cons (ed_ix (n := 2) (ed_var rfl (up (e4.trans e5) a1')) rfl) (eda_cons (ed_cat (ds := e.path.map PyData.str) (es := k.path.map PyData.str) (ed_ix (n := 3) (ed_var rfl (up (e4.trans e5) a1')) rfl) (ed_var rfl (up e5 hxp)) (by rw [List.length_map, List.length_map]; omega)) (eda_cons (ed_var rfl (up e5 hx4)) eda_nil))))) (by show 5 ≤ 100000; decide)) (by unfold dLn dPath; rw [List.map_append])) (by rw [List.length_map]; omega) fun H5 e6 e7 hg5 => ?_
        refine ⟨_, _, _, _, _, _, rfl, (e3.trans (cutN_ex (e4.trans e5))).trans e7, ?_⟩
        rw [woLine_up hk, if_pos hb', List.map_append]
        exact hg5
      · have hb' := of_decide_eq_false hb
        refine s_when (b := !decide (k.id = e.id)) (et_is (et_test (ev_neD (L3.ex e5) (ed_var rfl (up e5 hx0)) (ed_ix (n := 0) (ed_var rfl (up (e4.trans e5) a1')) rfl) (pl_id _) (pl_id _) (Nat.le_trans (dp_id _) (by decide)))) (by rw [eqv_id])) (fun hb2 H5 e6 => ?_) (fun hb2 H5 e6 => ?_)
        · have hne : k.id ≠ e.id := fun h => by rw [decide_eq_true h] at hb2; cases hb2
          refine s_appD L (hg.ex ((e4.trans e5).trans e6)) (ev_var rfl) (ed_var rfl (up ((e4.trans e5).trans e6) hv)) (by rw [List.length_map]; omega) fun H6 e7 e8 hg6 => ?_
          refine ⟨_, _, _, _, _, _, rfl, (e3.trans (cutN_ex ((e4.trans e5).trans e6))).trans e8, ?_⟩
          rw [woLine_up hk, if_neg hb', if_pos hne, List.map_append]
          exact hg6
        · have heq : k.id = e.id := Classical.byContradiction fun h => by rw [decide_eq_false h] at hb2; cases hb2
          refine ⟨_, _, _, _, _, _, rfl, e3.trans (cutN_ex ((e4.trans e5).trans e6)), ?_⟩
          rw [woLine_up hk, if_neg hb', if_neg (fun h => h heq), List.append_nil]
          exact hg.ex ((e4.trans e5).trans e6)
    · rintro H2 σ' H' e2 ⟨b1, b2, b3, b4, b5, b6, rfl, e3, hg⟩
      rw [List.length_map, List.take_of_length_le (Nat.le_refl _)] at hg
      exact s_retD (L.ex hg.2.1) (ed_v (ev_var rfl) (hg.dp L)) fun w H3 e4 hw => q w H3 (hg.2.1.trans e4) hw

/-! ### without_heads -/
theorem ok_without_heads (D : Df K mg "without_heads" s_without_heads ["lines", "heads"]) (T : Txt K mg) (G_find_head : C8.Cal P w K mg base 1 "find_head" (sp_find_head K) []) (G_without_line : C8.Cal P w K mg base 1 "without_line" (sp_without_line K) []) : C8.Cal P w K mg base 2 "without_heads" (sp_without_heads K) [] := by
  refine D.cal sc_without_heads (fun vs H Q E h => ?_) (fun f cdv A outer s H vs Q E hr h => ?_)
  · obtain ⟨N, ds, d, L, ha, ⟨ls, hs, d1, rfl, _⟩, _⟩ := h
    exact ha.len
  · obtain ⟨N, ds, d, L, ha, ⟨ls, hs, d1, rfl, hd1, hsh, rfl⟩, q⟩ := h
    obtain ⟨v0, v1, rfl, h0, h1⟩ := args2 ha
    refine ⟨_,
        (pss_cons (ps_for PassesOwn.never rfl (pi_eit (pv 1)) (pg_name (i := 2) sc_without_heads.nd rfl (.inl rfl))
          (pss_cons (ps_set (i := 3) sc_without_heads.nd rfl (.inl rfl) (C8.pe_c G_find_head hr (by decide) (by rfl) (pa_cons (pv 0) (pa_cons (pv 2) pa_nil))))
          (pss_one (ps_if (pt_cmpR op_notN (pv 3) pe_non (nomark _))
            (pss_one (ps_set (i := 0) sc_without_heads.nd rfl (.inl rfl) (C8.pe_c G_without_line hr (by decide) (by rfl) (pa_cons (pv 0) (pa_cons (pv 3) pa_nil)))))
            pss_nil))))
        (pss_one (ps_ret (pv 0)))), ?_⟩
    refine q_forDE L (ed_var rfl h1) hd1 (fun H1 i σ' H' => ∃ v a b, σ' = [some v, some v1, a, b] ∧ Ex H1 H' ∧ Dp K (cutN N H') v (dLs (woHeads ls (hs.take i)))) (fun H1 e1 => ⟨v0, none, none, rfl, Ex.refl H1, up e1 h0⟩) (fun H1 i σ' H' _ h => let ⟨_, _, _, _, h, _⟩ := h; cutN_ex h) ?_ ?_
    · rintro H1 i v d σ' H' e1 hd hv ⟨vl, a, b, rfl, e2, hvl⟩
      obtain ⟨h, hh, rfl⟩ := ids_at hd
      have L' := L.ex (e1.trans e2)
      refine q_asgD L' (ed_call (eda_cons (ed_var rfl hvl) (eda_cons (ed_var rfl hv) eda_nil)) ⟨woHeads ls (hs.take i), some h, rfl, rfl⟩) fun ve H2 e3 hve => ?_
      have L2' := L'.ex e3
      cases hf : findHead (woHeads ls (hs.take i)) (some h) with
      | none =>
        rw [hf] at hve
        refine s_when (b := false) (et_is (et_test (ev_noN L2' (ed_var rfl hve))) rfl) (fun hb => by cases hb) (fun _ H3 e4 => ⟨vl, _, _, rfl, (e2.trans e3).trans e4, ?_⟩)
        rw [woHeads_up hh]
        unfold woHead
        rw [hf]
        exact up (e3.trans e4) hvl
      | some e =>
        rw [hf] at hve
        have hem : e ∈ woHeads ls (hs.take i) := List.mem_of_find?_eq_some hf
        refine s_when (b := true) (et_is (et_test (ev_noN L2' (ed_var rfl hve))) rfl) (fun _ H3 e4 => ?_) (fun hb => by cases hb)
        refine s_asgD (L2'.ex e4) (ed_call (eda_cons (ed_var rfl (up (e3.trans e4) hvl)) (eda_cons (ed_var rfl (up e4 hve)) eda_nil)) ⟨woHeads ls (hs.take i), e, rfl, hsh i, (hsh i).2 e hem, rfl⟩) fun w H4 e5 hw => ⟨w, _, _, rfl, ((e2.trans e3).trans e4).trans e5, ?_⟩
        rw [woHeads_up hh]
        unfold woHead
        rw [hf]
        exact hw
    · rintro H1 σ' H' e1 ⟨vl, a, b, rfl, e2, hvl⟩
      rw [List.length_map, List.take_of_length_le (Nat.le_refl _)] at hvl
      exact s_retD (L.ex (e1.trans e2)) (ed_var rfl hvl) fun w H3 e3 hw => q w H3 ((e1.trans e2).trans e3) hw

/-! ### with_new_line -/
theorem ok_with_new_line (D : Df K mg "with_new_line" s_with_new_line ["lines", "edit"]) (T : Txt K mg) (G_find_line : C8.Cal P w K mg base 1 "find_line" (sp_find_line K) []) (G_settle : C8.Cal P w K mg base 2 "settle" (sp_settle K) []) : C8.Cal P w K mg base 3 "with_new_line" (sp_with_new_line K) [] := by
  refine D.cal sc_with_new_line (fun vs H Q E h => ?_) (fun f cdv A outer s H vs Q E hr h => ?_)
  · obtain ⟨N, ds, d, L, ha, ⟨ls, id, pl, ct, meant, hs, rfl, _⟩, _⟩ := h
    exact ha.len
  · obtain ⟨N, ds, d, L, ha, ⟨ls, id, pl, ct, meant, hs, rfl, hsh, rfl⟩, q⟩ := h
    obtain ⟨v0, v1, rfl, h0, h1⟩ := args2 ha
    refine ⟨_,
        (pss_cons (ps_asg (pv 1) (pg_tup rfl (pgs_cons (pg_name (i := 2) sc_with_new_line.nd rfl (.inl rfl)) (pgs_cons (pg_name (i := 3) sc_with_new_line.nd rfl (.inl rfl)) (pgs_cons (pg_name (i := 4) sc_with_new_line.nd rfl (.inl rfl)) (pgs_cons (pg_name (i := 5) sc_with_new_line.nd rfl (.inl rfl)) (pgs_cons (pg_name (i := 6) sc_with_new_line.nd rfl (.inl rfl)) (pgs_cons (pg_name (i := 2) sc_with_new_line.nd rfl (.inl rfl)) pgs_nil))))))))
        (pss_cons (ps_set (i := 7) sc_with_new_line.nd rfl (.inl rfl) (C8.pe_c G_find_line hr (by decide) (by rfl) (pa_cons (pv 0) (pa_cons (pv 6) pa_nil))))
        (pss_cut (ps_if (pt_cmpR op_isN (pv 7) pe_non (nomark _))
          (pss_one (ps_asg (C8.pe_c G_settle hr (by decide) (by rfl) (pa_cons (pv 0) (pa_cons (pv 4) pa_nil))) (pg_tup rfl (pgs_cons (pg_name (i := 8) sc_with_new_line.nd rfl (.inl rfl)) (pgs_cons (pg_name (i := 9) sc_with_new_line.nd rfl (.inl rfl)) pgs_nil)))))
          (pss_one (ps_asg (pv 7) (pg_tup rfl (pgs_cons (pg_name (i := 2) sc_with_new_line.nd rfl (.inl rfl)) (pgs_cons (pg_name (i := 2) sc_with_new_line.nd rfl (.inl rfl)) (pgs_cons (pg_name (i := 8) sc_with_new_line.nd rfl (.inl rfl)) (pgs_cons (pg_name (i := 9) sc_with_new_line.nd rfl (.inl rfl)) (pgs_cons (pg_name (i := 2) sc_with_new_line.nd rfl (.inl rfl)) pgs_nil)))))))))
        (pss_one (ps_ret (pe_lst (StX.pa_star (pv 0) (pa_cons (pe_tup (pa_cons (pv 3) (pa_cons (pv 3) (pa_cons (pv 8) (pa_cons (pv 9) (pa_cons (pv 5) pa_nil)))))) pa_nil)))))))), ?_⟩
    refine q_unp L (ed_var rfl h1) fun v H1 e1 hv => g_unp6 hv fun x0 xid xpl xct xme x5 hx0 hxid hxpl hxct hxme hx5 => ?_
    refine q_asgD (L.ex e1) (ed_call (eda_cons (ed_var rfl (up e1 h0)) (eda_cons (ed_var rfl hxme) eda_nil)) ⟨ls, meant, rfl, rfl⟩) fun vm H2 e2 hvm => ?_
    have e02 := e1.trans e2
    have L2' := L.ex e02
    refine q_cut (M := fun σ' H' => ∃ a b c, σ' = [some v0, some v1, a, some xid, some xpl, some xct, some xme, some vm, some b, some c] ∧ Ex H2 H' ∧ Dp K (cutN N H') b (dOp dId (whereF ls pl meant).1) ∧ Dp K (cutN N H') c (dPath (whereF ls pl meant).2)) ?_ ?_
    · cases hf : findLine ls meant with
      | none =>
        rw [hf] at hvm
        have hw : whereF ls pl meant = settleF ls pl := by unfold whereF; rw [hf]
        rw [hw]
        refine s_if (b := true) (et_is (et_test (ev_isN L2' (ed_var rfl hvm))) rfl) (fun _ H3 e3 => ?_) (fun hb => by cases hb)
        refine (ed_call (K := K) (N := N) (d := dTwo (settleF ls pl)) (eda_cons (ed_var rfl (up (e02.trans e3) h0)) (eda_cons (ed_var rfl (up (e2.trans e3) hxpl)) eda_nil)) ⟨ls, pl, rfl, rfl⟩) (L2'.ex e3) H3 (Ex.refl H3) _ fun vt H4 e4 hvt => g_unp2 hvt fun xi xb hxi hxb => ?_
        exact ⟨_, xi, xb, rfl, e3.trans e4, hxi, hxb⟩
      | some m =>
        rw [hf] at hvm
        have hw : whereF ls pl meant = (m.ins, m.path) := by unfold whereF; rw [hf]
        rw [hw]
        refine s_if (b := false) (et_is (et_test (ev_isN L2' (ed_var rfl hvm))) rfl) (fun hb => by cases hb) (fun _ H3 e3 => ?_)
        refine (ed_var (K := K) (N := N) (d := dLn m) rfl (up e3 hvm)) (L2'.ex e3) H3 (Ex.refl H3) _ fun vt H4 e4 hvt => g_unp5 hvt fun y0 y1 yi yp y4 hy0 hy1 hyi hyp hy4 => ?_
        exact ⟨_, yi, yp, rfl, e3.trans e4, hyi, hyp⟩
    · rintro σ' H3 ⟨a, b, c, rfl, e3, hb, hc⟩
      have e03 := e02.trans e3
      refine s_retD (K := K) (L.ex e03) (d := dLs (withNew ls id pl ct meant)) ((ed_lst (eda_star (ds := ls.map dLn) (ed_var rfl (up e03 h0)) (eda_cons (ed_tup (eda_cons (ed_var rfl (up (e2.trans e3) hxid)) (eda_cons (ed_var rfl (up (e2.trans e3) hxid)) (eda_cons (ed_var rfl hb) (eda_cons (ed_var rfl hc) (eda_cons (ed_var rfl (up (e2.trans e3) hxct)) eda_nil))))) (by show 5 ≤ 100000; decide)) eda_nil)) (by rw [List.length_append, List.length_map]; have := hsh.1; show _ + 1 ≤ 100000; omega)).is (by unfold dLs withNew; rw [List.map_append]; rfl)) fun w H4 e4 hw => q w H4 (e03.trans e4) hw

/-! ### first_replaced -/
theorem ok_first_replaced (D : Df K mg "first_replaced" s_first_replaced ["lines", "replaces"]) (T : Txt K mg)  : C8.Cal P w K mg base 1 "first_replaced" (sp_first_replaced K) [] := by
  refine D.cal sc_first_replaced (fun vs H Q E h => ?_) (fun f cdv A outer s H vs Q E hr h => ?_)
  · obtain ⟨N, ds, d, L, ha, ⟨ls, hs, rfl, _⟩, _⟩ := h
    exact ha.len
  · obtain ⟨N, ds, d, L, ha, ⟨ls, hs, rfl, rfl⟩, q⟩ := h
    obtain ⟨v0, v1, rfl, h0, h1⟩ := args2 ha
    refine ⟨_,
        (pss_cons (ps_if (pt_cmpR (op_eqP hr.units) (pv 1) (pe_tup pa_nil) (nomark _))
          (pss_one (ps_ret pe_non))
          pss_nil)
        (pss_cons (ps_for PassesOwn.never rfl (pi_list (pv 0)) (pg_name (i := 2) sc_first_replaced.nd rfl (.inl rfl))
          (pss_one (ps_if (PW.pt (pw_and (pt_cmpR op_notN (pe_ix ix_tup (pv 2) pe_int (fun _ _ => rfl)) pe_non (nomark _)) (pw_and1 (pt_cmpR (op_inD hr.units) (pe_ix ix_tup (pv 2) pe_int (fun _ _ => rfl)) (pv 1) (by with_unfolding_all rfl)))))
            (pss_one (ps_ret (pv 2)))
            pss_nil)))
        (pss_one (ps_ret pe_non)))), ?_⟩
    refine q_when (b := decide (hs = [])) (et_is (et_test (ev_eqD L (ed_var rfl h1) (ed_tup eda_nil (by show 0 ≤ 100000; decide)) (pl_idsT hs) (by rw [PyData.plain]; rfl) (dp_idsT hs))) (eqv_idsN hs)) (fun hb H1 e1 => ?_) (fun hb H1 e1 => ?_)
    · refine s_retD (K := K) (L.ex e1) ed_non fun w H2 e2 hw => q w H2 (e1.trans e2) ?_
      have hf : firstRep ls hs = none := by
        rw [of_decide_eq_true hb]
        unfold firstRep
        rw [List.find?_eq_none]
        intro x _
        simp
      rw [hf]
      exact hw
    have h0 := up e1 h0
    have h1 := up e1 h1
    have L := L.ex e1
    have q := fun w H3 (e : Ex H1 H3) hw => q w H3 (e1.trans e) hw
    refine q_forDL L (ed_var rfl h0) (fun H1 i σ' H' => ∃ x, σ' = [some v0, some v1, x] ∧ Ex H1 H' ∧ ((ls.take i).find? fun l => l.ct.isSome && decide (l.hd ∈ hs)) = none) (fun H1 e1 => ⟨none, rfl, Ex.refl H1, rfl⟩) (fun H1 i σ' H' _ h => let ⟨_, _, h, _⟩ := h; cutN_ex h) ?_ ?_
    · rintro H1 i v d σ' H' e1 hd hv ⟨x, rfl, e2, hno⟩
      obtain ⟨l, hl, rfl⟩ := ls_at hd
      have e12 := e1.trans e2
      have L' := L.ex e12
      refine s_when (b := l.ct.isSome && decide (l.hd ∈ hs)) (et_is (et_and (et_test (ev_noN L' (ed_ix (n := 4) (ed_var rfl hv) rfl))) (fun _ => et_test (ev_inD (neg := false) L' (ed_ix (n := 1) (ed_var rfl hv) rfl) (.inr (ed_var rfl (up e12 h1))) (pl_ids hs) (pl_id _) (Nat.le_trans (dp_id _) (by decide))))) (by rw [isN_oct, if_neg (by decide), any_ids]; cases l.ct <;> rfl)) (fun hb H2 e3 => ?_) (fun hb H2 e3 => ?_)
      · refine s_retD (K := K) (L'.ex e3) (ed_var rfl (up e3 hv)) fun w H3 e4 hw => q w H3 ((e12.trans e3).trans e4) ?_
        have hf : firstRep ls hs = some l := find_hit hno hl hb
        rw [hf]
        exact hw
      · exact ⟨_, rfl, e2.trans e3, find_miss hno hl hb⟩
    · rintro H1 σ' H' e1 ⟨x, rfl, e2, hno⟩
      rw [List.length_map, List.take_of_length_le (Nat.le_refl _)] at hno
      refine s_retD (K := K) (L.ex (e1.trans e2)) ed_non fun w H3 e3 hw => q w H3 ((e1.trans e2).trans e3) ?_
      have hf : firstRep ls hs = none := hno
      rw [hf]
      exact hw

/-! ### after_text -/
theorem ok_after_text (D : Df K mg "after_text" s_after_text ["lines", "edit"]) (T : Txt K mg) (G_without_heads : C8.Cal P w K mg base 2 "without_heads" (sp_without_heads K) []) (G_with_new_line : C8.Cal P w K mg base 3 "with_new_line" (sp_with_new_line K) []) (G_first_replaced : C8.Cal P w K mg base 1 "first_replaced" (sp_first_replaced K) []) : C8.Cal P w K mg base 4 "after_text" (sp_after_text K) [] := by
  refine D.cal sc_after_text (fun vs H Q E h => ?_) (fun f cdv A outer s H vs Q E hr h => ?_)
  · obtain ⟨N, ds, d, L, ha, ⟨ls, id, pl, ct, meant, hs, rfl, _⟩, _⟩ := h
    exact ha.len
  · obtain ⟨N, ds, d, L, ha, ⟨ls, id, pl, ct, meant, hs, rfl, hsh, hhl, hwo, rfl⟩, q⟩ := h
    obtain ⟨v0, v1, rfl, h0, h1⟩ := args2 ha
    refine ⟨_,
        (pss_cons (ps_asg (pv 1) (pg_tup rfl (pgs_cons (pg_name (i := 2) sc_after_text.nd rfl (.inl rfl)) (pgs_cons (pg_name (i := 3) sc_after_text.nd rfl (.inr rfl)) (pgs_cons (pg_name (i := 2) sc_after_text.nd rfl (.inl rfl)) (pgs_cons (pg_name (i := 4) sc_after_text.nd rfl (.inl rfl)) (pgs_cons (pg_name (i := 2) sc_after_text.nd rfl (.inl rfl)) (pgs_cons (pg_name (i := 5) sc_after_text.nd rfl (.inl rfl)) pgs_nil))))))))
        (pss_cons (ps_set (i := 6) sc_after_text.nd rfl (.inl rfl) (C8.pe_c G_first_replaced hr (by decide) (by rfl) (pa_cons (pv 0) (pa_cons (pv 5) pa_nil))))
        (pss_cut (ps_if (pt_cmpR op_isN (pv 6) pe_non (nomark _))
          (pss_one (ps_set (i := 0) sc_after_text.nd rfl (.inl rfl) (C8.pe_c G_with_new_line hr (by decide) (by rfl) (pa_cons (pv 0) (pa_cons (pv 1) pa_nil)))))
          (pss_cons (ps_asg (pv 6) (pg_tup rfl (pgs_cons (pg_name (i := 7) sc_after_text.nd rfl (.inr rfl)) (pgs_cons (pg_name (i := 2) sc_after_text.nd rfl (.inl rfl)) (pgs_cons (pg_name (i := 8) sc_after_text.nd rfl (.inl rfl)) (pgs_cons (pg_name (i := 9) sc_after_text.nd rfl (.inl rfl)) (pgs_cons (pg_name (i := 2) sc_after_text.nd rfl (.inl rfl)) pgs_nil)))))))
          (pss_cons (ps_set (i := 10) sc_after_text.nd rfl (.inr rfl) (pe_tup (pa_cons (pv 7) (pa_cons (pv 3) (pa_cons (pv 8) (pa_cons (pv 9) (pa_cons (pv 4) pa_nil)))))))
          (pss_one (ps_setLc (i := 0) (own := [("known", 11)]) (g := gName 11) (tt := tYes) rfl sc_after_text.nd rfl rfl (sw_true rfl rfl rfl (by decide +kernel)) (pi_list (pv 0)) (blkOk_by (own := [("known", 11)]) (N := ["lines", "edit", "_", "edit_id", "content", "replaces", "continued", "line_id", "inside", "below", "row", "known", "head"]) (sc := defScope s_after_text) (by decide +kernel)) (fun _ _ _ _ _ => (pg_name (i := 11) sc_after_text.nd rfl (Or.inl rfl))) (fun _ _ _ _ _ => pts_nil) (fun _ _ _ _ _ => (pe_ifExp (pt_cmpR (show OpR _ _ (rEqP K) from op_eqP hr.units) (pe_ix (show IxR _ (rIxT K) from ix_tup) (pv 11) pe_int (fun _ _ => rfl)) (pv 7) (nomark _)) (pv 10) (pv 11))))))))
        (pss_one (ps_ret (C8.pe_c G_without_heads hr (by decide) (by rfl) (pa_cons (pv 0) (pa_cons (pe_lc (own := [("head", 12)]) (g := gName 12) rfl sc_after_text.nd (pi_tup (pv 5)) (blkOk_by (own := [("head", 12)]) (N := ["lines", "edit", "_", "edit_id", "content", "replaces", "continued", "line_id", "inside", "below", "row", "known", "head"]) (sc := defScope s_after_text) (by decide +kernel)) (fun _ _ _ _ _ => (pg_name (i := 12) sc_after_text.nd rfl (Or.inl rfl))) (fun _ _ _ _ _ => (pts_one (pt_cmpR (show OpR _ _ (rNeP K) from op_neP hr.units) (pv 12) (pv 3) (nomark _)))) (fun _ _ _ _ _ => (pv 12))) pa_nil)))))))), ?_⟩
    refine q_unp L (ed_var rfl h1) fun v H1 e1 hv => g_unp6 hv fun x0 xid xpl xct xme xhs hx0 hxid hxpl hxct hxme hxhs => ?_
    show tSeq _ _ _ [some v0, some v1, some xme, some xid, some xct, some xhs, none, none, none, none, none, none, none] H1
    refine q_asgD (L.ex e1) (ed_call (eda_cons (ed_var rfl (up e1 h0)) (eda_cons (ed_var rfl hxhs) eda_nil)) ⟨ls, hs, rfl, rfl⟩) fun vc H2 e2 hvc => ?_
    have e02 := e1.trans e2
    have L2' := L.ex e02
    show tCut _ _ _ [some v0, some v1, some xme, some xid, some xct, some xhs, some vc, none, none, none, none, none, none] H2
    refine q_cut (M := fun σ' H' => ∃ vl a b c d e f, σ' = [some vl, some v1, a, some xid, some xct, some xhs, some vc, b, c, d, e, f, none] ∧ Ex H2 H' ∧ Dp K (cutN N H') vl (dLs (textIn ls id pl ct meant hs))) ?_ ?_
    · cases hf : firstRep ls hs with
      | none =>
        rw [hf] at hvc
        have ht : textIn ls id pl ct meant hs = withNew ls id pl ct meant := by unfold textIn; rw [hf]
        rw [ht]
        refine s_if (b := true) (et_is (et_test (ev_isN L2' (ed_var rfl hvc))) rfl) (fun _ H3 e3 => ?_) (fun hb => by cases hb)
        refine s_asgD (K := K) (N := N) (L2'.ex e3) (ed_call (eda_cons (ed_var rfl (up (e02.trans e3) h0)) (eda_cons (ed_var rfl (up (e02.trans e3) h1)) eda_nil)) ⟨ls, id, pl, ct, meant, hs, rfl, hsh, rfl⟩) fun w H4 e4 hw => ?_
        exact ⟨w, _, _, _, _, _, _, rfl, e3.trans e4, hw⟩
      | some c =>
        rw [hf] at hvc
        have ht : textIn ls id pl ct meant hs = ls.map fun k => if k.id = c.id then ⟨c.id, id, c.ins, c.path, ct⟩ else k := by unfold textIn; rw [hf]
        rw [ht]
        refine s_if (b := false) (et_is (et_test (ev_isN L2' (ed_var rfl hvc))) rfl) (fun hb => by cases hb) (fun _ H3 e3 => ?_)
        have L3 := L2'.ex e3
        refine q_unp L3 (ed_var (d := dLn c) rfl (up e3 hvc)) fun v' H4 e4 hv' => g_unp5 hv' fun y0 y1 yi yp y4 hy0 hy1 hyi hyp hy4 => ?_
        have L4 := L3.ex e4
        show tSeq _ _ _ [some v0, some v1, some y4, some xid, some xct, some xhs, some vc, some y0, some yi, some yp, none, none, none] H4
        have e24 := (e2.trans e3).trans e4
        refine q_asgD L4 (d := dLn ⟨c.id, id, c.ins, c.path, ct⟩) (ed_tup (eda_cons (ed_var rfl hy0) (eda_cons (ed_var rfl (up e24 hxid)) (eda_cons (ed_var rfl hyi) (eda_cons (ed_var rfl hyp) (eda_cons (ed_var rfl (up e24 hxct)) eda_nil))))) (by show 5 ≤ 100000; decide)) fun vm H5 e5 hvm => ?_
        have e05 := ((e02.trans e3).trans e4).trans e5
        show tAsg _ _ _ [some v0, some v1, some y4, some xid, some xct, some xhs, some vc, some y0, some yi, some yp, some vm, none, none] H5
        refine s_asgD (K := K) (N := N) (L.ex e05) (ed_lcL (as := ls) dLn (fun _ => true) (fun k => dLn (if k.id = c.id then ⟨c.id, id, c.ins, c.path, ct⟩ else k)) (ed_var rfl (up e05 h0)) (Nat.le_trans hsh.1 (by decide)) (fun _ => rfl) (fun _ _ _ _ _ _ _ _ _ => et_yes) (fun v k M H7 hk e7 hsub LM hv _ => ?_)) fun w H6 e6 hw => ?_
        · refine ed_if (b := decide (k.id = c.id)) (et_is (et_test (ev_eqD LM (ed_ix (n := 0) (ed_var rfl hv) rfl) (ed_var rfl (Dp.ex hsub _ _ (up e5 hy0))) (pl_id _) (pl_id _) (Nat.le_trans (dp_id _) (by decide)))) (eqv_id _ _)) (fun hb => ?_) (fun hb => ?_)
          · rw [if_pos (of_decide_eq_true hb)]
            exact ed_var rfl (Dp.ex hsub _ _ hvm)
          · rw [if_neg (of_decide_eq_false hb)]
            exact ed_var rfl hv
        · rw [flt_all] at hw
          refine ⟨w, _, _, _, _, _, _, rfl, ((e3.trans e4).trans e5).trans e6, ?_⟩
          unfold dLs
          rw [List.map_map]
          exact hw
    · rintro σ' H3 ⟨vl, a, b, c, d, e, f, rfl, e3, hvl⟩
      have e03 := e02.trans e3
      refine s_retD (K := K) (L.ex e03) (ed_call (eda_cons (ed_var rfl hvl) (eda_cons (ed_lcT (as := hs) dId (fun h => !decide (h = id)) dId (ed_var rfl (up (e2.trans e3) hxhs)) (Nat.le_trans hhl (by decide)) (fun _ => rfl) (fun v h M H7 hk e7 hsub LM hv => ?_) (fun v h M H7 hk e7 hsub LM hv _ => ed_var rfl hv)) eda_nil)) ⟨textIn ls id pl ct meant hs, hs.filter fun h => !decide (h = id), _, rfl, .inl rfl, hwo, rfl⟩) fun w H4 e4 hw => q w H4 (e03.trans e4) hw
      exact et_is (et_test (ev_neD LM (ed_var rfl hv) (ed_var rfl (Dp.ex hsub _ _ (up (e2.trans e3) hxid))) (pl_id _) (pl_id _) (Nat.le_trans (dp_id _) (by decide)))) (by rw [eqv_id])

/-! ### after_move -/
theorem ok_after_move (D : Df K mg "after_move" s_after_move ["lines", "edit"]) (T : Txt K mg) (G_move_line : C8.Cal P w K mg base 3 "move_line" (sp_move_line K) []) : C8.Cal P w K mg base 4 "after_move" (sp_after_move K) [] := by
  refine D.cal sc_after_move (fun vs H Q E h => ?_) (fun f cdv A outer s H vs Q E hr h => ?_)
  · obtain ⟨N, ds, d, L, ha, ⟨ls, id, ms, ls', rfl, _⟩, _⟩ := h
    exact ha.len
  · obtain ⟨N, ds, d, L, ha, ⟨ls, id, ms, ls', rfl, hms, rfl⟩, q⟩ := h
    obtain ⟨v0, v1, rfl, h0, h1⟩ := args2 ha
    refine ⟨_,
        (pss_cons (ps_for PassesOwn.never rfl (pi_tup (pe_ix ix_tup (pv 1) pe_int (fun _ _ => rfl))) (pg_tup rfl (pgs_cons (pg_name (i := 2) sc_after_move.nd rfl (.inl rfl)) (pgs_cons (pg_name (i := 3) sc_after_move.nd rfl (.inl rfl)) (pgs_cons (pg_name (i := 4) sc_after_move.nd rfl (.inl rfl)) pgs_nil))))
          (pss_one (ps_set (i := 0) sc_after_move.nd rfl (.inl rfl) (C8.pe_c G_move_line hr (by decide) (by rfl) (pa_cons (pv 0) (pa_cons (pv 2) (pa_cons (pv 3) (pa_cons (pv 4) pa_nil))))))))
        (pss_one (ps_ret (pv 0)))), ?_⟩
    refine q_forDT L (ds := ms.map dMv) (ed_ix (n := 2) (ed_var rfl h1) rfl) (fun H1 i σ' H' => ∃ v l a b c, σ' = [some v, some v1, a, b, c] ∧ Ex H1 H' ∧ Dp K (cutN N H') v (dLs l) ∧ MvsR l (ms.drop i) ls') (fun H1 e1 => ⟨v0, ls, none, none, none, rfl, Ex.refl H1, up e1 h0, hms⟩) (fun H1 i σ' H' _ h => let ⟨_, _, _, _, _, _, h, _⟩ := h; cutN_ex h) ?_ ?_
    · rintro H1 i v d σ' H' e1 hd hv ⟨vl, l, a, b, c, rfl, e2, hvl, hm⟩
      obtain ⟨m, hmi, rfl⟩ := map_at hd
      have hdr : ms.drop i = m :: ms.drop (i + 1) := by
        have hlt := len_lt hmi
        rw [List.drop_eq_getElem_cons hlt]
        rw [List.getElem?_eq_getElem hlt] at hmi
        rw [Option.some.inj hmi]
      rw [hdr] at hm
      cases hm with
      | @cons _ l1 _ _ _ hsh hm1 hm2 =>
        refine g_unp3 hv fun x y z hx hy hz => ?_
        refine s_asgD (K := K) (N := N) (L.ex (e1.trans e2)) (ed_call (eda_cons (ed_var rfl hvl) (eda_cons (ed_var rfl hx) (eda_cons (ed_var rfl hy) (eda_cons (ed_var rfl hz) eda_nil)))) ⟨l, m, l1, rfl, hsh, hm1, rfl⟩) fun w H2 e3 hw => ⟨w, l1, _, _, _, rfl, e2.trans e3, hw, hm2⟩
    · rintro H1 σ' H' e1 ⟨vl, l, a, b, c, rfl, e2, hvl, hm⟩
      rw [List.length_map, List.drop_eq_nil_of_le (Nat.le_refl _)] at hm
      cases hm with
      | nil => exact s_retD (K := K) (L.ex (e1.trans e2)) (ed_var rfl hvl) fun w H3 e3 hw => q w H3 ((e1.trans e2).trans e3) hw

/-! ### lines_after -/
theorem ok_lines_after (D : Df K mg "lines_after" s_lines_after ["lines", "edit"]) (T : Txt K mg) (G_without_heads : C8.Cal P w K mg base 2 "without_heads" (sp_without_heads K) []) (G_with_new_line : C8.Cal P w K mg base 3 "with_new_line" (sp_with_new_line K) []) (G_after_text : C8.Cal P w K mg base 4 "after_text" (sp_after_text K) []) (G_after_move : C8.Cal P w K mg base 4 "after_move" (sp_after_move K) []) : C8.Cal P w K mg base 5 "lines_after" (sp_lines_after K) [] := by
  refine D.cal sc_lines_after (fun vs H Q E h => ?_) (fun f cdv A outer s H vs Q E hr h => ?_)
  · obtain ⟨N, ds, d, L, ha, ⟨ls, e, ls', rfl, _⟩, _⟩ := h
    exact ha.len
  · obtain ⟨N, ds, d, L, ha, ⟨ls, e, ls', rfl, haf, rfl⟩, q⟩ := h
    obtain ⟨v0, v1, rfl, h0, h1⟩ := args2 ha
    refine ⟨_,
        (pss_cons (ps_set (i := 0) sc_lines_after.nd rfl (.inl rfl) (pe_callTy call_list_of (by rfl) T.n_list (by decide +kernel) (pa_cons (pv 0) pa_nil)))
        (pss_cons (ps_if (pt_cmpR (op_eqP hr.units) (pe_ix ix_tup (pv 1) pe_int (fun _ _ => rfl)) pe_str (nomark _))
          (pss_one (ps_ret (C8.pe_c G_without_heads hr (by decide) (by rfl) (pa_cons (pv 0) (pa_cons (pe_ix ix_tup (pv 1) pe_int (fun _ _ => rfl)) pa_nil)))))
          pss_nil)
        (pss_cons (ps_if (pt_cmpR (op_eqP hr.units) (pe_ix ix_tup (pv 1) pe_int (fun _ _ => rfl)) pe_str (nomark _))
          (pss_one (ps_ret (C8.pe_c G_after_move hr (by decide) (by rfl) (pa_cons (pv 0) (pa_cons (pv 1) pa_nil)))))
          pss_nil)
        (pss_cons (ps_if (pt_cmpR op_isN (pe_ix ix_tup (pv 1) pe_int (fun _ _ => rfl)) pe_non (nomark _))
          (pss_one (ps_ret (C8.pe_c G_without_heads hr (by decide) (by rfl) (pa_cons (C8.pe_c G_with_new_line hr (by decide) (by rfl) (pa_cons (pv 0) (pa_cons (pv 1) pa_nil))) (pa_cons (pe_ix ix_tup (pv 1) pe_int (fun _ _ => rfl)) pa_nil)))))
          pss_nil)
        (pss_one (ps_ret (C8.pe_c G_after_text hr (by decide) (by rfl) (pa_cons (pv 0) (pa_cons (pv 1) pa_nil))))))))), ?_⟩
    refine q_asgD L (ed_listOf (ds := ls.map dLn) (ed_var rfl h0)) fun vl H1 e1 hvl => ?_
    have L1 := L.ex e1
    have a1 := up e1 h1
    have sne : ∀ a b : Str, (a == b) = false → PyData.eqv (.str a) (.str b) = false := fun a b h => by rw [PyData.eqv]; exact h
    cases haf with
    | drop id hs hwo =>
      refine q_when (b := true) (et_is (et_test (ev_eqD L1 (ed_ix (n := 0) (ed_var rfl a1) rfl) ed_str rfl rfl (by decide))) (by decide +kernel)) (fun _ H2 e2 => ?_) (fun hb => by cases hb)
      exact s_retD (K := K) (L1.ex e2) (ed_call (eda_cons (ed_var rfl (up e2 hvl)) (eda_cons (ed_ix (n := 2) (ed_var rfl (up e2 a1)) rfl) eda_nil)) ⟨ls, hs, _, rfl, .inr rfl, hwo, rfl⟩) fun w H3 e3 hw => q w H3 ((e1.trans e2).trans e3) hw
    | @move id ms _ hms =>
      refine q_when (b := false) (et_is (et_test (ev_eqD L1 (ed_ix (n := 0) (ed_var rfl a1) rfl) ed_str rfl rfl (by decide))) (by decide +kernel)) (fun hb => by cases hb) (fun _ H2 e2 => ?_)
      have L2' := L1.ex e2
      have a2 := up e2 a1
      refine q_when (b := true) (et_is (et_test (ev_eqD L2' (ed_ix (n := 0) (ed_var rfl a2) rfl) ed_str rfl rfl (by decide))) (by decide +kernel)) (fun _ H3 e3 => ?_) (fun hb => by cases hb)
      exact s_retD (K := K) (L2'.ex e3) (ed_call (eda_cons (ed_var rfl (up (e2.trans e3) hvl)) (eda_cons (ed_var rfl (up e3 a2)) eda_nil)) ⟨ls, id, ms, ls', rfl, hms, rfl⟩) fun w H4 e4 hw => q w H4 (((e1.trans e2).trans e3).trans e4) hw
    | mark id pl meant hs hsh hwo =>
      refine q_when (b := false) (et_is (et_test (ev_eqD L1 (ed_ix (n := 0) (ed_var rfl a1) rfl) ed_str rfl rfl (by decide))) (by decide +kernel)) (fun hb => by cases hb) (fun _ H2 e2 => ?_)
      have L2' := L1.ex e2
      have a2 := up e2 a1
      refine q_when (b := false) (et_is (et_test (ev_eqD L2' (ed_ix (n := 0) (ed_var rfl a2) rfl) ed_str rfl rfl (by decide))) (by decide +kernel)) (fun hb => by cases hb) (fun _ H3 e3 => ?_)
      have L3 := L2'.ex e3
      have a3 := up e3 a2
      have e03 := (e1.trans e2).trans e3
      refine q_when (b := true) (et_is (et_test (ev_isN L3 (ed_ix (n := 3) (ed_var rfl a3) rfl))) rfl) (fun _ H4 e4 => ?_) (fun hb => by cases hb)
      have a4 := up e4 a3
      have hl4 := up ((e2.trans e3).trans e4) hvl
      exact s_retD (K := K) (L3.ex e4) (ed_call (eda_cons (ed_call (eda_cons (ed_var rfl hl4) (eda_cons (ed_var rfl a4) eda_nil)) ⟨ls, id, pl, none, meant, hs, rfl, hsh, rfl⟩) (eda_cons (ed_ix (n := 5) (ed_var rfl a4) rfl) eda_nil)) ⟨withNew ls id pl none meant, hs, _, rfl, .inr rfl, hwo, rfl⟩) fun w H5 e5 hw => q w H5 ((e03.trans e4).trans e5) hw
    | text id pl c meant hs hsh hhl hwo =>
      refine q_when (b := false) (et_is (et_test (ev_eqD L1 (ed_ix (n := 0) (ed_var rfl a1) rfl) ed_str rfl rfl (by decide))) (by decide +kernel)) (fun hb => by cases hb) (fun _ H2 e2 => ?_)
      have L2' := L1.ex e2
      have a2 := up e2 a1
      refine q_when (b := false) (et_is (et_test (ev_eqD L2' (ed_ix (n := 0) (ed_var rfl a2) rfl) ed_str rfl rfl (by decide))) (by decide +kernel)) (fun hb => by cases hb) (fun _ H3 e3 => ?_)
      have L3 := L2'.ex e3
      have a3 := up e3 a2
      have e03 := (e1.trans e2).trans e3
      refine q_when (b := false) (et_is (et_test (ev_isN L3 (ed_ix (n := 3) (ed_var rfl a3) rfl))) rfl) (fun hb => by cases hb) (fun _ H4 e4 => ?_)
      exact s_retD (K := K) (L3.ex e4) (ed_call (eda_cons (ed_var rfl (up ((e2.trans e3).trans e4) hvl)) (eda_cons (ed_var rfl (up e4 a3)) eda_nil)) ⟨ls, id, pl, some c, meant, hs, rfl, hsh, hhl, hwo, rfl⟩) fun w H5 e5 hw => q w H5 ((e03.trans e4).trans e5) hw

/-! ### fold_lines -/
theorem ok_fold_lines (D : Df K mg "fold_lines" s_fold_lines ["lines", "edits"]) (T : Txt K mg) (G_lines_after : C8.Cal P w K mg base 5 "lines_after" (sp_lines_after K) []) : C8.Cal P w K mg base 6 "fold_lines" (sp_fold_lines K) [] := by
  refine D.cal sc_fold_lines (fun vs H Q E h => ?_) (fun f cdv A outer s H vs Q E hr h => ?_)
  · obtain ⟨N, ds, d, L, ha, ⟨ls, es, ls', rfl, _⟩, _⟩ := h
    exact ha.len
  · obtain ⟨N, ds, d, L, ha, ⟨ls, es, ls', rfl, hfo, rfl⟩, q⟩ := h
    obtain ⟨v0, v1, rfl, h0, h1⟩ := args2 ha
    refine ⟨_,
        (pss_cons (ps_set (i := 0) sc_fold_lines.nd rfl (.inl rfl) (pe_callTy call_list_of (by rfl) T.n_list (by decide +kernel) (pa_cons (pv 0) pa_nil)))
        (pss_cons (ps_for PassesOwn.never rfl (pi_list (pv 1)) (pg_name (i := 2) sc_fold_lines.nd rfl (.inl rfl))
          (pss_one (ps_set (i := 0) sc_fold_lines.nd rfl (.inl rfl) (C8.pe_c G_lines_after hr (by decide) (by rfl) (pa_cons (pv 0) (pa_cons (pv 2) pa_nil))))))
        (pss_one (ps_ret (pv 0))))), ?_⟩
    refine q_asgD L (ed_listOf (ds := ls.map dLn) (ed_var rfl h0)) fun vl H1 e1 hvl => ?_
    refine q_forDL (L.ex e1) (ds := es.map dEd) (ed_var rfl (up e1 h1)) (fun H2 i σ' H' => ∃ v l a, σ' = [some v, some v1, a] ∧ Ex H2 H' ∧ Dp K (cutN N H') v (dLs l) ∧ FoldR l (es.drop i) ls') (fun H2 e2 => ⟨vl, ls, none, rfl, Ex.refl H2, up e2 hvl, hfo⟩) (fun H2 i σ' H' _ h => let ⟨_, _, _, _, h, _⟩ := h; cutN_ex h) ?_ ?_
    · rintro H2 i v d σ' H' e2 hd hv ⟨v', l, a, rfl, e3, hvl', hf⟩
      obtain ⟨e, hei, rfl⟩ := map_at hd
      have hdr : es.drop i = e :: es.drop (i + 1) := by
        have hlt := len_lt hei
        rw [List.drop_eq_getElem_cons hlt]
        rw [List.getElem?_eq_getElem hlt] at hei
        rw [Option.some.inj hei]
      rw [hdr] at hf
      cases hf with
      | @cons _ l1 _ _ _ ha hf2 =>
        refine s_asgD (K := K) (N := N) (L.ex ((e1.trans e2).trans e3)) (ed_call (eda_cons (ed_var rfl hvl') (eda_cons (ed_var rfl hv) eda_nil)) ⟨l, e, l1, rfl, ha, rfl⟩) fun w H3 e4 hw => ⟨w, l1, _, rfl, e3.trans e4, hw, hf2⟩
    · rintro H2 σ' H' e2 ⟨v', l, a, rfl, e3, hvl', hf⟩
      rw [List.length_map, List.drop_eq_nil_of_le (Nat.le_refl _)] at hf
      cases hf with
      | nil => exact s_retD (K := K) (L.ex ((e1.trans e2).trans e3)) (ed_var rfl hvl') fun w H3 e4 hw => q w H3 (((e1.trans e2).trans e3).trans e4) hw

/-! ### lines_of -/
theorem ok_lines_of (D : Df K mg "lines_of" s_lines_of ["edits"]) (T : Txt K mg) (G_fold_lines : C8.Cal P w K mg base 6 "fold_lines" (sp_fold_lines K) []) : C8.Cal P w K mg base 7 "lines_of" (sp_lines_of K) [] := by
  refine D.cal sc_lines_of (fun vs H Q E h => ?_) (fun f cdv A outer s H vs Q E hr h => ?_)
  · obtain ⟨N, ds, d, L, ha, ⟨es, ls', rfl, _⟩, _⟩ := h
    exact ha.len
  · obtain ⟨N, ds, d, L, ha, ⟨es, ls', rfl, hfo, rfl⟩, q⟩ := h
    obtain ⟨v0, rfl, h0⟩ := args1 ha
    refine ⟨_,
        (pss_one (ps_ret (C8.pe_c G_fold_lines hr (by decide) (by rfl) (pa_cons (pe_lst pa_nil) (pa_cons (pv 0) pa_nil))))), ?_⟩
    exact s_retD (K := K) L (ed_call (eda_cons (ed_lst (ds := []) eda_nil (by show 0 ≤ 100000; decide)) (eda_cons (ed_var rfl h0) eda_nil)) ⟨[], es, ls', rfl, hfo, rfl⟩) fun w H1 e1 hw => q w H1 e1 hw

/-! ### law_rows -/
theorem ok_law_rows (D : Df K mg "_law_rows" s_law_rows ["script", "count"]) (T : Txt K mg)  : C8.Cal P w K mg base 1 "_law_rows" (sp_law_rows K) [] := by
  refine D.cal sc_law_rows (fun vs H Q E h => ?_) (fun f cdv A outer s H vs Q E hr h => ?_)
  · obtain ⟨a, ns, n, rfl, _⟩ := h
    rfl
  · obtain ⟨a, ns, n, rfl, hS, hl, hn, q⟩ := h
    refine ⟨_,
        (pss_cons (ps_set (i := 2) sc_law_rows.nd rfl (.inl rfl) (pe_lst pa_nil))
        (pss_cons (ps_set (i := 3) sc_law_rows.nd rfl (.inl rfl) pe_int)
        (pss_cons (ps_for PassesOwn.never rfl (pi_range1 (by rfl) T.n_range (pa_cons (pv 1) pa_nil)) (pg_name (i := 4) sc_law_rows.nd rfl (.inl rfl))
          (pss_cons (ps_set (i := 5) sc_law_rows.nd rfl (.inl rfl) pe_int)
          (pss_cons (ps_if (pt_cmpR op_lt (pv 4) (pe_callB call_len_seq (by rfl) T.n_len PySem.boot_len (pa_cons (pv 0) pa_nil)) (nomark _))
            (pss_one (ps_set (i := 5) sc_law_rows.nd rfl (.inl rfl) (pe_callTy call_int1 (by rfl) T.n_int (by decide +kernel) (pa_cons (pe_ix ix_list (pv 0) (pv 4) (fun _ _ => rfl)) pa_nil))))
            pss_nil)
          (pss_cons (ps_if (pt_cmpR op_lt (pv 5) pe_int (nomark _))
            (pss_one (ps_set (i := 5) sc_law_rows.nd rfl (.inl rfl) (pe_op op_sub pe_int (pe_op op_mul pe_int (pv 5)))))
            pss_nil)
          (pss_cons (ps_set (i := 3) sc_law_rows.nd rfl (.inl rfl) (pe_op op_mod (pe_callTy call_int1 (by rfl) T.n_int (by decide +kernel) (pa_cons (pe_op op_add (pe_op op_add (pe_op op_add (pe_op op_mul (pv 3) pe_int) (pe_op op_mul (pv 5) pe_int)) (pe_op op_mul pe_int (pv 4))) pe_int) pa_nil)) pe_int))
          (pss_one (ps_if (pt_cmpR op_ge (pv 5) pe_int (nomark _))
            (pss_one (ps_expr (pe_bm PySem.F.plainAttrs_list PySem.F.slot_list_append PySem.F.type_list_append mt_append (pv 2) (pa_cons (pv 5) pa_nil))))
            (pss_one (ps_expr (pe_bm PySem.F.plainAttrs_list PySem.F.slot_list_append PySem.F.type_list_append mt_append (pv 2) (pa_cons (pe_op op_mod (pe_callTy call_int1 (by rfl) T.n_int (by decide +kernel) (pa_cons (pe_op op_add (pe_op op_mul (pv 3) pe_int) pe_int) pa_nil)) pe_int) pa_nil)))))))))))
        (pss_one (ps_ret (pv 2)))))), ?_⟩
    refine q_asgL (el_lst ea_nil (by show 0 ≤ 100000; decide)) fun p H1 hp e1 h1 => ?_
    refine q_asg ev_c fun H2 e2 => ?_
    refine q_forR1 (n := (n : Int)) (ea_cons (ev_var rfl) ea_nil) ⟨by omega, by omega⟩
      (fun i σ' H' => ∃ (rs : List Int) (m : Int) (k c : Option V), σ' = [some (.ref a), some (.int (n : Int)), some (.ref p), some (.int m), k, c] ∧ Ex H H' ∧ H' p = some (.lst (rs.map V.int)) ∧ rs.length = i ∧ ∀ c ∈ rs, 0 ≤ c)
      (fun H3 e3 => ⟨[], 1, none, none, rfl, (e1.trans e2).trans e3, e3 p _ (e2 p _ h1), rfl, by intro c hc; cases hc⟩) ?_ ?_
    · rintro i σ' H' hi ⟨rs, m, k0, c0, rfl, eH, hc, hlr, hnn⟩
      have hS' := ex_l eH hS
      have hlen : ((ns.map V.int).length : Int) = (ns.length : Int) := by rw [List.length_map]
      refine q_asg ev_c fun H2 e2 => ?_
      refine q_ifAsg (v := .int (cell0 ns i)) (et_test (ev_op (ev_var rfl) (ev_len (ev_var rfl) (ex_l e2 hS')) rv_I0)) (fun hb => ?_) (fun hb => ?_) fun H3 e3 => ?_
      · have hlt : i < ns.length := by
          have := of_decide_eq_true hb
          rw [hlen] at this
          omega
        refine ev_is (ev_cb (ea_cons (ev_op (ev_var rfl) (ev_var rfl) (rv_ixL (ex_l e2 hS') (at_int (by omega) (by omega)))) ea_nil) rc_int) ?_
        unfold cell0
        rw [if_pos hlt, Int.toNat_natCast]
      · have hlt : ¬ i < ns.length := by
          have := of_decide_eq_false hb
          rw [hlen] at this
          omega
        unfold cell0
        rw [if_neg hlt]
        rfl
      refine q_ifAsg (v := .int (fixC (cell0 ns i))) (et_test (ev_op (ev_var rfl) ev_c rv_I0)) (fun hb => ev_is (ev_op ev_c (ev_op ev_c (ev_var rfl) (rv_I (.inl (by decide)))) rv_I0) (congrArg V.int (fixC_neg hb))) (fun hb => by rw [fixC_pos hb]; rfl) fun H4 e4 => ?_
      refine q_asg (ev_op (ev_cb (ea_cons (ev_op (ev_op (ev_op (ev_op (ev_var rfl) ev_c (rv_I (.inr (by decide)))) (ev_op (ev_var rfl) ev_c (rv_I (.inr (by decide)))) rv_I0) (ev_op ev_c (ev_var rfl) (rv_I (.inl (by decide)))) rv_I0) ev_c rv_I0) ea_nil) rc_int) ev_c (rv_I (by show (0 : Int) < 1000000007; decide))) fun H5 e5 => ?_
      have e25 := (((e2.trans e3).trans e4).trans e5)
      have lenc : (rs.map V.int).length < 100000 := by
        rw [List.length_map]
        omega
      have fin : ∀ (H6 : Hp) (m x : Int) (c : Option V), Ex H5 H6 → 0 ≤ x → ∃ (rs' : List Int) (m' : Int) (k' c' : Option V), ([some (.ref a), some (.int (n : Int)), some (.ref p), some (.int m), some (.int (i : Int)), c] : L2.St) = [some (.ref a), some (.int (n : Int)), some (.ref p), some (.int m'), k', c'] ∧ Ex H (upd H6 p (.lst (rs.map V.int ++ [.int x]))) ∧ (upd H6 p (.lst (rs.map V.int ++ [.int x]))) p = some (.lst (rs'.map V.int)) ∧ rs'.length = i + 1 ∧ ∀ c ∈ rs', 0 ≤ c := fun H6 m x c e6 hx => by
        refine ⟨rs ++ [x], m, _, _, rfl, Ex.mut ((eH.trans e25).trans e6) hp, ?_, ?_, ?_⟩
        · rw [upd_same, List.map_append]
          rfl
        · rw [List.length_append, hlr]
          rfl
        · intro c hc
          rcases List.mem_append.mp hc with h | h
          · exact hnn c h
          · rw [List.mem_singleton.mp h]
            exact hx
      refine s_if (et_test (ev_op (ev_var rfl) ev_c rv_I0)) (fun hb H6 e6 => ?_) (fun hb H6 e6 => ?_)
      · exact s_app (e6 p _ (e25 p _ hc)) (ev_var rfl) (ev_var rfl) lenc fun H7 e7 => fin H7 _ _ _ (e6.trans e7) (fixC_nn _)
      · exact s_app (e6 p _ (e25 p _ hc)) (ev_var rfl) (ev_op (ev_cb (ea_cons (ev_op (ev_op (ev_var rfl) ev_c (rv_I (.inr (by decide)))) ev_c rv_I0) ea_nil) rc_int) ev_c (rv_I (by show (0 : Int) < 18446744073709551557; decide))) lenc fun H7 e7 => fin H7 _ _ _ (e6.trans e7) (Int.emod_nonneg _ (by decide))
    · rintro σ' H' ⟨rs, m, k0, c0, rfl, eH, hc, hlr, hnn⟩
      exact s_ret (ev_var rfl) fun H1' e' => q rs (by omega) hnn p H1' hp (eH.trans e') (e' p _ hc)

/-! ### law_path -/
theorem ok_law_path (D : Df K mg "_law_path" s_law_path ["row", "most"]) (T : Txt K mg)  : C8.Cal P w K mg base 1 "_law_path" (sp_law_path K) [] := by
  refine D.cal sc_law_path (fun vs H Q E h => ?_) (fun f cdv A outer s H vs Q E hr h => ?_)
  · obtain ⟨row, most, rfl, _⟩ := h
    rfl
  · obtain ⟨row, most, rfl, h1, h2, q⟩ := h
    refine ⟨_,
        (pss_cons (ps_set (i := 2) sc_law_path.nd rfl (.inr rfl) (pe_lst (pa_cons pe_str (pa_cons pe_str (pa_cons pe_str (pa_cons pe_str pa_nil))))))
        (pss_one (ps_ret (pe_callTy call_tuple_of (by rfl) T.n_tuple (by decide +kernel) (pa_cons (pe_lc (own := [("j", 3)]) (g := gName 3) (tt := tYes) rfl sc_law_path.nd (pi_range1 (by rfl) T.n_range (pa_cons (pe_op op_add pe_int (pe_op op_mod (pe_callTy call_int1 (by rfl) T.n_int (by decide +kernel) (pa_cons (pe_op op_fdiv (pv 0) pe_int) pa_nil)) (pv 1))) pa_nil)) (blkOk_by (own := [("j", 3)]) (N := ["row", "most", "names", "j"]) (sc := defScope s_law_path) (by decide +kernel)) (fun _ _ _ _ _ => (pg_name (i := 3) sc_law_path.nd rfl (Or.inl rfl))) (fun _ _ _ _ _ => pts_nil) (fun _ _ _ _ _ => (pe_ix (show IxR _ (rIxL K) from ix_list) (pv 2) (pe_op op_mod (pe_callTy call_int1 (by rfl) T.n_int (by decide +kernel) (pa_cons (pe_op op_fdiv (pv 0) (pe_op op_add (pe_op op_mul pe_int (pv 3)) pe_int)) pa_nil)) pe_int) (fun _ _ => rfl)))) pa_nil))))), ?_⟩
    refine q_asgL (xs := namesD.map V.str) (el_lst (ea_cons ev_c (ea_cons ev_c (ea_cons ev_c (ea_cons ev_c ea_nil)))) (by show 4 ≤ 100000; decide)) fun p H1 hp e1 h1' => ?_
    have hm := mod_bd (row / 5) (most : Int) (by omega)
    refine s_retU (xs := (pathF row most).map V.str) (eu_tupOfL ?_) fun p2 H2 hp2 e2 h2' => q p2 H2 (fresh_back e1 hp2) (e1.trans e2) h2'
    have e : given (1 + row / 5 % (most : Int)).toNat (fun _ => true) (fun j => V.str (namesD.getD (row / (11 * (j : Int) + 3) % 4).toNat Str.empty)) = (pathF row most).map V.str := by
      rw [given_all]
      unfold pathF
      rw [List.map_map]
      rfl
    rw [← e]
    refine el_lcR1 (fun _ => true) (fun j => V.str (namesD.getD (row / (11 * (j : Int) + 3) % 4).toNat Str.empty)) (ea_cons (ev_op ev_c (ev_op (ev_cb (ea_cons (ev_op (ev_var rfl) ev_c (rv_I ⟨by decide, by decide⟩)) ea_nil) rc_int) (ev_var rfl) (rv_I (show (0 : Int) < (most : Int) by omega))) rv_I0) ea_nil) ⟨by omega, by omega⟩ (fun _ => rfl) (fun _ _ _ _ => et_yes) (fun j H3 e3 hj _ => ?_)
    have hm4 := mod_bd (row / (11 * (j : Int) + 3)) 4 (by decide)
    exact ev_op (ev_var rfl) (ev_op (ev_cb (ea_cons (ev_op (ev_var rfl) (ev_op (ev_op ev_c (ev_var rfl) (rv_I (.inl (by decide)))) ev_c rv_I0) (rv_I ⟨by omega, by omega⟩)) ea_nil) rc_int) ev_c (rv_I (by show (0 : Int) < 4; decide))) (rv_ixL (sq_of (e3 _ _ h1')) (at_str hm4.1 (by show _ < ((4 : Nat) : Int); omega)))

/-! ### law_pick -/
theorem ok_law_pick (D : Df K mg "_law_pick" s_law_pick ["row", "ids"]) (T : Txt K mg)  : C8.Cal P w K mg base 1 "_law_pick" (sp_law_pick K) [] := by
  refine D.cal sc_law_pick (fun vs H Q E h => ?_) (fun f cdv A outer s H vs Q E hr h => ?_)
  · obtain ⟨N, row, p, xs, is, rfl, _⟩ := h
    rfl
  · obtain ⟨N, row, p, xs, is, rfl, L, hS, hD, hl, q⟩ := h
    refine ⟨_,
        (pss_cons (ps_if (PW.pt (pw_or (pt_cmpR op_eq (pe_callB call_len_seq (by rfl) T.n_len PySem.boot_len (pa_cons (pv 1) pa_nil)) pe_int (nomark _)) (pw_or1 (pt_cmpR op_eq (pe_op op_mod (pe_callTy call_int1 (by rfl) T.n_int (by decide +kernel) (pa_cons (pv 0) pa_nil)) pe_int) pe_int (nomark _)))))
          (pss_one (ps_ret pe_non))
          pss_nil)
        (pss_cons (ps_if (pt_cmpR op_eq (pe_op op_mod (pe_callTy call_int1 (by rfl) T.n_int (by decide +kernel) (pa_cons (pe_op op_fdiv (pv 0) pe_int) pa_nil)) pe_int) pe_int (nomark _))
          (pss_one (ps_ret (pe_ix ix_list (pv 1) (pe_op op_mod (pe_callTy call_int1 (by rfl) T.n_int (by decide +kernel) (pa_cons (pe_op op_fdiv (pv 0) pe_int) pa_nil)) (pe_callB call_len_seq (by rfl) T.n_len PySem.boot_len (pa_cons (pv 1) pa_nil))) (fun _ _ => rfl))))
          pss_nil)
        (pss_one (ps_ret (pe_ix ix_list (pv 1) (pe_op op_sub (pe_op op_sub (pe_callB call_len_seq (by rfl) T.n_len PySem.boot_len (pa_cons (pv 1) pa_nil)) pe_int) (pe_op op_mod (pe_callTy call_int1 (by rfl) T.n_int (by decide +kernel) (pa_cons (pe_op op_fdiv (pv 0) pe_int) pa_nil)) (pe_callB (call_min2 rfl) (by rfl) T.n_min (by decide +kernel) (pa_cons pe_int (pa_cons (pe_callB call_len_seq (by rfl) T.n_len PySem.boot_len (pa_cons (pv 1) pa_nil)) pa_nil))))) (fun _ _ => rfl)))))), ?_⟩
    have hlen : xs.length = is.length := by rw [hD.len, List.length_map]
    refine q_when (b := decide (is = [] ∨ row % 3 = 0)) (et_is (et_or (et_test (ev_op (ev_len (ev_var rfl) hS) ev_c (rv_eq rfl))) (fun _ => et_test (ev_op (ev_op (ev_cb (ea_cons (ev_var rfl) ea_nil) rc_int) ev_c (rv_I (by show (0 : Int) < 3; decide))) ev_c (rv_eq rfl)))) ?_) (fun hb H1 e1 => ?_) (fun hb H1 e1 => ?_)
    · rw [hlen, Bool.eq_iff_iff, Bool.or_eq_true, decide_eq_true_iff, decide_eq_true_iff, decide_eq_true_iff]
      refine or_congr ⟨fun h => List.length_eq_zero_iff.mp (by have := V.int.inj h; omega), fun h => by rw [h]; rfl⟩ ⟨fun h => V.int.inj h, fun h => by rw [h]⟩
    · have hp : pickF row is = none := if_pos (of_decide_eq_true hb)
      refine s_retD (K := K) (L.ex e1) ed_non fun w H2 e2 hw => q w H2 (e1.trans e2) ?_
      show Dp K _ w (dOp dId (pickF row is))
      rw [hp]
      exact hw
    · have hb' := of_decide_eq_false hb
      have hpos : 0 < is.length := List.length_pos_iff.mpr fun h => hb' (.inl h)
      have get : ∀ {te : TE} {i : Int} {H2 : Hp} {σ : L2.St}, Ex H H2 → σ[1]? = some (some (.ref p)) → Ev te σ H2 (.int i) → 0 ≤ i → i < (is.length : Int) → EvD K N (tOp (rIxL K) (tVar 1) te) σ H2 (dOp dId is[i.toNat]?) := fun {te i H2 σ} e h1 hi i0 i1 => by
        obtain ⟨j, rfl⟩ := Int.eq_ofNat_of_zero_le i0
        have hj : j < is.length := by omega
        obtain ⟨v, hv, hd⟩ := hD.get (n := j) (d := dId is[j]) (by rw [List.getElem?_map, List.getElem?_eq_getElem hj]; rfl)
        rw [Int.toNat_natCast, List.getElem?_eq_getElem hj]
        exact ed_v (ev_op (ev_var h1) hi (rv_ixL (ex_l e hS) (atI_nat hv))) (up e hd)
      refine q_when (b := decide (row / 7 % 2 = 0)) (et_is (et_test (ev_op (ev_op (ev_cb (ea_cons (ev_op (ev_var rfl) ev_c (rv_I ⟨by decide, by decide⟩)) ea_nil) rc_int) ev_c (rv_I (by show (0 : Int) < 2; decide))) ev_c (rv_eq rfl))) (decide_eq_decide.mpr ⟨fun h => V.int.inj h, fun h => by rw [h]⟩)) (fun hb2 H2 e2 => ?_) (fun hb2 H2 e2 => ?_)
      · have hm := mod_bd (row / 3) (is.length : Int) (by omega)
        have hp : pickF row is = is[(row / 3 % (is.length : Int)).toNat]? := by unfold pickF; rw [if_neg hb', if_pos (of_decide_eq_true hb2)]
        refine s_retD (K := K) ((L.ex e1).ex e2) (get (e1.trans e2) rfl (ev_is (ev_op (ev_cb (ea_cons (ev_op (ev_var rfl) ev_c (rv_I ⟨by decide, by decide⟩)) ea_nil) rc_int) (ev_len (ev_var rfl) (ex_l (e1.trans e2) hS)) (rv_I (show (0 : Int) < (xs.length : Int) by omega))) (by rw [hlen])) hm.1 hm.2) fun w H3 e3 hw => q w H3 ((e1.trans e2).trans e3) ?_
        show Dp K _ w (dOp dId (pickF row is))
        rw [hp]
        exact hw
      · have hmin : (0 : Int) < min 3 (is.length : Int) := by omega
        have hm := mod_bd (row / 3) (min 3 (is.length : Int)) hmin
        have hp : pickF row is = is[((is.length : Int) - 1 - row / 3 % min 3 (is.length : Int)).toNat]? := by unfold pickF; rw [if_neg hb', if_neg (of_decide_eq_false hb2)]
        have hmm : (if (xs.length : Int) < 3 then (xs.length : Int) else 3) = min 3 (is.length : Int) := by rw [hlen]; split <;> omega
        refine s_retD (K := K) ((L.ex e1).ex e2) (get (e1.trans e2) rfl (ev_is (ev_op (ev_op (ev_len (ev_var rfl) (ex_l (e1.trans e2) hS)) ev_c rv_I0) (ev_op (ev_cb (ea_cons (ev_op (ev_var rfl) ev_c (rv_I ⟨by decide, by decide⟩)) ea_nil) rc_int) (ev_is (ev_cb (ea_cons ev_c (ea_cons (ev_len (ev_var rfl) (ex_l (e1.trans e2) hS)) ea_nil)) rc_min2) (congrArg V.int hmm)) (rv_I hmin)) rv_I0) (by rw [hlen])) (by omega) (by omega)) fun w H3 e3 hw => q w H3 ((e1.trans e2).trans e3) ?_
        show Dp K _ w (dOp dId (pickF row is))
        rw [hp]
        exact hw

/-! ### law_place -/
theorem ok_law_place (D : Df K mg "_law_place" s_law_place ["row", "ids"]) (T : Txt K mg) (G_law_path : C8.Cal P w K mg base 1 "_law_path" (sp_law_path K) []) (G_law_pick : C8.Cal P w K mg base 1 "_law_pick" (sp_law_pick K) []) : C8.Cal P w K mg base 2 "_law_place" (sp_law_place K) [] := by
  refine D.cal sc_law_place (fun vs H Q E h => ?_) (fun f cdv A outer s H vs Q E hr h => ?_)
  · obtain ⟨N, row, p, xs, is, rfl, _⟩ := h
    rfl
  · obtain ⟨N, row, p, xs, is, rfl, L, hS, hD, hl, q⟩ := h
    refine ⟨_,
        (pss_one (ps_ret (pe_tup (pa_cons (C8.pe_c G_law_pick hr (by decide) (by rfl) (pa_cons (pe_op op_fdiv (pv 0) pe_int) (pa_cons (pv 1) pa_nil))) (pa_cons (C8.pe_c G_law_path hr (by decide) (by rfl) (pa_cons (pe_op op_fdiv (pv 0) pe_int) (pa_cons pe_int pa_nil))) (pa_cons (C8.pe_c G_law_path hr (by decide) (by rfl) (pa_cons (pe_op op_fdiv (pv 0) pe_int) (pa_cons pe_int pa_nil))) pa_nil)))))), ?_⟩
    exact s_retD (K := K) L (ed_tup (eda_cons (ed_callI (ev_op (ev_var rfl) ev_c (rv_I ⟨by decide, by decide⟩)) (ev_var rfl) hS hD hl) (eda_cons (ed_ofU (eu_call (ea_cons (ev_op (ev_var rfl) ev_c (rv_I ⟨by decide, by decide⟩)) (ea_cons ev_c ea_nil)) (sp_pa (most := 2) (by decide) (by decide)))) (eda_cons (ed_ofU (eu_call (ea_cons (ev_op (ev_var rfl) ev_c (rv_I ⟨by decide, by decide⟩)) (ea_cons ev_c ea_nil)) (sp_pa (most := 3) (by decide) (by decide)))) eda_nil))) (by show 3 ≤ 100000; decide)) fun w H1 e1 hw => q w H1 e1 hw

/-! ### law_heads -/
theorem ok_law_heads (D : Df K mg "_law_heads" s_law_heads ["row", "ids"]) (T : Txt K mg) (G_law_pick : C8.Cal P w K mg base 1 "_law_pick" (sp_law_pick K) []) : C8.Cal P w K mg base 2 "_law_heads" (sp_law_heads K) [] := by
  refine D.cal sc_law_heads (fun vs H Q E h => ?_) (fun f cdv A outer s H vs Q E hr h => ?_)
  · obtain ⟨N, row, p, xs, is, rfl, _⟩ := h
    rfl
  · obtain ⟨N, row, p, xs, is, rfl, L, hS, hD, hl, q⟩ := h
    refine ⟨_,
        (pss_cons (ps_set (i := 2) sc_law_heads.nd rfl (.inl rfl) (pe_lst pa_nil))
        (pss_cons (ps_for PassesOwn.never rfl (pi_range1 (by rfl) T.n_range (pa_cons (pe_op op_mod (pe_callTy call_int1 (by rfl) T.n_int (by decide +kernel) (pa_cons (pe_op op_fdiv (pv 0) pe_int) pa_nil)) pe_int) pa_nil)) (pg_name (i := 3) sc_law_heads.nd rfl (.inl rfl))
          (pss_cons (ps_set (i := 4) sc_law_heads.nd rfl (.inl rfl) (C8.pe_c G_law_pick hr (by decide) (by rfl) (pa_cons (pe_op op_fdiv (pv 0) (pe_op op_add (pe_op op_mul pe_int (pv 3)) pe_int)) (pa_cons (pv 1) pa_nil))))
          (pss_one (ps_if (pt_cmpR op_notN (pv 4) pe_non (nomark _))
            (pss_one (ps_expr (pe_bm PySem.F.plainAttrs_list PySem.F.slot_list_append PySem.F.type_list_append mt_append (pv 2) (pa_cons (pv 4) pa_nil))))
            pss_nil))))
        (pss_one (ps_ret (pe_callTy call_tuple_of (by rfl) T.n_tuple (by decide +kernel) (pa_cons (pv 2) pa_nil)))))), ?_⟩
    refine q_asgL (xs := []) (el_lst ea_nil (by show 0 ≤ 100000; decide)) fun p2 H1 hp e1 hp1 => ?_
    have g0 : Grw K N H p2 [] H1 := Grw.nil hp e1 hp1
    have hm := mod_bd (row / 17) 4 (by decide)
    refine q_forR1 (n := row / 17 % 4) (ea_cons (ev_op (ev_cb (ea_cons (ev_op (ev_var rfl) ev_c (rv_I ⟨by decide, by decide⟩)) ea_nil) rc_int) ev_c (rv_I (by show (0 : Int) < 4; decide))) ea_nil) ⟨by omega, by omega⟩ (fun j σ' H' => ∃ a b, σ' = [some (.int row), some (.ref p), some (.ref p2), a, b] ∧ Grw K N H p2 ((headsF row is j).map dId) H') (fun H2 e2 => ⟨none, none, rfl, g0.ex e2⟩) ?_ ?_
    · rintro j σ' H' hj ⟨a, b, rfl, hg⟩
      have L' := hg.live L
      have hS' := ex_l hg.2.1 hS
      have hD' := DpAll.ex hg.sub _ _ hD
      refine q_asgD L' (ed_callI (f := fun row is => dOp dId (pickF row is)) (ev_op (ev_var rfl) (ev_op (ev_op ev_c (ev_var rfl) (rv_I (.inl (by decide)))) ev_c rv_I0) (rv_I ⟨by omega, by omega⟩)) (ev_var rfl) hS' hD' hl) fun vh H2 e2 hvh => ?_
      have hlen := headsF_len row is j
      have hup : headsF row is (j + 1) = headsF row is j ++ (pickF (row / (23 * (j : Int) + 5)) is).toList := rfl
      have hvh' : Dp K (cutN (plusN N p2) H2) vh (dOp dId (pickF (row / (23 * (j : Int) + 5)) is)) := hvh
      cases hpk : pickF (row / (23 * (j : Int) + 5)) is with
      | none =>
        rw [hpk] at hvh'
        refine s_when (b := false) (et_is (et_test (ev_noN (L'.ex e2) (ed_var rfl hvh'))) rfl) (fun hb => by cases hb) (fun _ H3 e3 => ⟨_, _, rfl, ?_⟩)
        rw [hup, hpk]
        show Grw K N H p2 ((headsF row is j ++ []).map dId) H3
        rw [List.append_nil]
        exact hg.ex (e2.trans e3)
      | some h =>
        rw [hpk] at hvh'
        refine s_when (b := true) (et_is (et_test (ev_noN (L'.ex e2) (ed_var rfl hvh'))) rfl) (fun _ H3 e3 => ?_) (fun hb => by cases hb)
        refine s_appD L (hg.ex (e2.trans e3)) (ev_var rfl) (ed_var rfl (up e3 hvh')) (by rw [List.length_map]; omega) fun H4 e4 e5 hg4 => ⟨_, _, rfl, ?_⟩
        rw [hup, hpk]
        show Grw K N H p2 ((headsF row is j ++ [h]).map dId) H4
        rw [List.map_append]
        exact hg4
    · rintro σ' H' ⟨a, b, rfl, hg⟩
      obtain ⟨g1, g2, acc, g3, g4⟩ := id hg
      refine s_retD (K := K) (N := N) (d := dIds (headsA row is)) (L.ex g2) (fun _ H2 e2 Q q2 => (eu_tupOf (K := K) (ev_var rfl) (sq_of g3)) H2 e2 _ fun pt H3 hpt e3 h3 => q2 _ H3 e3 (.tup (st_of (by rw [cutN_no ((L.ex (g2.trans e2)).off hpt)]; exact h3)) (DpAll.ex (fun c o hc => ?_) _ _ g4))) fun w H2 e2 hw => q w H2 (g2.trans e2) hw
      by_cases n : plusN N p2 c
      · rw [cutN_yes n] at hc
        cases hc
      · rw [cutN_no n] at hc
        rw [cutN_no (fun z => n (.inl z))]
        exact e3 c o (e2 c o hc)

/-! ### law_edit -/
theorem ok_law_edit (D : Df K mg "_law_edit" s_law_edit ["row", "edit_id", "ids"]) (T : Txt K mg) (G_law_pick : C8.Cal P w K mg base 1 "_law_pick" (sp_law_pick K) []) (G_law_place : C8.Cal P w K mg base 2 "_law_place" (sp_law_place K) []) (G_law_heads : C8.Cal P w K mg base 2 "_law_heads" (sp_law_heads K) []) : C8.Cal P w K mg base 3 "_law_edit" (sp_law_edit K) [] := by
  refine D.cal sc_law_edit (fun vs H Q E h => ?_) (fun f cdv A outer s H vs Q E hr h => ?_)
  · obtain ⟨N, row, v1, p, xs, id, is, rfl, _⟩ := h
    rfl
  · obtain ⟨N, row, v1, p, xs, id, is, rfl, L, hv1, hS, hD, hl, q⟩ := h
    refine ⟨_,
        (pss_cons (ps_set (i := 3) sc_law_edit.nd rfl (.inl rfl) (C8.pe_c G_law_place hr (by decide) (by rfl) (pa_cons (pe_op op_fdiv (pv 0) pe_int) (pa_cons (pv 2) pa_nil))))
        (pss_cons (ps_set (i := 4) sc_law_edit.nd rfl (.inl rfl) (pe_op op_mod (pe_callTy call_int1 (by rfl) T.n_int (by decide +kernel) (pa_cons (pv 0) pa_nil)) pe_int))
        (pss_cons (ps_if (pt_cmpR op_eq (pv 4) pe_int (nomark _))
          (pss_one (ps_ret (pe_tup (pa_cons pe_str (pa_cons (pv 1) (pa_cons (pv 3) (pa_cons pe_non (pa_cons pe_non (pa_cons (C8.pe_c G_law_heads hr (by decide) (by rfl) (pa_cons (pv 0) (pa_cons (pv 2) pa_nil))) pa_nil)))))))))
          pss_nil)
        (pss_cons (ps_if (PW.pt (pw_or (pt_cmpR op_le (pv 4) pe_int (nomark _)) (pw_or1 (pt_cmpR op_eq (pe_callB call_len_seq (by rfl) T.n_len PySem.boot_len (pa_cons (pv 2) pa_nil)) pe_int (nomark _)))))
          (pss_cons (ps_set (i := 5) sc_law_edit.nd rfl (.inl rfl) (pe_op op_mod (pe_callTy call_int1 (by rfl) T.n_int (by decide +kernel) (pa_cons (pe_op op_fdiv (pv 0) pe_int) pa_nil)) pe_int))
          (pss_one (ps_ret (pe_tup (pa_cons pe_str (pa_cons (pv 1) (pa_cons (pv 3) (pa_cons (pe_tup (pa_cons (pv 5) (pa_cons (pv 5) (pa_cons (pe_op op_add (pv 5) pe_int) (pa_cons pe_bl pa_nil))))) (pa_cons (C8.pe_c G_law_pick hr (by decide) (by rfl) (pa_cons (pe_op op_fdiv (pv 0) pe_int) (pa_cons (pv 2) pa_nil))) (pa_cons (C8.pe_c G_law_heads hr (by decide) (by rfl) (pa_cons (pv 0) (pa_cons (pv 2) pa_nil))) pa_nil))))))))))
          pss_nil)
        (pss_cons (ps_if (pt_cmpR op_eq (pv 4) pe_int (nomark _))
          (pss_one (ps_ret (pe_tup (pa_cons pe_str (pa_cons (pv 1) (pa_cons (C8.pe_c G_law_heads hr (by decide) (by rfl) (pa_cons (pe_op op_fdiv (pv 0) pe_int) (pa_cons (pv 2) pa_nil))) pa_nil))))))
          pss_nil)
        (pss_cons (ps_set (i := 6) sc_law_edit.nd rfl (.inl rfl) (pe_lst pa_nil))
        (pss_cons (ps_for PassesOwn.never rfl (pi_range1 (by rfl) T.n_range (pa_cons (pe_op op_add pe_int (pe_op op_mod (pe_callTy call_int1 (by rfl) T.n_int (by decide +kernel) (pa_cons (pe_op op_fdiv (pv 0) pe_int) pa_nil)) pe_int)) pa_nil)) (pg_name (i := 7) sc_law_edit.nd rfl (.inl rfl))
          (pss_cons (ps_set (i := 8) sc_law_edit.nd rfl (.inl rfl) (C8.pe_c G_law_pick hr (by decide) (by rfl) (pa_cons (pe_op op_add pe_int (pe_op op_mul pe_int (pe_op op_fdiv (pv 0) (pe_op op_add (pe_op op_mul pe_int (pv 7)) pe_int)))) (pa_cons (pv 2) pa_nil))))
          (pss_cons (ps_set (i := 9) sc_law_edit.nd rfl (.inl rfl) (C8.pe_c G_law_pick hr (by decide) (by rfl) (pa_cons (pe_op op_add pe_int (pe_op op_mul pe_int (pe_op op_fdiv (pv 0) (pe_op op_add (pe_op op_mul pe_int (pv 7)) pe_int)))) (pa_cons (pv 2) pa_nil))))
          (pss_one (ps_expr (pe_bm PySem.F.plainAttrs_list PySem.F.slot_list_append PySem.F.type_list_append mt_append (pv 6) (pa_cons (pe_tup (pa_cons (pv 8) (pa_cons (pv 9) (pa_cons (C8.pe_c G_law_place hr (by decide) (by rfl) (pa_cons (pe_op op_fdiv (pv 0) (pe_op op_add (pe_op op_mul pe_int (pv 7)) pe_int)) (pa_cons (pv 2) pa_nil))) pa_nil)))) pa_nil)))))))
        (pss_one (ps_ret (pe_tup (pa_cons pe_str (pa_cons (pv 1) (pa_cons (pe_callTy call_tuple_of (by rfl) T.n_tuple (by decide +kernel) (pa_cons (pv 6) pa_nil)) pa_nil))))))))))))), ?_⟩
    have hlen : xs.length = is.length := by rw [hD.len, List.length_map]
    refine q_asgD L (d := dPl (placeF (row / 6) is)) (ed_callI (f := fun row is => dPl (placeF row is)) (ev_op (ev_var rfl) ev_c (rv_I ⟨by decide, by decide⟩)) (ev_var rfl) hS hD hl) fun vp H1 e1 hvp => ?_
    refine q_asg (v := .int (row % 6)) (ev_op (ev_cb (ea_cons (ev_var rfl) ea_nil) rc_int) ev_c (rv_I (by show (0 : Int) < 6; decide))) fun H2 e2 => ?_
    have e02 := e1.trans e2
    refine q_when (b := decide (row % 6 = 0)) (et_is (et_test (ev_op (ev_var rfl) ev_c (rv_eq rfl))) (decide_eq_decide.mpr ⟨fun h => V.int.inj h, fun h => by rw [h]⟩)) (fun hb H3 e3 => ?_) (fun hb H3 e3 => ?_)
    · have e03 := e02.trans e3
      refine s_retD (K := K) (N := N) (d := dEd (.write id (placeF (row / 6) is) none none (headsA row is))) (L.ex e03) (ed_tup (eda_cons ed_str (eda_cons (ed_var rfl (up e03 hv1)) (eda_cons (ed_var rfl (up (e2.trans e3) hvp)) (eda_cons ed_non (eda_cons ed_non (eda_cons (ed_callI (f := fun row is => dIds (headsA row is)) (ev_var rfl) (ev_var rfl) (ex_l e03 hS) (DpAll.ex (cutN_ex e03) _ _ hD) hl) eda_nil)))))) (by show 6 ≤ 100000; decide)) fun w H4 e4 hw => q w H4 (e03.trans e4) ?_
      unfold editF
      rw [if_pos (of_decide_eq_true hb)]
      exact hw
    have n1 := of_decide_eq_false hb
    have e03 := e02.trans e3
    refine q_when (b := decide (row % 6 ≤ 3 ∨ is.length = 0)) (et_is (et_or (et_test (ev_op (ev_var rfl) ev_c rv_I0)) (fun _ => et_test (ev_op (ev_len (ev_var rfl) (ex_l e03 hS)) ev_c (rv_eq rfl)))) ?_) (fun hb H4 e4 => ?_) (fun hb H4 e4 => ?_)
    · rw [hlen, Bool.eq_iff_iff, Bool.or_eq_true, decide_eq_true_iff, decide_eq_true_iff, decide_eq_true_iff]
      exact or_congr Iff.rfl ⟨fun h => by have := V.int.inj h; omega, fun h => by rw [h]; rfl⟩
    · have e04 := e03.trans e4
      refine q_asg (v := .int (row / 19 % 3)) (ev_op (ev_cb (ea_cons (ev_op (ev_var rfl) ev_c (rv_I ⟨by decide, by decide⟩)) ea_nil) rc_int) ev_c (rv_I (by show (0 : Int) < 3; decide))) fun H5 e5 => ?_
      have e05 := e04.trans e5
      refine s_retD (K := K) (N := N) (d := dEd (.write id (placeF (row / 6) is) (some (row / 19 % 3, row / 19 % 3, row / 19 % 3 + 1, false)) (pickF (row / 29) is) (headsA row is))) (L.ex e05) (ed_tup (eda_cons ed_str (eda_cons (ed_var rfl (up e05 hv1)) (eda_cons (ed_var rfl (up (((e2.trans e3).trans e4).trans e5) hvp)) (eda_cons (ed_tup (eda_cons (ed_ofI (ev_var rfl)) (eda_cons (ed_ofI (ev_var rfl)) (eda_cons (ed_ofI (ev_op (ev_var rfl) ev_c rv_I0)) (eda_cons ed_bl eda_nil)))) (by show 4 ≤ 100000; decide)) (eda_cons (ed_callI (f := fun row is => dOp dId (pickF row is)) (ev_op (ev_var rfl) ev_c (rv_I ⟨by decide, by decide⟩)) (ev_var rfl) (ex_l e05 hS) (DpAll.ex (cutN_ex e05) _ _ hD) hl) (eda_cons (ed_callI (f := fun row is => dIds (headsA row is)) (ev_var rfl) (ev_var rfl) (ex_l e05 hS) (DpAll.ex (cutN_ex e05) _ _ hD) hl) eda_nil)))))) (by show 6 ≤ 100000; decide)) fun w H6 e6 hw => q w H6 (e05.trans e6) ?_
      unfold editF
      rw [if_neg n1, if_pos (of_decide_eq_true hb)]
      exact hw
    have n2 := of_decide_eq_false hb
    have e04 := e03.trans e4
    refine q_when (b := decide (row % 6 = 4)) (et_is (et_test (ev_op (ev_var rfl) ev_c (rv_eq rfl))) (decide_eq_decide.mpr ⟨fun h => V.int.inj h, fun h => by rw [h]⟩)) (fun hb H5 e5 => ?_) (fun hb H5 e5 => ?_)
    · have e05 := e04.trans e5
      refine s_retD (K := K) (N := N) (d := dEd (.drop id (headsA (row / 3) is))) (L.ex e05) (ed_tup (eda_cons ed_str (eda_cons (ed_var rfl (up e05 hv1)) (eda_cons (ed_callI (f := fun row is => dIds (headsA row is)) (ev_op (ev_var rfl) ev_c (rv_I ⟨by decide, by decide⟩)) (ev_var rfl) (ex_l e05 hS) (DpAll.ex (cutN_ex e05) _ _ hD) hl) eda_nil))) (by show 3 ≤ 100000; decide)) fun w H6 e6 hw => q w H6 (e05.trans e6) ?_
      unfold editF
      rw [if_neg n1, if_neg n2, if_pos (of_decide_eq_true hb)]
      exact hw
    have n3 := of_decide_eq_false hb
    have e05 := e04.trans e5
    refine q_asgL (xs := []) (el_lst ea_nil (by show 0 ≤ 100000; decide)) fun p2 H6 hp6 e6 hp2 => ?_
    have g0 : Grw K N H5 p2 [] H6 := Grw.nil hp6 e6 hp2
    have L5 := L.ex e05
    have hS5 := ex_l e05 hS
    have hD5 := DpAll.ex (cutN_ex (N := N) e05) _ _ hD
    have hv5 := up e05 hv1
    have hm := mod_bd (row / 31) 2 (by decide)
    show tSeq _ _ _ [some (.int row), some v1, some (.ref p), some vp, some (.int (row % 6)), none, some (.ref p2), none, none, none] H6
    refine q_forR1 (n := 1 + row / 31 % 2) (ea_cons (ev_op ev_c (ev_op (ev_cb (ea_cons (ev_op (ev_var rfl) ev_c (rv_I ⟨by decide, by decide⟩)) ea_nil) rc_int) ev_c (rv_I (by show (0 : Int) < 2; decide))) rv_I0) ea_nil) ⟨by omega, by omega⟩ (fun j σ' H' => ∃ a b c, σ' = [some (.int row), some v1, some (.ref p), some vp, some (.int (row % 6)), none, some (.ref p2), a, b, c] ∧ Grw K N H5 p2 (((List.range j).map (mvF row is)).map dMv) H') (fun H7 e7 => ⟨none, none, none, rfl, g0.ex e7⟩) ?_ ?_
    · rintro j σ' H' hj ⟨a, b, c, rfl, hg⟩
      have L' := hg.live L5
      have hS' := ex_l hg.2.1 hS5
      have hD' := DpAll.ex hg.sub _ _ hD5
      refine q_asgD L' (d := dOp dId (pickF (1 + 3 * (row / (37 * (j : Int) + 2))) is)) (ed_callI (f := fun row is => dOp dId (pickF row is)) (ev_op ev_c (ev_op ev_c (ev_op (ev_var rfl) (ev_op (ev_op ev_c (ev_var rfl) (rv_I (.inl (by decide)))) ev_c rv_I0) (rv_I ⟨by omega, by omega⟩)) (rv_I (.inl (by decide)))) rv_I0) (ev_var rfl) hS' hD' hl) fun vh H7 e7 hvh => ?_
      refine q_asgD (L'.ex e7) (d := dOp dId (pickF (1 + 3 * (row / (41 * (j : Int) + 3))) is)) (ed_callI (f := fun row is => dOp dId (pickF row is)) (ev_op ev_c (ev_op ev_c (ev_op (ev_var rfl) (ev_op (ev_op ev_c (ev_var rfl) (rv_I (.inl (by decide)))) ev_c rv_I0) (rv_I ⟨by omega, by omega⟩)) (rv_I (.inl (by decide)))) rv_I0) (ev_var rfl) (ex_l e7 hS') (DpAll.ex (cutN_ex e7) _ _ hD') hl) fun vl H8 e8 hvl => ?_
      have e78 := e7.trans e8
      show tDrop _ _ [some (.int row), some v1, some (.ref p), some vp, some (.int (row % 6)), none, some (.ref p2), some (.int (j : Int)), some vh, some vl] H8
      refine s_appD L5 (hg.ex e78) (ev_var rfl) (d := dMv (mvF row is j)) (ed_tup (eda_cons (ed_var rfl (up e8 hvh)) (eda_cons (ed_var rfl hvl) (eda_cons (ed_callI (f := fun row is => dPl (placeF row is)) (ev_op (ev_var rfl) (ev_op (ev_op ev_c (ev_var rfl) (rv_I (.inl (by decide)))) ev_c rv_I0) (rv_I ⟨by omega, by omega⟩)) (ev_var rfl) (ex_l e78 hS') (DpAll.ex (cutN_ex e78) _ _ hD') hl) eda_nil))) (by show 3 ≤ 100000; decide)) (by rw [List.length_map, List.length_map, List.length_range]; omega) fun H9 e9 e10 hg9 => ⟨_, _, _, rfl, ?_⟩
      rw [List.range_succ, List.map_append, List.map_append]
      exact hg9
    · rintro σ' H' ⟨a, b, c, rfl, hg⟩
      have e0' := e05.trans hg.2.1
      refine s_retD (K := K) (N := N) (d := dEd (.move id ((List.range (1 + row / 31 % 2).toNat).map (mvF row is)))) (L5.ex hg.2.1) (ed_tup (eda_cons ed_str (eda_cons (ed_var rfl (up hg.2.1 hv5)) (eda_cons (ed_tupGrw L5 hg (ev_var rfl)) eda_nil))) (by show 3 ≤ 100000; decide)) fun w H7 e7 hw => q w H7 (e0'.trans e7) ?_
      unfold editF
      rw [if_neg n1, if_neg n2, if_neg n3]
      exact hw

/-! ### law_edits -/
theorem ok_law_edits (D : Df K mg "_law_edits" s_law_edits ["script", "count"]) (T : Txt K mg) (G_law_rows : C8.Cal P w K mg base 1 "_law_rows" (sp_law_rows K) []) (G_law_edit : C8.Cal P w K mg base 3 "_law_edit" (sp_law_edit K) []) : C8.Cal P w K mg base 4 "_law_edits" (sp_law_edits K) [] := by
  refine D.cal sc_law_edits (fun vs H Q E h => ?_) (fun f cdv A outer s H vs Q E hr h => ?_)
  · obtain ⟨a, ns, n, rfl, _⟩ := h
    rfl
  · obtain ⟨a, ns, n, rfl, hS, hl, hn, q⟩ := h
    refine ⟨_,
        (pss_cons (ps_set (i := 2) sc_law_edits.nd rfl (.inl rfl) (C8.pe_c G_law_rows hr (by decide) (by rfl) (pa_cons (pv 0) (pa_cons (pv 1) pa_nil))))
        (pss_cons (ps_set (i := 3) sc_law_edits.nd rfl (.inl rfl) (pe_lst pa_nil))
        (pss_cons (ps_set (i := 4) sc_law_edits.nd rfl (.inl rfl) (pe_lst pa_nil))
        (pss_cons (ps_for PassesOwn.never rfl (pi_range1 (by rfl) T.n_range (pa_cons (pv 1) pa_nil)) (pg_name (i := 5) sc_law_edits.nd rfl (.inl rfl))
          (pss_cons (ps_set (i := 6) sc_law_edits.nd rfl (.inl rfl) (pe_tup (pa_cons (pe_op op_add (pe_op op_fdiv (pe_callTy call_int1 (by rfl) T.n_int (by decide +kernel) (pa_cons (pv 5) pa_nil)) pe_int) pe_int) (pa_cons (pe_op op_mod (pe_callTy call_int1 (by rfl) T.n_int (by decide +kernel) (pa_cons (pv 5) pa_nil)) pe_int) pa_nil))))
          (pss_cons (ps_expr (pe_bm PySem.F.plainAttrs_list PySem.F.slot_list_append PySem.F.type_list_append mt_append (pv 3) (pa_cons (C8.pe_c G_law_edit hr (by decide) (by rfl) (pa_cons (pe_ix ix_list (pv 2) (pv 5) (fun _ _ => rfl)) (pa_cons (pv 6) (pa_cons (pv 4) pa_nil)))) pa_nil)))
          (pss_one (ps_expr (pe_bm PySem.F.plainAttrs_list PySem.F.slot_list_append PySem.F.type_list_append mt_append (pv 4) (pa_cons (pv 6) pa_nil)))))))
        (pss_one (ps_ret (pv 3))))))), ?_⟩
    refine q_asgRows (ev_rows (ea_cons (ev_var rfl) (ea_cons (ev_var rfl) ea_nil)) hS hl (by omega)) fun p1 rs H1 hp1 e1 h1 hrl hr0 => ?_
    refine q_asgL (xs := []) (el_lst ea_nil (by show 0 ≤ 100000; decide)) fun p3 H2 hp3 e2 h3 => ?_
    refine q_asgL (xs := []) (el_lst ea_nil (by show 0 ≤ 100000; decide)) fun p4 H3 hp4 e3 h4 => ?_
    have hb4 : H1 p4 = none := fresh_back e2 hp4
    have ne34 : p3 ≠ p4 := ne_of_none h3 hp4
    let M : Addr → Prop := fun a => a = p3 ∨ a = p4
    refine q_forR1 (n := (n : Int)) (ea_cons (ev_var rfl) ea_nil) ⟨by omega, by omega⟩ (fun k σ' H' => ∃ accE accI x y, σ' = [some (.ref a), some (.int (n : Int)), some (.ref p1), some (.ref p3), some (.ref p4), x, y] ∧ Ex H1 H' ∧ H' p3 = some (.lst accE) ∧ H' p4 = some (.lst accI) ∧ DpAll K (cutN M H') accE ((editsF rs k).map dEd) ∧ DpAll K (cutN M H') accI ((idsTo k).map dId))
      (fun H4 e4 => ⟨[], [], none, none, rfl, (e2.trans e3).trans e4, e4 _ _ (e3 _ _ h3), e4 _ _ h4, .nil, .nil⟩) ?_ ?_
    · rintro k σ' H' hk ⟨accE, accI, x, y, rfl, eH, hE, hI, dE, dI⟩
      have L : Live M H' := fun b hb => by
        rcases hb with rfl | rfl
        · rw [hE]
          intro z
          cases z
        · rw [hI]
          intro z
          cases z
      have lE : accE.length = k := by rw [dE.len, List.length_map]; unfold editsF; rw [List.length_map, List.length_range]
      have lI : accI.length = k := by rw [dI.len, List.length_map, idsTo_len]
      refine q_asgD (N := M) (K := K) L (d := dId (idAt k)) (ed_tup (eda_cons (ed_ofI (ev_op (ev_op (ev_cb (ea_cons (ev_var rfl) ea_nil) rc_int) ev_c (rv_I ⟨by decide, by decide⟩)) ev_c rv_I0)) (eda_cons (ed_ofI (ev_op (ev_cb (ea_cons (ev_var rfl) ea_nil) rc_int) ev_c (rv_I (by show (0 : Int) < 2; decide)))) eda_nil)) (by show 2 ≤ 100000; decide)) fun vi H4 e4 hvi => ?_
      have L4 := L.ex e4
      show tSeq _ _ _ [some (.ref a), some (.int (n : Int)), some (.ref p1), some (.ref p3), some (.ref p4), some (.int (k : Int)), some vi] H4
      refine q_appM (M := M) (d := dEd (editF (rs.getD k 0) (idAt k) (idsTo k))) L4 (.inl rfl) (e4 _ _ hE) (ev_var rfl) (ed_callE (ev_op (ev_var rfl) (ev_var rfl) (rv_ixL (sq_of ((eH.trans e4) _ _ h1)) (at_int (by omega) (by omega)))) (ev_var rfl) hvi (ev_var rfl) (sq_of (e4 _ _ hI)) (DpAll.ex (cutN_ex e4) _ _ dI) (by rw [idsTo_len]; omega)) (by omega) fun ve H5 c5 k5 hE5 hve => ?_
      have hI5 : H5 p4 = some (.lst accI) := k5 _ _ (fun z => ne34 z.symm) (e4 _ _ hI)
      have e5 : Ex H1 H5 := fun b o hb => k5 b o (fun z => by rw [z, hp3] at hb; cases hb) ((eH.trans e4) b o hb)
      have L5 : Live M H5 := fun b hb => by
        rcases hb with rfl | rfl
        · rw [hE5]
          intro z
          cases z
        · rw [hI5]
          intro z
          cases z
      refine s_appM (M := M) (d := dId (idAt k)) L5 (.inr rfl) hI5 (ev_var rfl) (ed_var rfl (Dp.ex c5 _ _ hvi)) (by omega) fun vj H6 c6 k6 hI6 hvj => ?_
      refine ⟨accE ++ [ve], accI ++ [vj], _, _, rfl, fun b o hb => k6 b o (fun z => by rw [z, hb4] at hb; cases hb) (e5 b o hb), k6 _ _ ne34 hE5, hI6, ?_, ?_⟩
      · rw [editsF_up, List.map_append]
        exact (DpAll.ex (((cutN_ex e4).trans c5).trans c6) _ _ dE).snoc (Dp.ex c6 _ _ hve)
      · rw [idsTo_up, List.map_append]
        exact (DpAll.ex (((cutN_ex e4).trans c5).trans c6) _ _ dI).snoc hvj
    · rintro σ' H' ⟨accE, accI, x, y, rfl, eH, hE, hI, dE, dI⟩
      rw [show ((n : Int)).toNat = n from Int.toNat_natCast n] at dE
      refine s_ret (ev_var rfl) fun H4 e4 => q rs hrl p3 H4 (fresh_back e1 hp3) ((e1.trans eH).trans e4) ?_
      exact .lst (sq_of (e4 _ _ hE)) (DpAll.ex (cutN_sub.trans e4) _ _ dE)

/-! ### law_path_of -/
theorem ok_law_path_of (D : Df K mg "_law_path_of" s_law_path_of ["lines", "line"]) (T : Txt K mg)  : C8.Cal P w K mg base 1 "_law_path_of" (sp_law_path_of K) [] := by
  refine D.cal sc_law_path_of (fun vs H Q E h => ?_) (fun f cdv A outer s H vs Q E hr h => ?_)
  · obtain ⟨N, ds, d, L, ha, ⟨ls, l, n, r, rfl, _⟩, _⟩ := h
    exact ha.len
  · obtain ⟨N, ds, d, L, ha, ⟨ls, l, n, r, rfl, hst, hnl, hls, hrl, rfl⟩, q⟩ := h
    obtain ⟨v0, v1, rfl, h0, h1⟩ := args2 ha
    refine ⟨_,
        (pss_cons (ps_set (i := 2) sc_law_path_of.nd rfl (.inl rfl) (pe_ix ix_tup (pv 1) pe_int (fun _ _ => rfl)))
        (pss_cons (ps_set (i := 3) sc_law_path_of.nd rfl (.inl rfl) (pe_ix ix_tup (pv 1) pe_int (fun _ _ => rfl)))
        (pss_cons (ps_for PassesOwn.never rfl (pi_range1 (by rfl) T.n_range (pa_cons (pe_callB call_len_seq (by rfl) T.n_len PySem.boot_len (pa_cons (pv 0) pa_nil)) pa_nil)) (pg_name (i := 4) sc_law_path_of.nd rfl (.inl rfl))
          (pss_one (ps_for PassesOwn.never rfl (pi_list (pv 0)) (pg_name (i := 5) sc_law_path_of.nd rfl (.inl rfl))
            (pss_one (ps_if (PW.pt (pw_and (pt_cmpR op_notN (pv 3) pe_non (nomark _)) (pw_and1 (pt_cmpR (op_eqP hr.units) (pe_ix ix_tup (pv 5) pe_int (fun _ _ => rfl)) (pv 3) (nomark _)))))
              (pss_cons (ps_set (i := 2) sc_law_path_of.nd rfl (.inl rfl) (pe_op op_catA (pe_ix ix_tup (pv 5) pe_int (fun _ _ => rfl)) (pv 2)))
              (pss_cons (ps_set (i := 3) sc_law_path_of.nd rfl (.inl rfl) (pe_ix ix_tup (pv 5) pe_int (fun _ _ => rfl)))
              (pss_one ps_break)))
              pss_nil)))))
        (pss_one (ps_ret (pv 2)))))), ?_⟩
    refine q_asgD L (d := dPath l.path) (ed_ix (n := 3) (ed_var rfl h1) rfl) fun vp H1 e1 hvp => ?_
    refine q_asgD (L.ex e1) (d := dOp dId l.ins) (ed_ix (n := 2) (ed_var rfl (up e1 h1)) rfl) fun vi H2 e2 hvi => ?_
    have e02 := e1.trans e2
    have hlen : EvA (tCons (tCB (Evl.rLenS K) (tCons (tVar 0) tNil)) tNil) [some v0, some v1, some vp, some vi, none, none] H2 [.int (ls.length : Int)] := fun H3 e3 Q q2 => by
      have h0' := up (e02.trans e3) h0
      unfold dLs at h0'
      cases h0' with
      | lst hs ha =>
        refine ⟨_, rfl, _, _, rfl, .inl (ex_l cutN_sub hs), ?_⟩
        rw [ha.len, List.length_map]
        exact q2 H3 (Ex.refl H3)
    show tSeq _ _ _ [some v0, some v1, some vp, some vi, none, none] H2
    refine q_forR1 (n := (ls.length : Int)) hlen ⟨by omega, by omega⟩ (fun t σ' H' => ∃ vp vi a b o p m, σ' = [some v0, some v1, some vp, some vi, a, b] ∧ Ex H H' ∧ Dp K (cutN N H') vi (dOp dId o) ∧ Dp K (cutN N H') vp (dPath p) ∧ Std ls m o p r ∧ m ≤ n - t) (fun H3 e3 => ⟨vp, vi, none, none, l.ins, l.path, n, rfl, e02.trans e3, up e3 hvi, up (e2.trans e3) hvp, hst, Nat.le_refl _⟩) ?_ ?_
    · rintro t σ' H' ht ⟨vp, vi, a, b, o, p, m, rfl, eH, hvi, hvp, hs, hm⟩
      have L' := L.ex eH
      show tFor _ _ _ _ [some v0, some v1, some vp, some vi, some (.int (t : Int)), b] H'
      refine s_forDL L' (ed_var rfl (up eH h0)) (fun H3 i σ2 H4 => ∃ c, σ2 = [some v0, some v1, some vp, some vi, some (.int (t : Int)), c] ∧ Ex H3 H4 ∧ (o ≠ none → ((ls.take i).find? fun k => decide (some k.id = o)) = none)) (fun H3 e3 => ⟨b, rfl, Ex.refl H3, fun _ => rfl⟩) (fun H3 i σ2 H4 _ h => let ⟨_, _, h, _⟩ := h; cutN_ex h) ?_ ?_
      · rintro H3 i v d σ2 H4 e3 hd hv ⟨c, rfl, e4, hno⟩
        obtain ⟨k, hk, rfl⟩ := ls_at hd
        have e34 := e3.trans e4
        have L4 := L'.ex e34
        refine s_when (b := !o.isNone && decide (some k.id = o)) (et_and (et_test (ev_is (ev_noN L4 (ed_var rfl (up e34 hvi))) (by rw [isN_oid]))) (fun _ => et_test (ev_is (ev_eqD L4 (ed_ix (n := 0) (ed_var rfl hv) rfl) (ed_var rfl (up e34 hvi)) (pl_id _) (pl_oid _) (Nat.le_trans (dp_id _) (by decide))) (congrArg V.bl (eqv_ido k.id o))))) (fun hb H5 e5 => ?_) (fun hb H5 e5 => ?_)
        · rw [Bool.and_eq_true, decide_eq_true_iff] at hb
          obtain ⟨hb1, rfl⟩ := hb
          cases hs with
          | @up _ f m _ _ hf hs =>
            have hfk : findLine ls (some k.id) = some k := find_hit (hno (by simp)) hk (decide_eq_true rfl)
            rw [hfk] at hf
            cases hf
            have hql := hs.len
            rw [List.length_append] at hql
            refine q_asgD (L4.ex e5) (d := dPath (k.path ++ p)) ((ed_cat (ds := k.path.map PyData.str) (es := p.map PyData.str) (ed_ix (n := 3) (ed_var rfl (up e5 hv)) rfl) (ed_var rfl (up (e34.trans e5) hvp)) (by rw [List.length_map, List.length_map]; omega)).is (by unfold dPath; rw [List.map_append])) fun wp H6 e6 hwp => ?_
            refine q_asgD ((L4.ex e5).ex e6) (d := dOp dId k.ins) (ed_ix (n := 2) (ed_var rfl (up (e5.trans e6) hv)) rfl) fun wi H7 e7 hwi => ?_
            exact ⟨wp, wi, _, _, k.ins, k.path ++ p, m, rfl, (((eH.trans e34).trans e5).trans e6).trans e7, hwi, up e7 hwp, hs, by omega⟩
        · refine ⟨_, rfl, e4.trans e5, fun ho => find_miss (hno ho) hk ?_⟩
          cases o with
          | none => exact absurd rfl ho
          | some i => exact hb
      · rintro H3 σ2 H4 e3 ⟨c, rfl, e4, hno⟩
        rw [List.length_map, List.take_of_length_le (Nat.le_refl _)] at hno
        refine ⟨vp, vi, _, _, o, p, m, rfl, eH.trans (e3.trans e4), up (e3.trans e4) hvi, up (e3.trans e4) hvp, hs, ?_⟩
        cases hs with
        | root => exact Nat.zero_le _
        | up hf hs =>
          have := hno (by simp)
          unfold findLine at hf
          rw [this] at hf
          cases hf
    · rintro σ' H' ⟨vp, vi, a, b, o, p, m, rfl, eH, hvi, hvp, hs, hm⟩
      have hm0 : m = 0 := by
        rw [Int.toNat_natCast] at hm
        omega
      subst hm0
      cases hs with
      | root => exact s_retD (K := K) (L.ex eH) (ed_var rfl hvp) fun w H3 e3 hw => q w H3 (eH.trans e3) hw

/-! ### law_paths -/
theorem ok_law_paths (D : Df K mg "_law_paths" s_law_paths ["lines"]) (T : Txt K mg) (G_stands : C8.Cal P w K mg base 2 "stands" (sp_stands K) []) : C8.Cal P w K mg base 3 "_law_paths" (sp_law_paths K) [] := by
  refine D.cal sc_law_paths (fun vs H Q E h => ?_) (fun f cdv A outer s H vs Q E hr h => ?_)
  · obtain ⟨N, ds, d, L, ha, ⟨ls, sp, rfl, _⟩, _⟩ := h
    exact ha.len
  · obtain ⟨N, ds, d, L, ha, ⟨ls, sp, rfl, hsp, hls, hpl, rfl⟩, q⟩ := h
    obtain ⟨v0, rfl, h0⟩ := args1 ha
    refine ⟨_,
        (pss_one (ps_ret (pe_lc (own := [("line", 1)]) (g := gName 1) (tt := tYes) rfl sc_law_paths.nd (pi_list (pv 0)) (blkOk_by (own := [("line", 1)]) (N := ["lines", "line"]) (sc := defScope s_law_paths) (by decide +kernel)) (fun _ _ _ _ _ => (pg_name (i := 1) sc_law_paths.nd rfl (Or.inl rfl))) (fun _ _ _ _ _ => pts_nil) (fun _ _ _ _ _ => (pe_tup (pa_cons (pe_ix (show IxR _ (rIxT K) from ix_tup) (pv 1) pe_int (fun _ _ => rfl)) (pa_cons (pe_ix (show IxR _ (rIxT K) from ix_tup) (pv 1) pe_int (fun _ _ => rfl)) (pa_cons (pe_ix (show IxR _ (rIxT K) from ix_tup) (pv 1) pe_int (fun _ _ => rfl)) (pa_cons (C8.pe_c G_stands hr (by decide) (by rfl) (pa_cons (pv 0) (pa_cons (pv 1) pa_nil))) pa_nil))))))))), ?_⟩
    refine s_retD (K := K) L (ed_lcL (as := ls) dLn (fun _ => true) (dRow sp) (ed_var rfl h0) (Nat.le_trans hls (by decide)) (fun _ => rfl) (fun _ _ _ _ _ _ _ _ _ => et_yes) (fun v l M H1 hl e1 hsub LM hv _ => ?_)) fun w H1 e1 hw => q w H1 e1 (by rw [flt_all] at hw; exact hw)
    obtain ⟨n, hn⟩ := hsp l hl
    exact ed_tup (eda_cons (ed_ix (n := 0) (ed_var rfl hv) rfl) (eda_cons (ed_ix (n := 1) (ed_var rfl hv) rfl) (eda_cons (ed_ix (n := 4) (ed_var rfl hv) rfl) (eda_cons (ed_call (eda_cons (ed_var rfl (Dp.ex hsub _ _ h0)) (eda_cons (ed_var rfl hv) eda_nil)) ⟨ls, l, n, sp l.id, rfl, hn, hpl l hl, rfl⟩) eda_nil)))) (by show 4 ≤ 100000; decide)

/-! ### law -/
theorem ok_law {f : Addr} {fd : FuncData} (F : Fun K "law" "law" s_law f fd) (T : Txt K mg) (G_stands : C8.Cal P w K mg base 2 "stands" (sp_stands K) []) (G_lines_after : C8.Cal P w K mg base 5 "lines_after" (sp_lines_after K) []) (G_lines_of : C8.Cal P w K mg base 7 "lines_of" (sp_lines_of K) []) (G_law_rows : C8.Cal P w K mg base 1 "_law_rows" (sp_law_rows K) []) (G_law_heads : C8.Cal P w K mg base 2 "_law_heads" (sp_law_heads K) []) (G_law_edits : C8.Cal P w K mg base 4 "_law_edits" (sp_law_edits K) []) (G_law_path_of : C8.Cal P w K mg base 1 "_law_path_of" (sp_law_path_of K) []) (G_law_paths : C8.Cal P w K mg base 3 "_law_paths" (sp_law_paths K) []) : FnOk P w K mg base CX0 8 f fd ["script"] (spLaw K) := by
  refine F.ok sc_law (fun vs H Q E h => ?_) (fun cdv A outer s H vs Q E hr h => ?_)
  · obtain ⟨a, ns, rfl, _⟩ := h
    rfl
  · obtain ⟨a, ns, rfl, hS, hl, q⟩ := h
    refine ⟨_,
        (pss_cons (ps_set (i := 1) sc_law.nd rfl (.inl rfl) (C8.pe_c G_law_edits hr (by decide) (by rfl) (pa_cons (pv 0) (pa_cons pe_int pa_nil))))
        (pss_cons (ps_set (i := 2) sc_law.nd rfl (.inl rfl) (C8.pe_c G_lines_of hr (by decide) (by rfl) (pa_cons (pv 1) pa_nil)))
        (pss_cons (ps_for PassesOwn.never rfl (pi_list (pv 2)) (pg_name (i := 3) sc_law.nd rfl (.inl rfl))
          (pss_one (ps_if (pt_cmpR (op_neP hr.units) (C8.pe_c G_stands hr (by decide) (by rfl) (pa_cons (pv 2) (pa_cons (pv 3) pa_nil))) (C8.pe_c G_law_path_of hr (by decide) (by rfl) (pa_cons (pv 2) (pa_cons (pv 3) pa_nil))) (nomark _))
            (pss_one (ps_ret pe_bl))
            pss_nil)))
        (pss_cons (ps_set (i := 4) sc_law.nd rfl (.inl rfl) (C8.pe_c G_law_rows hr (by decide) (by rfl) (pa_cons (pv 0) (pa_cons pe_int pa_nil))))
        (pss_cons (ps_set (i := 5) sc_law.nd rfl (.inl rfl) (C8.pe_c G_law_heads hr (by decide) (by rfl) (pa_cons (pe_op op_mul pe_int (pe_op op_add pe_int (pe_op op_mul pe_int (pe_op op_mod (pe_callTy call_int1 (by rfl) T.n_int (by decide +kernel) (pa_cons (pe_ix ix_list (pv 4) pe_int (fun _ _ => rfl)) pa_nil)) pe_int)))) (pa_cons (pe_lc (own := [("line", 3)]) (g := gName 3) (tt := tYes) rfl sc_law.nd (pi_list (pv 2)) (blkOk_by (own := [("line", 3)]) (N := ["script", "edits", "lines", "line", "rows", "heads", "folders", "dropped", "after", "row"]) (sc := defScope s_law) (by decide +kernel)) (fun _ _ _ _ _ => (pg_name (i := 3) sc_law.nd rfl (Or.inl rfl))) (fun _ _ _ _ _ => pts_nil) (fun _ _ _ _ _ => (pe_ix (show IxR _ (rIxT K) from ix_tup) (pv 3) pe_int (fun _ _ => rfl)))) pa_nil))))
        (pss_cons (ps_set (i := 6) sc_law.nd rfl (.inl rfl) (pe_callTy call_tuple_of (by rfl) T.n_tuple (by decide +kernel) (pa_cons (pe_lc (own := [("line", 3)]) (g := gName 3) rfl sc_law.nd (pi_list (pv 2)) (blkOk_by (own := [("line", 3)]) (N := ["script", "edits", "lines", "line", "rows", "heads", "folders", "dropped", "after", "row"]) (sc := defScope s_law) (by decide +kernel)) (fun _ _ _ _ _ => (pg_name (i := 3) sc_law.nd rfl (Or.inl rfl))) (fun _ _ _ _ _ => (pts_one (pt_cmpR op_isN (pe_ix (show IxR _ (rIxT K) from ix_tup) (pv 3) pe_int (fun _ _ => rfl)) pe_non (nomark _)))) (fun _ _ _ _ _ => (pe_ix (show IxR _ (rIxT K) from ix_tup) (pv 3) pe_int (fun _ _ => rfl)))) pa_nil)))
        (pss_cons (ps_for PassesOwn.never rfl (pi_tup (pe_tup (pa_cons (pv 5) (pa_cons (pv 6) pa_nil)))) (pg_name (i := 7) sc_law.nd rfl (.inr rfl))
          (pss_cons (ps_set (i := 8) sc_law.nd rfl (.inl rfl) (C8.pe_c G_lines_after hr (by decide) (by rfl) (pa_cons (pv 2) (pa_cons (pe_tup (pa_cons pe_str (pa_cons (pe_tup (pa_cons pe_int (pa_cons pe_int pa_nil))) (pa_cons (pv 7) pa_nil)))) pa_nil))))
          (pss_one (ps_if (pt_cmpR (op_neP hr.units) (C8.pe_c G_law_paths hr (by decide) (by rfl) (pa_cons (pv 8) pa_nil)) (pe_lc (own := [("row", 9)]) (g := gName 9) rfl sc_law.nd (pi_list (C8.pe_c G_law_paths hr (by decide) (by rfl) (pa_cons (pv 2) pa_nil))) (blkOk_by (own := [("row", 9)]) (N := ["script", "edits", "lines", "line", "rows", "heads", "folders", "dropped", "after", "row"]) (sc := defScope s_law) (by decide +kernel)) (fun _ _ _ _ _ => (pg_name (i := 9) sc_law.nd rfl (Or.inl rfl))) (fun _ _ _ _ _ => (pts_one (pt_cmpR (show OpR _ _ (rInD K true) from op_niD hr.units) (pe_ix (show IxR _ (rIxT K) from ix_tup) (pv 9) pe_int (fun _ _ => rfl)) (pv 7) (by with_unfolding_all rfl)))) (fun _ _ _ _ _ => (pv 9))) (nomark _))
            (pss_one (ps_ret pe_bl))
            pss_nil))))
        (pss_one (ps_ret (pe_callB (cr_all rfl) (by rfl) T.n_all (by decide +kernel) (pa_cons (pe_lc (own := [("line", 3)]) (g := gName 3) (tt := tYes) rfl sc_law.nd (pi_list (pv 8)) (blkOk_by (own := [("line", 3)]) (N := ["script", "edits", "lines", "line", "rows", "heads", "folders", "dropped", "after", "row"]) (sc := defScope s_law) (by decide +kernel)) (fun _ _ _ _ _ => (pg_name (i := 3) sc_law.nd rfl (Or.inl rfl))) (fun _ _ _ _ _ => pts_nil) (fun _ _ _ _ _ => (pe_and (pe_cmpR op_isN (pe_ix (show IxR _ (rIxT K) from ix_tup) (pv 3) pe_int (fun _ _ => rfl)) pe_non (nomark _)) (pe_one (pe_cmpR op_notN (pe_ix (show IxR _ (rIxT K) from ix_tup) (pv 3) pe_int (fun _ _ => rfl)) pe_non (nomark _)))))) pa_nil))))))))))), ?_⟩
    refine q_asgH (R := fun v H' => ∃ rs : List Int, ∃ p, v = .ref p ∧ Dp K H' (.ref p) (.list ((editsF rs 30).map dEd))) (eh_call (vs := [.ref a, .int ((30 : Nat) : Int)]) (ea_cons (ev_var rfl) (ea_cons ev_c ea_nil)) fun H1 e1 Q q1 E => ⟨a, ns, 30, rfl, ex_l e1 hS, hl, by decide, fun rs _ p H2 _ e2 hd => q1 _ H2 e2 ⟨rs, p, rfl, hd⟩⟩) ?_
    rintro _ H1 e1 ⟨rs, p1, rfl, hd1⟩
    obtain ⟨ls, U, hfold, hOk, hUl, _⟩ := drawn_fold rs 30 (by decide)
    obtain ⟨r, S, hW⟩ := id hOk
    obtain ⟨sp, hsp⟩ := hW.stands
    have hU : U.length ≤ 200 := by omega
    have lenOf : ∀ {l : List Line}, Ok l U → l.length ≤ 30 := fun {l} ⟨_, _, h⟩ => by
      have := nodup_sub h.nd fun x hx => by
        obtain ⟨k, hk, rfl⟩ := List.mem_map.mp hx
        exact (h.idU k hk).1
      rw [List.length_map] at this
      omega
    have spl : ∀ {l : List Line}, Ok l U → Stands l sp → ∀ k ∈ l, (sp k.id).length ≤ 90000 := fun {l} hO hs k hk => by
      obtain ⟨_, _, h⟩ := id hO
      obtain ⟨n, hn⟩ := hs k hk
      have h1 := std_short h hU hn
      have h2 := h.high_len hn
      have h3 := lenOf hO
      have h4 := (h.len k hk).2
      have h5 := nodup_sub (h.snd k hk) fun x hx => (h.gone k hk x hx).1
      omega
    have hll := lenOf hOk
    refine q_asgD (K := K) (N := fun _ => False) live0 (d := dLs ls) (ed_call (eda_cons (ed_var rfl (Dp.ex cut0 _ _ hd1)) eda_nil) ⟨editsF rs 30, ls, rfl, hfold, rfl⟩) fun vl H2 e2 hvl => ?_
    have e02 := e1.trans e2
    refine q_forDL (K := K) (N := fun _ => False) live0 (ds := ls.map dLn) (ed_var rfl hvl) (fun H3 i σ' H' => ∃ x, σ' = [some (.ref a), some (.ref p1), some vl, x, none, none, none, none, none, none] ∧ Ex H3 H') (fun H3 e3 => ⟨none, rfl, Ex.refl H3⟩) (fun H3 i σ' H' _ h => let ⟨_, _, h⟩ := h; cutN_ex h) ?_ ?_
    · rintro H3 i v d σ' H' e3 hd hv ⟨x, rfl, e4⟩
      obtain ⟨l, hli, rfl⟩ := ls_at hd
      have hlm := List.mem_of_getElem? hli
      obtain ⟨n, hn⟩ := hsp l hlm
      have hq := spl hOk hsp l hlm
      have e34 := e3.trans e4
      refine s_when (b := false) (et_is (et_test (ev_neD (N := fun _ => False) live0 (ed_call (eda_cons (ed_var rfl (up e34 hvl)) (eda_cons (ed_var rfl hv) eda_nil)) ⟨ls, l, n, sp l.id, rfl, hn, hq, rfl⟩) (ed_call (eda_cons (ed_var rfl (up e34 hvl)) (eda_cons (ed_var rfl hv) eda_nil)) ⟨ls, l, n, sp l.id, rfl, hn, hW.high_len hn, by omega, hq, rfl⟩) (pl_path _) (pl_path _) (Nat.le_trans (dp_path _) (by decide)))) (by rw [eqv_path, decide_eq_true rfl]; rfl)) (fun hb => by cases hb) (fun _ H5 e5 => ⟨_, rfl, e4.trans e5⟩)
    · rintro H3 σ' H' e3 ⟨x, rfl, e4⟩
      have eH := (e02.trans e3).trans e4
      refine q_asgRows (ev_rows (n := 31) (ea_cons (ev_var rfl) (ea_cons ev_c ea_nil)) (ex_l eH hS) hl (by decide)) fun p4 rs2 H4 hp4 e5 h4 hrl hr0 => ?_
      have hl4 := up ((e3.trans e4).trans e5) hvl
      refine q_asgD (K := K) (N := fun _ => False) live0 (d := dIds (headsA (17 * (3 + 4 * (rs2.getD 30 0 % 100000))) (ls.map (·.hd)))) (ed_callIL (f := fun row is => dIds (headsA row is)) (is := ls.map (·.hd)) (ev_op ev_c (ev_op ev_c (ev_op ev_c (ev_op (ev_cb (ea_cons (ev_op (ev_var rfl) ev_c (rv_ixL (sq_of h4) (at_int (i := 30) (by decide) (by omega)))) ea_nil) rc_int) ev_c (rv_I (by show (0 : Int) < 100000; decide))) (rv_I (.inl (by decide)))) rv_I0) (rv_I (.inl (by decide)))) ((ed_lcL (as := ls) dLn (fun _ => true) (fun l => dId l.hd) (ed_var rfl hl4) (by omega) (fun _ => rfl) (fun _ _ _ _ _ _ _ _ _ => et_yes) (fun v l M H6 _ _ _ _ hv _ => ed_ix (n := 1) (ed_var rfl hv) rfl)).is (by rw [flt_all, List.map_map]; rfl)) (by rw [List.length_map]; omega)) fun vh H5 e6 hvh => ?_
      generalize headsA (17 * (3 + 4 * (rs2.getD 30 0 % 100000))) (ls.map (·.hd)) = hs1 at hvh
      have hl5 := up e6 hl4
      refine q_asgD (K := K) (N := fun _ => False) live0 (d := dIds ((ls.filter fun l => l.ct.isNone).map (·.hd))) ((ed_tupOf (ed_lcL (as := ls) dLn (fun l => l.ct.isNone) (fun l => dId l.hd) (ed_var rfl hl5) (by omega) (fun _ => rfl) (fun v l M H6 _ _ _ LM hv => et_test (ev_is (ev_isN LM (ed_ix (n := 4) (ed_var rfl hv) rfl)) (by rw [isN_oct]))) (fun v l M H6 _ _ _ LM hv _ => ed_ix (n := 1) (ed_var rfl hv) rfl))).is (by unfold dIds; rw [List.map_map]; rfl)) fun vf H6 e7 hvf => ?_
      have hl6 := up e7 hl5
      have hs2 : ∀ l ∈ ls, l.ct = none → l.hd ∈ (ls.filter fun l => l.ct.isNone).map (·.hd) := fun l hl hc => List.mem_map.mpr ⟨l, List.mem_filter.mpr ⟨hl, by rw [hc]; rfl⟩, rfl⟩
      generalize (ls.filter fun l => l.ct.isNone).map (·.hd) = hsf at hvf hs2
      show tSeq _ _ _ [some (.ref a), some (.ref p1), some vl, x, some (.ref p4), some vh, some vf, none, none, none] H6
      refine q_forDT (K := K) (N := fun _ => False) live0 (ds := [dIds hs1, dIds hsf]) (ed_tup (eda_cons (ed_var rfl (up e7 hvh)) (eda_cons (ed_var rfl hvf) eda_nil)) (by show 2 ≤ 100000; decide)) (fun H7 i σ' H' => ∃ y z, σ' = [some (.ref a), some (.ref p1), some vl, x, some (.ref p4), some vh, some vf, y, z, none] ∧ Ex H7 H' ∧ (i = 2 → ∃ va, z = some va ∧ Dp K (cutN (fun _ => False) H') va (dLs (woHeads ls hsf)))) (fun H7 e8 => ⟨none, none, rfl, Ex.refl H7, fun h => by cases h⟩) (fun H7 i σ' H' _ h => let ⟨_, _, _, h, _⟩ := h; cutN_ex h) ?_ ?_
      · rintro H7 i v d σ' H' e8 hd hv ⟨y, z, rfl, e9, _⟩
        obtain ⟨hs, rfl, hi⟩ : ∃ hs, d = dIds hs ∧ (i + 1 = 2 → hs = hsf) := by
          match i, hd with
          | 0, hd => exact ⟨hs1, (Option.some.inj hd).symm, fun h => by cases h⟩
          | 1, hd => exact ⟨hsf, (Option.some.inj hd).symm, fun _ => rfl⟩
        have e67 := e8.trans e9
        have hO2 := Ok.heads hs hOk
        obtain ⟨m1, m2⟩ := heads_map (dRow sp) (fun _ _ _ => rfl) hs hOk hsp
        show tSeq _ _ _ [some (.ref a), some (.ref p1), some vl, x, some (.ref p4), some vh, some vf, some v, z, none] H'
        refine q_asgD (K := K) (N := fun _ => False) live0 (d := dLs (woHeads ls hs)) (ed_call (eda_cons (ed_var rfl (up e67 hl6)) (eda_cons (ed_tup (eda_cons ed_str (eda_cons (ed_tup (eda_cons ed_int (eda_cons ed_int eda_nil)) (by show 2 ≤ 100000; decide)) (eda_cons (ed_var rfl hv) eda_nil))) (by show 3 ≤ 100000; decide)) eda_nil)) ⟨ls, .drop (99, 0) hs, woHeads ls hs, rfl, .drop _ hs fun i => (Ok.heads _ hOk).short (by omega), rfl⟩) fun va H8 e10 hva => ?_
        have hl8 := up (e67.trans e10) hl6
        show tIfS _ _ _ _ [some (.ref a), some (.ref p1), some vl, x, some (.ref p4), some vh, some vf, some v, some va, none] H8
        refine s_when (b := false) (et_is (et_test (ev_neD (N := fun _ => False) live0 (ed_call (eda_cons (ed_var rfl hva) eda_nil) ⟨woHeads ls hs, sp, rfl, m2, by have := lenOf hO2; omega, spl hO2 m2, rfl⟩) (ed_lcL (as := ls) (dRow sp) (fun l => !decide (l.hd ∈ hs)) (dRow sp) (ed_call (eda_cons (ed_var rfl hl8) eda_nil) ⟨ls, sp, rfl, hsp, by omega, spl hOk hsp, rfl⟩) (by omega) (fun _ => rfl) (fun v' l M H9 _ _ hsub LM hv' => et_is (et_test (ev_inD (neg := true) LM (ed_ix (n := 1) (ed_var rfl hv') rfl) (.inr (ed_var rfl (Dp.ex hsub _ _ (up e10 hv)))) (pl_ids hs) (pl_id _) (Nat.le_trans (dp_id _) (by decide)))) (by rw [if_pos rfl, any_ids])) (fun v' l M H9 _ _ _ _ hv' _ => ed_var rfl hv')) (pl_all (pl_row sp) _) (pl_all (pl_row sp) _) (by have := dp_all (dp_row sp) (woHeads ls hs); show _ + 1 ≤ 60; omega))) (by rw [m1, SeqAt.eqv_refl_plain _ (show PyData.plain (.list _) = true from pl_all (pl_row sp) _)]; rfl)) (fun hb => by cases hb) (fun _ H9 e11 => ⟨_, _, rfl, (e9.trans e10).trans e11, fun h2 => ⟨va, rfl, by rw [← hi h2]; exact up e11 hva⟩⟩)
      · rintro H7 σ' H' e8 ⟨y, z, rfl, e9, hz⟩
        obtain ⟨va, rfl, hva⟩ := hz rfl
        obtain ⟨_, _, hW2⟩ := Ok.heads hsf hOk
        have hlen2 := lenOf (Ok.heads hsf hOk)
        obtain ⟨m1, _⟩ := heads_map (fun l : Line => l.ct) (fun _ _ _ => rfl) hsf hOk hsp
        have hct : ∀ l ∈ woHeads ls hsf, l.ct ≠ none := fun l hl hc => by
          have : l.ct ∈ (ls.filter fun l => !decide (l.hd ∈ hsf)).map (fun l : Line => l.ct) := m1 ▸ List.mem_map.mpr ⟨l, hl, rfl⟩
          obtain ⟨k, hk, hkc⟩ := List.mem_map.mp this
          obtain ⟨hk1, hk2⟩ := List.mem_filter.mp hk
          have hm := hs2 k hk1 (hkc.trans hc)
          rw [decide_eq_true hm] at hk2
          cases hk2
        have hin : ∀ l ∈ woHeads ls hsf, l.ins = none := fun l hl => by
          cases hi : l.ins with
          | none => rfl
          | some i =>
            obtain ⟨f, hf, _, hfc, _⟩ := hW2.up l hl i hi
            exact absurd hfc (hct f hf)
        have hb : ((woHeads ls hsf).map fun l => l.ins.isNone && !l.ct.isNone).all id = true := by
          rw [List.all_map, List.all_eq_true]
          intro l hl
          show (l.ins.isNone && !l.ct.isNone) = true
          rw [hin l hl]
          cases hc : l.ct with
          | none => exact absurd hc (hct l hl)
          | some c => rfl
        show tRet _ _ [some (.ref a), some (.ref p1), some vl, x, some (.ref p4), some vh, some vf, y, some va, none] H'
        refine s_ret (ev_is (ev_allD (K := K) (N := fun _ => False) (bs := (woHeads ls hsf).map fun l => l.ins.isNone && !l.ct.isNone) live0 ?_) (by rw [hb])) fun H8 e10 => q H8
        have h := ed_lcL (K := K) (N := fun _ => False) (as := woHeads ls hsf) dLn (fun _ => true) (fun l => PyData.bool (l.ins.isNone && !l.ct.isNone)) (ed_var (σ := [some (.ref a), some (.ref p1), some vl, x, some (.ref p4), some vh, some vf, y, some va, none]) (i := 8) rfl hva) (by omega) (j := 3) (ws := [3]) (fun _ => rfl) (fun _ _ _ _ _ _ _ _ _ => et_yes) (te := tAndV (tOp (fun x y H Q => y = .non ∧ Q (.bl (decide (x = .non))) H) (tOp (rIxT K) (tVar 3) (tC (.int 2))) (tC .non)) (tOp (fun x y H Q => y = .non ∧ Q (.bl (!decide (x = .non))) H) (tOp (rIxT K) (tVar 3) (tC (.int 4))) (tC .non))) (fun v l M H9 _ _ _ LM hv _ => ed_v (ev_andV (ev_is (ev_isN LM (ed_ix (n := 2) (ed_var rfl hv) rfl)) (by rw [isN_oid])) (fun _ => ev_is (ev_noN LM (ed_ix (n := 4) (ed_var rfl hv) rfl)) (by rw [isN_oct]))) (.bl _))
        rw [flt_all] at h
        rw [List.map_map]
        exact h

end
/-! ### what the top has made; the law's own head -/
theorem all_mk {l : PySem.W.OpenLaw} {w : World} {K : PySem.W.Frag} {h : Heap} {mg : Str → Option Value} {fa f1 f2 f3 f4 f5 f6 f7 f8 f9 f10 f11 f12 f13 f14 f15 f16 f17 f18 f19 f20 f21 f22 f23 f24 f25 : Addr} (X : K.In h) (G : h.Ns mainGlobals mg) (hfa : mg "law" = some (.ref fa)) 
    {od1 an1 od2 an2 od3 an3 od4 an4 od5 an5 od6 an6 od7 an7 od8 an8 od9 an9 od10 an10 od11 an11 od12 an12 od13 an13 od14 an14 od15 an15 od16 an16 od17 an17 od18 an18 od19 an19 od20 an20 od21 an21 od22 an22 od23 an23 od24 an24 od25 an25 : Option Addr} {sl1 sl2 sl3 sl4 sl5 sl6 sl7 sl8 sl9 sl10 sl11 sl12 sl13 sl14 sl15 sl16 sl17 sl18 sl19 sl20 sl21 sl22 sl23 sl24 sl25 : Array (Option Value)} {oc1 kV1 dc1 pm1 cd1 ct1 oc2 kV2 dc2 pm2 cd2 ct2 oc3 kV3 dc3 pm3 cd3 ct3 oc4 kV4 dc4 pm4 cd4 ct4 oc5 kV5 dc5 pm5 cd5 ct5 oc6 kV6 dc6 pm6 cd6 ct6 oc7 kV7 dc7 pm7 cd7 ct7 oc8 kV8 dc8 pm8 cd8 ct8 oc9 kV9 dc9 pm9 cd9 ct9 oc10 kV10 dc10 pm10 cd10 ct10 oc11 kV11 dc11 pm11 cd11 ct11 oc12 kV12 dc12 pm12 cd12 ct12 oc13 kV13 dc13 pm13 cd13 ct13 oc14 kV14 dc14 pm14 cd14 ct14 oc15 kV15 dc15 pm15 cd15 ct15 oc16 kV16 dc16 pm16 cd16 ct16 oc17 kV17 dc17 pm17 cd17 ct17 oc18 kV18 dc18 pm18 cd18 ct18 oc19 kV19 dc19 pm19 cd19 ct19 oc20 kV20 dc20 pm20 cd20 ct20 oc21 kV21 dc21 pm21 cd21 ct21 oc22 kV22 dc22 pm22 cd22 ct22 oc23 kV23 dc23 pm23 cd23 ct23 oc24 kV24 dc24 pm24 cd24 ct24 oc25 kV25 dc25 pm25 cd25 ct25 : Value}
    (a1 : PySem.W.nsIn K mainGlobals "find_line" = some (some (.ref f1))) (l1 : K.lookup f1 = some ⟨oc1, od1, .func (PySem.W.fnOf "find_line" "find_line" (defArgs s_find_line) (defBody s_find_line) (defScope s_find_line) .none kV1 dc1 pm1 an1 cd1 ct1), sl1⟩) (c1 : PySem.W.codeIn K cd1 "find_line" = true) (k1 : PySem.W.keepIn K (.ref f1) = true)
    (a2 : PySem.W.nsIn K mainGlobals "find_head" = some (some (.ref f2))) (l2 : K.lookup f2 = some ⟨oc2, od2, .func (PySem.W.fnOf "find_head" "find_head" (defArgs s_find_head) (defBody s_find_head) (defScope s_find_head) .none kV2 dc2 pm2 an2 cd2 ct2), sl2⟩) (c2 : PySem.W.codeIn K cd2 "find_head" = true) (k2 : PySem.W.keepIn K (.ref f2) = true)
    (a3 : PySem.W.nsIn K mainGlobals "stands" = some (some (.ref f3))) (l3 : K.lookup f3 = some ⟨oc3, od3, .func (PySem.W.fnOf "stands" "stands" (defArgs s_stands) (defBody s_stands) (defScope s_stands) .none kV3 dc3 pm3 an3 cd3 ct3), sl3⟩) (c3 : PySem.W.codeIn K cd3 "stands" = true) (k3 : PySem.W.keepIn K (.ref f3) = true)
    (a4 : PySem.W.nsIn K mainGlobals "settle" = some (some (.ref f4))) (l4 : K.lookup f4 = some ⟨oc4, od4, .func (PySem.W.fnOf "settle" "settle" (defArgs s_settle) (defBody s_settle) (defScope s_settle) .none kV4 dc4 pm4 an4 cd4 ct4), sl4⟩) (c4 : PySem.W.codeIn K cd4 "settle" = true) (k4 : PySem.W.keepIn K (.ref f4) = true)
    (a5 : PySem.W.nsIn K mainGlobals "stands_in" = some (some (.ref f5))) (l5 : K.lookup f5 = some ⟨oc5, od5, .func (PySem.W.fnOf "stands_in" "stands_in" (defArgs s_stands_in) (defBody s_stands_in) (defScope s_stands_in) .none kV5 dc5 pm5 an5 cd5 ct5), sl5⟩) (c5 : PySem.W.codeIn K cd5 "stands_in" = true) (k5 : PySem.W.keepIn K (.ref f5) = true)
    (a6 : PySem.W.nsIn K mainGlobals "move_line" = some (some (.ref f6))) (l6 : K.lookup f6 = some ⟨oc6, od6, .func (PySem.W.fnOf "move_line" "move_line" (defArgs s_move_line) (defBody s_move_line) (defScope s_move_line) .none kV6 dc6 pm6 an6 cd6 ct6), sl6⟩) (c6 : PySem.W.codeIn K cd6 "move_line" = true) (k6 : PySem.W.keepIn K (.ref f6) = true)
    (a7 : PySem.W.nsIn K mainGlobals "without_line" = some (some (.ref f7))) (l7 : K.lookup f7 = some ⟨oc7, od7, .func (PySem.W.fnOf "without_line" "without_line" (defArgs s_without_line) (defBody s_without_line) (defScope s_without_line) .none kV7 dc7 pm7 an7 cd7 ct7), sl7⟩) (c7 : PySem.W.codeIn K cd7 "without_line" = true) (k7 : PySem.W.keepIn K (.ref f7) = true)
    (a8 : PySem.W.nsIn K mainGlobals "without_heads" = some (some (.ref f8))) (l8 : K.lookup f8 = some ⟨oc8, od8, .func (PySem.W.fnOf "without_heads" "without_heads" (defArgs s_without_heads) (defBody s_without_heads) (defScope s_without_heads) .none kV8 dc8 pm8 an8 cd8 ct8), sl8⟩) (c8 : PySem.W.codeIn K cd8 "without_heads" = true) (k8 : PySem.W.keepIn K (.ref f8) = true)
    (a9 : PySem.W.nsIn K mainGlobals "with_new_line" = some (some (.ref f9))) (l9 : K.lookup f9 = some ⟨oc9, od9, .func (PySem.W.fnOf "with_new_line" "with_new_line" (defArgs s_with_new_line) (defBody s_with_new_line) (defScope s_with_new_line) .none kV9 dc9 pm9 an9 cd9 ct9), sl9⟩) (c9 : PySem.W.codeIn K cd9 "with_new_line" = true) (k9 : PySem.W.keepIn K (.ref f9) = true)
    (a10 : PySem.W.nsIn K mainGlobals "first_replaced" = some (some (.ref f10))) (l10 : K.lookup f10 = some ⟨oc10, od10, .func (PySem.W.fnOf "first_replaced" "first_replaced" (defArgs s_first_replaced) (defBody s_first_replaced) (defScope s_first_replaced) .none kV10 dc10 pm10 an10 cd10 ct10), sl10⟩) (c10 : PySem.W.codeIn K cd10 "first_replaced" = true) (k10 : PySem.W.keepIn K (.ref f10) = true)
    (a11 : PySem.W.nsIn K mainGlobals "after_text" = some (some (.ref f11))) (l11 : K.lookup f11 = some ⟨oc11, od11, .func (PySem.W.fnOf "after_text" "after_text" (defArgs s_after_text) (defBody s_after_text) (defScope s_after_text) .none kV11 dc11 pm11 an11 cd11 ct11), sl11⟩) (c11 : PySem.W.codeIn K cd11 "after_text" = true) (k11 : PySem.W.keepIn K (.ref f11) = true)
    (a12 : PySem.W.nsIn K mainGlobals "after_move" = some (some (.ref f12))) (l12 : K.lookup f12 = some ⟨oc12, od12, .func (PySem.W.fnOf "after_move" "after_move" (defArgs s_after_move) (defBody s_after_move) (defScope s_after_move) .none kV12 dc12 pm12 an12 cd12 ct12), sl12⟩) (c12 : PySem.W.codeIn K cd12 "after_move" = true) (k12 : PySem.W.keepIn K (.ref f12) = true)
    (a13 : PySem.W.nsIn K mainGlobals "lines_after" = some (some (.ref f13))) (l13 : K.lookup f13 = some ⟨oc13, od13, .func (PySem.W.fnOf "lines_after" "lines_after" (defArgs s_lines_after) (defBody s_lines_after) (defScope s_lines_after) .none kV13 dc13 pm13 an13 cd13 ct13), sl13⟩) (c13 : PySem.W.codeIn K cd13 "lines_after" = true) (k13 : PySem.W.keepIn K (.ref f13) = true)
    (a14 : PySem.W.nsIn K mainGlobals "fold_lines" = some (some (.ref f14))) (l14 : K.lookup f14 = some ⟨oc14, od14, .func (PySem.W.fnOf "fold_lines" "fold_lines" (defArgs s_fold_lines) (defBody s_fold_lines) (defScope s_fold_lines) .none kV14 dc14 pm14 an14 cd14 ct14), sl14⟩) (c14 : PySem.W.codeIn K cd14 "fold_lines" = true) (k14 : PySem.W.keepIn K (.ref f14) = true)
    (a15 : PySem.W.nsIn K mainGlobals "lines_of" = some (some (.ref f15))) (l15 : K.lookup f15 = some ⟨oc15, od15, .func (PySem.W.fnOf "lines_of" "lines_of" (defArgs s_lines_of) (defBody s_lines_of) (defScope s_lines_of) .none kV15 dc15 pm15 an15 cd15 ct15), sl15⟩) (c15 : PySem.W.codeIn K cd15 "lines_of" = true) (k15 : PySem.W.keepIn K (.ref f15) = true)
    (a16 : PySem.W.nsIn K mainGlobals "_law_rows" = some (some (.ref f16))) (l16 : K.lookup f16 = some ⟨oc16, od16, .func (PySem.W.fnOf "_law_rows" "_law_rows" (defArgs s_law_rows) (defBody s_law_rows) (defScope s_law_rows) .none kV16 dc16 pm16 an16 cd16 ct16), sl16⟩) (c16 : PySem.W.codeIn K cd16 "_law_rows" = true) (k16 : PySem.W.keepIn K (.ref f16) = true)
    (a17 : PySem.W.nsIn K mainGlobals "_law_path" = some (some (.ref f17))) (l17 : K.lookup f17 = some ⟨oc17, od17, .func (PySem.W.fnOf "_law_path" "_law_path" (defArgs s_law_path) (defBody s_law_path) (defScope s_law_path) .none kV17 dc17 pm17 an17 cd17 ct17), sl17⟩) (c17 : PySem.W.codeIn K cd17 "_law_path" = true) (k17 : PySem.W.keepIn K (.ref f17) = true)
    (a18 : PySem.W.nsIn K mainGlobals "_law_pick" = some (some (.ref f18))) (l18 : K.lookup f18 = some ⟨oc18, od18, .func (PySem.W.fnOf "_law_pick" "_law_pick" (defArgs s_law_pick) (defBody s_law_pick) (defScope s_law_pick) .none kV18 dc18 pm18 an18 cd18 ct18), sl18⟩) (c18 : PySem.W.codeIn K cd18 "_law_pick" = true) (k18 : PySem.W.keepIn K (.ref f18) = true)
    (a19 : PySem.W.nsIn K mainGlobals "_law_place" = some (some (.ref f19))) (l19 : K.lookup f19 = some ⟨oc19, od19, .func (PySem.W.fnOf "_law_place" "_law_place" (defArgs s_law_place) (defBody s_law_place) (defScope s_law_place) .none kV19 dc19 pm19 an19 cd19 ct19), sl19⟩) (c19 : PySem.W.codeIn K cd19 "_law_place" = true) (k19 : PySem.W.keepIn K (.ref f19) = true)
    (a20 : PySem.W.nsIn K mainGlobals "_law_heads" = some (some (.ref f20))) (l20 : K.lookup f20 = some ⟨oc20, od20, .func (PySem.W.fnOf "_law_heads" "_law_heads" (defArgs s_law_heads) (defBody s_law_heads) (defScope s_law_heads) .none kV20 dc20 pm20 an20 cd20 ct20), sl20⟩) (c20 : PySem.W.codeIn K cd20 "_law_heads" = true) (k20 : PySem.W.keepIn K (.ref f20) = true)
    (a21 : PySem.W.nsIn K mainGlobals "_law_edit" = some (some (.ref f21))) (l21 : K.lookup f21 = some ⟨oc21, od21, .func (PySem.W.fnOf "_law_edit" "_law_edit" (defArgs s_law_edit) (defBody s_law_edit) (defScope s_law_edit) .none kV21 dc21 pm21 an21 cd21 ct21), sl21⟩) (c21 : PySem.W.codeIn K cd21 "_law_edit" = true) (k21 : PySem.W.keepIn K (.ref f21) = true)
    (a22 : PySem.W.nsIn K mainGlobals "_law_edits" = some (some (.ref f22))) (l22 : K.lookup f22 = some ⟨oc22, od22, .func (PySem.W.fnOf "_law_edits" "_law_edits" (defArgs s_law_edits) (defBody s_law_edits) (defScope s_law_edits) .none kV22 dc22 pm22 an22 cd22 ct22), sl22⟩) (c22 : PySem.W.codeIn K cd22 "_law_edits" = true) (k22 : PySem.W.keepIn K (.ref f22) = true)
    (a23 : PySem.W.nsIn K mainGlobals "_law_path_of" = some (some (.ref f23))) (l23 : K.lookup f23 = some ⟨oc23, od23, .func (PySem.W.fnOf "_law_path_of" "_law_path_of" (defArgs s_law_path_of) (defBody s_law_path_of) (defScope s_law_path_of) .none kV23 dc23 pm23 an23 cd23 ct23), sl23⟩) (c23 : PySem.W.codeIn K cd23 "_law_path_of" = true) (k23 : PySem.W.keepIn K (.ref f23) = true)
    (a24 : PySem.W.nsIn K mainGlobals "_law_paths" = some (some (.ref f24))) (l24 : K.lookup f24 = some ⟨oc24, od24, .func (PySem.W.fnOf "_law_paths" "_law_paths" (defArgs s_law_paths) (defBody s_law_paths) (defScope s_law_paths) .none kV24 dc24 pm24 an24 cd24 ct24), sl24⟩) (c24 : PySem.W.codeIn K cd24 "_law_paths" = true) (k24 : PySem.W.keepIn K (.ref f24) = true)
    (a25 : PySem.W.nsIn K mainGlobals "law" = some (some (.ref f25))) (l25 : K.lookup f25 = some ⟨oc25, od25, .func (PySem.W.fnOf "law" "law" (defArgs s_law) (defBody s_law) (defScope s_law) .none kV25 dc25 pm25 an25 cd25 ct25), sl25⟩) (c25 : PySem.W.codeIn K cd25 "law" = true) (k25 : PySem.W.keepIn K (.ref f25) = true)
    (z1 : PySem.W.nsIn K mainGlobals "all" = some none) (z2 : PySem.W.nsIn K mainGlobals "int" = some none) (z3 : PySem.W.nsIn K mainGlobals "len" = some none) (z4 : PySem.W.nsIn K mainGlobals "list" = some none) (z5 : PySem.W.nsIn K mainGlobals "min" = some none) (z6 : PySem.W.nsIn K mainGlobals "range" = some none) (z7 : PySem.W.nsIn K mainGlobals "tuple" = some none)  :
    ∃ fd : FuncData, (∀ (s : Shared) (v : Value), BindsTo s fd ⟨[v], []⟩ [("script", v)]) ∧ ∀ base : Heap, K.In base → base.Ns mainGlobals mg → FnOk l.prog w K mg base CX0 8 fa fd ["script"] (spLaw K) := by
  have e := hfa.symm.trans (PySem.W.mg_of X G a25)
  cases e
  have T : Txt K mg := ⟨PySem.W.mg_none_of X G z1, PySem.W.mg_none_of X G z2, PySem.W.mg_none_of X G z3, PySem.W.mg_none_of X G z4, PySem.W.mg_none_of X G z5, PySem.W.mg_none_of X G z6, PySem.W.mg_none_of X G z7⟩
  have F1 := fun_mk (st := s_find_line) l1 c1 k1
  have D1 : Df K mg "find_line" s_find_line ["lines", "line_id"] := ⟨_, _, F1, PySem.W.mg_of X G a1, F1.binds (ps := ["lines", "line_id"]) fun _ _ _ _ _ _ us hl => match us, hl with | [_, _], _ => rfl⟩
  have F2 := fun_mk (st := s_find_head) l2 c2 k2
  have D2 : Df K mg "find_head" s_find_head ["lines", "head"] := ⟨_, _, F2, PySem.W.mg_of X G a2, F2.binds (ps := ["lines", "head"]) fun _ _ _ _ _ _ us hl => match us, hl with | [_, _], _ => rfl⟩
  have F3 := fun_mk (st := s_stands) l3 c3 k3
  have D3 : Df K mg "stands" s_stands ["lines", "line"] := ⟨_, _, F3, PySem.W.mg_of X G a3, F3.binds (ps := ["lines", "line"]) fun _ _ _ _ _ _ us hl => match us, hl with | [_, _], _ => rfl⟩
  have F4 := fun_mk (st := s_settle) l4 c4 k4
  have D4 : Df K mg "settle" s_settle ["lines", "place"] := ⟨_, _, F4, PySem.W.mg_of X G a4, F4.binds (ps := ["lines", "place"]) fun _ _ _ _ _ _ us hl => match us, hl with | [_, _], _ => rfl⟩
  have F5 := fun_mk (st := s_stands_in) l5 c5 k5
  have D5 : Df K mg "stands_in" s_stands_in ["lines", "inside", "line_id"] := ⟨_, _, F5, PySem.W.mg_of X G a5, F5.binds (ps := ["lines", "inside", "line_id"]) fun _ _ _ _ _ _ us hl => match us, hl with | [_, _, _], _ => rfl⟩
  have F6 := fun_mk (st := s_move_line) l6 c6 k6
  have D6 : Df K mg "move_line" s_move_line ["lines", "head", "line_id", "place"] := ⟨_, _, F6, PySem.W.mg_of X G a6, F6.binds (ps := ["lines", "head", "line_id", "place"]) fun _ _ _ _ _ _ us hl => match us, hl with | [_, _, _, _], _ => rfl⟩
  have F7 := fun_mk (st := s_without_line) l7 c7 k7
  have D7 : Df K mg "without_line" s_without_line ["lines", "ended"] := ⟨_, _, F7, PySem.W.mg_of X G a7, F7.binds (ps := ["lines", "ended"]) fun _ _ _ _ _ _ us hl => match us, hl with | [_, _], _ => rfl⟩
  have F8 := fun_mk (st := s_without_heads) l8 c8 k8
  have D8 : Df K mg "without_heads" s_without_heads ["lines", "heads"] := ⟨_, _, F8, PySem.W.mg_of X G a8, F8.binds (ps := ["lines", "heads"]) fun _ _ _ _ _ _ us hl => match us, hl with | [_, _], _ => rfl⟩
  have F9 := fun_mk (st := s_with_new_line) l9 c9 k9
  have D9 : Df K mg "with_new_line" s_with_new_line ["lines", "edit"] := ⟨_, _, F9, PySem.W.mg_of X G a9, F9.binds (ps := ["lines", "edit"]) fun _ _ _ _ _ _ us hl => match us, hl with | [_, _], _ => rfl⟩
  have F10 := fun_mk (st := s_first_replaced) l10 c10 k10
  have D10 : Df K mg "first_replaced" s_first_replaced ["lines", "replaces"] := ⟨_, _, F10, PySem.W.mg_of X G a10, F10.binds (ps := ["lines", "replaces"]) fun _ _ _ _ _ _ us hl => match us, hl with | [_, _], _ => rfl⟩
  have F11 := fun_mk (st := s_after_text) l11 c11 k11
  have D11 : Df K mg "after_text" s_after_text ["lines", "edit"] := ⟨_, _, F11, PySem.W.mg_of X G a11, F11.binds (ps := ["lines", "edit"]) fun _ _ _ _ _ _ us hl => match us, hl with | [_, _], _ => rfl⟩
  have F12 := fun_mk (st := s_after_move) l12 c12 k12
  have D12 : Df K mg "after_move" s_after_move ["lines", "edit"] := ⟨_, _, F12, PySem.W.mg_of X G a12, F12.binds (ps := ["lines", "edit"]) fun _ _ _ _ _ _ us hl => match us, hl with | [_, _], _ => rfl⟩
  have F13 := fun_mk (st := s_lines_after) l13 c13 k13
  have D13 : Df K mg "lines_after" s_lines_after ["lines", "edit"] := ⟨_, _, F13, PySem.W.mg_of X G a13, F13.binds (ps := ["lines", "edit"]) fun _ _ _ _ _ _ us hl => match us, hl with | [_, _], _ => rfl⟩
  have F14 := fun_mk (st := s_fold_lines) l14 c14 k14
  have D14 : Df K mg "fold_lines" s_fold_lines ["lines", "edits"] := ⟨_, _, F14, PySem.W.mg_of X G a14, F14.binds (ps := ["lines", "edits"]) fun _ _ _ _ _ _ us hl => match us, hl with | [_, _], _ => rfl⟩
  have F15 := fun_mk (st := s_lines_of) l15 c15 k15
  have D15 : Df K mg "lines_of" s_lines_of ["edits"] := ⟨_, _, F15, PySem.W.mg_of X G a15, F15.binds (ps := ["edits"]) fun _ _ _ _ _ _ us hl => match us, hl with | [_], _ => rfl⟩
  have F16 := fun_mk (st := s_law_rows) l16 c16 k16
  have D16 : Df K mg "_law_rows" s_law_rows ["script", "count"] := ⟨_, _, F16, PySem.W.mg_of X G a16, F16.binds (ps := ["script", "count"]) fun _ _ _ _ _ _ us hl => match us, hl with | [_, _], _ => rfl⟩
  have F17 := fun_mk (st := s_law_path) l17 c17 k17
  have D17 : Df K mg "_law_path" s_law_path ["row", "most"] := ⟨_, _, F17, PySem.W.mg_of X G a17, F17.binds (ps := ["row", "most"]) fun _ _ _ _ _ _ us hl => match us, hl with | [_, _], _ => rfl⟩
  have F18 := fun_mk (st := s_law_pick) l18 c18 k18
  have D18 : Df K mg "_law_pick" s_law_pick ["row", "ids"] := ⟨_, _, F18, PySem.W.mg_of X G a18, F18.binds (ps := ["row", "ids"]) fun _ _ _ _ _ _ us hl => match us, hl with | [_, _], _ => rfl⟩
  have F19 := fun_mk (st := s_law_place) l19 c19 k19
  have D19 : Df K mg "_law_place" s_law_place ["row", "ids"] := ⟨_, _, F19, PySem.W.mg_of X G a19, F19.binds (ps := ["row", "ids"]) fun _ _ _ _ _ _ us hl => match us, hl with | [_, _], _ => rfl⟩
  have F20 := fun_mk (st := s_law_heads) l20 c20 k20
  have D20 : Df K mg "_law_heads" s_law_heads ["row", "ids"] := ⟨_, _, F20, PySem.W.mg_of X G a20, F20.binds (ps := ["row", "ids"]) fun _ _ _ _ _ _ us hl => match us, hl with | [_, _], _ => rfl⟩
  have F21 := fun_mk (st := s_law_edit) l21 c21 k21
  have D21 : Df K mg "_law_edit" s_law_edit ["row", "edit_id", "ids"] := ⟨_, _, F21, PySem.W.mg_of X G a21, F21.binds (ps := ["row", "edit_id", "ids"]) fun _ _ _ _ _ _ us hl => match us, hl with | [_, _, _], _ => rfl⟩
  have F22 := fun_mk (st := s_law_edits) l22 c22 k22
  have D22 : Df K mg "_law_edits" s_law_edits ["script", "count"] := ⟨_, _, F22, PySem.W.mg_of X G a22, F22.binds (ps := ["script", "count"]) fun _ _ _ _ _ _ us hl => match us, hl with | [_, _], _ => rfl⟩
  have F23 := fun_mk (st := s_law_path_of) l23 c23 k23
  have D23 : Df K mg "_law_path_of" s_law_path_of ["lines", "line"] := ⟨_, _, F23, PySem.W.mg_of X G a23, F23.binds (ps := ["lines", "line"]) fun _ _ _ _ _ _ us hl => match us, hl with | [_, _], _ => rfl⟩
  have F24 := fun_mk (st := s_law_paths) l24 c24 k24
  have D24 : Df K mg "_law_paths" s_law_paths ["lines"] := ⟨_, _, F24, PySem.W.mg_of X G a24, F24.binds (ps := ["lines"]) fun _ _ _ _ _ _ us hl => match us, hl with | [_], _ => rfl⟩
  have F25 := fun_mk (st := s_law) l25 c25 k25
  refine ⟨PySem.W.fnOf "law" "law" (defArgs s_law) (defBody s_law) (defScope s_law) .none kV25 dc25 pm25 an25 cd25 ct25, fun s v => .of_eq rfl, fun base _ _ => ?_⟩
  have G_find_line := ok_find_line (P := l.prog) (w := w) (base := base) D1 T 
  have G_stands := ok_stands (P := l.prog) (w := w) (base := base) D3 T G_find_line
  have G_find_head := ok_find_head (P := l.prog) (w := w) (base := base) D2 T 
  have G_without_line := ok_without_line (P := l.prog) (w := w) (base := base) D7 T 
  have G_without_heads := ok_without_heads (P := l.prog) (w := w) (base := base) D8 T G_find_head G_without_line
  have G_settle := ok_settle (P := l.prog) (w := w) (base := base) D4 T G_find_line
  have G_with_new_line := ok_with_new_line (P := l.prog) (w := w) (base := base) D9 T G_find_line G_settle
  have G_first_replaced := ok_first_replaced (P := l.prog) (w := w) (base := base) D10 T 
  have G_after_text := ok_after_text (P := l.prog) (w := w) (base := base) D11 T G_without_heads G_with_new_line G_first_replaced
  have G_stands_in := ok_stands_in (P := l.prog) (w := w) (base := base) D5 T G_find_line
  have G_move_line := ok_move_line (P := l.prog) (w := w) (base := base) D6 T G_find_line G_find_head G_settle G_stands_in
  have G_after_move := ok_after_move (P := l.prog) (w := w) (base := base) D12 T G_move_line
  have G_lines_after := ok_lines_after (P := l.prog) (w := w) (base := base) D13 T G_without_heads G_with_new_line G_after_text G_after_move
  have G_fold_lines := ok_fold_lines (P := l.prog) (w := w) (base := base) D14 T G_lines_after
  have G_lines_of := ok_lines_of (P := l.prog) (w := w) (base := base) D15 T G_fold_lines
  have G_law_rows := ok_law_rows (P := l.prog) (w := w) (base := base) D16 T 
  have G_law_pick := ok_law_pick (P := l.prog) (w := w) (base := base) D18 T 
  have G_law_heads := ok_law_heads (P := l.prog) (w := w) (base := base) D20 T G_law_pick
  have G_law_path := ok_law_path (P := l.prog) (w := w) (base := base) D17 T 
  have G_law_place := ok_law_place (P := l.prog) (w := w) (base := base) D19 T G_law_path G_law_pick
  have G_law_edit := ok_law_edit (P := l.prog) (w := w) (base := base) D21 T G_law_pick G_law_place G_law_heads
  have G_law_edits := ok_law_edits (P := l.prog) (w := w) (base := base) D22 T G_law_rows G_law_edit
  have G_law_path_of := ok_law_path_of (P := l.prog) (w := w) (base := base) D23 T 
  have G_law_paths := ok_law_paths (P := l.prog) (w := w) (base := base) D24 T G_stands
  exact ok_law F25 T G_stands G_lines_after G_lines_of G_law_rows G_law_heads G_law_edits G_law_path_of G_law_paths
end K12
open PySem PySem.W PyProof.Rows
set_option maxHeartbeats 0 in
theorem PySem.Challenge.cw_foldkeep_k12_what_ends_leaves_paths_holds : PySem.Challenge.rw_foldkeep_k12_what_ends_leaves_paths.Holds := by
  w_on; o_law; k_head; (case hw => w_witness2)
  k_fill
  refine L2.walk_of (l := PySem.Challenge.rw_foldkeep_k12_what_ends_leaves_paths) (n := 63) (k := 8) (x := "script") (CX := fun _ => L2.CX0) (sp := fun w => Lw.spLaw _) rfl (by decide) rfl ⟨rfl, by decide, by decide⟩ (fun w h Y => PySem.W.kIn_of Y) ?F (fun _ _ a ns hl _ hS => ⟨a, ns, rfl, hS, hl, fun _ => rfl⟩) (fun _ _ _ _ _ h => h)
  case F =>
    intro w mg fa h KX G hmg
    refine' K12.all_mk KX G hmg ?a1 ?l1 ?c1 ?k1 ?a2 ?l2 ?c2 ?k2 ?a3 ?l3 ?c3 ?k3 ?a4 ?l4 ?c4 ?k4 ?a5 ?l5 ?c5 ?k5 ?a6 ?l6 ?c6 ?k6 ?a7 ?l7 ?c7 ?k7 ?a8 ?l8 ?c8 ?k8 ?a9 ?l9 ?c9 ?k9 ?a10 ?l10 ?c10 ?k10 ?a11 ?l11 ?c11 ?k11 ?a12 ?l12 ?c12 ?k12 ?a13 ?l13 ?c13 ?k13 ?a14 ?l14 ?c14 ?k14 ?a15 ?l15 ?c15 ?k15 ?a16 ?l16 ?c16 ?k16 ?a17 ?l17 ?c17 ?k17 ?a18 ?l18 ?c18 ?k18 ?a19 ?l19 ?c19 ?k19 ?a20 ?l20 ?c20 ?k20 ?a21 ?l21 ?c21 ?k21 ?a22 ?l22 ?c22 ?k22 ?a23 ?l23 ?c23 ?k23 ?a24 ?l24 ?c24 ?k24 ?a25 ?l25 ?c25 ?k25 ?z1 ?z2 ?z3 ?z4 ?z5 ?z6 ?z7
    (case a1 => k_is); (case l1 => k_is); (case c1 => k_is); (case k1 => k_is)
    (case a2 => k_is); (case l2 => k_is); (case c2 => k_is); (case k2 => k_is)
    (case a3 => k_is); (case l3 => k_is); (case c3 => k_is); (case k3 => k_is)
    (case a4 => k_is); (case l4 => k_is); (case c4 => k_is); (case k4 => k_is)
    (case a5 => k_is); (case l5 => k_is); (case c5 => k_is); (case k5 => k_is)
    (case a6 => k_is); (case l6 => k_is); (case c6 => k_is); (case k6 => k_is)
    (case a7 => k_is); (case l7 => k_is); (case c7 => k_is); (case k7 => k_is)
    (case a8 => k_is); (case l8 => k_is); (case c8 => k_is); (case k8 => k_is)
    (case a9 => k_is); (case l9 => k_is); (case c9 => k_is); (case k9 => k_is)
    (case a10 => k_is); (case l10 => k_is); (case c10 => k_is); (case k10 => k_is)
    (case a11 => k_is); (case l11 => k_is); (case c11 => k_is); (case k11 => k_is)
    (case a12 => k_is); (case l12 => k_is); (case c12 => k_is); (case k12 => k_is)
    (case a13 => k_is); (case l13 => k_is); (case c13 => k_is); (case k13 => k_is)
    (case a14 => k_is); (case l14 => k_is); (case c14 => k_is); (case k14 => k_is)
    (case a15 => k_is); (case l15 => k_is); (case c15 => k_is); (case k15 => k_is)
    (case a16 => k_is); (case l16 => k_is); (case c16 => k_is); (case k16 => k_is)
    (case a17 => k_is); (case l17 => k_is); (case c17 => k_is); (case k17 => k_is)
    (case a18 => k_is); (case l18 => k_is); (case c18 => k_is); (case k18 => k_is)
    (case a19 => k_is); (case l19 => k_is); (case c19 => k_is); (case k19 => k_is)
    (case a20 => k_is); (case l20 => k_is); (case c20 => k_is); (case k20 => k_is)
    (case a21 => k_is); (case l21 => k_is); (case c21 => k_is); (case k21 => k_is)
    (case a22 => k_is); (case l22 => k_is); (case c22 => k_is); (case k22 => k_is)
    (case a23 => k_is); (case l23 => k_is); (case c23 => k_is); (case k23 => k_is)
    (case a24 => k_is); (case l24 => k_is); (case c24 => k_is); (case k24 => k_is)
    (case a25 => k_is); (case l25 => k_is); (case c25 => k_is); (case k25 => k_is)
    (case z1 => k_is); (case z2 => k_is); (case z3 => k_is); (case z4 => k_is)
    (case z5 => k_is); (case z6 => k_is); (case z7 => k_is)
#print axioms PySem.Challenge.cw_foldkeep_k12_what_ends_leaves_paths_holds
