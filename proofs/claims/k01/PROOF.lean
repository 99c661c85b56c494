import PyProof.Rows.All
import Wide.All
import OpenK.AllK
import Wide.FinOn
import HandS.ForMost
import HandS.Codes
import HandS.Evl
import PySem.Challenge.RW_foldkeep_k01_names
set_option Elab.async false
set_option linter.all false
set_option maxRecDepth 100000
set_option maxHeartbeats 4000000
/-! what the laws' helpers share: values, texts, cells -/
namespace Lw
open PySem PySem.Spec PyProof.Rows L2 Evl

/-! ### small readings -/
section
variable {K : PySem.W.Frag} {σ : L2.St} {H H' : Hp} {ta tb te tx : TE} {t u : TT} {x y z v : V}
theorem rc_int {i : Int} : RC (fun xs H Q => (∃ i, xs = [V.int i] ∧ Q (V.int i) H) ∨ ∃ k, xs = [V.bl k] ∧ Q (V.int (if k = true then 1 else 0)) H) [.int i] H (.int i) :=
  fun H1 _ _ q => Or.inl ⟨i, rfl, q H1 (Ex.refl H1)⟩
theorem rc_lenStr {a : Str} (h : a.length ≤ 100000) : RC (fun xs H Q => ∃ z : Str, xs = [V.str z] ∧ z.length ≤ sizeLine ∧ Q (V.int z.length) H) [.str a] H (.int a.length) :=
  fun H1 _ _ q => ⟨a, rfl, sz_of h, q H1 (Ex.refl H1)⟩
theorem rc_ord {a : Str} (h : a.length = 1) : RC (fun xs H Q => ∃ x : Str, xs = [V.str x] ∧ x.length = 1 ∧ Q (V.int (x.cps.getD 0 0 : Nat)) H) [.str a] H (.int (a.cps.getD 0 0 : Nat)) :=
  fun H1 _ _ q => ⟨a, rfl, h, q H1 (Ex.refl H1)⟩
theorem rv_addS {a b : Str} (h : a.length + b.length ≤ 100000) : RV (fun x y H Q => ∃ i j, x = .str i ∧ y = .str j ∧ i.length + j.length ≤ sizeLine ∧ Q (.str (i ++ j)) H) (.str a) (.str b) H (.str (a ++ b)) :=
  fun H1 _ _ q => ⟨a, b, rfl, rfl, sz_of h, q H1 (Ex.refl H1)⟩
theorem rv_inSign {c : Nat} {a z : Str} (e : a = ⟨#[c]⟩) : RV (fun x y H Q => ∃ (c : Nat) (z : Str), x = .str ⟨#[c]⟩ ∧ y = .str z ∧ Q (.bl (decide (c ∈ z.cps.toList))) H) (.str a) (.str z) H (.bl (decide (c ∈ z.cps.toList))) :=
  fun H1 _ _ q => ⟨c, z, by rw [e], rfl, q H1 (Ex.refl H1)⟩
/-- a text times a small number -/
def rMulStr : R2 := fun x y H Q => ∃ (a : Str) (n : Int), x = .str a ∧ y = .int n ∧ 1 ≤ n ∧ n ≤ 20000 ∧ a.length ≤ 200 ∧ Q (.str (Txt.mul a n)) H
theorem op_mul_str {X : Cx} : OpR X (binaryOp .Mult) rMulStr := by
  intro pins s σ H x y v u Q I rx ry h
  obtain ⟨a, n, rfl, rfl, h1, h2, h3, q⟩ := h
  obtain ⟨t, rfl⟩ := rx
  obtain ⟨t', rfl⟩ := ry
  refine SB.mul (n := n) ⟨?_, fun _ _ => ?_, fun _ _ => ?_⟩ fun t' k => ⟨.str (Txt.mul a n), H, I.tok _, ⟨_, rfl⟩, q⟩
  · rw [decide_eq_false (by omega), decide_eq_false (by omega)]
    rfl
  · have : (2 ^ 63 - 1) / n ≥ 200 := by
      refine (Int.le_ediv_iff_mul_le (by omega)).mpr ?_
      omega
    omega
  · have e : a.length * n.toNat ≤ 200 * 20000 := Nat.mul_le_mul h3 (by omega)
    exact decide_eq_false (by show ¬ a.length * n.toNat > 2 ^ 24; omega)
theorem rv_mulStr {a : Str} {n : Int} (h1 : 1 ≤ n) (h2 : n ≤ 20000) (h3 : a.length ≤ 200) : RV rMulStr (.str a) (.int n) H (.str (Txt.mul a n)) :=
  fun H1 _ _ q => ⟨a, n, rfl, rfl, h1, h2, h3, q H1 (Ex.refl H1)⟩
theorem rc_max2 {i j : Int} : RC (fun xs H Q => ∃ i j : Int, xs = [V.int i, V.int j] ∧ Q (V.int (if j > i then j else i)) H) [.int i, .int j] H (.int (if j > i then j else i)) :=
  fun H1 _ _ q => ⟨i, j, rfl, q H1 (Ex.refl H1)⟩
theorem rc_min2 {i j : Int} : RC (fun xs H Q => ∃ i j : Int, xs = [V.int i, V.int j] ∧ Q (V.int (if j < i then j else i)) H) [.int i, .int j] H (.int (if j < i then j else i)) :=
  fun H1 _ _ q => ⟨i, j, rfl, q H1 (Ex.refl H1)⟩
theorem et_yes : EvT tYes σ H true := fun H1 _ _ q => q H1 (Ex.refl H1)
/-- a slice of a text -/
theorem ev_cutS {tl th : TO} {z : Str} {lo hi : Option Int} (h : Ev te σ H (.str z)) (h1 : EvO tl σ H lo) (h2 : EvO th σ H hi) (hz : z.length ≤ 100000) : Ev (tSl rSlS te tl th) σ H (.str (cutS z lo hi)) := fun H1 e Q q =>
  h H1 e _ fun H2 e2 => h1 H2 (e.trans e2) _ fun H3 e3 => h2 H3 ((e.trans e2).trans e3) _ fun H4 e4 => ⟨z, rfl, sz_of hz, q H4 ((e2.trans e3).trans e4)⟩
/-- sep.join(a new list of texts) -/
theorem ev_joinL {a : Str} {ys : List Str} (ho : Ev ta σ H (.str a)) (h : EvL te σ H (ys.map V.str)) (hz : (ys.map (·.length)).sum + ys.length * a.length ≤ 16777216) :
    Ev (tM1 (fun x xs H Q => ∃ a p, ∃ ys : List Str, x = .str a ∧ xs = [.ref p] ∧ (SqL K H p (ys.map V.str) ∨ SqT K H p (ys.map V.str)) ∧ (ys.map (·.length)).sum + ys.length * a.length ≤ 16777216 ∧ Q (.str (Txt.join a ys)) H) ta te) σ H (.str (Txt.join a ys)) := fun H1 e Q q =>
  ho H1 e _ fun H2 e2 => ⟨⟨a, rfl⟩, h H2 (e.trans e2) _ fun p H3 _ e3 h3 => ⟨a, p, ys, rfl, rfl, .inl (sq_of h3), hz, q H3 (e2.trans e3)⟩⟩
/-- sep.join(a list of texts that stands) -/
theorem ev_joinS {a : Str} {p : Addr} {ys : List Str} (ho : Ev ta σ H (.str a)) (h : Ev te σ H (.ref p)) (hp : SqL K H p (ys.map V.str) ∨ SqT K H p (ys.map V.str)) (hz : (ys.map (·.length)).sum + ys.length * a.length ≤ 16777216) :
    Ev (tM1 (fun x xs H Q => ∃ a p, ∃ ys : List Str, x = .str a ∧ xs = [.ref p] ∧ (SqL K H p (ys.map V.str) ∨ SqT K H p (ys.map V.str)) ∧ (ys.map (·.length)).sum + ys.length * a.length ≤ 16777216 ∧ Q (.str (Txt.join a ys)) H) ta te) σ H (.str (Txt.join a ys)) := fun H1 e Q q =>
  ho H1 e _ fun H2 e2 => ⟨⟨a, rfl⟩, h H2 (e.trans e2) _ fun H3 e3 => ⟨a, p, ys, rfl, rfl, hp.elim (fun h => .inl (ex_l ((e.trans e2).trans e3) h)) (fun h => .inr (ex_t ((e.trans e2).trans e3) h)), hz, q H3 (e2.trans e3)⟩⟩
/-- the second operand told once the first is there -/
theorem ev_opV2 {r : R2} (ha : Ev ta σ H x) (hb : ∀ H1, Ex H H1 → Ev tb σ H1 y) (hr : RV r x y H z) : Ev (tOp r ta tb) σ H z := fun H1 e Q q =>
  ha H1 e _ fun H2 e2 => hb H2 (e.trans e2) H2 (Ex.refl H2) _ fun H3 e3 => hr H3 ((e.trans e2).trans e3) Q fun H4 e4 => q H4 ((e2.trans e3).trans e4)
theorem ev_chain {r r' : R2} {tc : TE} {a b : Bool} (ha : Ev ta σ H x) (hb : Ev tb σ H y) (hr : RV r x y H (.bl a)) (hc : a = true → Ev tc σ H z) (hr' : a = true → RV r' y z H (.bl b)) : Ev (tChain r r' ta tb tc) σ H (.bl (a && b)) := fun H1 e Q q =>
  ha H1 e _ fun H2 e2 => hb H2 (e.trans e2) _ fun H3 e3 => hr H3 ((e.trans e2).trans e3) _ fun H4 e4 => ⟨a, rfl, by
    cases a with
    | true =>
      show tc σ H4 _
      exact hc rfl H4 (((e.trans e2).trans e3).trans e4) _ fun H5 e5 => hr' rfl H5 ((((e.trans e2).trans e3).trans e4).trans e5) Q fun H6 e6 => q H6 ((((e2.trans e3).trans e4).trans e5).trans e6)
    | false =>
      show Q (.bl false) H4
      exact q H4 ((e2.trans e3).trans e4)⟩
/-- some value of which R holds -/
def EvP (te : TE) (σ : L2.St) (H : Hp) (R : V → Prop) : Prop := ∀ H1, Ex H H1 → ∀ Q : VK, (∀ v H2, R v → Ex H1 H2 → Q v H2) → te σ H1 Q
def SpP (sp : Sp) (vs : List V) (H : Hp) (R : V → Prop) : Prop := ∀ H1, Ex H H1 → ∀ Q : VK, (∀ v H2, R v → Ex H1 H2 → Q v H2) → ∀ E : XK, sp vs H1 Q E
theorem s_asgP {R : V → Prop} {D : Ends} {i : Nat} (h : EvP te σ H R) (k : ∀ v H1, R v → Ex H H1 → D.nx (σ.set i (some v)) H1) : tAsg te (gName i) D σ H := h H (Ex.refl H) _ fun v H1 r e => k v H1 r e
theorem q_asgP {R : V → Prop} {D : Ends} {tz : TS} {i : Nat} (h : EvP te σ H R) (k : ∀ v H1, R v → Ex H H1 → tz D (σ.set i (some v)) H1) : tSeq (tAsg te (gName i)) tz D σ H := s_asgP (D := { D with nx := tz D }) h k
theorem ep_call {R : V → Prop} {sp : Sp} {dvs vs : List V} {E : XK} {ta : TA} (h : EvA ta σ H vs) (hs : SpP sp (vs ++ dvs) H R) : EvP (tCall sp dvs E ta) σ H R := fun H1 e Q q =>
  h H1 e _ fun H2 e2 => hs H2 (e.trans e2) Q (fun v H3 r e3 => q v H3 r (e2.trans e3)) E
/-- of one argument, a new list -/
theorem ep_callL {R : V → Prop} {sp : Sp} {dvs xs : List V} {E : XK} (h : EvL te σ H xs) (hs : ∀ p H1, Ex H H1 → H1 p = some (.lst xs) → SpP sp (.ref p :: dvs) H1 R) : EvP (tCall sp dvs E (tCons te tNil)) σ H R := fun H1 e Q q =>
  h H1 e _ fun p H2 _ e2 h2 => hs p H2 (e.trans e2) h2 H2 (Ex.refl H2) Q (fun v H3 r e3 => q v H3 r (e2.trans e3)) E
theorem at_int {ns : List Int} {i : Int} (h0 : 0 ≤ i) (h : i < (ns.length : Int)) : atI (ns.map V.int) i = some (.int (ns.getD i.toNat 0)) := by
  obtain ⟨j, rfl⟩ := Int.eq_ofNat_of_zero_le h0
  refine atI_nat ?_
  have hj : j < ns.length := by omega
  rw [List.getElem?_map, List.getElem?_eq_getElem hj, Int.toNat_natCast, List.getD_eq_getElem?_getD, List.getElem?_eq_getElem hj]
  rfl
end

/-! ### loops over texts -/
section
variable {σ : L2.St} {H H' : Hp} {te : TE} {D : Ends} {tu tz : TS} {g : TG}
theorem for_str {x : Str} {tb : TS} (Pv : Nat → L2.St → Hp → Prop) (h0 : Pv 0 σ H)
    (hs : ∀ i c σ H, x.cps.toList[i]? = some c → Pv i σ H → g (.str ⟨#[c]⟩) σ H fun σ2 H2 => tb { D with nx := Pv (i + 1), ct := Pv (i + 1), bk := D.nx } σ2 H2) (hd : ∀ σ H, Pv x.cps.size σ H → D.nx σ H) :
    ∃ W : Nat → Nat → L2.St → Hp → Prop, (∃ m, W 0 m σ H) ∧ ∀ i m σ H, W i m σ H →
      ((Its x).stop i H ∧ D.nx σ H) ∨ ((Its x).go i H ∧ ∃ N : L2.St → Hp → Prop, (∀ σ' H', N σ' H' → ∃ m', m' < m ∧ W (i + 1) m' σ' H') ∧ ∀ y H', (Its x).yld i H y H' → g y σ H' fun σ2 H2 => tb { D with nx := N, ct := N, bk := D.nx } σ2 H2) := by
  refine ⟨fun i m σ H => m = x.cps.size - i ∧ i ≤ x.cps.size ∧ Pv i σ H, ⟨x.cps.size, by simp, Nat.zero_le _, h0⟩, ?_⟩
  rintro i m σ H ⟨rfl, hi, p⟩
  by_cases hlt : i < x.cps.size
  · refine .inr ⟨hlt, Pv (i + 1), fun σ' H' p' => ⟨x.cps.size - (i + 1), by omega, rfl, hlt, p'⟩, fun y H' q => ?_⟩
    obtain ⟨rfl, c, hc, rfl⟩ := q
    exact hs i c σ _ (by rw [Array.getElem?_toList]; exact hc) p
  · have e : i = x.cps.size := by omega
    subst e
    exact .inl ⟨Nat.le_refl _, hd σ H p⟩
theorem s_forS {x : Str} {j : Nat} (h : Ev te σ H (.str x)) (Pv : Nat → L2.St → Hp → Prop) (h0 : ∀ H1, Ex H H1 → Pv 0 σ H1)
    (hs : ∀ i c σ' H', x.cps.toList[i]? = some c → Pv i σ' H' → tu { D with nx := Pv (i + 1), ct := Pv (i + 1), bk := D.nx } (σ'.set j (some (.str ⟨#[c]⟩))) H') (hd : ∀ σ' H', Pv x.cps.size σ' H' → D.nx σ' H') : tFor (iStr te) (gName j) tu D σ H :=
  h H (Ex.refl H) _ fun H1 e => ⟨x, rfl, for_str Pv (h0 H1 e) hs hd⟩
theorem q_forS {x : Str} {j : Nat} (h : Ev te σ H (.str x)) (Pv : Nat → L2.St → Hp → Prop) (h0 : ∀ H1, Ex H H1 → Pv 0 σ H1)
    (hs : ∀ i c σ' H', x.cps.toList[i]? = some c → Pv i σ' H' → tu { D with nx := Pv (i + 1), ct := Pv (i + 1), bk := tz D } (σ'.set j (some (.str ⟨#[c]⟩))) H') (hd : ∀ σ' H', Pv x.cps.size σ' H' → tz D σ' H') : tSeq (tFor (iStr te) (gName j) tu) tz D σ H :=
  s_forS (D := { D with nx := tz D }) h Pv h0 hs hd
end
theorem at_str {xs : List Str} {i : Int} (h0 : 0 ≤ i) (h : i < (xs.length : Int)) : atI (xs.map V.str) i = some (.str (xs.getD i.toNat Str.empty)) := by
  obtain ⟨j, rfl⟩ := Int.eq_ofNat_of_zero_le h0
  refine atI_nat ?_
  have hj : j < xs.length := by omega
  rw [List.getElem?_map, List.getElem?_eq_getElem hj, Int.toNat_natCast, List.getD_eq_getElem?_getD, List.getElem?_eq_getElem hj]
  rfl
theorem memD {α : Type} {xs : List α} {d : α} {j : Nat} (h : j < xs.length) : xs.getD j d ∈ xs := by
  rw [List.getD_eq_getElem?_getD, List.getElem?_eq_getElem h]
  exact List.getElem_mem h
theorem dec_str1 {c d : Nat} {a : Str} (e : a = ⟨#[d]⟩) : decide (V.str ⟨#[c]⟩ = V.str a) = decide (c = d) := by
  rw [e, Bool.eq_iff_iff, decide_eq_true_iff, decide_eq_true_iff]
  constructor
  · intro h
    have h1 : (⟨#[c]⟩ : Str) = ⟨#[d]⟩ := V.str.inj h
    have h2 : (#[c] : Array Nat) = #[d] := congrArg Str.cps h1
    have h3 : ([c] : List Nat) = [d] := congrArg Array.toList h2
    exact (List.cons.inj h3).1
  · intro h
    rw [h]
theorem all_take_succ {p : Nat → Bool} {xs : List Nat} {i c : Nat} (h : xs[i]? = some c) : (xs.take (i + 1)).all p = ((xs.take i).all p && p c) := by
  rw [List.take_add_one, h, List.all_append]
  simp

/-! ### texts by their codes -/
theorem len_S (l : List Nat) : (SX.S l).length = l.length := SX.S_len l
theorem cut_mid (l : List Nat) (a b : Nat) : cutS (SX.S l) (some (a : Int)) (some (b : Int)) = SX.S ((l.drop a).take (b - a)) := by
  unfold cutS
  rw [len_S, HT.sIx_nat, HT.sIx_nat]
  show SX.S ((l.drop (min a l.length)).take (min b l.length - min a l.length)) = _
  refine congrArg SX.S ?_
  by_cases h : a ≤ l.length
  · rw [Nat.min_eq_left h, List.take_eq_take_iff, List.length_drop]
    omega
  · rw [Nat.min_eq_right (show l.length ≤ a by omega), List.drop_eq_nil_of_le (Nat.le_refl _), List.drop_eq_nil_of_le (show l.length ≤ a by omega)]
    simp
theorem cut_to (l : List Nat) (b : Nat) : cutS (SX.S l) none (some (b : Int)) = SX.S (l.take b) := by
  unfold cutS
  rw [len_S, HT.sIx_nat, HT.sIx_none]
  show SX.S ((l.drop 0).take (min b l.length - 0)) = _
  refine congrArg SX.S ?_
  rw [List.drop_zero, List.take_eq_take_iff]
  omega
theorem cut_from (l : List Nat) (a : Nat) : cutS (SX.S l) (some (a : Int)) none = SX.S (l.drop a) := by
  unfold cutS
  rw [len_S, HT.sIx_nat, HT.sIx_none]
  show SX.S ((l.drop (min a l.length)).take (l.length - min a l.length)) = _
  refine congrArg SX.S ?_
  by_cases h : a ≤ l.length
  · rw [Nat.min_eq_left h]
    exact List.take_of_length_le (by rw [List.length_drop]; omega)
  · rw [Nat.min_eq_right (show l.length ≤ a by omega), List.drop_eq_nil_of_le (Nat.le_refl _), List.drop_eq_nil_of_le (show l.length ≤ a by omega)]
    simp
theorem join_ones : ∀ l : List Nat, Txt.join (SX.S []) (l.map fun c => SX.S [c]) = SX.S l := fun l => by
  have e : (l.map fun c => SX.S [c]) = (l.map fun c => [c]).map SX.S := by rw [List.map_map]; rfl
  rw [e, SX.join_S]
  refine congrArg SX.S ?_
  induction l with
  | nil => rfl
  | cons c l ih =>
    cases l with
    | nil => rfl
    | cons d l =>
      show [c] ++ ([] ++ TL.joinL [] (((d :: l).map fun c => [c]))) = _
      rw [ih (by rw [List.map_map]; rfl)]
      rfl
theorem sum_ones (l : List Nat) : ((l.map fun c => SX.S [c]).map (·.length)).sum = l.length := by
  induction l with
  | nil => rfl
  | cons c l ih =>
    rw [List.map_cons, List.map_cons, List.sum_cons, ih, len_S]
    simp [Nat.add_comm]

/-! ### the cells that a law draws -/
def fixC (c : Int) : Int := if c < 0 then 1 - 2 * c else c
def cell0 (ns : List Int) (k : Nat) : Int := if k < ns.length then ns.getD k 0 else 0
def cell2 (ns : List Int) (k : Nat) (c : Int) : Int := if 0 < ns.length then ns.getD (((k : Int) % (ns.length : Int)).toNat) 0 else c
def mix1 (k : Nat) (c : Int) : Int := ((c + 131 * (k : Int) + 7) * 48271 + (k : Int) * (k : Int) * 69621) % 1000000007
def mix2 (k : Nat) (c : Int) : Int := ((c + 17 * (k : Int) + 3) * 2862933555777941757) % 18446744073709551557
def cellAt (ns : List Int) (k : Nat) : Int :=
  if (ns.length : Int) ≤ (k : Int) ∨ fixC (cell0 ns k) < 1000000000 then mix2 k (mix1 k (fixC (cell2 ns k (fixC (cell0 ns k))))) else fixC (cell0 ns k)
def cellsOf (ns : List Int) (n : Nat) : List Int := (List.range n).map (cellAt ns)
theorem cellsOf_len (ns : List Int) (n : Nat) : (cellsOf ns n).length = n := by
  unfold cellsOf
  rw [List.length_map, List.length_range]
theorem cellsOf_succ (ns : List Int) (n : Nat) : cellsOf ns (n + 1) = cellsOf ns n ++ [cellAt ns n] := by
  unfold cellsOf
  rw [List.range_succ, List.map_append]
  rfl
theorem fixC_nn (c : Int) : 0 ≤ fixC c := by
  unfold fixC
  split <;> omega
theorem cellAt_nn (ns : List Int) (k : Nat) : 0 ≤ cellAt ns k := by
  unfold cellAt
  split
  · exact Int.emod_nonneg _ (by decide)
  · exact fixC_nn _
theorem cellsOf_nn (ns : List Int) (n : Nat) : ∀ c ∈ cellsOf ns n, 0 ≤ c := by
  intro c hc
  obtain ⟨k, _, rfl⟩ := List.mem_map.mp hc
  exact cellAt_nn ns k
theorem fixC_neg {c : Int} (h : decide (c < 0) = true) : 1 - 2 * c = fixC c := (if_pos (of_decide_eq_true h)).symm
theorem fixC_pos {c : Int} (h : decide (c < 0) = false) : fixC c = c := if_neg (of_decide_eq_false h)
theorem cellAt_mix {ns : List Int} {k : Nat} (h : (decide ((ns.length : Int) ≤ (k : Int)) || decide (fixC (cell0 ns k) < 1000000000)) = true) : mix2 k (mix1 k (fixC (cell2 ns k (fixC (cell0 ns k))))) = cellAt ns k := by
  unfold cellAt
  rw [if_pos]
  rcases (Bool.or_eq_true _ _).mp h with h | h
  · exact .inl (of_decide_eq_true h)
  · exact .inr (of_decide_eq_true h)
theorem cellAt_own {ns : List Int} {k : Nat} (h : (decide ((ns.length : Int) ≤ (k : Int)) || decide (fixC (cell0 ns k) < 1000000000)) = false) : fixC (cell0 ns k) = cellAt ns k := by
  unfold cellAt
  obtain ⟨h1, h2⟩ := (Bool.or_eq_false_iff).mp h
  rw [if_neg]
  rintro (h | h)
  · exact of_decide_eq_false h1 h
  · exact of_decide_eq_false h2 h
def spCells (K : PySem.W.Frag) : Sp := fun vs H Q _ => ∃ (a : Addr) (ns : List Int) (n : Nat), vs = [.ref a, .int (n : Int)] ∧ SqL K H a (ns.map V.int) ∧ ns.length ≤ 63 ∧ n ≤ 1000 ∧ RetL ((cellsOf ns n).map V.int) H Q
theorem sp_cells {K : PySem.W.Frag} {H : Hp} {a : Addr} {ns : List Int} {n : Nat} (hS : SqL K H a (ns.map V.int)) (hl : ns.length ≤ 63) (hn : n ≤ 1000) : SpL (spCells K) [.ref a, .int (n : Int)] H ((cellsOf ns n).map V.int) :=
  fun H1 e Q q E => ⟨a, ns, n, rfl, ex_l e hS, hl, hn, fun p H2 hp e2 h2 => q p H2 hp e2 h2⟩
/-! ### the rows that a law draws -/
def spRows (K : PySem.W.Frag) : Sp := fun vs H Q _ => ∃ (a : Addr) (ns : List Int) (n : Nat), vs = [.ref a, .int (n : Int)] ∧ SqL K H a (ns.map V.int) ∧ ns.length ≤ 63 ∧ n ≤ 1000 ∧ ∀ rs : List Int, rs.length = n → (∀ c ∈ rs, 0 ≤ c) → RetL (rs.map V.int) H Q
/-- what is there behind a call that gives a new list of n numbers from 0 on -/
def EvRows (te : TE) (σ : L2.St) (H : Hp) (n : Nat) : Prop := ∀ H1, Ex H H1 → ∀ Q : VK, (∀ p rs H2, H1 p = none → Ex H1 H2 → H2 p = some (.lst (List.map V.int rs)) → rs.length = n → (∀ c ∈ rs, 0 ≤ c) → Q (.ref p) H2) → te σ H1 Q
theorem ev_rows {K : PySem.W.Frag} {σ : L2.St} {H : Hp} {E : XK} {ta : TA} {a : Addr} {ns : List Int} {n : Nat} (h : EvA ta σ H [.ref a, .int (n : Int)]) (hS : SqL K H a (ns.map V.int)) (hl : ns.length ≤ 63) (hn : n ≤ 1000) : EvRows (tCall (spRows K) [] E ta) σ H n := fun H1 e Q q =>
  h H1 e _ fun H2 e2 => ⟨a, ns, n, rfl, ex_l (e.trans e2) hS, hl, hn, fun rs hr h0 p H3 hp e3 h3 => q p rs H3 (fresh_back e2 hp) (e2.trans e3) h3 hr h0⟩
theorem q_asgRows {σ : L2.St} {H : Hp} {te : TE} {D : Ends} {tz : TS} {i n : Nat} (h : EvRows te σ H n) (k : ∀ p rs H1, H p = none → Ex H H1 → H1 p = some (.lst (List.map V.int rs)) → rs.length = n → (∀ c ∈ rs, 0 ≤ c) → tz D (σ.set i (some (.ref p))) H1) : tSeq (tAsg te (gName i)) tz D σ H :=
  h H (Ex.refl H) _ fun p rs H1 hp e h1 hr h0 => k p rs H1 hp e h1 hr h0
/-- a def of the top: its text, its place, how it is called -/
structure Df (K : PySem.W.Frag) (mg : Str → Option Value) (x : Str) (st : Stmt) (ps : List Str) : Prop where
  ex : ∃ (f : Addr) (fd : FuncData), L2.Fun K x x st f fd ∧ mg x = some (.ref f) ∧ Binds K fd ps []
theorem Df.cal {P : Program} {w : World} {K : PySem.W.Frag} {mg : Str → Option Value} {base : Heap} {x : Str} {st : Stmt} {N ps : List Str} {k : Nat} {sp : Sp} (D : Df K mg x st ps) (S : FnScope N ps (defScope st)) (len : ∀ vs H Q E, sp vs H Q E → vs.length = ps.length)
    (hbody : ∀ (f : Addr) (cdv : Value) (A : Around) (outer : List Env) (s : Shared) (H : Hp) (vs : List V) (Q : VK) (E : XK), Room k (A.deeper (envOfC x (defScope st) s.heap.objs.size f cdv)) → sp vs H Q E →
      ∃ t, PSs (cxOf L2.CX0 P w K mg base N x (defScope st) f cdv A outer s H E).nox (defBody st) t ∧ t { nx := fun _ H' => Q .non H', rt := Q } (start N vs) H) : C8.Cal P w K mg base (k + 1) x sp [] := by
  obtain ⟨f, fd, F, hm, hb⟩ := D.ex
  exact ⟨f, fd, ps, [], F.ok S len (hbody f), hm, F.kp, hb, .nil⟩
def spLaw (K : PySem.W.Frag) : Sp := fun vs H Q _ => ∃ (a : Addr) (ns : List Int), vs = [.ref a] ∧ SqL K H a (ns.map V.int) ∧ ns.length ≤ 63 ∧ ∀ H', Q (.bl true) H'
end Lw
namespace K01
open PySem PySem.Spec PyProof.Rows L2 Evl Lw
def top (i : Nat) : Stmt := PySem.Challenge.pw_foldkeep_k01_names.main.body.getD i (.Pass ⟨0, 0, 0, 0⟩)
abbrev s_is_name : Stmt := top 3
abbrev s_law_cells : Stmt := top 5
abbrev s_law_word : Stmt := top 6
abbrev s_law : Stmt := top 7
theorem sc_is_name : FnScope ["text", "sign"] ["text"] (defScope s_is_name) := ⟨rfl, rfl, rfl, by decide +kernel, rfl, by decide +kernel, by decide +kernel⟩
theorem sc_law_cells : FnScope ["script", "count", "cells", "k", "cell"] ["script", "count"] (defScope s_law_cells) := ⟨rfl, rfl, rfl, by decide +kernel, rfl, by decide +kernel, by decide +kernel⟩
theorem sc_law_word : FnScope ["cells", "kind", "signs", "word", "k"] ["cells"] (defScope s_law_word) := ⟨rfl, rfl, rfl, by decide +kernel, rfl, by decide +kernel, by decide +kernel⟩
theorem sc_law : FnScope ["script", "word", "expected", "sign"] ["script"] (defScope s_law) := ⟨rfl, rfl, rfl, by decide +kernel, rfl, by decide +kernel, by decide +kernel⟩
structure Txt (K : PySem.W.Frag) (mg : Str → Option Value) : Prop where
  n_int : mg "int" = none
  n_len : mg "len" = none
  n_ord : mg "ord" = none
  n_range : mg "range" = none
  g_most : ∃ u, mg "MOST_SIGNS" = some u ∧ RelV (.int 100) u
  g_first : ∃ u, mg "FIRST_SIGN" = some u ∧ RelV (.int 32) u
theorem e_slash : Str.ofString "/" = ⟨#[47]⟩ := by decide +kernel
def nameOk (z : Str) : Bool := (!(decide (V.str z = V.str (Str.ofString ".")) || (decide (V.str z = V.str (Str.ofString "..")) || decide (47 ∈ z.cps.toList)))) && ((!(decide ((z.length : Int) < 1) || decide ((100 : Int) < (z.length : Int)))) && z.cps.toList.all fun c => !decide (((c : Nat) : Int) < 32))
def spName : Sp := fun vs H Q _ => ∃ z : Str, vs = [.str z] ∧ z.length ≤ 100000 ∧ RetV (.bl (nameOk z)) H Q
section
variable {P : Program} {w : World} {K : PySem.W.Frag} {mg : Str → Option Value} {base : Heap}
theorem ok_cells {f : Addr} {fd : FuncData} (F : Fun K "_law_cells" "_law_cells" s_law_cells f fd) (T : Txt K mg) : FnOk P w K mg base CX0 1 f fd ["script", "count"] (spCells K) := by
  refine F.ok sc_law_cells (fun vs H Q E h => ?_) (fun cdv A outer s H vs Q E hr h => ?_)
  · obtain ⟨a, ns, n, rfl, _⟩ := h
    rfl
  · obtain ⟨a, ns, n, rfl, hS, hl, hn, q⟩ := h
    refine ⟨_,
        (pss_cons (ps_set (i := 2) sc_law_cells.nd rfl (.inl rfl) (pe_lst pa_nil))
        (pss_cons (ps_for PassesOwn.never rfl (pi_range1 (by rfl) T.n_range (pa_cons (pv 1) pa_nil)) (pg_name (i := 3) sc_law_cells.nd rfl (.inl rfl))
          (pss_cons (ps_set (i := 4) sc_law_cells.nd rfl (.inl rfl) pe_int)
          (pss_cons (ps_if (pt_cmpR op_lt (pv 3) (pe_callB call_len_seq (by rfl) T.n_len PySem.boot_len (pa_cons (pv 0) pa_nil)) (nomark _))
            (pss_one (ps_set (i := 4) sc_law_cells.nd rfl (.inl rfl) (pe_callTy call_int1 (by rfl) T.n_int (by decide +kernel) (pa_cons (pe_ix ix_list (pv 0) (pv 3) (fun _ _ => rfl)) pa_nil))))
            pss_nil)
          (pss_cons (ps_if (pt_cmpR op_lt (pv 4) pe_int (nomark _))
            (pss_one (ps_set (i := 4) sc_law_cells.nd rfl (.inl rfl) (pe_op op_sub pe_int (pe_op op_mul pe_int (pv 4)))))
            pss_nil)
          (pss_cons (ps_if (PW.pt (pw_or (pt_cmpR op_ge (pv 3) (pe_callB call_len_seq (by rfl) T.n_len PySem.boot_len (pa_cons (pv 0) pa_nil)) (nomark _)) (pw_or1 (pt_cmpR op_lt (pv 4) pe_int (nomark _)))))
            (pss_cons (ps_if (pt_cmpR op_gt (pe_callB call_len_seq (by rfl) T.n_len PySem.boot_len (pa_cons (pv 0) pa_nil)) pe_int (nomark _))
              (pss_one (ps_set (i := 4) sc_law_cells.nd rfl (.inl rfl) (pe_callTy call_int1 (by rfl) T.n_int (by decide +kernel) (pa_cons (pe_ix ix_list (pv 0) (pe_op op_mod (pe_callTy call_int1 (by rfl) T.n_int (by decide +kernel) (pa_cons (pv 3) pa_nil)) (pe_callB call_len_seq (by rfl) T.n_len PySem.boot_len (pa_cons (pv 0) pa_nil))) (fun _ _ => rfl)) pa_nil))))
              pss_nil)
            (pss_cons (ps_if (pt_cmpR op_lt (pv 4) pe_int (nomark _))
              (pss_one (ps_set (i := 4) sc_law_cells.nd rfl (.inl rfl) (pe_op op_sub pe_int (pe_op op_mul pe_int (pv 4)))))
              pss_nil)
            (pss_cons (ps_set (i := 4) sc_law_cells.nd rfl (.inl rfl) (pe_op op_mod (pe_callTy call_int1 (by rfl) T.n_int (by decide +kernel) (pa_cons (pe_op op_add (pe_op op_mul (pe_op op_add (pe_op op_add (pv 4) (pe_op op_mul pe_int (pv 3))) pe_int) pe_int) (pe_op op_mul (pe_op op_mul (pv 3) (pv 3)) pe_int)) pa_nil)) pe_int))
            (pss_one (ps_set (i := 4) sc_law_cells.nd rfl (.inl rfl) (pe_op op_mod (pe_callTy call_int1 (by rfl) T.n_int (by decide +kernel) (pa_cons (pe_op op_mul (pe_op op_add (pe_op op_add (pv 4) (pe_op op_mul pe_int (pv 3))) pe_int) pe_int) pa_nil)) pe_int))))))
            pss_nil)
          (pss_one (ps_expr (pe_bm PySem.F.plainAttrs_list PySem.F.slot_list_append PySem.F.type_list_append mt_append (pv 2) (pa_cons (pv 4) pa_nil)))))))))
        (pss_one (ps_ret (pv 2))))), ?_⟩
    refine q_asgL (el_lst ea_nil (by simp)) fun p H1 hp e1 h1 => ?_
    refine q_forR1 (n := (n : Int)) (ea_cons (ev_var rfl) ea_nil) ⟨by omega, by omega⟩
      (fun i σ' H' => ∃ k c, σ' = [some (.ref a), some (.int (n : Int)), some (.ref p), k, c] ∧ Ex H H' ∧ H' p = some (.lst ((cellsOf ns i).map V.int)))
      (fun H2 e2 => ⟨none, none, rfl, e1.trans e2, e2 p _ h1⟩) ?_ ?_
    · rintro i σ' H' hi ⟨k0, c0, rfl, eH, hc⟩
      have hS' := ex_l eH hS
      have hlen : ((ns.map V.int).length : Int) = (ns.length : Int) := by rw [List.length_map]
      -- cell = 0; if k < len(script): cell = int(script[k])
      refine q_asg ev_c fun H2 e2 => ?_
      refine q_ifAsg (v := .int (cell0 ns i)) (et_test (ev_op (ev_var rfl) (ev_len (ev_var rfl) (ex_l e2 hS')) rv_I0)) (fun hb => ?_) (fun hb => ?_) fun H3 e3 => ?_
      · have hlt : i < ns.length := by
          have := of_decide_eq_true hb
          rw [hlen] at this
          omega
        refine ev_is (ev_cb (ea_cons (ev_op (ev_var rfl) (ev_var rfl) (rv_ixL (ex_l e2 hS') (at_int (by omega) (by omega)))) ea_nil) rc_int) ?_
        unfold cell0
        rw [if_pos hlt, Int.toNat_natCast]
      · have hlt : ¬ i < ns.length := by
          have := of_decide_eq_false hb
          rw [hlen] at this
          omega
        unfold cell0
        rw [if_neg hlt]
        rfl
      -- if cell < 0: cell = 1 - 2 * cell
      refine q_ifAsg (v := .int (fixC (cell0 ns i))) (et_test (ev_op (ev_var rfl) ev_c rv_I0)) (fun hb => ev_is (ev_op ev_c (ev_op ev_c (ev_var rfl) (rv_I (.inl (by decide)))) rv_I0) (congrArg V.int (fixC_neg hb))) (fun hb => by rw [fixC_pos hb]; rfl) fun H4 e4 => ?_
      have hS4 := ex_l ((e2.trans e3).trans e4) hS'
      have eH4 := (eH.trans ((e2.trans e3).trans e4))
      have hc4 := ((e2.trans e3).trans e4) p _ hc
      have lenc : ((cellsOf ns i).map V.int).length < 100000 := by
        rw [List.length_map, cellsOf_len]
        omega
      have fin : ∀ H5, Ex H4 H5 → ∃ k c, ([some (.ref a), some (.int (n : Int)), some (.ref p), some (.int (i : Int)), some (.int (cellAt ns i))] : L2.St) = [some (.ref a), some (.int (n : Int)), some (.ref p), k, c] ∧ Ex H (upd H5 p (.lst ((cellsOf ns i).map V.int ++ [.int (cellAt ns i)]))) ∧ (upd H5 p (.lst ((cellsOf ns i).map V.int ++ [.int (cellAt ns i)]))) p = some (.lst ((cellsOf ns (i + 1)).map V.int)) := fun H5 e5 => by
        refine ⟨_, _, rfl, Ex.mut (eH4.trans e5) hp, ?_⟩
        rw [upd_same, cellsOf_succ, List.map_append]
        rfl
      refine q_when (et_or (et_test (ev_op (ev_var rfl) (ev_len (ev_var rfl) hS4) rv_I0)) (fun _ => et_test (ev_op (ev_var rfl) ev_c rv_I0))) (fun hb H5 e5 => ?_) (fun hb H5 e5 => ?_)
      · rw [hlen] at hb
        have hS5 := ex_l e5 hS4
        refine q_ifAsg (v := .int (cell2 ns i (fixC (cell0 ns i)))) (et_test (ev_op (ev_len (ev_var rfl) hS5) ev_c rv_I0)) (fun hb => ?_) (fun hb => ?_) fun H6 e6 => ?_
        · have hpos : 0 < ns.length := by
            have := of_decide_eq_true hb
            rw [hlen] at this
            omega
          have hm0 : 0 ≤ (i : Int) % (ns.length : Int) := Int.emod_nonneg _ (by omega)
          have hm1 : (i : Int) % (ns.length : Int) < (ns.length : Int) := Int.emod_lt_of_pos _ (by omega)
          refine ev_is (ev_cb (ea_cons (ev_op (ev_var rfl) (ev_op (ev_cb (ea_cons (ev_var rfl) ea_nil) rc_int) (ev_len (ev_var rfl) hS5) (rv_I (by rw [hlen]; omega))) (rv_ixL hS5 (by rw [hlen]; exact at_int hm0 hm1))) ea_nil) rc_int) ?_
          unfold cell2
          rw [if_pos hpos]
        · have hpos : ¬ 0 < ns.length := by
            have := of_decide_eq_false hb
            rw [hlen] at this
            omega
          unfold cell2
          rw [if_neg hpos]
          rfl
        refine q_ifAsg (v := .int (fixC (cell2 ns i (fixC (cell0 ns i))))) (et_test (ev_op (ev_var rfl) ev_c rv_I0)) (fun hb => ev_is (ev_op ev_c (ev_op ev_c (ev_var rfl) (rv_I (.inl (by decide)))) rv_I0) (congrArg V.int (fixC_neg hb))) (fun hb => by rw [fixC_pos hb]; rfl) fun H7 e7 => ?_
        refine q_asg (v := .int (mix1 i (fixC (cell2 ns i (fixC (cell0 ns i)))))) (ev_op (ev_cb (ea_cons (ev_op (ev_op (ev_op (ev_op (ev_var rfl) (ev_op ev_c (ev_var rfl) (rv_I (.inl (by decide)))) rv_I0) ev_c rv_I0) ev_c (rv_I (.inr (by decide)))) (ev_op (ev_op (ev_var rfl) (ev_var rfl) (rv_I (.inl (by omega)))) ev_c (rv_I (.inr (by decide)))) rv_I0) ea_nil) rc_int) ev_c (rv_I (by show (0 : Int) < 1000000007; decide))) fun H8 e8 => ?_
        refine s_asg (v := .int (cellAt ns i)) (ev_is (ev_op (ev_cb (ea_cons (ev_op (ev_op (ev_op (ev_var rfl) (ev_op ev_c (ev_var rfl) (rv_I (.inl (by decide)))) rv_I0) ev_c rv_I0) ev_c (rv_I (.inr (by decide)))) ea_nil) rc_int) ev_c (rv_I (by show (0 : Int) < 18446744073709551557; decide))) (congrArg V.int (cellAt_mix hb))) fun H9 e9 => ?_
        have e49 := (((e5.trans e6).trans e7).trans e8).trans e9
        exact s_app (e49 p _ hc4) (ev_var rfl) (ev_var rfl) lenc fun H10 e10 => fin H10 (e49.trans e10)
      · rw [hlen] at hb
        rw [cellAt_own hb] at *
        exact s_app (e5 p _ hc4) (ev_var rfl) (ev_var rfl) lenc fun H10 e10 => fin H10 (e5.trans e10)
    · rintro σ' H' ⟨k0, c0, rfl, eH, hc⟩
      exact s_ret (ev_var rfl) fun H1' e' => q p H1' hp (eH.trans e') (e' p _ hc)
theorem ok_name {f : Addr} {fd : FuncData} (F : Fun K "is_name" "is_name" s_is_name f fd) (T : Txt K mg) : FnOk P w K mg base CX0 1 f fd ["text"] spName := by
  refine F.ok sc_is_name (fun vs H Q E h => ?_) (fun cdv A outer s H vs Q E hr h => ?_)
  · obtain ⟨z, rfl, _⟩ := h
    rfl
  · obtain ⟨z, rfl, hz, q⟩ := h
    refine ⟨_,
        (pss_cons (ps_if (PW.pt (pw_or (pt_cmpR op_eq (pv 0) pe_str (nomark _)) (pw_or (pt_cmpR op_eq (pv 0) pe_str (nomark _)) (pw_or1 (pt_cmpR op_in_sign pe_str (pv 0) (by with_unfolding_all rfl))))))
          (pss_one (ps_ret pe_bl))
          pss_nil)
        (pss_cons (ps_if (PW.pt (pw_or (pt_cmpR op_lt (pe_callB call_len_str (by rfl) T.n_len PySem.boot_len (pa_cons (pv 0) pa_nil)) pe_int (nomark _)) (pw_or1 (pt_cmpR op_gt (pe_callB call_len_str (by rfl) T.n_len PySem.boot_len (pa_cons (pv 0) pa_nil)) (C8.pe_gc (by rfl) T.g_most) (nomark _)))))
          (pss_one (ps_ret pe_bl))
          pss_nil)
        (pss_cons (ps_for PassesOwn.never rfl (pi_str (pv 0)) (pg_name (i := 1) sc_is_name.nd rfl (.inl rfl))
          (pss_one (ps_if (pt_cmpR op_lt (pe_callB call_ord (by rfl) T.n_ord (by decide +kernel) (pa_cons (pv 1) pa_nil)) (C8.pe_gc (by rfl) T.g_first) (nomark _))
            (pss_one (ps_ret pe_bl))
            pss_nil)))
        (pss_one (ps_ret pe_bl))))), ?_⟩
    refine q_when (et_or (et_test (ev_op (ev_var rfl) ev_c (rv_eq rfl))) (fun _ => et_or (et_test (ev_op (ev_var rfl) ev_c (rv_eq rfl))) (fun _ => et_test (ev_op ev_c (ev_var rfl) (rv_inSign e_slash))))) (fun hb H1 e1 => ?_) (fun hb H1 e1 => ?_)
    · refine s_ret ev_c fun H2 e2 => ?_
      have g := q H2 (e1.trans e2)
      unfold nameOk at g
      rw [hb] at g
      exact g
    refine q_when (et_or (et_test (ev_op (ev_cb (ea_cons (ev_var rfl) ea_nil) (rc_lenStr hz)) ev_c rv_I0)) (fun _ => et_test (ev_op (ev_cb (ea_cons (ev_var rfl) ea_nil) (rc_lenStr hz)) ev_c rv_I0))) (fun hb2 H2 e2 => ?_) (fun hb2 H2 e2 => ?_)
    · refine s_ret ev_c fun H3 e3 => ?_
      have g := q H3 ((e1.trans e2).trans e3)
      unfold nameOk at g
      rw [hb, hb2] at g
      exact g
    refine q_forS (ev_var rfl) (fun i σ' H' => ∃ x, σ' = [some (.str z), x] ∧ Ex H H' ∧ (z.cps.toList.take i).all (fun c => !decide (((c : Nat) : Int) < 32)) = true) (fun H3 e3 => ⟨none, rfl, (e1.trans e2).trans e3, rfl⟩) ?_ ?_
    · rintro i c σ' H' hc ⟨x, rfl, eH, ha⟩
      refine s_when (et_test (ev_op (ev_cb (ea_cons (ev_var rfl) ea_nil) (rc_ord rfl)) ev_c rv_I0)) (fun hb3 H3 e3 => ?_) (fun hb3 H3 e3 => ?_)
      · refine s_ret ev_c fun H4 e4 => ?_
        have g := q H4 ((eH.trans e3).trans e4)
        have hf : (z.cps.toList.all fun c => !decide (((c : Nat) : Int) < 32)) = false := by
          rw [List.all_eq_false]
          refine ⟨c, List.mem_of_getElem? hc, ?_⟩
          have hb4 : decide (((c : Nat) : Int) < 32) = true := hb3
          rw [hb4]
          decide
        unfold nameOk at g
        rw [hb, hb2, hf] at g
        exact g
      · refine ⟨_, rfl, eH.trans e3, ?_⟩
        rw [all_take_succ hc, ha]
        have hb4 : decide (((c : Nat) : Int) < 32) = false := hb3
        rw [hb4]
        rfl
    · rintro σ' H' ⟨x, rfl, eH, ha⟩
      refine s_ret ev_c fun H4 e4 => ?_
      have g := q H4 (eH.trans e4)
      have e : z.cps.toList.take z.cps.size = z.cps.toList := List.take_of_length_le (by simp)
      rw [e] at ha
      unfold nameOk at g
      rw [hb, hb2, ha] at g
      exact g
/-! ### the drawn word -/
def menuW : List Str := [Str.ofString ".", Str.ofString "..", Str.ofString "", Str.ofString "...", PySem.Txt.mul (Str.ofString "a") 100, PySem.Txt.mul (Str.ofString "a") 101, Str.ofString " ", Str.ofString "/", Str.ofString "a/b", Str.ofString ".a"]
theorem menuW_len : ∀ z ∈ menuW, z.length ≤ 106 := by decide +kernel
def signs1 : List Str := [Str.ofString " ", Str.ofString "a", Str.ofString ".", Str.ofString "/", Str.ofString "\n", Str.ofString "\t", Str.ofString "~", Str.ofString "B"]
def signs2 : List Str := [Str.ofString " ", Str.ofString "a", Str.ofString ".", Str.ofString "~", Str.ofString "B", Str.ofString "9", Str.ofString "*", Str.ofString "-"]
theorem signs1_len : ∀ z ∈ signs1, z.length = 1 := by decide +kernel
theorem signs2_len : ∀ z ∈ signs2, z.length = 1 := by decide +kernel
def spWord (K : PySem.W.Frag) : Sp := fun vs H Q _ => ∃ (a : Addr) (cs : List Int), vs = [.ref a] ∧ SqL K H a (cs.map V.int) ∧ cs.length = 110 ∧ ∀ z : Str, z.length ≤ 106 → RetV (.str z) H Q
theorem len_app (a b : Str) : (a ++ b).length = a.length + b.length := by
  show (a.cps ++ b.cps).size = a.cps.size + b.cps.size
  exact Array.size_append
theorem ok_word {f : Addr} {fd : FuncData} (F : Fun K "_law_word" "_law_word" s_law_word f fd) (T : Txt K mg) : FnOk P w K mg base CX0 1 f fd ["cells"] (spWord K) := by
  refine F.ok sc_law_word (fun vs H Q E h => ?_) (fun cdv A outer s H vs Q E hr h => ?_)
  · obtain ⟨a, cs, rfl, _⟩ := h
    rfl
  · obtain ⟨a, cs, rfl, hS, hl, q⟩ := h
    refine ⟨_,
        (pss_cons (ps_set (i := 1) sc_law_word.nd rfl (.inl rfl) (pe_op op_mod (pe_callTy call_int1 (by rfl) T.n_int (by decide +kernel) (pa_cons (pe_ix ix_list (pv 0) pe_int (fun _ _ => rfl)) pa_nil)) pe_int))
        (pss_cons (ps_if (pt_cmpR op_eq (pv 1) pe_int (nomark _))
          (pss_one (ps_ret (pe_ix ix_list (pe_lst (pa_cons pe_str (pa_cons pe_str (pa_cons pe_str (pa_cons pe_str (pa_cons (pe_op op_mul_str pe_str pe_int) (pa_cons (pe_op op_mul_str pe_str pe_int) (pa_cons pe_str (pa_cons pe_str (pa_cons pe_str (pa_cons pe_str pa_nil))))))))))) (pe_op op_mod (pe_op op_fdiv (pe_callTy call_int1 (by rfl) T.n_int (by decide +kernel) (pa_cons (pe_ix ix_list (pv 0) pe_int (fun _ _ => rfl)) pa_nil)) pe_int) pe_int) (fun _ _ => rfl))))
          pss_nil)
        (pss_cons (ps_set (i := 2) sc_law_word.nd rfl (.inl rfl) (pe_lst (pa_cons pe_str (pa_cons pe_str (pa_cons pe_str (pa_cons pe_str (pa_cons pe_str (pa_cons pe_str (pa_cons pe_str (pa_cons pe_str pa_nil))))))))))
        (pss_cut (ps_if (pt_cmpR op_lt (pv 1) pe_int (nomark _))
          (pss_one (ps_set (i := 2) sc_law_word.nd rfl (.inl rfl) (pe_lst (pa_cons pe_str (pa_cons pe_str (pa_cons pe_str (pa_cons pe_str (pa_cons pe_str (pa_cons pe_str (pa_cons pe_str (pa_cons pe_str pa_nil)))))))))))
          pss_nil)
        (pss_cons (ps_set (i := 3) sc_law_word.nd rfl (.inl rfl) pe_str)
        (pss_cons (ps_for PassesOwn.never rfl (pi_range1 (by rfl) T.n_range (pa_cons (pe_op op_mod (pe_callTy call_int1 (by rfl) T.n_int (by decide +kernel) (pa_cons (pe_ix ix_list (pv 0) pe_int (fun _ _ => rfl)) pa_nil)) (pe_ix ix_list (pe_lst (pa_cons pe_int (pa_cons pe_int (pa_cons pe_int pa_nil)))) (pe_op op_mod (pe_op op_fdiv (pe_callTy call_int1 (by rfl) T.n_int (by decide +kernel) (pa_cons (pe_ix ix_list (pv 0) pe_int (fun _ _ => rfl)) pa_nil)) pe_int) pe_int) (fun _ _ => rfl))) pa_nil)) (pg_name (i := 4) sc_law_word.nd rfl (.inl rfl))
          (pss_one (ps_set (i := 3) sc_law_word.nd rfl (.inl rfl) (pe_op op_add_str (pv 3) (pe_ix ix_list (pv 2) (pe_op op_mod (pe_callTy call_int1 (by rfl) T.n_int (by decide +kernel) (pa_cons (pe_ix ix_list (pv 0) (pe_op op_add pe_int (pv 4)) (fun _ _ => rfl)) pa_nil)) pe_int) (fun _ _ => rfl))))))
        (pss_one (ps_ret (pv 3))))))))), ?_⟩
    have cell : ∀ {σ : L2.St} {ti : TE} {H1 : Hp} {i : Int}, Ex H H1 → σ[0]? = some (some (.ref a)) → Ev ti σ H1 (.int i) → 0 ≤ i → i < 110 → Ev (tCB (fun xs H Q => (∃ i, xs = [V.int i] ∧ Q (V.int i) H) ∨ ∃ k, xs = [V.bl k] ∧ Q (V.int (if k = true then 1 else 0)) H) (tCons (tOp (rIxL K) (tVar 0) ti) tNil)) σ H1 (.int (cs.getD i.toNat 0)) := fun e h0 hi i0 i1 =>
      ev_cb (ea_cons (ev_op (ev_var h0) hi (rv_ixL (ex_l e hS) (at_int i0 (by omega)))) ea_nil) rc_int
    have mod_b : ∀ (x m : Int), 0 < m → 0 ≤ x % m ∧ x % m < m := fun x m h => ⟨Int.emod_nonneg _ (by omega), Int.emod_lt_of_pos _ h⟩
    refine q_asg (ev_op (cell (Ex.refl H) rfl ev_c (by decide) (by decide)) ev_c (rv_I (by show (0 : Int) < 6; decide))) fun H1 e1 => ?_
    refine q_when (et_test (ev_op (ev_var rfl) ev_c (rv_eq rfl))) (fun hb H2 e2 => ?_) (fun hb H2 e2 => ?_)
    · have hm := mod_b (cs.getD (0 : Int).toNat 0 / 6) 10 (by decide)
      have hlt : (cs.getD (0 : Int).toNat 0 / 6 % 10).toNat < menuW.length := by
        show _ < 10
        omega
      refine s_ret (ev_opL1 (xs := menuW.map V.str) (el_lst (ea_cons ev_c (ea_cons ev_c (ea_cons ev_c (ea_cons ev_c (ea_cons (ev_op ev_c ev_c (rv_mulStr (by decide) (by decide) (by decide +kernel))) (ea_cons (ev_op ev_c ev_c (rv_mulStr (by decide) (by decide) (by decide +kernel))) (ea_cons ev_c (ea_cons ev_c (ea_cons ev_c (ea_cons ev_c ea_nil)))))))))) (by show 10 ≤ 100000; decide))
        (fun H3 e3 => ev_op (ev_op (cell ((e1.trans e2).trans e3) rfl ev_c (by decide) (by decide)) ev_c (rv_I ⟨by decide, by decide⟩)) ev_c (rv_I (by show (0 : Int) < 10; decide)))
        fun p H3 h3 _ => rv_ixL (sq_of h3) (at_str hm.1 (by show _ < ((10 : Nat) : Int); omega))) fun H3 e3 => ?_
      exact q _ (menuW_len _ (memD hlt)) H3 ((e1.trans e2).trans e3)
    refine q_asgL (xs := signs1.map V.str) (el_lst (ea_cons ev_c (ea_cons ev_c (ea_cons ev_c (ea_cons ev_c (ea_cons ev_c (ea_cons ev_c (ea_cons ev_c (ea_cons ev_c ea_nil)))))))) (by show 8 ≤ 100000; decide)) fun p H3 hp e3 h3 => ?_
    have e13 := (e1.trans e2).trans e3
    refine q_cut (M := fun σ' H' => ∃ (kk : Int) (p : Addr) (ss : List Str), σ' = [some (.ref a), some (.int kk), some (.ref p), none, none] ∧ Ex H H' ∧ H' p = some (.lst (ss.map V.str)) ∧ ss.length = 8 ∧ ∀ z ∈ ss, z.length = 1) ?_ ?_
    · refine s_when (et_test (ev_op (ev_var rfl) ev_c rv_I0)) (fun hb H4 e4 => ?_) (fun hb H4 e4 => ?_)
      · exact s_asgL (xs := signs2.map V.str) (el_lst (ea_cons ev_c (ea_cons ev_c (ea_cons ev_c (ea_cons ev_c (ea_cons ev_c (ea_cons ev_c (ea_cons ev_c (ea_cons ev_c ea_nil)))))))) (by show 8 ≤ 100000; decide)) fun p' H5 hp' e5 h5 => ⟨_, p', signs2, rfl, (e13.trans e4).trans e5, h5, rfl, signs2_len⟩
      · exact ⟨_, p, signs1, rfl, e13.trans e4, e4 p _ h3, rfl, signs1_len⟩
    · rintro σ' H' ⟨kk, p', ss, rfl, eH, hps, hss, hs1⟩
      refine q_asg ev_c fun H4 e4 => ?_
      have hm3 := mod_b (cs.getD (0 : Int).toNat 0 / 6) 3 (by decide)
      have hnum : ∀ j : Nat, j < 3 → 0 < ([4, 12, 106] : List Int).getD j 0 ∧ ([4, 12, 106] : List Int).getD j 0 ≤ 106 := fun j hj => by
        rcases j with _ | _ | _ | j
        · decide
        · decide
        · decide
        · omega
      have hn := hnum (cs.getD (0 : Int).toNat 0 / 6 % 3).toNat (by omega)
      have hr2 := mod_b (cs.getD (1 : Int).toNat 0) (([4, 12, 106] : List Int).getD (cs.getD (0 : Int).toNat 0 / 6 % 3).toNat 0) hn.1
      refine q_forR1 (n := cs.getD (1 : Int).toNat 0 % ([4, 12, 106] : List Int).getD (cs.getD (0 : Int).toNat 0 / 6 % 3).toNat 0)
        (ea_cons (ev_opV2 (cell (eH.trans e4) rfl ev_c (by decide) (by decide)) (fun H5 e5 => ev_opL1 (xs := ([4, 12, 106] : List Int).map V.int) (el_lst (ea_cons ev_c (ea_cons ev_c (ea_cons ev_c ea_nil))) (by show 3 ≤ 100000; decide)) (fun H6 e6 => ev_op (ev_op (cell (((eH.trans e4).trans e5).trans e6) rfl ev_c (by decide) (by decide)) ev_c (rv_I ⟨by decide, by decide⟩)) ev_c (rv_I (by show (0 : Int) < 3; decide))) fun p6 H6 h6 _ => rv_ixL (sq_of h6) (at_int hm3.1 (by show _ < ((3 : Nat) : Int); omega))) (rv_I hn.1)) ea_nil) ⟨hr2.1, by omega⟩
        (fun i σ2 H2 => ∃ (z : Str) (k : Option V), σ2 = [some (.ref a), some (.int kk), some (.ref p'), some (.str z), k] ∧ Ex H H2 ∧ H2 p' = some (.lst (ss.map V.str)) ∧ z.length = i) (fun H5 e5 => ⟨_, none, rfl, (eH.trans e4).trans e5, e5 p' _ (e4 p' _ hps), by decide +kernel⟩) ?_ ?_
      · rintro i σ2 H2 hi ⟨z, k, rfl, e2', h2', hz⟩
        have hm8 := mod_b (cs.getD (2 + (i : Int)).toNat 0) 8 (by decide)
        have hlt : (cs.getD (2 + (i : Int)).toNat 0 % 8).toNat < ss.length := by omega
        have h1 := hs1 _ (memD (d := Str.empty) hlt)
        refine s_asg (ev_op (ev_var rfl) (ev_op (ev_var rfl) (ev_op (cell e2' rfl (ev_op ev_c (ev_var rfl) rv_I0) (by omega) (by omega)) ev_c (rv_I (by show (0 : Int) < 8; decide))) (rv_ixL (sq_of h2') (at_str hm8.1 (by omega)))) (rv_addS (by rw [h1]; omega))) fun H5 e5 => ⟨_, _, rfl, e2'.trans e5, e5 p' _ h2', ?_⟩
        rw [len_app, h1, hz]
      · rintro σ2 H2 ⟨z, k, rfl, e2', h2', hz⟩
        exact s_ret (ev_var rfl) fun H5 e5 => q z (by omega) H5 (e2'.trans e5)
/-! ### the law -/
theorem name_split (p q : Nat → Bool) (l : List Nat) : (l.all fun c => !(p c || q c)) = ((l.all fun c => !p c) && l.all fun c => !q c) := by
  induction l with
  | nil => rfl
  | cons c l ih =>
    rw [List.all_cons, List.all_cons, List.all_cons, ih]
    cases p c <;> cases q c <;> simp
theorem not_slash (l : List Nat) : (l.all fun c => !decide (c = 47)) = !decide (47 ∈ l) := by
  rw [Bool.eq_iff_iff]
  simp only [List.all_eq_true, Bool.not_eq_true', decide_eq_false_iff_not]
  constructor
  · intro h hm
    exact h 47 hm rfl
  · rintro h c hc rfl
    exact h hc
theorem name_is (z : Str) : nameOk z = (((decide ((1 : Int) ≤ (z.length : Int)) && decide ((z.length : Int) ≤ 100)) && ((!decide (V.str z = V.str (Str.ofString "."))) && (!decide (V.str z = V.str (Str.ofString ".."))))) && z.cps.toList.all fun c => !(decide (((c : Nat) : Int) < 32) || decide (c = 47))) := by
  rw [name_split, not_slash]
  unfold nameOk
  have h1 : decide ((z.length : Int) < 1) = !decide ((1 : Int) ≤ (z.length : Int)) := by
    rw [← decide_not]
    exact decide_eq_decide.mpr (by omega)
  have h2 : decide ((100 : Int) < (z.length : Int)) = !decide ((z.length : Int) ≤ 100) := by
    rw [← decide_not]
    exact decide_eq_decide.mpr (by omega)
  rw [h1, h2]
  cases decide (V.str z = V.str (Str.ofString ".")) <;> cases decide (V.str z = V.str (Str.ofString "..")) <;> cases decide (47 ∈ z.cps.toList) <;> cases decide ((1 : Int) ≤ (z.length : Int)) <;> cases decide ((z.length : Int) ≤ 100) <;> cases (z.cps.toList.all fun c => !decide (((c : Nat) : Int) < 32)) <;> rfl
theorem ok_law {f fC fW fN : Addr} {fd fdC fdW fdN : FuncData} (F : Fun K "law" "law" s_law f fd) (T : Txt K mg)
    (FC : Fun K "_law_cells" "_law_cells" s_law_cells fC fdC) (bC : Binds K fdC ["script", "count"] []) (mC : mg "_law_cells" = some (.ref fC))
    (FW : Fun K "_law_word" "_law_word" s_law_word fW fdW) (bW : Binds K fdW ["cells"] []) (mW : mg "_law_word" = some (.ref fW))
    (FN : Fun K "is_name" "is_name" s_is_name fN fdN) (bN : Binds K fdN ["text"] []) (mN : mg "is_name" = some (.ref fN)) : FnOk P w K mg base CX0 2 f fd ["script"] (spLaw K) := by
  have GC : FnOk P w K mg base CX0 1 fC fdC ["script", "count"] (spCells K) := ok_cells FC T
  have GW : FnOk P w K mg base CX0 1 fW fdW ["cells"] (spWord K) := ok_word FW T
  have GN : FnOk P w K mg base CX0 1 fN fdN ["text"] spName := ok_name FN T
  refine F.ok sc_law (fun vs H Q E h => ?_) (fun cdv A outer s H vs Q E hr h => ?_)
  · obtain ⟨a, ns, rfl, _⟩ := h
    rfl
  · obtain ⟨a, ns, rfl, hS, hl, q⟩ := h
    refine ⟨_,
        (pss_cons (ps_set (i := 1) sc_law.nd rfl (.inl rfl) (pe_call GW hr (by rfl) mW FW.kp bW .nil pass0 (pa_cons (pe_call GC hr (by rfl) mC FC.kp bC .nil pass0 (pa_cons (pv 0) (pa_cons pe_int pa_nil))) pa_nil)))
        (pss_cons (ps_set (i := 2) sc_law.nd rfl (.inl rfl) (pe_and (pe_chain op_le op_le pe_int (pe_callB call_len_str (by rfl) T.n_len PySem.boot_len (pa_cons (pv 1) pa_nil)) pe_int) (pe_and (pe_cmpR op_ne (pv 1) pe_str (nomark _)) (pe_one (pe_cmpR op_ne (pv 1) pe_str (nomark _))))))
        (pss_cons (ps_for PassesOwn.never rfl (pi_str (pv 1)) (pg_name (i := 3) sc_law.nd rfl (.inl rfl))
          (pss_one (ps_if (PW.pt (pw_or (pt_cmpR op_lt (pe_callB call_ord (by rfl) T.n_ord (by decide +kernel) (pa_cons (pv 3) pa_nil)) pe_int (nomark _)) (pw_or1 (pt_cmpR op_eq (pv 3) pe_str (nomark _)))))
            (pss_one (ps_set (i := 2) sc_law.nd rfl (.inl rfl) pe_bl))
            pss_nil)))
        (pss_one (ps_ret (pe_cmpR op_eq (pe_call GN hr (by rfl) mN FN.kp bN .nil pass0 (pa_cons (pv 1) pa_nil)) (pv 2) (nomark _))))))), ?_⟩
    refine q_asgP (R := fun v => ∃ z : Str, v = .str z ∧ z.length ≤ 106) (ep_callL (el_call (ea_cons (ev_var rfl) (ea_cons ev_c ea_nil)) (sp_cells (n := 110) hS hl (by decide))) fun p H1 e1 h1 => fun H2 e2 Q q E => ⟨p, cellsOf ns 110, rfl, ex_l e2 (sq_of h1), cellsOf_len ns 110, fun z hz H3 e3 => q _ H3 ⟨z, rfl, hz⟩ e3⟩) ?_
    rintro _ H1 ⟨z, rfl, hz⟩ e1
    have hz2 : z.length ≤ 100000 := by omega
    refine q_asg (ev_andV (ev_chain ev_c (ev_cb (ea_cons (ev_var rfl) ea_nil) (rc_lenStr hz2)) rv_I0 (fun _ => ev_c) (fun _ => rv_I0)) (fun _ => ev_andV (ev_op (ev_var rfl) ev_c (rv_ne rfl)) (fun _ => ev_op (ev_var rfl) ev_c (rv_ne rfl)))) fun H2 e2 => ?_
    refine q_forS (ev_var rfl) (fun i σ' H' => ∃ x, σ' = [some (.ref a), some (.str z), some (.bl (((decide ((1 : Int) ≤ (z.length : Int)) && decide ((z.length : Int) ≤ 100)) && ((!decide (V.str z = V.str (Str.ofString "."))) && (!decide (V.str z = V.str (Str.ofString ".."))))) && (z.cps.toList.take i).all fun c => !(decide (((c : Nat) : Int) < 32) || decide (c = 47)))), x] ∧ Ex H H')
      (fun H3 e3 => ⟨none, by rw [List.take_zero, List.all_nil, Bool.and_true]; rfl, (e1.trans e2).trans e3⟩) ?_ ?_
    · rintro i c σ' H' hc ⟨x, rfl, eH⟩
      refine s_when (et_or (et_test (ev_op (ev_cb (ea_cons (ev_var rfl) ea_nil) (rc_ord rfl)) ev_c rv_I0)) (fun _ => et_test (ev_is (ev_op (ev_var rfl) ev_c (rv_eq rfl)) (congrArg V.bl (dec_str1 e_slash))))) (fun hb H3 e3 => ?_) (fun hb H3 e3 => ?_)
      · have hb4 : (decide (((c : Nat) : Int) < 32) || decide (c = 47)) = true := hb
        refine s_asg ev_c fun H4 e4 => ⟨some (.str ⟨#[c]⟩), ?_, (eH.trans e3).trans e4⟩
        rw [all_take_succ hc, hb4]
        simp
      · have hb4 : (decide (((c : Nat) : Int) < 32) || decide (c = 47)) = false := hb
        refine ⟨some (.str ⟨#[c]⟩), ?_, eH.trans e3⟩
        rw [all_take_succ hc, hb4]
        simp
    · rintro σ' H' ⟨x, rfl, eH⟩
      have e : z.cps.toList.take z.cps.size = z.cps.toList := List.take_of_length_le (by simp)
      refine s_ret (ev_op (ev_call (ea_cons (ev_var rfl) ea_nil) (fun H4 e4 Q q E => ⟨z, rfl, hz2, fun H5 e5 => q H5 e5⟩)) (ev_var rfl) (rv_eq rfl)) fun H3 e3 => ?_
      rw [e, ← name_is, decide_eq_true rfl]
      exact q H3
end
/-! ### what the top has made; the law's own head -/
theorem all_mk {l : PySem.W.OpenLaw} {w : World} {K : PySem.W.Frag} {h : Heap} {mg : Str → Option Value} {fa f1 f2 f3 f4 : Addr} (X : K.In h) (G : h.Ns mainGlobals mg) (hfa : mg "law" = some (.ref fa)) {t1 t2 : Tok}
    {od1 an1 od2 an2 od3 an3 od4 an4 : Option Addr} {sl1 sl2 sl3 sl4 : Array (Option Value)} {oc1 kV1 dc1 pm1 cd1 ct1 oc2 kV2 dc2 pm2 cd2 ct2 oc3 kV3 dc3 pm3 cd3 ct3 oc4 kV4 dc4 pm4 cd4 ct4 : Value}
    (a1 : PySem.W.nsIn K mainGlobals "is_name" = some (some (.ref f1))) (l1 : K.lookup f1 = some ⟨oc1, od1, .func (PySem.W.fnOf "is_name" "is_name" (defArgs s_is_name) (defBody s_is_name) (defScope s_is_name) .none kV1 dc1 pm1 an1 cd1 ct1), sl1⟩) (c1 : PySem.W.codeIn K cd1 "is_name" = true) (k1 : PySem.W.keepIn K (.ref f1) = true)
    (a2 : PySem.W.nsIn K mainGlobals "_law_cells" = some (some (.ref f2))) (l2 : K.lookup f2 = some ⟨oc2, od2, .func (PySem.W.fnOf "_law_cells" "_law_cells" (defArgs s_law_cells) (defBody s_law_cells) (defScope s_law_cells) .none kV2 dc2 pm2 an2 cd2 ct2), sl2⟩) (c2 : PySem.W.codeIn K cd2 "_law_cells" = true) (k2 : PySem.W.keepIn K (.ref f2) = true)
    (a3 : PySem.W.nsIn K mainGlobals "_law_word" = some (some (.ref f3))) (l3 : K.lookup f3 = some ⟨oc3, od3, .func (PySem.W.fnOf "_law_word" "_law_word" (defArgs s_law_word) (defBody s_law_word) (defScope s_law_word) .none kV3 dc3 pm3 an3 cd3 ct3), sl3⟩) (c3 : PySem.W.codeIn K cd3 "_law_word" = true) (k3 : PySem.W.keepIn K (.ref f3) = true)
    (a4 : PySem.W.nsIn K mainGlobals "law" = some (some (.ref f4))) (l4 : K.lookup f4 = some ⟨oc4, od4, .func (PySem.W.fnOf "law" "law" (defArgs s_law) (defBody s_law) (defScope s_law) .none kV4 dc4 pm4 an4 cd4 ct4), sl4⟩) (c4 : PySem.W.codeIn K cd4 "law" = true) (k4 : PySem.W.keepIn K (.ref f4) = true)
    (z1 : PySem.W.nsIn K mainGlobals "int" = some none) (z2 : PySem.W.nsIn K mainGlobals "len" = some none) (z3 : PySem.W.nsIn K mainGlobals "ord" = some none) (z4 : PySem.W.nsIn K mainGlobals "range" = some none)
    (g1 : PySem.W.nsIn K mainGlobals "MOST_SIGNS" = some (some (.int 100 t1))) (g2 : PySem.W.nsIn K mainGlobals "FIRST_SIGN" = some (some (.int 32 t2))) :
    ∃ fd : FuncData, (∀ (s : Shared) (v : Value), BindsTo s fd ⟨[v], []⟩ [("script", v)]) ∧ ∀ base : Heap, K.In base → base.Ns mainGlobals mg → FnOk l.prog w K mg base CX0 2 fa fd ["script"] (spLaw K) := by
  have e := hfa.symm.trans (PySem.W.mg_of X G a4)
  cases e
  have T : Txt K mg := ⟨PySem.W.mg_none_of X G z1, PySem.W.mg_none_of X G z2, PySem.W.mg_none_of X G z3, PySem.W.mg_none_of X G z4, ⟨_, PySem.W.mg_of X G g1, ⟨_, rfl⟩⟩, ⟨_, PySem.W.mg_of X G g2, ⟨_, rfl⟩⟩⟩
  have F1 := fun_mk (st := s_is_name) l1 c1 k1
  have F2 := fun_mk (st := s_law_cells) l2 c2 k2
  have F3 := fun_mk (st := s_law_word) l3 c3 k3
  have F4 := fun_mk (st := s_law) l4 c4 k4
  have b1 := F1.binds (ps := ["text"]) fun _ _ _ _ _ _ us hl => match us, hl with | [_], _ => rfl
  have b2 := F2.binds (ps := ["script", "count"]) fun _ _ _ _ _ _ us hl => match us, hl with | [_, _], _ => rfl
  have b3 := F3.binds (ps := ["cells"]) fun _ _ _ _ _ _ us hl => match us, hl with | [_], _ => rfl
  exact ⟨PySem.W.fnOf "law" "law" (defArgs s_law) (defBody s_law) (defScope s_law) .none kV4 dc4 pm4 an4 cd4 ct4, fun s v => .of_eq rfl, fun base _ _ => ok_law F4 T F2 b2 (PySem.W.mg_of X G a2) F3 b3 (PySem.W.mg_of X G a3) F1 b1 (PySem.W.mg_of X G a1)⟩
end K01
open PySem PySem.W PyProof.Rows
set_option maxHeartbeats 0 in
theorem PySem.Challenge.cw_foldkeep_k01_names_holds : PySem.Challenge.rw_foldkeep_k01_names.Holds := by
  w_on; o_law; k_head; (case hw => w_witness2)
  k_fill
  refine L2.walk_of (l := PySem.Challenge.rw_foldkeep_k01_names) (n := 63) (k := 2) (x := "script") (CX := fun _ => L2.CX0) (sp := fun w => Lw.spLaw _) rfl (by decide) rfl ⟨rfl, by decide, by decide⟩ (fun w h Y => PySem.W.kIn_of Y) ?F (fun _ _ a ns hl _ hS => ⟨a, ns, rfl, hS, hl, fun _ => rfl⟩) (fun _ _ _ _ _ h => h)
  case F =>
    intro w mg fa h KX G hmg
    refine' K01.all_mk KX G hmg ?a1 ?l1 ?c1 ?k1 ?a2 ?l2 ?c2 ?k2 ?a3 ?l3 ?c3 ?k3 ?a4 ?l4 ?c4 ?k4 ?z1 ?z2 ?z3 ?z4 ?g1 ?g2
    (case a1 => k_is); (case l1 => k_is); (case c1 => k_is); (case k1 => k_is)
    (case a2 => k_is); (case l2 => k_is); (case c2 => k_is); (case k2 => k_is)
    (case a3 => k_is); (case l3 => k_is); (case c3 => k_is); (case k3 => k_is)
    (case a4 => k_is); (case l4 => k_is); (case c4 => k_is); (case k4 => k_is)
    (case z1 => k_is); (case z2 => k_is); (case z3 => k_is); (case z4 => k_is); (case g1 => k_is); (case g2 => k_is)
#print axioms PySem.Challenge.cw_foldkeep_k01_names_holds
