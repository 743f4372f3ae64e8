import PyProof.Rows.All
import Wide.All
import OpenK.AllK
import Wide.FinOn
import HandS.Defaults
import HandS.Flow
import HandS.ForExc
import HandS.ForMost
import HandS.Gcd
import HandS.Head0
import HandS.Head1
import HandS.Head2
import HandS.Head3
import HandS.HeadEnd
import HandS.HeadHook1
import HandS.HeadHook2
import HandS.HeadHook3
import HandS.HeadHook4
import HandS.IsInst
import HandS.Style
import HandS.Wide
import HandS.WideBits
import HandS.Zip
import Lean
import PySem.Challenge.RW_toldproducts_k01_numbers_sums_and_multip
set_option Elab.async false
set_option linter.all false
set_option maxRecDepth 100000
set_option maxHeartbeats 4000000
namespace L2.PL
theorem divInt_pos (a : Int) (d : Nat) (h : d ≠ 0) : (Rat.divInt a (d : Int)).num = a / ((Nat.gcd a.natAbs d : Nat) : Int) ∧ (Rat.divInt a (d : Int)).den = d / Nat.gcd a.natAbs d := by
  have e : Rat.divInt a (d : Int) = Rat.normalize a d h := by
    show mkRat a d = _
    exact (Rat.normalize_eq_mkRat h).symm
  rw [e, Rat.normalize_eq]
  exact ⟨rfl, rfl⟩
theorem divInt_negS (a : Int) (d : Nat) : Rat.divInt a (Int.negSucc d) = Rat.divInt (-a) ((d + 1 : Nat) : Int) := by
  show Rat.normalize (-a) (d + 1) (by omega) = mkRat (-a) (d + 1)
  exact Rat.normalize_eq_mkRat _
/-- what a number is brought to -/
def shr (a b : Int) : Int := if b < 0 then -((Nat.gcd a.natAbs b.natAbs : Nat) : Int) else ((Nat.gcd a.natAbs b.natAbs : Nat) : Int)
theorem gcd_posR {a b : Int} (h : b ≠ 0) : 0 < Nat.gcd a.natAbs b.natAbs := Nat.gcd_pos_of_pos_right _ (by omega)
theorem shr_ne {a b : Int} (h : b ≠ 0) : shr a b ≠ 0 := by
  have := gcd_posR (a := a) h
  unfold shr
  split <;> omega
theorem fdiv_neg' {a b : Int} : a.fdiv (-b) = (-a).fdiv b := by
  rw [← Int.neg_fdiv_neg (a := a) (b := -b), Int.neg_neg]
theorem fdiv_dvd {a b : Int} (h : b ∣ a) : a.fdiv b = a / b := Int.fdiv_eq_ediv_of_dvd h
theorem low_eq {a b : Int} (h : b ≠ 0) : a.fdiv (shr a b) = (Rat.divInt a b).num ∧ b.fdiv (shr a b) = ((Rat.divInt a b).den : Int) := by
  have d1 : ((Nat.gcd a.natAbs b.natAbs : Nat) : Int) ∣ a := Int.natAbs_dvd_natAbs.mp (Nat.gcd_dvd_left _ _)
  have d2 : ((Nat.gcd a.natAbs b.natAbs : Nat) : Int) ∣ b := Int.natAbs_dvd_natAbs.mp (Nat.gcd_dvd_right _ _)
  cases b with
  | ofNat d =>
    have hd : d ≠ 0 := fun e => h (by rw [e]; rfl)
    obtain ⟨e1, e2⟩ := divInt_pos a d hd
    have es : shr a (Int.ofNat d) = ((Nat.gcd a.natAbs d : Nat) : Int) := by unfold shr; rw [if_neg (by simp)]; rfl
    have d1 : ((Nat.gcd a.natAbs d : Nat) : Int) ∣ a := d1
    have d2 : ((Nat.gcd a.natAbs d : Nat) : Int) ∣ Int.ofNat d := d2
    rw [es]
    refine ⟨by rw [fdiv_dvd d1]; exact e1.symm, ?_⟩
    rw [fdiv_dvd d2]
    show _ = ((Rat.divInt a (d : Int)).den : Int)
    rw [e2]; rfl
  | negSucc d =>
    rw [divInt_negS]
    obtain ⟨e1, e2⟩ := divInt_pos (-a) (d + 1) (by omega)
    rw [Int.natAbs_neg] at e1 e2
    have es : shr a (Int.negSucc d) = -((Nat.gcd a.natAbs (d + 1) : Nat) : Int) := by unfold shr; rw [if_pos (Int.negSucc_lt_zero d)]; rfl
    have d1' : ((Nat.gcd a.natAbs (d + 1) : Nat) : Int) ∣ -a := Int.dvd_neg.mpr d1
    have d2' : ((Nat.gcd a.natAbs (d + 1) : Nat) : Int) ∣ -(Int.negSucc d) := Int.dvd_neg.mpr d2
    rw [es, fdiv_neg', fdiv_neg', fdiv_dvd d1', fdiv_dvd d2']
    refine ⟨e1.symm, ?_⟩
    rw [e2]; rfl
/-- the other way to write it -/
theorem low_eq2 {a b : Int} (h : b ≠ 0) : (if 0 < b then a.fdiv ((Nat.gcd a.natAbs b.natAbs : Nat) : Int) else (-a).fdiv ((Nat.gcd a.natAbs b.natAbs : Nat) : Int)) = (Rat.divInt a b).num ∧
    (if 0 < b then b.fdiv ((Nat.gcd a.natAbs b.natAbs : Nat) : Int) else (-b).fdiv ((Nat.gcd a.natAbs b.natAbs : Nat) : Int)) = ((Rat.divInt a b).den : Int) := by
  obtain ⟨e1, e2⟩ := low_eq (a := a) h
  by_cases hb : 0 < b
  · rw [if_pos hb, if_pos hb]
    have es : shr a b = ((Nat.gcd a.natAbs b.natAbs : Nat) : Int) := by unfold shr; rw [if_neg (by omega)]
    rw [es] at e1 e2
    exact ⟨e1, e2⟩
  · rw [if_neg hb, if_neg hb]
    have es : shr a b = -((Nat.gcd a.natAbs b.natAbs : Nat) : Int) := by unfold shr; rw [if_pos (by omega)]
    rw [es, fdiv_neg'] at e1 e2
    exact ⟨e1, e2⟩
theorem shr_natAbs {a b : Int} : (shr a b).natAbs = Nat.gcd a.natAbs b.natAbs := by unfold shr; split <;> simp
theorem rat_lowest (r : Rat) : Nat.gcd r.num.natAbs r.den = 1 := r.reduced
theorem rat_den_pos (r : Rat) : 1 ≤ r.den := Nat.pos_of_ne_zero r.den_nz
/-- sizes -/
def RB (n : Nat) (r : Rat) : Prop := r.num.natAbs < 2 ^ n ∧ r.den < 2 ^ n
theorem RB.mono {m n : Nat} {r : Rat} (h : RB m r) (l : m ≤ n) : RB n r := ⟨Nat.lt_of_lt_of_le h.1 (Nat.pow_le_pow_right (by decide) l), Nat.lt_of_lt_of_le h.2 (Nat.pow_le_pow_right (by decide) l)⟩
theorem natAbs_fdiv_le {a b : Int} (h : b ∣ a) : (a.fdiv b).natAbs ≤ a.natAbs := by
  rw [fdiv_dvd h, Int.natAbs_ediv_of_dvd h]
  exact Nat.div_le_self _ _
theorem divInt_le {a b : Int} (h : b ≠ 0) : (Rat.divInt a b).num.natAbs ≤ a.natAbs ∧ (Rat.divInt a b).den ≤ b.natAbs := by
  obtain ⟨e1, e2⟩ := low_eq (a := a) h
  have d1 : shr a b ∣ a := Int.natAbs_dvd_natAbs.mp (by rw [shr_natAbs]; exact Nat.gcd_dvd_left _ _)
  have d2 : shr a b ∣ b := Int.natAbs_dvd_natAbs.mp (by rw [shr_natAbs]; exact Nat.gcd_dvd_right _ _)
  refine ⟨by rw [← e1]; exact natAbs_fdiv_le d1, ?_⟩
  have := natAbs_fdiv_le d2
  rw [e2] at this
  simpa using this
theorem divInt_RB {a b : Int} {n : Nat} (h : b ≠ 0) (ha : a.natAbs < 2 ^ n) (hb : b.natAbs < 2 ^ n) : RB n (Rat.divInt a b) :=
  ⟨Nat.lt_of_le_of_lt (divInt_le h).1 ha, Nat.lt_of_le_of_lt (divInt_le h).2 hb⟩
theorem rat_add (x y : Rat) : Rat.divInt (x.num * y.den + y.num * x.den) (x.den * y.den) = x + y := by
  have hx : (x.den : Int) ≠ 0 := by have := rat_den_pos x; omega
  have hy : (y.den : Int) ≠ 0 := by have := rat_den_pos y; omega
  rw [← Rat.divInt_add_divInt _ _ hx hy, Rat.num_divInt_den, Rat.num_divInt_den]
theorem rat_mul (x y : Rat) : Rat.divInt (x.num * y.num) (x.den * y.den) = x * y := by
  rw [← Rat.divInt_mul_divInt, Rat.num_divInt_den, Rat.num_divInt_den]
theorem pow_mul_lt {a b m n : Nat} (ha : a < 2 ^ m) (hb : b < 2 ^ n) : a * b < 2 ^ (m + n) := by rw [Nat.pow_add]; exact Nat.mul_lt_mul'' ha hb
theorem RB.mul {m n : Nat} {x y : Rat} (hx : RB m x) (hy : RB n y) : RB (m + n) (x * y) := by
  have hx0 := rat_den_pos x
  have hy0 := rat_den_pos y
  have h : ((x.den : Int) * y.den) ≠ 0 := by
    intro e
    rcases Int.mul_eq_zero.mp e with e | e <;> omega
  rw [← rat_mul]
  refine divInt_RB h ?_ ?_
  · rw [Int.natAbs_mul]; exact pow_mul_lt hx.1 hy.1
  · rw [Int.natAbs_mul]; exact pow_mul_lt (by simpa using hx.2) (by simpa using hy.2)
theorem RB.add {m n : Nat} {x y : Rat} (hx : RB m x) (hy : RB n y) : RB (m + n + 1) (x + y) := by
  have hx0 := rat_den_pos x
  have hy0 := rat_den_pos y
  have h : ((x.den : Int) * y.den) ≠ 0 := by
    intro e
    rcases Int.mul_eq_zero.mp e with e | e <;> omega
  rw [← rat_add]
  have h1 : x.num.natAbs * y.den < 2 ^ (m + n) := pow_mul_lt hx.1 hy.2
  have h2 : y.num.natAbs * x.den < 2 ^ (m + n) := by rw [Nat.add_comm m n]; exact pow_mul_lt hy.1 hx.2
  have h3 : x.den * y.den < 2 ^ (m + n) := pow_mul_lt hx.2 hy.2
  refine divInt_RB h ?_ ?_
  · have e1 : (x.num * (y.den : Int)).natAbs = x.num.natAbs * y.den := by rw [Int.natAbs_mul]; simp
    have e2 : (y.num * (x.den : Int)).natAbs = y.num.natAbs * x.den := by rw [Int.natAbs_mul]; simp
    have := Int.natAbs_add_le (x.num * (y.den : Int)) (y.num * (x.den : Int))
    rw [Nat.pow_succ]; omega
  · have e3 : ((x.den : Int) * y.den).natAbs = x.den * y.den := by rw [Int.natAbs_mul]; simp
    rw [e3, Nat.pow_succ]; omega
theorem RB.neg {n : Nat} {x : Rat} (h : RB n x) : RB n (-x) := by
  refine ⟨?_, ?_⟩
  · rw [Rat.neg_num, Int.natAbs_neg]; exact h.1
  · rw [Rat.neg_den]; exact h.2
theorem RB.zero : RB 1 0 := ⟨by decide, by decide⟩
theorem RB.one : RB 1 1 := ⟨by decide, by decide⟩
end L2.PL
namespace L2.PL
/-! common belows -/
def lcmL (l : List (Int × Int)) : Nat := l.foldl (fun a q => Nat.lcm a q.2.natAbs) 1
theorem lcmL_app (l : List (Int × Int)) (q : Int × Int) : lcmL (l ++ [q]) = Nat.lcm (lcmL l) q.2.natAbs := by unfold lcmL; rw [List.foldl_append]; rfl
theorem foldl_lcm_dvd (l : List (Int × Int)) : ∀ a : Nat, a ∣ l.foldl (fun a q => Nat.lcm a q.2.natAbs) a ∧ ∀ q ∈ l, q.2.natAbs ∣ l.foldl (fun a q => Nat.lcm a q.2.natAbs) a := by
  induction l with
  | nil => intro a; exact ⟨Nat.dvd_refl _, by simp⟩
  | cons q r ih =>
    intro a
    obtain ⟨h1, h2⟩ := ih (Nat.lcm a q.2.natAbs)
    refine ⟨Nat.dvd_trans (Nat.dvd_lcm_left _ _) h1, fun p hp => ?_⟩
    rcases List.mem_cons.mp hp with rfl | hp
    · exact Nat.dvd_trans (Nat.dvd_lcm_right _ _) h1
    · exact h2 p hp
theorem lcmL_dvd {l : List (Int × Int)} {q : Int × Int} (h : q ∈ l) : q.2.natAbs ∣ lcmL l := (foldl_lcm_dvd l 1).2 q h
theorem foldl_lcm_pos (l : List (Int × Int)) (h : ∀ q ∈ l, 1 ≤ q.2) : ∀ a : Nat, 0 < a → 0 < l.foldl (fun a q => Nat.lcm a q.2.natAbs) a := by
  induction l with
  | nil => intro a h0; exact h0
  | cons q r ih =>
    intro a h0
    have h1 := h q List.mem_cons_self
    exact ih (fun p hp => h p (List.mem_cons_of_mem _ hp)) _ (Nat.lcm_pos h0 (by omega))
theorem lcmL_pos {l : List (Int × Int)} (h : ∀ q ∈ l, 1 ≤ q.2) : 0 < lcmL l := foldl_lcm_pos l h 1 (by decide)
theorem foldl_lcm_min (l : List (Int × Int)) (m : Nat) (h : ∀ q ∈ l, q.2.natAbs ∣ m) : ∀ a : Nat, a ∣ m → l.foldl (fun a q => Nat.lcm a q.2.natAbs) a ∣ m := by
  induction l with
  | nil => intro a h0; exact h0
  | cons q r ih => intro a h0; exact ih (fun p hp => h p (List.mem_cons_of_mem _ hp)) _ (Nat.lcm_dvd h0 (h q List.mem_cons_self))
theorem lcmL_sub {l m : List (Int × Int)} (h : ∀ q ∈ l, q ∈ m) : lcmL l ∣ lcmL m := foldl_lcm_min l _ (fun q hq => lcmL_dvd (h q hq)) 1 (Nat.one_dvd _)
theorem lcmL_le {l m : List (Int × Int)} (h : ∀ q ∈ l, q ∈ m) (hm : ∀ q ∈ m, 1 ≤ q.2) : lcmL l ≤ lcmL m := Nat.le_of_dvd (lcmL_pos hm) (lcmL_sub h)
theorem lcm_le_mul' (a b : Nat) : Nat.lcm a b ≤ a * b := Nat.div_le_self _ _
theorem foldl_lcm_le (b : Nat) (l : List (Int × Int)) (h : ∀ q ∈ l, q.2.natAbs ≤ 2 ^ b) : ∀ a : Nat, l.foldl (fun a q => Nat.lcm a q.2.natAbs) a ≤ a * 2 ^ (b * l.length) := by
  induction l with
  | nil => intro a; simp
  | cons q r ih =>
    intro a
    have h1 := ih (fun p hp => h p (List.mem_cons_of_mem _ hp)) (Nat.lcm a q.2.natAbs)
    have h2 : Nat.lcm a q.2.natAbs ≤ a * 2 ^ b := Nat.le_trans (lcm_le_mul' _ _) (Nat.mul_le_mul_left _ (h q List.mem_cons_self))
    have h3 := Nat.mul_le_mul_right (2 ^ (b * r.length)) h2
    rw [Nat.mul_assoc, ← Nat.pow_add] at h3
    rw [List.length_cons, Nat.mul_succ, Nat.add_comm (b * r.length) b]
    exact Nat.le_trans h1 h3
theorem lcmL_bits {l : List (Int × Int)} {b n : Nat} (h : ∀ q ∈ l, q.2.natAbs ≤ 2 ^ b) (hn : b * l.length < n) : lcmL l < 2 ^ n := by
  have := foldl_lcm_le b l h 1
  rw [Nat.one_mul] at this
  exact Nat.lt_of_le_of_lt this (Nat.pow_lt_pow_right (by decide) hn)
/-- all over the common below -/
def wholes (l : List (Int × Int)) : List Int := l.map fun q => q.1 * ((lcmL l : Int).fdiv q.2)
def sumQ (l : List (Int × Int)) : Rat := (l.map fun q => Rat.divInt q.1 q.2).sum
theorem divInt_scale {a b : Int} {L : Nat} (hb : 1 ≤ b) (hL : 0 < L) (h : b.natAbs ∣ L) : Rat.divInt (a * ((L : Int).fdiv b)) L = Rat.divInt a b := by
  obtain ⟨c, rfl⟩ := h
  have e : ((b.natAbs * c : Nat) : Int) = b * c := by rw [Int.natCast_mul]; congr 1; omega
  rw [e]
  have e2 : (b * (c : Int)).fdiv b = c := by
    rw [fdiv_dvd (Int.dvd_mul_right b c)]
    exact Int.mul_ediv_cancel_left _ (by omega)
  rw [e2]
  have hc : (c : Int) ≠ 0 := by
    intro z
    have : c = 0 := by omega
    subst this
    simp at hL
  exact Rat.divInt_mul_right hc
theorem divInt_add_same {x y L : Int} (h : L ≠ 0) : Rat.divInt (x + y) L = Rat.divInt x L + Rat.divInt y L := by
  rw [Rat.divInt_add_divInt _ _ h h, ← Int.add_mul, Rat.divInt_mul_right h]
theorem divInt_zero' {L : Int} : Rat.divInt 0 L = 0 := Rat.zero_divInt L
theorem sum_over (L : Nat) (hL : 0 < L) : ∀ (l : List (Int × Int)), (∀ q ∈ l, 1 ≤ q.2 ∧ q.2.natAbs ∣ L) → Rat.divInt ((l.map fun q => q.1 * ((L : Int).fdiv q.2)).sum) L = sumQ l
  | [], _ => by
    show Rat.divInt 0 L = 0
    exact divInt_zero'
  | q :: r, h => by
    have ih := sum_over L hL r fun p hp => h p (List.mem_cons_of_mem _ hp)
    obtain ⟨h1, h2⟩ := h q List.mem_cons_self
    rw [List.map_cons, List.sum_cons, divInt_add_same (by omega), ih, divInt_scale h1 hL h2]
    rfl
theorem sumQ_filter : ∀ l : List (Int × Int), sumQ (l.filter fun q => !decide (q.1 = 0)) = sumQ l
  | [] => rfl
  | q :: r => by
    have ih := sumQ_filter r
    by_cases h : q.1 = 0
    · rw [List.filter_cons_of_neg (by simp [h]), ih]
      unfold sumQ
      rw [List.map_cons, List.sum_cons, h, divInt_zero', Rat.zero_add]
    · rw [List.filter_cons_of_pos (by simp [h])]
      unfold sumQ at ih ⊢
      rw [List.map_cons, List.map_cons, List.sum_cons, List.sum_cons, ih]
theorem total_eq {l : List (Int × Int)} (h : ∀ q ∈ l, 1 ≤ q.2) : Rat.divInt (wholes (l.filter fun q => !decide (q.1 = 0))).sum (lcmL (l.filter fun q => !decide (q.1 = 0))) = sumQ l := by
  have h' : ∀ q ∈ l.filter (fun q => !decide (q.1 = 0)), 1 ≤ q.2 := fun q hq => h q (List.mem_filter.mp hq).1
  rw [← sumQ_filter l]
  exact sum_over _ (lcmL_pos h') _ fun q hq => ⟨h' q hq, lcmL_dvd hq⟩
/-- a sum of rows, each so many times, place by place -/
def col (numbers : List Rat) (rows : List (List Rat)) (j : Nat) : Rat := ((numbers.zip rows).map fun p => p.1 * (p.2.getD j 0)).sum
def addR (numbers : List Rat) (rows : List (List Rat)) (size : Nat) : List Rat := (List.range size).map fun j => col numbers rows j
def colQ (numbers : List Rat) (rows : List (List Rat)) (j : Nat) : List (Int × Int) := (numbers.zip rows).map fun p => (p.1.num * (p.2.getD j 0).num, (p.1.den : Int) * ((p.2.getD j 0).den : Int))
theorem colQ_sum (numbers : List Rat) (rows : List (List Rat)) (j : Nat) : sumQ (colQ numbers rows j) = col numbers rows j := by
  unfold sumQ colQ col
  rw [List.map_map]
  congr 1
  apply List.map_congr_left
  intro p _
  exact rat_mul _ _
theorem colQ_pos (numbers : List Rat) (rows : List (List Rat)) (j : Nat) : ∀ q ∈ colQ numbers rows j, 1 ≤ q.2 := fun q hq => by
  obtain ⟨p, _, rfl⟩ := List.mem_map.mp hq
  have a := rat_den_pos p.1
  have b := rat_den_pos (p.2.getD j 0)
  have : 0 < p.1.den * (p.2.getD j 0).den := Nat.mul_pos a b
  show 1 ≤ (p.1.den : Int) * ((p.2.getD j 0).den : Int)
  rw [← Int.natCast_mul]
  omega
theorem getD_RB {b : Nat} {r : List Rat} {j : Nat} (h : ∀ x ∈ r, RB b x) (hb : 1 ≤ b) : RB b (r.getD j 0) := by
  rw [List.getD_eq_getElem?_getD]
  cases e : r[j]? with
  | none => exact RB.zero.mono hb
  | some x => exact h x (List.mem_of_getElem? e)
/-- sizes of a column -/
theorem colQ_ok {numbers : List Rat} {rows : List (List Rat)} {j b : Nat} (hb : 1 ≤ b) (hn : ∀ x ∈ numbers, RB b x) (hr : ∀ r ∈ rows, ∀ x ∈ r, RB b x) (hl : 2 * b * numbers.length < 9000) (h9 : b ≤ 9000) :
    (∀ q ∈ colQ numbers rows j, 1 ≤ q.2 ∧ q.1.natAbs < 2 ^ 1000000) ∧ lcmL (colQ numbers rows j) < 2 ^ 9000 := by
  have h1 : ∀ q ∈ colQ numbers rows j, q.1.natAbs < 2 ^ (b + b) ∧ q.2.natAbs < 2 ^ (b + b) := fun q hq => by
    obtain ⟨p, hp, rfl⟩ := List.mem_map.mp hq
    have m := List.of_mem_zip (a := p.1) (b := p.2) (by simpa using hp)
    have a := hn _ m.1
    have c := getD_RB (j := j) (hr _ m.2) hb
    refine ⟨?_, ?_⟩
    · show (p.1.num * (p.2.getD j 0).num).natAbs < _
      rw [Int.natAbs_mul]; exact pow_mul_lt a.1 c.1
    · show ((p.1.den : Int) * ((p.2.getD j 0).den : Int)).natAbs < _
      rw [Int.natAbs_mul]; exact pow_mul_lt (by simpa using a.2) (by simpa using c.2)
  refine ⟨fun q hq => ⟨colQ_pos _ _ _ q hq, Nat.lt_of_lt_of_le (h1 q hq).1 (Nat.pow_le_pow_right (by decide) (by omega))⟩, ?_⟩
  refine lcmL_bits (b := b + b) (fun q hq => Nat.le_of_lt (h1 q hq).2) ?_
  have e : (colQ numbers rows j).length ≤ numbers.length := by
    unfold colQ
    rw [List.length_map, List.length_zip]
    exact Nat.min_le_left _ _
  have := Nat.mul_le_mul_left (b + b) e
  have e2 : (b + b) * numbers.length = 2 * b * numbers.length := by rw [Nat.two_mul]
  omega
end L2.PL
namespace L2.PL
def unitR (n : Nat) (p : Int) : List Rat := (List.range n).map fun i => if ((i : Nat) : Int) = p then 1 else 0
theorem getD_get {l : List Rat} {k : Nat} (h : k < l.length) : l[k]? = some (l.getD k 0) := by
  rw [List.getD_eq_getElem?_getD, List.getElem?_eq_getElem h]; rfl
theorem rat_lowB (r : Rat) : (decide (1 ≤ (r.den : Int)) && decide (((Nat.gcd r.num.natAbs (r.den : Int).natAbs : Nat) : Int) = 1)) = true := by
  have h1 := rat_den_pos r
  have h2 := rat_lowest r
  rw [Int.natAbs_natCast, h2]
  simp
  omega
theorem num_one : (1 : Rat).num = 1 := rfl
theorem den_one : (1 : Rat).den = 1 := rfl
theorem num_zero : (0 : Rat).num = 0 := rfl
theorem den_zero : (0 : Rat).den = 1 := rfl
end L2.PL
namespace L2.PL
theorem flat_rep {α : Type} (a : α) : ∀ n : Nat, (List.replicate n [a]).flatten = List.replicate n a
  | 0 => rfl
  | n + 1 => by rw [List.replicate_succ, List.replicate_succ, List.flatten_cons, flat_rep a n]; rfl
def addRow (x y : List Rat) : List Rat := List.zipWith (· + ·) x y
theorem addR_two {x y : List Rat} {n : Nat} (hx : x.length = n) (hy : y.length = n) : addR [1, 1] [x, y] n = addRow x y := by
  unfold addR addRow
  apply List.ext_getElem?
  intro i
  rw [List.getElem?_map, List.getElem?_zipWith]
  by_cases h : i < n
  · rw [List.getElem?_range h, getD_get (l := x) (by omega), getD_get (l := y) (by omega)]
    show some (col [1, 1] [x, y] i) = some _
    unfold col
    simp only [List.zip_cons_cons, List.zip_nil_left, List.map_cons, List.map_nil, List.sum_cons, List.sum_nil]
    congr 1
    rw [Rat.one_mul, Rat.one_mul, Rat.add_zero]
  · rw [List.getElem?_eq_none (by rw [List.length_range]; omega), List.getElem?_eq_none (by omega)]
    rfl
end L2.PL
namespace L2.PL
theorem addR_RB {b n : Nat} (hb : 1 ≤ b) {nu : List Rat} {ro : List (List Rat)} (h1 : ∀ x ∈ nu, RB b x) (h2 : ∀ r ∈ ro, ∀ x ∈ r, RB b x) : ∀ a ∈ addR nu ro n, RB (1 + (b + b + 1) * nu.length) a := by
  intro a ha
  unfold addR at ha
  obtain ⟨j, _, rfl⟩ := List.mem_map.mp ha
  unfold col
  have key : ∀ l : List Rat, (∀ x ∈ l, RB (b + b) x) → RB (1 + (b + b + 1) * l.length) l.sum := by
    intro l
    induction l with
    | nil => exact fun _ => RB.zero
    | cons x l ih =>
      intro h
      rw [List.sum_cons, List.length_cons]
      refine ((h x List.mem_cons_self).add (ih fun y hy => h y (List.mem_cons_of_mem _ hy))).mono ?_
      rw [Nat.mul_add]; omega
  refine (key _ fun x hx => ?_).mono ?_
  · obtain ⟨p, hp, rfl⟩ := List.mem_map.mp hx
    have m := List.of_mem_zip (a := p.1) (b := p.2) (by simpa using hp)
    exact (h1 _ m.1).mul (getD_RB (h2 _ m.2) hb)
  · rw [List.length_map, List.length_zip]
    have : (b + b + 1) * min nu.length ro.length ≤ (b + b + 1) * nu.length := Nat.mul_le_mul_left _ (Nat.min_le_left _ _)
    omega
theorem addR_len {nu : List Rat} {ro : List (List Rat)} {n : Nat} : (addR nu ro n).length = n := by unfold addR; rw [List.length_map, List.length_range]
theorem addR_nil {n : Nat} {ro : List (List Rat)} : addR [] ro n = List.replicate n 0 := by
  unfold addR
  apply List.ext_getElem?
  intro i
  rw [List.getElem?_map, List.getElem?_replicate]
  by_cases h : i < n
  · rw [List.getElem?_range h, if_pos h]; rfl
  · rw [List.getElem?_eq_none (by rw [List.length_range]; omega), if_neg h]; rfl
theorem addR_snoc {nu : List Rat} {ro : List (List Rat)} {c : Rat} {r : List Rat} {n : Nat} (h : nu.length = ro.length) (hr : r.length = n) : addR (nu ++ [c]) (ro ++ [r]) n = ((addR nu ro n).zip r).map fun p => p.1 + c * p.2 := by
  apply List.ext_getElem?
  intro i
  rw [List.getElem?_map]
  by_cases hi : i < n
  · have e1 : (addR (nu ++ [c]) (ro ++ [r]) n)[i]? = some (col (nu ++ [c]) (ro ++ [r]) i) := by unfold addR; rw [List.getElem?_map, List.getElem?_range hi]; rfl
    have e2 : (addR nu ro n)[i]? = some (col nu ro i) := by unfold addR; rw [List.getElem?_map, List.getElem?_range hi]; rfl
    have e3 : ((addR nu ro n).zip r)[i]? = some (col nu ro i, r.getD i 0) := by
      rw [List.getElem?_zip_eq_some]
      exact ⟨e2, getD_get (by omega)⟩
    rw [e1, e3]
    show some _ = some _
    congr 1
    unfold col
    rw [List.zip_append h, List.map_append, List.sum_append]
    congr 1
    show c * r.getD i 0 + 0 = _
    rw [Rat.add_zero]
  · rw [List.getElem?_eq_none (by rw [addR_len]; omega), List.getElem?_eq_none (by rw [List.length_zip, addR_len]; omega)]
    rfl
theorem zip_zero {x r : List Rat} (h : x.length = r.length) : (x.zip r).map (fun p => p.1 + 0 * p.2) = x := by
  induction x generalizing r with
  | nil => rfl
  | cons a x ih =>
    cases r with
    | nil => simp at h
    | cons b r =>
      rw [List.zip_cons_cons, List.map_cons, ih (by simpa using h), Rat.zero_mul, Rat.add_zero]
end L2.PL
namespace L2.PL
open PySem PySem.Spec PyProof.Rows

abbrev Sm (H H' : Hp) : Prop := ∀ a o, H a = some o → H' a = some o
theorem Sm.rfl' {H : Hp} : Sm H H := fun _ _ e => e
theorem Sm.trans' {H H' H'' : Hp} (a : Sm H H') (b : Sm H' H'') : Sm H H'' := fun x o e => b x o (a x o e)
theorem sm_upd {H : Hp} {p : Addr} {o : HO} (h : H p = none) : Sm H (upd H p o) := fun b x e => by
  rw [upd_ne (ne_of_none e h)]; exact e

/-! ### readings by what they mean -/
def wE (X : Cx) (e : Expr) : TE := fun σ H Q => ∀ (pins : List (Addr × Obj)) (s : Shared), Inv X pins σ H s → wpAny (model X.prog X.w) X.A (eval e X.env) (EP X pins σ Q) X.xe s
def wT (X : Cx) (e : Expr) : TT := fun σ H Q => ∀ (pins : List (Addr × Obj)) (s : Shared), Inv X pins σ H s → wpAny (model X.prog X.w) X.A (isTrue e X.env (eval e X.env)) (TP X pins σ Q) X.xe s
def wW (X : Cx) (e : Expr) : TT := fun σ H Q => ∀ (whole : Sem Value) (pins : List (Addr × Obj)) (s : Shared), Inv X pins σ H s → wpAny (model X.prog X.w) X.A (isTrue e X.env whole) (TP X pins σ Q) X.xe s
def wA (X : Cx) (es : List Expr) : TA := fun σ H Q => ∀ (pos : Pos) (pins : List (Addr × Obj)) (s : Shared), Inv X pins σ H s → wpAny (model X.prog X.w) X.A (spliced (backTo pos (starEach es X.env))) (AP X pins σ Q) X.xe s
def wK (X : Cx) (kws : List Keyword) : TA := fun σ H Q => ∀ (pos : Pos) (pins : List (Addr × Obj)) (s : Shared), Inv X pins σ H s → wpAny (model X.prog X.w) X.A (evalAll ((backToKw pos (keywordEach kws X.env)).map (·.2))) (AP X pins σ Q) X.xe s
def wS (X : Cx) (st : Stmt) : TS := fun D σ H => ∀ (pins : List (Addr × Obj)) (s : Shared), Inv X pins σ H s → wpAny (model X.prog X.w) X.A (exec st X.env) (SP X pins D) X.xe s
def wB (X : Cx) (st : List Stmt) : TS := fun D σ H => ∀ (pins : List (Addr × Obj)) (s : Shared), Inv X pins σ H s → wpAny (model X.prog X.w) X.A (execs st X.env) (SP X pins D) X.xe s
section
variable {X : Cx} {e : Expr} {es : List Expr} {kws : List Keyword} {st : Stmt} {sts : List Stmt} {σ : St} {H : Hp}
theorem pe_wE : PE X e (wE X e) := ⟨fun pins s _ _ _ I h => h pins s I⟩
theorem pt_wT : PT X e (wT X e) := ⟨fun pins s _ _ _ I h => h pins s I⟩
theorem pw_wW : PW X e (wW X e) := ⟨fun wh pins s _ _ _ I h => h wh pins s I⟩
theorem pa_wA : PA X es (wA X es) := ⟨fun pos pins s _ _ _ I h => h pos pins s I⟩
theorem pk_wK : PK X kws (wK X kws) := ⟨fun pos pins s _ _ _ I h => h pos pins s I⟩
theorem ps_wS : PS X st (wS X st) := ⟨fun pins s _ _ _ I h => h pins s I⟩
theorem pss_wB : PSs X sts (wB X sts) := ⟨fun pins s _ _ _ I h => h pins s I⟩
theorem PE.w {t : TE} (h : PE X e t) {Q : VK} (q : t σ H Q) : wE X e σ H Q := fun pins s I => h.run pins s σ H Q I q
theorem PT.w {t : TT} (h : PT X e t) {Q : Bool → Hp → Prop} (q : t σ H Q) : wT X e σ H Q := fun pins s I => h.run pins s σ H Q I q
theorem PW.w {t : TT} (h : PW X e t) {Q : Bool → Hp → Prop} (q : t σ H Q) : wW X e σ H Q := fun wh pins s I => h.run wh pins s σ H Q I q
theorem PA.w {t : TA} (h : PA X es t) {Q : List V → Hp → Prop} (q : t σ H Q) : wA X es σ H Q := fun pos pins s I => h.run pos pins s σ H Q I q
theorem PK.w {t : TA} (h : PK X kws t) {Q : List V → Hp → Prop} (q : t σ H Q) : wK X kws σ H Q := fun pos pins s I => h.run pos pins s σ H Q I q
theorem PS.w {t : TS} (h : PS X st t) {D : Ends} (q : t D σ H) : wS X st D σ H := fun pins s I => h.run pins s σ H D I q
theorem PSs.w {t : TS} (h : PSs X sts t) {D : Ends} (q : t D σ H) : wB X sts D σ H := fun pins s I => h.run pins s σ H D I q
theorem wB_cons {D : Ends} (q : wS X st { D with nx := wB X sts D } σ H) : wB X (st :: sts) D σ H := PSs.w (pss_cons ps_wS pss_wB) q
theorem wB_nil {D : Ends} (q : D.nx σ H) : wB X [] D σ H := PSs.w pss_nil q
end

/-! ### assertions about values, kept when the heap grows -/
structure Asr where
  p : Hp → V → Prop
  mono : ∀ {H H' : Hp} {v : V}, Sm H H' → p H v → p H' v
def AllA : List Asr → Hp → List V → Prop
  | [], _, vs => vs = []
  | A :: As, F, vs => ∃ v vs', vs = v :: vs' ∧ A.p F v ∧ AllA As F vs'
theorem AllA.mono : ∀ {As : List Asr} {H H' : Hp} {vs : List V}, Sm H H' → AllA As H vs → AllA As H' vs
  | [], _, _, _, _, h => h
  | A :: As, _, _, _, s, ⟨v, vs', e, a, r⟩ => ⟨v, vs', e, A.mono s a, AllA.mono s r⟩
theorem AllA.len : ∀ {As : List Asr} {H : Hp} {vs : List V}, AllA As H vs → vs.length = As.length
  | [], _, _, h => by rw [h]; rfl
  | A :: As, _, _, ⟨v, vs', e, a, r⟩ => by rw [e, List.length_cons, List.length_cons, AllA.len r]
theorem AllA.get : ∀ {As : List Asr} {H : Hp} {vs : List V} {i : Nat} {A : Asr}, AllA As H vs → As[i]? = some A → ∃ v, vs[i]? = some v ∧ A.p H v
  | [], _, _, _, _, _, e => by simp at e
  | B :: As, _, _, 0, A, ⟨v, vs', e, a, r⟩, q => by simp at q; subst q; subst e; exact ⟨v, rfl, a⟩
  | B :: As, _, _, i + 1, A, ⟨v, vs', e, a, r⟩, q => by
    subst e
    obtain ⟨v', h1, h2⟩ := AllA.get (i := i) r (by simpa using q)
    exact ⟨v', by simpa using h1, h2⟩
theorem AllA.get' : ∀ {As : List Asr} {H : Hp} {vs : List V} {i : Nat} {v : V}, AllA As H vs → vs[i]? = some v → ∃ A, As[i]? = some A ∧ A.p H v := fun {As H vs i v} h e => by
  have hl := h.len
  have hi : i < vs.length := by
    rcases Nat.lt_or_ge i vs.length with q | q
    · exact q
    · rw [List.getElem?_eq_none q] at e; cases e
  have hA : As[i]? = some (As[i]'(by omega)) := List.getElem?_eq_getElem (by omega)
  obtain ⟨v', h1, h2⟩ := h.get hA
  rw [e] at h1; cases h1
  exact ⟨_, hA, h2⟩
theorem AllA.app : ∀ {As Bs : List Asr} {H : Hp} {vs ws : List V}, AllA As H vs → AllA Bs H ws → AllA (As ++ Bs) H (vs ++ ws)
  | [], _, _, _, _, h, h' => by rw [h]; exact h'
  | A :: As, _, _, _, _, ⟨v, vs', e, a, r⟩, h' => by subst e; exact ⟨v, _, rfl, a, AllA.app r h'⟩
theorem AllA.one {A : Asr} {H : Hp} {v : V} (h : A.p H v) : AllA [A] H [v] := ⟨v, [], rfl, h, rfl⟩
theorem AllA.set : ∀ {As : List Asr} {H : Hp} {vs : List V} {i : Nat} {A : Asr} {v : V}, AllA As H vs → A.p H v → AllA (As.set i A) H (vs.set i v)
  | [], _, _, _, _, _, h, _ => by rw [h]; rfl
  | B :: As, _, _, 0, A, v, ⟨v', vs', e, a, r⟩, q => by subst e; exact ⟨v, vs', rfl, q, r⟩
  | B :: As, _, _, i + 1, A, v, ⟨v', vs', e, a, r⟩, q => by subst e; exact ⟨v', _, rfl, a, AllA.set r q⟩
theorem AllA.rep {A : Asr} {H : Hp} {v : V} (h : A.p H v) : ∀ n : Nat, AllA (List.replicate n A) H (List.replicate n v)
  | 0 => rfl
  | n + 1 => ⟨v, _, rfl, h, AllA.rep h n⟩
theorem AllA.rev : ∀ {As : List Asr} {H : Hp} {vs : List V}, AllA As H vs → AllA As.reverse H vs.reverse
  | [], _, _, h => by rw [h]; rfl
  | A :: As, _, _, ⟨v, vs', e, a, r⟩ => by
    subst e
    rw [List.reverse_cons, List.reverse_cons]
    exact AllA.app r.rev (AllA.one a)
theorem AllA.take : ∀ {As : List Asr} {H : Hp} {vs : List V} (n : Nat), AllA As H vs → AllA (As.take n) H (vs.take n)
  | _, _, _, 0, _ => rfl
  | [], _, _, n + 1, h => by rw [h]; rfl
  | A :: As, _, _, n + 1, ⟨v, vs', e, a, r⟩ => by subst e; exact ⟨v, _, rfl, a, AllA.take n r⟩
theorem AllA.drop : ∀ {As : List Asr} {H : Hp} {vs : List V} (n : Nat), AllA As H vs → AllA (As.drop n) H (vs.drop n)
  | _, _, _, 0, h => h
  | [], _, _, n + 1, h => by rw [h]; rfl
  | A :: As, _, _, n + 1, ⟨v, vs', e, a, r⟩ => by subst e; exact AllA.drop n r

def isV (w : V) : Asr := ⟨fun _ v => v = w, fun _ h => h⟩
abbrev aInt (i : Int) : Asr := isV (.int i)
abbrev isBl (b : Bool) : Asr := isV (.bl b)
abbrev isNon : Asr := isV .non
abbrev isStr (x : Str) : Asr := isV (.str x)
def exA {α : Type} (P : α → Prop) (A : α → Asr) : Asr := ⟨fun H v => ∃ x, P x ∧ (A x).p H v, fun s ⟨x, p, h⟩ => ⟨x, p, (A x).mono s h⟩⟩
def anyA : Asr := ⟨fun _ _ => True, fun _ h => h⟩
theorem Rd.mono {H H' : Hp} {a : Addr} {u : HO} (s : Sm H H') : Rd H a u → Rd H' a u
  | .inl h => .inl (s _ _ h)
  | .inr ⟨o, h⟩ => .inr ⟨o, s _ _ h⟩
theorem SqL.mono {K : PySem.W.Frag} {H H' : Hp} {a : Addr} {xs : List V} (s : Sm H H') : SqL K H a xs → SqL K H' a xs
  | .inl h => .inl (Rd.mono s h)
  | .inr h => .inr h
theorem SqT.mono {K : PySem.W.Frag} {H H' : Hp} {a : Addr} {xs : List V} (s : Sm H H') : SqT K H a xs → SqT K H' a xs
  | .inl h => .inl (Rd.mono s h)
  | .inr h => .inr h
def isTup (K : PySem.W.Frag) (As : List Asr) : Asr := ⟨fun F v => ∃ a vs, v = .ref a ∧ SqT K F a vs ∧ AllA As F vs, fun s ⟨a, vs, e, h, r⟩ => ⟨a, vs, e, SqT.mono s h, r.mono s⟩⟩
def isLst (K : PySem.W.Frag) (As : List Asr) : Asr := ⟨fun F v => ∃ a vs, v = .ref a ∧ SqL K F a vs ∧ AllA As F vs, fun s ⟨a, vs, e, h, r⟩ => ⟨a, vs, e, SqL.mono s h, r.mono s⟩⟩

/-! ### where one stands -/
open Classical in
noncomputable def fz (M : Addr → Prop) (H : Hp) : Hp := fun a => if M a then none else H a
theorem fz_pos {M : Addr → Prop} {H : Hp} {a : Addr} (h : M a) : fz M H a = none := by unfold fz; rw [if_pos h]
theorem fz_neg {M : Addr → Prop} {H : Hp} {a : Addr} (h : ¬ M a) : fz M H a = H a := by unfold fz; rw [if_neg h]
theorem fz_sub {M : Addr → Prop} {H : Hp} : Sm (fz M H) H := fun a o e => by
  by_cases h : M a
  · rw [fz_pos h] at e; cases e
  · rw [fz_neg h] at e; exact e
theorem fz_some {M : Addr → Prop} {H : Hp} {a : Addr} {o : HO} (h : fz M H a = some o) : ¬ M a ∧ H a = some o := by
  by_cases z : M a
  · rw [fz_pos z] at h; cases h
  · rw [fz_neg z] at h; exact ⟨z, h⟩
/-- fewer mutable ones: more stands -/
theorem fz_less {M M' : Addr → Prop} {H : Hp} (h : ∀ a, M' a → M a) : Sm (fz M H) (fz M' H) := fun a o e => by
  obtain ⟨n, e⟩ := fz_some e
  rw [fz_neg fun z => n (h a z)]; exact e
structure Gx where
  M : Addr → Prop
  L : Addr → Prop
  M0 : Addr → Prop
  H0 : Hp
  sub : ∀ a, M0 a → M a
  fr : ∀ a, M a → M0 a ∨ H0 a = none
/-- what is held of the changeable ones -/
structure Iv (M : Addr → Prop) where
  p : Hp → Prop
  dep : ∀ H H', (∀ a, M a → H' a = H a) → p H → p H'
/-- what may be changed here, or is changed by others -/
def Gx.U (G : Gx) (a : Addr) : Prop := G.M a ∨ G.L a
abbrev Slots := List (Option Asr)
def Sat (Γ : Slots) (F : Hp) (σ : St) : Prop := ∀ (i : Nat) (A : Asr), Γ[i]? = some (some A) → ∃ v, σ[i]? = some (some v) ∧ A.p F v
theorem Sat.mono {Γ : Slots} {F F' : Hp} {σ : St} (s : Sm F F') (h : Sat Γ F σ) : Sat Γ F' σ := fun i A e => by
  obtain ⟨v, h1, h2⟩ := h i A e
  exact ⟨v, h1, A.mono s h2⟩
theorem Sat.set {Γ : Slots} {F : Hp} {σ : St} {i : Nat} {A : Asr} {v : V} (h : Sat Γ F σ) (hi : i < σ.length) (a : A.p F v) : Sat (Γ.set i (some A)) F (σ.set i (some v)) := fun j B e => by
  by_cases q : i = j
  · subst q
    by_cases z : i < Γ.length
    · rw [List.getElem?_set_self z] at e
      cases e
      exact ⟨v, List.getElem?_set_self hi, a⟩
    · rw [List.getElem?_eq_none (by rw [List.length_set]; omega)] at e; cases e
  · rw [List.getElem?_set_ne q] at e ⊢
    exact h j B e
structure Gx.Ok (G : Gx) (I : Iv G.M) (Γ : Slots) (σ : St) (H : Hp) : Prop where
  frame : ∀ a o, ¬ G.M0 a → G.H0 a = some o → H a = some o
  live : ∀ a, G.U a → H a ≠ none
  inv : I.p H
  sat : Sat Γ (fz G.U H) σ
  len : σ.length = Γ.length
structure Gx.To (G : Gx) (I : Iv G.M) (H H' : Hp) : Prop where
  keep : ∀ a o, ¬ G.M a → H a = some o → H' a = some o
  live : ∀ a, G.U a → H' a ≠ none
  inv : I.p H'
section
variable {G : Gx} {I J : Iv G.M} {Γ : Slots} {σ : St} {H H' H'' : Hp} {p : Addr} {o : HO}
theorem Gx.To.fz (t : G.To I H H') : Sm (fz G.U H) (fz G.U H') := fun a o e => by
  obtain ⟨n, e⟩ := fz_some e
  rw [fz_neg n]; exact t.keep a o (fun z => n (.inl z)) e
theorem Gx.To.trans (t : G.To I H H') (u : G.To J H' H'') : G.To J H H'' := ⟨fun a o n e => u.keep a o n (t.keep a o n e), u.live, u.inv⟩
theorem Gx.Ok.to (k : G.Ok I Γ σ H) (t : G.To J H H') : G.Ok J Γ σ H' :=
  ⟨fun a o n e => t.keep a o (fun z => (G.fr a z).elim n fun q => by rw [q] at e; cases e) (k.frame a o n e), t.live, t.inv, k.sat.mono t.fz, k.len⟩
theorem Gx.Ok.self (k : G.Ok I Γ σ H) : G.To I H H := ⟨fun _ _ _ e => e, k.live, k.inv⟩
theorem Gx.To.post (t : G.To I H H') (h : ∀ H, I.p H → J.p H) : G.To J H H' := ⟨t.keep, t.live, h _ t.inv⟩
theorem Gx.Ok.post (t : G.Ok I Γ σ H) (h : ∀ H, I.p H → J.p H) : G.Ok J Γ σ H := ⟨t.frame, t.live, h _ t.inv, t.sat, t.len⟩
/-- a new object -/
theorem Gx.To.new (l : ∀ a, G.U a → H a ≠ none) (i : I.p H) (h : H p = none) : G.To I H (upd H p o) := by
  have ne : ∀ a, G.U a → a ≠ p := fun a m z => l a m (by rw [z]; exact h)
  refine ⟨fun a o _ e => sm_upd h a o e, fun a m => ?_, I.dep H _ (fun a m => upd_ne (ne a (.inl m))) i⟩
  rw [upd_ne (ne a m)]; exact l a m
theorem Gx.To.new' {H0 : Hp} (t : G.To I H0 H) (h : H p = none) : G.To I H0 (upd H p o) := t.trans (.new t.live t.inv h)
theorem fz_new (l : ∀ a, G.U a → H a ≠ none) (h : H p = none) : L2.PL.fz G.U (upd H p o) p = some o := by
  rw [fz_neg fun m => l p m h]; exact upd_same
theorem Gx.Ok.setv {i : Nat} {A : Asr} {v : V} (k : G.Ok I Γ σ H) (hi : i < Γ.length) (a : A.p (fz G.U H) v) : G.Ok I (Γ.set i (some A)) (σ.set i (some v)) H :=
  ⟨k.frame, k.live, k.inv, k.sat.set (by rw [k.len]; exact hi) a, by rw [List.length_set, List.length_set]; exact k.len⟩
/-- slots forgotten, or less said of them -/
def Low : Slots → Slots → Prop
  | [], [] => True
  | none :: r, _ :: r' => Low r r'
  | some A :: r, some B :: r' => (∀ F v, B.p F v → A.p F v) ∧ Low r r'
  | _, _ => False
theorem Low.sat : ∀ {Γ Γ' : Slots} {F : Hp} {σ : St}, Low Γ Γ' → Sat Γ' F σ → Sat Γ F σ ∧ Γ.length = Γ'.length
  | [], [], _, _, _, s => ⟨s, rfl⟩
  | none :: r, B :: r', F, [], h, s => by
    have z := Low.sat (σ := []) (show Low r r' from h) (F := F) fun i A e => by
      obtain ⟨v, e1, _⟩ := s (i + 1) A (by simpa using e)
      simp at e1
    refine ⟨fun i A e => ?_, by simp [z.2]⟩
    cases i with
    | zero => simp at e
    | succ i =>
      obtain ⟨v, e1, _⟩ := z.1 i A (by simpa using e)
      simp at e1
  | none :: r, B :: r', F, x :: σ, h, s => by
    have z := Low.sat (σ := σ) (show Low r r' from h) (F := F) fun i A e => by
      obtain ⟨v, e1, a1⟩ := s (i + 1) A (by simpa using e)
      exact ⟨v, by simpa using e1, a1⟩
    refine ⟨fun i A e => ?_, by simp [z.2]⟩
    cases i with
    | zero => simp at e
    | succ i =>
      obtain ⟨v, e1, a1⟩ := z.1 i A (by simpa using e)
      exact ⟨v, by simpa using e1, a1⟩
  | some A :: r, some B :: r', F, [], h, s => by
    obtain ⟨v, e1, _⟩ := s 0 B rfl
    simp at e1
  | some A :: r, some B :: r', F, x :: σ, h, s => by
    have z := Low.sat (σ := σ) h.2 (F := F) fun i A e => by
      obtain ⟨v, e1, a1⟩ := s (i + 1) A (by simpa using e)
      exact ⟨v, by simpa using e1, a1⟩
    refine ⟨fun i C e => ?_, by simp [z.2]⟩
    cases i with
    | zero =>
      simp at e
      subst e
      obtain ⟨v, e1, a1⟩ := s 0 B rfl
      exact ⟨v, e1, h.1 _ _ a1⟩
    | succ i =>
      obtain ⟨v, e1, a1⟩ := z.1 i C (by simpa using e)
      exact ⟨v, by simpa using e1, a1⟩
  | [], _ :: _, _, _, h, _ => h.elim
  | none :: _, [], _, _, h, _ => h.elim
  | some _ :: _, [], _, _, h, _ => h.elim
  | some _ :: _, none :: _, _, _, h, _ => h.elim
theorem Gx.Ok.low {Γ' : Slots} (k : G.Ok I Γ σ H) (h : Low Γ' Γ) : G.Ok I Γ' σ H := by
  obtain ⟨s, l⟩ := h.sat k.sat
  exact ⟨k.frame, k.live, k.inv, s, by rw [l]; exact k.len⟩
end
/-! ### the judgements -/
def EX (X : Cx) (G : Gx) (I : Iv G.M) (Γ : Slots) (e : Expr) (A : Asr) (J : Iv G.M) : Prop := ∀ (σ : St) (H : Hp) (Q : VK), G.Ok I Γ σ H → (∀ H' v, G.To J H H' → A.p (fz G.U H') v → Q v H') → wE X e σ H Q
def AX (X : Cx) (G : Gx) (I : Iv G.M) (Γ : Slots) (es : List Expr) (As : List Asr) (J : Iv G.M) : Prop := ∀ (σ : St) (H : Hp) (Q : List V → Hp → Prop), G.Ok I Γ σ H → (∀ H' vs, G.To J H H' → AllA As (fz G.U H') vs → Q vs H') → wA X es σ H Q
def KX (X : Cx) (G : Gx) (I : Iv G.M) (Γ : Slots) (kws : List Keyword) (As : List Asr) (J : Iv G.M) : Prop := ∀ (σ : St) (H : Hp) (Q : List V → Hp → Prop), G.Ok I Γ σ H → (∀ H' vs, G.To J H H' → AllA As (fz G.U H') vs → Q vs H') → wK X kws σ H Q
/-- a test, its answer b -/
def TX (X : Cx) (G : Gx) (I : Iv G.M) (Γ : Slots) (e : Expr) (P : Bool → Prop) (J : Iv G.M) : Prop := ∀ (σ : St) (H : Hp) (Q : Bool → Hp → Prop), G.Ok I Γ σ H → (∀ H' b, G.To J H H' → P b → Q b H') → wT X e σ H Q
def WX (X : Cx) (G : Gx) (I : Iv G.M) (Γ : Slots) (e : Expr) (P : Bool → Prop) (J : Iv G.M) : Prop := ∀ (σ : St) (H : Hp) (Q : Bool → Hp → Prop), G.Ok I Γ σ H → (∀ H' b, G.To J H H' → P b → Q b H') → wW X e σ H Q
def SX (X : Cx) (G : Gx) (I : Iv G.M) (Γ : Slots) (sts : List Stmt) (D : Ends) : Prop := ∀ (σ : St) (H : Hp), G.Ok I Γ σ H → wB X sts D σ H

section
variable {X : Cx} {G : Gx} {I J K : Iv G.M} {Γ : Slots} {e a b : Expr} {es : List Expr} {A B : Asr} {As : List Asr} {pos : Pos}
theorem EX.imp (h : EX X G I Γ e A J) (f : ∀ F v, A.p F v → B.p F v) : EX X G I Γ e B J := fun σ H Q k q => h σ H Q k fun H' v t r => q H' v t (f _ _ r)
theorem EX.ex {α : Type} {P : α → Prop} {B : α → Asr} (x : α) (h : EX X G I Γ e (B x) J) (p : P x) : EX X G I Γ e (exA P B) J := h.imp fun _ _ r => ⟨x, p, r⟩
theorem ex_var {i : Nat} {x : Str} (hN : X.N[i]? = some x) (hv : Vis X.env.scope x) (hg : Γ[i]? = some (some A)) (hd : (x == ("__debug__" : Str)) = false := by decide) (hcd : (x == ("__classdict__" : Str)) = false := by decide) : EX X G I Γ (.Name x pos) A I := fun σ H Q k q => by
  obtain ⟨v, e, h⟩ := k.sat i A hg
  exact PE.w (pe_var hN hv hd hcd) ⟨v, e, q H v k.self h⟩
theorem ex_int {i : Int} {j} : EX X G I Γ (.Constant (.int i) j pos) (aInt i) I := fun σ H Q k q => PE.w pe_int (q H _ k.self rfl)
theorem ex_bl {i : Bool} {j} : EX X G I Γ (.Constant (.bool i) j pos) (isBl i) I := fun σ H Q k q => PE.w pe_bl (q H _ k.self rfl)
theorem ex_non {j} : EX X G I Γ (.Constant .none j pos) isNon I := fun σ H Q k q => PE.w pe_non (q H _ k.self rfl)
theorem ex_str {x : Str} {j} : EX X G I Γ (.Constant (.str x) j pos) (isStr x) I := fun σ H Q k q => PE.w pe_str (q H _ k.self rfl)
/-- a global, a value that stands in the written part -/
theorem ex_glob {x : Str} {v : V} {u : Value} (hg : Gl X x) (hm : X.mg x = some u) (r : RelV v u) (h : ∀ F, A.p F v) (hd : (x == ("__debug__" : Str)) = false := by decide) : EX X G I Γ (.Name x pos) A I := fun σ H Q k q => PE.w (pe_glob hg hm r hd) (q H _ k.self (h _))
theorem ex_op2 {op : Operator} {r : R2} (ho : OpR X (binaryOp op) r) (ha : EX X G I Γ a A J) (hb : EX X G J Γ b B K) {C : Asr}
    (h : ∀ (F : Hp) (x y : V), A.p F x → B.p F y → ∀ (H : Hp) (Q : VK), Sm F H → (∀ v, C.p F v → Q v H) → r x y H Q) : EX X G I Γ (.BinOp a op b pos) C K := fun σ H Q k q =>
  PE.w (pe_op ho pe_wE pe_wE) (ha σ H _ k fun H1 x t1 a1 => hb σ H1 _ (k.to t1) fun H2 y t2 b2 => h (fz G.U H2) x y (A.mono t2.fz a1) b2 H2 Q fz_sub fun v c => q H2 v (t1.trans t2) c)
theorem ex_opI {op : Operator} {C : Int → Int → Prop} {g : Int → Int → V} {i j : Int} (ho : OpR X (binaryOp op) (rI C g)) (ha : EX X G I Γ a (aInt i) J) (hb : EX X G J Γ b (aInt j) K) (hc : C i j) : EX X G I Γ (.BinOp a op b pos) (isV (g i j)) K :=
  ex_op2 ho ha hb fun F x y ex ey H Q _ q => ⟨i, j, ex, ey, hc, q _ rfl⟩
theorem ex_opI0 {op : Operator} {g : Int → Int → V} {i j : Int} (ho : OpR X (binaryOp op) (rI0 g)) (ha : EX X G I Γ a (aInt i) J) (hb : EX X G J Γ b (aInt j) K) : EX X G I Γ (.BinOp a op b pos) (isV (g i j)) K :=
  ex_op2 ho ha hb fun F x y ex ey H Q _ q => ⟨i, j, ex, ey, q _ rfl⟩
theorem ex_add {i j : Int} (ha : EX X G I Γ a (aInt i) J) (hb : EX X G J Γ b (aInt j) K) : EX X G I Γ (.BinOp a .Add b pos) (aInt (i + j)) K := ex_opI0 op_add ha hb
theorem ex_sub {i j : Int} (ha : EX X G I Γ a (aInt i) J) (hb : EX X G J Γ b (aInt j) K) : EX X G I Γ (.BinOp a .Sub b pos) (aInt (i - j)) K := ex_opI0 op_sub ha hb
/-- bits -/
abbrev Bits (n : Nat) (i : Int) : Prop := i.natAbs < 2 ^ n
theorem ex_mul {i j : Int} (ha : EX X G I Γ a (aInt i) J) (hb : EX X G J Γ b (aInt j) K) (hc : ∃ m n, Bits m i ∧ Bits n j ∧ m + n ≤ 134217728) : EX X G I Γ (.BinOp a .Mult b pos) (aInt (i * j)) K :=
  ex_opI (C := CMulX) op_mulX ha hb (let ⟨m, n, h1, h2, h3⟩ := hc; mulx_ok h1 h2 h3)
theorem op_fdivA : OpR X (binaryOp .FloorDiv) (rI (fun _ j => j ≠ 0 ∧ j.natAbs.log2 < 9000) fun i j => .int (i.fdiv j)) := opI fun i j _ _ _ _ _ hc q =>
  floordiv_int hc.1 q (.inl (PyProof.noPylong_of_log2 hc.2))
theorem ex_fdiv {i j : Int} (ha : EX X G I Γ a (aInt i) J) (hb : EX X G J Γ b (aInt j) K) (h0 : j ≠ 0) (hc : Bits 9000 j) : EX X G I Γ (.BinOp a .FloorDiv b pos) (aInt (i.fdiv j)) K :=
  ex_opI op_fdivA ha hb ⟨h0, PySem.Flt.log2_lt_of (by decide) hc⟩
theorem ex_mod {i j : Int} (ha : EX X G I Γ a (aInt i) J) (hb : EX X G J Γ b (aInt j) K) (h0 : j ≠ 0) : EX X G I Γ (.BinOp a .Mod b pos) (aInt (i.fmod j)) K :=
  ex_opI (C := fun _ j => j ≠ 0) op_modN ha hb h0
theorem op_powA : OpR X (binaryOp .Pow) (rI (fun i j => 0 ≤ j ∧ (Builtin.Int.intBits i : Int) * j ≤ 2 ^ 27) fun i j => .int (i ^ j.toNat)) := opI fun _ _ _ _ _ _ _ hc q => pow_int hc.1 hc.2 q
theorem intBits_le {i : Int} {n : Nat} (h : Bits n i) (h0 : 0 < n) : Builtin.Int.intBits i ≤ n := by
  have := PySem.Flt.log2_lt_of h0 h
  unfold Builtin.Int.intBits
  split <;> omega
theorem ex_pow {i : Int} {k : Nat} (ha : EX X G I Γ a (aInt i) J) (hb : EX X G J Γ b (aInt (k : Int)) K) (hc : ∃ n, 0 < n ∧ Bits n i ∧ n * k ≤ 134217728) : EX X G I Γ (.BinOp a .Pow b pos) (aInt (i ^ k)) K := by
  obtain ⟨n, h0, h1, h2⟩ := hc
  refine ex_opI (g := fun i j => .int (i ^ j.toNat)) op_powA ha hb ⟨Int.natCast_nonneg _, ?_⟩
  have e : Builtin.Int.intBits i * k ≤ n * k := Nat.mul_le_mul_right _ (intBits_le h1 h0)
  have : ((Builtin.Int.intBits i * k : Nat) : Int) ≤ 2 ^ 27 := by omega
  rw [Int.natCast_mul] at this
  exact this
theorem ex_neg {i : Int} (ha : EX X G I Γ a (aInt i) J) : EX X G I Γ (.UnaryOp .USub a pos) (aInt (-i)) J := fun σ H Q k q => PE.w (pe_un un_neg pe_wE) (ha σ H _ k fun H1 x t1 a1 => ⟨i, a1, q H1 _ t1 rfl⟩)
/-! comparisons -/
theorem ex_cmp2 {op : CmpOp} {r : R2} (ho : OpR X (compareOp op) r) (hm : behindInMarks op b = false) (ha : EX X G I Γ a A J) (hb : EX X G J Γ b B K) {C : Asr}
    (h : ∀ (F : Hp) (x y : V), A.p F x → B.p F y → ∀ (H : Hp) (Q : VK), Sm F H → (∀ v, C.p F v → Q v H) → r x y H Q) : EX X G I Γ (.Compare a [op] [b] pos) C K := fun σ H Q k q =>
  PE.w (pe_cmpR ho pe_wE pe_wE hm) (ha σ H _ k fun H1 x t1 a1 => hb σ H1 _ (k.to t1) fun H2 y t2 b2 => h (fz G.U H2) x y (A.mono t2.fz a1) b2 H2 Q fz_sub fun v c => q H2 v (t1.trans t2) c)
theorem ex_cmpI {op : CmpOp} {g : Int → Int → V} {i j : Int} (ho : OpR X (compareOp op) (rI0 g)) (hm : behindInMarks op b = false) (ha : EX X G I Γ a (aInt i) J) (hb : EX X G J Γ b (aInt j) K) : EX X G I Γ (.Compare a [op] [b] pos) (isV (g i j)) K :=
  ex_cmp2 ho hm ha hb fun F x y ex ey H Q _ q => ⟨i, j, ex, ey, q _ rfl⟩
theorem ex_lt {i j : Int} (ha : EX X G I Γ a (aInt i) J) (hb : EX X G J Γ b (aInt j) K) : EX X G I Γ (.Compare a [.Lt] [b] pos) (isBl (decide (i < j))) K := ex_cmpI op_lt (nomark _) ha hb
theorem ex_le {i j : Int} (ha : EX X G I Γ a (aInt i) J) (hb : EX X G J Γ b (aInt j) K) : EX X G I Γ (.Compare a [.LtE] [b] pos) (isBl (decide (i ≤ j))) K := ex_cmpI op_le (nomark _) ha hb
theorem ex_gt {i j : Int} (ha : EX X G I Γ a (aInt i) J) (hb : EX X G J Γ b (aInt j) K) : EX X G I Γ (.Compare a [.Gt] [b] pos) (isBl (decide (j < i))) K := ex_cmpI op_gt (nomark _) ha hb
theorem ex_ge {i j : Int} (ha : EX X G I Γ a (aInt i) J) (hb : EX X G J Γ b (aInt j) K) : EX X G I Γ (.Compare a [.GtE] [b] pos) (isBl (decide (j ≤ i))) K := ex_cmpI op_ge (nomark _) ha hb
/-- == of two ints, two bools -/
theorem ex_eq {x y : V} (hs : scal x y = true) (ha : EX X G I Γ a (isV x) J) (hb : EX X G J Γ b (isV y) K) : EX X G I Γ (.Compare a [.Eq] [b] pos) (isBl (decide (x = y))) K :=
  ex_cmp2 op_eq (nomark _) ha hb fun F x' y' ex ey H Q _ q => by cases ex; cases ey; exact ⟨hs, q _ rfl⟩
theorem ex_ne {x y : V} (hs : scal x y = true) (ha : EX X G I Γ a (isV x) J) (hb : EX X G J Γ b (isV y) K) : EX X G I Γ (.Compare a [.NotEq] [b] pos) (isBl (!decide (x = y))) K :=
  ex_cmp2 op_ne (nomark _) ha hb fun F x' y' ex ey H Q _ q => by cases ex; cases ey; exact ⟨hs, q _ rfl⟩
theorem dec_int' {i j : Int} : decide (V.int i = V.int j) = decide (i = j) := by
  by_cases h : i = j
  · subst h; simp
  · rw [decide_eq_false h, decide_eq_false fun z => h (V.int.inj z)]
theorem ex_eqI {i j : Int} (ha : EX X G I Γ a (aInt i) J) (hb : EX X G J Γ b (aInt j) K) : EX X G I Γ (.Compare a [.Eq] [b] pos) (isBl (decide (i = j))) K := by rw [← dec_int']; exact ex_eq rfl ha hb
theorem ex_neI {i j : Int} (ha : EX X G I Γ a (aInt i) J) (hb : EX X G J Γ b (aInt j) K) : EX X G I Γ (.Compare a [.NotEq] [b] pos) (isBl (!decide (i = j))) K := by rw [← dec_int']; exact ex_ne rfl ha hb
theorem ex_isN {x : V} (ha : EX X G I Γ a (isV x) J) {j p} : EX X G I Γ (.Compare a [.Is] [.Constant .none j p] pos) (isBl (decide (x = .non))) J :=
  ex_cmp2 op_isN (nomark _) ha ex_non fun F x' y' ex ey H Q _ q => by cases ex; cases ey; exact ⟨rfl, q _ rfl⟩
/-! arguments, displays -/
theorem ax_nil : AX X G I Γ [] [] I := fun σ H Q k q => PA.w pa_nil (q H [] k.self rfl)
theorem ax_cons (ha : EX X G I Γ e A J) (hr : AX X G J Γ es As K) (hs : starEach (e :: es) X.env = (false, eval e X.env) :: starEach es X.env := by rfl) : AX X G I Γ (e :: es) (A :: As) K := fun σ H Q k q =>
  PA.w (pa_cons pe_wE pa_wA hs) (ha σ H _ k fun H1 x t1 a1 => hr σ H1 _ (k.to t1) fun H2 xs t2 r => q H2 _ (t1.trans t2) ⟨x, xs, rfl, A.mono t2.fz a1, r⟩)
theorem kx_nil : KX X G I Γ [] [] I := fun σ H Q k q => PK.w pk_nil (q H [] k.self rfl)
theorem kx_cons {nm : Option Str} {kpos : Pos} {kws : List Keyword} (ha : EX X G I Γ e A J) (hr : KX X G J Γ kws As K) : KX X G I Γ (⟨nm, e, kpos⟩ :: kws) (A :: As) K := fun σ H Q k q =>
  PK.w (pk_cons pe_wE pk_wK) (ha σ H _ k fun H1 x t1 a1 => hr σ H1 _ (k.to t1) fun H2 xs t2 r => q H2 _ (t1.trans t2) ⟨x, xs, rfl, A.mono t2.fz a1, r⟩)
theorem small_sz {n : Nat} (h : n ≤ 100000) : n ≤ sizeLine := by rw [sizeLine_eq]; omega
theorem ex_tup {x1} (h : AX X G I Γ es As J) (hz : As.length ≤ 100000) : EX X G I Γ (.Tuple es x1 pos) (isTup X.K As) J := fun σ H Q k q =>
  PE.w (pe_tup pa_wA) (h σ H _ k fun H1 xs t1 r => ⟨small_sz (by rw [r.len]; exact hz), fun p hp => q _ _ (t1.new' hp) ⟨p, xs, rfl, .inl (.inl (fz_new t1.live hp)), r.mono (Gx.To.new t1.live t1.inv hp).fz⟩⟩)
theorem ex_lst (h : AX X G I Γ es As J) (hz : As.length ≤ 100000) : EX X G I Γ (.List es pos) (isLst X.K As) J := fun σ H Q k q =>
  PE.w (pe_lst pa_wA) (h σ H _ k fun H1 xs t1 r => ⟨small_sz (by rw [r.len]; exact hz), fun p hp => q _ _ (t1.new' hp) ⟨p, xs, rfl, .inl (.inl (fz_new t1.live hp)), r.mono (Gx.To.new t1.live t1.inv hp).fz⟩⟩)
/-! subscripts -/
theorem ex_ixL {i : Int} {k : Nat} (hs : PlainIx b) (ha : EX X G I Γ a (isLst X.K As) J) (hb : EX X G J Γ b (aInt i) K) (hi : i = (k : Int)) (hA : As[k]? = some A) : EX X G I Γ (.Subscript a b pos) A K := fun σ H Q kk q =>
  PE.w (pe_ix ix_list pe_wE pe_wE hs) (ha σ H _ kk fun H1 x t1 a1 => hb σ H1 _ (kk.to t1) fun H2 y t2 b2 => by
    obtain ⟨p, vs, rfl, h, r⟩ := (isLst X.K As).mono t2.fz a1
    obtain ⟨v, e, w⟩ := r.get hA
    subst hi
    cases b2
    exact ⟨p, vs, _, v, rfl, rfl, SqL.mono fz_sub h, atI_nat e, q H2 v (t1.trans t2) w⟩)
theorem ex_ixT {i : Int} {k : Nat} (hs : PlainIx b) (ha : EX X G I Γ a (isTup X.K As) J) (hb : EX X G J Γ b (aInt i) K) (hi : i = (k : Int)) (hA : As[k]? = some A) : EX X G I Γ (.Subscript a b pos) A K := fun σ H Q kk q =>
  PE.w (pe_ix ix_tup pe_wE pe_wE hs) (ha σ H _ kk fun H1 x t1 a1 => hb σ H1 _ (kk.to t1) fun H2 y t2 b2 => by
    obtain ⟨p, vs, rfl, h, r⟩ := (isTup X.K As).mono t2.fz a1
    obtain ⟨v, e, w⟩ := r.get hA
    subst hi
    cases b2
    exact ⟨p, vs, _, v, rfl, rfl, SqT.mono fz_sub h, atI_nat e, q H2 v (t1.trans t2) w⟩)
end
end L2.PL
namespace L2.PL
open PySem PySem.Spec PyProof.Rows
section
variable {X : Cx} {G : Gx} {I J K : Iv G.M} {Γ : Slots} {e a b : Expr} {es rest : List Expr} {A B : Asr} {As : List Asr} {pos : Pos} {P : Bool → Prop}
/-! ### tests -/
theorem tx_val {k : Bool} (ha : EX X G I Γ e (isBl k) J) (he : ∀ whole, isTrue e X.env whole = (do let v ← whole; standAt e.pos; holding [v] (truthy v)) := by intro _; rfl) : TX X G I Γ e (· = k) J := fun σ H Q kk q =>
  PT.w (pt_val pe_wE he) (ha σ H _ kk fun H1 v t1 a1 => ⟨k, a1, q H1 k t1 rfl⟩)
theorem tx_cmp2 {op : CmpOp} {r : R2} (ho : OpR X (compareOp op) r) (hm : behindInMarks op b = false) (ha : EX X G I Γ a A J) (hb : EX X G J Γ b B K)
    (h : ∀ (F : Hp) (x y : V), A.p F x → B.p F y → ∀ (H : Hp) (Q : VK), Sm F H → (∀ c, P c → Q (.bl c) H) → r x y H Q) : TX X G I Γ (.Compare a [op] [b] pos) P K := fun σ H Q k q =>
  PT.w (pt_cmpR ho pe_wE pe_wE hm) (ha σ H _ k fun H1 x t1 a1 => hb σ H1 _ (k.to t1) fun H2 y t2 b2 => h (fz G.U H2) x y (A.mono t2.fz a1) b2 H2 _ fz_sub fun c p => ⟨c, rfl, q H2 c (t1.trans t2) p⟩)
theorem tx_cmpI {op : CmpOp} {g : Int → Int → Bool} {i j : Int} (ho : OpR X (compareOp op) (rI0 fun i j => .bl (g i j))) (hm : behindInMarks op b = false) (ha : EX X G I Γ a (aInt i) J) (hb : EX X G J Γ b (aInt j) K) : TX X G I Γ (.Compare a [op] [b] pos) (· = g i j) K :=
  tx_cmp2 ho hm ha hb fun F x y ex ey H Q _ q => ⟨i, j, ex, ey, q _ rfl⟩
theorem tx_lt {i j : Int} (ha : EX X G I Γ a (aInt i) J) (hb : EX X G J Γ b (aInt j) K) : TX X G I Γ (.Compare a [.Lt] [b] pos) (· = decide (i < j)) K := tx_cmpI op_lt (nomark _) ha hb
theorem tx_le {i j : Int} (ha : EX X G I Γ a (aInt i) J) (hb : EX X G J Γ b (aInt j) K) : TX X G I Γ (.Compare a [.LtE] [b] pos) (· = decide (i ≤ j)) K := tx_cmpI op_le (nomark _) ha hb
theorem tx_gt {i j : Int} (ha : EX X G I Γ a (aInt i) J) (hb : EX X G J Γ b (aInt j) K) : TX X G I Γ (.Compare a [.Gt] [b] pos) (· = decide (j < i)) K := tx_cmpI op_gt (nomark _) ha hb
theorem tx_ge {i j : Int} (ha : EX X G I Γ a (aInt i) J) (hb : EX X G J Γ b (aInt j) K) : TX X G I Γ (.Compare a [.GtE] [b] pos) (· = decide (j ≤ i)) K := tx_cmpI op_ge (nomark _) ha hb
theorem tx_eq {x y : V} (hs : scal x y = true) (ha : EX X G I Γ a (isV x) J) (hb : EX X G J Γ b (isV y) K) : TX X G I Γ (.Compare a [.Eq] [b] pos) (· = decide (x = y)) K :=
  tx_cmp2 op_eq (nomark _) ha hb fun F x' y' ex ey H Q _ q => by cases ex; cases ey; exact ⟨hs, q _ rfl⟩
theorem tx_ne {x y : V} (hs : scal x y = true) (ha : EX X G I Γ a (isV x) J) (hb : EX X G J Γ b (isV y) K) : TX X G I Γ (.Compare a [.NotEq] [b] pos) (· = !decide (x = y)) K :=
  tx_cmp2 op_ne (nomark _) ha hb fun F x' y' ex ey H Q _ q => by cases ex; cases ey; exact ⟨hs, q _ rfl⟩
theorem tx_eqI {i j : Int} (ha : EX X G I Γ a (aInt i) J) (hb : EX X G J Γ b (aInt j) K) : TX X G I Γ (.Compare a [.Eq] [b] pos) (· = decide (i = j)) K := by rw [← dec_int']; exact tx_eq rfl ha hb
theorem tx_neI {i j : Int} (ha : EX X G I Γ a (aInt i) J) (hb : EX X G J Γ b (aInt j) K) : TX X G I Γ (.Compare a [.NotEq] [b] pos) (· = !decide (i = j)) K := by rw [← dec_int']; exact tx_ne rfl ha hb
theorem tx_isN {x : V} (ha : EX X G I Γ a (isV x) J) {j p} : TX X G I Γ (.Compare a [.Is] [.Constant .none j p] pos) (· = decide (x = .non)) J :=
  tx_cmp2 op_isN (nomark _) ha ex_non fun F x' y' ex ey H Q _ q => by cases ex; cases ey; exact ⟨rfl, q _ rfl⟩
/-- .. of a draw: nothing is known of the answer but what its numbers say -/
theorem tx_dr {op : CmpOp} {g : Int → Int → Bool} {R S : Int → Prop} (ho : OpR X (compareOp op) (rI0 fun i j => .bl (g i j))) (hm : behindInMarks op b = false) (ha : EX X G I Γ a (exA R aInt) J) (hb : EX X G J Γ b (exA S aInt) K) :
    TX X G I Γ (.Compare a [op] [b] pos) (fun c => ∃ i j, R i ∧ S j ∧ c = g i j) K :=
  tx_cmp2 ho hm ha hb fun F x y ⟨i, r, ex⟩ ⟨j, s, ey⟩ H Q _ q => ⟨i, j, ex, ey, q _ ⟨i, j, r, s, rfl⟩⟩
theorem tx_drEq {R S : Int → Prop} (ha : EX X G I Γ a (exA R aInt) J) (hb : EX X G J Γ b (exA S aInt) K) : TX X G I Γ (.Compare a [.Eq] [b] pos) (fun c => ∃ i j, R i ∧ S j ∧ c = decide (i = j)) K :=
  tx_cmp2 op_eq (nomark _) ha hb fun F x y ⟨i, r, ex⟩ ⟨j, s, ey⟩ H Q _ q => by cases ex; cases ey; exact ⟨rfl, q _ ⟨i, j, r, s, dec_int'⟩⟩
theorem TX.imp {P' : Bool → Prop} (h : TX X G I Γ e P J) (f : ∀ c, P c → P' c) : TX X G I Γ e P' J := fun σ H Q k q => h σ H Q k fun H' c t p => q H' c t (f c p)
theorem tx_not (ha : TX X G I Γ a P J) : TX X G I Γ (.UnaryOp .Not a pos) (fun c => P (!c)) J := fun σ H Q k q =>
  PT.w (pt_not pt_wT) (ha σ H _ k fun H1 c t1 p => q H1 (!c) t1 (by show P (!!c); rw [Bool.not_not]; exact p))
theorem wx_and1 (ha : TX X G I Γ a P J) : WX X G I Γ (.BoolOp .And [a] pos) P J := fun σ H Q k q => PW.w (pw_and1 pt_wT) (ha σ H Q k q)
theorem wx_or1 (ha : TX X G I Γ a P J) : WX X G I Γ (.BoolOp .Or [a] pos) P J := fun σ H Q k q => PW.w (pw_or1 pt_wT) (ha σ H Q k q)
theorem wx_and {p q : Bool} (ha : TX X G I Γ a (· = p) J) (hb : p = true → WX X G J Γ (.BoolOp .And (b :: rest) pos) (· = q) K) (jk : ∀ H, J.p H → K.p H := by exact fun _ h => h) : WX X G I Γ (.BoolOp .And (a :: b :: rest) pos) (· = (p && q)) K := fun σ H Q k w =>
  PW.w (pw_and pt_wT pw_wW) (ha σ H _ k fun H1 c t1 e => by
    subst e
    cases c with
    | true => rw [if_pos rfl]; exact hb rfl σ H1 Q (k.to t1) fun H2 c2 t2 e2 => w H2 c2 (t1.trans t2) (by rw [e2]; rfl)
    | false => rw [if_neg Bool.false_ne_true]; exact w H1 false (t1.post jk) rfl)
theorem wx_or {p q : Bool} (ha : TX X G I Γ a (· = p) J) (hb : p = false → WX X G J Γ (.BoolOp .Or (b :: rest) pos) (· = q) K) (jk : ∀ H, J.p H → K.p H := by exact fun _ h => h) : WX X G I Γ (.BoolOp .Or (a :: b :: rest) pos) (· = (p || q)) K := fun σ H Q k w =>
  PW.w (pw_or pt_wT pw_wW) (ha σ H _ k fun H1 c t1 e => by
    subst e
    cases c with
    | true => rw [if_pos rfl]; exact w H1 true (t1.post jk) rfl
    | false => rw [if_neg Bool.false_ne_true]; exact hb rfl σ H1 Q (k.to t1) fun H2 c2 t2 e2 => w H2 c2 (t1.trans t2) (by rw [e2]; rfl))
/-- .. of draws -/
theorem wx_andP {P' R : Bool → Prop} (ha : TX X G I Γ a P J) (h0 : P false → R false) (hb : P true → WX X G J Γ (.BoolOp .And (b :: rest) pos) R K) (jk : ∀ H, J.p H → K.p H := by exact fun _ h => h) : WX X G I Γ (.BoolOp .And (a :: b :: rest) pos) R K := fun σ H Q k w =>
  PW.w (pw_and pt_wT pw_wW) (ha σ H _ k fun H1 c t1 e => by
    cases c with
    | true => rw [if_pos rfl]; exact hb e σ H1 Q (k.to t1) fun H2 c2 t2 e2 => w H2 c2 (t1.trans t2) e2
    | false => rw [if_neg Bool.false_ne_true]; exact w H1 false (t1.post jk) (h0 e))
theorem wx_orP {R : Bool → Prop} (ha : TX X G I Γ a P J) (h0 : P true → R true) (hb : P false → WX X G J Γ (.BoolOp .Or (b :: rest) pos) R K) (jk : ∀ H, J.p H → K.p H := by exact fun _ h => h) : WX X G I Γ (.BoolOp .Or (a :: b :: rest) pos) R K := fun σ H Q k w =>
  PW.w (pw_or pt_wT pw_wW) (ha σ H _ k fun H1 c t1 e => by
    cases c with
    | true => rw [if_pos rfl]; exact w H1 true (t1.post jk) (h0 e)
    | false => rw [if_neg Bool.false_ne_true]; exact hb e σ H1 Q (k.to t1) fun H2 c2 t2 e2 => w H2 c2 (t1.trans t2) e2)
theorem WX.tx (h : WX X G I Γ e P J) : TX X G I Γ e P J := fun σ H Q k q => PT.w (PW.pt pw_wW) (h σ H Q k q)
/-- the truth of a list -/
theorem tx_list (ha : EX X G I Γ e (isLst X.K As) J) (he : ∀ whole, isTrue e X.env whole = (do let v ← whole; standAt e.pos; holding [v] (truthy v)) := by intro _; rfl) : TX X G I Γ e (· = !As.isEmpty) J := fun σ H Q k q =>
  PT.w (pt_truth pe_wE he) (ha σ H _ k fun H1 v t1 ⟨p, vs, e, h, r⟩ => by
    subst e
    refine ⟨!vs.isEmpty, .inl ⟨vs, SqL.mono fz_sub h, rfl⟩, q H1 _ t1 ?_⟩
    have := r.len
    cases vs <;> cases As <;> simp_all)
/-! and, or, not, if as values -/
theorem ex_one {op} (ha : EX X G I Γ a A J) : EX X G I Γ (.BoolOp op [a] pos) A J := fun σ H Q k q => PE.w (pe_one pe_wE) (ha σ H Q k q)
theorem ex_and {p q : Bool} (ha : EX X G I Γ a (isBl p) J) (hb : p = true → EX X G J Γ (.BoolOp .And (b :: rest) pos) (isBl q) K) (jk : ∀ H, J.p H → K.p H := by exact fun _ h => h) : EX X G I Γ (.BoolOp .And (a :: b :: rest) pos) (isBl (p && q)) K := fun σ H Q k w =>
  PE.w (pe_and pe_wE pe_wE) (ha σ H _ k fun H1 v t1 e => ⟨p, e, by
    cases p with
    | true => rw [if_pos rfl]; exact hb rfl σ H1 Q (k.to t1) fun H2 c2 t2 e2 => w H2 c2 (t1.trans t2) e2
    | false => rw [if_neg Bool.false_ne_true]; exact w H1 _ (t1.post jk) rfl⟩)
theorem ex_or {p q : Bool} (ha : EX X G I Γ a (isBl p) J) (hb : p = false → EX X G J Γ (.BoolOp .Or (b :: rest) pos) (isBl q) K) (jk : ∀ H, J.p H → K.p H := by exact fun _ h => h) : EX X G I Γ (.BoolOp .Or (a :: b :: rest) pos) (isBl (p || q)) K := fun σ H Q k w =>
  PE.w (pe_or pe_wE pe_wE) (ha σ H _ k fun H1 v t1 e => ⟨p, e, by
    cases p with
    | true => rw [if_pos rfl]; exact w H1 _ (t1.post jk) rfl
    | false => rw [if_neg Bool.false_ne_true]; exact hb rfl σ H1 Q (k.to t1) fun H2 c2 t2 e2 => w H2 c2 (t1.trans t2) e2⟩)
theorem ex_not {p : Bool} (ha : EX X G I Γ a (isBl p) J) : EX X G I Γ (.UnaryOp .Not a pos) (isBl (!p)) J := fun σ H Q k w => PE.w (pe_not pe_wE) (ha σ H _ k fun H1 v t1 e => ⟨p, e, w H1 _ t1 rfl⟩)
theorem ex_if {c : Expr} (hc : TX X G I Γ c P J) (ha : P true → EX X G J Γ a A K) (hb : P false → EX X G J Γ b A K) : EX X G I Γ (.IfExp c a b pos) A K := fun σ H Q k q =>
  PE.w (pe_ifExp pt_wT pe_wE pe_wE) (hc σ H _ k fun H1 d t1 p => by
    cases d with
    | true => rw [if_pos rfl]; exact ha p σ H1 Q (k.to t1) fun H2 v t2 a2 => q H2 v (t1.trans t2) a2
    | false => rw [if_neg Bool.false_ne_true]; exact hb p σ H1 Q (k.to t1) fun H2 v t2 a2 => q H2 v (t1.trans t2) a2)
/-! ### calls of built-ins -/
theorem ex_B {x : Str} {id : String} {r : List V → Hp → VK → Prop} {p : Pos} {C : Asr} (hc : CallR X (.builtin id) r) (hg : Gl X x) (hm : X.mg x = none) (hv : bootBuiltins x = some (.builtin id)) (ha : AX X G I Γ (e :: es) As J)
    (h : ∀ (H1 : Hp) (vs : List V), AllA As (fz G.U H1) vs → ∀ Q : VK, (∀ v, C.p (fz G.U H1) v → Q v H1) → r vs H1 Q) (hn : x ≠ "__name__" := by decide) (hdb : (x == ("__debug__" : Str)) = false := by decide)
    (he : starEach (e :: es) X.env = (false, eval e X.env) :: starEach es X.env := by rfl) (hpl : (backTo pos (starEach es X.env)).any (·.1) = false := by rfl) : EX X G I Γ (.Call (.Name x p) (e :: es) [] pos) C J := fun σ H Q k q =>
  PE.w (pe_callB hc hg hm hv pa_wA hn hdb he hpl) (ha σ H _ k fun H1 vs t1 r1 => h H1 vs r1 Q fun v c => q H1 v t1 c)
theorem ex_Bfun {x : Str} {id : String} {r : List V → Hp → VK → Prop} {p : Pos} {C : Asr} (hc : CallR X (.builtin id) r) (hg : Gl X x) (hm : X.mg x = some (.builtin id)) (ha : AX X G I Γ (e :: es) As J)
    (h : ∀ (H1 : Hp) (vs : List V), AllA As (fz G.U H1) vs → ∀ Q : VK, (∀ v, C.p (fz G.U H1) v → Q v H1) → r vs H1 Q) (hdb : (x == ("__debug__" : Str)) = false := by decide)
    (he : starEach (e :: es) X.env = (false, eval e X.env) :: starEach es X.env := by rfl) (hpl : (backTo pos (starEach es X.env)).any (·.1) = false := by rfl) : EX X G I Γ (.Call (.Name x p) (e :: es) [] pos) C J := fun σ H Q k q =>
  PE.w (pe_callBfun hc hg hm pa_wA hdb he hpl) (ha σ H _ k fun H1 vs t1 r1 => h H1 vs r1 Q fun v c => q H1 v t1 c)
theorem ex_T {x : Str} {T : String} {r : List V → Hp → VK → Prop} {p : Pos} {C : Asr} (hc : CallR X (.type T) r) (hg : Gl X x) (hm : X.mg x = none) (hv : bootBuiltins x = some (.type T)) (ha : AX X G I Γ (e :: es) As J)
    (h : ∀ (H1 : Hp) (vs : List V), (∀ a, G.U a → H1 a ≠ none) → J.p H1 → AllA As (fz G.U H1) vs → ∀ Q : VK, (∀ H2 v, G.To J H1 H2 → C.p (fz G.U H2) v → Q v H2) → r vs H1 Q) (hn : x ≠ "__name__" := by decide) (hdb : (x == ("__debug__" : Str)) = false := by decide)
    (he : starEach (e :: es) X.env = (false, eval e X.env) :: starEach es X.env := by rfl) (hpl : (backTo pos (starEach es X.env)).any (·.1) = false := by rfl) : EX X G I Γ (.Call (.Name x p) (e :: es) [] pos) C J := fun σ H Q k q =>
  PE.w (pe_callTy hc hg hm hv pa_wA hn hdb he hpl) (ha σ H _ k fun H1 vs t1 r1 => h H1 vs t1.live t1.inv r1 Q fun H2 v t2 c => q H2 v (t1.trans t2) c)
theorem AllA.v1 {w : V} {F : Hp} {vs : List V} (h : AllA [isV w] F vs) : vs = [w] := by
  obtain ⟨v, r, e, h1, h2⟩ := h
  cases h1; cases h2; exact e
theorem AllA.v2 {w u : V} {F : Hp} {vs : List V} (h : AllA [isV w, isV u] F vs) : vs = [w, u] := by
  obtain ⟨v, r, e, h1, v2, r2, e2, h3, h4⟩ := h
  cases h1; cases h3; cases h4; rw [e, e2]
section
variable {p : Pos}
theorem ex_len (hg : Gl X "len") (hm : X.mg "len" = none) (ha : EX X G I Γ e (isLst X.K As) J) (hs : starEach [e] X.env = (false, eval e X.env) :: starEach [] X.env := by rfl) (hpl : (backTo pos (starEach [] X.env)).any (·.1) = false := by rfl) : EX X G I Γ (.Call (.Name "len" p) [e] [] pos) (aInt (As.length : Int)) J :=
  ex_B call_len_seq hg hm PySem.boot_len (ax_cons ha ax_nil hs) (fun H1 vs ⟨v, r, e1, ⟨q, ws, e2, h, rr⟩, e3⟩ Q w => by
    cases e3; subst e2; subst e1
    exact ⟨q, ws, rfl, .inl (SqL.mono fz_sub h), w _ (by rw [rr.len]; rfl)⟩) (by decide) (by decide) hs hpl
theorem ex_lenT (hg : Gl X "len") (hm : X.mg "len" = none) (ha : EX X G I Γ e (isTup X.K As) J) (hs : starEach [e] X.env = (false, eval e X.env) :: starEach [] X.env := by rfl) (hpl : (backTo pos (starEach [] X.env)).any (·.1) = false := by rfl) : EX X G I Γ (.Call (.Name "len" p) [e] [] pos) (aInt (As.length : Int)) J :=
  ex_B call_len_seq hg hm PySem.boot_len (ax_cons ha ax_nil hs) (fun H1 vs ⟨v, r, e1, ⟨q, ws, e2, h, rr⟩, e3⟩ Q w => by
    cases e3; subst e2; subst e1
    exact ⟨q, ws, rfl, .inr (SqT.mono fz_sub h), w _ (by rw [rr.len]; rfl)⟩) (by decide) (by decide) hs hpl
theorem ex_abs {i : Int} (hg : Gl X "abs") (hm : X.mg "abs" = none) (ha : EX X G I Γ e (aInt i) J) (hs : starEach [e] X.env = (false, eval e X.env) :: starEach [] X.env := by rfl) (hpl : (backTo pos (starEach [] X.env)).any (·.1) = false := by rfl) : EX X G I Γ (.Call (.Name "abs" p) [e] [] pos) (aInt (i.natAbs : Int)) J :=
  ex_B call_abs hg hm (by decide +kernel) (ax_cons ha ax_nil hs) (fun H1 vs r Q w => by
    refine ⟨i, r.v1, w _ ?_⟩
    show V.int _ = V.int _
    congr 1
    split <;> omega) (by decide) (by decide) hs hpl
theorem ex_intI {i : Int} (hg : Gl X "int") (hm : X.mg "int" = none) (ha : EX X G I Γ e (aInt i) J) (hs : starEach [e] X.env = (false, eval e X.env) :: starEach [] X.env := by rfl) (hpl : (backTo pos (starEach [] X.env)).any (·.1) = false := by rfl) : EX X G I Γ (.Call (.Name "int" p) [e] [] pos) (aInt i) J :=
  ex_T call_int1 hg hm (by decide +kernel) (ax_cons ha ax_nil hs) (fun H1 vs l i1 r Q w => .inl ⟨i, r.v1, w _ _ ⟨fun _ _ _ e => e, l, i1⟩ rfl⟩) (by decide) (by decide) hs hpl
theorem ex_intB {c : Bool} (hg : Gl X "int") (hm : X.mg "int" = none) (ha : EX X G I Γ e (isBl c) J) (hs : starEach [e] X.env = (false, eval e X.env) :: starEach [] X.env := by rfl) (hpl : (backTo pos (starEach [] X.env)).any (·.1) = false := by rfl) : EX X G I Γ (.Call (.Name "int" p) [e] [] pos) (aInt (if c then 1 else 0)) J :=
  ex_T call_int1 hg hm (by decide +kernel) (ax_cons ha ax_nil hs) (fun H1 vs l i1 r Q w => .inr ⟨c, r.v1, w _ _ ⟨fun _ _ _ e => e, l, i1⟩ rfl⟩) (by decide) (by decide) hs hpl
theorem ex_listL (hg : Gl X "list") (hm : X.mg "list" = none) (ha : EX X G I Γ e (isLst X.K As) J) (hs : starEach [e] X.env = (false, eval e X.env) :: starEach [] X.env := by rfl) (hpl : (backTo pos (starEach [] X.env)).any (·.1) = false := by rfl) : EX X G I Γ (.Call (.Name "list" p) [e] [] pos) (isLst X.K As) J :=
  ex_T call_list_of hg hm (by decide +kernel) (ax_cons ha ax_nil hs) (fun H1 vs l i1 ⟨v, r, e1, ⟨q, ws, e2, h, rr⟩, e3⟩ Q w => by
    cases e3; subst e2; subst e1
    exact ⟨q, ws, rfl, .inl (SqL.mono fz_sub h), fun z hz => w _ _ (.new l i1 hz) ⟨z, ws, rfl, .inl (.inl (fz_new l hz)), rr.mono (Gx.To.new l i1 hz).fz⟩⟩) (by decide) (by decide) hs hpl
theorem rRead {K : PySem.W.Frag} {ι : Type} {f : ι → V} {F : Hp} : ∀ {l : List ι} {vs : List V}, AllA (l.map fun i => isV (f i)) F vs → vs = l.map f
  | [], _, h => h
  | i :: l, _, ⟨v, r, e, h1, h2⟩ => by cases h1; rw [e, rRead (K := K) h2]; rfl
theorem ex_sum {ns : List Int} (hc : X.calm = true) (hg : Gl X "sum") (hm : X.mg "sum" = none) (ha : EX X G I Γ e (isLst X.K (ns.map fun i => aInt i)) J) (hs : starEach [e] X.env = (false, eval e X.env) :: starEach [] X.env := by rfl) (hpl : (backTo pos (starEach [] X.env)).any (·.1) = false := by rfl) : EX X G I Γ (.Call (.Name "sum" p) [e] [] pos) (aInt ns.sum) J :=
  ex_B (cr_sum hc) hg hm (by decide +kernel) (ax_cons ha ax_nil hs) (fun H1 vs ⟨v, r, e1, ⟨q, ws, e2, h, rr⟩, e3⟩ Q w => by
    cases e3; subst e2; subst e1
    rw [rRead (K := X.K) (f := V.int) rr] at h
    exact ⟨q, ns, rfl, SqL.mono fz_sub h, w _ rfl⟩) (by decide) (by decide) hs hpl
theorem ex_all {bs : List Bool} (hc : X.calm = true) (hg : Gl X "all") (hm : X.mg "all" = none) (ha : EX X G I Γ e (isLst X.K (bs.map fun i => isBl i)) J) (hs : starEach [e] X.env = (false, eval e X.env) :: starEach [] X.env := by rfl) (hpl : (backTo pos (starEach [] X.env)).any (·.1) = false := by rfl) : EX X G I Γ (.Call (.Name "all" p) [e] [] pos) (isBl (bs.all id)) J :=
  ex_B (cr_all hc) hg hm (by decide +kernel) (ax_cons ha ax_nil hs) (fun H1 vs ⟨v, r, e1, ⟨q, ws, e2, h, rr⟩, e3⟩ Q w => by
    cases e3; subst e2; subst e1
    rw [rRead (K := X.K) (f := V.bl) rr] at h
    exact ⟨q, bs, rfl, SqL.mono fz_sub h, w _ rfl⟩) (by decide) (by decide) hs hpl
theorem ex_gcd {x : Str} {i j : Int} (hg : Gl X x) (hm : X.mg x = some (.builtin "math.gcd")) (ha : EX X G I Γ a (aInt i) J) (hb : EX X G J Γ b (aInt j) K) (hdb : (x == ("__debug__" : Str)) = false := by decide)
    (hs : starEach [a, b] X.env = (false, eval a X.env) :: starEach [b] X.env := by rfl) (hs2 : starEach [b] X.env = (false, eval b X.env) :: starEach [] X.env := by rfl) (hpl : (backTo pos (starEach [b] X.env)).any (·.1) = false := by rfl) :
    EX X G I Γ (.Call (.Name x p) [a, b] [] pos) (aInt ((Nat.gcd i.natAbs j.natAbs : Nat) : Int)) K :=
  ex_Bfun cr_gcd hg hm (ax_cons ha (ax_cons hb ax_nil hs2) hs) (fun H1 vs r Q w => ⟨i, j, r.v2, w _ rfl⟩) hdb hs hpl
def rLcm : List V → Hp → VK → Prop := fun vs H Q => ∃ a b : Int, vs = [.int a, .int b] ∧ Bits 9000 a ∧ Bits 9000 b ∧ Q (.int ((Nat.lcm a.natAbs b.natAbs : Nat) : Int)) H
theorem lcm_le_mul (a b : Nat) : Nat.lcm a b ≤ a * b := Nat.div_le_self _ _
theorem cr_lcm : CallR X (.builtin "math.lcm") rLcm := by
  intro pins s σ H vs us Q I r h
  obtain ⟨a, b, rfl, ha, hb, q⟩ := h
  obtain ⟨t, u, rfl⟩ := Vals.int2 r
  have e1 : (Nat.lcm 1 a.natAbs) = a.natAbs := by rw [Nat.lcm_comm]; exact Nat.lcm_one_right _
  have z1 : (max 1 a.natAbs).log2 < 9000 := by
    refine (Nat.log2_lt (by omega)).mpr ?_
    have : 1 < 2 ^ 9000 := Nat.one_lt_two_pow (by decide)
    exact Nat.max_lt.mpr ⟨this, ha⟩
  have z2 : (max a.natAbs b.natAbs).log2 < 9000 := by
    by_cases h0 : max a.natAbs b.natAbs = 0
    · rw [h0]; decide
    · exact (Nat.log2_lt h0).mpr (Nat.max_lt.mpr ⟨ha, hb⟩)
  have z3 : ((((Nat.lcm 1 a.natAbs).lcm b.natAbs : Nat) : Int)).natAbs.log2 < bitsLine := by
    rw [e1, Int.natAbs_natCast]
    refine PySem.Flt.log2_lt_of (by decide) (Nat.lt_of_le_of_lt (lcm_le_mul _ _) ?_)
    have m : a.natAbs * b.natAbs < 2 ^ 9000 * 2 ^ 9000 := Nat.mul_lt_mul'' ha hb
    rw [← Nat.pow_add] at m
    exact Nat.lt_of_lt_of_le m (Nat.pow_le_pow_right (by decide) (by decide))
  refine PySem.call_function_meets PySem.W.MGF.kind_lcm PySem.W.MGF.plain_lcm PySem.W.MGF.entry_lcm (PySem.W.MGF.args_lcm _ _) (PySem.W.mg_run_lcm a t b u (by omega) (by omega) z3).meets ?_
  rw [e1]
  exact ⟨.int _, H, I.tok _, ⟨_, rfl⟩, q⟩
theorem ex_lcm {x : Str} {i j : Int} (hg : Gl X x) (hm : X.mg x = some (.builtin "math.lcm")) (ha : EX X G I Γ a (aInt i) J) (hb : EX X G J Γ b (aInt j) K) (hi : Bits 9000 i) (hj : Bits 9000 j) (hdb : (x == ("__debug__" : Str)) = false := by decide)
    (hs : starEach [a, b] X.env = (false, eval a X.env) :: starEach [b] X.env := by rfl) (hs2 : starEach [b] X.env = (false, eval b X.env) :: starEach [] X.env := by rfl) (hpl : (backTo pos (starEach [b] X.env)).any (·.1) = false := by rfl) :
    EX X G I Γ (.Call (.Name x p) [a, b] [] pos) (aInt ((Nat.lcm i.natAbs j.natAbs : Nat) : Int)) K :=
  ex_Bfun cr_lcm hg hm (ax_cons ha (ax_cons hb ax_nil hs2) hs) (fun H1 vs r Q w => ⟨i, j, r.v2, hi, hj, w _ rfl⟩) hdb hs hpl
end
/-! list + list, list * n (the parts may stand in the written part? no: tracked ones) -/
def isNew (As : List Asr) : Asr := ⟨fun F v => ∃ a vs, v = .ref a ∧ F a = some (.lst vs) ∧ AllA As F vs, fun s ⟨a, vs, e, h, r⟩ => ⟨a, vs, e, s _ _ h, r.mono s⟩⟩
theorem isNew.lst {K : PySem.W.Frag} (h : EX X G I Γ e (isNew As) J) : EX X G I Γ e (isLst K As) J := h.imp fun _ _ ⟨a, vs, e, h, r⟩ => ⟨a, vs, e, .inl (.inl h), r⟩
theorem ex_lstN (h : AX X G I Γ es As J) (hz : As.length ≤ 100000) : EX X G I Γ (.List es pos) (isNew As) J := fun σ H Q k q =>
  PE.w (pe_lst pa_wA) (h σ H _ k fun H1 xs t1 r => ⟨small_sz (by rw [r.len]; exact hz), fun p hp => q _ _ (t1.new' hp) ⟨p, xs, rfl, fz_new t1.live hp, r.mono (Gx.To.new t1.live t1.inv hp).fz⟩⟩)
theorem AllA.reps {As : List Asr} {H : Hp} {vs : List V} (h : AllA As H vs) : ∀ n : Nat, AllA (List.replicate n As).flatten H (List.replicate n vs).flatten
  | 0 => rfl
  | n + 1 => by rw [List.replicate_succ, List.replicate_succ, List.flatten_cons, List.flatten_cons]; exact h.app (AllA.reps h n)
theorem ex_rep {n : Nat} (ha : EX X G I Γ a (isNew As) J) (hb : EX X G J Γ b (aInt (n : Int)) K) (hz : As.length * n ≤ 100000) (hn : n ≤ 100000) : EX X G I Γ (.BinOp a .Mult b pos) (isNew (List.replicate n As).flatten) K := fun σ H Q k q =>
  PE.w (pe_op op_rep pe_wE pe_wE) (ha σ H _ k fun H1 x t1 a1 => hb σ H1 _ (k.to t1) fun H2 y t2 b2 => by
    obtain ⟨p, vs, rfl, h, r⟩ := (isNew As).mono t2.fz a1
    cases b2
    have h' : H2 p = some (.lst vs) := fz_sub _ _ h
    refine ⟨p, (n : Int), vs, rfl, rfl, h', by omega, by omega, ?_, fun z hz' => ?_⟩
    · rw [r.len, Int.toNat_natCast]; exact small_sz hz
    · rw [Int.toNat_natCast]
      exact q _ _ ((t1.trans t2).new' hz') ⟨z, _, rfl, fz_new t2.live hz', (r.reps n).mono (Gx.To.new t2.live t2.inv hz').fz⟩)
theorem ex_cat {Bs : List Asr} (ha : EX X G I Γ a (isNew As) J) (hb : EX X G J Γ b (isNew Bs) K) (hz : As.length + Bs.length ≤ 100000) : EX X G I Γ (.BinOp a .Add b pos) (isNew (As ++ Bs)) K := fun σ H Q k q =>
  PE.w (pe_op op_cat pe_wE pe_wE) (ha σ H _ k fun H1 x t1 a1 => hb σ H1 _ (k.to t1) fun H2 y t2 b2 => by
    obtain ⟨p, vs, rfl, h, r⟩ := (isNew As).mono t2.fz a1
    obtain ⟨p2, ws, rfl, h2, r2⟩ := b2
    refine ⟨p, p2, vs, ws, rfl, rfl, fz_sub _ _ h, fz_sub _ _ h2, ?_, fun z hz' => ?_⟩
    · rw [r.len, r2.len]; exact small_sz hz
    · exact q _ _ ((t1.trans t2).new' hz') ⟨z, _, rfl, fz_new t2.live hz', (r.app r2).mono (Gx.To.new t2.live t2.inv hz').fz⟩)
/-! ### calls of defs -/
/-- what a def without effects promises -/
def spF {ι : Type} (dom : ι → List Asr) (ok : ι → Prop) (cod : ι → Asr) : Sp := fun vs H Q _ => ∃ (M : Addr → Prop) (i : ι), (∀ a, M a → H a ≠ none) ∧ ok i ∧ AllA (dom i) (fz M H) vs ∧
  ∀ H' v, Sm H H' → (cod i).p (fz M H') v → Q v H'
theorem To.sm {H1 H' : Hp} (l : ∀ a, G.U a → H1 a ≠ none) (i : I.p H1) (s : Sm H1 H') : G.To I H1 H' := by
  have e : ∀ a, G.U a → H' a = H1 a := fun a m => by
    cases q : H1 a with
    | none => exact absurd q (l a m)
    | some o => exact s a o q
  exact ⟨fun a o _ q => s a o q, fun a m => by rw [e a m]; exact l a m, I.dep _ _ (fun a m => e a (.inl m)) i⟩
variable {ι : Type} {dom : ι → List Asr} {ok : ι → Prop} {cod : ι → Asr} {CX : CXT} {k : Nat} {f : Addr} {fd : FuncData} {ps : List Str} {E : XK} {x : Str} {p : Pos}
theorem ex_call (F : FnOk X.prog X.w X.K X.mg X.base CX k f fd ps (spF dom ok cod)) (hr : Room k X.A) (hg : Gl X x) (hm : X.mg x = some (.ref f)) (hk : PySem.W.keepIn X.K (.ref f) = true) (hb : Binds X.K fd ps []) (hx : Passes CX X E)
    (i : ι) (ha : AX X G I Γ (e :: es) (dom i) J) (hok : ok i) (hdb : (x == ("__debug__" : Str)) = false := by decide) (he : starEach (e :: es) X.env = (false, eval e X.env) :: starEach es X.env := by rfl) (hpl : (backTo pos (starEach es X.env)).any (·.1) = false := by rfl) :
    EX X G I Γ (.Call (.Name x p) (e :: es) [] pos) (cod i) J := fun σ H Q kk q =>
  PE.w (pe_call (E := E) F hr hg hm hk hb .nil hx pa_wA hdb he hpl) (ha σ H _ kk fun H1 vs t1 r => ⟨G.U, i, t1.live, hok, by rw [List.append_nil]; exact r, fun H' v s c => q H' v (t1.trans (To.sm t1.live t1.inv s)) c⟩)
end
end L2.PL
namespace L2.PL
open PySem PySem.Spec PyProof.Rows
/-! ### contexts -/
/-- nothing may be changed -/
abbrev gP (U : Addr → Prop) (H : Hp) : Gx := ⟨fun _ => False, U, fun _ => False, H, fun _ h => h, fun _ h => h.elim⟩
def ivT (M : Addr → Prop) : Iv M := ⟨fun _ => True, fun _ _ _ h => h⟩
/-- one more that is locked -/
abbrev Gx.lk (G : Gx) (D : Addr) : Gx := ⟨G.M, fun a => G.L a ∨ a = D, G.M0, G.H0, G.sub, G.fr⟩
theorem Gx.lk_U {G : Gx} {D a : Addr} : (G.lk D).U a ↔ G.U a ∨ a = D := by
  show (G.M a ∨ (G.L a ∨ a = D)) ↔ ((G.M a ∨ G.L a) ∨ a = D)
  constructor
  · rintro (h | h | h)
    · exact .inl (.inl h)
    · exact .inl (.inr h)
    · exact .inr h
  · rintro ((h | h) | h)
    · exact .inl h
    · exact .inr (.inl h)
    · exact .inr (.inr h)
/-- what is wanted of a value that is handed back -/
def Ret (G : Gx) (J : Iv G.M) (A : Asr) (D : Ends) : Prop := ∀ (Γ : Slots) (σ : St) (H' : Hp) (v : V), G.Ok J Γ σ H' → A.p (fz G.U H') v → D.rt v H'
theorem Ret.imp {G : Gx} {J : Iv G.M} {A B : Asr} {D : Ends} (h : Ret G J B D) (f : ∀ F v, A.p F v → B.p F v) : Ret G J A D := fun Γ σ H' v k a => h Γ σ H' v k (f _ _ a)
section
variable {X : Cx} {G : Gx} {I J K W1 : Iv G.M} {Γ : Slots} {e a b : Expr} {es rest : List Expr} {A B : Asr} {As : List Asr} {pos pos' : Pos} {P : Bool → Prop} {sts body orelse : List Stmt} {D : Ends} {i : Nat} {x : Str}
theorem sx_set (nd : X.N.Nodup) (hi : X.N[i]? = some x) (hx : Loc X.env.scope x) (hl : i < Γ.length) (he : EX X G I Γ e A J) (hr : SX X G J (Γ.set i (some A)) sts D)
    (hs : swapsWith e (some (.Name x pos')) pos.line X.env = pure false := by rfl) (hf : X.fn x = true ∨ X.env.scope.names.lookup x = some .local := by first | exact .inl rfl | exact .inr rfl) :
    SX X G I Γ (.Assign [.Name x pos'] e pos :: sts) D := fun σ H k =>
  wB_cons (PS.w (ps_set nd hi hx pe_wE hs hf) (he σ H _ k fun H1 v t1 a1 => hr _ _ ((k.to t1).setv hl a1)))
theorem sx_setE {α : Type} {P : α → Prop} {B : α → Asr} (nd : X.N.Nodup) (hi : X.N[i]? = some x) (hx : Loc X.env.scope x) (hl : i < Γ.length) (he : EX X G I Γ e (exA P B) J) (hr : ∀ y, P y → SX X G J (Γ.set i (some (B y))) sts D)
    (hs : swapsWith e (some (.Name x pos')) pos.line X.env = pure false := by rfl) (hf : X.fn x = true ∨ X.env.scope.names.lookup x = some .local := by first | exact .inl rfl | exact .inr rfl) :
    SX X G I Γ (.Assign [.Name x pos'] e pos :: sts) D := fun σ H k =>
  wB_cons (PS.w (ps_set nd hi hx pe_wE hs hf) (he σ H _ k fun H1 v t1 ⟨y, p, a1⟩ => hr y p _ _ ((k.to t1).setv hl a1)))
theorem sx_par {j : Nat} {y : Str} {px py pt : Pos} {kt k2 pt2} (hc : X.calm = true) (nd : X.N.Nodup) (hi : X.N[i]? = some x) (hj : X.N[j]? = some y) (hij : i ≠ j)
    (hx : X.env.scope.names.lookup x = some .local) (hy : X.env.scope.names.lookup y = some .local) (hl : i < Γ.length) (hl2 : j < Γ.length) (ha : EX X G I Γ a A J) (hb : EX X G J Γ b B K)
    (hr : SX X G K ((Γ.set i (some A)).set j (some B)) sts D)
    (hw : swappedStores [.Tuple [.Name x px, .Name y py] kt pt] (.Tuple [a, b] k2 pt2) X.env = pure (some [x, y]))
    (hs1 : starEach [a, b] X.env = (false, eval a X.env) :: starEach [b] X.env := by rfl) (hs2 : starEach [b] X.env = (false, eval b X.env) :: starEach [] X.env := by rfl)
    (hs : swapsWithSole [.Tuple [.Name x px, .Name y py] kt pt] (.Tuple [a, b] k2 pt2) pos.line X.env = pure false := by rfl) :
    SX X G I Γ (.Assign [.Tuple [.Name x px, .Name y py] kt pt] (.Tuple [a, b] k2 pt2) pos :: sts) D := fun σ H k =>
  wB_cons (PS.w (ps_par hc nd hi hj hij hx hy pa_wA hw hs) (ax_cons ha (ax_cons hb ax_nil hs2) hs1 σ H _ k fun H1 vs t1 ⟨v, r, e1, a1, v2, r2, e2, b1, e3⟩ => by
    subst e3; subst e2; subst e1
    exact ⟨v, v2, rfl, hr _ _ (((k.to t1).setv hl a1).setv (by rw [List.length_set]; exact hl2) b1)⟩))
/-- .. what is drawn at once -/
theorem sx_parE {α β : Type} {P : α → Prop} {R : β → Prop} {A' : α → Asr} {B' : β → Asr} {j : Nat} {y : Str} {px py pt : Pos} {kt k2 pt2} (hc : X.calm = true) (nd : X.N.Nodup) (hi : X.N[i]? = some x) (hj : X.N[j]? = some y) (hij : i ≠ j)
    (hx : X.env.scope.names.lookup x = some .local) (hy : X.env.scope.names.lookup y = some .local) (hl : i < Γ.length) (hl2 : j < Γ.length) (ha : EX X G I Γ a (exA P A') J) (hb : EX X G J Γ b (exA R B') K)
    (hr : ∀ u w, P u → R w → SX X G K ((Γ.set i (some (A' u))).set j (some (B' w))) sts D)
    (hw : swappedStores [.Tuple [.Name x px, .Name y py] kt pt] (.Tuple [a, b] k2 pt2) X.env = pure (some [x, y]))
    (hs1 : starEach [a, b] X.env = (false, eval a X.env) :: starEach [b] X.env := by rfl) (hs2 : starEach [b] X.env = (false, eval b X.env) :: starEach [] X.env := by rfl)
    (hs : swapsWithSole [.Tuple [.Name x px, .Name y py] kt pt] (.Tuple [a, b] k2 pt2) pos.line X.env = pure false := by rfl) :
    SX X G I Γ (.Assign [.Tuple [.Name x px, .Name y py] kt pt] (.Tuple [a, b] k2 pt2) pos :: sts) D := fun σ H k =>
  wB_cons (PS.w (ps_par hc nd hi hj hij hx hy pa_wA hw hs) (ax_cons ha (ax_cons hb ax_nil hs2) hs1 σ H _ k fun H1 vs t1 ⟨v, r, e1, ⟨u, pu, a1⟩, v2, r2, e2, ⟨w, pw, b1⟩, e3⟩ => by
    subst e3; subst e2; subst e1
    exact ⟨v, v2, rfl, hr u w pu pw _ _ (((k.to t1).setv hl a1).setv (by rw [List.length_set]; exact hl2) b1)⟩))
theorem sx_par3 {j l : Nat} {y z : Str} {c : Expr} {C : Asr} {px py pz pt : Pos} {kt k2 pt2} (hc : X.calm = true) (nd : X.N.Nodup) (hi : X.N[i]? = some x) (hj : X.N[j]? = some y) (hk : X.N[l]? = some z) (hij : i ≠ j) (hil : i ≠ l) (hjl : j ≠ l)
    (hx : X.env.scope.names.lookup x = some .local) (hy : X.env.scope.names.lookup y = some .local) (hz : X.env.scope.names.lookup z = some .local) (hl : i < Γ.length) (hl2 : j < Γ.length) (hl3 : l < Γ.length) (ha : EX X G I Γ a A J) (hb : EX X G J Γ b B K) (hcc : EX X G K Γ c C W1)
    (hr : SX X G W1 (((Γ.set i (some A)).set j (some B)).set l (some C)) sts D)
    (hw : swappedStores [.Tuple [.Name x px, .Name y py, .Name z pz] kt pt] (.Tuple [a, b, c] k2 pt2) X.env = pure (some [x, y, z]))
    (hs1 : starEach [a, b, c] X.env = (false, eval a X.env) :: starEach [b, c] X.env := by rfl) (hs2 : starEach [b, c] X.env = (false, eval b X.env) :: starEach [c] X.env := by rfl) (hs3 : starEach [c] X.env = (false, eval c X.env) :: starEach [] X.env := by rfl)
    (hs : swapsWithSole [.Tuple [.Name x px, .Name y py, .Name z pz] kt pt] (.Tuple [a, b, c] k2 pt2) pos.line X.env = pure false := by rfl) :
    SX X G I Γ (.Assign [.Tuple [.Name x px, .Name y py, .Name z pz] kt pt] (.Tuple [a, b, c] k2 pt2) pos :: sts) D := fun σ H k =>
  wB_cons (PS.w (ps_par3 hc nd hi hj hk hij hil hjl hx hy hz pa_wA hw hs) (ax_cons ha (ax_cons hb (ax_cons hcc ax_nil hs3) hs2) hs1 σ H _ k fun H1 vs t1 ⟨v, r, e1, a1, v2, r2, e2, b1, v3, r3, e3, c1, e4⟩ => by
    subst e4; subst e3; subst e2; subst e1
    exact ⟨v, v2, v3, rfl, hr _ _ ((((k.to t1).setv hl a1).setv (by rw [List.length_set]; exact hl2) b1).setv (by rw [List.length_set, List.length_set]; exact hl3) c1)⟩))
/-- a, b = e, e a tuple -/
theorem sx_tup2 {j : Nat} {y : Str} {px py pt : Pos} {kt} (hc : X.calm = true) (nd : X.N.Nodup) (hi : X.N[i]? = some x) (hj : X.N[j]? = some y) (hx : Loc X.env.scope x) (hy : Loc X.env.scope y) (hl : i < Γ.length) (hl2 : j < Γ.length)
    (hg : PG X (.Tuple [.Name x px, .Name y py] kt pt) (gTup X.K 2 (gCons (gName i) (gCons (gName j) gNil)))) (he : EX X G I Γ e (isTup X.K [A, B]) J) (hr : SX X G J ((Γ.set i (some A)).set j (some B)) sts D)
    (hs : swapsWithSole [.Tuple [.Name x px, .Name y py] kt pt] e pos.line X.env = pure false := by rfl) (hw : swappedStores [.Tuple [.Name x px, .Name y py] kt pt] e X.env = pure none := by rfl)
    (h1 : (assignEach [.Tuple [.Name x px, .Name y py] kt pt] X.env).map (·.2) = [assign (.Tuple [.Name x px, .Name y py] kt pt) X.env] := by rfl) :
    SX X G I Γ (.Assign [.Tuple [.Name x px, .Name y py] kt pt] e pos :: sts) D := fun σ H k =>
  wB_cons (PS.w (ps_asg pe_wE hg hs hw h1) (he σ H _ k fun H1 v t1 ⟨p, ws, e1, hq, v1, r1, e2, a1, v2, r2, e3, b1, e4⟩ => by
    subst e4; subst e3; subst e2; subst e1
    exact ⟨p, _, rfl, SqT.mono fz_sub hq, rfl, v1, _, rfl, v2, _, rfl, rfl, hr _ _ (((k.to t1).setv hl a1).setv (by rw [List.length_set]; exact hl2) b1)⟩))
theorem sx_expr (he : EX X G I Γ e A J) (hr : SX X G J Γ sts D) (hs : swapsWith e none pos.line X.env = pure false := by rfl) : SX X G I Γ (.Expr e pos :: sts) D := fun σ H k =>
  wB_cons (PS.w (ps_expr pe_wE hs) (he σ H _ k fun H1 v t1 a1 => hr _ _ (k.to t1)))
theorem sx_nil (h : ∀ σ H, G.Ok I Γ σ H → D.nx σ H) : SX X G I Γ [] D := fun σ H k => wB_nil (h σ H k)
theorem sx_ret (he : EX X G I Γ e A J) (hr : Ret G J A D) : SX X G I Γ (.Return (some e) pos :: sts) D := fun σ H k =>
  wB_cons (PS.w (ps_ret pe_wE) (he σ H _ k fun H1 v t1 a1 => hr Γ σ H1 v (k.to t1) a1))
theorem sx_if {c : Expr} (hc : TX X G I Γ c P J) (ht : P true → SX X G J Γ body { D with nx := wB X sts D }) (hf : P false → SX X G J Γ orelse { D with nx := wB X sts D }) : SX X G I Γ (.If c body orelse pos :: sts) D := fun σ H k =>
  wB_cons (PS.w (ps_if pt_wT pss_wB pss_wB) (hc σ H _ k fun H1 b t1 p => by
    cases b with
    | true => rw [if_pos rfl]; exact ht p _ _ (k.to t1)
    | false => rw [if_neg Bool.false_ne_true]; exact hf p _ _ (k.to t1)))
/-- a branch's end: what stands behind the if -/
theorem sx_fall {D' : Ends} (h : SX X G I Γ sts D) (e : D'.nx = wB X sts D) : SX X G I Γ [] D' := sx_nil fun σ H k => by rw [e]; exact h σ H k
/-- an if that only hands back, or else goes on -/
theorem sx_ifR {c : Expr} (hc : TX X G I Γ c P J) (ht : P true → SX X G J Γ body { D with nx := wB X sts D }) (hf : P false → SX X G J Γ sts D) : SX X G I Γ (.If c body [] pos :: sts) D :=
  sx_if hc ht fun p => sx_fall (hf p) rfl
end

/-! ### a def by its body -/
section
variable {Pr : Program} {w : World} {K : PySem.W.Frag} {mg : Str → Option Value} {base : Heap} {x qual : Str} {st : Stmt} {f : Addr} {fd : FuncData} {N ps : List Str} {k : Nat}
abbrev cxF (Pr : Program) (w : World) (K : PySem.W.Frag) (mg : Str → Option Value) (base : Heap) (N : List Str) (qual : Str) (sc : Scope) (f : Addr) (cdv : Value) (A : Around) (outer : List Env) (s : Shared) (H : Hp) (E : XK) : Cx :=
  (cxOf CX0 Pr w K mg base N qual sc f cdv A outer s H E).nox
abbrev retE (Q : VK) : Ends := { nx := fun _ H' => Q .non H', rt := Q }
theorem start_sat {As : List Asr} {F : Hp} {vs : List V} {N : List Str} (h : AllA As F vs) : Sat (As.map some ++ List.replicate (N.length - As.length) none) F (start N vs) := fun i A e => by
  have hl := h.len
  by_cases hi : i < As.length
  · rw [List.getElem?_append_left (by rw [List.length_map]; exact hi), List.getElem?_map] at e
    cases q : As[i]? with
    | none => rw [q] at e; cases e
    | some B =>
      rw [q] at e
      have e2 : B = A := by simpa using e
      subst e2
      obtain ⟨v, h1, h2⟩ := h.get q
      refine ⟨v, ?_, h2⟩
      unfold start
      rw [List.getElem?_append_left (by rw [List.length_map]; omega), List.getElem?_map, h1]
      rfl
  · rw [List.getElem?_append_right (by rw [List.length_map]; omega), List.getElem?_replicate] at e
    split at e <;> cases e
theorem fn_pure {ι : Type} {dom : ι → List Asr} {ok : ι → Prop} {cod : ι → Asr} (F : Fun K x qual st f fd) (S : FnScope N ps (defScope st)) (hl : ∀ i, (dom i).length = ps.length)
    (h : ∀ (cdv : Value) (A : Around) (outer : List Env) (s : Shared) (H : Hp) (E : XK) (U : Addr → Prop) (i : ι) (Q : VK), Room k (A.deeper (envOfC qual (defScope st) s.heap.objs.size f cdv)) → ok i → Ret (gP U H) (ivT _) (cod i) (retE Q) →
      SX (cxF Pr w K mg base N qual (defScope st) f cdv A outer s H E) (gP U H) (ivT _) ((dom i).map some ++ List.replicate (N.length - ps.length) none) (defBody st) (retE Q)) :
    FnOk Pr w K mg base CX0 (k + 1) f fd ps (spF dom ok cod) := by
  have hpl : ps.length ≤ N.length := by have := congrArg List.length S.pre; rw [List.length_take] at this; omega
  refine F.ok S (fun vs H Q E ⟨M, i, _, _, r, _⟩ => by rw [r.len, hl]) fun cdv A outer s H vs Q E hr ⟨M, i, l, o, r, q⟩ => ⟨_, pss_wB, ?_⟩
  refine h cdv A outer s H E M i _ hr o ?_ _ _ ⟨fun a o _ e => e, fun a u => ?_, True.intro, ?_, ?_⟩
  · intro Γ σ H' v kk a
    refine q H' v (fun a o e => kk.frame a o (fun z => z) e) (Asr.mono _ (fz_less fun a u => ?_) a)
    exact .inr u
  · rcases u with u | u
    · exact u.elim
    · exact l a u
  · rw [← hl i]
    refine start_sat (r.mono (fz_less fun a u => ?_))
    rcases u with u | u
    · exact u.elim
    · exact u
  · show (start N vs).length = _
    unfold start
    rw [List.length_append, List.length_append, List.length_map, List.length_map, List.length_replicate, List.length_replicate, r.len, hl]
end

/-! ### what is walked -/
structure Walks (U : Addr → Prop) (J : It) (As : List Asr) (H1 : Hp) : Prop where
  go : ∀ (U' : Addr → Prop) H2, Sm (fz U H1) (fz U' H2) → ∀ i, i < As.length → J.go i H2
  stop : ∀ (U' : Addr → Prop) H2, Sm (fz U H1) (fz U' H2) → ∀ i, As.length ≤ i → J.stop i H2
  yld : ∀ (U' : Addr → Prop) H2, Sm (fz U H1) (fz U' H2) → (∀ a, U' a → H2 a ≠ none) → ∀ i x H3 A, As[i]? = some A → J.yld i H2 x H3 → Sm H2 H3 ∧ A.p (fz U' H3) x
def IX (X : Cx) (G : Gx) (I : Iv G.M) (Γ : Slots) (tg iter : Expr) (As : List Asr) (J : Iv G.M) : Prop := ∃ wi, PI X tg iter wi ∧ ∀ (σ : St) (H : Hp) (R : It → Hp → Prop), G.Ok I Γ σ H → (∀ T H1, G.To J H H1 → Walks G.U T As H1 → R T H1) → wi σ H R
section
variable {X : Cx} {G : Gx} {I J K W1 : Iv G.M} {Γ : Slots} {tg e a b : Expr} {A B : Asr} {As Bs : List Asr} {pos p : Pos}
theorem walks_list {U : Addr → Prop} {K : PySem.W.Frag} {H1 : Hp} {q : Addr} {vs : List V} (h : SqL K (fz U H1) q vs) (r : AllA As (fz U H1) vs) : Walks U (Itl K q) As H1 := by
  refine ⟨fun U' H2 s i hi => ?_, fun U' H2 s i hi => ⟨vs, SqL.mono fz_sub (SqL.mono s h), by rw [r.len]; exact hi⟩, fun U' H2 s l i x H3 A e y => ?_⟩
  · obtain ⟨v, e, _⟩ := r.get (List.getElem?_eq_getElem hi)
    exact ⟨vs, v, SqL.mono fz_sub (SqL.mono s h), e⟩
  · obtain ⟨rfl, y⟩ := y
    obtain ⟨v, e1, a1⟩ := r.get e
    have e2 := y vs (SqL.mono fz_sub (SqL.mono s h))
    rw [e1] at e2; cases e2
    exact ⟨Sm.rfl', A.mono s a1⟩
theorem ix_list' (he : EX X G I Γ e (isLst X.K As) J) : IX X G I Γ tg e As J := ⟨_, pi_list pe_wE, fun σ H R k q => he σ H _ k fun H1 v t1 ⟨a, vs, e1, h, r⟩ => by
  subst e1
  exact ⟨a, rfl, ⟨vs, SqL.mono fz_sub h⟩, q _ _ t1 (walks_list h r)⟩⟩
theorem ix_tup' (he : EX X G I Γ e (isTup X.K As) J) : IX X G I Γ tg e As J := ⟨_, pi_tup pe_wE, fun σ H R k q => he σ H _ k fun H1 v t1 ⟨a, vs, e1, h, r⟩ => by
  subst e1
  refine ⟨a, rfl, ⟨vs, SqT.mono fz_sub h⟩, q _ _ t1 ⟨fun U' H2 s i hi => ?_, fun U' H2 s i hi => ⟨vs, SqT.mono fz_sub (SqT.mono s h), by rw [r.len]; exact hi⟩, fun U' H2 s l i x H3 A e y => ?_⟩⟩
  · obtain ⟨v, e, _⟩ := r.get (List.getElem?_eq_getElem hi)
    exact ⟨vs, v, SqT.mono fz_sub (SqT.mono s h), e⟩
  · obtain ⟨rfl, y⟩ := y
    obtain ⟨v, e1, a1⟩ := r.get e
    have e2 := y vs (SqT.mono fz_sub (SqT.mono s h))
    rw [e1] at e2; cases e2
    exact ⟨Sm.rfl', A.mono s a1⟩⟩
def rangeA (n : Nat) : List Asr := (List.range n).map fun i => aInt ((i : Nat) : Int)
theorem ix_range {n : Nat} (hg : Gl X "range") (hm : X.mg "range" = none) (he : EX X G I Γ e (aInt (n : Int)) J) (hn : n ≤ 100000) (hs : starEach [e] X.env = [(false, eval e X.env)] := by rfl) : IX X G I Γ tg (.Call (.Name "range" p) [e] [] pos) (rangeA n) J :=
  ⟨_, pi_range1 hg hm pa_wA hs, fun σ H R k q => ax_cons he ax_nil hs σ H _ k fun H1 vs t1 r => by
    refine ⟨(n : Int), AllA.v1 r, by omega, by omega, q _ _ t1 ?_⟩
    rw [Int.toNat_natCast]
    have hl : (rangeA n).length = n := by unfold rangeA; rw [List.length_map, List.length_range]
    refine ⟨fun U' H2 s i hi => by rw [hl] at hi; exact hi, fun U' H2 s i hi => by rw [hl] at hi; exact hi, fun U' H2 s l i x H3 A e y => ?_⟩
    obtain ⟨rfl, rfl⟩ := y
    refine ⟨Sm.rfl', ?_⟩
    unfold rangeA at e
    rw [List.getElem?_map] at e
    by_cases hi : i < n
    · rw [List.getElem?_range hi] at e
      cases e
      show V.int _ = V.int _
      congr 1; omega
    · rw [List.getElem?_eq_none (by rw [List.length_range]; omega)] at e; cases e⟩
def zipA (K : PySem.W.Frag) (As Bs : List Asr) : List Asr := List.zipWith (fun A B => isTup K [A, B]) As Bs
theorem ix_zip {elts : List Expr} {kk : Nat} {tpos : Pos} (hg : Gl X "zip") (hm : X.mg "zip" = none) (ha : EX X G I Γ a (isLst X.K As) J) (hb : EX X G J Γ b (isLst X.K Bs) K)
    (hs : starEach [a, b] X.env = (false, eval a X.env) :: starEach [b] X.env := by rfl) (hs2 : starEach [b] X.env = (false, eval b X.env) :: starEach [] X.env := by rfl) (hpl : (backTo pos (starEach [b] X.env)).any (·.1) = false := by rfl) :
    IX X G I Γ (.Tuple elts kk tpos) (.Call (.Name "zip" p) [a, b] [] pos) (zipA X.K As Bs) K :=
  ⟨_, pi_zip hg hm pa_wA hs hpl, fun σ H R k q => ax_cons ha (ax_cons hb ax_nil hs2) hs σ H _ k fun H1 vs t1 ⟨v, r, e1, ⟨c, xs, e2, h1, r1⟩, v2, r2, e3, ⟨d, ys, e4, h2, r2'⟩, e5⟩ => by
    subst e5; subst e4; subst e3; subst e2; subst e1
    refine ⟨c, d, xs, ys, rfl, SqL.mono fz_sub h1, SqL.mono fz_sub h2, q _ _ t1 ?_⟩
    have hl : (zipA X.K As Bs).length = min As.length Bs.length := by unfold zipA; rw [List.length_zipWith]
    refine ⟨fun U' H2 s i hi => ?_, fun U' H2 s i hi => ?_, fun U' H2 s l i x H3 A e y => ?_⟩
    · rw [hl] at hi
      obtain ⟨x, ex, _⟩ := r1.get (List.getElem?_eq_getElem (i := i) (by omega))
      obtain ⟨y, ey, _⟩ := r2'.get (List.getElem?_eq_getElem (i := i) (by omega))
      exact ⟨xs, ys, x, y, SqL.mono fz_sub (SqL.mono s h1), SqL.mono fz_sub (SqL.mono s h2), ex, ey⟩
    · rw [hl] at hi
      refine ⟨xs, ys, SqL.mono fz_sub (SqL.mono s h1), SqL.mono fz_sub (SqL.mono s h2), ?_⟩
      rw [r1.len, r2'.len]; omega
    · obtain ⟨T, x', y', rfl, nT, rfl, f1, f2⟩ := y
      unfold zipA at e
      rw [List.getElem?_zipWith] at e
      cases qa : As[i]? with
      | none => rw [qa] at e; cases e
      | some Aa =>
        cases qb : Bs[i]? with
        | none => rw [qa, qb] at e; cases e
        | some Bb =>
          rw [qa, qb] at e
          cases e
          obtain ⟨u, eu, au⟩ := r1.get qa
          obtain ⟨w, ew, aw⟩ := r2'.get qb
          have g1 := f1 xs (SqL.mono fz_sub (SqL.mono s h1))
          have g2 := f2 ys (SqL.mono fz_sub (SqL.mono s h2))
          rw [eu] at g1; cases g1
          rw [ew] at g2; cases g2
          have nU : ¬ U' T := fun m => l T m nT
          have s3 : Sm (fz U' H2) (fz U' (upd H2 T (.tup [x', y']))) := fun z o ez => by
            obtain ⟨nz, ez⟩ := fz_some ez
            rw [fz_neg nz]; exact sm_upd nT z o ez
          refine ⟨sm_upd nT, T, [x', y'], rfl, .inl (.inl ?_), x', [y'], rfl, Aa.mono (Sm.trans' s s3) au, y', [], rfl, Bb.mono (Sm.trans' s s3) aw, rfl⟩
          rw [fz_neg nU]; exact upd_same⟩
def enumA (K : PySem.W.Frag) (As : List Asr) : List Asr := List.zipWith (fun i A => isTup K [aInt ((i : Nat) : Int), A]) (List.range As.length) As
theorem ix_enum {elts : List Expr} {kk : Nat} {tpos : Pos} (hg : Gl X "enumerate") (hm : X.mg "enumerate" = none) (ha : EX X G I Γ a (isLst X.K As) J) (hs : starEach [a] X.env = [(false, eval a X.env)] := by rfl) :
    IX X G I Γ (.Tuple elts kk tpos) (.Call (.Name "enumerate" p) [a] [] pos) (enumA X.K As) J :=
  ⟨_, pi_enum hg hm pa_wA hs, fun σ H R k q => ax_cons ha ax_nil hs σ H _ k fun H1 vs t1 ⟨v, r, e1, ⟨c, xs, e2, h1, r1⟩, e5⟩ => by
    subst e5; subst e2; subst e1
    refine ⟨c, xs, rfl, SqL.mono fz_sub h1, q _ _ t1 ?_⟩
    have hl : (enumA X.K As).length = As.length := by unfold enumA; rw [List.length_zipWith, List.length_range]; omega
    refine ⟨fun U' H2 s i hi => ?_, fun U' H2 s i hi => ?_, fun U' H2 s l i x H3 A e y => ?_⟩
    · rw [hl] at hi
      obtain ⟨x, ex, _⟩ := r1.get (List.getElem?_eq_getElem (i := i) (by omega))
      exact ⟨xs, x, SqL.mono fz_sub (SqL.mono s h1), ex⟩
    · rw [hl] at hi
      exact ⟨xs, SqL.mono fz_sub (SqL.mono s h1), by rw [r1.len]; omega⟩
    · obtain ⟨T, x', rfl, nT, rfl, f1⟩ := y
      unfold enumA at e
      rw [List.getElem?_zipWith] at e
      cases qa : As[i]? with
      | none => rw [qa] at e; cases qi : (List.range As.length)[i]? <;> rw [qi] at e <;> cases e
      | some Aa =>
        have hi : i < As.length := by
          rcases Nat.lt_or_ge i As.length with z | z
          · exact z
          · rw [List.getElem?_eq_none z] at qa; cases qa
        rw [qa, List.getElem?_range hi] at e
        cases e
        obtain ⟨u, eu, au⟩ := r1.get qa
        have g1 := f1 xs (SqL.mono fz_sub (SqL.mono s h1))
        rw [eu] at g1; cases g1
        have nU : ¬ U' T := fun m => l T m nT
        have s3 : Sm (fz U' H2) (fz U' (upd H2 T (.tup [.int (i : Nat), x']))) := fun z o ez => by
          obtain ⟨nz, ez⟩ := fz_some ez
          rw [fz_neg nz]; exact sm_upd nT z o ez
        refine ⟨sm_upd nT, T, [.int (i : Nat), x'], rfl, .inl (.inl ?_), .int (i : Nat), [x'], rfl, rfl, x', [], rfl, Aa.mono (Sm.trans' s s3) au, rfl⟩
        rw [fz_neg nU]; exact upd_same⟩
theorem ix_rev (hg : Gl X "reversed") (hm : X.mg "reversed" = none) (ha : EX X G I Γ a (isLst X.K As) J) (hs : starEach [a] X.env = [(false, eval a X.env)] := by rfl) : IX X G I Γ tg (.Call (.Name "reversed" p) [a] [] pos) As.reverse J :=
  ⟨_, pi_reversed hg hm pa_wA hs, fun σ H R k q => ax_cons ha ax_nil hs σ H _ k fun H1 vs t1 ⟨v, r, e1, ⟨c, xs, e2, h1, r1⟩, e5⟩ => by
    subst e5; subst e2; subst e1
    refine ⟨c, xs, rfl, SqL.mono fz_sub h1, q _ _ t1 ?_⟩
    have hn := r1.len
    refine ⟨fun U' H2 s i hi => ?_, fun U' H2 s i hi => ?_, fun U' H2 s l i x H3 A e y => ?_⟩
    · rw [List.length_reverse] at hi
      obtain ⟨x, ex, _⟩ := r1.get (List.getElem?_eq_getElem (i := xs.length - 1 - i) (by omega))
      exact ⟨by omega, xs, x, SqL.mono fz_sub (SqL.mono s h1), ex⟩
    · rw [List.length_reverse] at hi
      show xs.length ≤ i
      omega
    · obtain ⟨rfl, f1⟩ := y
      have hi : i < As.length := by
        rcases Nat.lt_or_ge i As.length with z | z
        · exact z
        · rw [List.getElem?_eq_none (by rw [List.length_reverse]; exact z)] at e; cases e
      rw [List.getElem?_reverse hi] at e
      obtain ⟨u, eu, au⟩ := r1.get e
      have g1 := f1 xs (SqL.mono fz_sub (SqL.mono s h1))
      rw [hn, eu] at g1; cases g1
      exact ⟨Sm.rfl', A.mono s au⟩⟩
theorem sx_end {X : Cx} {G : Gx} {I : Iv G.M} {Γ : Slots} {Q : VK} {A : Asr} (h : Ret G I A (retE Q)) (a : ∀ F, A.p F .non) : SX X G I Γ [] (retE Q) := sx_nil fun σ H k => h Γ σ H .non k (a _)
theorem sx_retEq {X : Cx} {G : Gx} {I J : Iv G.M} {Γ : Slots} {D : Ends} {e : Expr} {A B : Asr} {pos : Pos} {sts : List Stmt} (he : EX X G I Γ e A J) (hr : Ret G J B D) (h : A = B) : SX X G I Γ (.Return (some e) pos :: sts) D := sx_ret he (by rw [h]; exact hr)
end
end L2.PL
namespace L2.PL
open PySem PySem.Spec PyProof.Rows
theorem wipe_get {σ : St} : ∀ {vs : List Nat} {j : Nat}, (wipe σ vs)[j]? = if j ∈ vs ∧ j < σ.length then some none else σ[j]?
  | [], j => by unfold wipe; rw [if_neg (by simp)]
  | v :: vs, j => by
    unfold wipe
    by_cases e : v = j
    · subst e
      by_cases h : v < σ.length
      · rw [List.getElem?_set_self (by rw [wipe_length]; exact h), if_pos ⟨List.mem_cons_self, h⟩]
      · rw [List.getElem?_eq_none (by rw [List.length_set, wipe_length]; omega), if_neg (fun z => h z.2), List.getElem?_eq_none (by omega)]
    · rw [List.getElem?_set_ne e, wipe_get]
      have : (j ∈ v :: vs) ↔ j ∈ vs := by rw [List.mem_cons]; exact ⟨fun h => h.resolve_left fun z => e z.symm, .inr⟩
      simp only [this]
theorem wipe_eq {σ τ : St} {vs : List Nat} (hl : σ.length = τ.length) (h : ∀ j, j ∉ vs → σ[j]? = τ[j]?) : wipe σ vs = wipe τ vs := by
  apply List.ext_getElem?
  intro j
  rw [wipe_get, wipe_get, hl]
  by_cases e : j ∈ vs
  · by_cases z : j < τ.length
    · rw [if_pos ⟨e, z⟩, if_pos ⟨e, z⟩]
    · rw [if_neg (fun w => z w.2), if_neg (fun w => z w.2), List.getElem?_eq_none (by omega), List.getElem?_eq_none (by omega)]
  · rw [if_neg (fun w => e w.1), if_neg (fun w => e w.1)]; exact h j e
theorem wipe_wipe {σ : St} {vs : List Nat} : wipe (wipe σ vs) vs = wipe σ vs := wipe_eq (wipe_length _ _) fun j h => by rw [wipe_get, if_neg (fun w => h w.1)]
/-- what a target does -/
def GSem (U : Addr → Prop) (g : TG) (A : Asr) (Γ Γ' : Slots) (vs : List Nat) : Prop := ∀ (v : V) (σ : St) (H : Hp) (Q : St → Hp → Prop), Sat Γ (fz U H) σ → σ.length = Γ.length → A.p (fz U H) v →
  (∀ σ', Sat Γ' (fz U H) σ' → σ'.length = Γ'.length → (∀ j, j ∉ vs → σ'[j]? = σ[j]?) → Q σ' H) → g v σ H Q
theorem gs_name {U : Addr → Prop} {A : Asr} {Γ : Slots} {i : Nat} (hi : i < Γ.length) : GSem U (gName i) A Γ (Γ.set i (some A)) [i] := fun v σ H Q s l a q =>
  q _ (s.set (by omega) a) (by rw [List.length_set, List.length_set]; exact l) fun j hj => by rw [List.getElem?_set_ne (fun e => hj (by rw [e]; exact List.mem_cons_self))]
theorem gs_tup2 {U : Addr → Prop} {K : PySem.W.Frag} {A B : Asr} {Γ : Slots} {i j : Nat} (hi : i < Γ.length) (hj : j < Γ.length) : GSem U (gTup K 2 (gCons (gName i) (gCons (gName j) gNil))) (isTup K [A, B]) Γ ((Γ.set i (some A)).set j (some B)) [i, j] :=
  fun v σ H Q s l ⟨p, ws, e1, h, v1, r1, e2, a1, v2, r2, e3, b1, e4⟩ q => by
    subst e4; subst e3; subst e2; subst e1
    refine ⟨p, _, rfl, SqT.mono fz_sub h, rfl, v1, _, rfl, v2, _, rfl, rfl, q _ ((s.set (by omega) a1).set (by rw [List.length_set]; omega) b1) (by simp [l]) fun k hk => ?_⟩
    have h1 : i ≠ k := fun e => hk (by rw [e]; simp)
    have h2 : j ≠ k := fun e => hk (by rw [e]; simp)
    rw [List.getElem?_set_ne h2, List.getElem?_set_ne h1]
/-- the way over a list, one new list -/
theorem lc_reads {G : Gx} {I : Iv G.M} (Iz : Nat → Iv G.M) {Γ : Slots} {As : List Asr} {vs : List Nat} {wi : TI} {g : TG} {tt : TT} {te : TE} (Γk : Nat → Slots) (Rk : Nat → List Asr)
    (hi : ∀ (σ : St) (H : Hp) (R : It → Hp → Prop), G.Ok I Γ σ H → (∀ T H1, G.To (Iz 0) H H1 → Walks G.U T As H1 → R T H1) → wi σ H R)
    (hw : ∀ j ∈ vs, ∀ A, Γ[j]? ≠ some (some A)) (h0 : Rk 0 = []) (hz : As.length ≤ 100000) (hR : ∀ i, (Rk i).length ≤ i)
    (hΓ : ∀ (D : Addr) k A, As[k]? = some A → (Γk k).length = Γ.length) (hg : ∀ D k A, As[k]? = some A → GSem (G.lk D).U g A Γ (Γk k) vs)
    (hs : ∀ D k A, As[k]? = some A → ∀ (σ : St) (H : Hp) (Q : Bool → Hp → Prop), (G.lk D).Ok (Iz k) (Γk k) σ H →
      ((∀ B H' T, Rk (k + 1) = Rk k ++ [B] → (G.lk D).To T H H' → (∀ Q' : VK, (∀ H'' v, (G.lk D).To (Iz (k + 1)) H' H'' → B.p (fz (G.lk D).U H'') v → Q' v H'') → te σ H' Q') → Q true H') ∧ (∀ H', Rk (k + 1) = Rk k → (G.lk D).To (Iz (k + 1)) H H' → Q false H')) → tt σ H Q) :
    ∀ (σ : St) (H : Hp) (Q : VK), G.Ok I Γ σ H → (∀ H' D acc, G.To (Iz As.length) H H' → H D = none → H' D = some (.lst acc) → AllA (Rk As.length) (fz (G.lk D).U H') acc → Q (.ref D) H') → tLc wi g tt te vs σ H Q := by
  intro σ H Q k q
  refine hi σ H _ k fun J H1 t1 wk D hD => ?_
  have k1 := k.to t1
  have nU : ¬ G.U D := fun m => t1.live D m hD
  have nM : ¬ G.M D := fun m => nU (.inl m)
  have lkU : ∀ {a}, (G.lk D).U a ↔ G.U a ∨ a = D := Gx.lk_U
  have f01 : Sm (fz G.U H1) (fz (G.lk D).U H1) := fun a o e => by
    obtain ⟨n, e⟩ := fz_some e
    rw [fz_neg fun z => (lkU.mp z).elim n fun z => by rw [z, hD] at e; cases e]; exact e
  let Pv : Nat → Hp → Prop := fun i H2 => Sm (fz G.U H1) (fz (G.lk D).U H2) ∧ (∀ a o, ¬ G.M a → a ≠ D → H1 a = some o → H2 a = some o) ∧ (∀ a, G.U a → H2 a ≠ none) ∧ (Iz i).p H2 ∧ ∃ acc, H2 D = some (.lst acc) ∧ AllA (Rk i) (fz (G.lk D).U H2) acc
  have lkLess : ∀ H2, Sm (fz (G.lk D).U H2) (fz G.U H2) := fun H2 => fz_less fun a z => lkU.mpr (.inl z)
  refine ⟨fun i m H2 => m = As.length - i ∧ i ≤ As.length ∧ Pv i H2, ⟨As.length, by omega, Nat.zero_le _, ?_⟩, ?_⟩
  · have u : Sm (fz (G.lk D).U H1) (fz (G.lk D).U (upd H1 D (.lst []))) := fun a o e => by
      obtain ⟨n, e⟩ := fz_some e
      rw [fz_neg n]; exact sm_upd hD a o e
    have t2 := Gx.To.new (o := .lst []) t1.live t1.inv hD
    exact ⟨Sm.trans' f01 u, fun a o _ _ e => sm_upd hD a o e, t2.live, t2.inv, [], upd_same, by rw [h0]; rfl⟩
  · rintro i m H2 ⟨rfl, hle, s2, kp, lv, iv, acc, eD, ra⟩
    have lvL : ∀ a, (G.lk D).U a → H2 a ≠ none := fun a m => (lkU.mp m).elim (lv a) fun z => by rw [z, eD]; exact fun w => nomatch w
    by_cases hlt : i < As.length
    · have eA := List.getElem?_eq_getElem hlt
      refine .inr ⟨wk.go _ H2 s2 i hlt, Pv (i + 1), fun H' p' => ⟨As.length - (i + 1), by omega, rfl, hlt, p'⟩, fun x H3 y => ?_⟩
      obtain ⟨s3, ax⟩ := wk.yld _ H2 s2 lvL i x H3 _ eA y
      have eD3 : H3 D = some (.lst acc) := s3 D _ eD
      have lv3 : ∀ a, G.U a → H3 a ≠ none := fun a m => by
        cases z : H2 a with
        | none => exact absurd z (lv a m)
        | some o => rw [s3 a o z]; exact fun w => nomatch w
      have e3 : ∀ a, G.M a → H3 a = H2 a := fun a m => by
        cases z : H2 a with
        | none => exact absurd z (lv a (.inl m))
        | some o => exact s3 a o z
      have iv3 : (Iz i).p H3 := (Iz i).dep H2 H3 e3 iv
      have sm3 : Sm (fz (G.lk D).U H2) (fz (G.lk D).U H3) := fun a o e => by
        obtain ⟨n, e⟩ := fz_some e
        rw [fz_neg n]; exact s3 a o e
      have lvL3 : ∀ a, (G.lk D).U a → H3 a ≠ none := fun a m => (lkU.mp m).elim (lv3 a) fun z => by rw [z, eD3]; exact fun w => nomatch w
      have ok3 : ∀ {Γ' : Slots} {σ' : St}, Sat Γ' (fz (G.lk D).U H3) σ' → σ'.length = Γ'.length → (G.lk D).Ok (Iz i) Γ' σ' H3 := fun st ln =>
        ⟨fun a o n e => s3 a o (by
          have e : G.H0 a = some o := e
          have e1 := k1.frame a o n e
          exact kp a o (fun z => (G.fr a z).elim n fun w => by rw [w] at e; cases e) (fun z => by rw [z, hD] at e1; cases e1) e1), lvL3, iv3, st, ln⟩
      have sat3 : Sat Γ (fz (G.lk D).U H3) (wipe σ vs) := fun j A e => by
        obtain ⟨v, h1, h2⟩ := k1.sat j A e
        refine ⟨v, ?_, A.mono (Sm.trans' s2 sm3) h2⟩
        rw [wipe_get, if_neg (fun z => hw j z.1 A e)]; exact h1
      refine hg D i _ eA x (wipe σ vs) H3 _ sat3 (by rw [wipe_length]; exact k1.len) ax fun σ2 st2 ln2 kp2 => ?_
      refine ⟨?_, hs D i _ eA σ2 H3 _ (ok3 st2 ln2) ⟨fun B H4 T eR t4 te4 => ?_, fun H4 eR t4 => ?_⟩⟩
      · rw [← wipe_wipe (σ := σ)]
        exact wipe_eq (by rw [ln2, hΓ D i _ eA, wipe_length, ← k1.len]) kp2
      · rw [if_pos rfl]
        refine te4 _ fun H5 yv t5 by5 => ?_
        have t45 := t4.trans t5
        have eD5 : H5 D = some (.lst acc) := t45.keep D _ nM eD3
        have fzD : fz (G.lk D).U (upd H5 D (.lst (acc ++ [yv]))) = fz (G.lk D).U H5 := by
          funext a
          by_cases z : (G.lk D).U a
          · rw [fz_pos z, fz_pos z]
          · rw [fz_neg z, fz_neg z, upd_ne fun w => z (lkU.mpr (.inr w))]
        refine ⟨acc, eD5, Nat.lt_of_le_of_lt (Nat.le_trans (by rw [ra.len]; exact hR i) (Nat.le_of_lt hlt)) (Nat.lt_of_le_of_lt hz (by rw [sizeLine_eq]; omega)), ?_, fun a o n nd e => ?_, fun a m => ?_, ?_, acc ++ [yv], upd_same, ?_⟩
        · rw [fzD]; exact Sm.trans' s2 (Sm.trans' sm3 t45.fz)
        · rw [upd_ne nd]; exact t45.keep a o n (s3 a o (kp a o n nd e))
        · by_cases z : a = D
          · rw [z, upd_same]; exact fun w => nomatch w
          · rw [upd_ne z]; exact t45.live a (lkU.mpr (.inl m))
        · exact (Iz (i + 1)).dep H5 _ (fun a m => upd_ne fun z => nM (by rw [← z]; exact m)) t45.inv
        · rw [fzD, eR]
          exact (ra.mono (Sm.trans' sm3 t45.fz)).app (AllA.one by5)
      · rw [if_neg Bool.false_ne_true]
        refine ⟨Sm.trans' s2 (Sm.trans' sm3 t4.fz), fun a o n nd e => t4.keep a o n (s3 a o (kp a o n nd e)), fun a m => t4.live a (lkU.mpr (.inl m)), t4.inv, acc, t4.keep D _ nM eD3, ?_⟩
        rw [eR]
        exact ra.mono (Sm.trans' sm3 t4.fz)
    · have e : i = As.length := by omega
      subst e
      have hD0 : H D = none := by
        cases z : H D with
        | none => rfl
        | some o =>
          by_cases m : G.M D
          · exact absurd m nM
          · have := t1.keep D o m z
            rw [hD] at this; cases this
      refine .inl ⟨wk.stop _ H2 s2 _ (Nat.le_refl _), q H2 D acc ⟨fun a o n e => ?_, lv, iv⟩ hD0 eD ra⟩
      have e1 := t1.keep a o n e
      exact kp a o n (fun z => by rw [z, hD] at e1; cases e1) e1

/-! ### comprehensions -/
def LX (X : Cx) (G : Gx) (I : Iv G.M) (Γ : Slots) (elt tg iter : Expr) (ifs : List Expr) (scope : Scope) (R : List Asr) (J : Iv G.M) : Prop := ∃ (wi : TI) (g : TG) (tt : TT) (te : TE) (own : List (Str × Nat)), PI X tg iter wi ∧ BlkOk X.N X.env.scope scope own ∧
  (∀ (s : Shared) (H : Hp) (C : Addr) (cl : List (Str × Addr)) (fp : List Addr), PG (X.blk s H scope (compEnvC scope cl C X.env) fp) tg g) ∧ (∀ (s : Shared) (H : Hp) (C : Addr) (cl : List (Str × Addr)) (fp : List Addr), PTs (X.blk s H scope (compEnvC scope cl C X.env) fp) ifs tt) ∧
  (∀ (s : Shared) (H : Hp) (C : Addr) (cl : List (Str × Addr)) (fp : List Addr), PE (X.blk s H scope (compEnvC scope cl C X.env) fp) elt te) ∧
  ∀ (σ : St) (H : Hp) (Q : VK), G.Ok I Γ σ H → (∀ H' D acc, G.To J H H' → H D = none → H' D = some (.lst acc) → AllA R (fz (G.lk D).U H') acc → Q (.ref D) H') → tLc wi g tt te (own.map (·.2)) σ H Q
section
variable {X : Cx} {G : Gx} {I J K : Iv G.M} {Γ : Slots} {elt tg iter c : Expr} {ifs : List Expr} {scope : Scope} {As Cs : List Asr} {pos spos py : Pos} {sts : List Stmt} {D : Ends} {i : Nat} {y : Str}
theorem new_of {σ : St} {H H' : Hp} {D : Addr} {acc : List V} (k : G.Ok I Γ σ H) (n : H D = none) (e : H' D = some (.lst acc)) (a : AllA As (fz (G.lk D).U H') acc) : (isNew As).p (fz G.U H') (.ref D) :=
  ⟨D, acc, rfl, by rw [fz_neg fun m => k.live D m n]; exact e, a.mono (fz_less fun _ z => Gx.lk_U.mpr (.inl z))⟩
theorem ex_lc (hc : X.calm = true) (nd : X.N.Nodup) (h : LX X G I Γ elt tg iter ifs scope As J) (hs : ∀ x, foldedSetIterable iter X.env x = pure x := by intro _; rfl) : EX X G I Γ (.ListComp elt [⟨tg, iter, ifs, 0⟩] scope pos) (isNew As) J := fun σ H Q k q => by
  obtain ⟨wi, g, tt, te, own, h1, h2, h3, h4, h5, h6⟩ := h
  exact PE.w (pe_lc hc nd h1 h2 h3 h4 h5 hs) (h6 σ H Q k fun H' D acc t n e a => q H' _ t (new_of k n e a))
theorem sx_setLc (hc : X.calm = true) (nd : X.N.Nodup) (hy : X.N[i]? = some y) (hyl : X.env.scope.names.lookup y = some .local) (hl : i < Γ.length) (h : LX X G I Γ elt tg iter ifs scope As J) (hr : SX X G J (Γ.set i (some (isNew As))) sts D)
    (hsw : swapsWith (.ListComp elt [⟨tg, iter, ifs, 0⟩] scope pos) (some (.Name y py)) spos.line X.env = pure true) (hs : ∀ x, foldedSetIterable iter X.env x = pure x := by intro _; rfl) :
    SX X G I Γ (.Assign [.Name y py] (.ListComp elt [⟨tg, iter, ifs, 0⟩] scope pos) spos :: sts) D := fun σ H k => by
  obtain ⟨wi, g, tt, te, own, h1, h2, h3, h4, h5, h6⟩ := h
  exact wB_cons (PS.w (ps_setLc hc nd hy hyl hsw h1 h2 h3 h4 h5 hs) (h6 σ H _ k fun H1 D acc t1 n e a => hr _ _ ((k.to t1).setv hl (new_of k n e a))))
def teB (X : Cx) (scope : Scope) (elt : Expr) : TE := fun σ H Q => ∀ (s : Shared) (H0 : Hp) (C : Addr) (cl : List (Str × Addr)) (fp : List Addr), wE (X.blk s H0 scope (compEnvC scope cl C X.env) fp) elt σ H Q
def ttB (X : Cx) (scope : Scope) (c : Expr) : TT := fun σ H Q => ∀ (s : Shared) (H0 : Hp) (C : Addr) (cl : List (Str × Addr)) (fp : List Addr), wT (X.blk s H0 scope (compEnvC scope cl C X.env) fp) c σ H Q
theorem take_succ_get {α : Type} {l : List α} {k : Nat} {a : α} (h : l[k]? = some a) : l.take (k + 1) = l.take k ++ [a] := by
  rw [List.take_add_one, h]; rfl
/-- no if: the elements one by one -/
theorem lx_all {own : List (Str × Nat)} {g : TG} (Γk : Nat → Asr → Slots) (Iz : Nat → Iv G.M) (hi : IX X G I Γ tg iter As (Iz 0)) (blk : blkC X.N X.env.scope scope own = true) (hz : As.length ≤ 100000) (hC : Cs.length = As.length)
    (hw : ∀ j ∈ own.map (·.2), ∀ A, Γ[j]? ≠ some (some A)) (hΓ : ∀ (k : Nat) A, As[k]? = some A → (Γk k A).length = Γ.length)
    (hpg : ∀ (s : Shared) (H : Hp) (C : Addr) (cl : List (Str × Addr)) (fp : List Addr), PG (X.blk s H scope (compEnvC scope cl C X.env) fp) tg g)
    (hg : ∀ (U : Addr → Prop) k A, As[k]? = some A → GSem U g A Γ (Γk k A) (own.map (·.2)))
    (he : ∀ D (s : Shared) (H : Hp) (C : Addr) (cl : List (Str × Addr)) (fp : List Addr) k A B, As[k]? = some A → Cs[k]? = some B → EX (X.blk s H scope (compEnvC scope cl C X.env) fp) (G.lk D) (Iz k) (Γk k A) elt B (Iz (k + 1))) :
    LX X G I Γ elt tg iter [] scope Cs (Iz As.length) := by
  obtain ⟨wi, h1, h2⟩ := hi
  refine ⟨wi, g, tYes, teB X scope elt, own, h1, blkOk_by blk, hpg, fun _ _ _ _ _ => pts_nil, fun s H C cl fp => ⟨fun pins s' σ H' Q I h => h s H C cl fp pins s' I⟩, ?_⟩
  have e : Cs = Cs.take As.length := by rw [← hC, List.take_length]
  rw [e]
  refine lc_reads Iz (tt := tYes) (te := teB X scope elt) (fun k => match As[k]? with | some A => Γk k A | none => Γ) (fun k => Cs.take k) h2 hw rfl hz (fun k => List.length_take_le _ _) (fun _ k A q => by simp only [q]; exact hΓ k A q) (fun D k A q => by simp only [q]; exact hg _ k A q) fun D k A eA σ H Q kk w => ?_
  simp only [eA] at kk
  have hk : k < As.length := by
    rcases Nat.lt_or_ge k As.length with z | z
    · exact z
    · rw [List.getElem?_eq_none z] at eA; cases eA
  have eC : Cs[k]? = some (Cs[k]'(by omega)) := List.getElem?_eq_getElem (by omega)
  exact w.1 _ H _ (take_succ_get eC) kk.self fun Q' q' s H0 C cl fp => he D s H0 C cl fp k A _ eA eC σ H Q' kk q'
/-- one if -/
theorem lx_if {ι : Type} {l : List ι} {fA fC : ι → Asr} {p : ι → Bool} {own : List (Str × Nat)} {g : TG} (Γk : ι → Slots) (hi : IX X G I Γ tg iter (l.map fA) J) (blk : blkC X.N X.env.scope scope own = true) (hz : l.length ≤ 100000)
    (hw : ∀ j ∈ own.map (·.2), ∀ A, Γ[j]? ≠ some (some A)) (hΓ : ∀ a ∈ l, (Γk a).length = Γ.length)
    (hpg : ∀ (s : Shared) (H : Hp) (C : Addr) (cl : List (Str × Addr)) (fp : List Addr), PG (X.blk s H scope (compEnvC scope cl C X.env) fp) tg g)
    (hg : ∀ (U : Addr → Prop) a, a ∈ l → GSem U g (fA a) Γ (Γk a) (own.map (·.2)))
    (ht : ∀ D (s : Shared) (H : Hp) (C : Addr) (cl : List (Str × Addr)) (fp : List Addr) a, a ∈ l → TX (X.blk s H scope (compEnvC scope cl C X.env) fp) (G.lk D) J (Γk a) c (· = p a) J)
    (he : ∀ D (s : Shared) (H : Hp) (C : Addr) (cl : List (Str × Addr)) (fp : List Addr) a, a ∈ l → p a = true → EX (X.blk s H scope (compEnvC scope cl C X.env) fp) (G.lk D) J (Γk a) elt (fC a) J) :
    LX X G I Γ elt tg iter [c] scope ((l.filter p).map fC) J := by
  obtain ⟨wi, h1, h2⟩ := hi
  refine ⟨wi, g, ttB X scope c, teB X scope elt, own, h1, blkOk_by blk, hpg, fun s H C cl fp => pts_one ⟨fun pins s' σ H' Q I h => h s H C cl fp pins s' I⟩, fun s H C cl fp => ⟨fun pins s' σ H' Q I h => h s H C cl fp pins s' I⟩, ?_⟩
  have e : (l.filter p).map fC = ((l.take (l.map fA).length).filter p).map fC := by rw [List.length_map, List.take_length]
  rw [e]
  have get : ∀ {k A}, (l.map fA)[k]? = some A → ∃ a, l[k]? = some a ∧ a ∈ l ∧ A = fA a := fun {k A} q => by
    rw [List.getElem?_map] at q
    cases z : l[k]? with
    | none => rw [z] at q; cases q
    | some a => rw [z] at q; exact ⟨a, z, List.mem_of_getElem? z, (Option.some.inj q).symm⟩
  refine lc_reads (fun _ => J) (tt := ttB X scope c) (te := teB X scope elt) (fun k => match l[k]? with | some a => Γk a | none => Γ) (fun k => ((l.take k).filter p).map fC) h2 hw rfl (by rw [List.length_map]; exact hz)
    (fun k => by rw [List.length_map]; exact Nat.le_trans (List.length_filter_le _ _) (List.length_take_le _ _)) (fun D k A q => ?_) (fun D k A q => ?_) fun D k A eA σ H Q kk w => ?_
  · obtain ⟨a, e1, m, rfl⟩ := get q
    rw [e1]; exact hΓ a m
  · obtain ⟨a, e1, m, rfl⟩ := get q
    rw [e1]; exact hg _ a m
  · obtain ⟨a, e1, m, rfl⟩ := get eA
    rw [e1] at kk
    intro s H0 C cl fp
    refine ht D s H0 C cl fp a m σ H _ kk fun H1 b t1 eb => ?_
    have et : l.take (k + 1) = l.take k ++ [a] := take_succ_get e1
    cases hb : b with
    | true =>
      rw [hb] at eb
      refine w.1 (fC a) H1 _ ?_ t1 fun Q' q' s H0 C cl fp => he D s H0 C cl fp a m eb.symm σ H1 Q' (kk.to t1) q'
      rw [et, List.filter_append, List.map_append, List.filter_cons_of_pos (by rw [← eb])]
      rfl
    | false =>
      rw [hb] at eb
      refine w.2 H1 ?_ t1
      rw [et, List.filter_append, List.filter_cons_of_neg (by rw [← eb]; exact Bool.false_ne_true)]
      simp
end
end L2.PL
namespace L2.PL
open PySem PySem.Spec PyProof.Rows
/-- the same place, looked at from H1 -/
abbrev Gx.re (G : Gx) (H1 : Hp) : Gx := ⟨G.M, G.L, G.M, H1, fun _ h => h, fun _ h => .inl h⟩
theorem Gx.Ok.back {G : Gx} {I : Iv G.M} {H1 : Hp} {Γ Γ1 : Slots} {σ σ1 : St} {H : Hp} {J : Iv G.M} (k1 : G.Ok J Γ1 σ1 H1) (k : (G.re H1).Ok I Γ σ H) : G.Ok I Γ σ H :=
  ⟨fun a o n e => k.frame a o (fun z => (G.fr a z).elim n fun q => by rw [q] at e; cases e) (k1.frame a o n e), k.live, k.inv, k.sat, k.len⟩
theorem Gx.Ok.at {G : Gx} {I : Iv G.M} {Γ : Slots} {σ : St} {H : Hp} (k : G.Ok I Γ σ H) : (G.re H).Ok I Γ σ H := ⟨fun _ _ _ e => e, k.live, k.inv, k.sat, k.len⟩
theorem Ret.re {G : Gx} {I J : Iv G.M} {A : Asr} {D : Ends} {H1 : Hp} {Γ1 : Slots} {σ1 : St} (r : Ret G I A D) (k1 : G.Ok J Γ1 σ1 H1) : Ret (G.re H1) I A D := fun Γ σ H' v k a => r Γ σ H' v (k1.back k) a
theorem Ret.post {G : Gx} {I J : Iv G.M} {A : Asr} {D : Ends} (r : Ret G I A D) (h : ∀ H, J.p H → I.p H) : Ret G J A D := fun Γ σ H' v k a => r Γ σ H' v (k.post h) a
section
variable {X : Cx} {G : Gx} {I J K : Iv G.M} {Γ : Slots} {tg iter e : Expr} {As : List Asr} {A : Asr} {pos : Pos} {sts body : List Stmt} {D : Ends}
theorem EX.post {e : Expr} (h : EX X G I Γ e A J) (f : ∀ H, J.p H → K.p H) : EX X G I Γ e A K := fun σ H Q k q => h σ H Q k fun H' v t a => q H' v (t.post f) a
theorem SX.pre {D : Ends} (h : SX X G J Γ sts D) (f : ∀ H, I.p H → J.p H) : SX X G I Γ sts D := fun σ H k => h σ H (k.post f)
theorem SX.low {Γ' : Slots} (h : SX X G I Γ' sts D) (l : Low Γ' Γ) : SX X G I Γ sts D := fun σ H k => h σ H (k.low l)
theorem sx_for {g : TG} {vs : List Nat} (Iz : Nat → Iv G.M) (Γs : Nat → Slots) (Γk : Nat → Asr → Slots) (hp : PassesOwn (model X.prog X.w) X.A X.env X.xe) (hc : X.calm = true) (hi : IX X G I Γ tg iter As (Iz 0)) (hg : PG X tg g) (h0 : Low (Γs 0) Γ)
    (hsem : ∀ k A, As[k]? = some A → GSem G.U g A (Γs k) (Γk k A) vs)
    (hs : ∀ H1 Γ1 σ1 k A, As[k]? = some A → G.Ok (Iz 0) Γ1 σ1 H1 → SX X (G.re H1) (Iz k) (Γk k A) body { D with nx := (G.re H1).Ok (Iz (k + 1)) (Γs (k + 1)), ct := (G.re H1).Ok (Iz (k + 1)) (Γs (k + 1)), bk := wB X sts D })
    (hd : SX X G (Iz As.length) (Γs As.length) sts D) (hf : ∀ x, foldedSetIterable iter X.env x = pure x := by intro _; rfl) : SX X G I Γ (.For tg iter body [] pos :: sts) D := fun σ H k => by
  obtain ⟨wi, hi1, hi2⟩ := hi
  refine wB_cons (PS.w (ps_for hp hc hi1 hg pss_wB hf) (hi2 σ H _ k fun T H1 t1 wk => ?_))
  have k1 := (k.to t1).low h0
  refine ⟨fun i m σ2 H2 => m = As.length - i ∧ i ≤ As.length ∧ (G.re H1).Ok (Iz i) (Γs i) σ2 H2, ⟨As.length, by omega, Nat.zero_le _, k1.at⟩, ?_⟩
  rintro i m σ2 H2 ⟨rfl, hle, k2⟩
  have s2 : Sm (fz G.U H1) (fz G.U H2) := fun a o e => by
    obtain ⟨n, e⟩ := fz_some e
    rw [fz_neg n]; exact k2.frame a o (fun z => n (.inl z)) e
  by_cases hlt : i < As.length
  · have eA := List.getElem?_eq_getElem hlt
    refine .inr ⟨wk.go _ H2 s2 i hlt, (G.re H1).Ok (Iz (i + 1)) (Γs (i + 1)), fun σ' H' p' => ⟨As.length - (i + 1), by omega, rfl, hlt, p'⟩, fun x H3 y => ?_⟩
    obtain ⟨s3, ax⟩ := wk.yld _ H2 s2 k2.live i x H3 _ eA y
    have t3 : (G.re H1).To (Iz i) H2 H3 := To.sm (G := G.re H1) k2.live k2.inv s3
    have k3 := k2.to t3
    refine hsem i _ eA x σ2 H3 _ k3.sat k3.len ax fun σ' st ln _ => ?_
    exact hs H1 _ _ i _ eA k1 σ' H3 ⟨k3.frame, k3.live, k3.inv, st, ln⟩
  · have e : i = As.length := by omega
    subst e
    exact .inl ⟨wk.stop _ H2 s2 _ (Nat.le_refl _), hd σ2 H2 (k1.back k2)⟩
/-- nothing is stored but the loop's own name -/
theorem sx_for0 {g : TG} {vs : List Nat} (Γk : Nat → Asr → Slots) (hp : PassesOwn (model X.prog X.w) X.A X.env X.xe) (hc : X.calm = true) (hi : IX X G I Γ tg iter As J) (hg : PG X tg g)
    (hsem : ∀ k A, As[k]? = some A → GSem G.U g A Γ (Γk k A) vs)
    (hs : ∀ H1 Γ1 σ1 k A, As[k]? = some A → G.Ok J Γ1 σ1 H1 → SX X (G.re H1) J (Γk k A) body { D with nx := (G.re H1).Ok J Γ, ct := (G.re H1).Ok J Γ, bk := wB X sts D })
    (hd : SX X G J Γ sts D) (hf : ∀ x, foldedSetIterable iter X.env x = pure x := by intro _; rfl) : SX X G I Γ (.For tg iter body [] pos :: sts) D := by
  have lowR : ∀ Γ : Slots, Low Γ Γ := fun Γ => by
    induction Γ with
    | nil => exact True.intro
    | cons a r ih =>
      cases a with
      | none => exact ih
      | some A => exact ⟨fun _ _ h => h, ih⟩
  exact sx_for (fun _ => J) (fun _ => Γ) Γk hp hc hi hg (lowR Γ) hsem hs hd hf
end
theorem low_refl : ∀ Γ : Slots, Low Γ Γ
  | [] => True.intro
  | none :: r => low_refl r
  | some A :: r => ⟨fun _ _ h => h, low_refl r⟩
theorem low_set : ∀ {Γ : Slots} {i : Nat} {A : Asr}, (∀ B, Γ[i]? ≠ some (some B)) → Low Γ (Γ.set i (some A))
  | [], _, _, _ => True.intro
  | none :: r, 0, _, _ => low_refl r
  | none :: r, i + 1, _, h => low_set (Γ := r) (i := i) fun B e => h B (by simpa using e)
  | some A :: r, 0, _, h => absurd rfl (h A)
  | some A :: r, i + 1, _, h => ⟨fun _ _ q => q, low_set (Γ := r) (i := i) fun B e => h B (by simpa using e)⟩

/-! ### isinstance -/
/-- a value's built-in type -/
def TyA (K : PySem.W.Frag) (A : Asr) (T : String) : Prop := ∀ F H v, A.p F v → Sm F H → TyX K H v (.type T)
theorem ty_int {K : PySem.W.Frag} {i : Int} : TyA K (aInt i) "int" := fun F H v e _ => by cases e; exact .base (.int i)
theorem ty_bl {K : PySem.W.Frag} {b : Bool} : TyA K (isBl b) "bool" := fun F H v e _ => by cases e; exact .base (.bl b)
theorem ty_str {K : PySem.W.Frag} {b : Str} : TyA K (isStr b) "str" := fun F H v e _ => by cases e; exact .base (.str b)
theorem ty_non {K : PySem.W.Frag} : TyA K isNon "NoneType" := fun F H v e _ => by cases e; exact .base .non
theorem ty_lst {K : PySem.W.Frag} {As : List Asr} : TyA K (isLst K As) "list" := fun F H v ⟨a, vs, e, h, _⟩ s => by
  subst e
  rcases h with h | ⟨o, its, n, hk, hc, _⟩
  · rcases Rd.mono s h with h | ⟨o, h⟩
    · exact .base (.lst h)
    · exact .base (.frz h)
  · exact .kList hk hc
theorem ty_tup {K : PySem.W.Frag} {As : List Asr} : TyA K (isTup K As) "tuple" := fun F H v ⟨a, vs, e, h, _⟩ s => by
  subst e
  rcases h with h | ⟨o, its, n, hk, hc, _⟩
  · rcases Rd.mono s h with h | ⟨o, h⟩
    · exact .base (.tup h)
    · exact .fTuple h
  · exact .kTuple hk hc
section
variable {X : Cx} {G : Gx} {I J K : Iv G.M} {Γ : Slots} {e c c1 c2 : Expr} {As : List Asr} {A : Asr} {p pos : Pos} {T U U2 : String}
theorem ex_isi {b : Bool} (hg : Gl X "isinstance") (hm : X.mg "isinstance" = none) (ty : TyA X.K A T) (ha : EX X G I Γ e A J) (hc : EX X G J Γ c (isV (.ty U)) K) (hk : kitB T U = some b)
    (hs : starEach [e, c] X.env = (false, eval e X.env) :: starEach [c] X.env := by rfl) (hs2 : starEach [c] X.env = (false, eval c X.env) :: starEach [] X.env := by rfl) (hpl : (backTo pos (starEach [c] X.env)).any (·.1) = false := by rfl) :
    EX X G I Γ (.Call (.Name "isinstance" p) [e, c] [] pos) (isBl b) K :=
  ex_B call_isi hg hm (by decide +kernel) (ax_cons ha (ax_cons hc ax_nil hs2) hs) (fun H1 vs ⟨v, r, e1, a1, v2, r2, e2, a2, e3⟩ Q w => by
    cases a2; cases e3; subst e2; subst e1
    exact ⟨v, .ty U, .type T, .type U, b, rfl, .ty U, ty _ _ _ a1 fz_sub, kit_ty hk, w _ rfl⟩) (by decide) (by decide) hs hpl
/-- isinstance(x, (T1, T2)) -/
theorem ex_isi2 {b1 b2 : Bool} {k1} {tp : Pos} (hg : Gl X "isinstance") (hm : X.mg "isinstance" = none) (ty : TyA X.K A T) (ha : EX X G I Γ e A J) (h1 : EX X G J Γ c1 (isV (.ty U)) J) (h2 : EX X G J Γ c2 (isV (.ty U2)) J)
    (hk : kitB T U = some b1) (hk2 : kitB T U2 = some b2)
    (hs : starEach [e, .Tuple [c1, c2] k1 tp] X.env = (false, eval e X.env) :: starEach [.Tuple [c1, c2] k1 tp] X.env := by rfl) (hs2 : starEach [.Tuple [c1, c2] k1 tp] X.env = (false, eval (.Tuple [c1, c2] k1 tp) X.env) :: starEach [] X.env := by rfl) (hpl : (backTo pos (starEach [.Tuple [c1, c2] k1 tp] X.env)).any (·.1) = false := by rfl)
    (hs3 : starEach [c1, c2] X.env = (false, eval c1 X.env) :: starEach [c2] X.env := by rfl) (hs4 : starEach [c2] X.env = (false, eval c2 X.env) :: starEach [] X.env := by rfl) :
    EX X G I Γ (.Call (.Name "isinstance" p) [e, .Tuple [c1, c2] k1 tp] [] pos) (isBl (b1 || b2)) J := fun σ H Q k q =>
  PE.w (pe_callB call_isiT hg hm (by decide +kernel) (pa_cons pe_wE (pa_cons (pe_tup (pa_cons pe_wE (pa_cons pe_wE pa_nil hs4) hs3)) pa_nil hs2) hs) (by decide) (by decide) hs hpl)
    (ha σ H _ k fun H1 v t1 a1 => h1 σ H1 _ (k.to t1) fun H2 u1 t2 e1 => h2 σ H2 _ ((k.to t1).to t2) fun H3 u2 t3 e2 => by
      cases e1; cases e2
      refine ⟨by show 2 ≤ sizeLine; rw [sizeLine_eq]; decide, fun tpa hn => ?_⟩
      have t4 : G.To J H3 (upd H3 tpa (.tup [.ty U, .ty U2])) := Gx.To.new t3.live t3.inv hn
      refine ⟨v, tpa, [.ty U, .ty U2], .type T, [.type U, .type U2], b1 || b2, rfl, upd_same, .cons (.ty U) (.cons (.ty U2) .nil), ty _ _ _ (A.mono ((t2.trans t3).trans t4).fz a1) fz_sub, ?_, q _ _ ((t1.trans t2).trans (t3.trans t4)) rfl⟩
      refine kitAny_cons (kit_ty hk) (fun e => ?_) (fun e => by rw [e]; rfl)
      rw [e, Bool.false_or]
      exact kitAny_cons (kit_ty hk2) (fun e => by rw [e]; rfl) (fun e => e))
theorem ex_blt {x : Str} {v : V} {u : Value} (hg : Gl X x) (hm : X.mg x = none) (hv : bootBuiltins x = some u) (r : RelV v u) (hn : x ≠ "__name__" := by decide) (hd : (x == ("__debug__" : Str)) = false := by decide) : EX X G I Γ (.Name x pos) (isV v) I := fun σ H Q k q =>
  PE.w (pe_bltn hg hm hv r hn hd) (q H _ k.self rfl)
/-! ### keywords -/
variable {ι : Type} {dom : ι → List Asr} {ok : ι → Prop} {cod : ι → Asr} {CX : CXT} {k : Nat} {f : Addr} {fd : FuncData} {ps ks : List Str} {E : XK} {x : Str} {kws : List Keyword}
theorem pe_callK0 {sp : Sp} {g : List Value → List Value → List Value} {gV : List V → List V → List V} {tk : TA} (F : FnOk X.prog X.w X.K X.mg X.base CX k f fd ps sp) (hr : Room k X.A) (hg : Gl X x) (hm : X.mg x = some (.ref f)) (hk : PySem.W.keepIn X.K (.ref f) = true) (hb : KBn X.K fd ps 0 ks g gV) (hx : Passes CX X E)
    (hkw : PK X kws tk) (hall : (backToKw pos (keywordEach kws X.env)).all (·.1.isSome) = true := by rfl) (hks : (backToKw pos (keywordEach kws X.env)).filterMap (·.1) = ks := by rfl)
    (hdb : (x == ("__debug__" : Str)) = false := by decide)
    (hpl : ((backTo pos (starEach [] X.env)).any (·.1) || (backToKw pos (keywordEach kws X.env)).any (·.1.isNone)) = false := by rfl) :
    PE X (.Call (.Name x p) [] kws pos) (fun σ H Q => tk σ H fun zs H2 => zs.length = ks.length ∧ sp (gV [] zs) H2 Q E) := by
  refine ⟨fun pins s σ H Q I h => ?_⟩
  refine wpAny_Call_Name_kw (ld_glob I hg hm ?_ hdb)
  refine PySem.W.callWith_KW0 (h₀ := X.base) I.ok.mod.kin hk hall ?_ hpl
  refine thn (hkw.run pos pins s σ H _ I h) fun ws s2 ⟨zs, H2, I2, rz, l2, q2⟩ => ⟨I2.kIn, ?_⟩
  rw [hks]
  exact run_fnN F hr hb hx I2 .nil rz rfl l2 q2
theorem ex_callK {g : List Value → List Value → List Value} {gV : List V → List V → List V} {gA : List Asr → List Asr} (F : FnOk X.prog X.w X.K X.mg X.base CX k f fd ps (spF dom ok cod)) (hr : Room k X.A) (hg : Gl X x) (hm : X.mg x = some (.ref f)) (hk : PySem.W.keepIn X.K (.ref f) = true) (hb : KBn X.K fd ps 0 ks g gV) (hx : Passes CX X E)
    (i : ι) (ha : KX X G I Γ kws As J) (hA : gA As = dom i) (hl : As.length = ks.length) (hgA : ∀ F vs, AllA As F vs → AllA (gA As) F (gV [] vs)) (hok : ok i) (hall : (backToKw pos (keywordEach kws X.env)).all (·.1.isSome) = true := by rfl) (hks : (backToKw pos (keywordEach kws X.env)).filterMap (·.1) = ks := by rfl)
    (hdb : (x == ("__debug__" : Str)) = false := by decide)
    (hpl : ((backTo pos (starEach [] X.env)).any (·.1) || (backToKw pos (keywordEach kws X.env)).any (·.1.isNone)) = false := by rfl) :
    EX X G I Γ (.Call (.Name x p) [] kws pos) (cod i) J := fun σ H Q kk q =>
  PE.w (pe_callK0 (E := E) F hr hg hm hk hb hx pk_wK hall hks hdb hpl) (ha σ H _ kk fun H1 vs t1 r => ⟨r.len.trans hl, G.U, i, t1.live, hok, hA ▸ hgA _ _ r, fun H' v s c => q H' v (t1.trans (To.sm t1.live t1.inv s)) c⟩)
end
/-- how keywords bind: h is «fun _ _ _ _ _ _ ws hl => match ws, hl with | [_, _], _ => rfl» -/
theorem kbn_of {K : PySem.W.Frag} {x qual : Str} {st : Stmt} {f : Addr} {fd : FuncData} {ps ks : List Str} {g : List Value → List Value} {gV : List V → List V} (F : Fun K x qual st f fd) (hr : ∀ {zs : List V} {ws : List Value}, Vals zs ws → Vals (gV zs) (g ws))
    (h : ∀ (kV doc pm : Value) (an : Option Addr) (cdv ct : Value) (ws : List Value), ws.length = ks.length → bindArgs (PySem.W.fnOf x qual (defArgs st) (defBody st) (defScope st) .none kV doc pm an cdv ct) ⟨[], ks.zip ws⟩ = pure (ps.zip (g ws))) : KBn K fd ps 0 ks (fun _ ws => g ws) (fun _ zs => gV zs) := by
  obtain ⟨oc, od, kV, doc, pm, an, cdv, ct, osl, rfl, lk, hcd⟩ := F.ex
  refine ⟨fun s us ws _ l1 l2 => ?_, fun _ r => hr r⟩
  cases us with
  | nil => exact .of_eq (h kV doc pm an cdv ct ws l2)
  | cons _ _ => cases l1
def swp {α : Type} : List α → List α
  | [a, b] => [b, a]
  | l => l
theorem swp_rel : ∀ {zs : List V} {ws : List Value}, Vals zs ws → Vals (swp zs) (swp ws)
  | _, _, .nil => .nil
  | _, _, .cons a .nil => .cons a .nil
  | _, _, .cons a (.cons b .nil) => .cons b (.cons a .nil)
  | _, _, .cons a (.cons b (.cons c r)) => .cons a (.cons b (.cons c r))
theorem swp_all {A B : Asr} (F : Hp) (vs : List V) (h : AllA [A, B] F vs) : AllA (swp [A, B]) F (swp vs) := by
  obtain ⟨v, r, rfl, a, v2, r2, rfl, b, rfl⟩ := h
  exact ⟨v2, _, rfl, b, v, _, rfl, a, rfl⟩
def rv3 {α : Type} : List α → List α
  | [a, b, c] => [c, b, a]
  | l => l
theorem rv3_rel : ∀ {zs : List V} {ws : List Value}, Vals zs ws → Vals (rv3 zs) (rv3 ws)
  | _, _, .nil => .nil
  | _, _, .cons a .nil => .cons a .nil
  | _, _, .cons a (.cons b .nil) => .cons a (.cons b .nil)
  | _, _, .cons a (.cons b (.cons c .nil)) => .cons c (.cons b (.cons a .nil))
  | _, _, .cons a (.cons b (.cons c (.cons d r))) => .cons a (.cons b (.cons c (.cons d r)))
theorem rv3_all {A B C : Asr} (F : Hp) (vs : List V) (h : AllA [A, B, C] F vs) : AllA (rv3 [A, B, C]) F (rv3 vs) := by
  obtain ⟨v, r, rfl, a, v2, r2, rfl, b, v3, r3, rfl, c, rfl⟩ := h
  exact ⟨v3, _, rfl, c, v2, _, rfl, b, v, _, rfl, a, rfl⟩

/-! ### the pool of draws: two lists of its own; n: how many mixed draws there were at most -/
structure PoolAt (ap ag : Addr) (n : Nat) (H : Hp) : Prop where
  ne : ap ≠ ag
  ex : ∃ (gs : List Int) (fig mark cnt : Int), H ap = some (.lst [.ref ag, .int fig, .int mark, .int cnt]) ∧ H ag = some (.lst (gs.map V.int)) ∧ (∀ g ∈ gs, 0 ≤ g) ∧ 0 ≤ fig ∧ (0 ≤ mark ∧ mark < 2 ^ 100) ∧ 0 ≤ cnt ∧ cnt ≤ n
theorem PoolAt.more {ap ag : Addr} {n m : Nat} {H : Hp} (h : PoolAt ap ag n H) (l : n ≤ m) : PoolAt ap ag m H := by
  obtain ⟨ne, gs, fig, mark, cnt, a, b, c, d, e, f, g⟩ := h
  exact ⟨ne, gs, fig, mark, cnt, a, b, c, d, e, f, by omega⟩
/-- what a drawing def promises: the pool first, then the others; c: how many draws at most -/
def spD {ι : Type} (c : Nat) (dom : ι → List Asr) (ok : ι → Prop) (cod : ι → Asr) : Sp := fun vs H Q _ => ∃ (U : Addr → Prop) (ap ag : Addr) (n : Nat) (vs' : List V) (i : ι), vs = .ref ap :: vs' ∧ (∀ a, U a → H a ≠ none) ∧ U ap ∧ U ag ∧ n + c ≤ 2 ^ 60 ∧ PoolAt ap ag n H ∧ ok i ∧ AllA (dom i) (fz U H) vs' ∧
  ∀ H' v, (∀ a o, a ≠ ap → a ≠ ag → H a = some o → H' a = some o) → PoolAt ap ag (n + c) H' → (cod i).p (fz U H') v → Q v H'
/-- an invariant that knows the pool -/
structure Drw (M : Addr → Prop) (ap ag : Addr) (Iz : Nat → Iv M) : Prop where
  hp : M ap
  hg : M ag
  pool : ∀ n H, (Iz n).p H → PoolAt ap ag n H
  back : ∀ n m H H', (Iz n).p H → PoolAt ap ag m H' → (∀ a, M a → a ≠ ap → a ≠ ag → H' a = H a) → (Iz m).p H'
section
variable {X : Cx} {G : Gx} {I J K : Iv G.M} {Γ : Slots} {e c c1 c2 : Expr} {es : List Expr} {As : List Asr} {A : Asr} {p pos : Pos} {ι : Type} {dom : ι → List Asr} {ok : ι → Prop} {cod : ι → Asr} {CX : CXT} {k n : Nat} {f : Addr} {fd : FuncData} {ps ks : List Str} {E : XK} {x : Str} {ap ag : Addr} {Iz : Nat → Iv G.M} {d : Nat}
theorem ex_draw (F : FnOk X.prog X.w X.K X.mg X.base CX k f fd ps (spD d dom ok cod)) (hr : Room k X.A) (hg : Gl X x) (hm : X.mg x = some (.ref f)) (hk : PySem.W.keepIn X.K (.ref f) = true) (hb : Binds X.K fd ps []) (hx : Passes CX X E)
    (W : Drw G.M ap ag Iz) (i : ι) (he : EX X G I Γ e (isV (.ref ap)) (Iz n)) (ha : AX X G (Iz n) Γ es (dom i) (Iz n)) (hn : n + d ≤ 2 ^ 60) (hok : ok i) (hdb : (x == ("__debug__" : Str)) = false := by decide) (hst : starEach (e :: es) X.env = (false, eval e X.env) :: starEach es X.env := by rfl) (hpl : (backTo pos (starEach es X.env)).any (·.1) = false := by rfl) :
    EX X G I Γ (.Call (.Name x p) (e :: es) [] pos) (cod i) (Iz (n + d)) := fun σ H Q kk q =>
  PE.w (pe_call (E := E) F hr hg hm hk hb .nil hx (pa_cons pe_wE pa_wA hst) hdb hst hpl) (he σ H _ kk fun H0 v0 t0 e0 => ha σ H0 _ (kk.to t0) fun H1 vs t1 r => by
    cases e0
    refine ⟨G.U, ap, ag, n, vs, i, by rw [List.append_nil], t1.live, .inl W.hp, .inl W.hg, hn, W.pool n _ t1.inv, hok, r, fun H' v s pl c => q H' v ((t0.trans t1).trans ⟨fun a o m e => s a o (fun z => m (by rw [z]; exact W.hp)) (fun z => m (by rw [z]; exact W.hg)) e, fun a m => ?_, ?_⟩) c⟩
    · obtain ⟨ne, gs, fig, mark, cnt, h1, h2, _⟩ := pl
      by_cases z1 : a = ap
      · rw [z1, h1]; exact fun w => nomatch w
      · by_cases z2 : a = ag
        · rw [z2, h2]; exact fun w => nomatch w
        · cases z : H1 a with
          | none => exact absurd z (t1.live a m)
          | some o => rw [s a o z1 z2 z]; exact fun w => nomatch w
    · refine W.back n (n + d) H1 H' t1.inv pl fun a m z1 z2 => ?_
      cases z : H1 a with
      | none => exact absurd z (t1.live a (.inl m))
      | some o => exact s a o z1 z2 z)
end
/-- the pool alone -/
def ivP (M : Addr → Prop) (ap ag : Addr) (h1 : M ap) (h2 : M ag) (n : Nat) : Iv M := ⟨PoolAt ap ag n, fun H H' e ⟨ne, gs, fig, mark, cnt, a, b, r⟩ => ⟨ne, gs, fig, mark, cnt, by rw [e _ h1]; exact a, by rw [e _ h2]; exact b, r⟩⟩
theorem drw_pool {M : Addr → Prop} {ap ag : Addr} (h1 : M ap) (h2 : M ag) : Drw M ap ag (ivP M ap ag h1 h2) := ⟨h1, h2, fun _ _ h => h, fun _ _ _ _ _ h _ => h⟩
/-- the context of a drawing def -/
abbrev gD (U : Addr → Prop) (ap ag : Addr) (H : Hp) : Gx := ⟨fun a => a = ap ∨ a = ag, U, fun a => a = ap ∨ a = ag, H, fun _ h => h, fun _ h => .inl h⟩
abbrev ivD (U : Addr → Prop) (ap ag : Addr) (H : Hp) (n : Nat) : Iv (gD U ap ag H).M := ivP _ ap ag (.inl rfl) (.inr rfl) n
theorem drw_gD {U : Addr → Prop} {ap ag : Addr} {H : Hp} : Drw (gD U ap ag H).M ap ag (ivD U ap ag H) := drw_pool _ _
section
variable {Pr : Program} {w : World} {K : PySem.W.Frag} {mg : Str → Option Value} {base : Heap} {x qual : Str} {st : Stmt} {f : Addr} {fd : FuncData} {N ps : List Str} {k : Nat}
theorem fn_draw {ι : Type} {c : Nat} {dom : ι → List Asr} {ok : ι → Prop} {cod : ι → Asr} (F : Fun K x qual st f fd) (S : FnScope N ps (defScope st)) (hl : ∀ i, (dom i).length + 1 = ps.length)
    (h : ∀ (cdv : Value) (A : Around) (outer : List Env) (s : Shared) (H : Hp) (E : XK) (U : Addr → Prop) (ap ag : Addr) (n : Nat) (i : ι) (Q : VK), Room k (A.deeper (envOfC qual (defScope st) s.heap.objs.size f cdv)) → ok i → n + c ≤ 2 ^ 60 → Ret (gD U ap ag H) (ivD U ap ag H (n + c)) (cod i) (retE Q) →
      SX (cxF Pr w K mg base N qual (defScope st) f cdv A outer s H E) (gD U ap ag H) (ivD U ap ag H n) ((isV (.ref ap) :: dom i).map some ++ List.replicate (N.length - ps.length) none) (defBody st) (retE Q)) :
    FnOk Pr w K mg base CX0 (k + 1) f fd ps (spD c dom ok cod) := by
  have hpl : ps.length ≤ N.length := by have := congrArg List.length S.pre; rw [List.length_take] at this; omega
  refine F.ok S (fun vs H Q E ⟨U, ap, ag, n, vs', i, e, _, _, _, _, _, _, r, _⟩ => by rw [e, List.length_cons, r.len, hl]) fun cdv A outer s H vs Q E hr ⟨U, ap, ag, n, vs', i, e, l, u1, u2, hn, pl, o, r, q⟩ => ⟨_, pss_wB, ?_⟩
  subst e
  have less : ∀ {H : Hp}, Sm (fz U H) (fz (gD U ap ag H).U H) := fun {H} => fz_less fun a z => by
    rcases z with (z | z) | z
    · rw [z]; exact u1
    · rw [z]; exact u2
    · exact z
  refine h cdv A outer s H E U ap ag n i _ hr o hn ?_ _ _ ⟨fun a o _ e => e, fun a u => ?_, pl, ?_, ?_⟩
  · intro Γ σ H' v kk a
    exact q H' v (fun a o z1 z2 e => kk.frame a o (fun z => z.elim z1 z2) e) kk.inv (Asr.mono _ (fz_less fun a u => .inr u) a)
  · rcases u with (u | u) | u
    · rw [u]; exact l _ u1
    · rw [u]; exact l _ u2
    · exact l a u
  · have r2 : AllA (isV (.ref ap) :: dom i) (fz (gD U ap ag H).U H) (.ref ap :: vs') := ⟨_, _, rfl, rfl, r.mono less⟩
    have := start_sat (N := N) r2
    rw [List.length_cons, hl i] at this
    exact this
  · show (start N (.ref ap :: vs')).length = _
    unfold start
    rw [List.length_append, List.length_append, List.length_map, List.length_map, List.length_replicate, List.length_replicate, List.length_cons, List.length_cons, r.len, hl]
end
end L2.PL
namespace L2.PL
open PySem PySem.Spec PyProof.Rows
theorem map_get {α β : Type} {l : List α} {f : α → β} {k : Nat} {B : β} (h : (l.map f)[k]? = some B) : ∃ a, l[k]? = some a ∧ a ∈ l ∧ B = f a := by
  rw [List.getElem?_map] at h
  cases z : l[k]? with
  | none => rw [z] at h; cases h
  | some a => rw [z] at h; exact ⟨a, rfl, List.mem_of_getElem? z, (Option.some.inj h).symm⟩
theorem zipA_map {α β : Type} {K : PySem.W.Frag} {l : List α} {m : List β} {f : α → Asr} {g : β → Asr} : zipA K (l.map f) (m.map g) = (l.zip m).map fun p => isTup K [f p.1, g p.2] := by
  unfold zipA
  rw [List.zipWith_map, ← List.map_uncurry_zip_eq_zipWith]
  rfl
theorem enumA_map {α : Type} {K : PySem.W.Frag} {l : List α} {f : α → Asr} : enumA K (l.map f) = ((List.range l.length).zip l).map fun p => isTup K [aInt ((p.1 : Nat) : Int), f p.2] := by
  unfold enumA
  rw [List.length_map, ← List.map_uncurry_zip_eq_zipWith, List.zip_map_right, List.map_map]
  rfl
section
variable {X : Cx} {G : Gx} {I J K : Iv G.M} {Γ : Slots} {elt iter e c : Expr} {scope : Scope} {pos px py pt : Pos} {sts body : List Stmt} {D : Ends} {x y : Str} {ι : Type} {l : List ι} {fA fC f1 f2 : ι → Asr} {i j : Nat} {kt : Nat}
theorem IX.cast {tg : Expr} {As Bs : List Asr} (h : IX X G I Γ tg iter As J) (e : As = Bs) : IX X G I Γ tg iter Bs J := e ▸ h
theorem not_some {Γ : Slots} {j : Nat} (h : Γ[j]? = some none) : ∀ A, Γ[j]? ≠ some (some A) := fun A e => by rw [h] at e; cases e
/-- for x in ..: -/
theorem sx_forN (j : Nat) (Iz : Nat → Iv G.M) (Γs : Nat → Slots) (hp : PassesOwn (model X.prog X.w) X.A X.env X.xe) (hc : X.calm = true) (nd : X.N.Nodup) (hj : X.N[j]? = some x) (hx : Loc X.env.scope x) (hf' : X.fn x = true ∨ X.env.scope.names.lookup x = some .local)
    (hi : IX X G I Γ (.Name x px) iter (l.map fA) (Iz 0)) (h0 : Low (Γs 0) Γ) (hl : ∀ k, j < (Γs k).length)
    (hs : ∀ H1 Γ1 σ1 k a, l[k]? = some a → a ∈ l → k < l.length → G.Ok (Iz 0) Γ1 σ1 H1 → SX X (G.re H1) (Iz k) ((Γs k).set j (some (fA a))) body { D with nx := (G.re H1).Ok (Iz (k + 1)) (Γs (k + 1)), ct := (G.re H1).Ok (Iz (k + 1)) (Γs (k + 1)), bk := wB X sts D })
    (hd : SX X G (Iz l.length) (Γs l.length) sts D) (hf : ∀ x, foldedSetIterable iter X.env x = pure x := by intro _; rfl) : SX X G I Γ (.For (.Name x px) iter body [] pos :: sts) D := by
  refine sx_for Iz Γs (fun k A => (Γs k).set j (some A)) hp hc hi (pg_name nd hj hx hf') h0 (fun k A _ => gs_name (hl k)) (fun H1 Γ1 σ1 k A e k1 => ?_) (by rw [List.length_map]; exact hd) hf
  obtain ⟨a, e1, m, rfl⟩ := map_get e
  refine hs H1 Γ1 σ1 k a e1 m ?_ k1
  rcases Nat.lt_or_ge k l.length with z | z
  · exact z
  · rw [List.getElem?_eq_none z] at e1; cases e1
/-- for x, y in ..: -/
theorem sx_forT (i j : Nat) (Iz : Nat → Iv G.M) (Γs : Nat → Slots) (hp : PassesOwn (model X.prog X.w) X.A X.env X.xe) (hc : X.calm = true) (hg : PG X (.Tuple [.Name x px, .Name y py] kt pt) (gTup X.K 2 (gCons (gName i) (gCons (gName j) gNil))))
    (hi : IX X G I Γ (.Tuple [.Name x px, .Name y py] kt pt) iter (l.map fun a => isTup X.K [f1 a, f2 a]) (Iz 0)) (h0 : Low (Γs 0) Γ) (hl : ∀ k, i < (Γs k).length) (hl2 : ∀ k, j < (Γs k).length)
    (hs : ∀ H1 Γ1 σ1 k a, l[k]? = some a → a ∈ l → k < l.length → G.Ok (Iz 0) Γ1 σ1 H1 → SX X (G.re H1) (Iz k) (((Γs k).set i (some (f1 a))).set j (some (f2 a))) body { D with nx := (G.re H1).Ok (Iz (k + 1)) (Γs (k + 1)), ct := (G.re H1).Ok (Iz (k + 1)) (Γs (k + 1)), bk := wB X sts D })
    (hd : SX X G (Iz l.length) (Γs l.length) sts D) (hf : ∀ x, foldedSetIterable iter X.env x = pure x := by intro _; rfl) : SX X G I Γ (.For (.Tuple [.Name x px, .Name y py] kt pt) iter body [] pos :: sts) D := by
  refine sx_for (vs := [i, j]) Iz Γs (fun k _ => match l[k]? with | some a => ((Γs k).set i (some (f1 a))).set j (some (f2 a)) | none => Γs k) hp hc hi hg h0 (fun k A e => ?_) (fun H1 Γ1 σ1 k A e k1 => ?_) (by rw [List.length_map]; exact hd) hf
  · obtain ⟨a, e1, m, rfl⟩ := map_get e
    simp only [e1]
    exact gs_tup2 (hl k) (hl2 k)
  · obtain ⟨a, e1, m, rfl⟩ := map_get e
    simp only [e1]
    refine hs H1 Γ1 σ1 k a e1 m ?_ k1
    rcases Nat.lt_or_ge k l.length with z | z
    · exact z
    · rw [List.getElem?_eq_none z] at e1; cases e1
/-- [e for x in ..] -/
theorem lx_N (j : Nat) (hi : IX X G I Γ (.Name x px) iter (l.map fA) J) (nd : X.N.Nodup) (hj : X.N[j]? = some x) (blk : blkC X.N X.env.scope scope [(x, j)] = true) (hz : l.length ≤ 100000) (hw : Γ[j]? = some none) (hx : scope.names.lookup x = some .local ∨ scope.names.lookup x = some .cell)
    (hpg : ∀ (s : Shared) (H : Hp) (C : Addr) (cl : List (Str × Addr)) (fp : List Addr), PG (X.blk s H scope (compEnvC scope cl C X.env) fp) (.Name x px) (gName j))
    (he : ∀ D (s : Shared) (H : Hp) (C : Addr) (cl : List (Str × Addr)) (fp : List Addr) a, a ∈ l → EX (X.blk s H scope (compEnvC scope cl C X.env) fp) (G.lk D) J (Γ.set j (some (fA a))) elt (fC a) J) :
    LX X G I Γ elt (.Name x px) iter [] scope (l.map fC) J := by
  have hl : j < Γ.length := by
    rcases Nat.lt_or_ge j Γ.length with z | z
    · exact z
    · rw [List.getElem?_eq_none z] at hw; cases hw
  refine lx_all (own := [(x, j)]) (fun _ A => Γ.set j (some A)) (fun _ => J) hi blk (by rw [List.length_map]; exact hz) (by rw [List.length_map, List.length_map]) (fun k hk => ?_) (fun k A _ => by rw [List.length_set]) hpg (fun U k A _ => gs_name hl) fun D s H C cl fp k A B eA eB => ?_
  · have : k = j := by simpa using hk
    subst this
    exact not_some hw
  · obtain ⟨a, e1, m, rfl⟩ := map_get eA
    obtain ⟨b, e2, _, rfl⟩ := map_get eB
    rw [e1] at e2; cases e2
    exact he D s H C cl fp a m
/-- [e for x in .. if c] -/
theorem lx_NI {p : ι → Bool} (j : Nat) (hi : IX X G I Γ (.Name x px) iter (l.map fA) J) (nd : X.N.Nodup) (hj : X.N[j]? = some x) (blk : blkC X.N X.env.scope scope [(x, j)] = true) (hz : l.length ≤ 100000) (hw : Γ[j]? = some none)
    (hpg : ∀ (s : Shared) (H : Hp) (C : Addr) (cl : List (Str × Addr)) (fp : List Addr), PG (X.blk s H scope (compEnvC scope cl C X.env) fp) (.Name x px) (gName j))
    (ht : ∀ D (s : Shared) (H : Hp) (C : Addr) (cl : List (Str × Addr)) (fp : List Addr) a, a ∈ l → TX (X.blk s H scope (compEnvC scope cl C X.env) fp) (G.lk D) J (Γ.set j (some (fA a))) c (· = p a) J)
    (he : ∀ D (s : Shared) (H : Hp) (C : Addr) (cl : List (Str × Addr)) (fp : List Addr) a, a ∈ l → p a = true → EX (X.blk s H scope (compEnvC scope cl C X.env) fp) (G.lk D) J (Γ.set j (some (fA a))) elt (fC a) J) :
    LX X G I Γ elt (.Name x px) iter [c] scope ((l.filter p).map fC) J := by
  have hl : j < Γ.length := by
    rcases Nat.lt_or_ge j Γ.length with z | z
    · exact z
    · rw [List.getElem?_eq_none z] at hw; cases hw
  refine lx_if (own := [(x, j)]) (fun a => Γ.set j (some (fA a))) hi blk hz (fun k hk => ?_) (fun a _ => by rw [List.length_set]) hpg (fun U a _ => gs_name hl) ht he
  have : k = j := by simpa using hk
  subst this
  exact not_some hw
/-- [e for x, y in ..] -/
theorem lx_T (i j : Nat) (hi : IX X G I Γ (.Tuple [.Name x px, .Name y py] kt pt) iter (l.map fun a => isTup X.K [f1 a, f2 a]) J) (blk : blkC X.N X.env.scope scope [(x, i), (y, j)] = true) (hz : l.length ≤ 100000) (hw : Γ[i]? = some none) (hw2 : Γ[j]? = some none)
    (hpg : ∀ (s : Shared) (H : Hp) (C : Addr) (cl : List (Str × Addr)) (fp : List Addr), PG (X.blk s H scope (compEnvC scope cl C X.env) fp) (.Tuple [.Name x px, .Name y py] kt pt) (gTup X.K 2 (gCons (gName i) (gCons (gName j) gNil))))
    (he : ∀ D (s : Shared) (H : Hp) (C : Addr) (cl : List (Str × Addr)) (fp : List Addr) a, a ∈ l → EX (X.blk s H scope (compEnvC scope cl C X.env) fp) (G.lk D) J ((Γ.set i (some (f1 a))).set j (some (f2 a))) elt (fC a) J) :
    LX X G I Γ elt (.Tuple [.Name x px, .Name y py] kt pt) iter [] scope (l.map fC) J := by
  have len : ∀ {k : Nat}, Γ[k]? = some none → k < Γ.length := fun {k} hw => by
    rcases Nat.lt_or_ge k Γ.length with z | z
    · exact z
    · rw [List.getElem?_eq_none z] at hw; cases hw
  refine lx_all (own := [(x, i), (y, j)]) (fun k _ => match l[k]? with | some a => (Γ.set i (some (f1 a))).set j (some (f2 a)) | none => Γ) (fun _ => J) hi blk (by rw [List.length_map]; exact hz) (by rw [List.length_map, List.length_map]) (fun k hk => ?_) (fun k A e => ?_) hpg (fun U k A e => ?_) fun D s H C cl fp k A B eA eB => ?_
  · have : k = i ∨ k = j := by simpa using hk
    rcases this with rfl | rfl
    · exact not_some hw
    · exact not_some hw2
  · obtain ⟨a, e1, m, rfl⟩ := map_get e
    simp only [e1, List.length_set]
  · obtain ⟨a, e1, m, rfl⟩ := map_get e
    simp only [e1]
    exact gs_tup2 (len hw) (len hw2)
  · obtain ⟨a, e1, m, rfl⟩ := map_get eA
    obtain ⟨b, e2, _, rfl⟩ := map_get eB
    rw [e1] at e2; cases e2
    simp only [e1]
    exact he D s H C cl fp a m
/-- drawn one by one -/
theorem lx_D {A : Asr} (j d n0 : Nat) (Iz : Nat → Iv G.M) (hi : IX X G I Γ (.Name x px) iter (l.map fA) (Iz n0)) (blk : blkC X.N X.env.scope scope [(x, j)] = true) (hz : l.length ≤ 100000) (hw : Γ[j]? = some none)
    (hpg : ∀ (s : Shared) (H : Hp) (C : Addr) (cl : List (Str × Addr)) (fp : List Addr), PG (X.blk s H scope (compEnvC scope cl C X.env) fp) (.Name x px) (gName j))
    (he : ∀ D (s : Shared) (H : Hp) (C : Addr) (cl : List (Str × Addr)) (fp : List Addr) k a, l[k]? = some a → k < l.length → EX (X.blk s H scope (compEnvC scope cl C X.env) fp) (G.lk D) (Iz (n0 + k * d)) (Γ.set j (some (fA a))) elt A (Iz (n0 + (k + 1) * d))) :
    LX X G I Γ elt (.Name x px) iter [] scope (List.replicate l.length A) (Iz (n0 + l.length * d)) := by
  have hl : j < Γ.length := by
    rcases Nat.lt_or_ge j Γ.length with z | z
    · exact z
    · rw [List.getElem?_eq_none z] at hw; cases hw
  have hi' : IX X G I Γ (.Name x px) iter (l.map fA) (Iz (n0 + 0 * d)) := by rw [Nat.zero_mul]; exact hi
  have r := lx_all (Cs := List.replicate l.length A) (own := [(x, j)]) (fun _ A => Γ.set j (some A)) (fun k => Iz (n0 + k * d)) hi' blk (by rw [List.length_map]; exact hz) (by rw [List.length_map, List.length_replicate]) (fun k hk => by
    have : k = j := by simpa using hk
    subst this
    exact not_some hw) (fun k A _ => by rw [List.length_set]) hpg (fun U k A _ => gs_name hl) fun D s H C cl fp k A' B eA eB => by
      obtain ⟨a, e1, m, rfl⟩ := map_get eA
      have hk : k < l.length := by
        rcases Nat.lt_or_ge k l.length with z | z
        · exact z
        · rw [List.getElem?_eq_none z] at e1; cases e1
      rw [List.getElem?_replicate, if_pos hk] at eB
      cases eB
      exact he D s H C cl fp k a e1 hk
  rw [List.length_map] at r
  exact r
end
/-- many that are each of one kind: a list of data -/
theorem AllA.repl {α : Type} {P : α → Prop} {f : α → Asr} {F : Hp} : ∀ {n : Nat} {vs : List V}, AllA (List.replicate n (exA P f)) F vs → ∃ xs : List α, xs.length = n ∧ (∀ x ∈ xs, P x) ∧ AllA (xs.map f) F vs
  | 0, vs, h => ⟨[], rfl, by simp, h⟩
  | n + 1, vs, ⟨v, r, e, ⟨x, p, hx⟩, hr⟩ => by
    obtain ⟨xs, l, q, a⟩ := AllA.repl hr
    refine ⟨x :: xs, by rw [List.length_cons, l], fun y hy => ?_, v, r, e, hx, a⟩
    rcases List.mem_cons.mp hy with rfl | hy
    · exact p
    · exact q y hy
theorem isNew_ex {α : Type} {P : α → Prop} {f : α → Asr} {n : Nat} (F : Hp) (v : V) (h : (isNew (List.replicate n (exA P f))).p F v) : (exA (fun xs : List α => xs.length = n ∧ ∀ x ∈ xs, P x) fun xs => isNew (xs.map f)).p F v := by
  obtain ⟨a, vs, e, h1, h2⟩ := h
  obtain ⟨xs, l, q, r⟩ := h2.repl
  exact ⟨xs, ⟨l, q⟩, a, vs, e, h1, r⟩
/-! ### a def, known by its name -/
structure Has (Pr : Program) (w : World) (K : PySem.W.Frag) (mg : Str → Option Value) (base : Heap) (x : Str) (ps : List Str) (sp : Sp) (k : Nat) : Prop where
  ex : ∃ (f : Addr) (fd : FuncData), (∃ st, Fun K x x st f fd) ∧ FnOk Pr w K mg base CX0 k f fd ps sp ∧ mg x = some (.ref f) ∧ PySem.W.keepIn K (.ref f) = true ∧ Binds K fd ps []
structure DefAt (K : PySem.W.Frag) (mg : Str → Option Value) (x : Str) (st : Stmt) : Prop where
  ex : ∃ (f : Addr) (fd : FuncData), Fun K x x st f fd ∧ mg x = some (.ref f)
section
variable {X : Cx} {G : Gx} {I J K : Iv G.M} {Γ : Slots} {e : Expr} {es : List Expr} {pos p : Pos} {x : Str} {ι : Type} {dom : ι → List Asr} {ok : ι → Prop} {cod : ι → Asr} {ps : List Str} {k n d : Nat} {ap ag : Addr} {Iz : Nat → Iv G.M}
theorem ex_callH {Pr : Program} {w : World} {K0 : PySem.W.Frag} {mg : Str → Option Value} {base : Heap} (C : Has Pr w K0 mg base x ps (spF dom ok cod) k) (hr : Room k X.A) (i : ι) (ha : AX X G I Γ (e :: es) (dom i) J) (hok : ok i) {A : Asr} (hA : cod i = A := by exact rfl) (hg : Gl X x := by rfl) (e1 : X.prog = Pr := by rfl) (e2 : X.w = w := by rfl) (e3 : X.K = K0 := by rfl) (e4 : X.mg = mg := by rfl) (e5 : X.base = base := by rfl) (hdb : (x == ("__debug__" : Str)) = false := by decide)
    (he : starEach (e :: es) X.env = (false, eval e X.env) :: starEach es X.env := by rfl) (hpl : (backTo pos (starEach es X.env)).any (·.1) = false := by rfl) : EX X G I Γ (.Call (.Name x p) (e :: es) [] pos) A J := by
  subst hA e1 e2 e3 e4 e5
  obtain ⟨f, fd, _, F, hm, hk, hb⟩ := C.ex
  exact ex_call (E := fun _ _ _ => False) F hr hg hm hk hb pass0 i ha hok hdb he hpl
theorem ex_drawH {Pr : Program} {w : World} {K0 : PySem.W.Frag} {mg : Str → Option Value} {base : Heap} (C : Has Pr w K0 mg base x ps (spD d dom ok cod) k) (hr : Room k X.A) (W : Drw G.M ap ag Iz) (i : ι) (h0 : EX X G I Γ e (isV (.ref ap)) (Iz n)) (ha : AX X G (Iz n) Γ es (dom i) (Iz n)) (hn : n + d ≤ 2 ^ 60) (hok : ok i) {A : Asr} (hA : cod i = A := by exact rfl) (hg : Gl X x := by rfl) (e1 : X.prog = Pr := by rfl) (e2 : X.w = w := by rfl) (e3 : X.K = K0 := by rfl) (e4 : X.mg = mg := by rfl) (e5 : X.base = base := by rfl) (hdb : (x == ("__debug__" : Str)) = false := by decide)
    (hst : starEach (e :: es) X.env = (false, eval e X.env) :: starEach es X.env := by rfl) (hpl : (backTo pos (starEach es X.env)).any (·.1) = false := by rfl) : EX X G I Γ (.Call (.Name x p) (e :: es) [] pos) A (Iz (n + d)) := by
  subst hA e1 e2 e3 e4 e5
  obtain ⟨f, fd, _, F, hm, hk, hb⟩ := C.ex
  exact ex_draw (E := fun _ _ _ => False) F hr hg hm hk hb pass0 W i h0 ha hn hok hdb hst hpl
end
end L2.PL
namespace L2.PL
open PySem PySem.Spec PyProof.Rows
/-! ### a list of one's own, that is stored into -/
abbrev Gx.own (G : Gx) (D : Addr) (h : G.H0 D = none) : Gx := ⟨fun a => G.M a ∨ a = D, G.L, G.M0, G.H0, fun a m => .inl (G.sub a m), fun a m => m.elim (G.fr a) fun e => .inr (e ▸ h)⟩
def Iv.own {M : Addr → Prop} (I : Iv M) (D : Addr) (vs : List V) : Iv (fun a => M a ∨ a = D) := ⟨fun H => I.p H ∧ H D = some (.lst vs), fun H H' e h => ⟨I.dep H H' (fun a m => e a (.inl m)) h.1, by rw [e D (.inr rfl)]; exact h.2⟩⟩
def isOwn (D : Addr) (vs : List V) (As : List Asr) : Asr := ⟨fun F v => v = .ref D ∧ AllA As F vs, fun s h => ⟨h.1, h.2.mono s⟩⟩
theorem Gx.own_U {G : Gx} {D a : Addr} {h : G.H0 D = none} : (G.own D h).U a ↔ G.U a ∨ a = D := by
  show ((G.M a ∨ a = D) ∨ G.L a) ↔ ((G.M a ∨ G.L a) ∨ a = D)
  constructor
  · rintro ((h | h) | h)
    · exact .inl (.inl h)
    · exact .inr h
    · exact .inl (.inr h)
  · rintro ((h | h) | h)
    · exact .inl (.inl h)
    · exact .inr h
    · exact .inl (.inr h)
/-- an invariant that knows a list of one's own -/
structure Owns (M : Addr → Prop) (I : Iv M) (D : Addr) (vs : List V) (I' : List V → Iv M) : Prop where
  mem : M D
  get : ∀ H, I.p H → H D = some (.lst vs)
  put : ∀ H H' ws, I.p H → H' D = some (.lst ws) → (∀ a, M a → a ≠ D → H' a = H a) → (I' ws).p H'
theorem owns_top {M : Addr → Prop} {I : Iv M} {D : Addr} {vs : List V} (n : ¬ M D) : Owns (fun a => M a ∨ a = D) (I.own D vs) D vs (fun ws => I.own D ws) :=
  ⟨.inr rfl, fun _ h => h.2, fun H H' ws h e k => ⟨I.dep H H' (fun a m => k a (.inl m) fun z => n (z ▸ m)) h.1, e⟩⟩
theorem owns_up {M : Addr → Prop} {I : Iv M} {D D2 : Addr} {vs ws : List V} {I' : List V → Iv M} (n : ¬ M D2) (W : Owns M I D vs I') : Owns (fun a => M a ∨ a = D2) (I.own D2 ws) D vs (fun us => (I' us).own D2 ws) :=
  ⟨.inl W.mem, fun _ h => W.get _ h.1, fun H H' us h e k => ⟨W.put H H' us h.1 e fun a m z => k a (.inl m) z, by rw [k D2 (.inr rfl) fun z => n (z ▸ W.mem)]; exact h.2⟩⟩
theorem drw_own {M : Addr → Prop} {ap ag D : Addr} {Iz : Nat → Iv M} {vs : List V} (n : ¬ M D) (W : Drw M ap ag Iz) : Drw (fun a => M a ∨ a = D) ap ag (fun k => (Iz k).own D vs) :=
  ⟨.inl W.hp, .inl W.hg, fun k H h => W.pool k H h.1, fun k m H H' h p e => ⟨W.back k m H H' h.1 p fun a ma => e a (.inl ma), by rw [e D (.inr rfl) (fun z => n (z ▸ W.hp)) (fun z => n (z ▸ W.hg))]; exact h.2⟩⟩
/-- a new list -/
def NX (X : Cx) (G : Gx) (I : Iv G.M) (Γ : Slots) (e : Expr) (As : List Asr) (J : Iv G.M) : Prop := ∀ (σ : St) (H : Hp) (Q : VK), G.Ok I Γ σ H → (∀ H' D vs, G.To J H H' → H D = none → H' D = some (.lst vs) → AllA As (fz (G.lk D).U H') vs → Q (.ref D) H') → wE X e σ H Q
section
variable {X : Cx} {G : Gx} {I J K K2 : Iv G.M} {Γ : Slots} {e a b : Expr} {es : List Expr} {A B : Asr} {As Bs : List Asr} {pos pos' py spos p : Pos} {sts : List Stmt} {E : Ends} {i : Nat} {x y : Str}
theorem NX.ex (h : NX X G I Γ e As J) : EX X G I Γ e (isNew As) J := fun σ H Q k q => h σ H Q k fun H' D acc t n e a => q H' _ t (new_of k n e a)
theorem NX.imp (h : NX X G I Γ e As J) (f : ∀ F vs, AllA As F vs → AllA Bs F vs) : NX X G I Γ e Bs J := fun σ H Q k q => h σ H Q k fun H' D acc t n e a => q H' D acc t n e (f _ _ a)
theorem none_of (t : G.To J H H') (k : ∀ a, G.U a → H' a ≠ none) {p : Addr} (h : H' p = none) : H p = none := by
  cases z : H p with
  | none => rfl
  | some o =>
    by_cases m : G.M p
    · exact absurd h (k p (.inl m))
    · have := t.keep p o m z
      rw [h] at this; cases this
theorem fz_lk {H : Hp} {p : Addr} {o : HO} (h : H p = none) : Sm (fz G.U H) (fz (G.lk p).U (upd H p o)) := fun a u e => by
  obtain ⟨n, e⟩ := fz_some e
  have ne : a ≠ p := ne_of_none e h
  rw [fz_neg fun z => (Gx.lk_U.mp z).elim n ne, upd_ne ne]; exact e
theorem nx_lst (h : AX X G I Γ es As J) (hz : As.length ≤ 100000) : NX X G I Γ (.List es pos) As J := fun σ H Q k q =>
  PE.w (pe_lst pa_wA) (h σ H _ k fun H1 xs t1 r => ⟨small_sz (by rw [r.len]; exact hz), fun p hp => q _ _ _ (t1.new' hp) (none_of t1 t1.live hp) upd_same (r.mono (fz_lk hp))⟩)
theorem nx_rep {n : Nat} (ha : EX X G I Γ a (isNew As) J) (hb : EX X G J Γ b (aInt (n : Int)) K) (hz : As.length * n ≤ 100000) (hn : n ≤ 100000) : NX X G I Γ (.BinOp a .Mult b pos) (List.replicate n As).flatten K := fun σ H Q k q =>
  PE.w (pe_op op_rep pe_wE pe_wE) (ha σ H _ k fun H1 x t1 a1 => hb σ H1 _ (k.to t1) fun H2 y t2 b2 => by
    obtain ⟨p, vs, rfl, h, r⟩ := (isNew As).mono t2.fz a1
    cases b2
    have h' : H2 p = some (.lst vs) := fz_sub _ _ h
    refine ⟨p, (n : Int), vs, rfl, rfl, h', by omega, by omega, ?_, fun z hz' => ?_⟩
    · rw [r.len, Int.toNat_natCast]; exact small_sz hz
    · rw [Int.toNat_natCast]
      exact q _ _ _ ((t1.trans t2).new' hz') (none_of (t1.trans t2) t2.live hz') upd_same ((r.reps n).mono (fz_lk hz')))
theorem nx_lc {elt tg iter : Expr} {ifs : List Expr} {scope : Scope} (hc : X.calm = true) (nd : X.N.Nodup) (h : LX X G I Γ elt tg iter ifs scope As J) (hs : ∀ x, foldedSetIterable iter X.env x = pure x := by intro _; rfl) : NX X G I Γ (.ListComp elt [⟨tg, iter, ifs, 0⟩] scope pos) As J := fun σ H Q k q => by
  obtain ⟨wi, g, tt, te, own, h1, h2, h3, h4, h5, h6⟩ := h
  exact PE.w (pe_lc hc nd h1 h2 h3 h4 h5 hs) (h6 σ H Q k q)
/-- the store of a new list, that is one's own from here on -/
theorem Gx.Ok.own {σ : St} {H H' : Hp} {D : Addr} {vs : List V} (k : G.Ok I Γ σ H) (t : G.To J H H') (n : H D = none) (e : H' D = some (.lst vs)) (a : AllA As (fz (G.lk D).U H') vs) (hl : i < Γ.length) :
    ∃ (h0 : G.H0 D = none) (hM : ¬ G.U D), (G.own D h0).Ok (J.own D vs) (Γ.set i (some (isOwn D vs As))) (σ.set i (some (.ref D))) H' := by
  have hU : ¬ G.U D := fun m => k.live D m n
  have h0 : G.H0 D = none := by
    cases z : G.H0 D with
    | none => rfl
    | some o => 
      by_cases m : G.M0 D
      · exact absurd n (k.live D (.inl (G.sub D m)))
      · have := k.frame D o m z
        rw [n] at this; cases this
  have sm : Sm (fz G.U H) (fz (G.own D h0).U H') := fun b o eb => by
    obtain ⟨nb, eb⟩ := fz_some eb
    have ne : b ≠ D := ne_of_none eb n
    rw [fz_neg fun z => (Gx.own_U.mp z).elim nb ne]
    exact t.keep b o (fun z => nb (.inl z)) eb
  have le : Sm (fz (G.lk D).U H') (fz (G.own D h0).U H') := fz_less fun b z => Gx.lk_U.mpr (Gx.own_U.mp z)
  refine ⟨h0, hU, ⟨(k.to t).frame, fun b u => ?_, ⟨t.inv, e⟩, ?_, ?_⟩⟩
  · rcases Gx.own_U.mp u with u | u
    · exact t.live b u
    · rw [u, e]; exact fun w => nomatch w
  · exact (k.sat.mono sm).set (by rw [k.len]; exact hl) ⟨rfl, a.mono le⟩
  · rw [List.length_set, List.length_set]; exact k.len
theorem sx_own (nd : X.N.Nodup) (hi : X.N[i]? = some x) (hx : Loc X.env.scope x) (hl : i < Γ.length) (he : NX X G I Γ e As J)
    (hr : ∀ (D : Addr) (vs : List V) (h : G.H0 D = none), ¬ G.U D → vs.length = As.length → SX X (G.own D h) (J.own D vs) (Γ.set i (some (isOwn D vs As))) sts E)
    (hs : swapsWith e (some (.Name x pos')) pos.line X.env = pure false := by rfl) (hf : X.fn x = true ∨ X.env.scope.names.lookup x = some .local := by first | exact .inl rfl | exact .inr rfl) :
    SX X G I Γ (.Assign [.Name x pos'] e pos :: sts) E := fun σ H k =>
  wB_cons (PS.w (ps_set nd hi hx pe_wE hs hf) (he σ H _ k fun H1 D vs t1 n e a => by
    obtain ⟨h0, hM, k1⟩ := k.own (i := i) t1 n e a hl
    exact hr D vs h0 hM a.len _ _ k1))
theorem sx_ownLc {elt tg iter : Expr} {ifs : List Expr} {scope : Scope} (hc : X.calm = true) (nd : X.N.Nodup) (hy : X.N[i]? = some y) (hyl : X.env.scope.names.lookup y = some .local) (hl : i < Γ.length) (h : LX X G I Γ elt tg iter ifs scope As J)
    (hr : ∀ (D : Addr) (vs : List V) (h : G.H0 D = none), ¬ G.U D → vs.length = As.length → SX X (G.own D h) (J.own D vs) (Γ.set i (some (isOwn D vs As))) sts E)
    (hsw : swapsWith (.ListComp elt [⟨tg, iter, ifs, 0⟩] scope pos) (some (.Name y py)) spos.line X.env = pure true) (hs : ∀ x, foldedSetIterable iter X.env x = pure x := by intro _; rfl) :
    SX X G I Γ (.Assign [.Name y py] (.ListComp elt [⟨tg, iter, ifs, 0⟩] scope pos) spos :: sts) E := fun σ H k => by
  obtain ⟨wi, g, tt, te, own, h1, h2, h3, h4, h5, h6⟩ := h
  exact wB_cons (PS.w (ps_setLc hc nd hy hyl hsw h1 h2 h3 h4 h5 hs) (h6 σ H _ k fun H1 D vs t1 n e a => by
    obtain ⟨h0, hM, k1⟩ := k.own (i := i) t1 n e a hl
    exact hr D vs h0 hM a.len _ _ k1))
theorem sx_free {D : Addr} {vs : List V} {h0 : G.H0 D = none} (i : Nat) (hU : ¬ G.U D) (hg : Γ[i]? = some (some (isOwn D vs As))) (hr : SX X G J (Γ.set i (some (isNew As))) sts E) : SX X (G.own D h0) (J.own D vs) Γ sts E := fun σ H k => by
  have le : Sm (fz (G.own D h0).U H) (fz G.U H) := fz_less fun a z => Gx.own_U.mpr (.inl z)
  obtain ⟨v, e1, e2, a⟩ := k.sat i _ hg
  have hl : i < σ.length := by
    rcases Nat.lt_or_ge i σ.length with z | z
    · exact z
    · rw [List.getElem?_eq_none z] at e1; cases e1
  have es : σ.set i (some v) = σ := by
    apply List.ext_getElem?
    intro j
    by_cases q : i = j
    · subst q; rw [List.getElem?_set_self hl, e1]
    · rw [List.getElem?_set_ne q]
  have st : Sat (Γ.set i (some (isNew As))) (fz G.U H) (σ.set i (some v)) := (k.sat.mono le).set hl (by
    subst e2
    exact ⟨D, vs, rfl, by rw [fz_neg hU]; exact k.inv.2, a.mono le⟩)
  rw [es] at st
  exact hr σ H ⟨k.frame, fun a u => k.live a (Gx.own_U.mpr (.inl u)), k.inv.1, st, by rw [List.length_set]; exact k.len⟩
/-- x[k] = e -/
theorem sx_store {D : Addr} {vs : List V} {P : Int → Prop} {I' : List V → Iv G.M} {o ix : Expr} {ps : Pos} (i : Nat) (hl : i < Γ.length) (W : Owns G.M K D vs I') (he : EX X G I Γ e A J) (ho : EX X G J Γ o (isOwn D vs As) J) (hx : EX X G J Γ ix (exA P aInt) K) (hn : ∀ k, P k → 0 ≤ k ∧ k < (As.length : Int))
    (hg : Γ[i]? = some (some (isOwn D vs As)))
    (hr : ∀ (k : Nat) (v : V), P (k : Int) → k < As.length → SX X G (I' (vs.set k v)) (Γ.set i (some (isOwn D (vs.set k v) (As.set k A)))) sts E)
    (hs : swapsWithSole [.Subscript o ix ps] e pos.line X.env = pure false := by rfl) (hw : swappedStores [.Subscript o ix ps] e X.env = pure none := by rfl)
    (h1 : (assignEach [.Subscript o ix ps] X.env).map (·.2) = [assign (.Subscript o ix ps) X.env] := by rfl)
    (ha : ∀ v, assign (.Subscript o ix ps) X.env v = (do
      let ov ← holding [v] (eval o X.env)
      let iv ← holding [v, ov] (eval ix X.env)
      standAt ps
      holding [v, ov, iv] (setItem ov iv v)
      release [v, ov, iv] []) := by intro _; rfl) :
    SX X G I Γ (.Assign [.Subscript o ix ps] e pos :: sts) E := fun σ H k =>
  wB_cons (PS.w (ps_asg pe_wE (pg_sub pe_wE pe_wE set_list ha) hs hw h1) (he σ H _ k fun H1 v t1 a1 => ho σ H1 _ (k.to t1) fun H2 w t2 o2 => hx σ H2 _ ((k.to t1).to t2) fun H3 z t3 ⟨n, pn, ez⟩ => by
    obtain ⟨e1, r⟩ := o2
    cases ez
    subst e1
    obtain ⟨p1, p2⟩ := hn n pn
    have k3 := ((k.to t1).to t2).to t3
    have eD := W.get H3 t3.inv
    have hlen : vs.length = As.length := r.len
    have hnn : (n.toNat : Int) = n := by omega
    have hlt : n.toNat < As.length := by omega
    refine ⟨D, vs, n, n.toNat, rfl, rfl, eD, ?_, ?_⟩
    · unfold ixN
      rw [if_pos p1, if_pos (by omega)]
    have mD : ∀ a, a ≠ D → ¬ G.U a → upd H3 D (.lst (vs.set n.toNat v)) a = H3 a := fun a z _ => upd_ne z
    have fzD : fz G.U (upd H3 D (.lst (vs.set n.toNat v))) = fz G.U H3 := by
      funext a
      by_cases z : G.U a
      · rw [fz_pos z, fz_pos z]
      · rw [fz_neg z, fz_neg z, upd_ne fun w => z (by rw [w]; exact .inl W.mem)]
    refine hr n.toNat v (by rw [hnn]; exact pn) hlt _ _ ⟨fun a o m e => ?_, fun a u => ?_, W.put H3 _ _ t3.inv upd_same (fun a _ z => upd_ne z), ?_, ?_⟩
    · by_cases z : a = D
      · subst z
        rcases G.fr a W.mem with q | q
        · exact absurd q m
        · rw [q] at e; cases e
      · rw [upd_ne z]; exact k3.frame a o m e
    · by_cases z : a = D
      · rw [z, upd_same]; exact fun w => nomatch w
      · rw [upd_ne z]; exact k3.live a u
    · rw [fzD]
      have st := k3.sat
      have ra : AllA As (fz G.U H3) vs := r.mono t3.fz
      have av : A.p (fz G.U H3) v := A.mono (t2.trans t3).fz a1
      obtain ⟨v0, e0, q0, _⟩ := st i _ hg
      intro j B ej
      by_cases q : i = j
      · subst q
        rw [List.getElem?_set_self hl] at ej
        cases ej
        exact ⟨v0, e0, q0, ra.set av⟩
      · rw [List.getElem?_set_ne q] at ej
        exact st j B ej
    · rw [List.length_set]; exact k3.len))
/-- x.append(e) -/
theorem sx_append {D : Addr} {vs : List V} {I' : List V → Iv G.M} {o : Expr} {apos cpos : Pos} (i : Nat) (hl : i < Γ.length) (W : Owns G.M K D vs I') (ho : EX X G I Γ o (isOwn D vs As) I) (he : EX X G I Γ e A K) (hg : Γ[i]? = some (some (isOwn D vs As))) (hz : As.length < 100000) (hWI : Owns G.M I D vs I')
    (hr : ∀ v : V, SX X G (I' (vs ++ [v])) (Γ.set i (some (isOwn D (vs ++ [v]) (As ++ [A])))) sts E)
    (hbase : attributeBase o "append" X.env (eval o X.env) = eval o X.env := by rfl)
    (hfew : ((backTo cpos (starEach [e] X.env)).all (fun x => !x.1) && (backToKw cpos (keywordEach [] X.env)).all (fun x => x.1.isSome)
      && decide ([e].length + ([] : List Keyword).length + (if ([] : List Keyword).isEmpty then 0 else 1) < 30)) = true := by rfl)
    (hline : (apos.endLine == cpos.line) = true := by rfl) (hs' : starEach [e] X.env = (false, eval e X.env) :: starEach [] X.env := by rfl) (hplain : (backTo cpos (starEach [] X.env)).any (·.1) = false := by rfl)
    (hs : swapsWith (.Call (.Attribute o "append" apos) [e] [] cpos) none pos.line X.env = pure false := by rfl) :
    SX X G I Γ (.Expr (.Call (.Attribute o "append" apos) [e] [] cpos) pos :: sts) E := fun σ H k =>
  wB_cons (PS.w (ps_expr (pe_bm PySem.F.plainAttrs_list PySem.F.slot_list_append PySem.F.type_list_append mt_append pe_wE (pa_cons pe_wE pa_nil hs') hbase hfew hline hs' hplain) hs) (ho σ H _ k fun H1 w t1 o1 => by
    obtain ⟨e1, r⟩ := o1
    subst e1
    refine ⟨.inl ⟨rfl, vs, .inl (.inl (hWI.get H1 t1.inv))⟩, he σ H1 _ (k.to t1) fun H2 v t2 a2 => ?_⟩
    have k3 := (k.to t1).to t2
    have eD := W.get H2 t2.inv
    have hlen : vs.length = As.length := r.len
    refine ⟨D, vs, v, rfl, rfl, eD, by rw [hlen, sizeLine_eq]; omega, ?_⟩
    have fzD : fz G.U (upd H2 D (.lst (vs ++ [v]))) = fz G.U H2 := by
      funext a
      by_cases z : G.U a
      · rw [fz_pos z, fz_pos z]
      · rw [fz_neg z, fz_neg z, upd_ne fun w => z (by rw [w]; exact .inl W.mem)]
    refine hr v _ _ ⟨fun a o m e => ?_, fun a u => ?_, W.put H2 _ _ t2.inv upd_same (fun a _ z => upd_ne z), ?_, ?_⟩
    · by_cases z : a = D
      · subst z
        rcases G.fr a W.mem with q | q
        · exact absurd q m
        · rw [q] at e; cases e
      · rw [upd_ne z]; exact k3.frame a o m e
    · by_cases z : a = D
      · rw [z, upd_same]; exact fun w => nomatch w
      · rw [upd_ne z]; exact k3.live a u
    · rw [fzD]
      have st := k3.sat
      have ra : AllA As (fz G.U H2) vs := r.mono t2.fz
      obtain ⟨v0, e0, q0, _⟩ := st i _ hg
      intro j B ej
      by_cases q : i = j
      · subst q
        rw [List.getElem?_set_self hl] at ej
        cases ej
        exact ⟨v0, e0, q0, ra.app (AllA.one a2)⟩
      · rw [List.getElem?_set_ne q] at ej
        exact st j B ej
    · rw [List.length_set]; exact k3.len))
/-- x[k], x one's own -/
theorem ex_ixO {D : Addr} {vs : List V} {I' : List V → Iv G.M} {j : Int} {k : Nat} (W : Owns G.M K D vs I') (hs : PlainIx b) (ha : EX X G I Γ a (isOwn D vs As) J) (hb : EX X G J Γ b (aInt j) K) (hj : j = (k : Int)) (hA : As[k]? = some A) : EX X G I Γ (.Subscript a b pos) A K := fun σ H Q kk q =>
  PE.w (pe_ix ix_list pe_wE pe_wE hs) (ha σ H _ kk fun H1 x t1 a1 => hb σ H1 _ (kk.to t1) fun H2 y t2 b2 => by
    obtain ⟨rfl, r⟩ := (isOwn D vs As).mono t2.fz a1
    obtain ⟨v, e, w⟩ := r.get hA
    subst hj
    cases b2
    exact ⟨D, vs, _, v, rfl, rfl, .inl (.inl (W.get H2 t2.inv)), atI_nat e, q H2 v (t1.trans t2) w⟩)
/-- len(x), x one's own -/
theorem ex_lenO {D : Addr} {vs : List V} {I' : List V → Iv G.M} (W : Owns G.M J D vs I') (hg : Gl X "len") (hm : X.mg "len" = none) (ha : EX X G I Γ e (isOwn D vs As) J) (hs : starEach [e] X.env = (false, eval e X.env) :: starEach [] X.env := by rfl) (hpl : (backTo pos (starEach [] X.env)).any (·.1) = false := by rfl) : EX X G I Γ (.Call (.Name "len" p) [e] [] pos) (aInt (As.length : Int)) J := fun σ H Q k q =>
  PE.w (pe_callB call_len_seq hg hm PySem.boot_len pa_wA (by decide) (by decide) hs hpl) (ax_cons ha ax_nil hs σ H _ k fun H1 vs' t1 ⟨v, r, e1, ⟨e2, rr⟩, e3⟩ => by
    cases e3; subst e2; subst e1
    exact ⟨D, vs, rfl, .inl (.inl (.inl (W.get H1 t1.inv))), q H1 _ t1 (by rw [rr.len]; rfl)⟩)
end
/-! ### while -/
section
variable {X : Cx} {G : Gx} {I : Iv G.M} {Γ : Slots} {c : Expr} {pos : Pos} {sts body : List Stmt} {D : Ends}
theorem sx_while {ι : Type} (Iz : ι → Iv G.M) (Γs : ι → Slots) (μ : ι → Nat) (Iw : ι → Prop) (P : ι → Bool → Prop) (x0 : ι) (hp : PassesOwn (model X.prog X.w) X.A X.env X.xe) (w0 : Iw x0) (h0 : ∀ σ H, G.Ok I Γ σ H → G.Ok (Iz x0) (Γs x0) σ H)
    (hc : ∀ x, Iw x → TX X G (Iz x) (Γs x) c (P x) (Iz x))
    (hb : ∀ x, Iw x → P x true → SX X G (Iz x) (Γs x) body { D with nx := fun σ H => ∃ y, μ y < μ x ∧ Iw y ∧ G.Ok (Iz y) (Γs y) σ H, ct := fun σ H => ∃ y, μ y < μ x ∧ Iw y ∧ G.Ok (Iz y) (Γs y) σ H, bk := wB X sts D })
    (hd : ∀ x, Iw x → P x false → SX X G (Iz x) (Γs x) sts D) : SX X G I Γ (.While c body [] pos :: sts) D := fun σ H k => by
  refine wB_cons (PS.w (ps_while hp pt_wT pss_wB) ?_)
  refine ⟨fun m σ H => ∃ x, μ x = m ∧ Iw x ∧ G.Ok (Iz x) (Γs x) σ H, ⟨μ x0, x0, rfl, w0, h0 σ H k⟩, ?_⟩
  rintro m σ H ⟨x, rfl, wx, kx⟩
  refine hc x wx σ H _ kx fun H1 b t1 pb => ?_
  have k1 := kx.to t1
  cases b with
  | true =>
    rw [if_pos rfl]
    refine ⟨fun σ H => ∃ y, μ y < μ x ∧ Iw y ∧ G.Ok (Iz y) (Γs y) σ H, fun σ' H' ⟨y, h1, h2, h3⟩ => ⟨μ y, h1, y, rfl, h2, h3⟩, hb x wx pb _ _ k1⟩
  | false =>
    rw [if_neg Bool.false_ne_true]
    exact hd x wx pb _ _ k1
end
/-! ### a for with something that is not told beforehand -/
section
variable {X : Cx} {G : Gx} {I J K : Iv G.M} {Γ : Slots} {tg iter e : Expr} {As : List Asr} {A : Asr} {pos px : Pos} {sts body : List Stmt} {D : Ends} {x : Str} {ι α : Type} {l : List α} {fA : α → Asr}
theorem sx_forX {g : TG} {vs : List Nat} (Iz : Nat → ι → Iv G.M) (Γs : Nat → ι → Slots) (Γk : Nat → ι → Asr → Slots) (Pk : Nat → ι → Prop) (x0 : ι) (hp : PassesOwn (model X.prog X.w) X.A X.env X.xe) (hc : X.calm = true) (hi : IX X G I Γ tg iter As (Iz 0 x0)) (hg : PG X tg g) (p0 : Pk 0 x0) (h0 : Low (Γs 0 x0) Γ)
    (hsem : ∀ k y A, As[k]? = some A → GSem G.U g A (Γs k y) (Γk k y A) vs)
    (hs : ∀ H1 Γ1 σ1 k y A, As[k]? = some A → Pk k y → G.Ok (Iz 0 x0) Γ1 σ1 H1 → SX X (G.re H1) (Iz k y) (Γk k y A) body { D with nx := fun σ H => ∃ z, Pk (k + 1) z ∧ (G.re H1).Ok (Iz (k + 1) z) (Γs (k + 1) z) σ H, ct := fun σ H => ∃ z, Pk (k + 1) z ∧ (G.re H1).Ok (Iz (k + 1) z) (Γs (k + 1) z) σ H, bk := wB X sts D })
    (hd : ∀ y, Pk As.length y → SX X G (Iz As.length y) (Γs As.length y) sts D) (hf : ∀ x, foldedSetIterable iter X.env x = pure x := by intro _; rfl) : SX X G I Γ (.For tg iter body [] pos :: sts) D := fun σ H k => by
  obtain ⟨wi, hi1, hi2⟩ := hi
  refine wB_cons (PS.w (ps_for hp hc hi1 hg pss_wB hf) (hi2 σ H _ k fun T H1 t1 wk => ?_))
  have k1 := (k.to t1).low h0
  refine ⟨fun i m σ2 H2 => m = As.length - i ∧ i ≤ As.length ∧ ∃ y, Pk i y ∧ (G.re H1).Ok (Iz i y) (Γs i y) σ2 H2, ⟨As.length, by omega, Nat.zero_le _, x0, p0, k1.at⟩, ?_⟩
  rintro i m σ2 H2 ⟨rfl, hle, y, py, k2⟩
  have s2 : Sm (fz G.U H1) (fz G.U H2) := fun a o e => by
    obtain ⟨n, e⟩ := fz_some e
    rw [fz_neg n]; exact k2.frame a o (fun z => n (.inl z)) e
  by_cases hlt : i < As.length
  · have eA := List.getElem?_eq_getElem hlt
    refine .inr ⟨wk.go _ H2 s2 i hlt, fun σ H => ∃ z, Pk (i + 1) z ∧ (G.re H1).Ok (Iz (i + 1) z) (Γs (i + 1) z) σ H, fun σ' H' p' => ⟨As.length - (i + 1), by omega, rfl, hlt, p'⟩, fun x H3 y' => ?_⟩
    obtain ⟨s3, ax⟩ := wk.yld _ H2 s2 k2.live i x H3 _ eA y'
    have t3 : (G.re H1).To (Iz i y) H2 H3 := To.sm (G := G.re H1) k2.live k2.inv s3
    have k3 := k2.to t3
    refine hsem i y _ eA x σ2 H3 _ k3.sat k3.len ax fun σ' st ln _ => ?_
    exact hs H1 _ _ i y _ eA py k1 σ' H3 ⟨k3.frame, k3.live, k3.inv, st, ln⟩
  · have e : i = As.length := by omega
    subst e
    exact .inl ⟨wk.stop _ H2 s2 _ (Nat.le_refl _), hd y py σ2 H2 (k1.back k2)⟩
theorem sx_forNX (j : Nat) (Iz : Nat → ι → Iv G.M) (Γs : Nat → ι → Slots) (Pk : Nat → ι → Prop) (x0 : ι) (hp : PassesOwn (model X.prog X.w) X.A X.env X.xe) (hc : X.calm = true) (nd : X.N.Nodup) (hj : X.N[j]? = some x) (hx : Loc X.env.scope x) (hf' : X.fn x = true ∨ X.env.scope.names.lookup x = some .local)
    (hi : IX X G I Γ (.Name x px) iter (l.map fA) (Iz 0 x0)) (p0 : Pk 0 x0) (h0 : Low (Γs 0 x0) Γ) (hl : ∀ k y, j < (Γs k y).length)
    (hs : ∀ H1 Γ1 σ1 k y a, l[k]? = some a → a ∈ l → k < l.length → Pk k y → G.Ok (Iz 0 x0) Γ1 σ1 H1 → SX X (G.re H1) (Iz k y) ((Γs k y).set j (some (fA a))) body { D with nx := fun σ H => ∃ z, Pk (k + 1) z ∧ (G.re H1).Ok (Iz (k + 1) z) (Γs (k + 1) z) σ H, ct := fun σ H => ∃ z, Pk (k + 1) z ∧ (G.re H1).Ok (Iz (k + 1) z) (Γs (k + 1) z) σ H, bk := wB X sts D })
    (hd : ∀ y, Pk l.length y → SX X G (Iz l.length y) (Γs l.length y) sts D) (hf : ∀ x, foldedSetIterable iter X.env x = pure x := by intro _; rfl) : SX X G I Γ (.For (.Name x px) iter body [] pos :: sts) D := by
  refine sx_forX (vs := [j]) Iz Γs (fun k y A => (Γs k y).set j (some A)) Pk x0 hp hc hi (pg_name nd hj hx hf') p0 h0 (fun k y A _ => gs_name (hl k y)) (fun H1 Γ1 σ1 k y A e py k1 => ?_) (fun y py => by rw [List.length_map] at py ⊢; exact hd y py) hf
  obtain ⟨a, e1, m, rfl⟩ := map_get e
  refine hs H1 Γ1 σ1 k y a e1 m ?_ py k1
  rcases Nat.lt_or_ge k l.length with z | z
  · exact z
  · rw [List.getElem?_eq_none z] at e1; cases e1
end
/-! ### what is drawn, in sums and the like -/
section
variable {X : Cx} {G : Gx} {I J K : Iv G.M} {Γ : Slots} {e a b : Expr} {es : List Expr} {A B C : Asr} {As : List Asr} {pos p : Pos}
theorem exA_of {α : Type} {P : α → Prop} {f : α → Asr} {F : Hp} {v : V} (x : α) (p : P x) (h : (f x).p F v) : (exA P f).p F v := ⟨x, p, h⟩
theorem EX.dr {i : Int} (h : EX X G I Γ e (aInt i) J) : EX X G I Γ e (exA (· = i) aInt) J := h.imp fun _ _ r => ⟨i, rfl, r⟩
theorem ex_opD {op : Operator} {g : Int → Int → Int} {P Q R : Int → Prop} (ho : OpR X (binaryOp op) (rI0 fun i j => .int (g i j))) (ha : EX X G I Γ a (exA P aInt) J) (hb : EX X G J Γ b (exA Q aInt) K) (h : ∀ i j, P i → Q j → R (g i j)) : EX X G I Γ (.BinOp a op b pos) (exA R aInt) K :=
  ex_op2 ho ha hb fun F x y ⟨i, pi, ex⟩ ⟨j, pj, ey⟩ H Qq _ q => by
    cases ex; cases ey
    exact ⟨i, j, rfl, rfl, q _ ⟨_, h i j pi pj, rfl⟩⟩
theorem ex_addD {P Q R : Int → Prop} (ha : EX X G I Γ a (exA P aInt) J) (hb : EX X G J Γ b (exA Q aInt) K) (h : ∀ i j, P i → Q j → R (i + j)) : EX X G I Γ (.BinOp a .Add b pos) (exA R aInt) K := ex_opD op_add ha hb h
theorem ex_subD {P Q R : Int → Prop} (ha : EX X G I Γ a (exA P aInt) J) (hb : EX X G J Γ b (exA Q aInt) K) (h : ∀ i j, P i → Q j → R (i - j)) : EX X G I Γ (.BinOp a .Sub b pos) (exA R aInt) K := ex_opD op_sub ha hb h
theorem ex_mulD {m n : Nat} {P Q R : Int → Prop} (ha : EX X G I Γ a (exA P aInt) J) (hb : EX X G J Γ b (exA Q aInt) K) (h1 : ∀ i, P i → Bits m i) (h2 : ∀ j, Q j → Bits n j) (hmn : m + n ≤ 134217728) (h : ∀ i j, P i → Q j → R (i * j)) : EX X G I Γ (.BinOp a .Mult b pos) (exA R aInt) K :=
  ex_op2 op_mulX ha hb fun F x y ⟨i, pi, ex⟩ ⟨j, pj, ey⟩ H Qq _ q => by
    cases ex; cases ey
    exact ⟨i, j, rfl, rfl, mulx_ok (h1 i pi) (h2 j pj) hmn, q _ ⟨_, h i j pi pj, rfl⟩⟩
theorem ex_negD {P R : Int → Prop} (ha : EX X G I Γ a (exA P aInt) J) (h : ∀ i, P i → R (-i)) : EX X G I Γ (.UnaryOp .USub a pos) (exA R aInt) J := fun σ H Q k q => PE.w (pe_un un_neg pe_wE) (ha σ H _ k fun H1 x t1 ⟨i, pi, a1⟩ => ⟨i, a1, q H1 _ t1 ⟨_, h i pi, rfl⟩⟩)
/-- one of some ints -/
theorem ex_ixD {P R : Int → Prop} (hs : PlainIx b) (ha : EX X G I Γ a (isLst X.K As) J) (hb : EX X G J Γ b (exA P aInt) K) (hP : ∀ i, P i → 0 ≤ i ∧ i < (As.length : Int)) (hA : ∀ (k : Nat) A F v, P (k : Int) → As[k]? = some A → A.p F v → C.p F v) : EX X G I Γ (.Subscript a b pos) C K := fun σ H Q kk q =>
  PE.w (pe_ix ix_list pe_wE pe_wE hs) (ha σ H _ kk fun H1 x t1 a1 => hb σ H1 _ (kk.to t1) fun H2 y t2 ⟨i, pi, b2⟩ => by
    obtain ⟨p, vs, rfl, h, r⟩ := (isLst X.K As).mono t2.fz a1
    cases b2
    obtain ⟨p1, p2⟩ := hP i pi
    have ei : i = (i.toNat : Int) := by omega
    obtain ⟨v, e, w⟩ := r.get (List.getElem?_eq_getElem (i := i.toNat) (by omega))
    refine ⟨p, vs, _, v, rfl, rfl, SqL.mono fz_sub h, by rw [ei]; exact atI_nat e, q H2 v (t1.trans t2) (hA i.toNat _ _ _ (ei ▸ pi) (List.getElem?_eq_getElem (by omega)) w)⟩)
variable {ι : Type} {dom : ι → List Asr} {ok : ι → Prop} {cod : ι → Asr} {ps : List Str} {k n n' d : Nat} {ap ag : Addr} {Iz : Nat → Iv G.M} {x : Str}
/-- a draw, its arguments drawn, too -/
theorem ex_drawX {Pr : Program} {w : World} {K0 : PySem.W.Frag} {mg : Str → Option Value} {base : Heap} (C : Has Pr w K0 mg base x ps (spD d dom ok cod) k) (hr : Room k X.A) (W : Drw G.M ap ag Iz) (h0 : EX X G I Γ e (isV (.ref ap)) I) (ha : AX X G I Γ es As (Iz n')) (hn : n' + d ≤ 2 ^ 60) {A : Asr}
    (hsel : ∀ F vs, AllA As F vs → ∃ i, ok i ∧ AllA (dom i) F vs ∧ ∀ F v, (cod i).p F v → A.p F v) (hg : Gl X x := by rfl) (e1 : X.prog = Pr := by rfl) (e2 : X.w = w := by rfl) (e3 : X.K = K0 := by rfl) (e4 : X.mg = mg := by rfl) (e5 : X.base = base := by rfl) (hdb : (x == ("__debug__" : Str)) = false := by decide)
    (hst : starEach (e :: es) X.env = (false, eval e X.env) :: starEach es X.env := by rfl) (hpl : (backTo pos (starEach es X.env)).any (·.1) = false := by rfl) : EX X G I Γ (.Call (.Name x p) (e :: es) [] pos) A (Iz (n' + d)) := by
  subst e1 e2 e3 e4 e5
  obtain ⟨f, fd, _, F, hm, hk, hb⟩ := C.ex
  exact fun σ H Q kk q =>
  PE.w (pe_call (E := fun _ _ _ => False) F hr hg hm hk hb .nil pass0 (pa_cons pe_wE pa_wA hst) hdb hst hpl) (h0 σ H _ kk fun H0 v0 t0 e0 => ha σ H0 _ (kk.to t0) fun H1 vs t1 r => by
    cases e0
    obtain ⟨i, hok, hdm, hcd⟩ := hsel _ _ r
    refine ⟨G.U, ap, ag, n', vs, i, by rw [List.append_nil], t1.live, .inl W.hp, .inl W.hg, hn, W.pool n' _ t1.inv, hok, hdm, fun H' v s pl c => q H' v ((t0.trans t1).trans ⟨fun a o m e => s a o (fun z => m (by rw [z]; exact W.hp)) (fun z => m (by rw [z]; exact W.hg)) e, fun a m => ?_, ?_⟩) (hcd _ _ c)⟩
    · obtain ⟨ne, gs, fig, mark, cnt, h1, h2, _⟩ := pl
      by_cases z1 : a = ap
      · rw [z1, h1]; exact fun w => nomatch w
      · by_cases z2 : a = ag
        · rw [z2, h2]; exact fun w => nomatch w
        · cases z : H1 a with
          | none => exact absurd z (t1.live a m)
          | some o => rw [s a o z1 z2 z]; exact fun w => nomatch w
    · refine W.back n' (n' + d) H1 H' t1.inv pl fun a m z1 z2 => ?_
      cases z : H1 a with
      | none => exact absurd z (t1.live a (.inl m))
      | some o => exact s a o z1 z2 z)
/-- a call, its arguments drawn -/
theorem ex_callX {Pr : Program} {w : World} {K0 : PySem.W.Frag} {mg : Str → Option Value} {base : Heap} (C : Has Pr w K0 mg base x ps (spF dom ok cod) k) (hr : Room k X.A) (ha : AX X G I Γ (e :: es) As J) {A : Asr}
    (hsel : ∀ F vs, AllA As F vs → ∃ i, ok i ∧ AllA (dom i) F vs ∧ ∀ F v, (cod i).p F v → A.p F v) (hg : Gl X x := by rfl) (e1 : X.prog = Pr := by rfl) (e2 : X.w = w := by rfl) (e3 : X.K = K0 := by rfl) (e4 : X.mg = mg := by rfl) (e5 : X.base = base := by rfl) (hdb : (x == ("__debug__" : Str)) = false := by decide)
    (he : starEach (e :: es) X.env = (false, eval e X.env) :: starEach es X.env := by rfl) (hpl : (backTo pos (starEach es X.env)).any (·.1) = false := by rfl) : EX X G I Γ (.Call (.Name x p) (e :: es) [] pos) A J := by
  subst e1 e2 e3 e4 e5
  obtain ⟨f, fd, _, F, hm, hk, hb⟩ := C.ex
  exact fun σ H Q kk q =>
    PE.w (pe_call (E := fun _ _ _ => False) F hr hg hm hk hb .nil pass0 pa_wA hdb he hpl) (ha σ H _ kk fun H1 vs t1 r => by
      obtain ⟨i, hok, hdm, hcd⟩ := hsel _ _ r
      exact ⟨G.U, i, t1.live, hok, by rw [List.append_nil]; exact hdm, fun H' v s c => q H' v (t1.trans (To.sm t1.live t1.inv s)) (hcd _ _ c)⟩)
end
/-! ### data as a whole -/
mutual
def isD (K : PySem.W.Frag) : PyData → Asr
  | .none => isNon
  | .bool b => isBl b
  | .int i => aInt i
  | .str s => isStr s
  | .list ds => isLst K (isDs K ds)
  | .tuple ds => isTup K (isDs K ds)
  | .dict _ => ⟨fun _ _ => False, fun _ h => h⟩
def isDs (K : PySem.W.Frag) : List PyData → List Asr
  | [] => []
  | d :: ds => isD K d :: isDs K ds
end
theorem isDs_map {K : PySem.W.Frag} : ∀ ds : List PyData, isDs K ds = ds.map (isD K)
  | [] => by rw [isDs]; rfl
  | d :: ds => by rw [isDs, isDs_map ds]; rfl
mutual
theorem isD_dp {K : PySem.W.Frag} {F H : Hp} (s : Sm F H) : ∀ (d : PyData) (v : V), (isD K d).p F v → Dp K H v d
  | .none, v, h => by cases h; exact .non
  | .bool b, v, h => by cases h; exact .bl b
  | .int i, v, h => by cases h; exact .int i
  | .str x, v, h => by cases h; exact .str x
  | .list ds, v, h => by
    rw [isD] at h
    obtain ⟨a, vs, rfl, h1, h2⟩ := h
    exact .lst (SqL.mono s h1) (isD_dps s ds vs h2)
  | .tuple ds, v, h => by
    rw [isD] at h
    obtain ⟨a, vs, rfl, h1, h2⟩ := h
    exact .tup (SqT.mono s h1) (isD_dps s ds vs h2)
  | .dict _, v, h => h.elim
theorem isD_dps {K : PySem.W.Frag} {F H : Hp} (s : Sm F H) : ∀ (ds : List PyData) (vs : List V), AllA (isDs K ds) F vs → DpAll K H vs ds
  | [], vs, h => by rw [isDs] at h; cases h; exact .nil
  | d :: ds, vs, h => by
    rw [isDs] at h
    obtain ⟨v, r, rfl, h1, h2⟩ := h
    exact .cons (isD_dp s d v h1) (isD_dps s ds r h2)
end
section
variable {X : Cx} {G : Gx} {I J K : Iv G.M} {Γ : Slots} {a b : Expr} {A B : Asr} {pos : Pos} {d d' : PyData}
theorem ex_eqD {k : Nat} (hr : Room k X.A) (hs : SeqAt.shaped d = true) (hs' : SeqAt.shaped d' = true) (ha : EX X G I Γ a (isD X.K d) J) (hb : EX X G J Γ b (isD X.K d') K) : EX X G I Γ (.Compare a [.Eq] [b] pos) (isBl (PyData.eqv d d')) K :=
  ex_cmp2 (op_eqD hr.units) (nomark _) ha hb fun F x y ex ey H Q s q => ⟨d, d', isD_dp s d x ex, isD_dp s d' y ey, hs, hs', q _ rfl⟩
theorem tx_eqD {k : Nat} (hr : Room k X.A) (hs : SeqAt.shaped d = true) (hs' : SeqAt.shaped d' = true) (ha : EX X G I Γ a (isD X.K d) J) (hb : EX X G J Γ b (isD X.K d') K) : TX X G I Γ (.Compare a [.Eq] [b] pos) (· = PyData.eqv d d') K :=
  tx_cmp2 (op_eqD hr.units) (nomark _) ha hb fun F x y ex ey H Q s q => ⟨d, d', isD_dp s d x ex, isD_dp s d' y ey, hs, hs', q _ rfl⟩
end
end L2.PL
namespace L2.PL
open PySem PySem.Spec PyProof.Rows
section
variable {X : Cx} {G : Gx} {I J K : Iv G.M} {Γ : Slots} {e a b : Expr} {es : List Expr} {A B C : Asr} {As : List Asr} {pos p : Pos} {sts : List Stmt} {E : Ends} {D : Addr} {vs : List V} {I' : List V → Iv G.M} {w : V}
/-- what is known of the invariant -/
theorem sx_ex {α : Type} {P : α → Prop} {Ix : α → Iv G.M} (h : ∀ H, I.p H → ∃ x, P x ∧ (Ix x).p H) (hr : ∀ x, P x → SX X G (Ix x) Γ sts E) : SX X G I Γ sts E := fun σ H k => by
  obtain ⟨x, px, q⟩ := h H k.inv
  exact hr x px σ H ⟨k.frame, k.live, q, k.sat, k.len⟩
theorem ex_ixV {j : Int} {k : Nat} (W : Owns G.M K D vs I') (hs : PlainIx b) (ha : EX X G I Γ a (isV (.ref D)) J) (hb : EX X G J Γ b (aInt j) K) (hj : j = (k : Int)) (hA : vs[k]? = some w) : EX X G I Γ (.Subscript a b pos) (isV w) K := fun σ H Q kk q =>
  PE.w (pe_ix ix_list pe_wE pe_wE hs) (ha σ H _ kk fun H1 x t1 a1 => hb σ H1 _ (kk.to t1) fun H2 y t2 b2 => by
    cases a1; cases b2
    subst hj
    exact ⟨D, vs, _, w, rfl, rfl, .inl (.inl (W.get H2 t2.inv)), atI_nat hA, q H2 w (t1.trans t2) rfl⟩)
theorem sx_storeV {o ix : Expr} {ps : Pos} {j : Int} {k : Nat} (W : Owns G.M K D vs I') (he : EX X G I Γ e (isV w) J) (ho : EX X G J Γ o (isV (.ref D)) J) (hx : EX X G J Γ ix (aInt j) K) (hj : j = (k : Int)) (hk : k < vs.length)
    (hr : SX X G (I' (vs.set k w)) Γ sts E)
    (hs : swapsWithSole [.Subscript o ix ps] e pos.line X.env = pure false := by rfl) (hw : swappedStores [.Subscript o ix ps] e X.env = pure none := by rfl)
    (h1 : (assignEach [.Subscript o ix ps] X.env).map (·.2) = [assign (.Subscript o ix ps) X.env] := by rfl)
    (ha : ∀ v, assign (.Subscript o ix ps) X.env v = (do
      let ov ← holding [v] (eval o X.env)
      let iv ← holding [v, ov] (eval ix X.env)
      standAt ps
      holding [v, ov, iv] (setItem ov iv v)
      release [v, ov, iv] []) := by intro _; rfl) :
    SX X G I Γ (.Assign [.Subscript o ix ps] e pos :: sts) E := fun σ H kk =>
  wB_cons (PS.w (ps_asg pe_wE (pg_sub pe_wE pe_wE set_list ha) hs hw h1) (he σ H _ kk fun H1 v t1 a1 => ho σ H1 _ (kk.to t1) fun H2 u t2 o2 => hx σ H2 _ ((kk.to t1).to t2) fun H3 z t3 ez => by
    cases a1; cases o2; cases ez
    subst hj
    have k3 := ((kk.to t1).to t2).to t3
    have eD := W.get H3 t3.inv
    refine ⟨D, vs, _, k, rfl, rfl, eD, ?_, ?_⟩
    · unfold ixN
      rw [if_pos (by omega), if_pos (by omega), Int.toNat_natCast]
    have fzD : fz G.U (upd H3 D (.lst (vs.set k w))) = fz G.U H3 := by
      funext a
      by_cases z : G.U a
      · rw [fz_pos z, fz_pos z]
      · rw [fz_neg z, fz_neg z, upd_ne fun w => z (by rw [w]; exact .inl W.mem)]
    refine hr _ _ ⟨fun a o m e => ?_, fun a u => ?_, W.put H3 _ _ t3.inv upd_same (fun a _ z => upd_ne z), by rw [fzD]; exact k3.sat, k3.len⟩
    · by_cases z : a = D
      · subst z
        rcases G.fr a W.mem with q | q
        · exact absurd q m
        · rw [q] at e; cases e
      · rw [upd_ne z]; exact k3.frame a o m e
    · by_cases z : a = D
      · rw [z, upd_same]; exact fun w => nomatch w
      · rw [upd_ne z]; exact k3.live a u))
/-- x.pop(0) -/
theorem ex_pop0 {o : Expr} {apos cpos : Pos} (W : Owns G.M K D (w :: vs) I') (ho : EX X G I Γ o (isV (.ref D)) J) (he : EX X G J Γ e (aInt 0) K) (hWJ : ∃ I'', Owns G.M J D (w :: vs) I'') 
    (hbase : attributeBase o "pop" X.env (eval o X.env) = eval o X.env := by rfl)
    (hfew : ((backTo cpos (starEach [e] X.env)).all (fun x => !x.1) && (backToKw cpos (keywordEach [] X.env)).all (fun x => x.1.isSome)
      && decide ([e].length + ([] : List Keyword).length + (if ([] : List Keyword).isEmpty then 0 else 1) < 30)) = true := by rfl)
    (hline : (apos.endLine == cpos.line) = true := by rfl) (hs' : starEach [e] X.env = (false, eval e X.env) :: starEach [] X.env := by rfl) (hplain : (backTo cpos (starEach [] X.env)).any (·.1) = false := by rfl) :
    EX X G I Γ (.Call (.Attribute o "pop" apos) [e] [] cpos) (isV w) (I' vs) := fun σ H Q k q =>
  PE.w (pe_bm PySem.F.plainAttrs_list PySem.F.slot_list_pop PySem.F.type_list_pop mt_popAt pe_wE (pa_cons pe_wE pa_nil hs') hbase hfew hline hs' hplain) (ho σ H _ k fun H1 u t1 o1 => by
    cases o1
    obtain ⟨I'', WJ⟩ := hWJ
    refine ⟨.inl ⟨rfl, _, .inl (.inl (WJ.get H1 t1.inv))⟩, he σ H1 _ (k.to t1) fun H2 v t2 a2 => ?_⟩
    cases a2
    have k3 := (k.to t1).to t2
    have eD := W.get H2 t2.inv
    refine ⟨D, _, 0, 0, w, rfl, rfl, eD, by decide, by decide, (ixN_seq (j := 0) (by unfold ixN; rw [if_pos (by decide), if_pos (by rw [List.length_cons]; omega)]; rfl)).1, by rfl, ?_⟩
    refine q _ w ((t1.trans t2).trans ⟨fun a o n e => ?_, fun a u => ?_, W.put H2 _ _ t2.inv upd_same (fun a _ z => upd_ne z)⟩) rfl
    · rw [upd_ne fun z => n (by rw [z]; exact W.mem)]; exact e
    · by_cases z : a = D
      · rw [z, upd_same]; exact fun w => nomatch w
      · rw [upd_ne z]; exact k3.live a u)
/-- x != [], x one's own list of ints -/
theorem tx_neNil {o : Expr} {gs : List Int} {r : Nat} {p2 : Pos} (hr : Room r X.A) (W : Owns G.M J D (gs.map V.int) I') (ho : EX X G I Γ o (isV (.ref D)) J) : TX X G I Γ (.Compare o [.NotEq] [.List [] p2] pos) (· = !gs.isEmpty) J := fun σ H Q k q =>
  PT.w (pt_cmpR (op_neD hr.units) pe_wE pe_wE (nomark _)) (ho σ H _ k fun H1 x t1 e1 => ex_lst (As := []) ax_nil (by decide) σ H1 _ (k.to t1) fun H2 y t2 a2 => by
    cases e1
    obtain ⟨p, us, rfl, h, r2⟩ := a2
    cases r2
    have dp : ∀ l : List Int, DpAll X.K H2 (l.map V.int) (l.map PyData.int) := fun l => by
      induction l with
      | nil => exact .nil
      | cons i l ih => exact .cons (.int i) ih
    have ly : ∀ l : List Int, PyData.canLayAll0 (l.map PyData.int) = true := fun l => by
      induction l with
      | nil => rfl
      | cons i l ih => show (PyData.canLay0 (.int i) && _) = true; rw [ih]; rfl
    have dd : ∀ l : List Int, PyData.depthAll (l.map PyData.int) ≤ 1 := fun l => by
      induction l with
      | nil => decide
      | cons i l ih => rw [List.map_cons, PyData.depthAll]; exact Nat.max_le.mpr ⟨by unfold PyData.depth; omega, ih⟩
    refine ⟨.list (gs.map PyData.int), .list [], .lst (.inl (.inl (W.get H2 t2.inv))) (dp gs), .lst (SqL.mono fz_sub h) .nil, ?_, by decide, _, rfl, q H2 _ (t1.trans t2) ?_⟩
    · unfold SeqAt.shaped
      rw [Bool.and_eq_true]
      refine ⟨?_, decide_eq_true ?_⟩
      · rw [PyData.canLay0]; exact ly gs
      · rw [PyData.depth]; have := dd gs; omega
    · cases gs <;> rfl)
theorem ex_powC {i j : Int} {k : Nat} (ha : EX X G I Γ a (aInt i) J) (hb : EX X G J Γ b (aInt j) K) (hj : j = (k : Int)) (hc : ∃ n, 0 < n ∧ Bits n i ∧ n * k ≤ 134217728) : EX X G I Γ (.BinOp a .Pow b pos) (aInt (i ^ k)) K := by
  subst hj
  exact ex_pow ha hb hc
end
/-! ### the pool, written out -/
abbrev ivX (U : Addr → Prop) (ap ag : Addr) (H : Hp) (gs : List Int) (fig mark cnt : Int) : Iv (gD U ap ag H).M := ⟨fun H => H ap = some (.lst [.ref ag, .int fig, .int mark, .int cnt]) ∧ H ag = some (.lst (gs.map V.int)), fun H H' e h => ⟨by rw [e _ (.inl rfl)]; exact h.1, by rw [e _ (.inr rfl)]; exact h.2⟩⟩
abbrev ivY (U : Addr → Prop) (ap ag : Addr) (H : Hp) (ws ys : List V) : Iv (gD U ap ag H).M := ⟨fun H => H ap = some (.lst ws) ∧ H ag = some (.lst ys), fun H H' e h => ⟨by rw [e _ (.inl rfl)]; exact h.1, by rw [e _ (.inr rfl)]; exact h.2⟩⟩
theorem owns_ap {U : Addr → Prop} {ap ag : Addr} {H : Hp} {ws ys : List V} (ne : ap ≠ ag) : Owns (gD U ap ag H).M (ivY U ap ag H ws ys) ap ws (fun us => ivY U ap ag H us ys) :=
  ⟨.inl rfl, fun _ h => h.1, fun H H' us h e k => ⟨e, by rw [k ag (.inr rfl) (fun z => ne z.symm)]; exact h.2⟩⟩
theorem owns_ag {U : Addr → Prop} {ap ag : Addr} {H : Hp} {ws ys : List V} (ne : ap ≠ ag) : Owns (gD U ap ag H).M (ivY U ap ag H ws ys) ag ys (fun us => ivY U ap ag H ws us) :=
  ⟨.inr rfl, fun _ h => h.2, fun H H' us h e k => ⟨by rw [k ap (.inl rfl) ne]; exact h.1, e⟩⟩
structure PoolW where
  gs : List Int
  fig : Int
  mark : Int
  cnt : Int
structure PoolW.Ok (p : PoolW) (n : Nat) : Prop where
  gs : ∀ g ∈ p.gs, 0 ≤ g
  fig : 0 ≤ p.fig
  m0 : 0 ≤ p.mark
  m1 : p.mark < 2 ^ 100
  c0 : 0 ≤ p.cnt
  c1 : p.cnt ≤ n
abbrev PoolW.ws (p : PoolW) (ag : Addr) : List V := [.ref ag, .int p.fig, .int p.mark, .int p.cnt]
theorem pool_open {U : Addr → Prop} {ap ag : Addr} {H H' : Hp} {n : Nat} (h : (ivD U ap ag H n).p H') : ∃ p : PoolW, (p.Ok n ∧ ap ≠ ag) ∧ (ivY U ap ag H (p.ws ag) (p.gs.map V.int)).p H' := by
  obtain ⟨ne, gs, fig, mark, cnt, a, b, c, d, e, f, g⟩ := h
  exact ⟨⟨gs, fig, mark, cnt⟩, ⟨⟨c, d, e.1, e.2, f, g⟩, ne⟩, a, b⟩
theorem pool_shut {U : Addr → Prop} {ap ag : Addr} {H : Hp} {n : Nat} (p : PoolW) (ok : p.Ok n) (ne : ap ≠ ag) : ∀ H', (ivY U ap ag H (p.ws ag) (p.gs.map V.int)).p H' → (ivD U ap ag H n).p H' := fun H' h =>
  ⟨ne, p.gs, p.fig, p.mark, p.cnt, h.1, h.2, ok.gs, ok.fig, ⟨ok.m0, ok.m1⟩, ok.c0, ok.c1⟩
end L2.PL
namespace L2.PL
open PySem PySem.Spec PyProof.Rows
section
variable {X : Cx} {G : Gx} {I J K : Iv G.M} {Γ : Slots} {e a b iter : Expr} {es : List Expr} {A B C : Asr} {As Bs : List Asr} {pos p : Pos} {sts body : List Stmt} {E : Ends} {D : Addr} {vs : List V} {I' : List V → Iv G.M} {w : V} {i j : Nat} {x y : Str}
theorem sx_appendV {o : Expr} {apos cpos : Pos} (W : Owns G.M K D vs I') (ho : EX X G I Γ o (isV (.ref D)) I) (he : EX X G I Γ e (isV w) K) (hz : vs.length < 100000) (hWI : ∃ vs' I'', Owns G.M I D vs' I'')
    (hr : SX X G (I' (vs ++ [w])) Γ sts E)
    (hbase : attributeBase o "append" X.env (eval o X.env) = eval o X.env := by rfl)
    (hfew : ((backTo cpos (starEach [e] X.env)).all (fun x => !x.1) && (backToKw cpos (keywordEach [] X.env)).all (fun x => x.1.isSome)
      && decide ([e].length + ([] : List Keyword).length + (if ([] : List Keyword).isEmpty then 0 else 1) < 30)) = true := by rfl)
    (hline : (apos.endLine == cpos.line) = true := by rfl) (hs' : starEach [e] X.env = (false, eval e X.env) :: starEach [] X.env := by rfl) (hplain : (backTo cpos (starEach [] X.env)).any (·.1) = false := by rfl)
    (hs : swapsWith (.Call (.Attribute o "append" apos) [e] [] cpos) none pos.line X.env = pure false := by rfl) :
    SX X G I Γ (.Expr (.Call (.Attribute o "append" apos) [e] [] cpos) pos :: sts) E := fun σ H k =>
  wB_cons (PS.w (ps_expr (pe_bm PySem.F.plainAttrs_list PySem.F.slot_list_append PySem.F.type_list_append mt_append pe_wE (pa_cons pe_wE pa_nil hs') hbase hfew hline hs' hplain) hs) (ho σ H _ k fun H1 u t1 o1 => by
    cases o1
    obtain ⟨vs', I'', WI⟩ := hWI
    refine ⟨.inl ⟨rfl, vs', .inl (.inl (WI.get H1 t1.inv))⟩, he σ H1 _ (k.to t1) fun H2 v t2 a2 => ?_⟩
    cases a2
    have k3 := (k.to t1).to t2
    have eD := W.get H2 t2.inv
    refine ⟨D, vs, w, rfl, rfl, eD, by rw [sizeLine_eq]; omega, ?_⟩
    have fzD : fz G.U (upd H2 D (.lst (vs ++ [w]))) = fz G.U H2 := by
      funext a
      by_cases z : G.U a
      · rw [fz_pos z, fz_pos z]
      · rw [fz_neg z, fz_neg z, upd_ne fun w => z (by rw [w]; exact .inl W.mem)]
    refine hr _ _ ⟨fun a o m e => ?_, fun a u => ?_, W.put H2 _ _ t2.inv upd_same (fun a _ z => upd_ne z), by rw [fzD]; exact k3.sat, k3.len⟩
    · by_cases z : a = D
      · subst z
        rcases G.fr a W.mem with q | q
        · exact absurd q m
        · rw [q] at e; cases e
      · rw [upd_ne z]; exact k3.frame a o m e
    · by_cases z : a = D
      · rw [z, upd_same]; exact fun w => nomatch w
      · rw [upd_ne z]; exact k3.live a u))
/-- x, y = e, a new list -/
theorem sx_parOwn {α : Type} {P : α → Prop} {A' : α → Asr} {px py pt : Pos} {kt k2 pt2} (hc : X.calm = true) (nd : X.N.Nodup) (hi : X.N[i]? = some x) (hj : X.N[j]? = some y) (hij : i ≠ j)
    (hx : X.env.scope.names.lookup x = some .local) (hy : X.env.scope.names.lookup y = some .local) (hl : i < Γ.length) (hl2 : j < Γ.length) (ha : EX X G I Γ a (exA P A') J) (hb : NX X G J Γ b Bs K)
    (hr : ∀ u (D : Addr) (vs : List V) (h : G.H0 D = none), P u → ¬ G.U D → vs.length = Bs.length → SX X (G.own D h) (K.own D vs) ((Γ.set i (some (A' u))).set j (some (isOwn D vs Bs))) sts E)
    (hw : swappedStores [.Tuple [.Name x px, .Name y py] kt pt] (.Tuple [a, b] k2 pt2) X.env = pure (some [x, y]))
    (hs1 : starEach [a, b] X.env = (false, eval a X.env) :: starEach [b] X.env := by rfl) (hs2 : starEach [b] X.env = (false, eval b X.env) :: starEach [] X.env := by rfl)
    (hs : swapsWithSole [.Tuple [.Name x px, .Name y py] kt pt] (.Tuple [a, b] k2 pt2) pos.line X.env = pure false := by rfl) :
    SX X G I Γ (.Assign [.Tuple [.Name x px, .Name y py] kt pt] (.Tuple [a, b] k2 pt2) pos :: sts) E := fun σ H k =>
  wB_cons (PS.w (ps_par hc nd hi hj hij hx hy (pa_cons pe_wE (pa_cons pe_wE pa_nil hs2) hs1) hw hs) (ha σ H _ k fun H1 v t1 ⟨u, pu, a1⟩ => hb σ H1 _ (k.to t1) fun H2 D vs t2 n e a2 => by
    have k1 := (k.to t1).setv (A := A' u) hl a1
    obtain ⟨h0, hM, k2⟩ := k1.own (i := j) t2 n e a2 (by rw [List.length_set]; exact hl2)
    exact ⟨v, .ref D, rfl, hr u D vs h0 pu hM a2.len _ _ k2⟩))
/-- for x, y in .. -/
theorem sx_forTX {ι α : Type} {l : List α} {f1 f2 : α → Asr} {px py pt pp : Pos} {kt : Nat} (i j : Nat) (Iz : Nat → ι → Iv G.M) (Γs : Nat → ι → Slots) (Pk : Nat → ι → Prop) (x0 : ι) (hp : PassesOwn (model X.prog X.w) X.A X.env X.xe) (hc : X.calm = true) (hg : PG X (.Tuple [.Name x px, .Name y py] kt pt) (gTup X.K 2 (gCons (gName i) (gCons (gName j) gNil))))
    (hi : IX X G I Γ (.Tuple [.Name x px, .Name y py] kt pt) iter (l.map fun a => isTup X.K [f1 a, f2 a]) (Iz 0 x0)) (p0 : Pk 0 x0) (h0 : Low (Γs 0 x0) Γ) (hl : ∀ k y, i < (Γs k y).length) (hl2 : ∀ k y, j < (Γs k y).length)
    (hs : ∀ H1 Γ1 σ1 k y a, l[k]? = some a → a ∈ l → k < l.length → Pk k y → G.Ok (Iz 0 x0) Γ1 σ1 H1 → SX X (G.re H1) (Iz k y) (((Γs k y).set i (some (f1 a))).set j (some (f2 a))) body { E with nx := fun σ H => ∃ z, Pk (k + 1) z ∧ (G.re H1).Ok (Iz (k + 1) z) (Γs (k + 1) z) σ H, ct := fun σ H => ∃ z, Pk (k + 1) z ∧ (G.re H1).Ok (Iz (k + 1) z) (Γs (k + 1) z) σ H, bk := wB X sts E })
    (hd : ∀ y, Pk l.length y → SX X G (Iz l.length y) (Γs l.length y) sts E) (hf : ∀ x, foldedSetIterable iter X.env x = pure x := by intro _; rfl) : SX X G I Γ (.For (.Tuple [.Name x px, .Name y py] kt pt) iter body [] pp :: sts) E := by
  refine sx_forX (vs := [i, j]) Iz Γs (fun k y _ => match l[k]? with | some a => ((Γs k y).set i (some (f1 a))).set j (some (f2 a)) | none => Γs k y) Pk x0 hp hc hi hg p0 h0 (fun k y A e => ?_) (fun H1 Γ1 σ1 k y A e py k1 => ?_) (fun y py => by rw [List.length_map] at py ⊢; exact hd y py) hf
  · obtain ⟨a, e1, m, rfl⟩ := map_get e
    simp only [e1]
    exact gs_tup2 (hl k y) (hl2 k y)
  · obtain ⟨a, e1, m, rfl⟩ := map_get e
    simp only [e1]
    refine hs H1 Γ1 σ1 k y a e1 m ?_ py k1
    rcases Nat.lt_or_ge k l.length with z | z
    · exact z
    · rw [List.getElem?_eq_none z] at e1; cases e1
/-- a new list is handed back, whole -/
theorem sx_retN (he : NX X G I Γ e As J) (hr : ∀ (Γ : Slots) (σ : St) (H H' : Hp) (D : Addr) (vs : List V), G.Ok I Γ σ H → G.To J H H' → H D = none → H' D = some (.lst vs) → AllA As (fz (G.lk D).U H') vs → E.rt (.ref D) H') : SX X G I Γ (.Return (some e) pos :: sts) E := fun σ H k =>
  wB_cons (PS.w (ps_ret pe_wE) (he σ H _ k fun H' D vs t n e a => hr Γ σ H H' D vs k t n e a))
end
/-- the promise of the def that makes the pool -/
def spPool (K : PySem.W.Frag) : Sp := fun vs H Q _ => ∃ (a : Addr) (ns : List Int), vs = [.ref a] ∧ SqL K H a (ns.map V.int) ∧ ns.length ≤ 63 ∧ ∀ H' ap ag, Sm H H' → H ap = none → H ag = none → PoolAt ap ag 0 H' → Q (.ref ap) H'
end L2.PL
namespace L2.PL
open PySem PySem.Spec PyProof.Rows
/-- .. of which is known only what holds of it -/
def IXE {β : Type} (X : Cx) (G : Gx) (I : Iv G.M) (Γ : Slots) (tg iter : Expr) (P : β → Prop) (As : β → List Asr) (J : Iv G.M) : Prop := ∃ wi, PI X tg iter wi ∧ ∀ (σ : St) (H : Hp) (R : It → Hp → Prop), G.Ok I Γ σ H → (∀ b, P b → ∀ T H1, G.To J H H1 → Walks G.U T (As b) H1 → R T H1) → wi σ H R
section
variable {X : Cx} {G : Gx} {I J K : Iv G.M} {Γ : Slots} {tg iter e : Expr} {A : Asr} {pos px p : Pos} {sts body : List Stmt} {D : Ends} {x : Str} {ι α β : Type} {l : β → List α} {fA : β → α → Asr} {PB : β → Prop} {As : β → List Asr}
theorem IX.toE {As : List Asr} (h : IX X G I Γ tg iter As J) : IXE X G I Γ tg iter (fun _ : Unit => True) (fun _ => As) J := by
  obtain ⟨wi, h1, h2⟩ := h
  exact ⟨wi, h1, fun σ H R k q => h2 σ H R k fun T H1 t w => q () True.intro T H1 t w⟩
theorem sx_forXE {g : TG} {vs : List Nat} (Iz : β → Nat → ι → Iv G.M) (Γs : β → Nat → ι → Slots) (Γk : β → Nat → ι → Asr → Slots) (Pk : β → Nat → ι → Prop) (x0 : β → ι) (hp : PassesOwn (model X.prog X.w) X.A X.env X.xe) (hc : X.calm = true) (hi : IXE X G I Γ tg iter PB As J) (hg : PG X tg g) (p0 : ∀ b, PB b → Pk b 0 (x0 b)) (hJ : ∀ b, PB b → ∀ H, J.p H → (Iz b 0 (x0 b)).p H) (h0 : ∀ b, PB b → Low (Γs b 0 (x0 b)) Γ)
    (hsem : ∀ b k y A, PB b → (As b)[k]? = some A → GSem G.U g A (Γs b k y) (Γk b k y A) vs)
    (hs : ∀ b H1 Γ1 σ1 k y A, PB b → (As b)[k]? = some A → Pk b k y → G.Ok (Iz b 0 (x0 b)) Γ1 σ1 H1 → SX X (G.re H1) (Iz b k y) (Γk b k y A) body { D with nx := fun σ H => ∃ z, Pk b (k + 1) z ∧ (G.re H1).Ok (Iz b (k + 1) z) (Γs b (k + 1) z) σ H, ct := fun σ H => ∃ z, Pk b (k + 1) z ∧ (G.re H1).Ok (Iz b (k + 1) z) (Γs b (k + 1) z) σ H, bk := wB X sts D })
    (hd : ∀ b y, PB b → Pk b (As b).length y → SX X G (Iz b (As b).length y) (Γs b (As b).length y) sts D) (hf : ∀ x, foldedSetIterable iter X.env x = pure x := by intro _; rfl) : SX X G I Γ (.For tg iter body [] pos :: sts) D := fun σ H k => by
  obtain ⟨wi, hi1, hi2⟩ := hi
  refine wB_cons (PS.w (ps_for hp hc hi1 hg pss_wB hf) (hi2 σ H _ k fun b pb T H1 t1 wk => ?_))
  have k1 := ((k.to t1).post (hJ b pb)).low (h0 b pb)
  refine ⟨fun i m σ2 H2 => m = (As b).length - i ∧ i ≤ (As b).length ∧ ∃ y, Pk b i y ∧ (G.re H1).Ok (Iz b i y) (Γs b i y) σ2 H2, ⟨(As b).length, by omega, Nat.zero_le _, x0 b, p0 b pb, k1.at⟩, ?_⟩
  rintro i m σ2 H2 ⟨rfl, hle, y, py, k2⟩
  have s2 : Sm (fz G.U H1) (fz G.U H2) := fun a o e => by
    obtain ⟨n, e⟩ := fz_some e
    rw [fz_neg n]; exact k2.frame a o (fun z => n (.inl z)) e
  by_cases hlt : i < (As b).length
  · have eA := List.getElem?_eq_getElem hlt
    refine .inr ⟨wk.go _ H2 s2 i hlt, fun σ H => ∃ z, Pk b (i + 1) z ∧ (G.re H1).Ok (Iz b (i + 1) z) (Γs b (i + 1) z) σ H, fun σ' H' p' => ⟨(As b).length - (i + 1), by omega, rfl, hlt, p'⟩, fun x H3 y' => ?_⟩
    obtain ⟨s3, ax⟩ := wk.yld _ H2 s2 k2.live i x H3 _ eA y'
    have t3 : (G.re H1).To (Iz b i y) H2 H3 := To.sm (G := G.re H1) k2.live k2.inv s3
    have k3 := k2.to t3
    refine hsem b i y _ pb eA x σ2 H3 _ k3.sat k3.len ax fun σ' st ln _ => ?_
    exact hs b H1 _ _ i y _ pb eA py k1 σ' H3 ⟨k3.frame, k3.live, k3.inv, st, ln⟩
  · have e : i = (As b).length := by omega
    subst e
    exact .inl ⟨wk.stop _ H2 s2 _ (Nat.le_refl _), hd b y pb py σ2 H2 (k1.back k2)⟩
theorem sx_forNXE (j : Nat) (Iz : β → Nat → ι → Iv G.M) (Γs : β → Nat → ι → Slots) (Pk : β → Nat → ι → Prop) (x0 : β → ι) (hp : PassesOwn (model X.prog X.w) X.A X.env X.xe) (hc : X.calm = true) (nd : X.N.Nodup) (hj : X.N[j]? = some x) (hx : Loc X.env.scope x) (hf' : X.fn x = true ∨ X.env.scope.names.lookup x = some .local)
    (hi : IXE X G I Γ (.Name x px) iter PB (fun b => (l b).map (fA b)) J) (p0 : ∀ b, PB b → Pk b 0 (x0 b)) (hJ : ∀ b, PB b → ∀ H, J.p H → (Iz b 0 (x0 b)).p H) (h0 : ∀ b, PB b → Low (Γs b 0 (x0 b)) Γ) (hl : ∀ b k y, j < (Γs b k y).length)
    (hs : ∀ b H1 Γ1 σ1 k y a, PB b → (l b)[k]? = some a → a ∈ l b → k < (l b).length → Pk b k y → G.Ok (Iz b 0 (x0 b)) Γ1 σ1 H1 → SX X (G.re H1) (Iz b k y) ((Γs b k y).set j (some (fA b a))) body { D with nx := fun σ H => ∃ z, Pk b (k + 1) z ∧ (G.re H1).Ok (Iz b (k + 1) z) (Γs b (k + 1) z) σ H, ct := fun σ H => ∃ z, Pk b (k + 1) z ∧ (G.re H1).Ok (Iz b (k + 1) z) (Γs b (k + 1) z) σ H, bk := wB X sts D })
    (hd : ∀ b y, PB b → Pk b (l b).length y → SX X G (Iz b (l b).length y) (Γs b (l b).length y) sts D) (hf : ∀ x, foldedSetIterable iter X.env x = pure x := by intro _; rfl) : SX X G I Γ (.For (.Name x px) iter body [] pos :: sts) D := by
  refine sx_forXE (vs := [j]) Iz Γs (fun b k y A => (Γs b k y).set j (some A)) Pk x0 hp hc hi (pg_name nd hj hx hf') p0 hJ h0 (fun b k y A pb _ => gs_name (hl b k y)) (fun b H1 Γ1 σ1 k y A pb e py k1 => ?_) (fun b y pb py => by rw [List.length_map] at py ⊢; exact hd b y pb py) hf
  obtain ⟨a, e1, m, rfl⟩ := map_get e
  refine hs b H1 Γ1 σ1 k y a pb e1 m ?_ py k1
  rcases Nat.lt_or_ge k (l b).length with z | z
  · exact z
  · rw [List.getElem?_eq_none z] at e1; cases e1
/-- range of what is drawn -/
theorem ix_rangeE {P : Int → Prop} (hg : Gl X "range") (hm : X.mg "range" = none) (he : EX X G I Γ e (exA P aInt) J) (hn : ∀ i, P i → 0 ≤ i ∧ i ≤ 100000) (hs : starEach [e] X.env = [(false, eval e X.env)] := by rfl) : IXE X G I Γ tg (.Call (.Name "range" p) [e] [] pos) (fun n : Nat => P (n : Int)) (fun n => (List.range n).map fun i => aInt ((i : Nat) : Int)) J :=
  ⟨_, pi_range1 hg hm pa_wA hs, fun σ H R k q => ax_cons he ax_nil hs σ H _ k fun H1 vs t1 r => by
    obtain ⟨v, r', rfl, ⟨i, pi, e⟩, rfl⟩ := r
    cases e
    obtain ⟨h1, h2⟩ := hn i pi
    have ei : i = (i.toNat : Int) := by omega
    refine ⟨i, rfl, by omega, by omega, q i.toNat (ei ▸ pi) _ _ t1 ?_⟩
    have hl : ((List.range i.toNat).map fun i => aInt ((i : Nat) : Int)).length = i.toNat := by rw [List.length_map, List.length_range]
    refine ⟨fun U' H2 s j hj => by rw [hl] at hj; exact hj, fun U' H2 s j hj => by rw [hl] at hj; exact hj, fun U' H2 s l j x H3 A e y => ?_⟩
    obtain ⟨rfl, rfl⟩ := y
    refine ⟨Sm.rfl', ?_⟩
    obtain ⟨a, e1, m, rfl⟩ := map_get e
    have ha := List.mem_range.mp m
    have hj : j < i.toNat := by
      rcases Nat.lt_or_ge j i.toNat with z | z
      · exact z
      · rw [List.getElem?_eq_none (by rw [List.length_range]; exact z)] at e1; cases e1
    rw [List.getElem?_range hj] at e1
    cases e1
    show V.int _ = V.int _
    congr 1; omega⟩
end
theorem has_fd {Pr : Program} {w : World} {K : PySem.W.Frag} {mg : Str → Option Value} {base : Heap} {x : Str} {ps : List Str} {sp : Sp} {k : Nat} {st : Stmt} (C : Has Pr w K mg base x ps sp k) (D : DefAt K mg x st) : ∃ f fd, Fun K x x st f fd ∧ FnOk Pr w K mg base CX0 k f fd ps sp ∧ mg x = some (.ref f) ∧ PySem.W.keepIn K (.ref f) = true := by
  obtain ⟨f, fd, ⟨st', F'⟩, F, hm, hk, hb⟩ := C.ex
  obtain ⟨f2, fd2, F2, hm2⟩ := D.ex
  rw [hm] at hm2
  cases hm2
  obtain ⟨oc, od, kV, doc, pm, an, cdv, ct, osl, e, lk, hcd⟩ := F'.ex
  obtain ⟨oc2, od2, kV2, doc2, pm2, an2, cdv2, ct2, osl2, e2, lk2, hcd2⟩ := F2.ex
  rw [lk] at lk2
  have : fd = fd2 := by injection lk2 with z; injection z with z1 z2 z3 z4; injection z3
  subst this
  exact ⟨f, fd, F2, F, hm, hk⟩
section
variable {X : Cx} {G : Gx} {I J : Iv G.M} {Γ : Slots} {pos p : Pos} {x : Str} {kws : List Keyword} {As : List Asr} {ι : Type} {dom : ι → List Asr} {ok : ι → Prop} {cod : ι → Asr} {ps ks : List Str} {k : Nat} {st : Stmt}
/-- a call by keywords -/
theorem ex_callKH {Pr : Program} {w : World} {K0 : PySem.W.Frag} {mg : Str → Option Value} {base : Heap} {g : List Value → List Value} {gV : List V → List V} {gA : List Asr → List Asr} (C : Has Pr w K0 mg base x ps (spF dom ok cod) k) (D : DefAt K0 mg x st) (hr : Room k X.A) 
    (hrel : ∀ {zs : List V} {ws : List Value}, Vals zs ws → Vals (gV zs) (g ws))
    (hb : ∀ (kV doc pm : Value) (an : Option Addr) (cdv ct : Value) (ws : List Value), ws.length = ks.length → bindArgs (PySem.W.fnOf x x (defArgs st) (defBody st) (defScope st) .none kV doc pm an cdv ct) ⟨[], ks.zip ws⟩ = pure (ps.zip (g ws)))
    (i : ι) (ha : KX X G I Γ kws As J) (hA : gA As = dom i) (hl : As.length = ks.length) (hgA : ∀ F vs, AllA As F vs → AllA (gA As) F (gV vs)) (hok : ok i) {A : Asr} (hC : cod i = A := by exact rfl) (hg : Gl X x := by rfl) (e1 : X.prog = Pr := by rfl) (e2 : X.w = w := by rfl) (e3 : X.K = K0 := by rfl) (e4 : X.mg = mg := by rfl) (e5 : X.base = base := by rfl)
    (hall : (backToKw pos (keywordEach kws X.env)).all (·.1.isSome) = true := by rfl) (hks : (backToKw pos (keywordEach kws X.env)).filterMap (·.1) = ks := by rfl)
    (hdb : (x == ("__debug__" : Str)) = false := by decide)
    (hpl : ((backTo pos (starEach [] X.env)).any (·.1) || (backToKw pos (keywordEach kws X.env)).any (·.1.isNone)) = false := by rfl) :
    EX X G I Γ (.Call (.Name x p) [] kws pos) A J := by
  subst hC e1 e2 e3 e4 e5
  obtain ⟨f, fd, F, FO, hm, hk⟩ := has_fd C D
  exact ex_callK (E := fun _ _ _ => False) (gA := gA) FO hr hg hm hk (kbn_of (ps := ps) (ks := ks) F hrel hb) pass0 i ha hA hl hgA hok hall hks hdb hpl
end
theorem ivD_more {U : Addr → Prop} {ap ag : Addr} {H : Hp} {n m : Nat} (h : n ≤ m) : ∀ H', (ivD U ap ag H n).p H' → (ivD U ap ag H m).p H' := fun H' p => PoolAt.more p h
theorem RB_int {k : Int} {n : Nat} (h : k.natAbs < 2 ^ n) (h1 : 1 ≤ n) : RB n (k : Rat) := ⟨h, by show 1 < 2 ^ n; exact Nat.lt_of_lt_of_le (by decide : 1 < 2 ^ 1) (Nat.pow_le_pow_right (by decide) h1)⟩
theorem pick_bits {m : Int} (h : m < 2 ^ 64) (h1 : 1 ≤ m) : Bits 9000 m := by
  have h2 : m.natAbs < 2 ^ 64 := by omega
  exact Nat.lt_of_lt_of_le h2 (Nat.pow_le_pow_right (by decide) (by decide))
theorem fmod_in {a m : Int} (h : 1 ≤ m) : 0 ≤ a.fmod m ∧ a.fmod m < m := ⟨Int.fmod_nonneg_of_pos a (by omega), Int.fmod_lt_of_pos a (by omega)⟩
theorem fdiv_nn {a m : Int} (h : 1 ≤ m) (ha : 0 ≤ a) : 0 ≤ a.fdiv m := Int.fdiv_nonneg ha (by omega)
theorem bits_of {n : Nat} {i : Int} (h1 : -(2 : Int) ^ n < i) (h2 : i < (2 : Int) ^ n) : Bits n i := by
  have e : ((2 ^ n : Nat) : Int) = (2 : Int) ^ n := by rw [Int.natCast_pow]; rfl
  show i.natAbs < 2 ^ n
  omega
/-- what stands in a slot, opened -/
theorem sx_opn {X : Cx} {G : Gx} {I : Iv G.M} {Γ : Slots} {sts : List Stmt} {E : Ends} {α : Type} {P : α → Prop} {fA : α → Asr} {A : Asr} (i : Nat) (hg : Γ[i]? = some (some A)) (h : ∀ F v, A.p F v → (exA P fA).p F v) (hr : ∀ x, P x → SX X G I (Γ.set i (some (fA x))) sts E) : SX X G I Γ sts E := fun σ H k => by
  obtain ⟨v, e1, a⟩ := k.sat i A hg
  obtain ⟨x, px, hx⟩ := h _ _ a
  refine hr x px σ H ⟨k.frame, k.live, k.inv, fun j B ej => ?_, by rw [List.length_set]; exact k.len⟩
  have hl : i < Γ.length := by
    rcases Nat.lt_or_ge i Γ.length with z | z
    · exact z
    · rw [List.getElem?_eq_none z] at hg; cases hg
  by_cases q : i = j
  · subst q
    rw [List.getElem?_set_self hl] at ej
    cases ej
    exact ⟨v, e1, hx⟩
  · rw [List.getElem?_set_ne q] at ej
    exact k.sat j B ej
theorem bmul {m n : Nat} {i j : Int} (hi : i.natAbs < 2 ^ m) (hj : j.natAbs < 2 ^ n) (h : m + n ≤ 134217728) : ∃ m n, Bits m i ∧ Bits n j ∧ m + n ≤ 134217728 := ⟨m, n, hi, hj, h⟩
theorem nt {k : Bool} (h : (!k) = true) : k = false := by cases k with
  | true => cases h
  | false => rfl
theorem rep_set {α : Type} {n k : Nat} {a : α} : (List.replicate n a).set k a = List.replicate n a := by
  apply List.ext_getElem?
  intro i
  by_cases e : k = i
  · subst e
    by_cases h : k < n
    · rw [List.getElem?_set_self (by rw [List.length_replicate]; exact h), List.getElem?_replicate, if_pos h]
    · rw [List.getElem?_eq_none (by rw [List.length_set, List.length_replicate]; omega), List.getElem?_eq_none (by rw [List.length_replicate]; omega)]
  · rw [List.getElem?_set_ne e]
theorem EX.dim {X : Cx} {G : Gx} {I J : Iv G.M} {Γ : Slots} {e : Expr} {A B : Asr} (h : EX X G I Γ e A J) (f : ∀ F v, A.p F v → B.p F v) : EX X G I Γ e B J := h.imp f
section
variable {X : Cx} {G : Gx} {I J K : Iv G.M} {Γ : Slots} {e a b : Expr} {rest : List Expr} {A : Asr} {As : List Asr} {pos : Pos} {sts : List Stmt} {D : Ends} {i : Nat} {x : Str}
theorem sx_tup2E {α : Type} {P : α → Prop} {A B : α → Asr} {j : Nat} {y : Str} {px py pt : Pos} {kt} (hc : X.calm = true) (nd : X.N.Nodup) (hi : X.N[i]? = some x) (hj : X.N[j]? = some y) (hx : Loc X.env.scope x) (hy : Loc X.env.scope y) (hl : i < Γ.length) (hl2 : j < Γ.length)
    (hg : PG X (.Tuple [.Name x px, .Name y py] kt pt) (gTup X.K 2 (gCons (gName i) (gCons (gName j) gNil)))) (he : EX X G I Γ e (exA P fun q => isTup X.K [A q, B q]) J) (hr : ∀ q, P q → SX X G J ((Γ.set i (some (A q))).set j (some (B q))) sts D)
    (hs : swapsWithSole [.Tuple [.Name x px, .Name y py] kt pt] e pos.line X.env = pure false := by rfl) (hw : swappedStores [.Tuple [.Name x px, .Name y py] kt pt] e X.env = pure none := by rfl)
    (h1 : (assignEach [.Tuple [.Name x px, .Name y py] kt pt] X.env).map (·.2) = [assign (.Tuple [.Name x px, .Name y py] kt pt) X.env] := by rfl) :
    SX X G I Γ (.Assign [.Tuple [.Name x px, .Name y py] kt pt] e pos :: sts) D := fun σ H k =>
  wB_cons (PS.w (ps_asg pe_wE hg hs hw h1) (he σ H _ k fun H1 v t1 ⟨q0, pq, p, ws, e1, hq, v1, r1, e2, a1, v2, r2, e3, b1, e4⟩ => by
    subst e4; subst e3; subst e2; subst e1
    exact ⟨p, _, rfl, SqT.mono fz_sub hq, rfl, v1, _, rfl, v2, _, rfl, rfl, hr q0 pq _ _ (((k.to t1).setv hl a1).setv (by rw [List.length_set]; exact hl2) b1)⟩))
theorem ex_andE {p : Bool} (ha : EX X G I Γ a (isBl p) J) (hb : p = true → EX X G J Γ (.BoolOp .And (b :: rest) pos) (exA (fun _ : Bool => True) isBl) K) (jk : ∀ H, J.p H → K.p H) : EX X G I Γ (.BoolOp .And (a :: b :: rest) pos) (exA (fun _ : Bool => True) isBl) K := fun σ H Q k w =>
  PE.w (pe_and pe_wE pe_wE) (ha σ H _ k fun H1 v t1 e => ⟨p, e, by
    cases p with
    | true => rw [if_pos rfl]; exact hb rfl σ H1 Q (k.to t1) fun H2 c2 t2 e2 => w H2 c2 (t1.trans t2) e2
    | false => rw [if_neg Bool.false_ne_true]; exact w H1 _ (t1.post jk) ⟨false, True.intro, rfl⟩⟩)
/-- x[k] of a draw, x one's own -/
theorem ex_ixOD {D : Addr} {vs : List V} {I' : List V → Iv G.M} {P : Int → Prop} {C : Asr} (W : Owns G.M K D vs I') (hs : PlainIx b) (ha : EX X G I Γ a (isOwn D vs As) J) (hb : EX X G J Γ b (exA P aInt) K) (hP : ∀ i, P i → 0 ≤ i ∧ i < (As.length : Int)) (hA : ∀ (k : Nat) A F v, As[k]? = some A → A.p F v → C.p F v) : EX X G I Γ (.Subscript a b pos) C K := fun σ H Q kk q =>
  PE.w (pe_ix ix_list pe_wE pe_wE hs) (ha σ H _ kk fun H1 x t1 a1 => hb σ H1 _ (kk.to t1) fun H2 y t2 ⟨j, pj, b2⟩ => by
    obtain ⟨rfl, r⟩ := (isOwn D vs As).mono t2.fz a1
    cases b2
    obtain ⟨p1, p2⟩ := hP j pj
    have ej : j = (j.toNat : Int) := by omega
    have hlt : j.toNat < As.length := by omega
    obtain ⟨v, e, w⟩ := r.get (List.getElem?_eq_getElem hlt)
    exact ⟨D, vs, _, v, rfl, rfl, .inl (.inl (W.get H2 t2.inv)), by rw [ej]; exact atI_nat e, q H2 v (t1.trans t2) (hA j.toNat _ _ _ (List.getElem?_eq_getElem hlt) w)⟩)
end
/-- rows of one size, drawn -/
theorem rows_ex {α : Type} {n : Nat} {P : α → Prop} {f : α → Asr} (F : Hp) (v : V) (h : (isNew (List.replicate n (exA P f))).p F v) : (exA (fun xs : List α => xs.length = n ∧ ∀ x ∈ xs, P x) fun xs => isNew (xs.map f)).p F v := isNew_ex F v h
theorem sum_RB {b : Nat} : ∀ l : List Rat, (∀ x ∈ l, RB b x) → RB (1 + (b + 1) * l.length) l.sum
  | [], _ => RB.zero
  | x :: l, h => by
    have ih := sum_RB l fun y hy => h y (List.mem_cons_of_mem _ hy)
    have hx := h x List.mem_cons_self
    rw [List.sum_cons, List.length_cons]
    refine (hx.add ih).mono ?_
    rw [Nat.mul_add]; omega
end L2.PL
namespace L2.PL
open PySem PySem.Spec PyProof.Rows
/-- the law's own place: the pool and nothing else may be changed -/
abbrev gL (H0 : Hp) (ap ag : Addr) (h1 : H0 ap = none) (h2 : H0 ag = none) : Gx := ⟨fun a => a = ap ∨ a = ag, fun _ => False, fun _ => False, H0, fun _ h => h.elim, fun a h => .inr (h.elim (fun e => by rw [e]; exact h1) fun e => by rw [e]; exact h2)⟩
abbrev ivL (H0 : Hp) (ap ag : Addr) (h1 : H0 ap = none) (h2 : H0 ag = none) (n : Nat) : Iv (gL H0 ap ag h1 h2).M := ivP _ ap ag (.inl rfl) (.inr rfl) n
theorem drw_gL {H0 : Hp} {ap ag : Addr} {h1 : H0 ap = none} {h2 : H0 ag = none} : Drw (gL H0 ap ag h1 h2).M ap ag (ivL H0 ap ag h1 h2) := drw_pool _ _
theorem ivL_more {H0 : Hp} {ap ag : Addr} {h1 : H0 ap = none} {h2 : H0 ag = none} {n m : Nat} (h : n ≤ m) : ∀ H', (ivL H0 ap ag h1 h2 n).p H' → (ivL H0 ap ag h1 h2 m).p H' := fun H' p => PoolAt.more p h
def spLaw (K : PySem.W.Frag) : Sp := fun vs H Q _ => ∃ (a : Addr) (ns : List Int), vs = [.ref a] ∧ SqL K H a (ns.map V.int) ∧ ns.length ≤ 63 ∧ ∀ H', Q (.bl true) H'
section
variable {X : Cx} {Γ : Slots} {e : Expr} {pos pos' p py : Pos} {sts : List Stmt} {E : Ends} {i : Nat} {x y : Str} {k : Nat}
theorem sx_pool {Pr : Program} {w : World} {K0 : PySem.W.Frag} {mg : Str → Option Value} {base : Heap} {H0 : Hp} {ns : List Int} {ps : List Str} (C : Has Pr w K0 mg base x ps (spPool K0) k) (hr : Room k X.A) (nd : X.N.Nodup) (hi : X.N[i]? = some y) (hy : Loc X.env.scope y) (hl : i < Γ.length) (hn : ns.length ≤ 63)
    (he : EX X (gP (fun _ => False) H0) (ivT _) Γ e (isLst K0 (ns.map aInt)) (ivT _))
    (hr' : ∀ (ap ag : Addr) (h1 : H0 ap = none) (h2 : H0 ag = none), SX X (gL H0 ap ag h1 h2) (ivL H0 ap ag h1 h2 0) (Γ.set i (some (isV (.ref ap)))) sts E)
    (hs : swapsWith (.Call (.Name x p) [e] [] pos) (some (.Name y py)) pos'.line X.env = pure false := by rfl) (hf : X.fn y = true ∨ X.env.scope.names.lookup y = some .local := by first | exact .inl rfl | exact .inr rfl)
    (hg : Gl X x := by rfl) (e1 : X.prog = Pr := by rfl) (e2 : X.w = w := by rfl) (e3 : X.K = K0 := by rfl) (e4 : X.mg = mg := by rfl) (e5 : X.base = base := by rfl) (hdb : (x == ("__debug__" : Str)) = false := by decide)
    (hs1 : starEach [e] X.env = (false, eval e X.env) :: starEach [] X.env := by rfl) (hpl : (backTo pos (starEach [] X.env)).any (·.1) = false := by rfl) :
    SX X (gP (fun _ => False) H0) (ivT _) Γ (.Assign [.Name y py] (.Call (.Name x p) [e] [] pos) pos' :: sts) E := by
  subst e1 e2 e3 e4 e5
  obtain ⟨f, fd, _, F, hm, hk, hb⟩ := C.ex
  exact fun σ H kk => wB_cons (PS.w (ps_set nd hi hy (pe_call (E := fun _ _ _ => False) F hr hg hm hk hb .nil pass0 pa_wA hdb hs1 hpl) hs hf) (ax_cons he ax_nil hs1 σ H _ kk fun H1 vs t1 r => by
    obtain ⟨v, r', rfl, ⟨a, us, rfl, hS, hA⟩, rfl⟩ := r
    have eu := rRead (K := X.K) (f := V.int) hA
    subst eu
    have k1 := kk.to t1
    refine ⟨a, ns, rfl, SqL.mono fz_sub hS, hn, fun H' ap ag sm n1 n2 pl => ?_⟩
    have up : ∀ b, H1 b = none → H0 b = none := fun b z => by
      cases q : H0 b with
      | none => rfl
      | some o => rw [k1.frame b o (fun z => z) q] at z; cases z
    refine hr' ap ag (up ap n1) (up ag n2) _ _ ⟨fun b o _ q => sm b o (k1.frame b o (fun z => z) q), fun b u => ?_, pl, ?_, ?_⟩
    · obtain ⟨ne, gs, fig, mark, cnt, h1, h2, _⟩ := pl
      rcases u with (u | u) | u
      · rw [u, h1]; exact fun w => nomatch w
      · rw [u, h2]; exact fun w => nomatch w
      · exact u.elim
    · refine Sat.set (k1.sat.mono fun b o q => ?_) (by rw [k1.len]; exact hl) rfl
      obtain ⟨_, q⟩ := fz_some q
      rw [fz_neg]
      · exact sm b o q
      · rintro ((z | z) | z)
        · rw [z, n1] at q; cases q
        · rw [z, n2] at q; cases q
        · exact z
    · rw [List.length_set, List.length_set]; exact k1.len))
variable {Pr : Program} {w : World} {K : PySem.W.Frag} {mg : Str → Option Value} {base : Heap} {qual : Str} {st : Stmt} {f : Addr} {fd : FuncData} {N ps : List Str}
theorem fn_law (F : Fun K x qual st f fd) (S : FnScope N ps (defScope st)) (hp : ps.length = 1)
    (h : ∀ (cdv : Value) (A : Around) (outer : List Env) (s : Shared) (H : Hp) (E : XK) (ns : List Int) (Q : VK), Room k (A.deeper (envOfC qual (defScope st) s.heap.objs.size f cdv)) → ns.length ≤ 63 → (∀ H', Q (.bl true) H') →
      SX (cxF Pr w K mg base N qual (defScope st) f cdv A outer s H E) (gP (fun _ => False) H) (ivT _) (some (isLst K (ns.map aInt)) :: List.replicate (N.length - 1) none) (defBody st) (retE Q)) :
    FnOk Pr w K mg base CX0 (k + 1) f fd ps (spLaw K) := by
  have hpl : ps.length ≤ N.length := by have := congrArg List.length S.pre; rw [List.length_take] at this; omega
  refine F.ok S (fun vs H Q E ⟨a, ns, e, _⟩ => by rw [e, hp]; rfl) fun cdv A outer s H vs Q E hr ⟨a, ns, e, hS, hn, q⟩ => ⟨_, pss_wB, ?_⟩
  subst e
  have mn : Sm H (fz (gP (fun _ => False) H).U H) := fun a o e => by rw [fz_neg fun z => z.elim (fun z => z) fun z => z]; exact e
  refine h cdv A outer s H E ns Q hr hn q _ _ ⟨fun a o _ e => e, fun a u => u.elim (fun z => z.elim) (fun z => z.elim), True.intro, ?_, ?_⟩
  · refine start_sat (N := N) (As := [isLst K (ns.map aInt)]) (AllA.one ⟨a, ns.map V.int, rfl, SqL.mono mn hS, ?_⟩)
    clear hS hn q
    induction ns with
    | nil => rfl
    | cons i l ih => exact ⟨_, _, rfl, rfl, ih⟩
  · show (start N [V.ref a]).length = _
    unfold start
    simp only [List.length_append, List.length_map, List.length_replicate, List.length_cons, List.length_nil]
    omega
end
end L2.PL
namespace L2.PL
open PySem PySem.Spec PyProof.Rows
def mkD (x : Str) (st : Stmt) : He.DefD := ⟨(x, none), x, x, defArgs st, defBody st, defScope st, [], []⟩
section
variable {Pr : Program} {w : World} {K : PySem.W.Frag} {h : Heap} {mg : Str → Option Value} {base : Heap} {fa : List He.Fa} {fn : List He.DefD} {x : Str} {st : Stmt}
theorem defAt_of (X : K.In h) (G : h.Ns mainGlobals mg) (c : He.SaysD fa fn K) (i j : Nat) (hfn : fn[i]? = some (mkD x st)) (hfa : fa[j]? = some (.glo x)) : DefAt K mg x st := by
  obtain ⟨fd, FD⟩ := c.def_ i hfn
  obtain ⟨oc, od, dV, kV, doc, pm, an, cdv, ct, osl, e, lk, cd, dv, kw⟩ := FD.ex
  have e0 : dV = .none := by
    rcases dv with ⟨_, e⟩ | ⟨ne, _⟩
    · exact e
    · exact absurd rfl ne
  subst e0
  exact ⟨_, fd, ⟨⟨oc, od, kV, doc, pm, an, cdv, ct, osl, e, lk, cd⟩, FD.kp⟩, He.glo_ok X G (c.fact j hfa)⟩
theorem free_of (X : K.In h) (G : h.Ns mainGlobals mg) (c : He.SaysD fa fn K) (j : Nat) (hfa : fa[j]? = some (.free x)) : mg x = none := He.free_ok X G (c.fact j hfa)
theorem has_fix {ps : List Str} {sp : Sp} {k : Nat} {f : Addr} {fd : FuncData} (C : Has Pr w K mg base x ps sp k) (F : Fun K x x st f fd) (hm : mg x = some (.ref f)) : FnOk Pr w K mg base CX0 k f fd ps sp := by
  obtain ⟨f2, fd2, F2, FO, hm2, _⟩ := has_fd C ⟨f, fd, F, hm⟩
  rw [hm] at hm2
  cases hm2
  obtain ⟨oc, od, kV, doc, pm, an, cdv, ct, osl, e, lk, hcd⟩ := F.ex
  obtain ⟨oc2, od2, kV2, doc2, pm2, an2, cdv2, ct2, osl2, e2, lk2, hcd2⟩ := F2.ex
  rw [lk] at lk2
  have : fd = fd2 := by injection lk2 with z; injection z with z1 z2 z3 z4; injection z3
  subst this
  exact FO
end
end L2.PL
namespace K01
open PySem PySem.Spec PyProof.Rows L2 L2.PL
variable {Pr : Program} {w : World} {K : PySem.W.Frag} {mg : Str → Option Value} {base : Heap}
def topS (i : Nat) : Stmt := PySem.Challenge.pw_toldproducts_k01_numbers_sums_and_multip.main.body.getD i (.Pass ⟨0, 0, 0, 0⟩)
abbrev isR (K : PySem.W.Frag) (r : Rat) : Asr := isTup K [aInt r.num, aInt (r.den : Int)]
abbrev isRow (K : PySem.W.Frag) (l : List Rat) : Asr := isLst K (l.map (isR K))
abbrev isP (K : PySem.W.Frag) (q : Int × Int) : Asr := isTup K [aInt q.1, aInt q.2]
abbrev isInts (K : PySem.W.Frag) (l : List Int) : Asr := isLst K (l.map fun i => aInt i)
abbrev isRows (K : PySem.W.Frag) (l : List (List Rat)) : Asr := isLst K (l.map (isRow K))
structure Bl (K : PySem.W.Frag) (mg : Str → Option Value) : Prop where
  len : mg "len" = none
  int : mg "int" = none
  abs : mg "abs" = none
  sum : mg "sum" = none
  all : mg "all" = none
  list : mg "list" = none
  tuple : mg "tuple" = none
  bool : mg "bool" = none
  range : mg "range" = none
  zip : mg "zip" = none
  enumerate : mg "enumerate" = none
  isinstance : mg "isinstance" = none
  gcd : mg "gcd" = some (.builtin "math.gcd")
  lcm : mg "lcm" = some (.builtin "math.lcm")
  nought : ∃ a, mg "NOUGHT" = some (.ref a) ∧ ∀ F, (isR K 0).p F (.ref a)
  one : ∃ a, mg "ONE" = some (.ref a) ∧ ∀ F, (isR K 1).p F (.ref a)
theorem ex_T0 {X : Cx} {G : Gx} {I J : Iv G.M} {Γ : Slots} {a : Expr} {pos p : Pos} {j} {A : Asr} {As : List Asr} (ha : EX X G I Γ a (isTup X.K (A :: As)) J) : EX X G I Γ (.Subscript a (.Constant (.int 0) j p) pos) A J :=
  ex_ixT (k := 0) (fun _ _ => rfl) ha ex_int rfl rfl
theorem ex_T1 {X : Cx} {G : Gx} {I J : Iv G.M} {Γ : Slots} {a : Expr} {pos p : Pos} {j} {A B : Asr} {As : List Asr} (ha : EX X G I Γ a (isTup X.K (B :: A :: As)) J) : EX X G I Γ (.Subscript a (.Constant (.int 1) j p) pos) A J :=
  ex_ixT (k := 1) (fun _ _ => rfl) ha ex_int rfl rfl
abbrev S_TableError : Stmt := topS 2
abbrev S_TableError_init : Stmt := inClass S_TableError 0
abbrev n_TableError_init : List Str := ["self", "value"]
theorem sc_TableError_init : FnScope n_TableError_init ["self", "value"] (defScope S_TableError_init) := ⟨rfl, rfl, rfl, by decide +kernel, rfl, by decide +kernel, by decide +kernel⟩
-- TableError_init: 0:self 1:value | kinds self:l value:l | comps 
abbrev S_InvalidNumber : Stmt := topS 3
abbrev S_InvalidRow : Stmt := topS 4
abbrev S_UnlikeSizes : Stmt := topS 5
abbrev S_InvalidUnit : Stmt := topS 6
abbrev S_is_lowest : Stmt := topS 10
abbrev n_is_lowest : List Str := ["pair", "above", "below"]
theorem sc_is_lowest : FnScope n_is_lowest ["pair"] (defScope S_is_lowest) := ⟨rfl, rfl, rfl, by decide +kernel, rfl, by decide +kernel, by decide +kernel⟩
-- is_lowest: 0:pair 1:above 2:below | kinds pair:l above:l below:l | comps 
abbrev S_lowest : Stmt := topS 11
abbrev n_lowest : List Str := ["above", "below", "shared"]
theorem sc_lowest : FnScope n_lowest ["above", "below"] (defScope S_lowest) := ⟨rfl, rfl, rfl, by decide +kernel, rfl, by decide +kernel, by decide +kernel⟩
-- lowest: 0:above 1:below 2:shared | kinds above:l below:l shared:l | comps 
abbrev S_multiplied : Stmt := topS 12
abbrev n_multiplied : List Str := ["one", "other"]
theorem sc_multiplied : FnScope n_multiplied ["one", "other"] (defScope S_multiplied) := ⟨rfl, rfl, rfl, by decide +kernel, rfl, by decide +kernel, by decide +kernel⟩
-- multiplied: 0:one 1:other | kinds one:l other:l | comps 
abbrev S_whole : Stmt := topS 13
abbrev n_whole : List Str := ["row", "below", "pair"]
theorem sc_whole : FnScope n_whole ["row"] (defScope S_whole) := ⟨rfl, rfl, rfl, by decide +kernel, rfl, by decide +kernel, by decide +kernel⟩
-- whole: 0:row 1:below 2:pair | kinds row:l below:c pair:l | comps .0:l pair:l below:f
abbrev S_total : Stmt := topS 14
abbrev n_total : List Str := ["shares", "wholes", "below", "share"]
theorem sc_total : FnScope n_total ["shares"] (defScope S_total) := ⟨rfl, rfl, rfl, by decide +kernel, rfl, by decide +kernel, by decide +kernel⟩
-- total: 0:shares 1:wholes 2:below 3:share | kinds shares:l wholes:l below:l | comps .0:l share:l
abbrev S_unit_row : Stmt := topS 16
abbrev n_unit_row : List Str := ["size", "place", "at"]
theorem sc_unit_row : FnScope n_unit_row ["size", "place"] (defScope S_unit_row) := ⟨rfl, rfl, rfl, by decide +kernel, rfl, by decide +kernel, by decide +kernel⟩
-- unit_row: 0:size 1:place 2:at | kinds size:l place:c | comps .0:l at:l ONE:g NOUGHT:g place:f
abbrev S_added : Stmt := topS 17
abbrev n_added : List Str := ["numbers", "rows", "size", "columns", "pair", "row", "at", "one", "other", "column"]
theorem sc_added : FnScope n_added ["numbers", "rows", "size"] (defScope S_added) := ⟨rfl, rfl, rfl, by decide +kernel, rfl, by decide +kernel, by decide +kernel⟩
-- added: 0:numbers 1:rows 2:size 3:columns 4:pair 5:row 6:at 7:one 8:other 9:column | kinds numbers:c rows:c size:l columns:l | comps .0:l pair:l row:l at:f ; .0:l at:c zip:g numbers:f rows:f ; .0:l one:l other:l ; .0:l column:l total:g
abbrev S_check_number : Stmt := topS 19
abbrev n_check_number : List Str := ["pair"]
theorem sc_check_number : FnScope n_check_number ["pair"] (defScope S_check_number) := ⟨rfl, rfl, rfl, by decide +kernel, rfl, by decide +kernel, by decide +kernel⟩
-- check_number: 0:pair | kinds pair:l | comps 
abbrev S_check_numbers : Stmt := topS 20
abbrev n_check_numbers : List Str := ["row", "pair"]
theorem sc_check_numbers : FnScope n_check_numbers ["row"] (defScope S_check_numbers) := ⟨rfl, rfl, rfl, by decide +kernel, rfl, by decide +kernel, by decide +kernel⟩
-- check_numbers: 0:row 1:pair | kinds row:l pair:l | comps 
abbrev S_check_rows : Stmt := topS 21
abbrev n_check_rows : List Str := ["rows", "row"]
theorem sc_check_rows : FnScope n_check_rows ["rows"] (defScope S_check_rows) := ⟨rfl, rfl, rfl, by decide +kernel, rfl, by decide +kernel, by decide +kernel⟩
-- check_rows: 0:rows 1:row | kinds rows:l row:l | comps 
abbrev S_check_sizes : Stmt := topS 22
abbrev n_check_sizes : List Str := ["rows", "size", "row"]
theorem sc_check_sizes : FnScope n_check_sizes ["rows", "size"] (defScope S_check_sizes) := ⟨rfl, rfl, rfl, by decide +kernel, rfl, by decide +kernel, by decide +kernel⟩
-- check_sizes: 0:rows 1:size 2:row | kinds rows:l size:l row:l | comps 
abbrev S_check_rows_of : Stmt := topS 23
abbrev n_check_rows_of : List Str := ["rows", "size"]
theorem sc_check_rows_of : FnScope n_check_rows_of ["rows", "size"] (defScope S_check_rows_of) := ⟨rfl, rfl, rfl, by decide +kernel, rfl, by decide +kernel, by decide +kernel⟩
-- check_rows_of: 0:rows 1:size | kinds rows:l size:l | comps 
abbrev S_number : Stmt := topS 25
abbrev n_number : List Str := ["above", "below"]
theorem sc_number : FnScope n_number ["above", "below"] (defScope S_number) := ⟨rfl, rfl, rfl, by decide +kernel, rfl, by decide +kernel, by decide +kernel⟩
-- number: 0:above 1:below | kinds above:l below:l | comps 
abbrev S_unit : Stmt := topS 26
abbrev n_unit : List Str := ["size", "place"]
theorem sc_unit : FnScope n_unit ["size", "place"] (defScope S_unit) := ⟨rfl, rfl, rfl, by decide +kernel, rfl, by decide +kernel, by decide +kernel⟩
-- unit: 0:size 1:place | kinds size:l place:l | comps 
abbrev S_noughts : Stmt := topS 27
abbrev n_noughts : List Str := ["size"]
theorem sc_noughts : FnScope n_noughts ["size"] (defScope S_noughts) := ⟨rfl, rfl, rfl, by decide +kernel, rfl, by decide +kernel, by decide +kernel⟩
-- noughts: 0:size | kinds size:l | comps 
abbrev S_sum_of : Stmt := topS 28
abbrev n_sum_of : List Str := ["one", "other"]
theorem sc_sum_of : FnScope n_sum_of ["one", "other"] (defScope S_sum_of) := ⟨rfl, rfl, rfl, by decide +kernel, rfl, by decide +kernel, by decide +kernel⟩
-- sum_of: 0:one 1:other | kinds one:l other:l | comps 
abbrev S_times : Stmt := topS 29
abbrev n_times : List Str := ["number", "row", "pair"]
theorem sc_times : FnScope n_times ["number", "row"] (defScope S_times) := ⟨rfl, rfl, rfl, by decide +kernel, rfl, by decide +kernel, by decide +kernel⟩
-- times: 0:number 1:row 2:pair | kinds number:c row:l | comps .0:l pair:l multiplied:g number:f
abbrev S_combined : Stmt := topS 30
abbrev n_combined : List Str := ["numbers", "rows", "size"]
theorem sc_combined : FnScope n_combined ["numbers", "rows", "size"] (defScope S_combined) := ⟨rfl, rfl, rfl, by decide +kernel, rfl, by decide +kernel, by decide +kernel⟩
-- combined: 0:numbers 1:rows 2:size | kinds numbers:l rows:l size:l | comps 
abbrev S__law_pool : Stmt := topS 32
abbrev n__law_pool : List Str := ["_law_script", "_law_mark", "_law_great", "_law_spot", "_law_cell"]
theorem sc__law_pool : FnScope n__law_pool ["_law_script"] (defScope S__law_pool) := ⟨rfl, rfl, rfl, by decide +kernel, rfl, by decide +kernel, by decide +kernel⟩
-- _law_pool: 0:_law_script 1:_law_mark 2:_law_great 3:_law_spot 4:_law_cell | kinds _law_script:l _law_mark:l _law_great:l _law_spot:l _law_cell:l | comps 
abbrev S__law_pick : Stmt := topS 33
abbrev n__law_pick : List Str := ["_law_pool_here", "_law_many", "_law_found", "_law_stir"]
theorem sc__law_pick : FnScope n__law_pick ["_law_pool_here", "_law_many"] (defScope S__law_pick) := ⟨rfl, rfl, rfl, by decide +kernel, rfl, by decide +kernel, by decide +kernel⟩
-- _law_pick: 0:_law_pool_here 1:_law_many 2:_law_found 3:_law_stir | kinds _law_pool_here:l _law_many:l _law_found:l _law_stir:l | comps 
abbrev S__law_low : Stmt := topS 34
abbrev n__law_low : List Str := ["_law_above", "_law_below", "_law_one", "_law_two"]
theorem sc__law_low : FnScope n__law_low ["_law_above", "_law_below"] (defScope S__law_low) := ⟨rfl, rfl, rfl, by decide +kernel, rfl, by decide +kernel, by decide +kernel⟩
-- _law_low: 0:_law_above 1:_law_below 2:_law_one 3:_law_two | kinds _law_above:l _law_below:l _law_one:l _law_two:l | comps 
abbrev S__law_add : Stmt := topS 35
abbrev n__law_add : List Str := ["_law_one", "_law_two"]
theorem sc__law_add : FnScope n__law_add ["_law_one", "_law_two"] (defScope S__law_add) := ⟨rfl, rfl, rfl, by decide +kernel, rfl, by decide +kernel, by decide +kernel⟩
-- _law_add: 0:_law_one 1:_law_two | kinds _law_one:l _law_two:l | comps 
abbrev S__law_mul : Stmt := topS 36
abbrev n__law_mul : List Str := ["_law_one", "_law_two"]
theorem sc__law_mul : FnScope n__law_mul ["_law_one", "_law_two"] (defScope S__law_mul) := ⟨rfl, rfl, rfl, by decide +kernel, rfl, by decide +kernel, by decide +kernel⟩
-- _law_mul: 0:_law_one 1:_law_two | kinds _law_one:l _law_two:l | comps 
abbrev S__law_number : Stmt := topS 37
abbrev n__law_number : List Str := ["_law_pool_here", "_law_great", "_law_kind", "_law_most", "_law_above", "_law_below"]
theorem sc__law_number : FnScope n__law_number ["_law_pool_here", "_law_great"] (defScope S__law_number) := ⟨rfl, rfl, rfl, by decide +kernel, rfl, by decide +kernel, by decide +kernel⟩
-- _law_number: 0:_law_pool_here 1:_law_great 2:_law_kind 3:_law_most 4:_law_above 5:_law_below | kinds _law_pool_here:l _law_great:l _law_kind:l _law_most:l _law_above:l _law_below:l | comps 
abbrev S__law_alike : Stmt := topS 38
abbrev n__law_alike : List Str := ["_law_told", "_law_due", "_law_kind", "_law_k"]
theorem sc__law_alike : FnScope n__law_alike ["_law_told", "_law_due"] (defScope S__law_alike) := ⟨rfl, rfl, rfl, by decide +kernel, rfl, by decide +kernel, by decide +kernel⟩
-- _law_alike: 0:_law_told 1:_law_due 2:_law_kind 3:_law_k | kinds _law_told:l _law_due:l _law_kind:l _law_k:l | comps 
abbrev S__law_line : Stmt := topS 39
abbrev n__law_line : List Str := ["_law_pool_here", "_law_wide", "_law_great", "_law_line_here", "_law_turn", "_law_k"]
theorem sc__law_line : FnScope n__law_line ["_law_pool_here", "_law_wide", "_law_great"] (defScope S__law_line) := ⟨rfl, rfl, rfl, by decide +kernel, rfl, by decide +kernel, by decide +kernel⟩
-- _law_line: 0:_law_pool_here 1:_law_wide 2:_law_great 3:_law_line_here 4:_law_turn 5:_law_k | kinds _law_pool_here:c _law_wide:l _law_great:c _law_line_here:l _law_turn:l | comps .0:l _law_k:l _law_number:g _law_great:f _law_pool_here:f ; .0:l _law_k:l _law_pick:g _law_pool_here:f
abbrev S__law_numbers_right : Stmt := topS 40
abbrev n__law_numbers_right : List Str := ["_law_pool_here", "_law_common", "_law_above", "_law_below", "_law_due", "_law_wide", "_law_spot", "_law_k"]
theorem sc__law_numbers_right : FnScope n__law_numbers_right ["_law_pool_here"] (defScope S__law_numbers_right) := ⟨rfl, rfl, rfl, by decide +kernel, rfl, by decide +kernel, by decide +kernel⟩
-- _law_numbers_right: 0:_law_pool_here 1:_law_common 2:_law_above 3:_law_below 4:_law_due 5:_law_wide 6:_law_spot 7:_law_k | kinds _law_pool_here:l _law_common:l _law_above:l _law_below:l _law_due:l _law_wide:l _law_spot:c | comps .0:l _law_k:l int:g _law_spot:f
abbrev S__law_two_right : Stmt := topS 41
abbrev n__law_two_right : List Str := ["_law_pool_here", "_law_wide", "_law_great", "_law_first", "_law_second", "_law_fee", "_law_handed", "_law_beside", "_law_due", "_law_one", "_law_a", "_law_b"]
theorem sc__law_two_right : FnScope n__law_two_right ["_law_pool_here"] (defScope S__law_two_right) := ⟨rfl, rfl, rfl, by decide +kernel, rfl, by decide +kernel, by decide +kernel⟩
-- _law_two_right: 0:_law_pool_here 1:_law_wide 2:_law_great 3:_law_first 4:_law_second 5:_law_fee 6:_law_handed 7:_law_beside 8:_law_due 9:_law_one 10:_law_a 11:_law_b | kinds _law_pool_here:c _law_wide:l _law_great:l _law_first:l _law_second:l _law_fee:c _law_handed:l _law_beside:l _law_due:l | comps .0:l _law_one:l _law_pick:g _law_pool_here:f ; .0:l _law_a:l _law_b:l _law_add:g ; .0:l _law_a:l _law_mul:g _law_fee:f ; .0:l _law_a:l _law_mul:g
abbrev S__law_shape : Stmt := topS 42
abbrev n__law_shape : List Str := ["_law_pool_here", "_law_kind"]
theorem sc__law_shape : FnScope n__law_shape ["_law_pool_here"] (defScope S__law_shape) := ⟨rfl, rfl, rfl, by decide +kernel, rfl, by decide +kernel, by decide +kernel⟩
-- _law_shape: 0:_law_pool_here 1:_law_kind | kinds _law_pool_here:l _law_kind:l | comps 
abbrev S__law_many_right : Stmt := topS 43
abbrev n__law_many_right : List Str := ["_law_pool_here", "_law_many", "_law_wide", "_law_great", "_law_lines", "_law_fees", "_law_due", "_law_fee", "_law_line_here", "_law_handed", "_law_beside", "_law_kept", "_law_k", "_law_a", "_law_b"]
theorem sc__law_many_right : FnScope n__law_many_right ["_law_pool_here"] (defScope S__law_many_right) := ⟨rfl, rfl, rfl, by decide +kernel, rfl, by decide +kernel, by decide +kernel⟩
-- _law_many_right: 0:_law_pool_here 1:_law_many 2:_law_wide 3:_law_great 4:_law_lines 5:_law_fees 6:_law_due 7:_law_fee 8:_law_line_here 9:_law_handed 10:_law_beside 11:_law_kept 12:_law_k 13:_law_a 14:_law_b | kinds _law_pool_here:c _law_many:l _law_wide:c _law_great:c _law_lines:l _law_fees:l _law_due:l _law_fee:c _law_line_here:l _law_handed:l _law_beside:l _law_kept:l | comps .0:l _law_k:l _law_line:g _law_great:f _law_pool_here:f _law_wide:f ; .0:l _law_k:l _law_number:g _law_great:f _law_pool_here:f ; .0:l _law_a:l _law_b:l _law_add:g _law_mul:g _law_fee:f ; .0:l _law_line_here:l list:g
abbrev S_law : Stmt := topS 44
abbrev n_law : List Str := ["_law_script", "_law_pool_here", "_law_turn"]
theorem sc_law : FnScope n_law ["_law_script"] (defScope S_law) := ⟨rfl, rfl, rfl, by decide +kernel, rfl, by decide +kernel, by decide +kernel⟩
-- law: 0:_law_script 1:_law_pool_here 2:_law_turn | kinds _law_script:l _law_pool_here:l _law_turn:l | comps 
set_option hygiene false
local macro_rules | `(tactic| wtm_at "p_vis") => `(tactic| first | exact Or.inl rfl | exact Or.inr (Or.inl rfl) | exact Or.inr (Or.inr rfl))
local macro_rules | `(tactic| wtm_at "p_lt") => `(tactic| exact Nat.le_of_ble_eq_true rfl)
local macro_rules | `(tactic| wtm_at "p_s") => `(tactic| first
  | ((with_reducible show EX _ _ _ _ _ _ _); wtm_at "p_ex")
  | ((with_reducible show AX _ _ _ _ _ _ _); wtm_at "p_ax")
  | ((with_reducible show TX _ _ _ _ _ _ _); wtm_at "p_tx")
  | ((with_reducible show Gl _ _); exact rfl)
  | ((with_reducible show _ ≤ 100000); wtm_at "p_lt")
  | skip)
local macro_rules | `(tactic| wtm_at "p_glo") => `(tactic| first
  | (obtain ⟨an, hn1, hn2⟩ := B.nought; exact ex_glob (x := "NOUGHT") (v := .ref an) (by rfl) hn1 rfl hn2)
  | (obtain ⟨an, hn1, hn2⟩ := B.one; exact ex_glob (x := "ONE") (v := .ref an) (by rfl) hn1 rfl hn2))
local macro_rules | `(tactic| wtm_at "p_ex") => `(tactic| first
  | ((with_reducible show EX _ _ _ _ (Expr.Name _ _) _ _); first | wtm_at "p_var" | wtm_at "p_glo")
  | ((with_reducible show EX _ _ _ _ (Expr.Constant _ _ _) _ _); first | exact ex_int | exact ex_bl | exact ex_non | exact ex_str)
  | ((with_reducible show EX _ _ _ _ (Expr.Subscript _ (Expr.Constant (.int 0) _ _) _) _ _); refine' ex_T0 ?_ <;> wtm_at "p_s")
  | ((with_reducible show EX _ _ _ _ (Expr.Subscript _ (Expr.Constant (.int 1) _ _) _) _ _); refine' ex_T1 ?_ <;> wtm_at "p_s")
  | ((with_reducible show EX _ _ _ _ (Expr.BinOp _ .Add _ _) _ _); refine' ex_add ?_ ?_ <;> wtm_at "p_s")
  | ((with_reducible show EX _ _ _ _ (Expr.BinOp _ .Sub _ _) _ _); refine' ex_sub ?_ ?_ <;> wtm_at "p_s")
  | ((with_reducible show EX _ _ _ _ (Expr.BinOp _ .Mult _ _) _ _); refine' ex_mul ?_ ?_ ?_ <;> wtm_at "p_s")
  | ((with_reducible show EX _ _ _ _ (Expr.BinOp _ .FloorDiv _ _) _ _); refine' ex_fdiv ?_ ?_ ?_ ?_ <;> wtm_at "p_s")
  | ((with_reducible show EX _ _ _ _ (Expr.BinOp _ .Mod _ _) _ _); refine' ex_mod ?_ ?_ ?_ <;> wtm_at "p_s")
  | ((with_reducible show EX _ _ _ _ (Expr.UnaryOp .USub _ _) _ _); refine' ex_neg ?_ <;> wtm_at "p_s")
  | ((with_reducible show EX _ _ _ _ (Expr.Compare _ [.Lt] [_] _) _ _); refine' ex_lt ?_ ?_ <;> wtm_at "p_s")
  | ((with_reducible show EX _ _ _ _ (Expr.Compare _ [.LtE] [_] _) _ _); refine' ex_le ?_ ?_ <;> wtm_at "p_s")
  | ((with_reducible show EX _ _ _ _ (Expr.Compare _ [.Gt] [_] _) _ _); refine' ex_gt ?_ ?_ <;> wtm_at "p_s")
  | ((with_reducible show EX _ _ _ _ (Expr.Compare _ [.GtE] [_] _) _ _); refine' ex_ge ?_ ?_ <;> wtm_at "p_s")
  | ((with_reducible show EX _ _ _ _ (Expr.Compare _ [.Eq] [_] _) _ _); refine' ex_eqI ?_ ?_ <;> wtm_at "p_s")
  | ((with_reducible show EX _ _ _ _ (Expr.Compare _ [.NotEq] [_] _) _ _); refine' ex_neI ?_ ?_ <;> wtm_at "p_s")
  | ((with_reducible show EX _ _ _ _ (Expr.Tuple _ _ _) _ _); refine' ex_tup ?_ ?_ <;> wtm_at "p_s")
  | ((with_reducible show EX _ _ _ _ (Expr.List _ _) _ _); refine' ex_lst ?_ ?_ <;> wtm_at "p_s")
  | ((with_reducible show EX _ _ _ _ (Expr.Call (.Name "gcd" _) [_, _] [] _) _ _); refine' ex_gcd (x := "gcd") ?_ B.gcd ?_ ?_ <;> wtm_at "p_s")
  | ((with_reducible show EX _ _ _ _ (Expr.Call (.Name "lcm" _) [_, _] [] _) _ _); refine' ex_lcm (x := "lcm") ?_ B.lcm ?_ ?_ ?_ ?_ <;> wtm_at "p_s")
  | ((with_reducible show EX _ _ _ _ (Expr.Call (.Name "len" _) [_] [] _) _ _); refine' ex_len ?_ B.len ?_ <;> wtm_at "p_s")
  | ((with_reducible show EX _ _ _ _ (Expr.Call (.Name "int" _) [_] [] _) _ _); refine' ex_intI ?_ B.int ?_ <;> wtm_at "p_s")
  | ((with_reducible show EX _ _ _ _ (Expr.Call (.Name "abs" _) [_] [] _) _ _); refine' ex_abs ?_ B.abs ?_ <;> wtm_at "p_s")
  | ((with_reducible show EX _ _ _ _ (Expr.Call (.Name "sum" _) [_] [] _) _ _); refine' ex_sum rfl ?_ B.sum ?_ <;> wtm_at "p_s")
  | ((with_reducible show EX _ _ _ _ (Expr.Call (.Name "list" _) [_] [] _) _ _); refine' ex_listL ?_ B.list ?_ <;> wtm_at "p_s"))
local macro_rules | `(tactic| wtm_at "p_ax") => `(tactic| first | exact ax_nil | (refine' ax_cons ?_ ?_ <;> wtm_at "p_s"))
local macro_rules | `(tactic| wtm_at "p_tx") => `(tactic| first
  | ((with_reducible show TX _ _ _ _ (Expr.Compare _ [.Lt] [_] _) _ _); refine' tx_lt ?_ ?_ <;> wtm_at "p_s")
  | ((with_reducible show TX _ _ _ _ (Expr.Compare _ [.LtE] [_] _) _ _); refine' tx_le ?_ ?_ <;> wtm_at "p_s")
  | ((with_reducible show TX _ _ _ _ (Expr.Compare _ [.Gt] [_] _) _ _); refine' tx_gt ?_ ?_ <;> wtm_at "p_s")
  | ((with_reducible show TX _ _ _ _ (Expr.Compare _ [.GtE] [_] _) _ _); refine' tx_ge ?_ ?_ <;> wtm_at "p_s")
  | ((with_reducible show TX _ _ _ _ (Expr.Compare _ [.Eq] [_] _) _ _); refine' tx_eqI ?_ ?_ <;> wtm_at "p_s")
  | ((with_reducible show TX _ _ _ _ (Expr.Compare _ [.NotEq] [_] _) _ _); refine' tx_neI ?_ ?_ <;> wtm_at "p_s")
  | ((with_reducible show TX _ _ _ _ (Expr.UnaryOp .Not _ _) _ _); refine' tx_not ?_ <;> wtm_at "p_s")
  | (refine' tx_val ?_ <;> wtm_at "p_s"))
local macro_rules | `(tactic| wtm_at "p_ex") => `(tactic| first
  | ((with_reducible show EX _ _ _ _ (Expr.Call (.Name "is_lowest" _) [_] [] _) _ _); refine' ex_callH Cis_lowest (hr.mono (by decide)) (_, _) ?_ ?_ <;> wtm_at "p_s")
  | ((with_reducible show EX _ _ _ _ (Expr.Call (.Name "lowest" _) [_, _] [] _) _ _); refine' ex_callH Clowest (hr.mono (by decide)) (_, _) ?_ ?_ <;> wtm_at "p_s")
  | ((with_reducible show EX _ _ _ _ (Expr.Call (.Name "multiplied" _) [_, _] [] _) _ _); refine' ex_callH Cmultiplied (hr.mono (by decide)) (_, _) ?_ ?_ <;> wtm_at "p_s")
  | ((with_reducible show EX _ _ _ _ (Expr.Call (.Name "total" _) [_] [] _) _ _); refine' ex_callH Ctotal (hr.mono (by decide)) _ ?_ ?_ <;> wtm_at "p_s")
  | ((with_reducible show EX _ _ _ _ (Expr.Call (.Name "check_number" _) [_] [] _) _ _); refine' ex_callH Ccheck_number (hr.mono (by decide)) _ ?_ ?_ <;> wtm_at "p_s")
  | ((with_reducible show EX _ _ _ _ (Expr.Call (.Name "check_numbers" _) [_] [] _) _ _); refine' ex_callH Ccheck_numbers (hr.mono (by decide)) _ ?_ ?_ <;> wtm_at "p_s")
  | ((with_reducible show EX _ _ _ _ (Expr.Call (.Name "check_rows" _) [_] [] _) _ _); refine' ex_callH Ccheck_rows (hr.mono (by decide)) _ ?_ ?_ <;> wtm_at "p_s")
  | ((with_reducible show EX _ _ _ _ (Expr.Call (.Name "check_sizes" _) [_, _] [] _) _ _); refine' ex_callH Ccheck_sizes (hr.mono (by decide)) (_, _) ?_ ?_ <;> wtm_at "p_s")
  | ((with_reducible show EX _ _ _ _ (Expr.Call (.Name "unit_row" _) [_, _] [] _) _ _); refine' ex_callH Cunit_row (hr.mono (by decide)) (_, _) ?_ ?_ <;> wtm_at "p_s")
  | ((with_reducible show EX _ _ _ _ (Expr.Call (.Name "_law_low" _) [_, _] [] _) _ _); refine' ex_callH C_law_low (hr.mono (by decide)) (_, _) ?_ ?_ <;> wtm_at "p_s")
  | ((with_reducible show EX _ _ _ _ (Expr.Call (.Name "_law_mul" _) [_, _] [] _) _ _); refine' ex_callH C_law_mul (hr.mono (by decide)) (_, _) ?_ ?_ <;> wtm_at "p_s")
  | ((with_reducible show EX _ _ _ _ (Expr.Call (.Name "_law_add" _) [_, _] [] _) _ _); refine' ex_callH C_law_add (hr.mono (by decide)) (_, _) ?_ ?_ <;> wtm_at "p_s"))
section
set_option hygiene false
local macro_rules | `(tactic| wtm_at "p_var") => `(tactic| first
  | ((with_reducible show EX _ _ _ _ (Expr.Name "_law_pool_here" _) _ _); first | exact ex_var (i := 0) rfl (by wtm_at "p_vis") rfl | exact isNew.lst (ex_var (i := 0) rfl (by wtm_at "p_vis") rfl))
  | ((with_reducible show EX _ _ _ _ (Expr.Name "_law_many" _) _ _); first | exact ex_var (i := 1) rfl (by wtm_at "p_vis") rfl | exact isNew.lst (ex_var (i := 1) rfl (by wtm_at "p_vis") rfl))
  | ((with_reducible show EX _ _ _ _ (Expr.Name "_law_found" _) _ _); first | exact ex_var (i := 2) rfl (by wtm_at "p_vis") rfl | exact isNew.lst (ex_var (i := 2) rfl (by wtm_at "p_vis") rfl))
  | ((with_reducible show EX _ _ _ _ (Expr.Name "_law_stir" _) _ _); first | exact ex_var (i := 3) rfl (by wtm_at "p_vis") rfl | exact isNew.lst (ex_var (i := 3) rfl (by wtm_at "p_vis") rfl)))
abbrev sp__law_pick (K : PySem.W.Frag) : Sp := spD (ι := Int) 1 (fun m => [aInt m]) (fun m => 1 ≤ m ∧ m < 2 ^ 64) (fun m => exA (fun r => 0 ≤ r ∧ r < m) aInt)
theorem has__law_pick (B : Bl K mg) (D : DefAt K mg "_law_pick" S__law_pick) : Has Pr w K mg base "_law_pick" ["_law_pool_here", "_law_many"] (sp__law_pick K) 1 := by
  obtain ⟨f, fd, F, hm⟩ := D.ex
  refine ⟨f, fd, ⟨_, F⟩, fn_draw F sc__law_pick (fun _ => rfl) fun cdv A outer s H E U ap ag n m Q hr ho hn hR => ?_, hm, F.kp, F.binds fun _ _ _ _ _ _ us hl => match us, hl with | [_, _], _ => rfl⟩
  obtain ⟨h1, h2⟩ := ho
  have hmb := pick_bits h2 h1
  have hm0 : m ≠ 0 := by omega
  show SX _ _ _ [some (isV (.ref ap)), some (aInt m), none, none] _ _
  refine sx_ex (fun H h => pool_open h) fun p ⟨ok, ne⟩ => ?_
  have rdp : ∀ {X : Cx} {Γ : Slots} {ws ys : List V} {x : Expr} {p1 p2 : Pos} {i : Int} {j} {k : Nat} {w : V}, EX X (gD U ap ag H) (ivY U ap ag H ws ys) Γ x (isV (.ref ap)) (ivY U ap ag H ws ys) → i = (k : Int) → ws[k]? = some w → EX X (gD U ap ag H) (ivY U ap ag H ws ys) Γ (.Subscript x (.Constant (.int i) j p1) p2) (isV w) (ivY U ap ag H ws ys) :=
    fun hx e e2 => ex_ixV (owns_ap ne) (fun _ _ => rfl) hx ex_int e e2
  refine sx_while (ι := PoolW) (fun p => ivY U ap ag H (p.ws ag) (p.gs.map V.int)) (fun _ => [some (isV (.ref ap)), some (aInt m), none, none]) (fun p => p.gs.length) (fun p => p.Ok n) (fun p b => b = (decide (p.fig = 0) && !p.gs.isEmpty)) p PassesOwn.never ok (fun _ _ h => h) (fun p ok => ?_) (fun p ok hp => ?_) (fun p ok hp => ?_)
  · refine WX.tx (wx_and (J := ivY U ap ag H (p.ws ag) (p.gs.map V.int)) (tx_eqI (J := ivY U ap ag H (p.ws ag) (p.gs.map V.int)) (rdp (by wtm_at "p_var") (k := 1) rfl rfl) ex_int) fun _ => wx_and1 (tx_neNil hr (owns_ag ne) (rdp (by wtm_at "p_var") (k := 0) rfl rfl)))
  · obtain ⟨gs, fig, mark, cnt⟩ := p
    cases gs with
    | nil => simp at hp
    | cons g gs =>
      refine sx_storeV (k := 1) (K := ivY U ap ag H ([.ref ag, .int fig, .int mark, .int cnt]) (gs.map V.int)) (owns_ap ne) (ex_pop0 (w := .int g) (vs := gs.map V.int) (J := ivY U ap ag H ([.ref ag, .int fig, .int mark, .int cnt]) (V.int g :: gs.map V.int)) (K := ivY U ap ag H ([.ref ag, .int fig, .int mark, .int cnt]) (V.int g :: gs.map V.int)) (owns_ag ne) (rdp (by wtm_at "p_var") (k := 0) rfl rfl) ex_int ⟨_, owns_ag ne⟩) (by wtm_at "p_var") ex_int rfl (by wtm_at "p_lt") ?_
      refine sx_nil fun σ H k => ⟨⟨gs, g, mark, cnt⟩, Nat.lt_succ_self _, ⟨fun x hx => ok.gs x (List.mem_cons_of_mem _ hx), ok.gs g List.mem_cons_self, ok.m0, ok.m1, ok.c0, ok.c1⟩, k⟩
  obtain ⟨gs, fig, mark, cnt⟩ := p
  have hw := hmb
  have hcnt := ok.c1
  have hc0 := ok.c0
  have hm1 := ok.m1
  have hmm := ok.m0
  change cnt ≤ n at hcnt
  change 0 ≤ cnt at hc0
  change mark < 2 ^ 100 at hm1
  change 0 ≤ mark at hmm
  refine sx_if (P := (· = decide (0 < fig))) (J := ivY U ap ag H ([.ref ag, .int fig, .int mark, .int cnt]) (gs.map V.int)) (tx_gt (rdp (by wtm_at "p_var") (k := 1) rfl rfl) ex_int) (fun e => ?_) (fun e => sx_fall ?_ rfl)
  · refine sx_set (i := 2) (J := ivY U ap ag H ([.ref ag, .int fig, .int mark, .int cnt]) (gs.map V.int)) sc__law_pick.nd rfl (.inl rfl) (by wtm_at "p_lt") (ex_mod (J := ivY U ap ag H ([.ref ag, .int fig, .int mark, .int cnt]) (gs.map V.int)) (ex_intI (by rfl) B.int (rdp (by wtm_at "p_var") (k := 1) rfl rfl)) (by wtm_at "p_var") hm0) ?_
    show SX _ _ _ [some (isV (.ref ap)), some (aInt m), some (aInt (fig.fmod m)), none] _ _
    refine sx_storeV (k := 1) (K := ivY U ap ag H ([.ref ag, .int fig, .int mark, .int cnt]) (gs.map V.int)) (owns_ap ne) (ex_fdiv (J := ivY U ap ag H ([.ref ag, .int fig, .int mark, .int cnt]) (gs.map V.int)) (rdp (by wtm_at "p_var") (k := 1) rfl rfl) (by wtm_at "p_var") hm0 hmb) (by wtm_at "p_var") ex_int rfl (by wtm_at "p_lt") ?_
    refine sx_ret (J := ivY U ap ag H ([.ref ag, .int (fig.fdiv m), .int mark, .int cnt]) (gs.map V.int)) (EX.ex (fig.fmod m) (by wtm_at "p_var") (fmod_in h1)) (hR.post (pool_shut ⟨gs, fig.fdiv m, mark, cnt⟩ ⟨ok.gs, fdiv_nn h1 ok.fig, ok.m0, ok.m1, ok.c0, by show cnt ≤ ((n + 1 : Nat) : Int); omega⟩ ne))
  · refine sx_storeV (k := 3) (K := ivY U ap ag H ([.ref ag, .int fig, .int mark, .int cnt]) (gs.map V.int)) (owns_ap ne) (ex_add (J := ivY U ap ag H ([.ref ag, .int fig, .int mark, .int cnt]) (gs.map V.int)) (rdp (by wtm_at "p_var") (k := 3) rfl rfl) ex_int) (by wtm_at "p_var") ex_int rfl (by wtm_at "p_lt") ?_
    have p1 : (2 : Int) ^ 100 = 1267650600228229401496703205376 := by decide
    have b0 : ∀ n : Nat, (2 : Int) ^ n > 0 := fun n => Int.pow_pos (by decide)
    have hcc : cnt + 1 ≤ 2 ^ 61 := by omega
    have z1 : ∃ m n, Bits m (900001 : Int) ∧ Bits n (cnt + 1) ∧ m + n ≤ 134217728 := ⟨20, 64, by decide, bits_of (by omega) (by omega), by decide⟩
    have z2 : Bits 101 (mark + 900001 * (cnt + 1)) := bits_of (by have := b0 101; omega) (by have : (2 : Int) ^ 101 = 2535301200456458802993406410752 := (by decide); omega)
    refine sx_set (i := 3) (J := ivY U ap ag H ([.ref ag, .int fig, .int mark, .int (cnt + 1)]) (gs.map V.int)) sc__law_pick.nd rfl (.inl rfl) (by wtm_at "p_lt") (A := aInt (((mark + 900001 * (cnt + 1)) ^ 3).fmod (10 ^ 33 + 87)))
      (ex_mod (J := ivY U ap ag H ([.ref ag, .int fig, .int mark, .int (cnt + 1)]) (gs.map V.int)) (ex_intI (by rfl) B.int (ex_powC (J := ivY U ap ag H ([.ref ag, .int fig, .int mark, .int (cnt + 1)]) (gs.map V.int)) (k := 3) (ex_add (J := ivY U ap ag H ([.ref ag, .int fig, .int mark, .int (cnt + 1)]) (gs.map V.int)) (rdp (by wtm_at "p_var") (k := 2) rfl rfl) (ex_mul (J := ivY U ap ag H ([.ref ag, .int fig, .int mark, .int (cnt + 1)]) (gs.map V.int)) ex_int (rdp (by wtm_at "p_var") (k := 3) rfl rfl) z1)) ex_int rfl ⟨101, by decide, z2, by decide⟩))
        (ex_add (J := ivY U ap ag H ([.ref ag, .int fig, .int mark, .int (cnt + 1)]) (gs.map V.int)) (ex_powC (J := ivY U ap ag H ([.ref ag, .int fig, .int mark, .int (cnt + 1)]) (gs.map V.int)) (k := 33) ex_int ex_int rfl ⟨4, by decide, by decide, by decide⟩) ex_int) (by decide)) ?_
    generalize hst : ((mark + 900001 * (cnt + 1)) ^ 3).fmod (10 ^ 33 + 87) = st
    have hs1 : 0 ≤ st ∧ st < 10 ^ 33 + 87 := by rw [← hst]; exact fmod_in (by decide)
    have hs2 : (10 : Int) ^ 33 + 87 < 2 ^ 120 := by decide
    have z3 : ∃ m n, Bits m (7919 : Int) ∧ Bits n (cnt + 1) ∧ m + n ≤ 134217728 := ⟨20, 64, by decide, bits_of (by omega) (by omega), by decide⟩
    have z4 : Bits 121 (st + 7919 * (cnt + 1)) := bits_of (by have := b0 121; omega) (by have : (2 : Int) ^ 120 + 2 ^ 100 < 2 ^ 121 := (by decide); omega)
    show SX _ _ _ [some (isV (.ref ap)), some (aInt m), none, some (aInt st)] _ _
    refine sx_set (i := 3) (J := ivY U ap ag H ([.ref ag, .int fig, .int mark, .int (cnt + 1)]) (gs.map V.int)) sc__law_pick.nd rfl (.inl rfl) (by wtm_at "p_lt") (A := aInt (((st + 7919 * (cnt + 1)) ^ 2).fmod (10 ^ 31 + 99)))
      (ex_mod (J := ivY U ap ag H ([.ref ag, .int fig, .int mark, .int (cnt + 1)]) (gs.map V.int)) (ex_intI (by rfl) B.int (ex_powC (J := ivY U ap ag H ([.ref ag, .int fig, .int mark, .int (cnt + 1)]) (gs.map V.int)) (k := 2) (ex_add (J := ivY U ap ag H ([.ref ag, .int fig, .int mark, .int (cnt + 1)]) (gs.map V.int)) (by wtm_at "p_var") (ex_mul (J := ivY U ap ag H ([.ref ag, .int fig, .int mark, .int (cnt + 1)]) (gs.map V.int)) ex_int (rdp (by wtm_at "p_var") (k := 3) rfl rfl) z3)) ex_int rfl ⟨121, by decide, z4, by decide⟩))
        (ex_add (J := ivY U ap ag H ([.ref ag, .int fig, .int mark, .int (cnt + 1)]) (gs.map V.int)) (ex_powC (J := ivY U ap ag H ([.ref ag, .int fig, .int mark, .int (cnt + 1)]) (gs.map V.int)) (k := 31) ex_int ex_int rfl ⟨4, by decide, by decide, by decide⟩) ex_int) (by decide)) ?_
    generalize ((st + 7919 * (cnt + 1)) ^ 2).fmod (10 ^ 31 + 99) = s2
    show SX _ _ _ [some (isV (.ref ap)), some (aInt m), none, some (aInt s2)] _ _
    refine sx_ret (J := ivY U ap ag H ([.ref ag, .int fig, .int mark, .int (cnt + 1)]) (gs.map V.int)) (EX.ex ((s2.fdiv (10 ^ 7)).fmod m)
      (ex_mod (J := ivY U ap ag H ([.ref ag, .int fig, .int mark, .int (cnt + 1)]) (gs.map V.int)) (ex_intI (by rfl) B.int (ex_fdiv (J := ivY U ap ag H ([.ref ag, .int fig, .int mark, .int (cnt + 1)]) (gs.map V.int)) (by wtm_at "p_var") (ex_powC (J := ivY U ap ag H ([.ref ag, .int fig, .int mark, .int (cnt + 1)]) (gs.map V.int)) (k := 7) ex_int ex_int rfl ⟨4, by decide, by decide, by decide⟩) (by decide) (Nat.lt_of_lt_of_le (m := 2 ^ 24) (by decide) (Nat.pow_le_pow_right (by decide) (by decide))))) (by wtm_at "p_var") hm0) (fmod_in h1))
      (hR.post (pool_shut ⟨gs, fig, mark, cnt + 1⟩ ⟨ok.gs, ok.fig, ok.m0, ok.m1, by show 0 ≤ cnt + 1; omega, by show cnt + 1 ≤ ((n + 1 : Nat) : Int); omega⟩ ne))
theorem ex_pick {X : Cx} {G : Gx} {I : Iv G.M} {Γ : Slots} {a e : Expr} {pos p : Pos} {R : Int → Prop} {Bd : Int} {n : Nat} {ap ag : Addr} {Iz : Nat → Iv G.M} {Pr : Program} {w : World} {K0 : PySem.W.Frag} {mg : Str → Option Value} {base : Heap} (C : Has Pr w K0 mg base "_law_pick" ["_law_pool_here", "_law_many"] (sp__law_pick K0) 1) (hr : Room 1 X.A) (W : Drw G.M ap ag Iz)
    (h0 : EX X G I Γ e (isV (.ref ap)) I) (ha : EX X G I Γ a (exA R aInt) (Iz n)) (hR : ∀ m, R m → 1 ≤ m ∧ m ≤ Bd) (hB : Bd < 2 ^ 64) (hn : n + 1 ≤ 2 ^ 60) (hg : Gl X "_law_pick" := by rfl) (e1 : X.prog = Pr := by rfl) (e2 : X.w = w := by rfl) (e3 : X.K = K0 := by rfl) (e4 : X.mg = mg := by rfl) (e5 : X.base = base := by rfl)
    (hs1 : starEach [e, a] X.env = (false, eval e X.env) :: starEach [a] X.env := by rfl) (hs2 : starEach [a] X.env = (false, eval a X.env) :: starEach [] X.env := by rfl) (hpl : (backTo pos (starEach [a] X.env)).any (·.1) = false := by rfl) :
    EX X G I Γ (.Call (.Name "_law_pick" p) [e, a] [] pos) (exA (fun r => 0 ≤ r ∧ r < Bd) aInt) (Iz (n + 1)) :=
  ex_drawX C hr W h0 (ax_cons ha ax_nil hs2) hn (fun F vs h => by
    obtain ⟨v, r, rfl, ⟨m, rm, hv⟩, hr'⟩ := h
    have hm := hR m rm
    exact ⟨m, ⟨hm.1, Int.lt_of_le_of_lt hm.2 hB⟩, ⟨v, r, rfl, hv, hr'⟩, fun F v ⟨x, hx, e⟩ => ⟨x, ⟨hx.1, Int.lt_of_lt_of_le hx.2 hm.2⟩, e⟩⟩) hg e1 e2 e3 e4 e5 (by decide) hs1 hpl
/-- a number that is told, of these -/
theorem ex_pickK {X : Cx} {G : Gx} {I : Iv G.M} {Γ : Slots} {a e : Expr} {pos p : Pos} {m : Int} {n : Nat} {ap ag : Addr} {Iz : Nat → Iv G.M} {Pr : Program} {w : World} {K0 : PySem.W.Frag} {mg : Str → Option Value} {base : Heap} (C : Has Pr w K0 mg base "_law_pick" ["_law_pool_here", "_law_many"] (sp__law_pick K0) 1) (hr : Room 1 X.A) (W : Drw G.M ap ag Iz)
    (h0 : EX X G I Γ e (isV (.ref ap)) I) (ha : EX X G I Γ a (aInt m) (Iz n)) (hR : 1 ≤ m) (hB : m < 2 ^ 64) (hn : n + 1 ≤ 2 ^ 60) (hg : Gl X "_law_pick" := by rfl) (e1 : X.prog = Pr := by rfl) (e2 : X.w = w := by rfl) (e3 : X.K = K0 := by rfl) (e4 : X.mg = mg := by rfl) (e5 : X.base = base := by rfl)
    (hs1 : starEach [e, a] X.env = (false, eval e X.env) :: starEach [a] X.env := by rfl) (hs2 : starEach [a] X.env = (false, eval a X.env) :: starEach [] X.env := by rfl) (hpl : (backTo pos (starEach [a] X.env)).any (·.1) = false := by rfl) :
    EX X G I Γ (.Call (.Name "_law_pick" p) [e, a] [] pos) (exA (fun r => 0 ≤ r ∧ r < m) aInt) (Iz (n + 1)) :=
  ex_pick (R := (· = m)) C hr W h0 (EX.dr ha) (fun _ z => by rw [z]; exact ⟨hR, Int.le_refl _⟩) hB hn hg e1 e2 e3 e4 e5 hs1 hs2 hpl
/-- one of some ints, by a draw -/
theorem ex_ixI {X : Cx} {G : Gx} {I J K : Iv G.M} {Γ : Slots} {a b : Expr} {pos : Pos} {P R : Int → Prop} {l : List Int} (hs : PlainIx b) (ha : EX X G I Γ a (isLst X.K (l.map aInt)) J) (hb : EX X G J Γ b (exA P aInt) K) (hP : ∀ i, P i → 0 ≤ i ∧ i < (l.length : Int)) (hA : ∀ x ∈ l, R x) : EX X G I Γ (.Subscript a b pos) (exA R aInt) K :=
  ex_ixD (R := R) hs ha hb (fun i p => by rw [List.length_map]; exact hP i p) fun k A F v p e h => by
    obtain ⟨x, _, m, rfl⟩ := map_get e
    exact ⟨x, hA x m, h⟩
end
section
set_option hygiene false
local macro_rules | `(tactic| wtm_at "p_var") => `(tactic| first
  | ((with_reducible show EX _ _ _ _ (Expr.Name "_law_script" _) _ _); first | exact ex_var (i := 0) rfl (by wtm_at "p_vis") rfl | exact isNew.lst (ex_var (i := 0) rfl (by wtm_at "p_vis") rfl))
  | ((with_reducible show EX _ _ _ _ (Expr.Name "_law_mark" _) _ _); first | exact ex_var (i := 1) rfl (by wtm_at "p_vis") rfl | exact isNew.lst (ex_var (i := 1) rfl (by wtm_at "p_vis") rfl))
  | ((with_reducible show EX _ _ _ _ (Expr.Name "_law_great" _) _ _); first | exact ex_var (i := 2) rfl (by wtm_at "p_vis") rfl | exact isNew.lst (ex_var (i := 2) rfl (by wtm_at "p_vis") rfl))
  | ((with_reducible show EX _ _ _ _ (Expr.Name "_law_spot" _) _ _); first | exact ex_var (i := 3) rfl (by wtm_at "p_vis") rfl | exact isNew.lst (ex_var (i := 3) rfl (by wtm_at "p_vis") rfl))
  | ((with_reducible show EX _ _ _ _ (Expr.Name "_law_cell" _) _ _); first | exact ex_var (i := 4) rfl (by wtm_at "p_vis") rfl | exact isNew.lst (ex_var (i := 4) rfl (by wtm_at "p_vis") rfl)))
-- needs _law_pick
theorem has__law_pool (B : Bl K mg) (D : DefAt K mg "_law_pool" S__law_pool) : Has Pr w K mg base "_law_pool" ["_law_script"] (spPool K) 1 := by
  obtain ⟨f, fd, F, hm⟩ := D.ex
  refine ⟨f, fd, ⟨_, F⟩, F.ok sc__law_pool (fun vs H Q E ⟨a, ns, e, _⟩ => by rw [e]; rfl) (fun cdv A outer s H vs Q E hr ⟨a, ns, e, hS, hn, q⟩ => ⟨_, pss_wB, ?_⟩), hm, F.kp, F.binds fun _ _ _ _ _ _ us hl => match us, hl with | [_], _ => rfl⟩
  subst e
  have hsx : SX (cxF Pr w K mg base n__law_pool "_law_pool" (defScope S__law_pool) f cdv A outer s H E) (gP (fun _ => False) H) (ivT _) [some (isLst K (ns.map aInt)), none, none, none, none] (defBody S__law_pool) (retE Q) := by
    refine sx_parOwn (i := 1) (j := 2) (P := (· = (60013 : Int))) (A' := aInt) (J := ivT _) (K := ivT _) (Bs := []) rfl sc__law_pool.nd rfl rfl (by decide) rfl rfl (by wtm_at "p_lt") (by wtm_at "p_lt") (EX.dr ex_int) (nx_lst ax_nil (by decide)) (fun u D vs h0 pu hM hlen => ?_) (by rfl)
    subst pu
    have e0 : vs = [] := by cases vs with
      | nil => rfl
      | cons _ _ => simp at hlen
    subst e0
    show SX _ _ _ [some (isLst K (ns.map aInt)), some (aInt 60013), some (isOwn D [] []), none, none] _ _
    refine sx_forTX (ι := List Int × Int) (l := (List.range ns.length).zip ns) (f1 := fun p => aInt ((p.1 : Nat) : Int)) (f2 := fun p => aInt p.2) 3 4 (fun k y => (ivT _).own D (y.1.map V.int)) (fun _ y => [some (isLst K (ns.map aInt)), some (aInt y.2), some (isV (.ref D)), none, none]) (fun k y => (∀ g ∈ y.1, 0 ≤ g) ∧ 0 ≤ y.2 ∧ y.2 < 2 ^ 100 ∧ y.1.length ≤ k) ([], 60013) PassesOwn.never rfl
      (pg_tup rfl (pgs_cons (pg_name (i := 3) sc__law_pool.nd rfl (.inl rfl)) (pgs_cons (pg_name (i := 4) sc__law_pool.nd rfl (.inl rfl)) pgs_nil)))
      ((ix_enum (by rfl) B.enumerate (by wtm_at "p_var")).cast enumA_map) ⟨by simp, by decide, by decide, Nat.le_refl _⟩ ⟨fun _ _ h => h, fun _ _ h => h, fun _ _ h => h.1, True.intro⟩ (fun _ _ => by wtm_at "p_lt") (fun _ _ => by wtm_at "p_lt") (fun H1 Γ1 σ1 k y p e m hk py k1 => ?_) fun y py => ?_
    · obtain ⟨gs, mark⟩ := y
      obtain ⟨i, c⟩ := p
      obtain ⟨py1, py2, py3, py4⟩ := py
      change ∀ g ∈ gs, 0 ≤ g at py1
      change 0 ≤ mark at py2
      change mark < 2 ^ 100 at py3
      change gs.length ≤ k at py4
      have hkk : k < 63 := by
        have := hk
        rw [List.length_zip, List.length_range] at this
        omega
      have hi : i < 63 := by
        have := List.of_mem_zip m
        have := List.mem_range.mp this.1
        omega
      show SX _ _ _ [some (isLst K (ns.map aInt)), some (aInt mark), some (isV (.ref D)), some (aInt ((i : Nat) : Int)), some (aInt c)] _ _
      refine sx_if (P := (· = decide ((10 : Int) ^ 18 ≤ c))) (J := (ivT _).own D (gs.map V.int)) (tx_ge (J := (ivT _).own D (gs.map V.int)) (by wtm_at "p_var") (ex_powC (J := (ivT _).own D (gs.map V.int)) (k := 18) ex_int ex_int rfl ⟨4, by decide, by decide, by decide⟩)) (fun e => ?_) (fun e => ?_)
      · have hc := of_decide_eq_true e.symm
        refine sx_appendV (D := D) (vs := gs.map V.int) (w := .int (c - 10 ^ 18)) (I' := fun us => (ivT _).own D us) (K := (ivT _).own D (gs.map V.int)) (owns_top fun z => z) (by wtm_at "p_var") (ex_sub (J := (ivT _).own D (gs.map V.int)) (by wtm_at "p_var") (ex_powC (J := (ivT _).own D (gs.map V.int)) (k := 18) ex_int ex_int rfl ⟨4, by decide, by decide, by decide⟩)) (by rw [List.length_map]; omega) ⟨_, _, owns_top fun z => z⟩ ?_
        refine sx_nil fun σ H k => wB_nil ⟨(gs ++ [c - 10 ^ 18], mark), ⟨fun g hg => ?_, py2, py3, by rw [List.length_append]; show gs.length + 1 ≤ _; omega⟩, ?_⟩
        · rcases List.mem_append.mp hg with hg | hg
          · exact py1 g hg
          · have : g = c - 10 ^ 18 := by simpa using hg
            omega
        · have e9 : (gs ++ [c - 10 ^ 18]).map V.int = gs.map V.int ++ [V.int (c - 10 ^ 18)] := by rw [List.map_append]; rfl
          rw [e9]
          exact k.low ⟨fun _ _ h => h, fun _ _ h => h, fun _ _ h => h, True.intro⟩
      · have b0 : ∀ n : Nat, (2 : Int) ^ n > 0 := fun n => Int.pow_pos (by decide)
        have hm1 : 0 ≤ c.fmod (10 ^ 21 + 117) ∧ c.fmod (10 ^ 21 + 117) < 10 ^ 21 + 117 := fmod_in (by decide)
        have hm2 : (10 : Int) ^ 21 + 117 < 2 ^ 100 := by decide
        have z1 : ∃ m n, Bits m (31 : Int) ∧ Bits n (i : Int) ∧ m + n ≤ 134217728 := ⟨5, 6, by decide, bits_of (by omega) (by omega), by decide⟩
        have z2 : Bits 102 (mark + 31 * (i : Int) + c.fmod (10 ^ 21 + 117)) := bits_of (by have := b0 102; omega) (by have h : (2 : Int) ^ 100 + 2 ^ 100 + 2 ^ 100 < 2 ^ 102 := (by decide); have h2 : (1953 : Int) < 2 ^ 100 := (by decide); omega)
        show SX _ _ _ [some (isLst K (ns.map aInt)), some (aInt mark), some (isV (.ref D)), some (aInt ((i : Nat) : Int)), some (aInt c)] _ _
        refine sx_set (i := 1) (J := (ivT _).own D (gs.map V.int)) sc__law_pool.nd rfl (.inl rfl) (by wtm_at "p_lt") (A := aInt (((mark + 31 * (i : Int) + c.fmod (10 ^ 21 + 117)) ^ 3).fmod (10 ^ 28 + 331) + 1))
          ?_ ?_
        · refine ex_add (J := (ivT _).own D (gs.map V.int)) (ex_mod (J := (ivT _).own D (gs.map V.int)) (ex_intI rfl B.int ?_) (ex_add (J := (ivT _).own D (gs.map V.int)) (ex_powC (J := (ivT _).own D (gs.map V.int)) (k := 28) ex_int ex_int rfl ⟨4, by decide, by decide, by decide⟩) ex_int) (by decide)) ex_int
          refine ex_powC (J := (ivT _).own D (gs.map V.int)) (k := 3) ?_ ex_int rfl ⟨102, by decide, z2, by decide⟩
          refine ex_add (J := (ivT _).own D (gs.map V.int)) (ex_add (J := (ivT _).own D (gs.map V.int)) (by wtm_at "p_var") (ex_mul (J := (ivT _).own D (gs.map V.int)) ex_int (by wtm_at "p_var") z1)) ?_
          refine ex_mod (J := (ivT _).own D (gs.map V.int)) (ex_intI rfl B.int (by wtm_at "p_var")) (ex_add (J := (ivT _).own D (gs.map V.int)) (ex_powC (J := (ivT _).own D (gs.map V.int)) (k := 21) ex_int ex_int rfl ⟨4, by decide, by decide, by decide⟩) ex_int) (by decide)
        generalize hst : ((mark + 31 * (i : Int) + c.fmod (10 ^ 21 + 117)) ^ 3).fmod (10 ^ 28 + 331) = st
        have hs1 : 0 ≤ st ∧ st < 10 ^ 28 + 331 := by rw [← hst]; exact fmod_in (by decide)
        have hs2 : (10 : Int) ^ 28 + 331 + 1 < 2 ^ 100 := by decide
        refine sx_nil fun σ H k => wB_nil ⟨(gs, st + 1), ⟨py1, by show 0 ≤ st + 1; omega, by show st + 1 < 2 ^ 100; omega, by show gs.length ≤ _; omega⟩, ?_⟩
        exact k.low ⟨fun _ _ h => h, fun _ _ h => h, fun _ _ h => h, True.intro⟩
    · obtain ⟨gs, mark⟩ := y
      obtain ⟨py1, py2, py3, py4⟩ := py
      refine sx_retN (J := (ivT _).own D (gs.map V.int)) (As := [isV (.ref D), aInt 0, aInt mark, aInt 0]) (nx_lst (by wtm_at "p_ax") (by wtm_at "p_lt")) fun Γ σ H1 H' ap vs k t n e a => ?_
      obtain ⟨v1, r1, rfl, e1, v2, r2, rfl, e2, v3, r3, rfl, e3, v4, r4, rfl, e4, e5⟩ := a
      cases e1; cases e2; cases e3; cases e4; cases e5
      change H D = none at h0
      have sm1 : ∀ a o, H a = some o → H1 a = some o := fun a o e => k.frame a o (fun z => z) e
      have sm : ∀ a o, H a = some o → H' a = some o := fun a o e => t.keep a o (fun z => z.elim (fun z => z) fun z => by rw [z, h0] at e; cases e) (sm1 a o e)
      refine q H' ap D sm ?_ h0 ⟨fun z => ?_, gs, 0, mark, 0, e, t.inv.2, py1, by decide, ⟨py2, py3⟩, by decide, by decide⟩
      · cases z : H ap with
        | none => rfl
        | some o => rw [sm1 ap o z] at n; cases n
      · rw [z, k.inv.2] at n; cases n
  have mn : Sm H (fz (gP (fun _ => False) H).U H) := fun a o e => by rw [fz_neg fun z => z.elim (fun z => z) fun z => z]; exact e
  refine hsx _ _ ⟨fun a o _ e => e, fun a u => u.elim (fun z => z.elim) (fun z => z.elim), True.intro, ?_, rfl⟩
  refine start_sat (N := n__law_pool) (As := [isLst K (ns.map aInt)]) (AllA.one ⟨a, ns.map V.int, rfl, SqL.mono mn hS, ?_⟩)
  clear hS hn q hsx
  induction ns with
  | nil => rfl
  | cons i l ih => exact ⟨_, _, rfl, rfl, ih⟩
end
section
set_option hygiene false
local macro_rules | `(tactic| wtm_at "p_var") => `(tactic| first
  | ((with_reducible show EX _ _ _ _ (Expr.Name "_law_told" _) _ _); first | exact ex_var (i := 0) rfl (by wtm_at "p_vis") rfl | exact isNew.lst (ex_var (i := 0) rfl (by wtm_at "p_vis") rfl))
  | ((with_reducible show EX _ _ _ _ (Expr.Name "_law_due" _) _ _); first | exact ex_var (i := 1) rfl (by wtm_at "p_vis") rfl | exact isNew.lst (ex_var (i := 1) rfl (by wtm_at "p_vis") rfl))
  | ((with_reducible show EX _ _ _ _ (Expr.Name "_law_kind" _) _ _); first | exact ex_var (i := 2) rfl (by wtm_at "p_vis") rfl | exact isNew.lst (ex_var (i := 2) rfl (by wtm_at "p_vis") rfl))
  | ((with_reducible show EX _ _ _ _ (Expr.Name "_law_k" _) _ _); first | exact ex_var (i := 3) rfl (by wtm_at "p_vis") rfl | exact isNew.lst (ex_var (i := 3) rfl (by wtm_at "p_vis") rfl)))
def okD : Nat → PyData → Prop
  | _, .none => True
  | _, .int _ => True
  | _, .bool _ => True
  | _, .str _ => False
  | _, .dict _ => False
  | 0, .list _ => False
  | 0, .tuple _ => False
  | n + 1, .list ds => ds.length ≤ 100000 ∧ ∀ d ∈ ds, okD n d
  | n + 1, .tuple ds => ds.length ≤ 100000 ∧ ∀ d ∈ ds, okD n d
abbrev sp__law_alike (K : PySem.W.Frag) (n : Nat) : Sp := spF (ι := PyData) (fun d => [isD K d, isD K d]) (okD n) (fun _ => isBl true)
theorem ex_bltT {X : Cx} {G : Gx} {I : Iv G.M} {Γ : Slots} {x : Str} {T : String} {pos : Pos} (hg : Gl X x) (hm : X.mg x = none) (hv : bootBuiltins x = some (.type T)) (hn : x ≠ "__name__" := by decide) (hd : (x == ("__debug__" : Str)) = false := by decide) : EX X G I Γ (.Name x pos) (isV (.ty T)) I := ex_blt hg hm hv rfl hn hd
theorem tx_isNone {X : Cx} {G : Gx} {I J : Iv G.M} {Γ : Slots} {a : Expr} {pos : Pos} {A : Asr} {b : Bool} (ha : EX X G I Γ a A J) (hA : ∀ F v, A.p F v → decide (v = .non) = b) {j p} : TX X G I Γ (.Compare a [.Is] [.Constant .none j p] pos) (· = b) J :=
  tx_cmp2 op_isN (nomark _) ha ex_non fun F x' y' ex ey H Q _ q => by cases ey; exact ⟨rfl, q _ (hA F x' ex)⟩
theorem body__law_alike (B : Bl K mg) (D : DefAt K mg "_law_alike" S__law_alike) (n : Nat) (IH : ∀ m, n = m + 1 → Has Pr w K mg base "_law_alike" ["_law_told", "_law_due"] (sp__law_alike K m) n) : Has Pr w K mg base "_law_alike" ["_law_told", "_law_due"] (sp__law_alike K n) (n + 1) := by
  obtain ⟨f, fd, F, hm⟩ := D.ex
  refine ⟨f, fd, ⟨_, F⟩, fn_pure F sc__law_alike (fun _ => rfl) fun cdv A outer s H E U d Q hr ho hR => ?_, hm, F.kp, F.binds fun _ _ _ _ _ _ us hl => match us, hl with | [_, _], _ => rfl⟩
  change Ret _ _ (isBl true) _ at hR
  cases d with
  | none =>
    show SX _ _ _ [some isNon, some isNon, none, none] _ _
    refine sx_ifR (J := ivT _) (P := (· = true)) (tx_isNone (by wtm_at "p_var") fun F v h => by cases h; rfl) (fun _ => ?_) (fun p => by cases p)
    refine sx_retEq (J := ivT _) (A := isBl (decide ((.non : V) = .non))) (ex_isN (x := .non) (by wtm_at "p_var")) hR (by rw [decide_eq_true rfl])
  | str x => exact (by cases n <;> simp [okD] at ho)
  | dict x => exact (by cases n <;> simp [okD] at ho)
  | int x =>
    have tya : TyA K (isD K (.int x)) "int" := ty_int
    show SX _ _ _ [some (isD K (.int x)), some (isD K (.int x)), none, none] _ _
    refine sx_ifR (J := ivT _) (P := (· = false)) (tx_isNone (by wtm_at "p_var") fun F v h => by cases h; rfl) (fun p => by cases p) fun _ => ?_
    refine sx_if (J := ivT _) (P := (· = false)) (tx_val (ex_isi2 (J := ivT _) (T := "int") (U := "list") (U2 := "tuple") (b1 := false) (b2 := false) (by rfl) B.isinstance tya (by wtm_at "p_var") (ex_bltT (by rfl) B.list (by decide +kernel)) (ex_bltT (by rfl) B.tuple (by decide +kernel)) (by decide) (by decide))) (fun p => by cases p) (fun _ => sx_fall ?_ rfl)
    show SX _ _ _ [some (aInt x), some (aInt x), none, none] _ _
    refine sx_retEq (J := ivT _) (A := isBl (true && (decide (V.bl false = V.bl false) && decide (x = x)))) (ex_and (J := ivT _) (ex_isi (J := ivT _) (T := "int") (U := "int") (by rfl) B.isinstance ty_int (by wtm_at "p_var") (ex_bltT (by rfl) B.int (by decide +kernel)) (by decide)) fun _ => ex_and (J := ivT _) (ex_eq (J := ivT _) rfl (ex_isi (J := ivT _) (T := "int") (U := "bool") (by rfl) B.isinstance ty_int (by wtm_at "p_var") (ex_bltT (by rfl) B.bool (by decide +kernel)) (by decide)) (ex_isi (J := ivT _) (T := "int") (U := "bool") (by rfl) B.isinstance ty_int (by wtm_at "p_var") (ex_bltT (by rfl) B.bool (by decide +kernel)) (by decide))) fun _ => ex_one (ex_eqI (J := ivT _) (by wtm_at "p_var") (by wtm_at "p_var"))) hR (by rw [decide_eq_true rfl, decide_eq_true rfl]; rfl)
  | bool x =>
    have tya : TyA K (isD K (.bool x)) "bool" := ty_bl
    show SX _ _ _ [some (isD K (.bool x)), some (isD K (.bool x)), none, none] _ _
    refine sx_ifR (J := ivT _) (P := (· = false)) (tx_isNone (by wtm_at "p_var") fun F v h => by cases h; rfl) (fun p => by cases p) fun _ => ?_
    refine sx_if (J := ivT _) (P := (· = false)) (tx_val (ex_isi2 (J := ivT _) (T := "bool") (U := "list") (U2 := "tuple") (b1 := false) (b2 := false) (by rfl) B.isinstance tya (by wtm_at "p_var") (ex_bltT (by rfl) B.list (by decide +kernel)) (ex_bltT (by rfl) B.tuple (by decide +kernel)) (by decide) (by decide))) (fun p => by cases p) (fun _ => sx_fall ?_ rfl)
    show SX _ _ _ [some (isBl x), some (isBl x), none, none] _ _
    refine sx_retEq (J := ivT _) (A := isBl (true && (decide (V.bl true = V.bl true) && decide (x = x)))) (ex_and (J := ivT _) (ex_isi (J := ivT _) (T := "bool") (U := "int") (by rfl) B.isinstance ty_bl (by wtm_at "p_var") (ex_bltT (by rfl) B.int (by decide +kernel)) (by decide)) fun _ => ex_and (J := ivT _) (ex_eq (J := ivT _) rfl (ex_isi (J := ivT _) (T := "bool") (U := "bool") (by rfl) B.isinstance ty_bl (by wtm_at "p_var") (ex_bltT (by rfl) B.bool (by decide +kernel)) (by decide)) (ex_isi (J := ivT _) (T := "bool") (U := "bool") (by rfl) B.isinstance ty_bl (by wtm_at "p_var") (ex_bltT (by rfl) B.bool (by decide +kernel)) (by decide))) fun _ => ex_one (by have e : decide (x = x) = decide (V.bl x = V.bl x) := by { rw [decide_eq_true rfl, decide_eq_true rfl] }; rw [e]; exact ex_eq (J := ivT _) rfl (by wtm_at "p_var") (by wtm_at "p_var"))) hR (by rw [decide_eq_true rfl, decide_eq_true rfl]; rfl)
  | list ds =>
    cases n with
    | zero => exact (by simp [okD] at ho)
    | succ n =>
      have IH := IH n rfl
      unfold okD at ho
      obtain ⟨hz, hall⟩ := ho
      have hlen : (isDs K ds).length = ds.length := by rw [isDs_map, List.length_map]
      have ea : isD K (.list ds) = isLst K (isDs K ds) := by rw [isD]
      have tya : TyA K (isD K (.list ds)) "list" := by rw [ea]; exact ty_lst
      show SX _ _ _ [some (isD K (.list ds)), some (isD K (.list ds)), none, none] _ _
      refine sx_ifR (J := ivT _) (P := (· = false)) (tx_isNone (by wtm_at "p_var") fun F v h => by rw [ea] at h; obtain ⟨a, _, e, _⟩ := h; rw [e]; rfl) (fun p => by cases p) fun _ => ?_
      refine sx_if (J := ivT _) (P := (· = true)) (tx_val (ex_isi2 (J := ivT _) (T := "list") (U := "list") (U2 := "tuple") (b1 := true) (b2 := false) (by rfl) B.isinstance tya (by wtm_at "p_var") (ex_bltT (by rfl) B.list (by decide +kernel)) (ex_bltT (by rfl) B.tuple (by decide +kernel)) (by decide) (by decide))) (fun _ => ?_) (fun p => by cases p)
      refine sx_set (i := 2) (J := ivT _) (A := isBl true) sc__law_alike.nd rfl (.inl rfl) (by wtm_at "p_lt") (ex_if (J := ivT _) (P := (· = true)) (tx_val (ex_isi (J := ivT _) (T := "list") (U := "list") (by rfl) B.isinstance tya (by wtm_at "p_var") (ex_bltT (by rfl) B.list (by decide +kernel)) (by decide)))
        (fun p => ex_isi (J := ivT _) (T := "list") (U := "list") (by rfl) B.isinstance tya (by wtm_at "p_var") (ex_bltT (by rfl) B.list (by decide +kernel)) (by decide)) (fun p => by cases p)) ?_
      rw [ea]
      show SX _ _ _ [some (isLst K (isDs K ds)), some (isLst K (isDs K ds)), some (isBl true), none] _ _
      refine sx_ifR (J := ivT _) (P := (· = false)) ?_ (fun p => by cases p) fun _ => ?_
      · refine TX.imp (P := (· = (false || false))) (WX.tx (wx_or (J := ivT _) (p := false) (q := false) (TX.imp (tx_not (tx_val (by wtm_at "p_var"))) fun c h => by cases c <;> simp_all) fun _ => wx_or1 (TX.imp (tx_neI (J := ivT _) (ex_len (by rfl) B.len (by wtm_at "p_var")) (ex_len (by rfl) B.len (by wtm_at "p_var"))) fun c h => by rw [h]; simp))) fun c h => h
      refine sx_forN 3 (fun _ => ivT _) (fun _ => [some (isLst K (isDs K ds)), some (isLst K (isDs K ds)), some (isBl true), none]) PassesOwn.never rfl sc__law_alike.nd rfl (.inl rfl) (.inr rfl) (ix_range (by rfl) B.range (by rw [← hlen]; exact ex_len (by rfl) B.len (by wtm_at "p_var")) hz) (low_refl _) (fun _ => by wtm_at "p_lt") (fun H1 Γ1 σ1 k r e m hk k1 => ?_) ?_
      · have hr' : r < ds.length := List.mem_range.mp m
        show SX _ _ _ [some (isLst K (isDs K ds)), some (isLst K (isDs K ds)), some (isBl true), some (aInt ((r : Nat) : Int))] _ _
        have hd : (isDs K ds)[r]? = some (isD K ds[r]) := by rw [isDs_map, List.getElem?_map, List.getElem?_eq_getElem hr']; rfl
        refine sx_ifR (J := ivT _) (P := (· = false)) (TX.imp (tx_not (P := (· = true)) (tx_val ?_)) fun c h => by cases c <;> simp_all) (fun p => by cases p) fun _ => sx_nil fun σ H k => k.low ⟨fun _ _ h => h, fun _ _ h => h, fun _ _ h => h, True.intro⟩
        exact ex_callH IH (hr.mono (Nat.le_refl _)) ds[r] (ax_cons (J := ivT _) (ex_ixL (k := r) (fun _ _ => rfl) (by wtm_at "p_var") (by wtm_at "p_var") rfl hd) (ax_cons (J := ivT _) (ex_ixL (k := r) (fun _ _ => rfl) (by wtm_at "p_var") (by wtm_at "p_var") rfl hd) ax_nil)) (hall _ (List.getElem_mem hr'))
      · exact sx_ret (J := ivT _) (A := isBl true) ex_bl hR
  | tuple ds =>
    cases n with
    | zero => exact (by simp [okD] at ho)
    | succ n =>
      have IH := IH n rfl
      unfold okD at ho
      obtain ⟨hz, hall⟩ := ho
      have hlen : (isDs K ds).length = ds.length := by rw [isDs_map, List.length_map]
      have ea : isD K (.tuple ds) = isTup K (isDs K ds) := by rw [isD]
      have tya : TyA K (isD K (.tuple ds)) "tuple" := by rw [ea]; exact ty_tup
      show SX _ _ _ [some (isD K (.tuple ds)), some (isD K (.tuple ds)), none, none] _ _
      refine sx_ifR (J := ivT _) (P := (· = false)) (tx_isNone (by wtm_at "p_var") fun F v h => by rw [ea] at h; obtain ⟨a, _, e, _⟩ := h; rw [e]; rfl) (fun p => by cases p) fun _ => ?_
      refine sx_if (J := ivT _) (P := (· = true)) (tx_val (ex_isi2 (J := ivT _) (T := "tuple") (U := "list") (U2 := "tuple") (b1 := false) (b2 := true) (by rfl) B.isinstance tya (by wtm_at "p_var") (ex_bltT (by rfl) B.list (by decide +kernel)) (ex_bltT (by rfl) B.tuple (by decide +kernel)) (by decide) (by decide))) (fun _ => ?_) (fun p => by cases p)
      refine sx_set (i := 2) (J := ivT _) (A := isBl true) sc__law_alike.nd rfl (.inl rfl) (by wtm_at "p_lt") (ex_if (J := ivT _) (P := (· = false)) (tx_val (ex_isi (J := ivT _) (T := "tuple") (U := "list") (by rfl) B.isinstance tya (by wtm_at "p_var") (ex_bltT (by rfl) B.list (by decide +kernel)) (by decide)))
        (fun p => by cases p) (fun p => ex_isi (J := ivT _) (T := "tuple") (U := "tuple") (by rfl) B.isinstance tya (by wtm_at "p_var") (ex_bltT (by rfl) B.tuple (by decide +kernel)) (by decide))) ?_
      rw [ea]
      show SX _ _ _ [some (isTup K (isDs K ds)), some (isTup K (isDs K ds)), some (isBl true), none] _ _
      refine sx_ifR (J := ivT _) (P := (· = false)) ?_ (fun p => by cases p) fun _ => ?_
      · refine TX.imp (P := (· = (false || false))) (WX.tx (wx_or (J := ivT _) (p := false) (q := false) (TX.imp (tx_not (tx_val (by wtm_at "p_var"))) fun c h => by cases c <;> simp_all) fun _ => wx_or1 (TX.imp (tx_neI (J := ivT _) (ex_lenT (by rfl) B.len (by wtm_at "p_var")) (ex_lenT (by rfl) B.len (by wtm_at "p_var"))) fun c h => by rw [h]; simp))) fun c h => h
      refine sx_forN 3 (fun _ => ivT _) (fun _ => [some (isTup K (isDs K ds)), some (isTup K (isDs K ds)), some (isBl true), none]) PassesOwn.never rfl sc__law_alike.nd rfl (.inl rfl) (.inr rfl) (ix_range (by rfl) B.range (by rw [← hlen]; exact ex_lenT (by rfl) B.len (by wtm_at "p_var")) hz) (low_refl _) (fun _ => by wtm_at "p_lt") (fun H1 Γ1 σ1 k r e m hk k1 => ?_) ?_
      · have hr' : r < ds.length := List.mem_range.mp m
        show SX _ _ _ [some (isTup K (isDs K ds)), some (isTup K (isDs K ds)), some (isBl true), some (aInt ((r : Nat) : Int))] _ _
        have hd : (isDs K ds)[r]? = some (isD K ds[r]) := by rw [isDs_map, List.getElem?_map, List.getElem?_eq_getElem hr']; rfl
        refine sx_ifR (J := ivT _) (P := (· = false)) (TX.imp (tx_not (P := (· = true)) (tx_val ?_)) fun c h => by cases c <;> simp_all) (fun p => by cases p) fun _ => sx_nil fun σ H k => k.low ⟨fun _ _ h => h, fun _ _ h => h, fun _ _ h => h, True.intro⟩
        exact ex_callH IH (hr.mono (Nat.le_refl _)) ds[r] (ax_cons (J := ivT _) (ex_ixT (k := r) (fun _ _ => rfl) (by wtm_at "p_var") (by wtm_at "p_var") rfl hd) (ax_cons (J := ivT _) (ex_ixT (k := r) (fun _ _ => rfl) (by wtm_at "p_var") (by wtm_at "p_var") rfl hd) ax_nil)) (hall _ (List.getElem_mem hr'))
      · exact sx_ret (J := ivT _) (A := isBl true) ex_bl hR
theorem has__law_alike (B : Bl K mg) (D : DefAt K mg "_law_alike" S__law_alike) : ∀ n : Nat, Has Pr w K mg base "_law_alike" ["_law_told", "_law_due"] (sp__law_alike K n) (n + 1)
  | 0 => body__law_alike B D 0 fun m e => by omega
  | n + 1 => body__law_alike B D (n + 1) fun m e => by
    have : m = n := by omega
    subst this
    exact has__law_alike B D m
end
section
-- needs _law_alike
abbrev dR (r : Rat) : PyData := .tuple [.int r.num, .int (r.den : Int)]
abbrev dRow (l : List Rat) : PyData := .list (l.map dR)
abbrev dRows (l : List (List Rat)) : PyData := .list (l.map dRow)
abbrev dCube (l : List (List (List Rat))) : PyData := .list (l.map dRows)
abbrev isCube (K : PySem.W.Frag) (l : List (List (List Rat))) : Asr := isLst K (l.map (isRows K))
theorem isD_R {r : Rat} : isD K (dR r) = isR K r := by rw [isD, isDs, isDs, isDs, isD, isD]
theorem isD_row {l : List Rat} : isD K (dRow l) = isRow K l := by
  rw [isD, isDs_map, List.map_map]
  have : (isD K ∘ dR) = isR K := funext fun r => isD_R
  rw [this]
theorem isD_rows {l : List (List Rat)} : isD K (dRows l) = isRows K l := by
  rw [isD, isDs_map, List.map_map]
  have : (isD K ∘ dRow) = isRow K := funext fun r => isD_row
  rw [this]
theorem isD_cube {l : List (List (List Rat))} : isD K (dCube l) = isCube K l := by
  rw [isD, isDs_map, List.map_map]
  have : (isD K ∘ dRows) = isRows K := funext fun r => isD_rows
  rw [this]
theorem isD_int {i : Int} : isD K (.int i) = aInt i := by rw [isD]
theorem okD_int {n : Nat} {i : Int} : okD n (.int i) := by cases n <;> simp [okD]
theorem okD_R {n : Nat} {r : Rat} : okD (n + 1) (dR r) := by
  unfold okD
  exact ⟨by show 2 ≤ _; decide, fun d hd => by
    have : d = .int r.num ∨ d = .int (r.den : Int) := by simpa using hd
    rcases this with rfl | rfl <;> exact okD_int⟩
theorem okD_row {n : Nat} {l : List Rat} (h : l.length ≤ 100000) : okD (n + 2) (dRow l) := by
  unfold okD
  refine ⟨by rw [List.length_map]; exact h, fun d hd => ?_⟩
  obtain ⟨r, _, rfl⟩ := List.mem_map.mp hd
  exact okD_R
theorem okD_rows {n : Nat} {l : List (List Rat)} (h : l.length ≤ 100000) (h2 : ∀ r ∈ l, r.length ≤ 100000) : okD (n + 3) (dRows l) := by
  unfold okD
  refine ⟨by rw [List.length_map]; exact h, fun d hd => ?_⟩
  obtain ⟨r, m, rfl⟩ := List.mem_map.mp hd
  exact okD_row (h2 r m)
theorem okD_cube {n : Nat} {l : List (List (List Rat))} (h : l.length ≤ 100000) (h2 : ∀ r ∈ l, r.length ≤ 100000 ∧ ∀ q ∈ r, q.length ≤ 100000) : okD (n + 4) (dCube l) := by
  unfold okD
  refine ⟨by rw [List.length_map]; exact h, fun d hd => ?_⟩
  obtain ⟨r, m, rfl⟩ := List.mem_map.mp hd
  exact okD_rows (h2 r m).1 (h2 r m).2
theorem okD_shape : ∀ (n : Nat) (d : PyData), okD n d → PyData.canLay0 d = true ∧ PyData.depth d ≤ n := by
  intro n
  induction n with
  | zero =>
    intro d h
    cases d <;> simp [okD] at h <;> exact ⟨rfl, Nat.le_refl _⟩
  | succ n ih =>
    have all : ∀ ds : List PyData, (∀ d ∈ ds, okD n d) → PyData.canLayAll0 ds = true ∧ PyData.depthAll ds ≤ n := fun ds => by
      induction ds with
      | nil => exact fun _ => ⟨rfl, Nat.zero_le _⟩
      | cons d ds ih2 =>
        intro h
        obtain ⟨a1, a2⟩ := ih d (h d List.mem_cons_self)
        obtain ⟨b1, b2⟩ := ih2 fun x hx => h x (List.mem_cons_of_mem _ hx)
        rw [PyData.canLayAll0, PyData.depthAll, a1, b1]
        exact ⟨rfl, Nat.max_le.mpr ⟨a2, b2⟩⟩
    intro d h
    cases d with
    | list ds =>
      unfold okD at h
      obtain ⟨a, b⟩ := all ds h.2
      rw [PyData.canLay0, PyData.depth]
      exact ⟨a, by omega⟩
    | tuple ds =>
      unfold okD at h
      obtain ⟨a, b⟩ := all ds h.2
      rw [PyData.canLay0, PyData.depth]
      exact ⟨a, by omega⟩
    | none => exact ⟨rfl, Nat.zero_le _⟩
    | int i => exact ⟨rfl, Nat.zero_le _⟩
    | bool b => exact ⟨rfl, Nat.zero_le _⟩
    | str s => simp [okD] at h
    | dict s => simp [okD] at h
theorem okD_shaped {n : Nat} {d : PyData} (h : okD n d) (hn : n ≤ 64) : SeqAt.shaped d = true := by
  obtain ⟨a, b⟩ := okD_shape n d h
  unfold SeqAt.shaped
  rw [a, Bool.true_and]
  exact decide_eq_true (by omega)
theorem okD_self {n : Nat} {d : PyData} (h : okD n d) : PyData.eqv d d = true := PySem.SeqAt.eqv_refl d (okD_shape n d h).1
section
variable {X : Cx} {G : Gx} {I J J2 : Iv G.M} {Γ : Slots} {a b : Expr} {pos p : Pos} {A : Asr}
/-- the law's own look at what is told and what is due -/
theorem ex_alike {n : Nat} {Pr : Program} {w : World} {K0 : PySem.W.Frag} {mg : Str → Option Value} {base : Heap} (d : PyData) (C : Has Pr w K0 mg base "_law_alike" ["_law_told", "_law_due"] (sp__law_alike K0 n) (n + 1)) (hr : Room (n + 1) X.A) (hok : okD n d) (e : isD K0 d = A) (ha : EX X G I Γ a A J) (hb : EX X G J Γ b A J2)
    (hg : Gl X "_law_alike" := by rfl) (e1 : X.prog = Pr := by rfl) (e2 : X.w = w := by rfl) (e3 : X.K = K0 := by rfl) (e4 : X.mg = mg := by rfl) (e5 : X.base = base := by rfl)
    (hs1 : starEach [a, b] X.env = (false, eval a X.env) :: starEach [b] X.env := by rfl) (hs2 : starEach [b] X.env = (false, eval b X.env) :: starEach [] X.env := by rfl) (hpl : (backTo pos (starEach [b] X.env)).any (·.1) = false := by rfl) :
    EX X G I Γ (.Call (.Name "_law_alike" p) [a, b] [] pos) (isBl true) J2 := by
  subst e
  exact ex_callH C hr d (ax_cons ha (ax_cons hb ax_nil hs2) hs1) hok rfl hg e1 e2 e3 e4 e5 (by decide) hs1 hpl
end
section
variable {X : Cx} {G : Gx} {I J J2 : Iv G.M} {Γ : Slots} {a b : Expr} {pos p : Pos} {A : Asr}
theorem ex_eqSelf {n k : Nat} {K0 : PySem.W.Frag} (d : PyData) (hr : Room k X.A) (hok : okD n d) (hn : n ≤ 64) (e : isD K0 d = A) (ha : EX X G I Γ a A J) (hb : EX X G J Γ b A J2) (e3 : X.K = K0 := by rfl) : EX X G I Γ (.Compare a [.Eq] [b] pos) (isBl true) J2 := by
  subst e3; subst e
  rw [← okD_self hok]
  exact ex_eqD hr (okD_shaped hok hn) (okD_shaped hok hn) ha hb
theorem ex_drEqB {R S : Int → Prop} (ha : EX X G I Γ a (exA R aInt) J) (hb : EX X G J Γ b (exA S aInt) J2) : EX X G I Γ (.Compare a [.Eq] [b] pos) (exA (fun _ : Bool => True) isBl) J2 :=
  ex_cmp2 op_eq (nomark _) ha hb fun F x y ⟨i, r, ex⟩ ⟨j, s, ey⟩ H Q _ q => by cases ex; cases ey; exact ⟨rfl, q _ ⟨_, True.intro, rfl⟩⟩
end
theorem addRow_zip {x y : List Rat} : (addRow x y).map (isR K) = (x.zip y).map fun p => isR K (p.1 + p.2) := by
  unfold addRow
  rw [← List.map_uncurry_zip_eq_zipWith, List.map_map]
  rfl
theorem addRow_comm {x y : List Rat} : addRow x y = addRow y x := by
  unfold addRow
  rw [List.zipWith_comm]
  congr 1
  funext a b
  exact Rat.add_comm b a
theorem addRow_len {x y : List Rat} (h : x.length = y.length) : (addRow x y).length = x.length := by unfold addRow; rw [List.length_zipWith]; omega
theorem addRow_self {x : List Rat} : addRow x x = x.map fun a => 2 * a := by
  unfold addRow
  rw [List.zipWith_self]
  apply List.map_congr_left
  intro a _
  have : (2 : Rat) = 1 + 1 := by decide +kernel
  rw [this, Rat.add_mul, Rat.one_mul]
end
section
set_option hygiene false
local macro_rules | `(tactic| wtm_at "p_var") => `(tactic| first
  | ((with_reducible show EX _ _ _ _ (Expr.Name "_law_above" _) _ _); first | exact ex_var (i := 0) rfl (by wtm_at "p_vis") rfl | exact isNew.lst (ex_var (i := 0) rfl (by wtm_at "p_vis") rfl))
  | ((with_reducible show EX _ _ _ _ (Expr.Name "_law_below" _) _ _); first | exact ex_var (i := 1) rfl (by wtm_at "p_vis") rfl | exact isNew.lst (ex_var (i := 1) rfl (by wtm_at "p_vis") rfl))
  | ((with_reducible show EX _ _ _ _ (Expr.Name "_law_one" _) _ _); first | exact ex_var (i := 2) rfl (by wtm_at "p_vis") rfl | exact isNew.lst (ex_var (i := 2) rfl (by wtm_at "p_vis") rfl))
  | ((with_reducible show EX _ _ _ _ (Expr.Name "_law_two" _) _ _); first | exact ex_var (i := 3) rfl (by wtm_at "p_vis") rfl | exact isNew.lst (ex_var (i := 3) rfl (by wtm_at "p_vis") rfl)))
abbrev sp__law_low (K : PySem.W.Frag) : Sp := spF (ι := Int × Int) (fun q => [aInt q.1, aInt q.2]) (fun q => q.2 ≠ 0 ∧ Bits 9000 q.2) (fun q => isR K (Rat.divInt q.1 q.2))
theorem has__law_low (B : Bl K mg) (D : DefAt K mg "_law_low" S__law_low) : Has Pr w K mg base "_law_low" ["_law_above", "_law_below"] (sp__law_low K) 1 := by
  obtain ⟨f, fd, F, hm⟩ := D.ex
  refine ⟨f, fd, ⟨_, F⟩, fn_pure F sc__law_low (fun _ => rfl) fun cdv A outer s H E U q Q hr ho hR => ?_, hm, F.kp, F.binds fun _ _ _ _ _ _ us hl => match us, hl with | [_, _], _ => rfl⟩
  obtain ⟨a, b⟩ := q
  change b ≠ 0 ∧ Bits 9000 b at ho
  change Ret _ _ (isR K (Rat.divInt a b)) _ at hR
  obtain ⟨h0, hb⟩ := ho
  show SX _ _ _ [some (aInt a), some (aInt b), none, none] _ _
  refine sx_par (i := 2) (j := 3) (J := ivT _) (K := ivT _) (A := aInt (a.natAbs : Int)) (B := aInt (b.natAbs : Int)) rfl sc__law_low.nd rfl rfl (by decide) rfl rfl (by wtm_at "p_lt") (by wtm_at "p_lt") (by wtm_at "p_ex") (by wtm_at "p_ex") ?_ (by rfl)
  show SX _ _ _ [some (aInt a), some (aInt b), some (aInt (a.natAbs : Int)), some (aInt (b.natAbs : Int))] _ _
  refine sx_while (ι := Nat × Nat) (fun _ => ivT _) (fun x => [some (aInt a), some (aInt b), some (aInt (x.1 : Int)), some (aInt (x.2 : Int))]) (fun x => x.2) (fun x => Nat.gcd x.1 x.2 = Nat.gcd a.natAbs b.natAbs) (fun x c => c = !decide ((x.2 : Int) = 0)) (a.natAbs, b.natAbs) PassesOwn.never rfl (fun _ _ h => h) (fun x hx => ?_) (fun x hx hp => ?_) (fun x hx hp => ?_)
  · obtain ⟨x, y⟩ := x
    show TX _ _ _ [some (aInt a), some (aInt b), some (aInt (x : Int)), some (aInt (y : Int))] _ _ _
    wtm_at "p_tx"
  · obtain ⟨x, y⟩ := x
    have hy : (y : Int) ≠ 0 := fun e => by simp [e] at hp
    show SX _ _ _ [some (aInt a), some (aInt b), some (aInt (x : Int)), some (aInt (y : Int))] _ _
    refine sx_par (i := 2) (j := 3) (J := ivT _) (K := ivT _) (A := aInt (y : Int)) (B := aInt ((x : Int).fmod (y : Int))) rfl sc__law_low.nd rfl rfl (by decide) rfl rfl (by wtm_at "p_lt") (by wtm_at "p_lt") (by wtm_at "p_ex") (ex_mod (J := ivT _) (by wtm_at "p_ex") (by wtm_at "p_ex") hy) ?_ (by rfl)
    refine sx_nil fun σ H k => ⟨(y, x % y), Nat.mod_lt _ (by omega), ?_, k.low ⟨fun _ _ h => h, fun _ _ h => h, fun _ _ h => h, fun F v h => ?_, True.intro⟩⟩
    · rw [← hx, Nat.gcd_comm x y]
      show Nat.gcd y (x % y) = Nat.gcd y x
      rw [Nat.gcd_comm y (x % y), ← Nat.gcd_rec]
    · have e : (x : Int).fmod (y : Int) = ((x % y : Nat) : Int) := by rw [Int.fmod_eq_emod_of_nonneg _ (by omega)]; rfl
      rw [← e]; exact h
  · obtain ⟨x, y⟩ := x
    have hy : y = 0 := by
      have : (y : Int) = 0 := by
        rcases Decidable.em ((y : Int) = 0) with h | h
        · exact h
        · simp at hp; omega
      omega
    subst hy
    have hx' : x = Nat.gcd a.natAbs b.natAbs := by rw [← hx]; exact (Nat.gcd_zero_right x).symm
    subst hx'
    have hg := gcd_posR (a := a) h0
    have hg0 : ((Nat.gcd a.natAbs b.natAbs : Nat) : Int) ≠ 0 := by omega
    have hgb : Bits 9000 ((Nat.gcd a.natAbs b.natAbs : Nat) : Int) := by
      show (_ : Int).natAbs < _
      rw [Int.natAbs_natCast]
      exact Nat.lt_of_le_of_lt (Nat.gcd_le_right _ (by omega)) hb
    obtain ⟨e1, e2⟩ := low_eq2 (a := a) h0
    show SX _ _ _ [some (aInt a), some (aInt b), some (aInt ((Nat.gcd a.natAbs b.natAbs : Nat) : Int)), some (aInt ((0 : Nat) : Int))] _ _
    refine sx_ret (J := ivT _) (A := isR K (Rat.divInt a b)) (ex_if (P := (· = decide (0 < b))) (by wtm_at "p_tx") (fun p => ?_) (fun p => ?_)) hR
    · have p := of_decide_eq_true p.symm
      rw [if_pos p] at e1 e2
      show EX _ _ _ _ _ (isTup K [aInt (Rat.divInt a b).num, aInt ((Rat.divInt a b).den : Int)]) _
      rw [← e1, ← e2]
      wtm_at "p_ex" <;> assumption
    · have p := of_decide_eq_false p.symm
      rw [if_neg p] at e1 e2
      show EX _ _ _ _ _ (isTup K [aInt (Rat.divInt a b).num, aInt ((Rat.divInt a b).den : Int)]) _
      rw [← e1, ← e2]
      wtm_at "p_ex" <;> assumption
end
section
set_option hygiene false
local macro_rules | `(tactic| wtm_at "p_var") => `(tactic| first
  | ((with_reducible show EX _ _ _ _ (Expr.Name "above" _) _ _); first | exact ex_var (i := 0) rfl (by wtm_at "p_vis") rfl | exact isNew.lst (ex_var (i := 0) rfl (by wtm_at "p_vis") rfl))
  | ((with_reducible show EX _ _ _ _ (Expr.Name "below" _) _ _); first | exact ex_var (i := 1) rfl (by wtm_at "p_vis") rfl | exact isNew.lst (ex_var (i := 1) rfl (by wtm_at "p_vis") rfl))
  | ((with_reducible show EX _ _ _ _ (Expr.Name "shared" _) _ _); first | exact ex_var (i := 2) rfl (by wtm_at "p_vis") rfl | exact isNew.lst (ex_var (i := 2) rfl (by wtm_at "p_vis") rfl)))
abbrev sp_lowest (K : PySem.W.Frag) : Sp := spF (ι := Int × Int) (fun q => [aInt q.1, aInt q.2]) (fun q => q.2 ≠ 0 ∧ Bits 9000 q.2) (fun q => isR K (Rat.divInt q.1 q.2))
theorem has_lowest (B : Bl K mg) (D : DefAt K mg "lowest" S_lowest) : Has Pr w K mg base "lowest" ["above", "below"] (sp_lowest K) 1 := by
  obtain ⟨f, fd, F, hm⟩ := D.ex
  refine ⟨f, fd, ⟨_, F⟩, fn_pure F sc_lowest (fun _ => rfl) fun cdv A outer s H E U q Q hr ho hR => ?_, hm, F.kp, F.binds fun _ _ _ _ _ _ us hl => match us, hl with | [_, _], _ => rfl⟩
  obtain ⟨a, b⟩ := q
  change b ≠ 0 ∧ Bits 9000 b at ho
  change Ret _ _ (isR K (Rat.divInt a b)) _ at hR
  obtain ⟨h0, hb⟩ := ho
  have rest : ∀ c : Int, c = shr a b → ∀ D : Ends, D = retE Q → SX (cxF Pr w K mg base n_lowest "lowest" (defScope S_lowest) f cdv A outer s H E) (gP U H) (ivT _) [some (aInt a), some (aInt b), some (aInt c)] ((defBody S_lowest).drop 2) D := by
    intro c hc D hD
    subst hc hD
    have hs : Bits 9000 (shr a b) := by
      show (shr a b).natAbs < 2 ^ 9000
      rw [shr_natAbs]
      exact Nat.lt_of_le_of_lt (Nat.gcd_le_right _ (by have : b ≠ 0 := h0; omega)) hb
    have hn : shr a b ≠ 0 := shr_ne h0
    refine sx_retEq (by wtm_at "p_ex" <;> assumption) hR ?_
    obtain ⟨e1, e2⟩ := low_eq (a := a) h0
    show isTup K [aInt (a.fdiv (shr a b)), aInt (b.fdiv (shr a b))] = _
    rw [e1, e2]
  show SX _ _ _ [some (aInt a), some (aInt b), none] _ _
  refine sx_set (i := 2) sc_lowest.nd rfl (.inl rfl) (by wtm_at "p_lt") (by wtm_at "p_ex") ?_
  show SX _ _ _ [some (aInt a), some (aInt b), some (aInt _)] _ _
  refine sx_if (by wtm_at "p_tx") (fun p => ?_) (fun p => ?_)
  · refine sx_set (i := 2) sc_lowest.nd rfl (.inl rfl) (by wtm_at "p_lt") (by wtm_at "p_ex") ?_
    refine sx_fall (rest _ ?_ _ rfl) rfl
    have := of_decide_eq_true p.symm
    unfold shr
    rw [if_pos this]
  · refine sx_fall (rest _ ?_ _ rfl) rfl
    have := of_decide_eq_false p.symm
    unfold shr
    rw [if_neg this]
end
section
set_option hygiene false
local macro_rules | `(tactic| wtm_at "p_var") => `(tactic| first
  | ((with_reducible show EX _ _ _ _ (Expr.Name "above" _) _ _); first | exact ex_var (i := 0) rfl (by wtm_at "p_vis") rfl | exact isNew.lst (ex_var (i := 0) rfl (by wtm_at "p_vis") rfl))
  | ((with_reducible show EX _ _ _ _ (Expr.Name "below" _) _ _); first | exact ex_var (i := 1) rfl (by wtm_at "p_vis") rfl | exact isNew.lst (ex_var (i := 1) rfl (by wtm_at "p_vis") rfl)))
abbrev sp_number (K : PySem.W.Frag) : Sp := spF (ι := Int × Int) (fun q => [aInt q.1, aInt q.2]) (fun q => q.2 ≠ 0 ∧ Bits 9000 q.2) (fun q => isR K (Rat.divInt q.1 q.2))
theorem has_number (B : Bl K mg) (D : DefAt K mg "number" S_number) (Clowest : Has Pr w K mg base "lowest" ["above", "below"] (sp_lowest K) 1) : Has Pr w K mg base "number" ["above", "below"] (sp_number K) 2 := by
  obtain ⟨f, fd, F, hm⟩ := D.ex
  refine ⟨f, fd, ⟨_, F⟩, fn_pure F sc_number (fun _ => rfl) fun cdv A outer s H E U q Q hr ho hR => ?_, hm, F.kp, F.binds fun _ _ _ _ _ _ us hl => match us, hl with | [_, _], _ => rfl⟩
  obtain ⟨a, b⟩ := q
  change b ≠ 0 ∧ Bits 9000 b at ho
  show SX _ _ _ [some (aInt a), some (aInt b)] _ _
  refine sx_ifR (by wtm_at "p_tx") (fun p => ?_) (fun p => ?_)
  · exact absurd (of_decide_eq_true p.symm) ho.1
  refine sx_ret (A := isR K (Rat.divInt a b)) (ex_callH Clowest (hr.mono (by decide)) (a, b) (by wtm_at "p_ax") ho) hR
end
section
set_option hygiene false
local macro_rules | `(tactic| wtm_at "p_var") => `(tactic| first
  | ((with_reducible show EX _ _ _ _ (Expr.Name "size" _) _ _); first | exact ex_var (i := 0) rfl (by wtm_at "p_vis") rfl | exact isNew.lst (ex_var (i := 0) rfl (by wtm_at "p_vis") rfl))
  | ((with_reducible show EX _ _ _ _ (Expr.Name "place" _) _ _); first | exact ex_var (i := 1) rfl (by wtm_at "p_vis") rfl | exact isNew.lst (ex_var (i := 1) rfl (by wtm_at "p_vis") rfl))
  | ((with_reducible show EX _ _ _ _ (Expr.Name "at" _) _ _); first | exact ex_var (i := 2) rfl (by wtm_at "p_vis") rfl | exact isNew.lst (ex_var (i := 2) rfl (by wtm_at "p_vis") rfl)))
abbrev sp_unit_row (K : PySem.W.Frag) : Sp := spF (ι := Nat × Int) (fun q => [aInt (q.1 : Int), aInt q.2]) (fun q => q.1 ≤ 100000) (fun q => isRow K (unitR q.1 q.2))
theorem has_unit_row (B : Bl K mg) (D : DefAt K mg "unit_row" S_unit_row) : Has Pr w K mg base "unit_row" ["size", "place"] (sp_unit_row K) 1 := by
  obtain ⟨f, fd, F, hm⟩ := D.ex
  refine ⟨f, fd, ⟨_, F⟩, fn_pure F sc_unit_row (fun _ => rfl) fun cdv A outer s H E U q Q hr ho hR => ?_, hm, F.kp, F.binds fun _ _ _ _ _ _ us hl => match us, hl with | [_, _], _ => rfl⟩
  obtain ⟨n, p⟩ := q
  change n ≤ 100000 at ho
  change Ret _ _ (isRow K (unitR n p)) _ at hR
  show SX _ _ _ [some (aInt (n : Int)), some (aInt p), none] _ _
  refine sx_ret (A := isRow K (unitR n p)) (isNew.lst (ex_lc rfl sc_unit_row.nd ?_)) hR
  have e : (unitR n p).map (isR K) = (List.range n).map fun i => isR K (if ((i : Nat) : Int) = p then 1 else 0) := by unfold unitR; rw [List.map_map]; rfl
  rw [e]
  refine lx_N (J := ivT _) 2 (ix_range rfl B.range (by wtm_at "p_ex") ho) sc_unit_row.nd rfl (show blkC n_unit_row (defScope S_unit_row) _ _ = true from by decide +kernel) (by rw [List.length_range]; exact ho) rfl (.inl rfl) (fun _ _ _ _ _ => pg_name (i := 2) sc_unit_row.nd rfl (.inl rfl)) fun D s H C cl fp a ha => ?_
  show EX _ _ _ [some (aInt (n : Int)), some (aInt p), some (aInt ((a : Nat) : Int))] _ _ _
  refine ex_if (by wtm_at "p_tx") (fun e => ?_) (fun e => ?_)
  · rw [if_pos (of_decide_eq_true e.symm)]; wtm_at "p_ex"
  · rw [if_neg (of_decide_eq_false e.symm)]; wtm_at "p_ex"
end
section
set_option hygiene false
local macro_rules | `(tactic| wtm_at "p_var") => `(tactic| first
  | ((with_reducible show EX _ _ _ _ (Expr.Name "size" _) _ _); first | exact ex_var (i := 0) rfl (by wtm_at "p_vis") rfl | exact isNew.lst (ex_var (i := 0) rfl (by wtm_at "p_vis") rfl))
  | ((with_reducible show EX _ _ _ _ (Expr.Name "place" _) _ _); first | exact ex_var (i := 1) rfl (by wtm_at "p_vis") rfl | exact isNew.lst (ex_var (i := 1) rfl (by wtm_at "p_vis") rfl)))
abbrev sp_unit (K : PySem.W.Frag) : Sp := spF (ι := Nat × Nat) (fun q => [aInt (q.1 : Int), aInt (q.2 : Int)]) (fun q => q.2 < q.1 ∧ q.1 ≤ 100000) (fun q => isRow K (unitR q.1 q.2))
theorem has_unit (B : Bl K mg) (D : DefAt K mg "unit" S_unit) (Cunit_row : Has Pr w K mg base "unit_row" ["size", "place"] (sp_unit_row K) 1) : Has Pr w K mg base "unit" ["size", "place"] (sp_unit K) 2 := by
  obtain ⟨f, fd, F, hm⟩ := D.ex
  refine ⟨f, fd, ⟨_, F⟩, fn_pure F sc_unit (fun _ => rfl) fun cdv A outer s H E U q Q hr ho hR => ?_, hm, F.kp, F.binds fun _ _ _ _ _ _ us hl => match us, hl with | [_, _], _ => rfl⟩
  obtain ⟨n, p⟩ := q
  change p < n ∧ n ≤ 100000 at ho
  show SX _ _ _ [some (aInt (n : Int)), some (aInt (p : Int))] _ _
  refine sx_ifR (J := ivT _) (P := (· = (decide ((p : Int) < 0) || decide ((n : Int) ≤ (p : Int))))) ?_ (fun e => ?_) (fun e => ?_)
  · refine WX.tx (wx_or (J := ivT _) ?_ fun _ => wx_or1 ?_)
    · wtm_at "p_tx"
    · wtm_at "p_tx"
  · have : ¬ ((p : Int) < 0) := by omega
    have : ¬ ((n : Int) ≤ (p : Int)) := by omega
    simp_all
  · exact sx_ret (A := isRow K (unitR n p)) (ex_callH Cunit_row (hr.mono (by decide)) (n, (p : Int)) (by wtm_at "p_ax") ho.2) hR
end
section
set_option hygiene false
local macro_rules | `(tactic| wtm_at "p_var") => `(tactic| first
  | ((with_reducible show EX _ _ _ _ (Expr.Name "size" _) _ _); first | exact ex_var (i := 0) rfl (by wtm_at "p_vis") rfl | exact isNew.lst (ex_var (i := 0) rfl (by wtm_at "p_vis") rfl)))
abbrev sp_noughts (K : PySem.W.Frag) : Sp := spF (ι := Nat) (fun n => [aInt (n : Int)]) (fun n => n ≤ 100000) (fun n => isRow K (List.replicate n 0))
theorem has_noughts (B : Bl K mg) (D : DefAt K mg "noughts" S_noughts) : Has Pr w K mg base "noughts" ["size"] (sp_noughts K) 1 := by
  obtain ⟨f, fd, F, hm⟩ := D.ex
  refine ⟨f, fd, ⟨_, F⟩, fn_pure F sc_noughts (fun _ => rfl) fun cdv A outer s H E U n Q hr ho hR => ?_, hm, F.kp, F.binds fun _ _ _ _ _ _ us hl => match us, hl with | [_], _ => rfl⟩
  change n ≤ 100000 at ho
  show SX _ _ _ [some (aInt (n : Int))] _ _
  refine sx_retEq (J := ivT _) (A := isRow K (List.replicate n 0)) (isNew.lst ?_) hR rfl
  rw [List.map_replicate, ← flat_rep (isR K 0)]
  refine ex_rep (J := ivT _) (ex_lstN ?_ (by wtm_at "p_lt")) (by wtm_at "p_ex") (by show 1 * n ≤ _; omega) ho
  wtm_at "p_ax"
end
section
set_option hygiene false
local macro_rules | `(tactic| wtm_at "p_var") => `(tactic| first
  | ((with_reducible show EX _ _ _ _ (Expr.Name "_law_pool_here" _) _ _); first | exact ex_var (i := 0) rfl (by wtm_at "p_vis") rfl | exact isNew.lst (ex_var (i := 0) rfl (by wtm_at "p_vis") rfl))
  | ((with_reducible show EX _ _ _ _ (Expr.Name "_law_common" _) _ _); first | exact ex_var (i := 1) rfl (by wtm_at "p_vis") rfl | exact isNew.lst (ex_var (i := 1) rfl (by wtm_at "p_vis") rfl))
  | ((with_reducible show EX _ _ _ _ (Expr.Name "_law_above" _) _ _); first | exact ex_var (i := 2) rfl (by wtm_at "p_vis") rfl | exact isNew.lst (ex_var (i := 2) rfl (by wtm_at "p_vis") rfl))
  | ((with_reducible show EX _ _ _ _ (Expr.Name "_law_below" _) _ _); first | exact ex_var (i := 3) rfl (by wtm_at "p_vis") rfl | exact isNew.lst (ex_var (i := 3) rfl (by wtm_at "p_vis") rfl))
  | ((with_reducible show EX _ _ _ _ (Expr.Name "_law_due" _) _ _); first | exact ex_var (i := 4) rfl (by wtm_at "p_vis") rfl | exact isNew.lst (ex_var (i := 4) rfl (by wtm_at "p_vis") rfl))
  | ((with_reducible show EX _ _ _ _ (Expr.Name "_law_wide" _) _ _); first | exact ex_var (i := 5) rfl (by wtm_at "p_vis") rfl | exact isNew.lst (ex_var (i := 5) rfl (by wtm_at "p_vis") rfl))
  | ((with_reducible show EX _ _ _ _ (Expr.Name "_law_spot" _) _ _); first | exact ex_var (i := 6) rfl (by wtm_at "p_vis") rfl | exact isNew.lst (ex_var (i := 6) rfl (by wtm_at "p_vis") rfl))
  | ((with_reducible show EX _ _ _ _ (Expr.Name "_law_k" _) _ _); first | exact ex_var (i := 7) rfl (by wtm_at "p_vis") rfl | exact isNew.lst (ex_var (i := 7) rfl (by wtm_at "p_vis") rfl)))
-- needs data
abbrev sp__law_numbers_right (K : PySem.W.Frag) : Sp := spD (ι := Unit) 20 (fun _ => []) (fun _ => True) (fun _ => isBl true)
theorem RowU {n p : Nat} : (List.range n).map (fun i : Nat => isTup K [aInt (if decide (((i : Nat) : Int) = (p : Int)) then 1 else 0), aInt 1]) = (unitR n p).map (isR K) := by
  unfold unitR
  rw [List.map_map]
  apply List.map_congr_left
  intro i _
  show _ = isR K (if ((i : Nat) : Int) = (p : Int) then 1 else 0)
  by_cases h : ((i : Nat) : Int) = (p : Int)
  · rw [decide_eq_true h, if_pos h, if_pos rfl]; rfl
  · rw [decide_eq_false h, if_neg h, if_neg Bool.false_ne_true]; rfl
theorem has__law_numbers_right (B : Bl K mg) (D : DefAt K mg "_law_numbers_right" S__law_numbers_right) (Dnumber : DefAt K mg "number" S_number) (Dunit : DefAt K mg "unit" S_unit) (Dnoughts : DefAt K mg "noughts" S_noughts) (C_law_pick : Has Pr w K mg base "_law_pick" ["_law_pool_here", "_law_many"] (sp__law_pick K) 1) (C_law_low : Has Pr w K mg base "_law_low" ["_law_above", "_law_below"] (sp__law_low K) 1) (Cnumber : Has Pr w K mg base "number" ["above", "below"] (sp_number K) 2) (Cunit : Has Pr w K mg base "unit" ["size", "place"] (sp_unit K) 2) (Cnoughts : Has Pr w K mg base "noughts" ["size"] (sp_noughts K) 1) (C_law_alike : ∀ n : Nat, Has Pr w K mg base "_law_alike" ["_law_told", "_law_due"] (sp__law_alike K n) (n + 1)) : Has Pr w K mg base "_law_numbers_right" ["_law_pool_here"] (sp__law_numbers_right K) 6 := by
  obtain ⟨f, fd, F, hm⟩ := D.ex
  refine ⟨f, fd, ⟨_, F⟩, fn_draw F sc__law_numbers_right (fun _ => rfl) fun cdv A outer s H E U ap ag n q Q hr ho hn hR => ?_, hm, F.kp, F.binds fun _ _ _ _ _ _ us hl => match us, hl with | [_], _ => rfl⟩
  change Ret _ _ (isBl true) _ at hR
  have rest : ∀ (n' : Nat) (c a b : Int), n' ≤ n + 9 → (1 ≤ c ∧ c ≤ 99) → (-9999 ≤ a ∧ a ≤ 9999) → (-9999 ≤ b ∧ b ≤ 9999 ∧ b ≠ 0) → ∀ D : Ends, D = retE Q → SX (cxF Pr w K mg base n__law_numbers_right "_law_numbers_right" (defScope S__law_numbers_right) f cdv A outer s H E) (gD U ap ag H) (ivD U ap ag H n') [some (isV (.ref ap)), some (aInt c), some (aInt a), some (aInt b), none, none, none, none] ((defBody S__law_numbers_right).drop 3) D := by
    intro n' c a b hn' hc ha hb D hD
    subst hD
    have hcb0 : c * b ≠ 0 := fun e => by rcases Int.mul_eq_zero.mp e with e | e <;> omega
    have bc : c.natAbs < 2 ^ 7 := by omega
    have ba : a.natAbs < 2 ^ 14 := by omega
    have bb : b.natAbs < 2 ^ 14 := by omega
    have z1 : ∃ m n, Bits m c ∧ Bits n a ∧ m + n ≤ 134217728 := ⟨7, 14, bc, ba, by decide⟩
    have z2 : ∃ m n, Bits m c ∧ Bits n b ∧ m + n ≤ 134217728 := ⟨7, 14, bc, bb, by decide⟩
    have z3 : ∃ m n, Bits m (-c) ∧ Bits n b ∧ m + n ≤ 134217728 := ⟨7, 14, by show (-c).natAbs < _; rw [Int.natAbs_neg]; exact bc, bb, by decide⟩
    have z4 : c * b ≠ 0 ∧ Bits 9000 (c * b) := ⟨hcb0, by
      show (_ : Int).natAbs < _
      rw [Int.natAbs_mul]
      exact Nat.lt_of_lt_of_le (pow_mul_lt bc bb) (Nat.pow_le_pow_right (by decide) (by decide))⟩
    have z5 : -c * b ≠ 0 ∧ Bits 9000 (-c * b) := ⟨fun e => by rcases Int.mul_eq_zero.mp e with e | e <;> omega, by
      show (_ : Int).natAbs < _
      rw [Int.natAbs_mul, Int.natAbs_neg]
      exact Nat.lt_of_lt_of_le (pow_mul_lt bc bb) (Nat.pow_le_pow_right (by decide) (by decide))⟩
    refine sx_set (i := 4) (J := ivD U ap ag H n') (A := isR K (Rat.divInt (c * a) (c * b))) sc__law_numbers_right.nd rfl (.inl rfl) (by wtm_at "p_lt") (by wtm_at "p_ex" <;> assumption) ?_
    show SX _ _ _ [some (isV (.ref ap)), some (aInt c), some (aInt a), some (aInt b), some (isR K (Rat.divInt (c * a) (c * b))), none, none, none] _ _
    generalize hd : Rat.divInt (c * a) (c * b) = d
    refine sx_ifR (J := ivD U ap ag H n') (P := (· = false)) (TX.imp (tx_not (P := (· = true)) (tx_val ?_)) fun k h => nt h) (fun p => by cases p) fun _ => ?_
    · refine ex_alike (dR d) (C_law_alike 1) (hr.mono (by decide)) okD_R isD_R (J := ivD U ap ag H n') ?_ (by wtm_at "p_var")
      refine ex_callH Cnumber (hr.mono (by decide)) (c * a, c * b) ?_ z4 (by show isR K _ = _; rw [hd])
      wtm_at "p_ax" <;> assumption
    refine sx_ifR (J := ivD U ap ag H n') (P := (· = false)) (TX.imp (tx_not (P := (· = true)) (tx_val ?_)) fun k h => nt h) (fun p => by cases p) fun _ => ?_
    · refine ex_alike (dR (-d)) (C_law_alike 1) (hr.mono (by decide)) okD_R isD_R (J := ivD U ap ag H n') ?_ ?_
      · refine ex_callKH (ks := ["below", "above"]) (g := swp) (gV := swp) (gA := swp) Cnumber Dnumber (hr.mono (by decide)) (fun r => swp_rel r) (fun _ _ _ _ _ _ ws hl => match ws, hl with | [_, _], _ => rfl) (As := [aInt (-c * b), aInt (c * a)]) (c * a, -c * b) ?_ rfl rfl swp_all z5 (by
          show isR K _ = _
          have : -c * b = -(c * b) := by rw [Int.neg_mul]
          show isR K (Rat.divInt (c * a) (-c * b)) = _
          rw [this, Rat.divInt_neg', ← hd, Rat.neg_divInt])
        refine kx_cons (J := ivD U ap ag H n') (by wtm_at "p_ex" <;> assumption) (kx_cons (J := ivD U ap ag H n') (by wtm_at "p_ex" <;> assumption) kx_nil)
      · show EX _ _ _ _ _ (isTup K [aInt (-d).num, aInt ((-d).den : Int)]) _
        rw [Rat.neg_num, Rat.neg_den]
        wtm_at "p_ex"
    clear hd z1 z2 z3 z4 z5
    refine sx_setE (i := 5) (P := fun r : Int => 1 ≤ r ∧ r ≤ 40) (B := aInt) (J := ivD U ap ag H (n' + 1 + 1)) sc__law_numbers_right.nd rfl (.inl rfl) (by wtm_at "p_lt") ?_ fun wd hwd => ?_
    · refine ex_addD (J := ivD U ap ag H n') (P := (· = 1)) (Q := fun r => 0 ≤ r ∧ r < 40) (EX.dr ex_int) ?_ (fun i j e h => by subst e; omega)
      refine ex_pick (R := fun m => 1 ≤ m ∧ m ≤ 40) (n := n' + 1) C_law_pick (hr.mono (by decide)) drw_gD (by wtm_at "p_var") ?_ (fun _ h => h) (by decide) (by omega)
      refine ex_ixI (l := [6, 40]) (P := fun r => 0 ≤ r ∧ r < 2) (J := ivD U ap ag H n') (fun _ _ => rfl) ?_ (ex_pickK C_law_pick (hr.mono (by decide)) drw_gD (by wtm_at "p_var") ex_int (by decide) (by decide) (by omega)) (fun i e => e) (by simp)
      show EX _ _ _ _ _ (isLst K [aInt 6, aInt 40]) _
      wtm_at "p_ex"
    obtain ⟨wd, rfl⟩ : ∃ m : Nat, wd = (m : Int) := ⟨wd.toNat, by omega⟩
    show SX _ _ _ [some (isV (.ref ap)), some (aInt c), some (aInt a), some (aInt b), some (isR K d), some (aInt (wd : Int)), none, none] _ _
    refine sx_setE (i := 6) (P := fun r : Int => 0 ≤ r ∧ r < (wd : Int)) (B := aInt) (J := ivD U ap ag H (n' + 1 + 1 + 1)) sc__law_numbers_right.nd rfl (.inr rfl) (by wtm_at "p_lt") (ex_pickK C_law_pick (hr.mono (by decide)) drw_gD (by wtm_at "p_var") (by wtm_at "p_var") (by omega) (by omega) (by omega)) fun sp hsp => ?_
    obtain ⟨sp, rfl⟩ : ∃ m : Nat, sp = (m : Int) := ⟨sp.toNat, by omega⟩
    have hwl : wd ≤ 100000 := by omega
    show SX _ _ _ [some (isV (.ref ap)), some (aInt c), some (aInt a), some (aInt b), some (isR K d), some (aInt (wd : Int)), some (aInt (sp : Int)), none] _ _
    refine sx_setLc (i := 4) (J := ivD U ap ag H (n' + 1 + 1 + 1)) (As := (unitR wd sp).map (isR K)) rfl sc__law_numbers_right.nd rfl rfl (by wtm_at "p_lt") ?_ ?_ (sw_true rfl rfl rfl (by decide +kernel))
    · rw [← RowU]
      refine lx_N (J := ivD U ap ag H (n' + 1 + 1 + 1)) 7 (ix_range rfl B.range (by wtm_at "p_var") hwl) sc__law_numbers_right.nd rfl (show blkC n__law_numbers_right (defScope S__law_numbers_right) _ _ = true from by decide +kernel) (by rw [List.length_range]; exact hwl) rfl (.inl rfl) (fun _ _ _ _ _ => pg_name (i := 7) sc__law_numbers_right.nd rfl (.inl rfl)) fun D s H' C cl fp x hx => ?_
      show EX _ _ _ [some (isV (.ref ap)), some (aInt c), some (aInt a), some (aInt b), some (isR K d), some (aInt (wd : Int)), some (aInt (sp : Int)), some (aInt ((x : Nat) : Int))] _ _ _
      refine ex_tup (ax_cons (ex_intB (by rfl) B.int (by wtm_at "p_ex")) (by wtm_at "p_ax")) (by wtm_at "p_lt")
    have lu : (unitR wd sp).length = wd := by unfold unitR; rw [List.length_map, List.length_range]
    show SX _ _ _ [some (isV (.ref ap)), some (aInt c), some (aInt a), some (aInt b), some (isNew ((unitR wd sp).map (isR K))), some (aInt (wd : Int)), some (aInt (sp : Int)), none] _ _
    refine sx_ifR (J := ivD U ap ag H (n' + 1 + 1 + 1)) (P := (· = (false || false))) (WX.tx (wx_or (J := ivD U ap ag H (n' + 1 + 1 + 1)) (p := false) (q := false) (TX.imp (tx_not (P := (· = true)) (tx_val ?_)) fun k h => nt h) fun _ => wx_or1 (TX.imp (tx_not (P := (· = true)) (tx_val ?_)) fun k h => nt h))) (fun p => by cases p) fun _ => ?_
    · refine ex_alike (dRow (unitR wd sp)) (C_law_alike 2) (hr.mono (by decide)) (okD_row (by omega)) isD_row (J := ivD U ap ag H (n' + 1 + 1 + 1)) ?_ (isNew.lst (by wtm_at "p_var"))
      exact ex_callH Cunit (hr.mono (by decide)) (wd, sp) (by wtm_at "p_ax") ⟨by omega, hwl⟩
    · refine ex_alike (dRow (unitR wd sp)) (C_law_alike 2) (hr.mono (by decide)) (okD_row (by omega)) isD_row (J := ivD U ap ag H (n' + 1 + 1 + 1)) ?_ (isNew.lst (by wtm_at "p_var"))
      refine ex_callKH (ks := ["place", "size"]) (g := swp) (gV := swp) (gA := swp) Cunit Dunit (hr.mono (by decide)) (fun r => swp_rel r) (fun _ _ _ _ _ _ ws hl => match ws, hl with | [_, _], _ => rfl) (As := [aInt (sp : Int), aInt (wd : Int)]) (wd, sp) ?_ rfl rfl swp_all ⟨by omega, hwl⟩
      exact kx_cons (J := ivD U ap ag H (n' + 1 + 1 + 1)) (by wtm_at "p_ex") (kx_cons (J := ivD U ap ag H (n' + 1 + 1 + 1)) (by wtm_at "p_ex") kx_nil)
    refine sx_ret (J := ivD U ap ag H (n' + 1 + 1 + 1)) (A := isBl (true && true)) (ex_and (J := ivD U ap ag H (n' + 1 + 1 + 1)) ?_ fun _ => ex_one ?_) (hR.post (ivD_more (by omega)))
    · refine ex_alike (dRow (List.replicate wd 0)) (C_law_alike 2) (hr.mono (by decide)) (okD_row (by rw [List.length_replicate]; exact hwl)) isD_row (J := ivD U ap ag H (n' + 1 + 1 + 1)) (ex_callH Cnoughts (hr.mono (by decide)) wd (by wtm_at "p_ax") hwl) (isNew.lst ?_)
      rw [List.map_replicate, ← flat_rep (isR K 0)]
      refine ex_rep (J := ivD U ap ag H (n' + 1 + 1 + 1)) (ex_lstN ?_ (by wtm_at "p_lt")) (by wtm_at "p_ex") (by show 1 * wd ≤ _; omega) hwl
      show AX _ _ _ _ _ [isTup K [aInt 0, aInt 1]] _
      wtm_at "p_ax"
    · refine ex_alike (dRow [0]) (C_law_alike 2) (hr.mono (by decide)) (okD_row (by decide)) isD_row (J := ivD U ap ag H (n' + 1 + 1 + 1)) ?_ (by show EX _ _ _ _ _ (isLst K [isTup K [aInt 0, aInt 1]]) _; wtm_at "p_ex")
      exact ex_callKH (ks := ["size"]) (g := id) (gV := id) (gA := id) Cnoughts Dnoughts (hr.mono (by decide)) (fun r => r) (fun _ _ _ _ _ _ ws hl => match ws, hl with | [_], _ => rfl) (As := [aInt ((1 : Nat) : Int)]) 1 (kx_cons (J := ivD U ap ag H (n' + 1 + 1 + 1)) ex_int kx_nil) rfl rfl (fun _ _ h => h) (show 1 ≤ 100000 by decide)
  show SX _ _ _ [some (isV (.ref ap)), none, none, none, none, none, none, none] _ _
  refine sx_parE (i := 1) (j := 2) (P := fun r : Int => 1 ≤ r ∧ r ≤ 99) (R := fun r : Int => -99 ≤ r ∧ r ≤ 99) (A' := aInt) (B' := aInt) (J := ivD U ap ag H (n + 1)) (K := ivD U ap ag H (n + 1 + 1)) rfl sc__law_numbers_right.nd rfl rfl (by decide) rfl rfl (by wtm_at "p_lt") (by wtm_at "p_lt") ?_ ?_ (fun c a hc ha => ?_) (by rfl)
  · exact ex_addD (J := ivD U ap ag H n) (P := (· = 1)) (Q := fun r => 0 ≤ r ∧ r < 99) (EX.dr ex_int) (ex_pickK C_law_pick (hr.mono (by decide)) drw_gD (by wtm_at "p_var") ex_int (by decide) (by decide) (by omega)) (fun i j e h => by subst e; omega)
  · exact ex_subD (J := ivD U ap ag H (n + 1 + 1)) (P := fun r => 0 ≤ r ∧ r < 199) (Q := (· = 99)) (ex_pickK C_law_pick (hr.mono (by decide)) drw_gD (by wtm_at "p_var") ex_int (by decide) (by decide) (by omega)) (EX.dr ex_int) (fun i j h e => by subst e; omega)
  show SX _ _ _ [some (isV (.ref ap)), some (aInt c), some (aInt a), none, none, none, none, none] _ _
  refine sx_setE (i := 3) (P := fun r : Int => -99 ≤ r ∧ r ≤ 99 ∧ r ≠ 0) (B := aInt) (J := ivD U ap ag H (n + 1 + 1 + 1 + 1)) sc__law_numbers_right.nd rfl (.inl rfl) (by wtm_at "p_lt") ?_ fun b hb => ?_
  · refine ex_mulD (m := 7) (n := 1) (J := ivD U ap ag H (n + 1 + 1 + 1)) (P := fun r : Int => 1 ≤ r ∧ r ≤ 99) (Q := fun r => r = 1 ∨ r = -1) ?_ ?_ (fun i h => by show i.natAbs < _; omega) (fun j h => by show j.natAbs < _; omega) (by decide) (fun i j h1 h2 => by rcases h2 with rfl | rfl <;> omega)
    · exact ex_addD (J := ivD U ap ag H (n + 1 + 1)) (P := (· = 1)) (Q := fun r => 0 ≤ r ∧ r < 99) (EX.dr ex_int) (ex_pickK C_law_pick (hr.mono (by decide)) drw_gD (by wtm_at "p_var") ex_int (by decide) (by decide) (by omega)) (fun i j e h => by subst e; omega)
    · refine ex_ixI (l := [1, -1]) (P := fun r => 0 ≤ r ∧ r < 2) (J := ivD U ap ag H (n + 1 + 1 + 1)) (fun _ _ => rfl) ?_ (ex_pickK C_law_pick (hr.mono (by decide)) drw_gD (by wtm_at "p_var") ex_int (by decide) (by decide) (by omega)) (fun i e => e) (by simp)
      show EX _ _ _ _ _ (isLst K [aInt 1, aInt (-1)]) _
      wtm_at "p_ex"
  show SX _ _ _ [some (isV (.ref ap)), some (aInt c), some (aInt a), some (aInt b), none, none, none, none] _ _
  refine sx_if (P := fun _ => True) (J := ivD U ap ag H (n + 1 + 1 + 1 + 1 + 1)) ?_ (fun _ => ?_) (fun _ => sx_fall (rest (n + 1 + 1 + 1 + 1 + 1) c a b (by omega) hc (by omega) (by omega) _ rfl) rfl)
  · exact TX.imp (tx_drEq (J := ivD U ap ag H (n + 1 + 1 + 1 + 1 + 1)) (ex_pickK (m := 3) C_law_pick (hr.mono (by decide)) drw_gD (by wtm_at "p_var") ex_int (by decide) (by decide) (by omega)) (EX.dr ex_int)) fun _ _ => True.intro
  refine sx_parE (i := 1) (j := 2) (P := fun r : Int => r = 1) (R := fun r : Int => -9999 ≤ r ∧ r ≤ 9999) (A' := aInt) (B' := aInt) (J := ivD U ap ag H (n + 1 + 1 + 1 + 1 + 1)) (K := ivD U ap ag H (n + 1 + 1 + 1 + 1 + 1 + 1)) rfl sc__law_numbers_right.nd rfl rfl (by decide) rfl rfl (by wtm_at "p_lt") (by wtm_at "p_lt") (EX.dr ex_int) ?_ (fun c a hc ha => ?_) (by rfl)
  · exact ex_subD (J := ivD U ap ag H (n + 1 + 1 + 1 + 1 + 1 + 1)) (P := fun r => 0 ≤ r ∧ r < 19999) (Q := (· = 9999)) (ex_pickK C_law_pick (hr.mono (by decide)) drw_gD (by wtm_at "p_var") ex_int (by decide) (by decide) (by omega)) (EX.dr ex_int) (fun i j h e => by subst e; omega)
  show SX _ _ _ [some (isV (.ref ap)), some (aInt c), some (aInt a), some (aInt b), none, none, none, none] _ _
  refine sx_setE (i := 3) (P := fun r : Int => -9999 ≤ r ∧ r ≤ 9999 ∧ r ≠ 0) (B := aInt) (J := ivD U ap ag H (n + 1 + 1 + 1 + 1 + 1 + 1 + 1 + 1)) sc__law_numbers_right.nd rfl (.inl rfl) (by wtm_at "p_lt") ?_ fun b hb => ?_
  · refine ex_mulD (m := 1) (n := 14) (J := ivD U ap ag H (n + 1 + 1 + 1 + 1 + 1 + 1 + 1)) (P := fun r => r = 1 ∨ r = -1) (Q := fun r : Int => 1 ≤ r ∧ r ≤ 9999) ?_ ?_ (fun i h => by show i.natAbs < _; omega) (fun j h => by show j.natAbs < _; omega) (by decide) (fun i j h2 h1 => by rcases h2 with rfl | rfl <;> omega)
    · refine ex_ixI (l := [1, -1]) (P := fun r => 0 ≤ r ∧ r < 2) (J := ivD U ap ag H (n + 1 + 1 + 1 + 1 + 1 + 1)) (fun _ _ => rfl) ?_ (ex_pickK C_law_pick (hr.mono (by decide)) drw_gD (by wtm_at "p_var") ex_int (by decide) (by decide) (by omega)) (fun i e => e) (by simp)
      show EX _ _ _ _ _ (isLst K [aInt 1, aInt (-1)]) _
      wtm_at "p_ex"
    · exact ex_addD (J := ivD U ap ag H (n + 1 + 1 + 1 + 1 + 1 + 1 + 1)) (P := (· = 1)) (Q := fun r => 0 ≤ r ∧ r < 9999) (EX.dr ex_int) (ex_pickK C_law_pick (hr.mono (by decide)) drw_gD (by wtm_at "p_var") ex_int (by decide) (by decide) (by omega)) (fun i j e h => by subst e; omega)
  exact sx_fall (rest (n + 1 + 1 + 1 + 1 + 1 + 1 + 1 + 1) c a b (by omega) (by omega) ha hb _ rfl) rfl
end
section
set_option hygiene false
local macro_rules | `(tactic| wtm_at "p_var") => `(tactic| first
  | ((with_reducible show EX _ _ _ _ (Expr.Name "_law_pool_here" _) _ _); first | exact ex_var (i := 0) rfl (by wtm_at "p_vis") rfl | exact isNew.lst (ex_var (i := 0) rfl (by wtm_at "p_vis") rfl))
  | ((with_reducible show EX _ _ _ _ (Expr.Name "_law_great" _) _ _); first | exact ex_var (i := 1) rfl (by wtm_at "p_vis") rfl | exact isNew.lst (ex_var (i := 1) rfl (by wtm_at "p_vis") rfl))
  | ((with_reducible show EX _ _ _ _ (Expr.Name "_law_kind" _) _ _); first | exact ex_var (i := 2) rfl (by wtm_at "p_vis") rfl | exact isNew.lst (ex_var (i := 2) rfl (by wtm_at "p_vis") rfl))
  | ((with_reducible show EX _ _ _ _ (Expr.Name "_law_most" _) _ _); first | exact ex_var (i := 3) rfl (by wtm_at "p_vis") rfl | exact isNew.lst (ex_var (i := 3) rfl (by wtm_at "p_vis") rfl))
  | ((with_reducible show EX _ _ _ _ (Expr.Name "_law_above" _) _ _); first | exact ex_var (i := 4) rfl (by wtm_at "p_vis") rfl | exact isNew.lst (ex_var (i := 4) rfl (by wtm_at "p_vis") rfl))
  | ((with_reducible show EX _ _ _ _ (Expr.Name "_law_below" _) _ _); first | exact ex_var (i := 5) rfl (by wtm_at "p_vis") rfl | exact isNew.lst (ex_var (i := 5) rfl (by wtm_at "p_vis") rfl)))
abbrev sp__law_number (K : PySem.W.Frag) : Sp := spD (ι := Bool) 5 (fun g => [isBl g]) (fun _ => True) (fun _ => exA (RB 14) (isR K))
theorem has__law_number (B : Bl K mg) (D : DefAt K mg "_law_number" S__law_number) (C_law_pick : Has Pr w K mg base "_law_pick" ["_law_pool_here", "_law_many"] (sp__law_pick K) 1) (C_law_low : Has Pr w K mg base "_law_low" ["_law_above", "_law_below"] (sp__law_low K) 1) : Has Pr w K mg base "_law_number" ["_law_pool_here", "_law_great"] (sp__law_number K) 2 := by
  obtain ⟨f, fd, F, hm⟩ := D.ex
  refine ⟨f, fd, ⟨_, F⟩, fn_draw F sc__law_number (fun _ => rfl) fun cdv A outer s H E U ap ag n g Q hr ho hn hR => ?_, hm, F.kp, F.binds fun _ _ _ _ _ _ us hl => match us, hl with | [_, _], _ => rfl⟩
  have hn1 : n + 1 ≤ 2 ^ 60 := by omega
  have hn2 : n + 1 + 1 ≤ 2 ^ 60 := by omega
  have hn3 : n + 1 + 1 + 1 ≤ 2 ^ 60 := by omega
  have hn4 : n + 1 + 1 + 1 + 1 ≤ 2 ^ 60 := by omega
  have hn5 : n + 1 + 1 + 1 + 1 + 1 ≤ 2 ^ 60 := by omega
  show SX _ _ _ [some (isV (.ref ap)), some (isBl g), none, none, none, none] _ _
  refine sx_setE (i := 2) (P := fun r : Int => 0 ≤ r ∧ r < 7) (B := aInt) (J := ivD U ap ag H (n + 1)) sc__law_number.nd rfl (.inl rfl) (by wtm_at "p_lt") (ex_pickK (m := 7) C_law_pick (hr.mono (by decide)) drw_gD (by wtm_at "p_var") ex_int (by decide) (by decide) hn1) fun kind hk => ?_
  show SX _ _ _ [some (isV (.ref ap)), some (isBl g), some (aInt kind), none, none, none] _ _
  refine sx_ifR (P := (· = decide (kind < 2))) (J := ivD U ap ag H (n + 1)) (by wtm_at "p_tx") (fun p => ?_) (fun p => ?_)
  · have p := of_decide_eq_true p.symm
    refine sx_ret (J := ivD U ap ag H (n + 1)) (A := exA (RB 14) (isR K)) (EX.ex (kind : Rat) (by show EX _ _ _ _ _ (isTup K [aInt kind, aInt 1]) _; wtm_at "p_ex") (RB_int (by omega) (by decide))) (hR.post (ivD_more (by omega)))
  · have p := of_decide_eq_false p.symm
    refine sx_setE (i := 3) (P := fun r : Int => 1 ≤ r ∧ r ≤ 9999) (B := aInt) (J := ivD U ap ag H (n + 1)) sc__law_number.nd rfl (.inl rfl) (by wtm_at "p_lt") ?_ fun most hm => ?_
    · refine ex_if (P := (· = g)) (J := ivD U ap ag H (n + 1)) (tx_val (by wtm_at "p_var")) (fun _ => ?_) (fun _ => EX.ex 9 ex_int (by decide))
      refine ex_ixI (l := [9, 9, 9, 99, 9999]) (P := (· = kind - 2)) (J := ivD U ap ag H (n + 1)) (fun _ _ => rfl) ?_ (EX.dr (by wtm_at "p_ex")) (fun i e => by subst e; show 0 ≤ kind - 2 ∧ kind - 2 < 5; omega) (by simp)
      show EX _ _ _ _ _ (isLst K [aInt 9, aInt 9, aInt 9, aInt 99, aInt 9999]) _
      wtm_at "p_ex"
    show SX _ _ _ [some (isV (.ref ap)), some (isBl g), some (aInt kind), some (aInt most), none, none] _ _
    refine sx_parE (i := 4) (j := 5) (P := fun r : Int => 1 ≤ r ∧ r ≤ 9999) (R := fun r : Int => 1 ≤ r ∧ r ≤ 9999) (A' := aInt) (B' := aInt) (J := ivD U ap ag H (n + 1 + 1)) (K := ivD U ap ag H (n + 1 + 1 + 1 + 1)) rfl sc__law_number.nd rfl rfl (by decide) rfl rfl (by wtm_at "p_lt") (by wtm_at "p_lt") ?_ ?_ (fun above below ha hb => ?_) (by rfl)
    · refine ex_addD (J := ivD U ap ag H (n + 1)) (P := (· = 1)) (Q := fun r => 0 ≤ r ∧ r < most) (EX.dr ex_int) (ex_pickK C_law_pick (hr.mono (by decide)) drw_gD (by wtm_at "p_var") (by wtm_at "p_var") hm.1 (by omega) hn2) (fun i j e h => by subst e; omega)
    · refine ex_addD (J := ivD U ap ag H (n + 1 + 1)) (P := (· = 1)) (Q := fun r => 0 ≤ r ∧ r < 9999) (EX.dr ex_int) (ex_pick (R := fun m => 1 ≤ m ∧ m ≤ 9999) (n := n + 1 + 1 + 1) C_law_pick (hr.mono (by decide)) drw_gD (by wtm_at "p_var") ?_ (fun _ h => h) (by decide) hn4) (fun i j e h => by subst e; omega)
      refine ex_ixI (l := [1, most]) (P := fun r => 0 ≤ r ∧ r < 2) (J := ivD U ap ag H (n + 1 + 1)) (fun _ _ => rfl) ?_ (ex_pickK C_law_pick (hr.mono (by decide)) drw_gD (by wtm_at "p_var") ex_int (by decide) (by decide) hn3) (fun i e => e) (by
        intro x hx
        have : x = 1 ∨ x = most := by simpa using hx
        omega)
      show EX _ _ _ _ _ (isLst K [aInt 1, aInt most]) _
      wtm_at "p_ex"
    show SX _ _ _ [some (isV (.ref ap)), some (isBl g), some (aInt kind), some (aInt most), some (aInt above), some (aInt below)] _ _
    refine sx_ret (J := ivD U ap ag H (n + 1 + 1 + 1 + 1 + 1)) (A := exA (RB 14) (isR K)) ?_ hR
    refine ex_callX (As := [exA (fun i => i = above ∨ i = -above) aInt, aInt below]) C_law_low (hr.mono (by decide)) (ax_cons (J := ivD U ap ag H (n + 1 + 1 + 1 + 1 + 1)) ?_ (by wtm_at "p_ax")) fun F vs h => ?_
    · refine ex_ixI (l := [above, -above]) (P := fun r => 0 ≤ r ∧ r < 2) (J := ivD U ap ag H (n + 1 + 1 + 1 + 1)) (fun _ _ => rfl) ?_ (ex_pickK C_law_pick (hr.mono (by decide)) drw_gD (by wtm_at "p_var") ex_int (by decide) (by decide) hn5) (fun i e => e) (by simp)
      show EX _ _ _ _ _ (isLst K [aInt above, aInt (-above)]) _
      wtm_at "p_ex"
    · obtain ⟨v, r, rfl, ⟨i, hi, e1⟩, v2, r2, rfl, e2, rfl⟩ := h
      have hb0 : below ≠ 0 := by omega
      have hbb : below.natAbs < 2 ^ 14 := by omega
      exact ⟨(i, below), ⟨hb0, Nat.lt_of_lt_of_le hbb (Nat.pow_le_pow_right (by decide) (by decide))⟩, ⟨v, _, rfl, e1, v2, _, rfl, e2, rfl⟩, fun F v h => ⟨_, divInt_RB hb0 (by omega) hbb, h⟩⟩
end
section
set_option hygiene false
local macro_rules | `(tactic| wtm_at "p_var") => `(tactic| first
  | ((with_reducible show EX _ _ _ _ (Expr.Name "_law_pool_here" _) _ _); first | exact ex_var (i := 0) rfl (by wtm_at "p_vis") rfl | exact isNew.lst (ex_var (i := 0) rfl (by wtm_at "p_vis") rfl))
  | ((with_reducible show EX _ _ _ _ (Expr.Name "_law_wide" _) _ _); first | exact ex_var (i := 1) rfl (by wtm_at "p_vis") rfl | exact isNew.lst (ex_var (i := 1) rfl (by wtm_at "p_vis") rfl))
  | ((with_reducible show EX _ _ _ _ (Expr.Name "_law_great" _) _ _); first | exact ex_var (i := 2) rfl (by wtm_at "p_vis") rfl | exact isNew.lst (ex_var (i := 2) rfl (by wtm_at "p_vis") rfl))
  | ((with_reducible show EX _ _ _ _ (Expr.Name "_law_line_here" _) _ _); first | exact ex_var (i := 3) rfl (by wtm_at "p_vis") rfl | exact isNew.lst (ex_var (i := 3) rfl (by wtm_at "p_vis") rfl))
  | ((with_reducible show EX _ _ _ _ (Expr.Name "_law_turn" _) _ _); first | exact ex_var (i := 4) rfl (by wtm_at "p_vis") rfl | exact isNew.lst (ex_var (i := 4) rfl (by wtm_at "p_vis") rfl))
  | ((with_reducible show EX _ _ _ _ (Expr.Name "_law_k" _) _ _); first | exact ex_var (i := 5) rfl (by wtm_at "p_vis") rfl | exact isNew.lst (ex_var (i := 5) rfl (by wtm_at "p_vis") rfl)))
abbrev sp__law_line (K : PySem.W.Frag) : Sp := spD (ι := Nat × Bool) 50 (fun q => [aInt (q.1 : Int), isBl q.2]) (fun q => q.1 ≤ 40) (fun q => exA (fun xs : List Rat => xs.length = q.1 ∧ ∀ x ∈ xs, RB 14 x) (isRow K))
theorem row_ex {K : PySem.W.Frag} {n : Nat} {P : Rat → Prop} (F : Hp) (v : V) (h : (isNew (List.replicate n (exA P (isR K)))).p F v) : (exA (fun xs : List Rat => xs.length = n ∧ ∀ x ∈ xs, P x) (isRow K)).p F v := by
  obtain ⟨xs, h1, a, vs, e, h2, h3⟩ := isNew_ex F v h
  exact ⟨xs, h1, a, vs, e, .inl (.inl h2), h3⟩
theorem has__law_line (B : Bl K mg) (D : DefAt K mg "_law_line" S__law_line) (C_law_pick : Has Pr w K mg base "_law_pick" ["_law_pool_here", "_law_many"] (sp__law_pick K) 1) (C_law_number : Has Pr w K mg base "_law_number" ["_law_pool_here", "_law_great"] (sp__law_number K) 2) : Has Pr w K mg base "_law_line" ["_law_pool_here", "_law_wide", "_law_great"] (sp__law_line K) 3 := by
  obtain ⟨f, fd, F, hm⟩ := D.ex
  refine ⟨f, fd, ⟨_, F⟩, fn_draw F sc__law_line (fun _ => rfl) fun cdv A outer s H E U ap ag n q Q hr ho hn hR => ?_, hm, F.kp, F.binds fun _ _ _ _ _ _ us hl => match us, hl with | [_, _, _], _ => rfl⟩
  obtain ⟨wd, g⟩ := q
  change wd ≤ 40 at ho
  change Ret _ _ (exA (fun xs : List Rat => xs.length = wd ∧ ∀ x ∈ xs, RB 14 x) (isRow K)) _ at hR
  show SX _ _ _ [some (isV (.ref ap)), some (aInt (wd : Int)), some (isBl g), none, none, none] _ _
  refine sx_ifR (P := (· = decide ((wd : Int) ≤ 8))) (J := ivD U ap ag H n) (by wtm_at "p_tx") (fun p => ?_) (fun p => ?_)
  · have p := of_decide_eq_true p.symm
    have hl : (List.range wd).length = wd := List.length_range
    refine sx_ret (J := ivD U ap ag H (n + (List.range wd).length * 5)) (A := exA (fun xs : List Rat => xs.length = wd ∧ ∀ x ∈ xs, RB 14 x) (isRow K)) ((ex_lc (As := List.replicate (List.range wd).length (exA (RB 14) (isR K))) rfl sc__law_line.nd ?_).imp fun F v h => ?_) (hR.post (ivD_more (by rw [hl]; omega)))
    · refine lx_D 5 5 n (ivD U ap ag H) (ix_range rfl B.range (by wtm_at "p_var") (by omega)) (show blkC n__law_line (defScope S__law_line) _ _ = true from by decide +kernel) (by rw [hl]; omega) rfl (fun _ _ _ _ _ => pg_name (i := 5) sc__law_line.nd rfl (.inl rfl)) fun D s H' C cl fp k a e hk => ?_
      rw [hl] at hk
      show EX _ _ _ [some (isV (.ref ap)), some (aInt (wd : Int)), some (isBl g), none, none, some (aInt ((a : Nat) : Int))] _ _ _
      have e5 : n + (k + 1) * 5 = n + k * 5 + 5 := by omega
      rw [e5]
      exact ex_drawX (As := [isBl g]) C_law_number (hr.mono (by decide)) drw_gD (by wtm_at "p_var") (by wtm_at "p_ax") (by omega) fun F vs h => ⟨g, True.intro, h, fun _ _ h => h⟩
    · rw [hl] at h; exact row_ex F v h
  have p := of_decide_eq_false p.symm
  have hn1 : n + 1 ≤ 2 ^ 60 := by omega
  refine sx_ifR (P := fun _ => True) (J := ivD U ap ag H (n + 1)) ?_ (fun _ => ?_) (fun _ => ?_)
  · exact TX.imp (tx_drEq (J := ivD U ap ag H (n + 1)) (ex_pickK (m := 3) C_law_pick (hr.mono (by decide)) drw_gD (by wtm_at "p_var") ex_int (by decide) (by decide) hn1) (EX.dr ex_int)) fun _ _ => True.intro
  · have hl : (List.range wd).length = wd := List.length_range
    refine sx_ret (J := ivD U ap ag H (n + 1 + (List.range wd).length * 1)) (A := exA (fun xs : List Rat => xs.length = wd ∧ ∀ x ∈ xs, RB 14 x) (isRow K)) ((ex_lc (As := List.replicate (List.range wd).length (exA (RB 14) (isR K))) rfl sc__law_line.nd ?_).imp fun F v h => ?_) (hR.post (ivD_more (by rw [hl]; omega)))
    · refine lx_D 5 1 (n + 1) (ivD U ap ag H) (ix_range rfl B.range (by wtm_at "p_var") (by omega)) (show blkC n__law_line (defScope S__law_line) _ _ = true from by decide +kernel) (by rw [hl]; omega) rfl (fun _ _ _ _ _ => pg_name (i := 5) sc__law_line.nd rfl (.inl rfl)) fun D s H' C cl fp k a e hk => ?_
      rw [hl] at hk
      show EX _ _ _ [some (isV (.ref ap)), some (aInt (wd : Int)), some (isBl g), none, none, some (aInt ((a : Nat) : Int))] _ _ _
      have e5 : n + 1 + (k + 1) * 1 = n + 1 + k * 1 + 1 := by omega
      rw [e5]
      refine EX.imp (A := isTup K [exA (fun i : Int => -9 ≤ i ∧ i ≤ 9) aInt, aInt 1]) (ex_tup ?_ (by wtm_at "p_lt")) fun F v h => ?_
      · refine ax_cons (G := (gD U ap ag H).lk D) (J := ivD U ap ag H (n + 1 + k * 1 + 1)) ?_ (by wtm_at "p_ax")
        refine ex_subD (G := (gD U ap ag H).lk D) (J := ivD U ap ag H (n + 1 + k * 1 + 1)) (P := fun r => 0 ≤ r ∧ r < 19) (Q := (· = 9)) ?_ (EX.dr ex_int) fun i j hi hj => by subst hj; omega
        exact ex_pickK (m := 19) C_law_pick (hr.mono (by decide)) drw_gD (by wtm_at "p_var") ex_int (by decide) (by decide) (by omega)
      obtain ⟨a, vs, rfl, h1, v, r, rfl, ⟨i, hi, e1⟩, v2, r2, rfl, e2, rfl⟩ := h
      exact ⟨(i : Rat), RB_int (by omega) (by decide), a, _, rfl, h1, v, _, rfl, e1, v2, _, rfl, e2, rfl⟩
    · rw [hl] at h; exact row_ex F v h
  refine sx_own (i := 3) (J := ivD U ap ag H (n + 1)) (As := (List.replicate wd [isTup K [aInt 0, aInt 1]]).flatten) sc__law_line.nd rfl (.inl rfl) (by wtm_at "p_lt") (nx_rep (J := ivD U ap ag H (n + 1)) (ex_lstN (by wtm_at "p_ax") (by wtm_at "p_lt")) (by wtm_at "p_var") (by show 1 * wd ≤ _; omega) (by omega)) fun L vs h0 hU hlen => ?_
  rw [flat_rep]
  have eA : ∀ F v, (isOwn L vs (List.replicate wd (isTup K [aInt 0, aInt 1]))).p F v → (isOwn L vs (List.replicate wd (exA (RB 14) (isR K)))).p F v := fun F v h => ⟨h.1, by
    have : ∀ (m : Nat) (us : List V), AllA (List.replicate m (isTup K [aInt 0, aInt 1])) F us → AllA (List.replicate m (exA (RB 14) (isR K))) F us := fun m => by
      induction m with
      | zero => exact fun us h => h
      | succ m ih => exact fun us ⟨x, r, e, h1, h2⟩ => ⟨x, r, e, ⟨(0 : Rat), RB.zero.mono (by decide), h1⟩, ih r h2⟩
    exact this _ _ h.2⟩
  have hM : ¬ (gD U ap ag H).M L := fun m => hU (.inl m)
  have hlw : vs.length = wd := by rw [hlen, flat_rep, List.length_replicate]
  show SX _ _ _ [some (isV (.ref ap)), some (aInt (wd : Int)), some (isBl g), some (isOwn L vs _), none, none] _ _
  refine sx_forNXE (β := Nat) (ι := List V) (PB := fun m : Nat => 1 ≤ (m : Int) ∧ (m : Int) ≤ 4) (l := fun m => List.range m) (fA := fun _ i => aInt ((i : Nat) : Int)) (J := (ivD U ap ag H (n + 1 + 1)).own L vs) 4 (fun _ k y => (ivD U ap ag H (n + 1 + 1 + k * 6)).own L y) (fun _ k y => [some (isV (.ref ap)), some (aInt (wd : Int)), some (isBl g), some (isOwn L y (List.replicate wd (exA (RB 14) (isR K)))), none, none]) (fun _ k y => k ≤ 4) (fun _ => vs)
    PassesOwn.never rfl sc__law_line.nd rfl (.inl rfl) (.inr rfl) (ix_rangeE (P := fun i => 1 ≤ i ∧ i ≤ 4) (by rfl) B.range ?_ (fun i h => by omega)) (fun b pb => Nat.zero_le _) (fun b pb H h => h) (fun b pb => ⟨fun _ _ h => h, fun _ _ h => h, fun _ _ h => h, eA, True.intro⟩) (fun _ _ _ => by wtm_at "p_lt") (fun b H1 Γ1 σ1 k y a pb e m hk py k1 => ?_) fun b y pb py => ?_
  · refine ex_addD (G := (gD U ap ag H).own L h0) (J := (ivD U ap ag H (n + 1)).own L vs) (P := (· = 1)) (Q := fun r => 0 ≤ r ∧ r < 4) (EX.dr ex_int) ?_ (fun i j e h => by subst e; omega)
    exact ex_pickK (G := (gD U ap ag H).own L h0) (m := 4) (Iz := fun m => (ivD U ap ag H m).own L vs) C_law_pick (hr.mono (by decide)) (drw_own hM drw_gD) (by wtm_at "p_var") ex_int (by decide) (by decide) (by omega)
  · rw [List.length_range] at hk
    show SX _ _ _ [some (isV (.ref ap)), some (aInt (wd : Int)), some (isBl g), some (isOwn L y (List.replicate wd (exA (RB 14) (isR K)))), some (aInt ((a : Nat) : Int)), none] _ _
    refine sx_store (G := ((gD U ap ag H).own L h0).re H1) (J := (ivD U ap ag H (n + 1 + 1 + k * 6 + 5)).own L y) (K := (ivD U ap ag H (n + 1 + 1 + k * 6 + 5 + 1)).own L y) (I' := fun us => (ivD U ap ag H (n + 1 + 1 + k * 6 + 5 + 1)).own L us) (As := List.replicate wd (exA (RB 14) (isR K))) (A := exA (RB 14) (isR K)) (P := fun i => 0 ≤ i ∧ i < (wd : Int)) 3 (by wtm_at "p_lt") (owns_top hM)
      ?_ ?_ ?_ (fun i h => by rw [List.length_replicate]; exact h) rfl fun j v pj hj => ?_
    · exact ex_drawX (G := ((gD U ap ag H).own L h0).re H1) (As := [isBl g]) (Iz := fun m => (ivD U ap ag H m).own L y) C_law_number (hr.mono (by decide)) (drw_own hM drw_gD) (by wtm_at "p_var") (by wtm_at "p_ax") (by omega) fun F vs h => ⟨g, True.intro, h, fun _ _ h => h⟩
    · wtm_at "p_var"
    · exact ex_pickK (G := ((gD U ap ag H).own L h0).re H1) (Iz := fun m => (ivD U ap ag H m).own L y) C_law_pick (hr.mono (by decide)) (drw_own hM drw_gD) (by wtm_at "p_var") (by wtm_at "p_var") (by omega) (by omega) (by omega)
    rw [rep_set]
    have e6 : n + 1 + 1 + (k + 1) * 6 = n + 1 + 1 + k * 6 + 5 + 1 := by omega
    refine sx_nil fun σ H k => ⟨y.set j v, by omega, ?_⟩
    rw [e6]
    exact k.low ⟨fun _ _ h => h, fun _ _ h => h, fun _ _ h => h, fun _ _ h => h, True.intro⟩
  · rw [List.length_range] at py ⊢
    refine sx_free 3 hU rfl ?_
    show SX _ _ _ [some (isV (.ref ap)), some (aInt (wd : Int)), some (isBl g), some (isNew (List.replicate wd (exA (RB 14) (isR K)))), none, none] _ _
    exact sx_ret (J := ivD U ap ag H (n + 1 + 1 + b * 6)) (A := exA (fun xs : List Rat => xs.length = wd ∧ ∀ x ∈ xs, RB 14 x) (isRow K)) ((ex_var (i := 3) (A := isNew (List.replicate wd (exA (RB 14) (isR K)))) rfl (by wtm_at "p_vis") rfl).imp row_ex) (hR.post (ivD_more (by omega)))
end
section
set_option hygiene false
local macro_rules | `(tactic| wtm_at "p_var") => `(tactic| first
  | ((with_reducible show EX _ _ _ _ (Expr.Name "_law_one" _) _ _); first | exact ex_var (i := 0) rfl (by wtm_at "p_vis") rfl | exact isNew.lst (ex_var (i := 0) rfl (by wtm_at "p_vis") rfl))
  | ((with_reducible show EX _ _ _ _ (Expr.Name "_law_two" _) _ _); first | exact ex_var (i := 1) rfl (by wtm_at "p_vis") rfl | exact isNew.lst (ex_var (i := 1) rfl (by wtm_at "p_vis") rfl)))
abbrev sp__law_mul (K : PySem.W.Frag) : Sp := spF (ι := Rat × Rat) (fun q => [isR K q.1, isR K q.2]) (fun q => RB 4000 q.1 ∧ RB 4000 q.2) (fun q => isR K (q.1 * q.2))
theorem two_bits {a b : Rat} (ha : RB 4000 a) (hb : RB 4000 b) : (∃ m n, Bits m a.num ∧ Bits n b.num ∧ m + n ≤ 134217728) ∧ (∃ m n, Bits m (a.den : Int) ∧ Bits n (b.den : Int) ∧ m + n ≤ 134217728) ∧ ((a.den : Int) * (b.den : Int) ≠ 0 ∧ Bits 9000 ((a.den : Int) * (b.den : Int))) ∧
    (∃ m n, Bits m a.num ∧ Bits n (b.den : Int) ∧ m + n ≤ 134217728) ∧ (∃ m n, Bits m b.num ∧ Bits n (a.den : Int) ∧ m + n ≤ 134217728) := by
  have da : (a.den : Int).natAbs < 2 ^ 4000 := by simpa using ha.2
  have db : (b.den : Int).natAbs < 2 ^ 4000 := by simpa using hb.2
  refine ⟨⟨_, _, ha.1, hb.1, by decide⟩, ⟨_, _, da, db, by decide⟩, ⟨fun e => ?_, ?_⟩, ⟨_, _, ha.1, db, by decide⟩, ⟨_, _, hb.1, da, by decide⟩⟩
  · have := rat_den_pos a
    have := rat_den_pos b
    rcases Int.mul_eq_zero.mp e with e | e <;> omega
  · show (_ : Int).natAbs < _
    rw [Int.natAbs_mul]
    exact Nat.lt_of_lt_of_le (pow_mul_lt da db) (Nat.pow_le_pow_right (by decide) (by decide))
theorem has__law_mul (B : Bl K mg) (D : DefAt K mg "_law_mul" S__law_mul) (C_law_low : Has Pr w K mg base "_law_low" ["_law_above", "_law_below"] (sp__law_low K) 1) : Has Pr w K mg base "_law_mul" ["_law_one", "_law_two"] (sp__law_mul K) 2 := by
  obtain ⟨f, fd, F, hm⟩ := D.ex
  refine ⟨f, fd, ⟨_, F⟩, fn_pure F sc__law_mul (fun _ => rfl) fun cdv A outer s H E U q Q hr ho hR => ?_, hm, F.kp, F.binds fun _ _ _ _ _ _ us hl => match us, hl with | [_, _], _ => rfl⟩
  obtain ⟨a, b⟩ := q
  obtain ⟨h1, h2, h3, h4, h5⟩ := two_bits ho.1 ho.2
  show SX _ _ _ [some (isR K a), some (isR K b)] _ _
  exact sx_retEq (by wtm_at "p_ex" <;> assumption) hR (by show isR K (Rat.divInt (a.num * b.num) (a.den * b.den)) = _; rw [rat_mul])
end
section
set_option hygiene false
local macro_rules | `(tactic| wtm_at "p_var") => `(tactic| first
  | ((with_reducible show EX _ _ _ _ (Expr.Name "_law_one" _) _ _); first | exact ex_var (i := 0) rfl (by wtm_at "p_vis") rfl | exact isNew.lst (ex_var (i := 0) rfl (by wtm_at "p_vis") rfl))
  | ((with_reducible show EX _ _ _ _ (Expr.Name "_law_two" _) _ _); first | exact ex_var (i := 1) rfl (by wtm_at "p_vis") rfl | exact isNew.lst (ex_var (i := 1) rfl (by wtm_at "p_vis") rfl)))
-- needs _law_mul
abbrev sp__law_add (K : PySem.W.Frag) : Sp := spF (ι := Rat × Rat) (fun q => [isR K q.1, isR K q.2]) (fun q => RB 4000 q.1 ∧ RB 4000 q.2) (fun q => isR K (q.1 + q.2))
theorem has__law_add (B : Bl K mg) (D : DefAt K mg "_law_add" S__law_add) (C_law_low : Has Pr w K mg base "_law_low" ["_law_above", "_law_below"] (sp__law_low K) 1) : Has Pr w K mg base "_law_add" ["_law_one", "_law_two"] (sp__law_add K) 2 := by
  obtain ⟨f, fd, F, hm⟩ := D.ex
  refine ⟨f, fd, ⟨_, F⟩, fn_pure F sc__law_add (fun _ => rfl) fun cdv A outer s H E U q Q hr ho hR => ?_, hm, F.kp, F.binds fun _ _ _ _ _ _ us hl => match us, hl with | [_, _], _ => rfl⟩
  obtain ⟨a, b⟩ := q
  obtain ⟨h1, h2, h3, h4, h5⟩ := two_bits ho.1 ho.2
  show SX _ _ _ [some (isR K a), some (isR K b)] _ _
  exact sx_retEq (by wtm_at "p_ex" <;> assumption) hR (by show isR K (Rat.divInt (a.num * b.den + b.num * a.den) (a.den * b.den)) = _; rw [rat_add])
end
section
set_option hygiene false
local macro_rules | `(tactic| wtm_at "p_var") => `(tactic| first
  | ((with_reducible show EX _ _ _ _ (Expr.Name "pair" _) _ _); first | exact ex_var (i := 0) rfl (by wtm_at "p_vis") rfl | exact isNew.lst (ex_var (i := 0) rfl (by wtm_at "p_vis") rfl))
  | ((with_reducible show EX _ _ _ _ (Expr.Name "above" _) _ _); first | exact ex_var (i := 1) rfl (by wtm_at "p_vis") rfl | exact isNew.lst (ex_var (i := 1) rfl (by wtm_at "p_vis") rfl))
  | ((with_reducible show EX _ _ _ _ (Expr.Name "below" _) _ _); first | exact ex_var (i := 2) rfl (by wtm_at "p_vis") rfl | exact isNew.lst (ex_var (i := 2) rfl (by wtm_at "p_vis") rfl)))
abbrev sp_is_lowest (K : PySem.W.Frag) : Sp := spF (ι := Int × Int) (fun q => [isTup K [aInt q.1, aInt q.2]]) (fun _ => True) (fun q => isBl (decide (1 ≤ q.2) && decide (((Nat.gcd q.1.natAbs q.2.natAbs : Nat) : Int) = 1)))
theorem has_is_lowest (B : Bl K mg) (D : DefAt K mg "is_lowest" S_is_lowest) : Has Pr w K mg base "is_lowest" ["pair"] (sp_is_lowest K) 1 := by
  obtain ⟨f, fd, F, hm⟩ := D.ex
  refine ⟨f, fd, ⟨_, F⟩, fn_pure F sc_is_lowest (fun _ => rfl) fun cdv A outer s H E U q Q hr ho hR => ?_, hm, F.kp, F.binds fun _ _ _ _ _ _ us hl => match us, hl with | [_], _ => rfl⟩
  show SX _ _ _ [some (isTup K [aInt q.1, aInt q.2]), none, none] _ _
  refine sx_tup2 (i := 1) (j := 2) rfl sc_is_lowest.nd rfl rfl (.inl rfl) (.inl rfl) (by wtm_at "p_lt") (by wtm_at "p_lt") (pg_tup rfl (pgs_cons (pg_name (i := 1) sc_is_lowest.nd rfl (.inl rfl)) (pgs_cons (pg_name (i := 2) sc_is_lowest.nd rfl (.inl rfl)) pgs_nil))) (by wtm_at "p_ex") ?_
  show SX _ _ _ [some (isTup K [aInt q.1, aInt q.2]), some (aInt q.1), some (aInt q.2)] _ _
  exact sx_ret (ex_and (by wtm_at "p_ex") (fun _ => ex_one (by wtm_at "p_ex"))) hR
end
section
set_option hygiene false
local macro_rules | `(tactic| wtm_at "p_var") => `(tactic| first
  | ((with_reducible show EX _ _ _ _ (Expr.Name "pair" _) _ _); first | exact ex_var (i := 0) rfl (by wtm_at "p_vis") rfl | exact isNew.lst (ex_var (i := 0) rfl (by wtm_at "p_vis") rfl)))
abbrev sp_check_number (K : PySem.W.Frag) : Sp := spF (ι := Rat) (fun r => [isR K r]) (fun _ => True) (fun _ => isNon)
theorem has_check_number (B : Bl K mg) (D : DefAt K mg "check_number" S_check_number) (Cis_lowest : Has Pr w K mg base "is_lowest" ["pair"] (sp_is_lowest K) 1) : Has Pr w K mg base "check_number" ["pair"] (sp_check_number K) 2 := by
  obtain ⟨f, fd, F, hm⟩ := D.ex
  refine ⟨f, fd, ⟨_, F⟩, fn_pure F sc_check_number (fun _ => rfl) fun cdv A outer s H E U r Q hr ho hR => ?_, hm, F.kp, F.binds fun _ _ _ _ _ _ us hl => match us, hl with | [_], _ => rfl⟩
  show SX _ _ _ [some (isR K r)] _ _
  refine sx_ifR (J := ivT _) (P := fun c => (!c) = true) ?_ (fun p => ?_) (fun p => sx_end hR fun _ => rfl)
  · refine tx_not (P := (· = true)) ?_
    refine tx_val ?_
    exact ex_callH Cis_lowest (hr.mono (by decide)) (r.num, (r.den : Int)) (by wtm_at "p_ax") True.intro (by show isBl (_ && _) = _; rw [rat_lowB])
  · cases p
end
section
set_option hygiene false
local macro_rules | `(tactic| wtm_at "p_var") => `(tactic| first
  | ((with_reducible show EX _ _ _ _ (Expr.Name "row" _) _ _); first | exact ex_var (i := 0) rfl (by wtm_at "p_vis") rfl | exact isNew.lst (ex_var (i := 0) rfl (by wtm_at "p_vis") rfl))
  | ((with_reducible show EX _ _ _ _ (Expr.Name "pair" _) _ _); first | exact ex_var (i := 1) rfl (by wtm_at "p_vis") rfl | exact isNew.lst (ex_var (i := 1) rfl (by wtm_at "p_vis") rfl)))
abbrev sp_check_numbers (K : PySem.W.Frag) : Sp := spF (ι := List Rat) (fun r => [isRow K r]) (fun _ => True) (fun _ => isNon)
theorem has_check_numbers (B : Bl K mg) (D : DefAt K mg "check_numbers" S_check_numbers) (Ccheck_number : Has Pr w K mg base "check_number" ["pair"] (sp_check_number K) 2) : Has Pr w K mg base "check_numbers" ["row"] (sp_check_numbers K) 3 := by
  obtain ⟨f, fd, F, hm⟩ := D.ex
  refine ⟨f, fd, ⟨_, F⟩, fn_pure F sc_check_numbers (fun _ => rfl) fun cdv A outer s H E U l Q hr ho hR => ?_, hm, F.kp, F.binds fun _ _ _ _ _ _ us hl => match us, hl with | [_], _ => rfl⟩
  show SX _ _ _ [some (isRow K l), none] _ _
  refine sx_forN 1 (fun _ => ivT _) (fun _ => [some (isRow K l), none]) PassesOwn.never rfl sc_check_numbers.nd rfl (.inl rfl) (.inr rfl) (ix_list' (by wtm_at "p_ex")) (low_refl _) (fun _ => by wtm_at "p_lt") (fun H1 Γ1 σ1 k r e m hk k1 => ?_) (sx_end hR fun _ => rfl)
  show SX _ _ _ [some (isRow K l), some (isR K r)] _ _
  refine sx_expr (J := ivT _) (A := isNon) ?_ (sx_nil fun σ H k => k.low ⟨fun _ _ h => h, True.intro⟩)
  exact ex_callH Ccheck_number (hr.mono (by decide)) r (by wtm_at "p_ax") True.intro
end
section
set_option hygiene false
local macro_rules | `(tactic| wtm_at "p_var") => `(tactic| first
  | ((with_reducible show EX _ _ _ _ (Expr.Name "rows" _) _ _); first | exact ex_var (i := 0) rfl (by wtm_at "p_vis") rfl | exact isNew.lst (ex_var (i := 0) rfl (by wtm_at "p_vis") rfl))
  | ((with_reducible show EX _ _ _ _ (Expr.Name "row" _) _ _); first | exact ex_var (i := 1) rfl (by wtm_at "p_vis") rfl | exact isNew.lst (ex_var (i := 1) rfl (by wtm_at "p_vis") rfl)))
abbrev sp_check_rows (K : PySem.W.Frag) : Sp := spF (ι := List (List Rat)) (fun r => [isRows K r]) (fun _ => True) (fun _ => isNon)
theorem has_check_rows (B : Bl K mg) (D : DefAt K mg "check_rows" S_check_rows) (Ccheck_numbers : Has Pr w K mg base "check_numbers" ["row"] (sp_check_numbers K) 3) : Has Pr w K mg base "check_rows" ["rows"] (sp_check_rows K) 4 := by
  obtain ⟨f, fd, F, hm⟩ := D.ex
  refine ⟨f, fd, ⟨_, F⟩, fn_pure F sc_check_rows (fun _ => rfl) fun cdv A outer s H E U l Q hr ho hR => ?_, hm, F.kp, F.binds fun _ _ _ _ _ _ us hl => match us, hl with | [_], _ => rfl⟩
  show SX _ _ _ [some (isRows K l), none] _ _
  refine sx_forN 1 (fun _ => ivT _) (fun _ => [some (isRows K l), none]) PassesOwn.never rfl sc_check_rows.nd rfl (.inl rfl) (.inr rfl) (ix_list' (by wtm_at "p_ex")) (low_refl _) (fun _ => by wtm_at "p_lt") (fun H1 Γ1 σ1 k r e m hk k1 => ?_) (sx_end hR fun _ => rfl)
  show SX _ _ _ [some (isRows K l), some (isRow K r)] _ _
  refine sx_expr (J := ivT _) (A := isNon) ?_ (sx_nil fun σ H k => k.low ⟨fun _ _ h => h, True.intro⟩)
  exact ex_callH Ccheck_numbers (hr.mono (by decide)) r (by wtm_at "p_ax") True.intro
end
section
set_option hygiene false
local macro_rules | `(tactic| wtm_at "p_var") => `(tactic| first
  | ((with_reducible show EX _ _ _ _ (Expr.Name "row" _) _ _); first | exact ex_var (i := 0) rfl (by wtm_at "p_vis") rfl | exact isNew.lst (ex_var (i := 0) rfl (by wtm_at "p_vis") rfl))
  | ((with_reducible show EX _ _ _ _ (Expr.Name "below" _) _ _); first | exact ex_var (i := 1) rfl (by wtm_at "p_vis") rfl | exact isNew.lst (ex_var (i := 1) rfl (by wtm_at "p_vis") rfl))
  | ((with_reducible show EX _ _ _ _ (Expr.Name "pair" _) _ _); first | exact ex_var (i := 2) rfl (by wtm_at "p_vis") rfl | exact isNew.lst (ex_var (i := 2) rfl (by wtm_at "p_vis") rfl)))
abbrev okW (l : List (Int × Int)) : Prop := (∀ q ∈ l, 1 ≤ q.2 ∧ q.1.natAbs < 2 ^ 1000000) ∧ lcmL l < 2 ^ 9000 ∧ l.length ≤ 100000
abbrev sp_whole (K : PySem.W.Frag) : Sp := spF (ι := List (Int × Int)) (fun l => [isLst K (l.map (isP K))]) okW (fun l => isTup K [isInts K (wholes l), aInt (lcmL l)])
theorem has_whole (B : Bl K mg) (D : DefAt K mg "whole" S_whole) : Has Pr w K mg base "whole" ["row"] (sp_whole K) 1 := by
  obtain ⟨f, fd, F, hm⟩ := D.ex
  refine ⟨f, fd, ⟨_, F⟩, fn_pure F sc_whole (fun _ => rfl) fun cdv A outer s H E U l Q hr ho hR => ?_, hm, F.kp, F.binds fun _ _ _ _ _ _ us hl => match us, hl with | [_], _ => rfl⟩
  obtain ⟨h1, h2, h3⟩ := ho
  show SX _ _ _ [some (isLst K (l.map (isP K))), none, none] _ _
  refine sx_set (i := 1) sc_whole.nd rfl (.inr rfl) (by wtm_at "p_lt") (by wtm_at "p_ex") ?_
  show SX _ _ _ [some (isLst K (l.map (isP K))), some (aInt 1), none] _ _
  have bitq : ∀ q ∈ l, Bits 9000 q.2 := fun q hq => by
    have a := Nat.le_of_dvd (lcmL_pos fun q hq => (h1 q hq).1) (lcmL_dvd hq)
    exact Nat.lt_of_le_of_lt a h2
  have bitk : ∀ k, Bits 9000 (lcmL (l.take k) : Int) := fun k => by
    show (_ : Int).natAbs < _
    rw [Int.natAbs_natCast]
    exact Nat.lt_of_le_of_lt (lcmL_le (fun q hq => List.mem_of_mem_take hq) fun q hq => (h1 q hq).1) h2
  refine sx_forN 2 (fun _ => ivT _) (fun k => [some (isLst K (l.map (isP K))), some (aInt (lcmL (l.take k) : Int)), none]) PassesOwn.never rfl sc_whole.nd rfl (.inl rfl) (.inr rfl) (ix_list' (by wtm_at "p_ex")) ?_ (fun _ => by wtm_at "p_lt") (fun H1 Γ1 σ1 k q e m hk k1 => ?_) ?_
  · exact ⟨fun _ _ h => h, fun _ _ h => h, True.intro⟩
  · show SX _ _ _ [some (isLst K (l.map (isP K))), some (aInt (lcmL (l.take k) : Int)), some (isP K q)] _ _
    have z1 := bitk k
    have z2 := bitq q m
    refine sx_set (i := 1) sc_whole.nd rfl (.inr rfl) (by wtm_at "p_lt") (by wtm_at "p_ex" <;> assumption) ?_
    refine sx_nil fun σ H k => k.low ?_
    refine ⟨fun _ _ h => h, fun F v h => ?_, True.intro⟩
    rw [take_succ_get e, lcmL_app]
    exact h
  · show SX _ _ _ [some (isLst K (l.map (isP K))), some (aInt (lcmL (l.take l.length) : Int)), none] _ _
    rw [List.take_length]
    refine sx_ret (A := isTup K [isInts K (wholes l), aInt (lcmL l)]) (ex_tup (ax_cons (J := ivT _) (isNew.lst (ex_lc rfl sc_whole.nd ?_)) (by wtm_at "p_ax")) (by wtm_at "p_lt")) hR
    have e : (wholes l).map (fun i => aInt i) = l.map fun q => aInt (q.1 * ((lcmL l : Int).fdiv q.2)) := by unfold wholes; rw [List.map_map]; rfl
    rw [e]
    refine lx_N 2 (ix_list' (by wtm_at "p_ex")) sc_whole.nd rfl (show blkC n_whole (defScope S_whole) _ _ = true from by decide +kernel) h3 rfl (.inl rfl) (fun _ _ _ _ _ => pg_name (i := 2) sc_whole.nd rfl (.inl rfl)) fun D s H C cl fp q hq => ?_
    show EX _ _ _ [some (isLst K (l.map (isP K))), some (aInt (lcmL l : Int)), some (isP K q)] _ _ _
    have z0 : q.2 ≠ 0 := by have := (h1 q hq).1; omega
    have z2 := bitq q hq
    have z3 : ∃ m n, Bits m q.1 ∧ Bits n ((lcmL l : Int).fdiv q.2) ∧ m + n ≤ 134217728 := by
      refine bmul (m := 1000000) (n := 9000) (h1 q hq).2 ?_ (by decide)
      have d : q.2 ∣ (lcmL l : Int) := Int.natAbs_dvd_natAbs.mp (by rw [Int.natAbs_natCast]; exact lcmL_dvd hq)
      refine Nat.lt_of_le_of_lt (natAbs_fdiv_le d) ?_
      rw [Int.natAbs_natCast]; exact h2
    wtm_at "p_ex" <;> assumption
end
section
set_option hygiene false
local macro_rules | `(tactic| wtm_at "p_var") => `(tactic| first
  | ((with_reducible show EX _ _ _ _ (Expr.Name "shares" _) _ _); first | exact ex_var (i := 0) rfl (by wtm_at "p_vis") rfl | exact isNew.lst (ex_var (i := 0) rfl (by wtm_at "p_vis") rfl))
  | ((with_reducible show EX _ _ _ _ (Expr.Name "wholes" _) _ _); first | exact ex_var (i := 1) rfl (by wtm_at "p_vis") rfl | exact isNew.lst (ex_var (i := 1) rfl (by wtm_at "p_vis") rfl))
  | ((with_reducible show EX _ _ _ _ (Expr.Name "below" _) _ _); first | exact ex_var (i := 2) rfl (by wtm_at "p_vis") rfl | exact isNew.lst (ex_var (i := 2) rfl (by wtm_at "p_vis") rfl))
  | ((with_reducible show EX _ _ _ _ (Expr.Name "share" _) _ _); first | exact ex_var (i := 3) rfl (by wtm_at "p_vis") rfl | exact isNew.lst (ex_var (i := 3) rfl (by wtm_at "p_vis") rfl)))
abbrev sp_total (K : PySem.W.Frag) : Sp := spF (ι := List (Int × Int)) (fun l => [isLst K (l.map (isP K))]) okW (fun l => isR K (sumQ l))
theorem okW_filter {l : List (Int × Int)} {p : Int × Int → Bool} (h : okW l) : okW (l.filter p) := by
  obtain ⟨h1, h2, h3⟩ := h
  exact ⟨fun q hq => h1 q (List.mem_filter.mp hq).1, Nat.lt_of_le_of_lt (lcmL_le (fun q hq => (List.mem_filter.mp hq).1) fun q hq => (h1 q hq).1) h2, Nat.le_trans (List.length_filter_le _ _) h3⟩
theorem has_total (B : Bl K mg) (D : DefAt K mg "total" S_total) (Clowest : Has Pr w K mg base "lowest" ["above", "below"] (sp_lowest K) 1) (Cwhole : Has Pr w K mg base "whole" ["row"] (sp_whole K) 1) : Has Pr w K mg base "total" ["shares"] (sp_total K) 2 := by
  obtain ⟨f, fd, F, hm⟩ := D.ex
  refine ⟨f, fd, ⟨_, F⟩, fn_pure F sc_total (fun _ => rfl) fun cdv A outer s H E U l Q hr ho hR => ?_, hm, F.kp, F.binds fun _ _ _ _ _ _ us hl => match us, hl with | [_], _ => rfl⟩
  have ho' := okW_filter (p := fun q => !decide (q.1 = 0)) ho
  show SX _ _ _ [some (isLst K (l.map (isP K))), none, none, none] _ _
  refine sx_tup2 (i := 1) (j := 2) (J := ivT _) (A := isInts K (wholes (l.filter fun q => !decide (q.1 = 0)))) (B := aInt (lcmL (l.filter fun q => !decide (q.1 = 0)) : Int)) rfl sc_total.nd rfl rfl (.inl rfl) (.inl rfl) (by wtm_at "p_lt") (by wtm_at "p_lt") (pg_tup rfl (pgs_cons (pg_name (i := 1) sc_total.nd rfl (.inl rfl)) (pgs_cons (pg_name (i := 2) sc_total.nd rfl (.inl rfl)) pgs_nil)))
    ?_ ?_
  · refine ex_callH Cwhole (hr.mono (by decide)) (l.filter fun q => !decide (q.1 = 0)) ?_ ho'
    refine ax_cons (J := ivT _) (isNew.lst (ex_lc rfl sc_total.nd ?_)) ax_nil
    refine lx_NI 3 (ix_list' (by wtm_at "p_ex")) sc_total.nd rfl (show blkC n_total (defScope S_total) _ _ = true from by decide +kernel) ho.2.2 rfl (fun _ _ _ _ _ => pg_name (i := 3) sc_total.nd rfl (.inl rfl)) (fun D s H C cl fp q hq => ?_) fun D s H C cl fp q hq hp => ?_
    · show TX _ _ _ [some (isLst K (l.map (isP K))), none, none, some (isP K q)] _ _ _
      wtm_at "p_tx"
    · show EX _ _ _ [some (isLst K (l.map (isP K))), none, none, some (isP K q)] _ _ _
      wtm_at "p_ex"
  show SX _ _ _ [some (isLst K (l.map (isP K))), some (isInts K (wholes (l.filter fun q => !decide (q.1 = 0)))), some (aInt (lcmL (l.filter fun q => !decide (q.1 = 0)) : Int)), none] _ _
  have h1 : (lcmL (l.filter fun q => !decide (q.1 = 0)) : Int) ≠ 0 ∧ Bits 9000 (lcmL (l.filter fun q => !decide (q.1 = 0)) : Int) := by
    have := lcmL_pos (l := l.filter fun q => !decide (q.1 = 0)) fun q hq => (ho'.1 q hq).1
    refine ⟨by omega, ?_⟩
    show (_ : Int).natAbs < _
    rw [Int.natAbs_natCast]; exact ho'.2.1
  refine sx_retEq (J := ivT _) (A := isR K (Rat.divInt (wholes (l.filter fun q => !decide (q.1 = 0))).sum (lcmL (l.filter fun q => !decide (q.1 = 0))))) ?_ hR ?_
  · refine ex_callH Clowest (hr.mono (by decide)) ((wholes (l.filter fun q => !decide (q.1 = 0))).sum, (lcmL (l.filter fun q => !decide (q.1 = 0)) : Int)) ?_ h1
    refine ax_cons (J := ivT _) ?_ ?_
    · exact ex_sum (ns := wholes (l.filter fun q => !decide (q.1 = 0))) rfl rfl B.sum (by wtm_at "p_ex")
    · wtm_at "p_ax"
  rw [total_eq fun q hq => (ho.1 q hq).1]
end
section
set_option hygiene false
local macro_rules | `(tactic| wtm_at "p_var") => `(tactic| first
  | ((with_reducible show EX _ _ _ _ (Expr.Name "numbers" _) _ _); first | exact ex_var (i := 0) rfl (by wtm_at "p_vis") rfl | exact isNew.lst (ex_var (i := 0) rfl (by wtm_at "p_vis") rfl))
  | ((with_reducible show EX _ _ _ _ (Expr.Name "rows" _) _ _); first | exact ex_var (i := 1) rfl (by wtm_at "p_vis") rfl | exact isNew.lst (ex_var (i := 1) rfl (by wtm_at "p_vis") rfl))
  | ((with_reducible show EX _ _ _ _ (Expr.Name "size" _) _ _); first | exact ex_var (i := 2) rfl (by wtm_at "p_vis") rfl | exact isNew.lst (ex_var (i := 2) rfl (by wtm_at "p_vis") rfl))
  | ((with_reducible show EX _ _ _ _ (Expr.Name "columns" _) _ _); first | exact ex_var (i := 3) rfl (by wtm_at "p_vis") rfl | exact isNew.lst (ex_var (i := 3) rfl (by wtm_at "p_vis") rfl))
  | ((with_reducible show EX _ _ _ _ (Expr.Name "pair" _) _ _); first | exact ex_var (i := 4) rfl (by wtm_at "p_vis") rfl | exact isNew.lst (ex_var (i := 4) rfl (by wtm_at "p_vis") rfl))
  | ((with_reducible show EX _ _ _ _ (Expr.Name "row" _) _ _); first | exact ex_var (i := 5) rfl (by wtm_at "p_vis") rfl | exact isNew.lst (ex_var (i := 5) rfl (by wtm_at "p_vis") rfl))
  | ((with_reducible show EX _ _ _ _ (Expr.Name "at" _) _ _); first | exact ex_var (i := 6) rfl (by wtm_at "p_vis") rfl | exact isNew.lst (ex_var (i := 6) rfl (by wtm_at "p_vis") rfl))
  | ((with_reducible show EX _ _ _ _ (Expr.Name "one" _) _ _); first | exact ex_var (i := 7) rfl (by wtm_at "p_vis") rfl | exact isNew.lst (ex_var (i := 7) rfl (by wtm_at "p_vis") rfl))
  | ((with_reducible show EX _ _ _ _ (Expr.Name "other" _) _ _); first | exact ex_var (i := 8) rfl (by wtm_at "p_vis") rfl | exact isNew.lst (ex_var (i := 8) rfl (by wtm_at "p_vis") rfl))
  | ((with_reducible show EX _ _ _ _ (Expr.Name "column" _) _ _); first | exact ex_var (i := 9) rfl (by wtm_at "p_vis") rfl | exact isNew.lst (ex_var (i := 9) rfl (by wtm_at "p_vis") rfl)))
abbrev okA (q : List Rat × List (List Rat) × Nat) : Prop := (∃ b, 1 ≤ b ∧ b ≤ 9000 ∧ (∀ x ∈ q.1, RB b x) ∧ (∀ r ∈ q.2.1, ∀ x ∈ r, RB b x) ∧ 2 * b * q.1.length < 9000) ∧ (∀ r ∈ q.2.1, r.length = q.2.2) ∧ q.2.2 ≤ 100000
abbrev sp_added (K : PySem.W.Frag) : Sp := spF (ι := List Rat × List (List Rat) × Nat) (fun q => [isRow K q.1, isRows K q.2.1, aInt (q.2.2 : Int)]) okA (fun q => isRow K (addR q.1 q.2.1 q.2.2))
theorem has_added (B : Bl K mg) (D : DefAt K mg "added" S_added) (Ctotal : Has Pr w K mg base "total" ["shares"] (sp_total K) 2) : Has Pr w K mg base "added" ["numbers", "rows", "size"] (sp_added K) 3 := by
  obtain ⟨f, fd, F, hm⟩ := D.ex
  refine ⟨f, fd, ⟨_, F⟩, fn_pure F sc_added (fun _ => rfl) fun cdv A outer s H E U q Q hr ho hR => ?_, hm, F.kp, F.binds fun _ _ _ _ _ _ us hl => match us, hl with | [_, _, _], _ => rfl⟩
  obtain ⟨nu, ro, n⟩ := q
  obtain ⟨⟨b, hb1, hb2, hb3, hb4, hb5⟩, hlen, hn⟩ := ho
  change ∀ x ∈ nu, RB b x at hb3
  change ∀ r ∈ ro, ∀ x ∈ r, RB b x at hb4
  change 2 * b * nu.length < 9000 at hb5
  change ∀ r ∈ ro, r.length = n at hlen
  change n ≤ 100000 at hn
  change Ret _ _ (isRow K (addR nu ro n)) _ at hR
  have hnl : nu.length ≤ 100000 := by
    have : nu.length ≤ 2 * b * nu.length := Nat.le_mul_of_pos_left _ (by omega)
    omega
  have hzl : (nu.zip ro).length ≤ 100000 := by rw [List.length_zip]; exact Nat.le_trans (Nat.min_le_left _ _) hnl
  show SX _ _ _ [some (isRow K nu), some (isRows K ro), some (aInt (n : Int)), none, none, none, none, none, none, none] _ _
  refine sx_setLc (i := 3) (J := ivT _) (As := (List.range n).map fun a => isNew ((nu.zip ro).map fun p => isTup K [isR K p.1, isR K (p.2.getD a 0)])) rfl sc_added.nd rfl rfl (by wtm_at "p_lt") ?_ ?_ (sw_true rfl rfl rfl (by decide +kernel))
  · refine lx_N (J := ivT _) 6 (ix_range rfl B.range (by wtm_at "p_ex") hn) sc_added.nd rfl (show blkC n_added (defScope S_added) _ _ = true from by decide +kernel) (by rw [List.length_range]; exact hn) rfl (.inr rfl) (fun _ _ _ _ _ => pg_name (i := 6) sc_added.nd rfl (.inr rfl)) fun D s H C cl fp a ha => ?_
    have ha' : a < n := List.mem_range.mp ha
    show EX _ _ _ [some (isRow K nu), some (isRows K ro), some (aInt (n : Int)), none, none, none, some (aInt ((a : Nat) : Int)), none, none, none] _ _ _
    refine ex_lc rfl sc_added.nd ?_
    refine lx_T (J := ivT _) (l := nu.zip ro) (f1 := fun p => isR K p.1) (f2 := fun p => isRow K p.2) 4 5 ?_ (show blkC n_added (relS _ (defScope S_added)) _ _ = true from by decide +kernel) hzl rfl rfl
      (fun _ _ _ _ _ => pg_tup rfl (pgs_cons (pg_name (i := 4) sc_added.nd rfl (.inl rfl)) (pgs_cons (pg_name (i := 5) sc_added.nd rfl (.inl rfl)) pgs_nil))) fun D s H C cl fp p hp => ?_
    · exact (ix_zip (by rfl) B.zip (by wtm_at "p_ex") (by wtm_at "p_ex")).cast zipA_map
    · show EX _ _ _ [some (isRow K nu), some (isRows K ro), some (aInt (n : Int)), none, some (isR K p.1), some (isRow K p.2), some (aInt ((a : Nat) : Int)), none, none, none] _ _ _
      have m := List.of_mem_zip (a := p.1) (b := p.2) (by simpa using hp)
      refine ex_tup (ax_cons (by wtm_at "p_ex") (ax_cons (ex_ixL (k := a) (As := p.2.map (isR K)) (fun _ _ => rfl) (by wtm_at "p_ex") (by wtm_at "p_ex") rfl ?_) ax_nil)) (by wtm_at "p_lt")
      rw [List.getElem?_map, getD_get (by rw [hlen _ m.2]; exact ha')]
      rfl
  · show SX _ _ _ [some (isRow K nu), some (isRows K ro), some (aInt (n : Int)), some (isNew _), none, none, none, none, none, none] _ _
    refine sx_ret (A := isRow K (addR nu ro n)) (isNew.lst (ex_lc rfl sc_added.nd ?_)) hR
    have e : (addR nu ro n).map (isR K) = (List.range n).map fun j => isR K (col nu ro j) := by unfold addR; rw [List.map_map]; rfl
    rw [e]
    refine lx_N (J := ivT _) (fA := fun a => isNew ((nu.zip ro).map fun p => isTup K [isR K p.1, isR K (p.2.getD a 0)])) 9 (ix_list' (by wtm_at "p_ex")) sc_added.nd rfl (show blkC n_added (defScope S_added) _ _ = true from by decide +kernel) (by rw [List.length_range]; exact hn) rfl (.inl rfl) (fun _ _ _ _ _ => pg_name (i := 9) sc_added.nd rfl (.inl rfl)) fun D s H C cl fp a ha => ?_
    show EX _ _ _ [some (isRow K nu), some (isRows K ro), some (aInt (n : Int)), some (isNew _), none, none, none, none, none, some (isNew _)] _ _ _
    have okq := colQ_ok (j := a) hb1 hb3 hb4 hb5 hb2
    refine ex_callH Ctotal (hr.mono (by decide)) (colQ nu ro a) ?_ ⟨okq.1, okq.2, by unfold colQ; rw [List.length_map]; exact hzl⟩ (by show isR K (sumQ _) = _; rw [colQ_sum])
    refine ax_cons (J := ivT _) (isNew.lst (ex_lc rfl sc_added.nd ?_)) ax_nil
    have e2 : (colQ nu ro a).map (isP K) = (nu.zip ro).map fun p => isP K (p.1.num * (p.2.getD a 0).num, (p.1.den : Int) * ((p.2.getD a 0).den : Int)) := by unfold colQ; rw [List.map_map]; rfl
    rw [e2]
    refine lx_T (J := ivT _) (l := nu.zip ro) (f1 := fun p => isR K p.1) (f2 := fun p => isR K (p.2.getD a 0)) 7 8 (ix_list' (by wtm_at "p_ex")) (show blkC n_added (relS _ (defScope S_added)) _ _ = true from by decide +kernel) hzl rfl rfl
      (fun _ _ _ _ _ => pg_tup rfl (pgs_cons (pg_name (i := 7) sc_added.nd rfl (.inl rfl)) (pgs_cons (pg_name (i := 8) sc_added.nd rfl (.inl rfl)) pgs_nil))) fun D s H C cl fp p hp => ?_
    show EX _ _ _ [some (isRow K nu), some (isRows K ro), some (aInt (n : Int)), some (isNew _), none, none, none, some (isR K p.1), some (isR K (p.2.getD a 0)), some (isNew _)] _ _ _
    have m := List.of_mem_zip (a := p.1) (b := p.2) (by simpa using hp)
    have c1 := hb3 _ m.1
    have c2 := getD_RB (j := a) (hb4 _ m.2) hb1
    have z1 : ∃ m n, Bits m p.1.num ∧ Bits n (p.2.getD a 0).num ∧ m + n ≤ 134217728 := bmul c1.1 c2.1 (by omega)
    have z2 : ∃ m n, Bits m (p.1.den : Int) ∧ Bits n ((p.2.getD a 0).den : Int) ∧ m + n ≤ 134217728 := bmul (m := b) (n := b) (by simpa using c1.2) (by simpa using c2.2) (by omega)
    wtm_at "p_ex" <;> assumption
end
section
set_option hygiene false
local macro_rules | `(tactic| wtm_at "p_var") => `(tactic| first
  | ((with_reducible show EX _ _ _ _ (Expr.Name "one" _) _ _); first | exact ex_var (i := 0) rfl (by wtm_at "p_vis") rfl | exact isNew.lst (ex_var (i := 0) rfl (by wtm_at "p_vis") rfl))
  | ((with_reducible show EX _ _ _ _ (Expr.Name "other" _) _ _); first | exact ex_var (i := 1) rfl (by wtm_at "p_vis") rfl | exact isNew.lst (ex_var (i := 1) rfl (by wtm_at "p_vis") rfl)))
abbrev sp_sum_of (K : PySem.W.Frag) : Sp := spF (ι := List Rat × List Rat) (fun q => [isRow K q.1, isRow K q.2]) (fun q => q.1.length = q.2.length ∧ q.1.length ≤ 100000 ∧ (∀ x ∈ q.1, RB 1000 x) ∧ (∀ x ∈ q.2, RB 1000 x)) (fun q => isRow K (addRow q.1 q.2))
theorem has_sum_of (B : Bl K mg) (D : DefAt K mg "sum_of" S_sum_of) (Ccheck_rows : Has Pr w K mg base "check_rows" ["rows"] (sp_check_rows K) 4) (Cadded : Has Pr w K mg base "added" ["numbers", "rows", "size"] (sp_added K) 3) : Has Pr w K mg base "sum_of" ["one", "other"] (sp_sum_of K) 5 := by
  obtain ⟨f, fd, F, hm⟩ := D.ex
  refine ⟨f, fd, ⟨_, F⟩, fn_pure F sc_sum_of (fun _ => rfl) fun cdv A outer s H E U q Q hr ho hR => ?_, hm, F.kp, F.binds fun _ _ _ _ _ _ us hl => match us, hl with | [_, _], _ => rfl⟩
  obtain ⟨x, y⟩ := q
  change x.length = y.length ∧ x.length ≤ 100000 ∧ (∀ a ∈ x, RB 1000 a) ∧ (∀ a ∈ y, RB 1000 a) at ho
  change Ret _ _ (isRow K (addRow x y)) _ at hR
  obtain ⟨h1, h2, h3, h4⟩ := ho
  show SX _ _ _ [some (isRow K x), some (isRow K y)] _ _
  refine sx_expr (J := ivT _) (A := isNon) ?_ ?_
  · refine ex_callH Ccheck_rows (hr.mono (by decide)) [x, y] ?_ True.intro
    wtm_at "p_ax"
  refine sx_ifR (by wtm_at "p_tx") (fun p => ?_) (fun p => ?_)
  · rw [List.length_map, List.length_map, h1] at p
    simp at p
  · refine sx_ret (J := ivT _) (A := isRow K (addRow x y)) ?_ hR
    refine ex_callH Cadded (hr.mono (by decide)) ([1, 1], [x, y], x.length) ?_ ?_ (by show isRow K (addR [1, 1] [x, y] x.length) = _; rw [addR_two rfl h1.symm])
    · refine ax_cons (J := ivT _) (by wtm_at "p_ex") (ax_cons (J := ivT _) (by wtm_at "p_ex") (ax_cons (J := ivT _) (A := aInt (x.length : Int)) ?_ ax_nil))
      have e : (x.length : Int) = ((x.map (isR K)).length : Int) := by rw [List.length_map]
      rw [e]
      wtm_at "p_ex"
    · refine ⟨⟨1000, by decide, by decide, ?_, ?_, ?_⟩, ?_, h2⟩
      · intro z hz
        have : z = 1 := by simpa using hz
        rw [this]; exact RB.one.mono (by decide)
      · intro r hr z hz
        have : r = x ∨ r = y := by simpa using hr
        rcases this with rfl | rfl
        · exact h3 z hz
        · exact h4 z hz
      · show 2 * 1000 * 2 < 9000
        decide
      · intro r hr
        have : r = x ∨ r = y := by simpa using hr
        rcases this with rfl | rfl
        · rfl
        · exact h1.symm
end
section
set_option hygiene false
local macro_rules | `(tactic| wtm_at "p_var") => `(tactic| first
  | ((with_reducible show EX _ _ _ _ (Expr.Name "one" _) _ _); first | exact ex_var (i := 0) rfl (by wtm_at "p_vis") rfl | exact isNew.lst (ex_var (i := 0) rfl (by wtm_at "p_vis") rfl))
  | ((with_reducible show EX _ _ _ _ (Expr.Name "other" _) _ _); first | exact ex_var (i := 1) rfl (by wtm_at "p_vis") rfl | exact isNew.lst (ex_var (i := 1) rfl (by wtm_at "p_vis") rfl)))
abbrev sp_multiplied (K : PySem.W.Frag) : Sp := spF (ι := Rat × Rat) (fun q => [isR K q.1, isR K q.2]) (fun q => RB 4000 q.1 ∧ RB 4000 q.2) (fun q => isR K (q.1 * q.2))
theorem has_multiplied (B : Bl K mg) (D : DefAt K mg "multiplied" S_multiplied) (Clowest : Has Pr w K mg base "lowest" ["above", "below"] (sp_lowest K) 1) : Has Pr w K mg base "multiplied" ["one", "other"] (sp_multiplied K) 2 := by
  obtain ⟨f, fd, F, hm⟩ := D.ex
  refine ⟨f, fd, ⟨_, F⟩, fn_pure F sc_multiplied (fun _ => rfl) fun cdv A outer s H E U q Q hr ho hR => ?_, hm, F.kp, F.binds fun _ _ _ _ _ _ us hl => match us, hl with | [_, _], _ => rfl⟩
  obtain ⟨a, b⟩ := q
  obtain ⟨ha, hb⟩ := ho
  have h1 : ∃ m n, Bits m a.num ∧ Bits n b.num ∧ m + n ≤ 134217728 := bmul ha.1 hb.1 (by decide)
  have da : (a.den : Int).natAbs < 2 ^ 4000 := by simpa using ha.2
  have db : (b.den : Int).natAbs < 2 ^ 4000 := by simpa using hb.2
  have h2 : ∃ m n, Bits m (a.den : Int) ∧ Bits n (b.den : Int) ∧ m + n ≤ 134217728 := bmul da db (by decide)
  have h3 : (a.den : Int) * (b.den : Int) ≠ 0 ∧ Bits 9000 ((a.den : Int) * (b.den : Int)) := by
    refine ⟨fun e => ?_, ?_⟩
    · have := rat_den_pos a
      have := rat_den_pos b
      rcases Int.mul_eq_zero.mp e with e | e <;> omega
    · show (_ : Int).natAbs < _
      rw [Int.natAbs_mul]
      exact Nat.lt_of_lt_of_le (pow_mul_lt da db) (Nat.pow_le_pow_right (by decide) (by decide))
  show SX _ _ _ [some (isR K a), some (isR K b)] _ _
  exact sx_retEq (by wtm_at "p_ex" <;> assumption) hR (by show isR K (Rat.divInt (a.num * b.num) (a.den * b.den)) = _; rw [rat_mul])
end
section
set_option hygiene false
local macro_rules | `(tactic| wtm_at "p_var") => `(tactic| first
  | ((with_reducible show EX _ _ _ _ (Expr.Name "number" _) _ _); first | exact ex_var (i := 0) rfl (by wtm_at "p_vis") rfl | exact isNew.lst (ex_var (i := 0) rfl (by wtm_at "p_vis") rfl))
  | ((with_reducible show EX _ _ _ _ (Expr.Name "row" _) _ _); first | exact ex_var (i := 1) rfl (by wtm_at "p_vis") rfl | exact isNew.lst (ex_var (i := 1) rfl (by wtm_at "p_vis") rfl))
  | ((with_reducible show EX _ _ _ _ (Expr.Name "pair" _) _ _); first | exact ex_var (i := 2) rfl (by wtm_at "p_vis") rfl | exact isNew.lst (ex_var (i := 2) rfl (by wtm_at "p_vis") rfl)))
abbrev sp_times (K : PySem.W.Frag) : Sp := spF (ι := Rat × List Rat) (fun q => [isR K q.1, isRow K q.2]) (fun q => q.2.length ≤ 100000 ∧ RB 4000 q.1 ∧ (∀ x ∈ q.2, RB 4000 x)) (fun q => isRow K (q.2.map (q.1 * ·)))
theorem has_times (B : Bl K mg) (D : DefAt K mg "times" S_times) (Ccheck_number : Has Pr w K mg base "check_number" ["pair"] (sp_check_number K) 2) (Ccheck_numbers : Has Pr w K mg base "check_numbers" ["row"] (sp_check_numbers K) 3) (Cmultiplied : Has Pr w K mg base "multiplied" ["one", "other"] (sp_multiplied K) 2) : Has Pr w K mg base "times" ["number", "row"] (sp_times K) 4 := by
  obtain ⟨f, fd, F, hm⟩ := D.ex
  refine ⟨f, fd, ⟨_, F⟩, fn_pure F sc_times (fun _ => rfl) fun cdv A outer s H E U q Q hr ho hR => ?_, hm, F.kp, F.binds fun _ _ _ _ _ _ us hl => match us, hl with | [_, _], _ => rfl⟩
  obtain ⟨c, x⟩ := q
  change x.length ≤ 100000 ∧ RB 4000 c ∧ (∀ a ∈ x, RB 4000 a) at ho
  change Ret _ _ (isRow K (x.map (c * ·))) _ at hR
  obtain ⟨h1, h2, h3⟩ := ho
  show SX _ _ _ [some (isR K c), some (isRow K x), none] _ _
  refine sx_expr (J := ivT _) (A := isNon) (ex_callH Ccheck_number (hr.mono (by decide)) c (by wtm_at "p_ax") True.intro) ?_
  refine sx_expr (J := ivT _) (A := isNon) (ex_callH Ccheck_numbers (hr.mono (by decide)) x (by wtm_at "p_ax") True.intro) ?_
  refine sx_ret (A := isRow K (x.map (c * ·))) (isNew.lst (ex_lc rfl sc_times.nd ?_)) hR
  have e : (x.map (c * ·)).map (isR K) = x.map fun a => isR K (c * a) := by rw [List.map_map]; rfl
  rw [e]
  refine lx_N (J := ivT _) 2 (ix_list' (by wtm_at "p_ex")) sc_times.nd rfl (show blkC n_times (defScope S_times) _ _ = true from by decide +kernel) h1 rfl (.inl rfl) (fun _ _ _ _ _ => pg_name (i := 2) sc_times.nd rfl (.inl rfl)) fun D s H C cl fp a ha => ?_
  show EX _ _ _ [some (isR K c), some (isRow K x), some (isR K a)] _ _ _
  exact ex_callH Cmultiplied (hr.mono (by decide)) (c, a) (by wtm_at "p_ax") ⟨h2, h3 a ha⟩
end
section
set_option hygiene false
local macro_rules | `(tactic| wtm_at "p_var") => `(tactic| first
  | ((with_reducible show EX _ _ _ _ (Expr.Name "_law_pool_here" _) _ _); first | exact ex_var (i := 0) rfl (by wtm_at "p_vis") rfl | exact isNew.lst (ex_var (i := 0) rfl (by wtm_at "p_vis") rfl))
  | ((with_reducible show EX _ _ _ _ (Expr.Name "_law_wide" _) _ _); first | exact ex_var (i := 1) rfl (by wtm_at "p_vis") rfl | exact isNew.lst (ex_var (i := 1) rfl (by wtm_at "p_vis") rfl))
  | ((with_reducible show EX _ _ _ _ (Expr.Name "_law_great" _) _ _); first | exact ex_var (i := 2) rfl (by wtm_at "p_vis") rfl | exact isNew.lst (ex_var (i := 2) rfl (by wtm_at "p_vis") rfl))
  | ((with_reducible show EX _ _ _ _ (Expr.Name "_law_first" _) _ _); first | exact ex_var (i := 3) rfl (by wtm_at "p_vis") rfl | exact isNew.lst (ex_var (i := 3) rfl (by wtm_at "p_vis") rfl))
  | ((with_reducible show EX _ _ _ _ (Expr.Name "_law_second" _) _ _); first | exact ex_var (i := 4) rfl (by wtm_at "p_vis") rfl | exact isNew.lst (ex_var (i := 4) rfl (by wtm_at "p_vis") rfl))
  | ((with_reducible show EX _ _ _ _ (Expr.Name "_law_fee" _) _ _); first | exact ex_var (i := 5) rfl (by wtm_at "p_vis") rfl | exact isNew.lst (ex_var (i := 5) rfl (by wtm_at "p_vis") rfl))
  | ((with_reducible show EX _ _ _ _ (Expr.Name "_law_handed" _) _ _); first | exact ex_var (i := 6) rfl (by wtm_at "p_vis") rfl | exact isNew.lst (ex_var (i := 6) rfl (by wtm_at "p_vis") rfl))
  | ((with_reducible show EX _ _ _ _ (Expr.Name "_law_beside" _) _ _); first | exact ex_var (i := 7) rfl (by wtm_at "p_vis") rfl | exact isNew.lst (ex_var (i := 7) rfl (by wtm_at "p_vis") rfl))
  | ((with_reducible show EX _ _ _ _ (Expr.Name "_law_due" _) _ _); first | exact ex_var (i := 8) rfl (by wtm_at "p_vis") rfl | exact isNew.lst (ex_var (i := 8) rfl (by wtm_at "p_vis") rfl))
  | ((with_reducible show EX _ _ _ _ (Expr.Name "_law_one" _) _ _); first | exact ex_var (i := 9) rfl (by wtm_at "p_vis") rfl | exact isNew.lst (ex_var (i := 9) rfl (by wtm_at "p_vis") rfl))
  | ((with_reducible show EX _ _ _ _ (Expr.Name "_law_a" _) _ _); first | exact ex_var (i := 10) rfl (by wtm_at "p_vis") rfl | exact isNew.lst (ex_var (i := 10) rfl (by wtm_at "p_vis") rfl))
  | ((with_reducible show EX _ _ _ _ (Expr.Name "_law_b" _) _ _); first | exact ex_var (i := 11) rfl (by wtm_at "p_vis") rfl | exact isNew.lst (ex_var (i := 11) rfl (by wtm_at "p_vis") rfl)))
-- needs data
abbrev sp__law_two_right (K : PySem.W.Frag) : Sp := spD (ι := Unit) 200 (fun _ => []) (fun _ => True) (fun _ => isBl true)
theorem has__law_two_right (B : Bl K mg) (D : DefAt K mg "_law_two_right" S__law_two_right) (Dsum_of : DefAt K mg "sum_of" S_sum_of) (Dtimes : DefAt K mg "times" S_times) (C_law_pick : Has Pr w K mg base "_law_pick" ["_law_pool_here", "_law_many"] (sp__law_pick K) 1) (C_law_number : Has Pr w K mg base "_law_number" ["_law_pool_here", "_law_great"] (sp__law_number K) 2) (C_law_line : Has Pr w K mg base "_law_line" ["_law_pool_here", "_law_wide", "_law_great"] (sp__law_line K) 3) (C_law_add : Has Pr w K mg base "_law_add" ["_law_one", "_law_two"] (sp__law_add K) 2) (C_law_mul : Has Pr w K mg base "_law_mul" ["_law_one", "_law_two"] (sp__law_mul K) 2) (Csum_of : Has Pr w K mg base "sum_of" ["one", "other"] (sp_sum_of K) 5) (Ctimes : Has Pr w K mg base "times" ["number", "row"] (sp_times K) 4)
    (C_law_alike : ∀ n : Nat, Has Pr w K mg base "_law_alike" ["_law_told", "_law_due"] (sp__law_alike K n) (n + 1)) : Has Pr w K mg base "_law_two_right" ["_law_pool_here"] (sp__law_two_right K) 6 := by
  obtain ⟨f, fd, F, hm⟩ := D.ex
  refine ⟨f, fd, ⟨_, F⟩, fn_draw F sc__law_two_right (fun _ => rfl) fun cdv A outer s H E U ap ag n q Q hr ho hn hR => ?_, hm, F.kp, F.binds fun _ _ _ _ _ _ us hl => match us, hl with | [_], _ => rfl⟩
  change Ret _ _ (isBl true) _ at hR
  have rest : ∀ (n' : Nat) (wd : Nat) (g : Bool) (x y : List Rat), n' ≤ n + 160 → wd ≤ 40 → (x.length = wd ∧ ∀ a ∈ x, RB 14 a) → (y.length = wd ∧ ∀ a ∈ y, RB 14 a) → ∀ D : Ends, D = retE Q → SX (cxF Pr w K mg base n__law_two_right "_law_two_right" (defScope S__law_two_right) f cdv A outer s H E) (gD U ap ag H) (ivD U ap ag H n') [some (isV (.ref ap)), some (aInt (wd : Int)), some (isBl g), some (isRow K x), some (isRow K y), none, none, none, none, none, none, none] ((defBody S__law_two_right).drop 4) D := by
    intro n' wd g x y hn' hwd hx hy D hD
    subst hD
    have hxl : x.length ≤ 100000 := by omega
    have hyl : y.length ≤ 100000 := by omega
    have bx : ∀ {m : Nat}, 14 ≤ m → ∀ a ∈ x, RB m a := fun h a ha => (hx.2 a ha).mono h
    have b_y : ∀ {m : Nat}, 14 ≤ m → ∀ a ∈ y, RB m a := fun h a ha => (hy.2 a ha).mono h
    refine sx_setE (i := 5) (P := RB 14) (B := isR K) (J := ivD U ap ag H (n' + 5)) sc__law_two_right.nd rfl (.inr rfl) (by wtm_at "p_lt") ?_ fun fee hfee => ?_
    · exact ex_drawX (As := [isBl g]) C_law_number (hr.mono (by decide)) drw_gD (by wtm_at "p_var") (by wtm_at "p_ax") (by omega) fun F vs h => ⟨g, True.intro, h, fun _ _ h => h⟩
    show SX _ _ _ [some (isV (.ref ap)), some (aInt (wd : Int)), some (isBl g), some (isRow K x), some (isRow K y), some (isR K fee), none, none, none, none, none, none] _ _
    refine sx_par (i := 6) (j := 7) (J := ivD U ap ag H (n' + 5)) (K := ivD U ap ag H (n' + 5)) (A := isRow K x) (B := isRow K y) rfl sc__law_two_right.nd rfl rfl (by decide) rfl rfl (by wtm_at "p_lt") (by wtm_at "p_lt") (by wtm_at "p_ex") (by wtm_at "p_ex") ?_ (by rfl)
    show SX _ _ _ [some (isV (.ref ap)), some (aInt (wd : Int)), some (isBl g), some (isRow K x), some (isRow K y), some (isR K fee), some (isRow K x), some (isRow K y), none, none, none, none] _ _
    refine sx_setLc (i := 8) (J := ivD U ap ag H (n' + 5)) (As := (addRow x y).map (isR K)) rfl sc__law_two_right.nd rfl rfl (by wtm_at "p_lt") ?_ ?_ (sw_true rfl rfl rfl (by decide +kernel))
    · rw [addRow_zip]
      refine lx_T (J := ivD U ap ag H (n' + 5)) (l := x.zip y) (f1 := fun p => isR K p.1) (f2 := fun p => isR K p.2) 10 11 ((ix_zip (by rfl) B.zip (by wtm_at "p_ex") (by wtm_at "p_ex")).cast zipA_map) (show blkC n__law_two_right (defScope S__law_two_right) _ _ = true from by decide +kernel) (by rw [List.length_zip]; omega) rfl rfl
        (fun _ _ _ _ _ => pg_tup rfl (pgs_cons (pg_name (i := 10) sc__law_two_right.nd rfl (.inl rfl)) (pgs_cons (pg_name (i := 11) sc__law_two_right.nd rfl (.inl rfl)) pgs_nil))) fun D s H' C cl fp p hp => ?_
      have m := List.of_mem_zip (a := p.1) (b := p.2) (by simpa using hp)
      show EX _ _ _ [some (isV (.ref ap)), some (aInt (wd : Int)), some (isBl g), some (isRow K x), some (isRow K y), some (isR K fee), some (isRow K x), some (isRow K y), none, none, some (isR K p.1), some (isR K p.2)] _ _ _
      exact ex_callH C_law_add (hr.mono (by decide)) (p.1, p.2) (by wtm_at "p_ax") ⟨bx (by decide) _ m.1, b_y (by decide) _ m.2⟩
    show SX _ _ _ [some (isV (.ref ap)), some (aInt (wd : Int)), some (isBl g), some (isRow K x), some (isRow K y), some (isR K fee), some (isRow K x), some (isRow K y), some (isNew ((addRow x y).map (isR K))), none, none, none] _ _
    have ls : (addRow x y).length ≤ 100000 := by rw [addRow_len (by omega)]; omega
    refine sx_ifR (J := ivD U ap ag H (n' + 5)) (P := (· = (false || false))) (WX.tx (wx_or (J := ivD U ap ag H (n' + 5)) (p := false) (q := false) (TX.imp (tx_not (P := (· = true)) (tx_val ?_)) fun k h => nt h) fun _ => wx_or1 (TX.imp (tx_not (P := (· = true)) (tx_val ?_)) fun k h => nt h))) (fun p => by cases p) fun _ => ?_
    · refine ex_alike (dRow (addRow x y)) (C_law_alike 2) (hr.mono (by decide)) (okD_row ls) isD_row (J := ivD U ap ag H (n' + 5)) ?_ (isNew.lst (by wtm_at "p_var"))
      exact ex_callH Csum_of (hr.mono (by decide)) (x, y) (by wtm_at "p_ax") ⟨by show x.length = y.length; omega, hxl, bx (by decide), b_y (by decide)⟩
    · refine ex_alike (dRow (addRow x y)) (C_law_alike 2) (hr.mono (by decide)) (okD_row ls) isD_row (J := ivD U ap ag H (n' + 5)) ?_ (isNew.lst (by wtm_at "p_var"))
      refine ex_callKH (ks := ["other", "one"]) (g := swp) (gV := swp) (gA := swp) Csum_of Dsum_of (hr.mono (by decide)) (fun r => swp_rel r) (fun _ _ _ _ _ _ ws hl => match ws, hl with | [_, _], _ => rfl) (As := [isRow K x, isRow K y]) (y, x) ?_ rfl rfl swp_all ⟨by show y.length = x.length; omega, hyl, b_y (by decide), bx (by decide)⟩ (by show isRow K (addRow y x) = _; rw [addRow_comm])
      exact kx_cons (J := ivD U ap ag H (n' + 5)) (by wtm_at "p_ex") (kx_cons (J := ivD U ap ag H (n' + 5)) (by wtm_at "p_ex") kx_nil)
    refine sx_setLc (i := 8) (J := ivD U ap ag H (n' + 5)) (As := (x.map (fee * ·)).map (isR K)) rfl sc__law_two_right.nd rfl rfl (by wtm_at "p_lt") ?_ ?_ (sw_true rfl rfl rfl (by decide +kernel))
    · rw [List.map_map]
      refine lx_N (J := ivD U ap ag H (n' + 5)) 10 (ix_list' (by wtm_at "p_ex")) sc__law_two_right.nd rfl (show blkC n__law_two_right (defScope S__law_two_right) _ _ = true from by decide +kernel) hxl rfl (.inl rfl) (fun _ _ _ _ _ => pg_name (i := 10) sc__law_two_right.nd rfl (.inl rfl)) fun D s H' C cl fp a ha => ?_
      show EX _ _ _ [some (isV (.ref ap)), some (aInt (wd : Int)), some (isBl g), some (isRow K x), some (isRow K y), some (isR K fee), some (isRow K x), some (isRow K y), some (isNew _), none, some (isR K a), none] _ _ _
      exact ex_callH C_law_mul (hr.mono (by decide)) (fee, a) (by wtm_at "p_ax") ⟨hfee.mono (by decide), bx (by decide) _ ha⟩
    show SX _ _ _ [some (isV (.ref ap)), some (aInt (wd : Int)), some (isBl g), some (isRow K x), some (isRow K y), some (isR K fee), some (isRow K x), some (isRow K y), some (isNew ((x.map (fee * ·)).map (isR K))), none, none, none] _ _
    have ls2 : (x.map (fee * ·)).length ≤ 100000 := by rw [List.length_map]; exact hxl
    refine sx_ifR (J := ivD U ap ag H (n' + 5)) (P := (· = (false || false))) (WX.tx (wx_or (J := ivD U ap ag H (n' + 5)) (p := false) (q := false) (TX.imp (tx_not (P := (· = true)) (tx_val ?_)) fun k h => nt h) fun _ => wx_or1 (TX.imp (tx_not (P := (· = true)) (tx_val ?_)) fun k h => nt h))) (fun p => by cases p) fun _ => ?_
    · refine ex_alike (dRow (x.map (fee * ·))) (C_law_alike 2) (hr.mono (by decide)) (okD_row ls2) isD_row (J := ivD U ap ag H (n' + 5)) ?_ (isNew.lst (by wtm_at "p_var"))
      exact ex_callH Ctimes (hr.mono (by decide)) (fee, x) (by wtm_at "p_ax") ⟨hxl, hfee.mono (by decide), bx (by decide)⟩
    · refine ex_alike (dRow (x.map (fee * ·))) (C_law_alike 2) (hr.mono (by decide)) (okD_row ls2) isD_row (J := ivD U ap ag H (n' + 5)) ?_ (isNew.lst (by wtm_at "p_var"))
      refine ex_callKH (ks := ["row", "number"]) (g := swp) (gV := swp) (gA := swp) Ctimes Dtimes (hr.mono (by decide)) (fun r => swp_rel r) (fun _ _ _ _ _ _ ws hl => match ws, hl with | [_, _], _ => rfl) (As := [isRow K x, isR K fee]) (fee, x) ?_ rfl rfl swp_all ⟨hxl, hfee.mono (by decide), bx (by decide)⟩
      exact kx_cons (J := ivD U ap ag H (n' + 5)) (by wtm_at "p_ex") (kx_cons (J := ivD U ap ag H (n' + 5)) (by wtm_at "p_ex") kx_nil)
    refine sx_ifR (J := ivD U ap ag H (n' + 5)) (P := (· = false)) (TX.imp (tx_not (P := (· = true)) (tx_val ?_)) fun k h => nt h) (fun p => by cases p) fun _ => ?_
    · refine ex_alike (dRow (addRow x x)) (C_law_alike 2) (hr.mono (by decide)) (okD_row (by rw [addRow_len rfl]; exact hxl)) isD_row (J := ivD U ap ag H (n' + 5)) (ex_callH Csum_of (hr.mono (by decide)) (x, x) (by wtm_at "p_ax") ⟨rfl, hxl, bx (by decide), bx (by decide)⟩) (isNew.lst (ex_lc rfl sc__law_two_right.nd ?_))
      have e2 : (addRow x x).map (isR K) = x.map fun a => isR K (2 * a) := by rw [addRow_self, List.map_map]; rfl
      rw [e2]
      refine lx_N (J := ivD U ap ag H (n' + 5)) 10 (ix_list' (by wtm_at "p_ex")) sc__law_two_right.nd rfl (show blkC n__law_two_right (defScope S__law_two_right) _ _ = true from by decide +kernel) hxl rfl (.inl rfl) (fun _ _ _ _ _ => pg_name (i := 10) sc__law_two_right.nd rfl (.inl rfl)) fun D s H' C cl fp a ha => ?_
      show EX _ _ _ [some (isV (.ref ap)), some (aInt (wd : Int)), some (isBl g), some (isRow K x), some (isRow K y), some (isR K fee), some (isRow K x), some (isRow K y), some (isNew _), none, some (isR K a), none] _ _ _
      exact ex_callH C_law_mul (hr.mono (by decide)) (2, a) (by show AX _ _ _ _ _ [isTup K [aInt 2, aInt 1], isR K a] _; wtm_at "p_ax") ⟨(show RB 2 (2 : Rat) from ⟨by decide +kernel, by decide +kernel⟩).mono (by decide), bx (by decide) _ ha⟩
    refine sx_ret (J := ivD U ap ag H (n' + 5)) (A := isBl (true && true)) (ex_and (J := ivD U ap ag H (n' + 5)) ?_ fun _ => ex_one ?_) (hR.post (ivD_more (by omega)))
    · exact ex_eqSelf (dRow x) hr (okD_row (n := 0) hxl) (by decide) isD_row (J := ivD U ap ag H (n' + 5)) (by wtm_at "p_var") (by wtm_at "p_var")
    · exact ex_eqSelf (dRow y) hr (okD_row (n := 0) hyl) (by decide) isD_row (J := ivD U ap ag H (n' + 5)) (by wtm_at "p_var") (by wtm_at "p_var")
  show SX _ _ _ [some (isV (.ref ap)), none, none, none, none, none, none, none, none, none, none, none] _ _
  refine sx_setE (i := 1) (P := fun r : Int => 1 ≤ r ∧ r ≤ 40) (B := aInt) (J := ivD U ap ag H (n + 1 + 1)) sc__law_two_right.nd rfl (.inl rfl) (by wtm_at "p_lt") ?_ fun wd hwd => ?_
  · refine ex_addD (J := ivD U ap ag H n) (P := (· = 1)) (Q := fun r => 0 ≤ r ∧ r < 40) (EX.dr ex_int) ?_ (fun i j e h => by subst e; omega)
    refine ex_pick (R := fun m => 1 ≤ m ∧ m ≤ 40) (n := n + 1) C_law_pick (hr.mono (by decide)) drw_gD (by wtm_at "p_var") ?_ (fun _ h => h) (by decide) (by omega)
    refine ex_ixI (l := [4, 12, 40]) (P := fun r => 0 ≤ r ∧ r < 3) (J := ivD U ap ag H n) (fun _ _ => rfl) ?_ (ex_pickK C_law_pick (hr.mono (by decide)) drw_gD (by wtm_at "p_var") ex_int (by decide) (by decide) (by omega)) (fun i e => e) (by simp)
    show EX _ _ _ _ _ (isLst K [aInt 4, aInt 12, aInt 40]) _
    wtm_at "p_ex"
  obtain ⟨wd, rfl⟩ : ∃ m : Nat, wd = (m : Int) := ⟨wd.toNat, by omega⟩
  have hwd' : wd ≤ 40 := by omega
  show SX _ _ _ [some (isV (.ref ap)), some (aInt (wd : Int)), none, none, none, none, none, none, none, none, none, none] _ _
  refine sx_setE (i := 2) (P := fun _ : Bool => True) (B := isBl) (J := ivD U ap ag H (n + 1 + 1 + 1)) sc__law_two_right.nd rfl (.inl rfl) (by wtm_at "p_lt") (ex_drEqB (J := ivD U ap ag H (n + 1 + 1 + 1)) (ex_pickK (m := 2) C_law_pick (hr.mono (by decide)) drw_gD (by wtm_at "p_var") ex_int (by decide) (by decide) (by omega)) (EX.dr ex_int)) fun g _ => ?_
  show SX _ _ _ [some (isV (.ref ap)), some (aInt (wd : Int)), some (isBl g), none, none, none, none, none, none, none, none, none] _ _
  refine sx_parE (i := 3) (j := 4) (P := fun xs : List Rat => xs.length = wd ∧ ∀ x ∈ xs, RB 14 x) (R := fun xs : List Rat => xs.length = wd ∧ ∀ x ∈ xs, RB 14 x) (A' := isRow K) (B' := isRow K) (J := ivD U ap ag H (n + 1 + 1 + 1 + 50)) (K := ivD U ap ag H (n + 1 + 1 + 1 + 50 + 50)) rfl sc__law_two_right.nd rfl rfl (by decide) rfl rfl (by wtm_at "p_lt") (by wtm_at "p_lt") ?_ ?_ (fun x y hx hy => ?_) (by rfl)
  · exact ex_drawX (As := [aInt (wd : Int), isBl g]) C_law_line (hr.mono (by decide)) drw_gD (by wtm_at "p_var") (by wtm_at "p_ax") (by omega) fun F vs h => ⟨(wd, g), hwd', h, fun _ _ h => h⟩
  · exact ex_drawX (As := [aInt (wd : Int), isBl g]) C_law_line (hr.mono (by decide)) drw_gD (by wtm_at "p_var") (by wtm_at "p_ax") (by omega) fun F vs h => ⟨(wd, g), hwd', h, fun _ _ h => h⟩
  show SX _ _ _ [some (isV (.ref ap)), some (aInt (wd : Int)), some (isBl g), some (isRow K x), some (isRow K y), none, none, none, none, none, none, none] _ _
  refine sx_if (P := fun _ => True) (J := ivD U ap ag H (n + 1 + 1 + 1 + 50 + 50 + 1)) ?_ (fun _ => ?_) (fun _ => sx_fall (rest (n + 1 + 1 + 1 + 50 + 50 + 1) wd g x y (by omega) hwd' hx hy _ rfl) rfl)
  · exact TX.imp (tx_drEq (J := ivD U ap ag H (n + 1 + 1 + 1 + 50 + 50 + 1)) (ex_pickK (m := 3) C_law_pick (hr.mono (by decide)) drw_gD (by wtm_at "p_var") ex_int (by decide) (by decide) (by omega)) (EX.dr ex_int)) fun _ _ => True.intro
  generalize hN : n + 1 + 1 + 1 + 50 + 50 + 1 = N
  have hxl : x.length = wd := hx.1
  refine sx_setLc (i := 4) (J := ivD U ap ag H (N + x.length * 1)) (As := List.replicate x.length (exA (RB 14) (isR K))) rfl sc__law_two_right.nd rfl rfl (by wtm_at "p_lt") ?_ ?_ (sw_true rfl rfl rfl (by decide +kernel))
  · refine lx_D (fA := isR K) 9 1 N (ivD U ap ag H) (ix_list' (by wtm_at "p_ex")) (show blkC n__law_two_right (defScope S__law_two_right) _ _ = true from by decide +kernel) (by omega) rfl (fun _ _ _ _ _ => pg_name (i := 9) sc__law_two_right.nd rfl (.inl rfl)) fun D s H' C cl fp k a e hk => ?_
    have e5 : N + (k + 1) * 1 = N + k * 1 + 1 := by omega
    have ba := hx.2 a (List.mem_of_getElem? e)
    rw [e5]
    show EX _ _ _ [some (isV (.ref ap)), some (aInt (wd : Int)), some (isBl g), some (isRow K x), some (isRow K y), none, none, none, none, some (isR K a), none, none] _ _ _
    refine ex_if (G := (gD U ap ag H).lk D) (P := fun _ => True) (J := ivD U ap ag H (N + k * 1 + 1)) ?_ (fun _ => EX.ex (-a) ?_ ba.neg) (fun _ => EX.ex a (by wtm_at "p_var") ba)
    · refine TX.imp (tx_drEq (G := (gD U ap ag H).lk D) (J := ivD U ap ag H (N + k * 1 + 1)) (R := fun r => 0 ≤ r ∧ r < 2) (S := (· = 1)) ?_ (EX.dr ex_int)) fun _ _ => True.intro
      exact ex_pickK (m := 2) C_law_pick (hr.mono (by decide)) drw_gD (by wtm_at "p_var") ex_int (by decide) (by decide) (by omega)
    · show EX _ _ _ _ _ (isTup K [aInt (-a).num, aInt ((-a).den : Int)]) _
      rw [Rat.neg_num, Rat.neg_den]
      wtm_at "p_ex"
  show SX _ _ _ [some (isV (.ref ap)), some (aInt (wd : Int)), some (isBl g), some (isRow K x), some (isNew (List.replicate x.length (exA (RB 14) (isR K)))), none, none, none, none, none, none, none] _ _
  refine sx_opn 4 (P := fun xs : List Rat => xs.length = x.length ∧ ∀ a ∈ xs, RB 14 a) (fA := isRow K) rfl row_ex fun y' hy' => ?_
  exact sx_fall (rest (N + x.length * 1) wd g x y' (by omega) hwd' hx ⟨by omega, hy'.2⟩ _ rfl) rfl
end
section
set_option hygiene false
local macro_rules | `(tactic| wtm_at "p_var") => `(tactic| first
  | ((with_reducible show EX _ _ _ _ (Expr.Name "_law_pool_here" _) _ _); first | exact ex_var (i := 0) rfl (by wtm_at "p_vis") rfl | exact isNew.lst (ex_var (i := 0) rfl (by wtm_at "p_vis") rfl))
  | ((with_reducible show EX _ _ _ _ (Expr.Name "_law_kind" _) _ _); first | exact ex_var (i := 1) rfl (by wtm_at "p_vis") rfl | exact isNew.lst (ex_var (i := 1) rfl (by wtm_at "p_vis") rfl)))
-- needs data
abbrev sp__law_shape (K : PySem.W.Frag) : Sp := spD (ι := Unit) 4 (fun _ => []) (fun _ => True) (fun _ => exA (fun q : Nat × Nat => q.1 ≤ 40 ∧ 1 ≤ q.2 ∧ q.2 ≤ 40) fun q => isTup K [aInt (q.1 : Int), aInt (q.2 : Int)])
theorem two_drawn {P R : Int → Prop} {F : Hp} {v : V} (h : (isTup K [exA P aInt, exA R aInt]).p F v) (hP : ∀ i, P i → 0 ≤ i ∧ i ≤ 40) (hR : ∀ i, R i → 1 ≤ i ∧ i ≤ 40) : (exA (fun q : Nat × Nat => q.1 ≤ 40 ∧ 1 ≤ q.2 ∧ q.2 ≤ 40) fun q => isTup K [aInt (q.1 : Int), aInt (q.2 : Int)]).p F v := by
  obtain ⟨a, vs, rfl, h1, v, r, rfl, ⟨i, pi, e1⟩, v2, r2, rfl, ⟨j, rj, e2⟩, rfl⟩ := h
  obtain ⟨p1, p2⟩ := hP i pi
  obtain ⟨r1, r2⟩ := hR j rj
  have ei : ((i.toNat : Nat) : Int) = i := by omega
  have ej : ((j.toNat : Nat) : Int) = j := by omega
  refine ⟨(i.toNat, j.toNat), ⟨by show i.toNat ≤ 40; omega, by show 1 ≤ j.toNat; omega, by show j.toNat ≤ 40; omega⟩, a, _, rfl, h1, v, _, rfl, ?_, v2, _, rfl, ?_, rfl⟩
  · show v = V.int ((i.toNat : Nat) : Int); rw [ei]; exact e1
  · show v2 = V.int ((j.toNat : Nat) : Int); rw [ej]; exact e2
theorem has__law_shape (B : Bl K mg) (D : DefAt K mg "_law_shape" S__law_shape) (C_law_pick : Has Pr w K mg base "_law_pick" ["_law_pool_here", "_law_many"] (sp__law_pick K) 1) : Has Pr w K mg base "_law_shape" ["_law_pool_here"] (sp__law_shape K) 2 := by
  obtain ⟨f, fd, F, hm⟩ := D.ex
  refine ⟨f, fd, ⟨_, F⟩, fn_draw F sc__law_shape (fun _ => rfl) fun cdv A outer s H E U ap ag n q Q hr ho hn hR => ?_, hm, F.kp, F.binds fun _ _ _ _ _ _ us hl => match us, hl with | [_], _ => rfl⟩
  change Ret _ _ (exA (fun q : Nat × Nat => q.1 ≤ 40 ∧ 1 ≤ q.2 ∧ q.2 ≤ 40) fun q => isTup K [aInt (q.1 : Int), aInt (q.2 : Int)]) _ at hR
  show SX _ _ _ [some (isV (.ref ap)), none] _ _
  refine sx_ifR (P := fun _ => True) (J := ivD U ap ag H (n + 1)) ?_ (fun _ => ?_) (fun _ => ?_)
  · exact TX.imp (tx_drEq (J := ivD U ap ag H (n + 1)) (ex_pickK (m := 12) C_law_pick (hr.mono (by decide)) drw_gD (by wtm_at "p_var") ex_int (by decide) (by decide) (by omega)) (EX.dr ex_int)) fun _ _ => True.intro
  · refine sx_ret (J := ivD U ap ag H (n + 1 + 1 + 1)) (A := isTup K [exA (fun r => 38 ≤ r ∧ r ≤ 40) aInt, exA (fun r => 38 ≤ r ∧ r ≤ 40) aInt]) (ex_tup (ax_cons (J := ivD U ap ag H (n + 1 + 1)) ?_ (ax_cons (J := ivD U ap ag H (n + 1 + 1 + 1)) ?_ ax_nil)) (by wtm_at "p_lt")) ((hR.post (ivD_more (by omega))).imp fun F v h => two_drawn h (fun i h => by omega) (fun i h => by omega))
    · exact ex_subD (J := ivD U ap ag H (n + 1)) (P := (· = 40)) (Q := fun r => 0 ≤ r ∧ r < 3) (EX.dr ex_int) (ex_pickK C_law_pick (hr.mono (by decide)) drw_gD (by wtm_at "p_var") ex_int (by decide) (by decide) (by omega)) (fun i j e h => by subst e; omega)
    · exact ex_subD (J := ivD U ap ag H (n + 1 + 1)) (P := (· = 40)) (Q := fun r => 0 ≤ r ∧ r < 3) (EX.dr ex_int) (ex_pickK C_law_pick (hr.mono (by decide)) drw_gD (by wtm_at "p_var") ex_int (by decide) (by decide) (by omega)) (fun i j e h => by subst e; omega)
  refine sx_setE (i := 1) (P := fun r : Int => 0 ≤ r ∧ r < 3) (B := aInt) (J := ivD U ap ag H (n + 1 + 1)) sc__law_shape.nd rfl (.inl rfl) (by wtm_at "p_lt") (ex_pickK C_law_pick (hr.mono (by decide)) drw_gD (by wtm_at "p_var") ex_int (by decide) (by decide) (by omega)) fun kind hk => ?_
  show SX _ _ _ [some (isV (.ref ap)), some (aInt kind)] _ _
  refine sx_ifR (P := fun _ => True) (J := ivD U ap ag H (n + 1 + 1)) (TX.imp (by wtm_at "p_tx") fun _ _ => True.intro) (fun _ => ?_) (fun _ => ?_)
  · refine sx_ret (J := ivD U ap ag H (n + 1 + 1 + 1 + 1)) (A := isTup K [exA (fun r => 0 ≤ r ∧ r < 41) aInt, exA (fun r => 1 ≤ r ∧ r ≤ 3) aInt]) (ex_tup (ax_cons (J := ivD U ap ag H (n + 1 + 1 + 1)) ?_ (ax_cons (J := ivD U ap ag H (n + 1 + 1 + 1 + 1)) ?_ ax_nil)) (by wtm_at "p_lt")) (hR.imp fun F v h => two_drawn h (fun i h => by omega) (fun i h => by omega))
    · exact ex_pickK C_law_pick (hr.mono (by decide)) drw_gD (by wtm_at "p_var") ex_int (by decide) (by decide) (by omega)
    · exact ex_addD (J := ivD U ap ag H (n + 1 + 1 + 1)) (P := (· = 1)) (Q := fun r => 0 ≤ r ∧ r < 3) (EX.dr ex_int) (ex_pickK C_law_pick (hr.mono (by decide)) drw_gD (by wtm_at "p_var") ex_int (by decide) (by decide) (by omega)) (fun i j e h => by subst e; omega)
  refine sx_ifR (P := fun _ => True) (J := ivD U ap ag H (n + 1 + 1)) (TX.imp (by wtm_at "p_tx") fun _ _ => True.intro) (fun _ => ?_) (fun _ => ?_)
  · refine sx_ret (J := ivD U ap ag H (n + 1 + 1 + 1 + 1)) (A := isTup K [exA (fun r => 0 ≤ r ∧ r < 4) aInt, exA (fun r => 1 ≤ r ∧ r ≤ 40) aInt]) (ex_tup (ax_cons (J := ivD U ap ag H (n + 1 + 1 + 1)) ?_ (ax_cons (J := ivD U ap ag H (n + 1 + 1 + 1 + 1)) ?_ ax_nil)) (by wtm_at "p_lt")) (hR.imp fun F v h => two_drawn h (fun i h => by omega) (fun i h => by omega))
    · exact ex_pickK C_law_pick (hr.mono (by decide)) drw_gD (by wtm_at "p_var") ex_int (by decide) (by decide) (by omega)
    · exact ex_addD (J := ivD U ap ag H (n + 1 + 1 + 1)) (P := (· = 1)) (Q := fun r => 0 ≤ r ∧ r < 40) (EX.dr ex_int) (ex_pickK C_law_pick (hr.mono (by decide)) drw_gD (by wtm_at "p_var") ex_int (by decide) (by decide) (by omega)) (fun i j e h => by subst e; omega)
  · refine sx_ret (J := ivD U ap ag H (n + 1 + 1 + 1 + 1)) (A := isTup K [exA (fun r => 0 ≤ r ∧ r < 7) aInt, exA (fun r => 1 ≤ r ∧ r ≤ 6) aInt]) (ex_tup (ax_cons (J := ivD U ap ag H (n + 1 + 1 + 1)) ?_ (ax_cons (J := ivD U ap ag H (n + 1 + 1 + 1 + 1)) ?_ ax_nil)) (by wtm_at "p_lt")) (hR.imp fun F v h => two_drawn h (fun i h => by omega) (fun i h => by omega))
    · exact ex_pickK C_law_pick (hr.mono (by decide)) drw_gD (by wtm_at "p_var") ex_int (by decide) (by decide) (by omega)
    · exact ex_addD (J := ivD U ap ag H (n + 1 + 1 + 1)) (P := (· = 1)) (Q := fun r => 0 ≤ r ∧ r < 6) (EX.dr ex_int) (ex_pickK C_law_pick (hr.mono (by decide)) drw_gD (by wtm_at "p_var") ex_int (by decide) (by decide) (by omega)) (fun i j e h => by subst e; omega)
end
section
set_option hygiene false
local macro_rules | `(tactic| wtm_at "p_var") => `(tactic| first
  | ((with_reducible show EX _ _ _ _ (Expr.Name "rows" _) _ _); first | exact ex_var (i := 0) rfl (by wtm_at "p_vis") rfl | exact isNew.lst (ex_var (i := 0) rfl (by wtm_at "p_vis") rfl))
  | ((with_reducible show EX _ _ _ _ (Expr.Name "size" _) _ _); first | exact ex_var (i := 1) rfl (by wtm_at "p_vis") rfl | exact isNew.lst (ex_var (i := 1) rfl (by wtm_at "p_vis") rfl))
  | ((with_reducible show EX _ _ _ _ (Expr.Name "row" _) _ _); first | exact ex_var (i := 2) rfl (by wtm_at "p_vis") rfl | exact isNew.lst (ex_var (i := 2) rfl (by wtm_at "p_vis") rfl)))
abbrev sp_check_sizes (K : PySem.W.Frag) : Sp := spF (ι := List (List Rat) × Nat) (fun q => [isRows K q.1, aInt (q.2 : Int)]) (fun q => ∀ r ∈ q.1, r.length = q.2) (fun _ => isNon)
theorem has_check_sizes (B : Bl K mg) (D : DefAt K mg "check_sizes" S_check_sizes) : Has Pr w K mg base "check_sizes" ["rows", "size"] (sp_check_sizes K) 1 := by
  obtain ⟨f, fd, F, hm⟩ := D.ex
  refine ⟨f, fd, ⟨_, F⟩, fn_pure F sc_check_sizes (fun _ => rfl) fun cdv A outer s H E U q Q hr ho hR => ?_, hm, F.kp, F.binds fun _ _ _ _ _ _ us hl => match us, hl with | [_, _], _ => rfl⟩
  obtain ⟨l, n⟩ := q
  change ∀ r ∈ l, r.length = n at ho
  show SX _ _ _ [some (isRows K l), some (aInt (n : Int)), none] _ _
  refine sx_forN 2 (fun _ => ivT _) (fun _ => [some (isRows K l), some (aInt (n : Int)), none]) PassesOwn.never rfl sc_check_sizes.nd rfl (.inl rfl) (.inr rfl) (ix_list' (by wtm_at "p_ex")) (low_refl _) (fun _ => by wtm_at "p_lt") (fun H1 Γ1 σ1 k r e m hk k1 => ?_) (sx_end hR fun _ => rfl)
  show SX _ _ _ [some (isRows K l), some (aInt (n : Int)), some (isRow K r)] _ _
  refine sx_ifR (by wtm_at "p_tx") (fun p => ?_) (fun p => sx_nil fun σ H k => k.low ⟨fun _ _ h => h, fun _ _ h => h, True.intro⟩)
  rw [List.length_map, ho r m] at p
  simp at p
end
section
set_option hygiene false
local macro_rules | `(tactic| wtm_at "p_var") => `(tactic| first
  | ((with_reducible show EX _ _ _ _ (Expr.Name "rows" _) _ _); first | exact ex_var (i := 0) rfl (by wtm_at "p_vis") rfl | exact isNew.lst (ex_var (i := 0) rfl (by wtm_at "p_vis") rfl))
  | ((with_reducible show EX _ _ _ _ (Expr.Name "size" _) _ _); first | exact ex_var (i := 1) rfl (by wtm_at "p_vis") rfl | exact isNew.lst (ex_var (i := 1) rfl (by wtm_at "p_vis") rfl)))
abbrev sp_check_rows_of (K : PySem.W.Frag) : Sp := spF (ι := List (List Rat) × Nat) (fun q => [isRows K q.1, aInt (q.2 : Int)]) (fun q => ∀ r ∈ q.1, r.length = q.2) (fun _ => isNon)
theorem has_check_rows_of (B : Bl K mg) (D : DefAt K mg "check_rows_of" S_check_rows_of) (Ccheck_rows : Has Pr w K mg base "check_rows" ["rows"] (sp_check_rows K) 4) (Ccheck_sizes : Has Pr w K mg base "check_sizes" ["rows", "size"] (sp_check_sizes K) 1) : Has Pr w K mg base "check_rows_of" ["rows", "size"] (sp_check_rows_of K) 5 := by
  obtain ⟨f, fd, F, hm⟩ := D.ex
  refine ⟨f, fd, ⟨_, F⟩, fn_pure F sc_check_rows_of (fun _ => rfl) fun cdv A outer s H E U q Q hr ho hR => ?_, hm, F.kp, F.binds fun _ _ _ _ _ _ us hl => match us, hl with | [_, _], _ => rfl⟩
  obtain ⟨l, n⟩ := q
  change ∀ r ∈ l, r.length = n at ho
  show SX _ _ _ [some (isRows K l), some (aInt (n : Int))] _ _
  refine sx_expr (J := ivT _) (A := isNon) (ex_callH Ccheck_rows (hr.mono (by decide)) l (by wtm_at "p_ax") True.intro) ?_
  exact sx_expr (J := ivT _) (A := isNon) (ex_callH Ccheck_sizes (hr.mono (by decide)) (l, n) (by wtm_at "p_ax") ho) (sx_end hR fun _ => rfl)
end
section
set_option hygiene false
local macro_rules | `(tactic| wtm_at "p_var") => `(tactic| first
  | ((with_reducible show EX _ _ _ _ (Expr.Name "numbers" _) _ _); first | exact ex_var (i := 0) rfl (by wtm_at "p_vis") rfl | exact isNew.lst (ex_var (i := 0) rfl (by wtm_at "p_vis") rfl))
  | ((with_reducible show EX _ _ _ _ (Expr.Name "rows" _) _ _); first | exact ex_var (i := 1) rfl (by wtm_at "p_vis") rfl | exact isNew.lst (ex_var (i := 1) rfl (by wtm_at "p_vis") rfl))
  | ((with_reducible show EX _ _ _ _ (Expr.Name "size" _) _ _); first | exact ex_var (i := 2) rfl (by wtm_at "p_vis") rfl | exact isNew.lst (ex_var (i := 2) rfl (by wtm_at "p_vis") rfl)))
abbrev sp_combined (K : PySem.W.Frag) : Sp := spF (ι := List Rat × List (List Rat) × Nat) (fun q => [isRow K q.1, isRows K q.2.1, aInt (q.2.2 : Int)]) (fun q => okA q ∧ q.1.length = q.2.1.length) (fun q => isRow K (addR q.1 q.2.1 q.2.2))
theorem has_combined (B : Bl K mg) (D : DefAt K mg "combined" S_combined) (Ccheck_numbers : Has Pr w K mg base "check_numbers" ["row"] (sp_check_numbers K) 3) (Ccheck_rows_of : Has Pr w K mg base "check_rows_of" ["rows", "size"] (sp_check_rows_of K) 5) (Cadded : Has Pr w K mg base "added" ["numbers", "rows", "size"] (sp_added K) 3) : Has Pr w K mg base "combined" ["numbers", "rows", "size"] (sp_combined K) 6 := by
  obtain ⟨f, fd, F, hm⟩ := D.ex
  refine ⟨f, fd, ⟨_, F⟩, fn_pure F sc_combined (fun _ => rfl) fun cdv A outer s H E U q Q hr ho hR => ?_, hm, F.kp, F.binds fun _ _ _ _ _ _ us hl => match us, hl with | [_, _, _], _ => rfl⟩
  obtain ⟨nu, ro, n⟩ := q
  obtain ⟨ho, hl⟩ := ho
  change nu.length = ro.length at hl
  change Ret _ _ (isRow K (addR nu ro n)) _ at hR
  show SX _ _ _ [some (isRow K nu), some (isRows K ro), some (aInt (n : Int))] _ _
  refine sx_expr (J := ivT _) (A := isNon) (ex_callH Ccheck_numbers (hr.mono (by decide)) nu (by wtm_at "p_ax") True.intro) ?_
  refine sx_expr (J := ivT _) (A := isNon) (ex_callH Ccheck_rows_of (hr.mono (by decide)) (ro, n) (by wtm_at "p_ax") ho.2.1) ?_
  refine sx_ifR (by wtm_at "p_tx") (fun p => ?_) (fun p => ?_)
  · rw [List.length_map, List.length_map, hl] at p
    simp at p
  · exact sx_ret (J := ivT _) (A := isRow K (addR nu ro n)) (ex_callH Cadded (hr.mono (by decide)) (nu, ro, n) (by wtm_at "p_ax") ho) hR
end
section
set_option hygiene false
local macro_rules | `(tactic| wtm_at "p_var") => `(tactic| first
  | ((with_reducible show EX _ _ _ _ (Expr.Name "_law_pool_here" _) _ _); first | exact ex_var (i := 0) rfl (by wtm_at "p_vis") rfl | exact isNew.lst (ex_var (i := 0) rfl (by wtm_at "p_vis") rfl))
  | ((with_reducible show EX _ _ _ _ (Expr.Name "_law_many" _) _ _); first | exact ex_var (i := 1) rfl (by wtm_at "p_vis") rfl | exact isNew.lst (ex_var (i := 1) rfl (by wtm_at "p_vis") rfl))
  | ((with_reducible show EX _ _ _ _ (Expr.Name "_law_wide" _) _ _); first | exact ex_var (i := 2) rfl (by wtm_at "p_vis") rfl | exact isNew.lst (ex_var (i := 2) rfl (by wtm_at "p_vis") rfl))
  | ((with_reducible show EX _ _ _ _ (Expr.Name "_law_great" _) _ _); first | exact ex_var (i := 3) rfl (by wtm_at "p_vis") rfl | exact isNew.lst (ex_var (i := 3) rfl (by wtm_at "p_vis") rfl))
  | ((with_reducible show EX _ _ _ _ (Expr.Name "_law_lines" _) _ _); first | exact ex_var (i := 4) rfl (by wtm_at "p_vis") rfl | exact isNew.lst (ex_var (i := 4) rfl (by wtm_at "p_vis") rfl))
  | ((with_reducible show EX _ _ _ _ (Expr.Name "_law_fees" _) _ _); first | exact ex_var (i := 5) rfl (by wtm_at "p_vis") rfl | exact isNew.lst (ex_var (i := 5) rfl (by wtm_at "p_vis") rfl))
  | ((with_reducible show EX _ _ _ _ (Expr.Name "_law_due" _) _ _); first | exact ex_var (i := 6) rfl (by wtm_at "p_vis") rfl | exact isNew.lst (ex_var (i := 6) rfl (by wtm_at "p_vis") rfl))
  | ((with_reducible show EX _ _ _ _ (Expr.Name "_law_fee" _) _ _); first | exact ex_var (i := 7) rfl (by wtm_at "p_vis") rfl | exact isNew.lst (ex_var (i := 7) rfl (by wtm_at "p_vis") rfl))
  | ((with_reducible show EX _ _ _ _ (Expr.Name "_law_line_here" _) _ _); first | exact ex_var (i := 8) rfl (by wtm_at "p_vis") rfl | exact isNew.lst (ex_var (i := 8) rfl (by wtm_at "p_vis") rfl))
  | ((with_reducible show EX _ _ _ _ (Expr.Name "_law_handed" _) _ _); first | exact ex_var (i := 9) rfl (by wtm_at "p_vis") rfl | exact isNew.lst (ex_var (i := 9) rfl (by wtm_at "p_vis") rfl))
  | ((with_reducible show EX _ _ _ _ (Expr.Name "_law_beside" _) _ _); first | exact ex_var (i := 10) rfl (by wtm_at "p_vis") rfl | exact isNew.lst (ex_var (i := 10) rfl (by wtm_at "p_vis") rfl))
  | ((with_reducible show EX _ _ _ _ (Expr.Name "_law_kept" _) _ _); first | exact ex_var (i := 11) rfl (by wtm_at "p_vis") rfl | exact isNew.lst (ex_var (i := 11) rfl (by wtm_at "p_vis") rfl))
  | ((with_reducible show EX _ _ _ _ (Expr.Name "_law_k" _) _ _); first | exact ex_var (i := 12) rfl (by wtm_at "p_vis") rfl | exact isNew.lst (ex_var (i := 12) rfl (by wtm_at "p_vis") rfl))
  | ((with_reducible show EX _ _ _ _ (Expr.Name "_law_a" _) _ _); first | exact ex_var (i := 13) rfl (by wtm_at "p_vis") rfl | exact isNew.lst (ex_var (i := 13) rfl (by wtm_at "p_vis") rfl))
  | ((with_reducible show EX _ _ _ _ (Expr.Name "_law_b" _) _ _); first | exact ex_var (i := 14) rfl (by wtm_at "p_vis") rfl | exact isNew.lst (ex_var (i := 14) rfl (by wtm_at "p_vis") rfl)))
-- needs data
abbrev sp__law_many_right (K : PySem.W.Frag) : Sp := spD (ι := Unit) 2300 (fun _ => []) (fun _ => True) (fun _ => isBl true)
theorem rows_list {wd m : Nat} {F : Hp} {v : V} (h : (isNew (List.replicate m (exA (fun xs : List Rat => xs.length = wd ∧ ∀ x ∈ xs, RB 14 x) (isRow K)))).p F v) : (exA (fun xs : List (List Rat) => xs.length = m ∧ ∀ x ∈ xs, (x.length = wd ∧ ∀ a ∈ x, RB 14 a)) (isRows K)).p F v := by
  obtain ⟨xs, h1, a, vs, e, h2, h3⟩ := rows_ex F v h
  exact ⟨xs, h1, a, vs, e, .inl (.inl h2), h3⟩
theorem has__law_many_right (B : Bl K mg) (D : DefAt K mg "_law_many_right" S__law_many_right) (Dcombined : DefAt K mg "combined" S_combined) (C_law_pick : Has Pr w K mg base "_law_pick" ["_law_pool_here", "_law_many"] (sp__law_pick K) 1) (C_law_number : Has Pr w K mg base "_law_number" ["_law_pool_here", "_law_great"] (sp__law_number K) 2) (C_law_line : Has Pr w K mg base "_law_line" ["_law_pool_here", "_law_wide", "_law_great"] (sp__law_line K) 3) (C_law_shape : Has Pr w K mg base "_law_shape" ["_law_pool_here"] (sp__law_shape K) 2) (C_law_add : Has Pr w K mg base "_law_add" ["_law_one", "_law_two"] (sp__law_add K) 2) (C_law_mul : Has Pr w K mg base "_law_mul" ["_law_one", "_law_two"] (sp__law_mul K) 2) (Ccombined : Has Pr w K mg base "combined" ["numbers", "rows", "size"] (sp_combined K) 6)
    (C_law_alike : ∀ n : Nat, Has Pr w K mg base "_law_alike" ["_law_told", "_law_due"] (sp__law_alike K n) (n + 1)) : Has Pr w K mg base "_law_many_right" ["_law_pool_here"] (sp__law_many_right K) 7 := by
  obtain ⟨f, fd, F, hm⟩ := D.ex
  refine ⟨f, fd, ⟨_, F⟩, fn_draw F sc__law_many_right (fun _ => rfl) fun cdv A outer s H E U ap ag n q Q hr ho hn hR => ?_, hm, F.kp, F.binds fun _ _ _ _ _ _ us hl => match us, hl with | [_], _ => rfl⟩
  change Ret _ _ (isBl true) _ at hR
  have rest : ∀ (n' : Nat) (m wd : Nat) (g : Bool) (ls : List (List Rat)) (fs : List Rat), n' ≤ n + 2300 → m ≤ 40 → wd ≤ 40 → (ls.length = m ∧ ∀ x ∈ ls, (x.length = wd ∧ ∀ a ∈ x, RB 14 a)) → (fs.length = m ∧ ∀ a ∈ fs, RB 14 a) → ∀ D : Ends, D = retE Q → SX (cxF Pr w K mg base n__law_many_right "_law_many_right" (defScope S__law_many_right) f cdv A outer s H E) (gD U ap ag H) (ivD U ap ag H n') [some (isV (.ref ap)), some (aInt (m : Int)), some (aInt (wd : Int)), some (isBl g), some (isRows K ls), some (isRow K fs), none, none, none, none, none, none, none, none, none] ((defBody S__law_many_right).drop 5) D := by
    intro n' m wd g ls fs hn' hm hwd hls hfs D hD
    subst hD
    have e0 : (List.replicate wd [isTup K [aInt 0, aInt 1]]).flatten = (List.replicate wd (0 : Rat)).map (isR K) := by rw [flat_rep, List.map_replicate]; rfl
    have hz0 : ∀ k, (fs.take k).length ≤ 40 := fun k => Nat.le_trans (List.length_take_le' _ _) (by omega)
    have bdue : ∀ k, ∀ a ∈ addR (fs.take k) (ls.take k) wd, RB 2000 a := fun k a ha => (addR_RB (b := 14) (by decide) (fun x hx => hfs.2 x (List.mem_of_mem_take hx)) (fun r hr x hx => (hls.2 r (List.mem_of_mem_take hr)).2 x hx) a ha).mono (by have := hz0 k; omega)
    refine sx_set (i := 6) (J := ivD U ap ag H n') (A := isRow K (List.replicate wd 0)) sc__law_many_right.nd rfl (.inl rfl) (by wtm_at "p_lt") (isNew.lst ?_) ?_
    · rw [← e0]
      exact ex_rep (J := ivD U ap ag H n') (ex_lstN (by wtm_at "p_ax") (by wtm_at "p_lt")) (by wtm_at "p_ex") (by show 1 * wd ≤ _; omega) (by omega)
    show SX _ _ _ [some (isV (.ref ap)), some (aInt (m : Int)), some (aInt (wd : Int)), some (isBl g), some (isRows K ls), some (isRow K fs), some (isRow K (List.replicate wd 0)), none, none, none, none, none, none, none, none] _ _
    refine sx_forT (l := fs.zip ls) (f1 := fun p => isR K p.1) (f2 := fun p => isRow K p.2) 7 8 (fun _ => ivD U ap ag H n') (fun k => [some (isV (.ref ap)), some (aInt (m : Int)), some (aInt (wd : Int)), some (isBl g), some (isRows K ls), some (isRow K fs), some (isRow K (addR (fs.take k) (ls.take k) wd)), none, none, none, none, none, none, none, none]) PassesOwn.never rfl
      (pg_tup rfl (pgs_cons (pg_name (i := 7) sc__law_many_right.nd rfl (.inr rfl)) (pgs_cons (pg_name (i := 8) sc__law_many_right.nd rfl (.inl rfl)) pgs_nil))) ((ix_zip (by rfl) B.zip (by wtm_at "p_ex") (by wtm_at "p_ex")).cast zipA_map) ⟨fun _ _ h => h, fun _ _ h => h, fun _ _ h => h, fun _ _ h => h, fun _ _ h => h, fun _ _ h => h, fun F v h => by rw [List.take_zero, addR_nil]; exact h, True.intro⟩ (fun _ => by wtm_at "p_lt") (fun _ => by wtm_at "p_lt") (fun H1 Γ1 σ1 k p e mm hk k1 => ?_) ?_
    · obtain ⟨c, r⟩ := p
      rw [List.getElem?_zip_eq_some] at e
      obtain ⟨e1, e2⟩ := e
      change fs[k]? = some c at e1
      change ls[k]? = some r at e2
      have hc := hfs.2 c (List.mem_of_getElem? e1)
      have hr' := hls.2 r (List.mem_of_getElem? e2)
      have t1 : fs.take (k + 1) = fs.take k ++ [c] := take_succ_get e1
      have t2 : ls.take (k + 1) = ls.take k ++ [r] := take_succ_get e2
      have hlk : (fs.take k).length = (ls.take k).length := by rw [List.length_take, List.length_take]; omega
      have hstep : addR (fs.take (k + 1)) (ls.take (k + 1)) wd = ((addR (fs.take k) (ls.take k) wd).zip r).map fun p => p.1 + c * p.2 := by rw [t1, t2]; exact addR_snoc hlk hr'.1
      have bd := bdue k
      generalize hdd : addR (fs.take k) (ls.take k) wd = d at hstep bd
      have hdl : d.length = wd := by rw [← hdd]; exact addR_len
      show SX _ _ _ [some (isV (.ref ap)), some (aInt (m : Int)), some (aInt (wd : Int)), some (isBl g), some (isRows K ls), some (isRow K fs), some (isRow K d), some (isR K c), some (isRow K r), none, none, none, none, none, none] _ _
      refine sx_if (P := (· = !decide (c.num = 0))) (G := (gD U ap ag H).re H1) (J := ivD U ap ag H n') (by wtm_at "p_tx") (fun p => ?_) (fun p => ?_)
      · refine sx_setLc (i := 6) (G := (gD U ap ag H).re H1) (J := ivD U ap ag H n') (As := (addR (fs.take (k + 1)) (ls.take (k + 1)) wd).map (isR K)) rfl sc__law_many_right.nd rfl rfl (by wtm_at "p_lt") ?_ (sx_nil fun σ H k => wB_nil (k.low ⟨fun _ _ h => h, fun _ _ h => h, fun _ _ h => h, fun _ _ h => h, fun _ _ h => h, fun _ _ h => h, fun F v ⟨a, vs, e, h1, h2⟩ => ⟨a, vs, e, .inl (.inl h1), h2⟩, True.intro⟩)) (sw_true rfl rfl rfl (by decide +kernel))
        have e3 : (addR (fs.take (k + 1)) (ls.take (k + 1)) wd).map (isR K) = (d.zip r).map fun p => isR K (p.1 + c * p.2) := by rw [hstep, List.map_map]; rfl
        rw [e3]
        refine lx_T (G := (gD U ap ag H).re H1) (J := ivD U ap ag H n') (l := d.zip r) (f1 := fun p => isR K p.1) (f2 := fun p => isR K p.2) 13 14 ((ix_zip (by rfl) B.zip (by wtm_at "p_ex") (by wtm_at "p_ex")).cast zipA_map) (show blkC n__law_many_right (defScope S__law_many_right) _ _ = true from by decide +kernel) (by rw [List.length_zip]; omega) rfl rfl
          (fun _ _ _ _ _ => pg_tup rfl (pgs_cons (pg_name (i := 13) sc__law_many_right.nd rfl (.inl rfl)) (pgs_cons (pg_name (i := 14) sc__law_many_right.nd rfl (.inl rfl)) pgs_nil))) fun D s H' C cl fp p hp => ?_
        have mp := List.of_mem_zip (a := p.1) (b := p.2) (by simpa using hp)
        have b1 := bd _ mp.1
        have b2 := hr'.2 _ mp.2
        show EX _ _ _ [some (isV (.ref ap)), some (aInt (m : Int)), some (aInt (wd : Int)), some (isBl g), some (isRows K ls), some (isRow K fs), some (isRow K d), some (isR K c), some (isRow K r), none, none, none, none, some (isR K p.1), some (isR K p.2)] _ _ _
        refine ex_if (G := ((gD U ap ag H).re H1).lk D) (J := ivD U ap ag H n') (P := (· = decide (p.2.num = 0))) (by wtm_at "p_tx") (fun z => ?_) (fun z => ?_)
        · have z0 : p.2 = 0 := Rat.num_eq_zero.mp (of_decide_eq_true z.symm)
          rw [z0, Rat.mul_zero, Rat.add_zero]
          wtm_at "p_var"
        · refine ex_callH C_law_add (hr.mono (by decide)) (p.1, c * p.2) (ax_cons (by wtm_at "p_var") (ax_cons ?_ ax_nil)) ⟨b1.mono (by decide), (hc.mul b2).mono (by decide)⟩
          exact ex_callH C_law_mul (hr.mono (by decide)) (c, p.2) (by wtm_at "p_ax") ⟨hc.mono (by decide), b2.mono (by decide)⟩
      · have z0 : c = 0 := Rat.num_eq_zero.mp (by
          rcases Decidable.em (c.num = 0) with h | h
          · exact h
          · rw [decide_eq_false h] at p; cases p)
        refine sx_nil fun σ H k => wB_nil (k.low ⟨fun _ _ h => h, fun _ _ h => h, fun _ _ h => h, fun _ _ h => h, fun _ _ h => h, fun _ _ h => h, fun F v h => ?_, True.intro⟩)
        rw [hstep, z0, zip_zero (by omega)]
        exact h
    have lz : (fs.zip ls).length = m := by rw [List.length_zip]; omega
    have hdue : addR (fs.take (fs.zip ls).length) (ls.take (fs.zip ls).length) wd = addR fs ls wd := by rw [lz, List.take_of_length_le (by omega), List.take_of_length_le (by omega)]
    show SX _ _ _ [some (isV (.ref ap)), some (aInt (m : Int)), some (aInt (wd : Int)), some (isBl g), some (isRows K ls), some (isRow K fs), some (isRow K (addR (fs.take (fs.zip ls).length) (ls.take (fs.zip ls).length) wd)), none, none, none, none, none, none, none, none] _ _
    rw [hdue]
    refine sx_par3 (i := 9) (j := 10) (l := 11) (J := ivD U ap ag H n') (K := ivD U ap ag H n') (W1 := ivD U ap ag H n') (A := isRow K fs) (B := isRows K ls) (C := isRows K ls) rfl sc__law_many_right.nd rfl rfl rfl (by decide) (by decide) (by decide) rfl rfl rfl (by wtm_at "p_lt") (by wtm_at "p_lt") (by wtm_at "p_lt") (by wtm_at "p_ex") (by wtm_at "p_ex") (isNew.lst (ex_lc rfl sc__law_many_right.nd ?_)) ?_ (by rfl)
    · refine lx_N (J := ivD U ap ag H n') (l := ls) (fA := isRow K) (fC := isRow K) 8 (ix_list' (by wtm_at "p_ex")) sc__law_many_right.nd rfl (show blkC n__law_many_right (defScope S__law_many_right) _ _ = true from by decide +kernel) (by omega) rfl (.inl rfl) (fun _ _ _ _ _ => pg_name (i := 8) sc__law_many_right.nd rfl (.inl rfl)) fun D s H' C cl fp r hr => ?_
      show EX _ _ _ [some (isV (.ref ap)), some (aInt (m : Int)), some (aInt (wd : Int)), some (isBl g), some (isRows K ls), some (isRow K fs), some (isRow K (addR fs ls wd)), none, some (isRow K r), none, none, none, none, none, none] _ _ _
      wtm_at "p_ex"
    show SX _ _ _ [some (isV (.ref ap)), some (aInt (m : Int)), some (aInt (wd : Int)), some (isBl g), some (isRows K ls), some (isRow K fs), some (isRow K (addR fs ls wd)), none, none, some (isRow K fs), some (isRows K ls), some (isRows K ls), none, none, none] _ _
    have okc : okA (fs, ls, wd) ∧ fs.length = ls.length := ⟨⟨⟨14, by decide, by decide, hfs.2, fun r hr x hx => (hls.2 r hr).2 x hx, by show 2 * 14 * fs.length < 9000; omega⟩, fun r hr => (hls.2 r hr).1, by show wd ≤ 100000; omega⟩, by omega⟩
    have la : (addR fs ls wd).length ≤ 100000 := by rw [addR_len]; omega
    refine sx_ifR (J := ivD U ap ag H n') (P := (· = false)) (TX.imp (tx_not (P := (· = true)) (tx_val ?_)) fun k h => nt h) (fun p => by cases p) fun _ => ?_
    · refine ex_alike (dRow (addR fs ls wd)) (C_law_alike 2) (hr.mono (by decide)) (okD_row la) isD_row (J := ivD U ap ag H n') ?_ (by wtm_at "p_var")
      exact ex_callH Ccombined (hr.mono (by decide)) (fs, ls, wd) (by wtm_at "p_ax") okc
    refine sx_ifR (J := ivD U ap ag H n') (P := (· = false)) (TX.imp (tx_not (P := (· = true)) (tx_val ?_)) fun k h => nt h) (fun p => by cases p) fun _ => ?_
    · refine ex_alike (dRow (addR fs ls wd)) (C_law_alike 2) (hr.mono (by decide)) (okD_row la) isD_row (J := ivD U ap ag H n') ?_ (by wtm_at "p_var")
      refine ex_callKH (ks := ["size", "rows", "numbers"]) (g := rv3) (gV := rv3) (gA := rv3) Ccombined Dcombined (hr.mono (by decide)) (fun r => rv3_rel r) (fun _ _ _ _ _ _ ws hl => match ws, hl with | [_, _, _], _ => rfl) (As := [aInt (wd : Int), isRows K ls, isRow K fs]) (fs, ls, wd) ?_ rfl rfl rv3_all okc
      exact kx_cons (J := ivD U ap ag H n') (by wtm_at "p_ex") (kx_cons (J := ivD U ap ag H n') (by wtm_at "p_ex") (kx_cons (J := ivD U ap ag H n') (by wtm_at "p_ex") kx_nil))
    refine sx_ret (J := ivD U ap ag H n') (A := isBl (true && true)) (ex_and (J := ivD U ap ag H n') ?_ fun _ => ex_one ?_) (hR.post (ivD_more (by omega)))
    · exact ex_eqSelf (dRow fs) hr (okD_row (n := 0) (by omega)) (by decide) isD_row (J := ivD U ap ag H n') (by wtm_at "p_var") (by wtm_at "p_var")
    · exact ex_eqSelf (dRows ls) hr (okD_rows (n := 0) (by omega) (fun r hr => by rw [(hls.2 r hr).1]; omega)) (by decide) isD_rows (J := ivD U ap ag H n') (by wtm_at "p_var") (by wtm_at "p_var")
  show SX _ _ _ [some (isV (.ref ap)), none, none, none, none, none, none, none, none, none, none, none, none, none, none] _ _
  refine sx_tup2E (i := 1) (j := 2) (P := fun q : Nat × Nat => q.1 ≤ 40 ∧ 1 ≤ q.2 ∧ q.2 ≤ 40) (A := fun q => aInt (q.1 : Int)) (B := fun q => aInt (q.2 : Int)) (J := ivD U ap ag H (n + 4)) rfl sc__law_many_right.nd rfl rfl (.inl rfl) (.inr rfl) (by wtm_at "p_lt") (by wtm_at "p_lt") (pg_tup rfl (pgs_cons (pg_name (i := 1) sc__law_many_right.nd rfl (.inl rfl)) (pgs_cons (pg_name (i := 2) sc__law_many_right.nd rfl (.inr rfl)) pgs_nil)))
    (ex_drawX (As := []) C_law_shape (hr.mono (by decide)) drw_gD (by wtm_at "p_var") ax_nil (by omega) fun F vs h => ⟨(), True.intro, h, fun _ _ h => h⟩) fun q hq => ?_
  obtain ⟨m, wd⟩ := q
  obtain ⟨hm, hwd1, hwd⟩ := hq
  change m ≤ 40 at hm
  change 1 ≤ wd at hwd1
  change wd ≤ 40 at hwd
  have zmw : ∃ m' n, Bits m' (m : Int) ∧ Bits n (wd : Int) ∧ m' + n ≤ 134217728 := ⟨6, 6, by show (m : Int).natAbs < 2 ^ 6; omega, by show (wd : Int).natAbs < 2 ^ 6; omega, by decide⟩
  show SX _ _ _ [some (isV (.ref ap)), some (aInt (m : Int)), some (aInt (wd : Int)), none, none, none, none, none, none, none, none, none, none, none, none] _ _
  refine sx_setE (i := 3) (P := fun _ : Bool => True) (B := isBl) (J := ivD U ap ag H (n + 4 + 1)) sc__law_many_right.nd rfl (.inr rfl) (by wtm_at "p_lt") (ex_andE (J := ivD U ap ag H (n + 4)) (p := decide ((m : Int) * (wd : Int) < 50)) (by wtm_at "p_ex" <;> assumption) (fun _ => ex_one (ex_drEqB (J := ivD U ap ag H (n + 4 + 1)) (ex_pickK (m := 2) C_law_pick (hr.mono (by decide)) drw_gD (by wtm_at "p_var") ex_int (by decide) (by decide) (by omega)) (EX.dr ex_int))) (ivD_more (by omega))) fun g _ => ?_
  show SX _ _ _ [some (isV (.ref ap)), some (aInt (m : Int)), some (aInt (wd : Int)), some (isBl g), none, none, none, none, none, none, none, none, none, none, none] _ _
  have hl : (List.range m).length = m := List.length_range
  -- the lines are one's own until they are exchanged
  refine sx_ownLc (i := 4) (J := ivD U ap ag H (n + 4 + 1 + (List.range m).length * 50)) (As := List.replicate (List.range m).length (exA (fun xs : List Rat => xs.length = wd ∧ ∀ x ∈ xs, RB 14 x) (isRow K))) rfl sc__law_many_right.nd rfl rfl (by wtm_at "p_lt") ?_ (fun L vs h0 hU hlen => ?_) (sw_true rfl rfl rfl (by decide +kernel))
  · refine lx_D 12 50 (n + 4 + 1) (ivD U ap ag H) (ix_range (by rfl) B.range (by wtm_at "p_var") (by omega)) (show blkC n__law_many_right (defScope S__law_many_right) _ _ = true from by decide +kernel) (by rw [hl]; omega) rfl (fun _ _ _ _ _ => pg_name (i := 12) sc__law_many_right.nd rfl (.inl rfl)) fun D s H' C cl fp k a e hk => ?_
    rw [hl] at hk
    show EX _ _ _ [some (isV (.ref ap)), some (aInt (m : Int)), some (aInt (wd : Int)), some (isBl g), none, none, none, none, none, none, none, none, some (aInt ((a : Nat) : Int)), none, none] _ _ _
    have e5 : n + 4 + 1 + (k + 1) * 50 = n + 4 + 1 + k * 50 + 50 := by omega
    rw [e5]
    exact ex_drawX (As := [aInt (wd : Int), isBl g]) C_law_line (hr.mono (by decide)) drw_gD (by wtm_at "p_var") (by wtm_at "p_ax") (by omega) fun F vs h => ⟨(wd, g), hwd, h, fun _ _ h => h⟩
  rw [hl] at hlen ⊢
  rw [List.length_replicate] at hlen
  generalize hN : n + 4 + 1 + m * 50 = N
  have hM : ¬ (gD U ap ag H).M L := fun m => hU (.inl m)
  show SX _ _ _ [some (isV (.ref ap)), some (aInt (m : Int)), some (aInt (wd : Int)), some (isBl g), some (isOwn L vs _), none, none, none, none, none, none, none, none, none, none] _ _
  refine sx_setLc (i := 5) (G := (gD U ap ag H).own L h0) (J := (ivD U ap ag H (N + (List.range m).length * 5)).own L vs) (As := List.replicate (List.range m).length (exA (RB 14) (isR K))) rfl sc__law_many_right.nd rfl rfl (by wtm_at "p_lt") ?_ ?_ (sw_true rfl rfl rfl (by decide +kernel))
  · refine lx_D (G := (gD U ap ag H).own L h0) 12 5 N (fun j => (ivD U ap ag H j).own L vs) (ix_range (by rfl) B.range (by wtm_at "p_var") (by omega)) (show blkC n__law_many_right (defScope S__law_many_right) _ _ = true from by decide +kernel) (by rw [hl]; omega) rfl (fun _ _ _ _ _ => pg_name (i := 12) sc__law_many_right.nd rfl (.inl rfl)) fun D s H' C cl fp k a e hk => ?_
    rw [hl] at hk
    show EX _ _ _ [some (isV (.ref ap)), some (aInt (m : Int)), some (aInt (wd : Int)), some (isBl g), some (isOwn L vs _), none, none, none, none, none, none, none, some (aInt ((a : Nat) : Int)), none, none] _ _ _
    have e5 : N + (k + 1) * 5 = N + k * 5 + 5 := by omega
    rw [e5]
    exact ex_drawX (G := ((gD U ap ag H).own L h0).lk D) (Iz := fun j => (ivD U ap ag H j).own L vs) (As := [isBl g]) C_law_number (hr.mono (by decide)) (drw_own hM drw_gD) (by wtm_at "p_var") (by wtm_at "p_ax") (by omega) fun F vs h => ⟨g, True.intro, h, fun _ _ h => h⟩
  rw [hl]
  show SX _ _ _ [some (isV (.ref ap)), some (aInt (m : Int)), some (aInt (wd : Int)), some (isBl g), some (isOwn L vs _), some (isNew (List.replicate m (exA (RB 14) (isR K)))), none, none, none, none, none, none, none, none, none] _ _
  refine sx_opn 5 (P := fun xs : List Rat => xs.length = m ∧ ∀ a ∈ xs, RB 14 a) (fA := isRow K) rfl row_ex fun fs hfs => ?_
  show SX _ _ _ [some (isV (.ref ap)), some (aInt (m : Int)), some (aInt (wd : Int)), some (isBl g), some (isOwn L vs _), some (isRow K fs), none, none, none, none, none, none, none, none, none] _ _
  have fin : ∀ (us : List V) (n' : Nat), n' ≤ N + m * 5 + 3 → ∀ D : Ends, D = retE Q → SX (cxF Pr w K mg base n__law_many_right "_law_many_right" (defScope S__law_many_right) f cdv A outer s H E) ((gD U ap ag H).own L h0) ((ivD U ap ag H n').own L us) [some (isV (.ref ap)), some (aInt (m : Int)), some (aInt (wd : Int)), some (isBl g), some (isOwn L us (List.replicate m (exA (fun xs : List Rat => xs.length = wd ∧ ∀ x ∈ xs, RB 14 x) (isRow K)))), some (isRow K fs), none, none, none, none, none, none, none, none, none] ((defBody S__law_many_right).drop 5) D := by
    intro us n' hn' D hD
    refine sx_free 4 hU rfl ?_
    refine sx_opn 4 (P := fun xs : List (List Rat) => xs.length = m ∧ ∀ x ∈ xs, (x.length = wd ∧ ∀ a ∈ x, RB 14 a)) (fA := isRows K) rfl (fun F v h => rows_list h) fun ls hls => ?_
    exact rest n' m wd g ls fs (by omega) hm hwd hls hfs D hD
  refine sx_if (P := fun c => c = true → 1 < m) (G := (gD U ap ag H).own L h0) (J := (ivD U ap ag H (N + m * 5 + 1)).own L vs) ?_ (fun hm1 => ?_) (fun _ => sx_fall (fin vs (N + m * 5 + 1) (by omega) _ rfl) rfl)
  · refine WX.tx (wx_andP (P' := fun _ => True) (G := (gD U ap ag H).own L h0) (J := (ivD U ap ag H (N + m * 5)).own L vs) (P := (· = decide (1 < (m : Int)))) (R := fun c => c = true → 1 < m) (by wtm_at "p_tx") (fun _ h => by cases h) (fun z => wx_and1 (TX.imp (tx_drEq (G := (gD U ap ag H).own L h0) (J := (ivD U ap ag H (N + m * 5 + 1)).own L vs) (R := fun r => 0 ≤ r ∧ r < 2) (S := (· = 1)) ?_ (EX.dr ex_int)) fun _ _ _ => ?_)) fun H h => ⟨ivD_more (by omega) _ h.1, h.2⟩)
    · exact ex_pickK (G := (gD U ap ag H).own L h0) (m := 2) (Iz := fun j => (ivD U ap ag H j).own L vs) C_law_pick (hr.mono (by decide)) (drw_own hM drw_gD) (by wtm_at "p_var") ex_int (by decide) (by decide) (by omega)
    · have := of_decide_eq_true z.symm
      omega
  have hm1 := hm1 rfl
  refine sx_store (G := (gD U ap ag H).own L h0) (J := (ivD U ap ag H (N + m * 5 + 1 + 1)).own L vs) (K := (ivD U ap ag H (N + m * 5 + 1 + 1 + 1)).own L vs) (I' := fun us => (ivD U ap ag H (N + m * 5 + 1 + 1 + 1)).own L us) (As := List.replicate m (exA (fun xs : List Rat => xs.length = wd ∧ ∀ x ∈ xs, RB 14 x) (isRow K))) (A := exA (fun xs : List Rat => xs.length = wd ∧ ∀ x ∈ xs, RB 14 x) (isRow K)) (P := fun i => 0 ≤ i ∧ i < (m : Int)) 4 (by wtm_at "p_lt") (owns_top hM) ?_ ?_ ?_ (fun i h => by rw [List.length_replicate]; exact h) rfl fun j v pj hj => ?_
  · refine ex_ixOD (G := (gD U ap ag H).own L h0) (J := (ivD U ap ag H (N + m * 5 + 1)).own L vs) (I' := fun us => (ivD U ap ag H (N + m * 5 + 1 + 1)).own L us) (P := fun i => 0 ≤ i ∧ i < (m : Int)) (As := List.replicate m (exA (fun xs : List Rat => xs.length = wd ∧ ∀ x ∈ xs, RB 14 x) (isRow K))) (owns_top hM) (fun _ _ => rfl) (by wtm_at "p_var") ?_ (fun i h => by rw [List.length_replicate]; exact h) (fun k A F v e h => ?_)
    · exact ex_pickK (G := (gD U ap ag H).own L h0) (Iz := fun j => (ivD U ap ag H j).own L vs) C_law_pick (hr.mono (by decide)) (drw_own hM drw_gD) (by wtm_at "p_var") (by wtm_at "p_var") (by omega) (by omega) (by omega)
    · rw [List.getElem?_replicate] at e
      split at e
      · cases e; exact h
      · cases e
  · wtm_at "p_var"
  · exact ex_pickK (G := (gD U ap ag H).own L h0) (Iz := fun j => (ivD U ap ag H j).own L vs) C_law_pick (hr.mono (by decide)) (drw_own hM drw_gD) (by wtm_at "p_var") (by wtm_at "p_var") (by omega) (by omega) (by omega)
  rw [rep_set]
  exact sx_fall (fin (vs.set j v) (N + m * 5 + 1 + 1 + 1) (by omega) _ rfl) rfl
end
section
set_option hygiene false
local macro_rules | `(tactic| wtm_at "p_var") => `(tactic| first
  | ((with_reducible show EX _ _ _ _ (Expr.Name "_law_script" _) _ _); first | exact ex_var (i := 0) rfl (by wtm_at "p_vis") rfl | exact isNew.lst (ex_var (i := 0) rfl (by wtm_at "p_vis") rfl))
  | ((with_reducible show EX _ _ _ _ (Expr.Name "_law_pool_here" _) _ _); first | exact ex_var (i := 1) rfl (by wtm_at "p_vis") rfl | exact isNew.lst (ex_var (i := 1) rfl (by wtm_at "p_vis") rfl))
  | ((with_reducible show EX _ _ _ _ (Expr.Name "_law_turn" _) _ _); first | exact ex_var (i := 2) rfl (by wtm_at "p_vis") rfl | exact isNew.lst (ex_var (i := 2) rfl (by wtm_at "p_vis") rfl)))
theorem has_law (B : Bl K mg) (D : DefAt K mg "law" S_law) (C_law_pool : Has Pr w K mg base "_law_pool" ["_law_script"] (spPool K) 1) (C_law_numbers_right : Has Pr w K mg base "_law_numbers_right" ["_law_pool_here"] (sp__law_numbers_right K) 6) (C_law_two_right : Has Pr w K mg base "_law_two_right" ["_law_pool_here"] (sp__law_two_right K) 6) (C_law_many_right : Has Pr w K mg base "_law_many_right" ["_law_pool_here"] (sp__law_many_right K) 7) : Has Pr w K mg base "law" ["_law_script"] (spLaw K) 8 := by
  obtain ⟨f, fd, F, hm⟩ := D.ex
  refine ⟨f, fd, ⟨_, F⟩, fn_law F sc_law rfl fun cdv A outer s H E ns Q hr hn hR => ?_, hm, F.kp, F.binds fun _ _ _ _ _ _ us hl => match us, hl with | [_], _ => rfl⟩
  show SX _ _ _ [some (isLst K (ns.map aInt)), none, none] _ _
  refine sx_pool (i := 1) C_law_pool (hr.mono (by decide)) sc_law.nd rfl (.inl rfl) (by wtm_at "p_lt") hn (by wtm_at "p_var") fun ap ag h1 h2 => ?_
  show SX _ _ _ [some (isLst K (ns.map aInt)), some (isV (.ref ap)), none] _ _
  refine sx_forN (G := gL H ap ag h1 h2) (l := List.range 3) (fA := fun i => aInt ((i : Nat) : Int)) 2 (fun k => ivL H ap ag h1 h2 (0 + k * 3000)) (fun _ => [some (isLst K (ns.map aInt)), some (isV (.ref ap)), none]) PassesOwn.never rfl sc_law.nd rfl (.inl rfl) (.inr rfl) ((ix_range (n := 3) (by rfl) B.range ex_int (by decide)).cast rfl) (low_refl _) (fun _ => by wtm_at "p_lt") (fun H1 Γ1 σ1 k r e m hk k1 => ?_) ?_
  · have hk3 : k < 3 := hk
    show SX _ _ _ [some (isLst K (ns.map aInt)), some (isV (.ref ap)), some (aInt ((r : Nat) : Int))] _ _
    generalize hN : 0 + k * 3000 = N
    have hN2 : 0 + (k + 1) * 3000 = N + 3000 := by omega
    rw [hN2]
    refine sx_ifR (G := (gL H ap ag h1 h2).re H1) (J := ivL H ap ag h1 h2 (N + 20 + 200 + 2300)) (P := (· = (false || (false || false)))) (WX.tx (wx_or (G := (gL H ap ag h1 h2).re H1) (J := ivL H ap ag h1 h2 (N + 20)) (p := false) (q := false || false) (TX.imp (tx_not (P := (· = true)) (tx_val ?_)) fun k h => nt h) (fun _ => wx_or (G := (gL H ap ag h1 h2).re H1) (J := ivL H ap ag h1 h2 (N + 20 + 200)) (p := false) (q := false) (TX.imp (tx_not (P := (· = true)) (tx_val ?_)) fun k h => nt h) (fun _ => wx_or1 (TX.imp (tx_not (P := (· = true)) (tx_val ?_)) fun k h => nt h)) (ivL_more (by omega))) (ivL_more (by omega)))) (fun p => by cases p) fun _ => sx_nil fun σ H k => (k.post (ivL_more (by omega))).low ⟨fun _ _ h => h, fun _ _ h => h, True.intro⟩
    · exact ex_drawX (G := (gL H ap ag h1 h2).re H1) (Iz := ivL H ap ag h1 h2) (As := []) C_law_numbers_right (hr.mono (by decide)) drw_gL (by wtm_at "p_var") ax_nil (by omega) fun F vs h => ⟨(), True.intro, h, fun _ _ h => h⟩
    · exact ex_drawX (G := (gL H ap ag h1 h2).re H1) (Iz := ivL H ap ag h1 h2) (As := []) C_law_two_right (hr.mono (by decide)) drw_gL (by wtm_at "p_var") ax_nil (by omega) fun F vs h => ⟨(), True.intro, h, fun _ _ h => h⟩
    · exact ex_drawX (G := (gL H ap ag h1 h2).re H1) (Iz := ivL H ap ag h1 h2) (As := []) C_law_many_right (hr.mono (by decide)) drw_gL (by wtm_at "p_var") ax_nil (by omega) fun F vs h => ⟨(), True.intro, h, fun _ _ h => h⟩
  · refine sx_ret (J := ivL H ap ag h1 h2 (0 + 3 * 3000)) (A := isBl true) ex_bl fun Γ σ H' v k e => ?_
    cases e
    exact hR H'
end
def ffn : List He.DefD := [mkD "_law_pick" S__law_pick, mkD "_law_pool" S__law_pool, mkD "_law_alike" S__law_alike, mkD "_law_low" S__law_low, mkD "lowest" S_lowest, mkD "number" S_number, mkD "unit_row" S_unit_row, mkD "unit" S_unit, mkD "noughts" S_noughts, mkD "_law_numbers_right" S__law_numbers_right, mkD "_law_number" S__law_number, mkD "_law_line" S__law_line, mkD "_law_mul" S__law_mul, mkD "_law_add" S__law_add, mkD "is_lowest" S_is_lowest, mkD "check_number" S_check_number, mkD "check_numbers" S_check_numbers, mkD "check_rows" S_check_rows, mkD "whole" S_whole, mkD "total" S_total, mkD "added" S_added, mkD "sum_of" S_sum_of, mkD "multiplied" S_multiplied, mkD "times" S_times, mkD "_law_two_right" S__law_two_right, mkD "_law_shape" S__law_shape, mkD "check_sizes" S_check_sizes, mkD "check_rows_of" S_check_rows_of, mkD "combined" S_combined, mkD "_law_many_right" S__law_many_right, mkD "law" S_law]
def ffa : List He.Fa := [.free "len", .free "int", .free "abs", .free "sum", .free "all", .free "list", .free "tuple", .free "bool", .free "range", .free "zip", .free "enumerate", .free "isinstance", .glo "_law_pick", .glo "_law_pool", .glo "_law_alike", .glo "_law_low", .glo "lowest", .glo "number", .glo "unit_row", .glo "unit", .glo "noughts", .glo "_law_numbers_right", .glo "_law_number", .glo "_law_line", .glo "_law_mul", .glo "_law_add", .glo "is_lowest", .glo "check_number", .glo "check_numbers", .glo "check_rows", .glo "whole", .glo "total", .glo "added", .glo "sum_of", .glo "multiplied", .glo "times", .glo "_law_two_right", .glo "_law_shape", .glo "check_sizes", .glo "check_rows_of", .glo "combined", .glo "_law_many_right", .glo "law", .glo "NOUGHT", .glo "ONE"]
def fex (K : PySem.W.Frag) : Bool := He.eqO (PySem.W.nsIn K mainGlobals "gcd") (some (some (.builtin "math.gcd"))) && (He.eqO (PySem.W.nsIn K mainGlobals "lcm") (some (some (.builtin "math.lcm"))) && (He.tupB K "NOUGHT" [.int 0, .int 1] && He.tupB K "ONE" [.int 1, .int 1]))
abbrev R : PySem.W.OpenRow := PySem.W.OpenLaw.row PySem.Challenge.rw_toldproducts_k01_numbers_sums_and_multip
abbrev hk : PySem.W.Hook := He.hookX 4 ffa ffn [] [] fex
def ob (s : PySem.W.SharedT) : He.AlX := He.obsX 4 ffa ffn [] [] fex (HandSHeadRun.getT s)
theorem ob_eq (s : PySem.W.SharedT) : ob s = hk.obs s.abs := He.obsX_eq (HandSHeadRun.getT_eq s)
def names0 : List Str := ["__name__", "TableError", "ValueError", "InvalidNumber", "InvalidRow", "UnlikeSizes", "InvalidUnit", "NOUGHT", "ONE", "is_lowest", "lowest", "multiplied", "whole", "total", "unit_row"]
def names1 : List Str := ["added", "check_number", "check_numbers", "check_rows", "check_sizes", "check_rows_of", "number", "unit", "noughts", "sum_of", "times", "combined", "_law_pool", "_law_pick", "_law_low"]
def names2 : List Str := ["_law_add", "_law_mul", "_law_number", "_law_alike", "_law_line", "_law_numbers_right", "_law_two_right", "_law_shape", "_law_many_right"]
def names : List Str := names0 ++ names1 ++ names2
theorem run (w : World) : HandSHeadRun.RunEqI R (PySem.W.view R.prog [0, 44]) hk ob 6000 names w := by
  unfold HandSHeadRun.RunEqI
  kernel_rfl
theorem facts {Pr : Program} {w : World} {K : PySem.W.Frag} {h : Heap} {mg : Str → Option Value} {fa : Addr} (X : K.In h) (G : h.Ns mainGlobals mg) (hfa : mg "law" = some (.ref fa)) (c : He.SaysX ffa ffn [] [] fex w h K) :
    ∃ fd : FuncData, (∀ (s : Shared) (v : Value), BindsTo s fd ⟨[v], []⟩ [("_law_script", v)]) ∧ ∀ base : Heap, K.In base → base.Ns mainGlobals mg → FnOk Pr w K mg base CX0 8 fa fd ["_law_script"] (spLaw K) := by
  have d := c.t.d
  obtain ⟨x1, y1⟩ := He.ba c.more
  obtain ⟨x2, y2⟩ := He.ba y1
  obtain ⟨xn0, z0⟩ := He.ba y2
  have xn1 := z0
  have B : Bl K mg := {
    len := free_of X G d 0 rfl
    int := free_of X G d 1 rfl
    abs := free_of X G d 2 rfl
    sum := free_of X G d 3 rfl
    all := free_of X G d 4 rfl
    list := free_of X G d 5 rfl
    tuple := free_of X G d 6 rfl
    bool := free_of X G d 7 rfl
    range := free_of X G d 8 rfl
    zip := free_of X G d 9 rfl
    enumerate := free_of X G d 10 rfl
    isinstance := free_of X G d 11 rfl
    gcd := PySem.W.mg_of X G (He.eqO_ok x1)
    lcm := PySem.W.mg_of X G (He.eqO_ok x2)
    nought := ⟨_, He.glo_ok X G (d.fact 43 rfl), fun F => ⟨_, _, rfl, He.tupB_ok xn0 F, _, _, rfl, rfl, _, _, rfl, rfl, rfl⟩⟩
    one := ⟨_, He.glo_ok X G (d.fact 44 rfl), fun F => ⟨_, _, rfl, He.tupB_ok xn1 F, _, _, rfl, rfl, _, _, rfl, rfl, rfl⟩⟩ }
  have D__law_pick : DefAt K mg "_law_pick" S__law_pick := defAt_of X G d 0 12 rfl rfl
  have D__law_pool : DefAt K mg "_law_pool" S__law_pool := defAt_of X G d 1 13 rfl rfl
  have D__law_alike : DefAt K mg "_law_alike" S__law_alike := defAt_of X G d 2 14 rfl rfl
  have D__law_low : DefAt K mg "_law_low" S__law_low := defAt_of X G d 3 15 rfl rfl
  have D_lowest : DefAt K mg "lowest" S_lowest := defAt_of X G d 4 16 rfl rfl
  have D_number : DefAt K mg "number" S_number := defAt_of X G d 5 17 rfl rfl
  have D_unit_row : DefAt K mg "unit_row" S_unit_row := defAt_of X G d 6 18 rfl rfl
  have D_unit : DefAt K mg "unit" S_unit := defAt_of X G d 7 19 rfl rfl
  have D_noughts : DefAt K mg "noughts" S_noughts := defAt_of X G d 8 20 rfl rfl
  have D__law_numbers_right : DefAt K mg "_law_numbers_right" S__law_numbers_right := defAt_of X G d 9 21 rfl rfl
  have D__law_number : DefAt K mg "_law_number" S__law_number := defAt_of X G d 10 22 rfl rfl
  have D__law_line : DefAt K mg "_law_line" S__law_line := defAt_of X G d 11 23 rfl rfl
  have D__law_mul : DefAt K mg "_law_mul" S__law_mul := defAt_of X G d 12 24 rfl rfl
  have D__law_add : DefAt K mg "_law_add" S__law_add := defAt_of X G d 13 25 rfl rfl
  have D_is_lowest : DefAt K mg "is_lowest" S_is_lowest := defAt_of X G d 14 26 rfl rfl
  have D_check_number : DefAt K mg "check_number" S_check_number := defAt_of X G d 15 27 rfl rfl
  have D_check_numbers : DefAt K mg "check_numbers" S_check_numbers := defAt_of X G d 16 28 rfl rfl
  have D_check_rows : DefAt K mg "check_rows" S_check_rows := defAt_of X G d 17 29 rfl rfl
  have D_whole : DefAt K mg "whole" S_whole := defAt_of X G d 18 30 rfl rfl
  have D_total : DefAt K mg "total" S_total := defAt_of X G d 19 31 rfl rfl
  have D_added : DefAt K mg "added" S_added := defAt_of X G d 20 32 rfl rfl
  have D_sum_of : DefAt K mg "sum_of" S_sum_of := defAt_of X G d 21 33 rfl rfl
  have D_multiplied : DefAt K mg "multiplied" S_multiplied := defAt_of X G d 22 34 rfl rfl
  have D_times : DefAt K mg "times" S_times := defAt_of X G d 23 35 rfl rfl
  have D__law_two_right : DefAt K mg "_law_two_right" S__law_two_right := defAt_of X G d 24 36 rfl rfl
  have D__law_shape : DefAt K mg "_law_shape" S__law_shape := defAt_of X G d 25 37 rfl rfl
  have D_check_sizes : DefAt K mg "check_sizes" S_check_sizes := defAt_of X G d 26 38 rfl rfl
  have D_check_rows_of : DefAt K mg "check_rows_of" S_check_rows_of := defAt_of X G d 27 39 rfl rfl
  have D_combined : DefAt K mg "combined" S_combined := defAt_of X G d 28 40 rfl rfl
  have D__law_many_right : DefAt K mg "_law_many_right" S__law_many_right := defAt_of X G d 29 41 rfl rfl
  have D_law : DefAt K mg "law" S_law := defAt_of X G d 30 42 rfl rfl
  obtain ⟨f, fd, F, hm⟩ := D_law.ex
  have e := hfa.symm.trans hm
  cases e
  obtain ⟨oc, od, kV, doc, pm, an, cdv, ct, osl, efd, lk, hcd⟩ := F.ex
  refine ⟨fd, fun s v => by rw [efd]; exact .of_eq rfl, fun base _ _ => ?_⟩
  have Z__law_pick := has__law_pick (Pr := Pr) (w := w) (base := base) (B := B) (D := D__law_pick)
  have Z__law_pool := has__law_pool (Pr := Pr) (w := w) (base := base) (B := B) (D := D__law_pool)
  have Z__law_alike := has__law_alike (Pr := Pr) (w := w) (base := base) (B := B) (D := D__law_alike)
  have Z__law_low := has__law_low (Pr := Pr) (w := w) (base := base) (B := B) (D := D__law_low)
  have Z_lowest := has_lowest (Pr := Pr) (w := w) (base := base) (B := B) (D := D_lowest)
  have Z_number := has_number (Pr := Pr) (w := w) (base := base) (B := B) (D := D_number) (Clowest := Z_lowest)
  have Z_unit_row := has_unit_row (Pr := Pr) (w := w) (base := base) (B := B) (D := D_unit_row)
  have Z_unit := has_unit (Pr := Pr) (w := w) (base := base) (B := B) (D := D_unit) (Cunit_row := Z_unit_row)
  have Z_noughts := has_noughts (Pr := Pr) (w := w) (base := base) (B := B) (D := D_noughts)
  have Z__law_numbers_right := has__law_numbers_right (Pr := Pr) (w := w) (base := base) (B := B) (D := D__law_numbers_right) (Dnumber := D_number) (Dunit := D_unit) (Dnoughts := D_noughts) (C_law_pick := Z__law_pick) (C_law_low := Z__law_low) (Cnumber := Z_number) (Cunit := Z_unit) (Cnoughts := Z_noughts) (C_law_alike := Z__law_alike)
  have Z__law_number := has__law_number (Pr := Pr) (w := w) (base := base) (B := B) (D := D__law_number) (C_law_pick := Z__law_pick) (C_law_low := Z__law_low)
  have Z__law_line := has__law_line (Pr := Pr) (w := w) (base := base) (B := B) (D := D__law_line) (C_law_pick := Z__law_pick) (C_law_number := Z__law_number)
  have Z__law_mul := has__law_mul (Pr := Pr) (w := w) (base := base) (B := B) (D := D__law_mul) (C_law_low := Z__law_low)
  have Z__law_add := has__law_add (Pr := Pr) (w := w) (base := base) (B := B) (D := D__law_add) (C_law_low := Z__law_low)
  have Z_is_lowest := has_is_lowest (Pr := Pr) (w := w) (base := base) (B := B) (D := D_is_lowest)
  have Z_check_number := has_check_number (Pr := Pr) (w := w) (base := base) (B := B) (D := D_check_number) (Cis_lowest := Z_is_lowest)
  have Z_check_numbers := has_check_numbers (Pr := Pr) (w := w) (base := base) (B := B) (D := D_check_numbers) (Ccheck_number := Z_check_number)
  have Z_check_rows := has_check_rows (Pr := Pr) (w := w) (base := base) (B := B) (D := D_check_rows) (Ccheck_numbers := Z_check_numbers)
  have Z_whole := has_whole (Pr := Pr) (w := w) (base := base) (B := B) (D := D_whole)
  have Z_total := has_total (Pr := Pr) (w := w) (base := base) (B := B) (D := D_total) (Clowest := Z_lowest) (Cwhole := Z_whole)
  have Z_added := has_added (Pr := Pr) (w := w) (base := base) (B := B) (D := D_added) (Ctotal := Z_total)
  have Z_sum_of := has_sum_of (Pr := Pr) (w := w) (base := base) (B := B) (D := D_sum_of) (Ccheck_rows := Z_check_rows) (Cadded := Z_added)
  have Z_multiplied := has_multiplied (Pr := Pr) (w := w) (base := base) (B := B) (D := D_multiplied) (Clowest := Z_lowest)
  have Z_times := has_times (Pr := Pr) (w := w) (base := base) (B := B) (D := D_times) (Ccheck_number := Z_check_number) (Ccheck_numbers := Z_check_numbers) (Cmultiplied := Z_multiplied)
  have Z__law_two_right := has__law_two_right (Pr := Pr) (w := w) (base := base) (B := B) (D := D__law_two_right) (Dsum_of := D_sum_of) (Dtimes := D_times) (C_law_pick := Z__law_pick) (C_law_number := Z__law_number) (C_law_line := Z__law_line) (C_law_add := Z__law_add) (C_law_mul := Z__law_mul) (Csum_of := Z_sum_of) (Ctimes := Z_times) (C_law_alike := Z__law_alike)
  have Z__law_shape := has__law_shape (Pr := Pr) (w := w) (base := base) (B := B) (D := D__law_shape) (C_law_pick := Z__law_pick)
  have Z_check_sizes := has_check_sizes (Pr := Pr) (w := w) (base := base) (B := B) (D := D_check_sizes)
  have Z_check_rows_of := has_check_rows_of (Pr := Pr) (w := w) (base := base) (B := B) (D := D_check_rows_of) (Ccheck_rows := Z_check_rows) (Ccheck_sizes := Z_check_sizes)
  have Z_combined := has_combined (Pr := Pr) (w := w) (base := base) (B := B) (D := D_combined) (Ccheck_numbers := Z_check_numbers) (Ccheck_rows_of := Z_check_rows_of) (Cadded := Z_added)
  have Z__law_many_right := has__law_many_right (Pr := Pr) (w := w) (base := base) (B := B) (D := D__law_many_right) (Dcombined := D_combined) (C_law_pick := Z__law_pick) (C_law_number := Z__law_number) (C_law_line := Z__law_line) (C_law_shape := Z__law_shape) (C_law_add := Z__law_add) (C_law_mul := Z__law_mul) (Ccombined := Z_combined) (C_law_alike := Z__law_alike)
  have Z_law := has_law (Pr := Pr) (w := w) (base := base) (B := B) (D := D_law) (C_law_pool := Z__law_pool) (C_law_numbers_right := Z__law_numbers_right) (C_law_two_right := Z__law_two_right) (C_law_many_right := Z__law_many_right)
  exact has_fix Z_law F hm
end K01
open PySem PySem.W PySem.Calls PyProof.Rows
set_option maxHeartbeats 0 in
theorem PySem.Challenge.cw_toldproducts_k01_numbers_sums_and_multip_holds : PySem.Challenge.rw_toldproducts_k01_numbers_sums_and_multip.Holds := by
  w_on; o_law
  refine HandSHeadRun.head_imp (r := OpenLaw.row PySem.Challenge.rw_toldproducts_k01_numbers_sums_and_multip) (q := view (OpenLaw.row PySem.Challenge.rw_toldproducts_k01_numbers_sums_and_multip).prog [0, 44]) (H := K01.hk) (ob := K01.ob) (M := 6000) (loose := K01.names) (d := HandSHeadRun.topDef (OpenLaw.row PySem.Challenge.rw_toldproducts_k01_numbers_sums_and_multip).prog 44) (kwd := []) K01.ob_eq
    K01.run (by kernel_rfl) (by kernel_rfl) (by kernel_rfl) (by rfl) (by first | assumption | decide +kernel) (by decide +kernel) ⟨rfl, rfl, rfl, rfl, rfl, by decide +kernel⟩ ?hw ?hc
  case hw => w_witness2
  case hc =>
    refine L2.walk_ofE (l := PySem.Challenge.rw_toldproducts_k01_numbers_sums_and_multip) (n := 63) (k := 8) (x := "_law_script") (CX := L2.CX0) rfl (by decide) (by kernel_rfl) ⟨rfl, by decide, by decide⟩ ?F (fun _ _ _ _ z => z)
    intro w mg fa h Y G hmg0
    obtain ⟨K, KX, c⟩ := Y
    have hmg : mg ("law" : PySem.Str) = some (.ref fa) := by
      have e : (HandSHeadRun.topDef (OpenLaw.row PySem.Challenge.rw_toldproducts_k01_numbers_sums_and_multip).prog 44).name = ("law" : PySem.Str) := by kernel_rfl
      rw [← e]
      exact hmg0
    obtain ⟨fd, hb, hF⟩ := K01.facts (Pr := (PySem.Challenge.rw_toldproducts_k01_numbers_sums_and_multip).prog) (w := w) KX G hmg c
    exact ⟨K, fd, L2.PL.spLaw K, KX, hb, fun H a ns hl _ hS => ⟨a, ns, rfl, hS, hl, fun _ => rfl⟩, hF⟩
