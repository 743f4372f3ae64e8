import PyProof.Rows.All
import Wide.All
import OpenK.AllK
import Wide.FinOn
import HandS.Conv
import HandS.Defaults
import HandS.Flow
import HandS.ForExc
import HandS.ForMost
import HandS.Gcd
import HandS.Head0
import HandS.Head1
import HandS.Head2
import HandS.Head3
import HandS.HeadEnd
import HandS.HeadHook1
import HandS.HeadHook2
import HandS.HeadHook3
import HandS.HeadHook4
import HandS.IsInst
import HandS.OwnEq
import HandS.Property
import HandS.Star
import HandS.Style
import HandS.TryOnly
import HandS.Wide
import HandS.WideBits
import HandS.Zip
import KE.DataCmp
import KE.KCallOwn
import PyProof.AutoSeq1
import PyProof.InstNe
import PyProof.ListOps
import Lean
import PySem.Challenge.RW_toldproducts_k11_whole_beside_and_crosse
set_option Elab.async false
set_option linter.all false
set_option maxRecDepth 100000
set_option maxHeartbeats 4000000
namespace L2.PL
theorem divInt_pos (a : Int) (d : Nat) (h : d ≠ 0) : (Rat.divInt a (d : Int)).num = a / ((Nat.gcd a.natAbs d : Nat) : Int) ∧ (Rat.divInt a (d : Int)).den = d / Nat.gcd a.natAbs d := by
  have e : Rat.divInt a (d : Int) = Rat.normalize a d h := by
    show mkRat a d = _
    exact (Rat.normalize_eq_mkRat h).symm
  rw [e, Rat.normalize_eq]
  exact ⟨rfl, rfl⟩
theorem divInt_negS (a : Int) (d : Nat) : Rat.divInt a (Int.negSucc d) = Rat.divInt (-a) ((d + 1 : Nat) : Int) := by
  show Rat.normalize (-a) (d + 1) (by omega) = mkRat (-a) (d + 1)
  exact Rat.normalize_eq_mkRat _
/-- what a number is brought to -/
def shr (a b : Int) : Int := if b < 0 then -((Nat.gcd a.natAbs b.natAbs : Nat) : Int) else ((Nat.gcd a.natAbs b.natAbs : Nat) : Int)
theorem gcd_posR {a b : Int} (h : b ≠ 0) : 0 < Nat.gcd a.natAbs b.natAbs := Nat.gcd_pos_of_pos_right _ (by omega)
theorem shr_ne {a b : Int} (h : b ≠ 0) : shr a b ≠ 0 := by
  have := gcd_posR (a := a) h
  unfold shr
  split <;> omega
theorem fdiv_neg' {a b : Int} : a.fdiv (-b) = (-a).fdiv b := by
  rw [← Int.neg_fdiv_neg (a := a) (b := -b), Int.neg_neg]
theorem fdiv_dvd {a b : Int} (h : b ∣ a) : a.fdiv b = a / b := Int.fdiv_eq_ediv_of_dvd h
theorem low_eq {a b : Int} (h : b ≠ 0) : a.fdiv (shr a b) = (Rat.divInt a b).num ∧ b.fdiv (shr a b) = ((Rat.divInt a b).den : Int) := by
  have d1 : ((Nat.gcd a.natAbs b.natAbs : Nat) : Int) ∣ a := Int.natAbs_dvd_natAbs.mp (Nat.gcd_dvd_left _ _)
  have d2 : ((Nat.gcd a.natAbs b.natAbs : Nat) : Int) ∣ b := Int.natAbs_dvd_natAbs.mp (Nat.gcd_dvd_right _ _)
  cases b with
  | ofNat d =>
    have hd : d ≠ 0 := fun e => h (by rw [e]; rfl)
    obtain ⟨e1, e2⟩ := divInt_pos a d hd
    have es : shr a (Int.ofNat d) = ((Nat.gcd a.natAbs d : Nat) : Int) := by unfold shr; rw [if_neg (by simp)]; rfl
    have d1 : ((Nat.gcd a.natAbs d : Nat) : Int) ∣ a := d1
    have d2 : ((Nat.gcd a.natAbs d : Nat) : Int) ∣ Int.ofNat d := d2
    rw [es]
    refine ⟨by rw [fdiv_dvd d1]; exact e1.symm, ?_⟩
    rw [fdiv_dvd d2]
    show _ = ((Rat.divInt a (d : Int)).den : Int)
    rw [e2]; rfl
  | negSucc d =>
    rw [divInt_negS]
    obtain ⟨e1, e2⟩ := divInt_pos (-a) (d + 1) (by omega)
    rw [Int.natAbs_neg] at e1 e2
    have es : shr a (Int.negSucc d) = -((Nat.gcd a.natAbs (d + 1) : Nat) : Int) := by unfold shr; rw [if_pos (Int.negSucc_lt_zero d)]; rfl
    have d1' : ((Nat.gcd a.natAbs (d + 1) : Nat) : Int) ∣ -a := Int.dvd_neg.mpr d1
    have d2' : ((Nat.gcd a.natAbs (d + 1) : Nat) : Int) ∣ -(Int.negSucc d) := Int.dvd_neg.mpr d2
    rw [es, fdiv_neg', fdiv_neg', fdiv_dvd d1', fdiv_dvd d2']
    refine ⟨e1.symm, ?_⟩
    rw [e2]; rfl
/-- the other way to write it -/
theorem low_eq2 {a b : Int} (h : b ≠ 0) : (if 0 < b then a.fdiv ((Nat.gcd a.natAbs b.natAbs : Nat) : Int) else (-a).fdiv ((Nat.gcd a.natAbs b.natAbs : Nat) : Int)) = (Rat.divInt a b).num ∧
    (if 0 < b then b.fdiv ((Nat.gcd a.natAbs b.natAbs : Nat) : Int) else (-b).fdiv ((Nat.gcd a.natAbs b.natAbs : Nat) : Int)) = ((Rat.divInt a b).den : Int) := by
  obtain ⟨e1, e2⟩ := low_eq (a := a) h
  by_cases hb : 0 < b
  · rw [if_pos hb, if_pos hb]
    have es : shr a b = ((Nat.gcd a.natAbs b.natAbs : Nat) : Int) := by unfold shr; rw [if_neg (by omega)]
    rw [es] at e1 e2
    exact ⟨e1, e2⟩
  · rw [if_neg hb, if_neg hb]
    have es : shr a b = -((Nat.gcd a.natAbs b.natAbs : Nat) : Int) := by unfold shr; rw [if_pos (by omega)]
    rw [es, fdiv_neg'] at e1 e2
    exact ⟨e1, e2⟩
theorem shr_natAbs {a b : Int} : (shr a b).natAbs = Nat.gcd a.natAbs b.natAbs := by unfold shr; split <;> simp
theorem rat_lowest (r : Rat) : Nat.gcd r.num.natAbs r.den = 1 := r.reduced
theorem rat_den_pos (r : Rat) : 1 ≤ r.den := Nat.pos_of_ne_zero r.den_nz
/-- sizes -/
def RB (n : Nat) (r : Rat) : Prop := r.num.natAbs < 2 ^ n ∧ r.den < 2 ^ n
theorem RB.mono {m n : Nat} {r : Rat} (h : RB m r) (l : m ≤ n) : RB n r := ⟨Nat.lt_of_lt_of_le h.1 (Nat.pow_le_pow_right (by decide) l), Nat.lt_of_lt_of_le h.2 (Nat.pow_le_pow_right (by decide) l)⟩
theorem natAbs_fdiv_le {a b : Int} (h : b ∣ a) : (a.fdiv b).natAbs ≤ a.natAbs := by
  rw [fdiv_dvd h, Int.natAbs_ediv_of_dvd h]
  exact Nat.div_le_self _ _
theorem divInt_le {a b : Int} (h : b ≠ 0) : (Rat.divInt a b).num.natAbs ≤ a.natAbs ∧ (Rat.divInt a b).den ≤ b.natAbs := by
  obtain ⟨e1, e2⟩ := low_eq (a := a) h
  have d1 : shr a b ∣ a := Int.natAbs_dvd_natAbs.mp (by rw [shr_natAbs]; exact Nat.gcd_dvd_left _ _)
  have d2 : shr a b ∣ b := Int.natAbs_dvd_natAbs.mp (by rw [shr_natAbs]; exact Nat.gcd_dvd_right _ _)
  refine ⟨by rw [← e1]; exact natAbs_fdiv_le d1, ?_⟩
  have := natAbs_fdiv_le d2
  rw [e2] at this
  simpa using this
theorem divInt_RB {a b : Int} {n : Nat} (h : b ≠ 0) (ha : a.natAbs < 2 ^ n) (hb : b.natAbs < 2 ^ n) : RB n (Rat.divInt a b) :=
  ⟨Nat.lt_of_le_of_lt (divInt_le h).1 ha, Nat.lt_of_le_of_lt (divInt_le h).2 hb⟩
theorem rat_add (x y : Rat) : Rat.divInt (x.num * y.den + y.num * x.den) (x.den * y.den) = x + y := by
  have hx : (x.den : Int) ≠ 0 := by have := rat_den_pos x; omega
  have hy : (y.den : Int) ≠ 0 := by have := rat_den_pos y; omega
  rw [← Rat.divInt_add_divInt _ _ hx hy, Rat.num_divInt_den, Rat.num_divInt_den]
theorem rat_mul (x y : Rat) : Rat.divInt (x.num * y.num) (x.den * y.den) = x * y := by
  rw [← Rat.divInt_mul_divInt, Rat.num_divInt_den, Rat.num_divInt_den]
theorem pow_mul_lt {a b m n : Nat} (ha : a < 2 ^ m) (hb : b < 2 ^ n) : a * b < 2 ^ (m + n) := by rw [Nat.pow_add]; exact Nat.mul_lt_mul'' ha hb
theorem RB.mul {m n : Nat} {x y : Rat} (hx : RB m x) (hy : RB n y) : RB (m + n) (x * y) := by
  have hx0 := rat_den_pos x
  have hy0 := rat_den_pos y
  have h : ((x.den : Int) * y.den) ≠ 0 := by
    intro e
    rcases Int.mul_eq_zero.mp e with e | e <;> omega
  rw [← rat_mul]
  refine divInt_RB h ?_ ?_
  · rw [Int.natAbs_mul]; exact pow_mul_lt hx.1 hy.1
  · rw [Int.natAbs_mul]; exact pow_mul_lt (by simpa using hx.2) (by simpa using hy.2)
theorem RB.add {m n : Nat} {x y : Rat} (hx : RB m x) (hy : RB n y) : RB (m + n + 1) (x + y) := by
  have hx0 := rat_den_pos x
  have hy0 := rat_den_pos y
  have h : ((x.den : Int) * y.den) ≠ 0 := by
    intro e
    rcases Int.mul_eq_zero.mp e with e | e <;> omega
  rw [← rat_add]
  have h1 : x.num.natAbs * y.den < 2 ^ (m + n) := pow_mul_lt hx.1 hy.2
  have h2 : y.num.natAbs * x.den < 2 ^ (m + n) := by rw [Nat.add_comm m n]; exact pow_mul_lt hy.1 hx.2
  have h3 : x.den * y.den < 2 ^ (m + n) := pow_mul_lt hx.2 hy.2
  refine divInt_RB h ?_ ?_
  · have e1 : (x.num * (y.den : Int)).natAbs = x.num.natAbs * y.den := by rw [Int.natAbs_mul]; simp
    have e2 : (y.num * (x.den : Int)).natAbs = y.num.natAbs * x.den := by rw [Int.natAbs_mul]; simp
    have := Int.natAbs_add_le (x.num * (y.den : Int)) (y.num * (x.den : Int))
    rw [Nat.pow_succ]; omega
  · have e3 : ((x.den : Int) * y.den).natAbs = x.den * y.den := by rw [Int.natAbs_mul]; simp
    rw [e3, Nat.pow_succ]; omega
theorem RB.neg {n : Nat} {x : Rat} (h : RB n x) : RB n (-x) := by
  refine ⟨?_, ?_⟩
  · rw [Rat.neg_num, Int.natAbs_neg]; exact h.1
  · rw [Rat.neg_den]; exact h.2
theorem RB.zero : RB 1 0 := ⟨by decide, by decide⟩
theorem RB.one : RB 1 1 := ⟨by decide, by decide⟩
end L2.PL
namespace L2.PL
/-! common belows -/
def lcmL (l : List (Int × Int)) : Nat := l.foldl (fun a q => Nat.lcm a q.2.natAbs) 1
theorem lcmL_app (l : List (Int × Int)) (q : Int × Int) : lcmL (l ++ [q]) = Nat.lcm (lcmL l) q.2.natAbs := by unfold lcmL; rw [List.foldl_append]; rfl
theorem foldl_lcm_dvd (l : List (Int × Int)) : ∀ a : Nat, a ∣ l.foldl (fun a q => Nat.lcm a q.2.natAbs) a ∧ ∀ q ∈ l, q.2.natAbs ∣ l.foldl (fun a q => Nat.lcm a q.2.natAbs) a := by
  induction l with
  | nil => intro a; exact ⟨Nat.dvd_refl _, by simp⟩
  | cons q r ih =>
    intro a
    obtain ⟨h1, h2⟩ := ih (Nat.lcm a q.2.natAbs)
    refine ⟨Nat.dvd_trans (Nat.dvd_lcm_left _ _) h1, fun p hp => ?_⟩
    rcases List.mem_cons.mp hp with rfl | hp
    · exact Nat.dvd_trans (Nat.dvd_lcm_right _ _) h1
    · exact h2 p hp
theorem lcmL_dvd {l : List (Int × Int)} {q : Int × Int} (h : q ∈ l) : q.2.natAbs ∣ lcmL l := (foldl_lcm_dvd l 1).2 q h
theorem foldl_lcm_pos (l : List (Int × Int)) (h : ∀ q ∈ l, 1 ≤ q.2) : ∀ a : Nat, 0 < a → 0 < l.foldl (fun a q => Nat.lcm a q.2.natAbs) a := by
  induction l with
  | nil => intro a h0; exact h0
  | cons q r ih =>
    intro a h0
    have h1 := h q List.mem_cons_self
    exact ih (fun p hp => h p (List.mem_cons_of_mem _ hp)) _ (Nat.lcm_pos h0 (by omega))
theorem lcmL_pos {l : List (Int × Int)} (h : ∀ q ∈ l, 1 ≤ q.2) : 0 < lcmL l := foldl_lcm_pos l h 1 (by decide)
theorem foldl_lcm_min (l : List (Int × Int)) (m : Nat) (h : ∀ q ∈ l, q.2.natAbs ∣ m) : ∀ a : Nat, a ∣ m → l.foldl (fun a q => Nat.lcm a q.2.natAbs) a ∣ m := by
  induction l with
  | nil => intro a h0; exact h0
  | cons q r ih => intro a h0; exact ih (fun p hp => h p (List.mem_cons_of_mem _ hp)) _ (Nat.lcm_dvd h0 (h q List.mem_cons_self))
theorem lcmL_sub {l m : List (Int × Int)} (h : ∀ q ∈ l, q ∈ m) : lcmL l ∣ lcmL m := foldl_lcm_min l _ (fun q hq => lcmL_dvd (h q hq)) 1 (Nat.one_dvd _)
theorem lcmL_le {l m : List (Int × Int)} (h : ∀ q ∈ l, q ∈ m) (hm : ∀ q ∈ m, 1 ≤ q.2) : lcmL l ≤ lcmL m := Nat.le_of_dvd (lcmL_pos hm) (lcmL_sub h)
theorem lcm_le_mul' (a b : Nat) : Nat.lcm a b ≤ a * b := Nat.div_le_self _ _
theorem foldl_lcm_le (b : Nat) (l : List (Int × Int)) (h : ∀ q ∈ l, q.2.natAbs ≤ 2 ^ b) : ∀ a : Nat, l.foldl (fun a q => Nat.lcm a q.2.natAbs) a ≤ a * 2 ^ (b * l.length) := by
  induction l with
  | nil => intro a; simp
  | cons q r ih =>
    intro a
    have h1 := ih (fun p hp => h p (List.mem_cons_of_mem _ hp)) (Nat.lcm a q.2.natAbs)
    have h2 : Nat.lcm a q.2.natAbs ≤ a * 2 ^ b := Nat.le_trans (lcm_le_mul' _ _) (Nat.mul_le_mul_left _ (h q List.mem_cons_self))
    have h3 := Nat.mul_le_mul_right (2 ^ (b * r.length)) h2
    rw [Nat.mul_assoc, ← Nat.pow_add] at h3
    rw [List.length_cons, Nat.mul_succ, Nat.add_comm (b * r.length) b]
    exact Nat.le_trans h1 h3
theorem lcmL_bits {l : List (Int × Int)} {b n : Nat} (h : ∀ q ∈ l, q.2.natAbs ≤ 2 ^ b) (hn : b * l.length < n) : lcmL l < 2 ^ n := by
  have := foldl_lcm_le b l h 1
  rw [Nat.one_mul] at this
  exact Nat.lt_of_le_of_lt this (Nat.pow_lt_pow_right (by decide) hn)
/-- all over the common below -/
def wholes (l : List (Int × Int)) : List Int := l.map fun q => q.1 * ((lcmL l : Int).fdiv q.2)
def sumQ (l : List (Int × Int)) : Rat := (l.map fun q => Rat.divInt q.1 q.2).sum
theorem divInt_scale {a b : Int} {L : Nat} (hb : 1 ≤ b) (hL : 0 < L) (h : b.natAbs ∣ L) : Rat.divInt (a * ((L : Int).fdiv b)) L = Rat.divInt a b := by
  obtain ⟨c, rfl⟩ := h
  have e : ((b.natAbs * c : Nat) : Int) = b * c := by rw [Int.natCast_mul]; congr 1; omega
  rw [e]
  have e2 : (b * (c : Int)).fdiv b = c := by
    rw [fdiv_dvd (Int.dvd_mul_right b c)]
    exact Int.mul_ediv_cancel_left _ (by omega)
  rw [e2]
  have hc : (c : Int) ≠ 0 := by
    intro z
    have : c = 0 := by omega
    subst this
    simp at hL
  exact Rat.divInt_mul_right hc
theorem divInt_add_same {x y L : Int} (h : L ≠ 0) : Rat.divInt (x + y) L = Rat.divInt x L + Rat.divInt y L := by
  rw [Rat.divInt_add_divInt _ _ h h, ← Int.add_mul, Rat.divInt_mul_right h]
theorem divInt_zero' {L : Int} : Rat.divInt 0 L = 0 := Rat.zero_divInt L
theorem sum_over (L : Nat) (hL : 0 < L) : ∀ (l : List (Int × Int)), (∀ q ∈ l, 1 ≤ q.2 ∧ q.2.natAbs ∣ L) → Rat.divInt ((l.map fun q => q.1 * ((L : Int).fdiv q.2)).sum) L = sumQ l
  | [], _ => by
    show Rat.divInt 0 L = 0
    exact divInt_zero'
  | q :: r, h => by
    have ih := sum_over L hL r fun p hp => h p (List.mem_cons_of_mem _ hp)
    obtain ⟨h1, h2⟩ := h q List.mem_cons_self
    rw [List.map_cons, List.sum_cons, divInt_add_same (by omega), ih, divInt_scale h1 hL h2]
    rfl
theorem sumQ_filter : ∀ l : List (Int × Int), sumQ (l.filter fun q => !decide (q.1 = 0)) = sumQ l
  | [] => rfl
  | q :: r => by
    have ih := sumQ_filter r
    by_cases h : q.1 = 0
    · rw [List.filter_cons_of_neg (by simp [h]), ih]
      unfold sumQ
      rw [List.map_cons, List.sum_cons, h, divInt_zero', Rat.zero_add]
    · rw [List.filter_cons_of_pos (by simp [h])]
      unfold sumQ at ih ⊢
      rw [List.map_cons, List.map_cons, List.sum_cons, List.sum_cons, ih]
theorem total_eq {l : List (Int × Int)} (h : ∀ q ∈ l, 1 ≤ q.2) : Rat.divInt (wholes (l.filter fun q => !decide (q.1 = 0))).sum (lcmL (l.filter fun q => !decide (q.1 = 0))) = sumQ l := by
  have h' : ∀ q ∈ l.filter (fun q => !decide (q.1 = 0)), 1 ≤ q.2 := fun q hq => h q (List.mem_filter.mp hq).1
  rw [← sumQ_filter l]
  exact sum_over _ (lcmL_pos h') _ fun q hq => ⟨h' q hq, lcmL_dvd hq⟩
/-- a sum of rows, each so many times, place by place -/
def col (numbers : List Rat) (rows : List (List Rat)) (j : Nat) : Rat := ((numbers.zip rows).map fun p => p.1 * (p.2.getD j 0)).sum
def addR (numbers : List Rat) (rows : List (List Rat)) (size : Nat) : List Rat := (List.range size).map fun j => col numbers rows j
def colQ (numbers : List Rat) (rows : List (List Rat)) (j : Nat) : List (Int × Int) := (numbers.zip rows).map fun p => (p.1.num * (p.2.getD j 0).num, (p.1.den : Int) * ((p.2.getD j 0).den : Int))
theorem colQ_sum (numbers : List Rat) (rows : List (List Rat)) (j : Nat) : sumQ (colQ numbers rows j) = col numbers rows j := by
  unfold sumQ colQ col
  rw [List.map_map]
  congr 1
  apply List.map_congr_left
  intro p _
  exact rat_mul _ _
theorem colQ_pos (numbers : List Rat) (rows : List (List Rat)) (j : Nat) : ∀ q ∈ colQ numbers rows j, 1 ≤ q.2 := fun q hq => by
  obtain ⟨p, _, rfl⟩ := List.mem_map.mp hq
  have a := rat_den_pos p.1
  have b := rat_den_pos (p.2.getD j 0)
  have : 0 < p.1.den * (p.2.getD j 0).den := Nat.mul_pos a b
  show 1 ≤ (p.1.den : Int) * ((p.2.getD j 0).den : Int)
  rw [← Int.natCast_mul]
  omega
theorem getD_RB {b : Nat} {r : List Rat} {j : Nat} (h : ∀ x ∈ r, RB b x) (hb : 1 ≤ b) : RB b (r.getD j 0) := by
  rw [List.getD_eq_getElem?_getD]
  cases e : r[j]? with
  | none => exact RB.zero.mono hb
  | some x => exact h x (List.mem_of_getElem? e)
/-- sizes of a column -/
theorem colQ_ok {numbers : List Rat} {rows : List (List Rat)} {j b : Nat} (hb : 1 ≤ b) (hn : ∀ x ∈ numbers, RB b x) (hr : ∀ r ∈ rows, ∀ x ∈ r, RB b x) (hl : 2 * b * numbers.length < 9000) (h9 : b ≤ 9000) :
    (∀ q ∈ colQ numbers rows j, 1 ≤ q.2 ∧ q.1.natAbs < 2 ^ 1000000) ∧ lcmL (colQ numbers rows j) < 2 ^ 9000 := by
  have h1 : ∀ q ∈ colQ numbers rows j, q.1.natAbs < 2 ^ (b + b) ∧ q.2.natAbs < 2 ^ (b + b) := fun q hq => by
    obtain ⟨p, hp, rfl⟩ := List.mem_map.mp hq
    have m := List.of_mem_zip (a := p.1) (b := p.2) (by simpa using hp)
    have a := hn _ m.1
    have c := getD_RB (j := j) (hr _ m.2) hb
    refine ⟨?_, ?_⟩
    · show (p.1.num * (p.2.getD j 0).num).natAbs < _
      rw [Int.natAbs_mul]; exact pow_mul_lt a.1 c.1
    · show ((p.1.den : Int) * ((p.2.getD j 0).den : Int)).natAbs < _
      rw [Int.natAbs_mul]; exact pow_mul_lt (by simpa using a.2) (by simpa using c.2)
  refine ⟨fun q hq => ⟨colQ_pos _ _ _ q hq, Nat.lt_of_lt_of_le (h1 q hq).1 (Nat.pow_le_pow_right (by decide) (by omega))⟩, ?_⟩
  refine lcmL_bits (b := b + b) (fun q hq => Nat.le_of_lt (h1 q hq).2) ?_
  have e : (colQ numbers rows j).length ≤ numbers.length := by
    unfold colQ
    rw [List.length_map, List.length_zip]
    exact Nat.min_le_left _ _
  have := Nat.mul_le_mul_left (b + b) e
  have e2 : (b + b) * numbers.length = 2 * b * numbers.length := by rw [Nat.two_mul]
  omega
end L2.PL
namespace L2.PL
def unitR (n : Nat) (p : Int) : List Rat := (List.range n).map fun i => if ((i : Nat) : Int) = p then 1 else 0
theorem getD_get {l : List Rat} {k : Nat} (h : k < l.length) : l[k]? = some (l.getD k 0) := by
  rw [List.getD_eq_getElem?_getD, List.getElem?_eq_getElem h]; rfl
theorem rat_lowB (r : Rat) : (decide (1 ≤ (r.den : Int)) && decide (((Nat.gcd r.num.natAbs (r.den : Int).natAbs : Nat) : Int) = 1)) = true := by
  have h1 := rat_den_pos r
  have h2 := rat_lowest r
  rw [Int.natAbs_natCast, h2]
  simp
  omega
theorem num_one : (1 : Rat).num = 1 := rfl
theorem den_one : (1 : Rat).den = 1 := rfl
theorem num_zero : (0 : Rat).num = 0 := rfl
theorem den_zero : (0 : Rat).den = 1 := rfl
end L2.PL
namespace L2.PL
theorem flat_rep {α : Type} (a : α) : ∀ n : Nat, (List.replicate n [a]).flatten = List.replicate n a
  | 0 => rfl
  | n + 1 => by rw [List.replicate_succ, List.replicate_succ, List.flatten_cons, flat_rep a n]; rfl
def addRow (x y : List Rat) : List Rat := List.zipWith (· + ·) x y
theorem addR_two {x y : List Rat} {n : Nat} (hx : x.length = n) (hy : y.length = n) : addR [1, 1] [x, y] n = addRow x y := by
  unfold addR addRow
  apply List.ext_getElem?
  intro i
  rw [List.getElem?_map, List.getElem?_zipWith]
  by_cases h : i < n
  · rw [List.getElem?_range h, getD_get (l := x) (by omega), getD_get (l := y) (by omega)]
    show some (col [1, 1] [x, y] i) = some _
    unfold col
    simp only [List.zip_cons_cons, List.zip_nil_left, List.map_cons, List.map_nil, List.sum_cons, List.sum_nil]
    congr 1
    rw [Rat.one_mul, Rat.one_mul, Rat.add_zero]
  · rw [List.getElem?_eq_none (by rw [List.length_range]; omega), List.getElem?_eq_none (by omega)]
    rfl
end L2.PL
namespace L2.PL
theorem addR_RB {b n : Nat} (hb : 1 ≤ b) {nu : List Rat} {ro : List (List Rat)} (h1 : ∀ x ∈ nu, RB b x) (h2 : ∀ r ∈ ro, ∀ x ∈ r, RB b x) : ∀ a ∈ addR nu ro n, RB (1 + (b + b + 1) * nu.length) a := by
  intro a ha
  unfold addR at ha
  obtain ⟨j, _, rfl⟩ := List.mem_map.mp ha
  unfold col
  have key : ∀ l : List Rat, (∀ x ∈ l, RB (b + b) x) → RB (1 + (b + b + 1) * l.length) l.sum := by
    intro l
    induction l with
    | nil => exact fun _ => RB.zero
    | cons x l ih =>
      intro h
      rw [List.sum_cons, List.length_cons]
      refine ((h x List.mem_cons_self).add (ih fun y hy => h y (List.mem_cons_of_mem _ hy))).mono ?_
      rw [Nat.mul_add]; omega
  refine (key _ fun x hx => ?_).mono ?_
  · obtain ⟨p, hp, rfl⟩ := List.mem_map.mp hx
    have m := List.of_mem_zip (a := p.1) (b := p.2) (by simpa using hp)
    exact (h1 _ m.1).mul (getD_RB (h2 _ m.2) hb)
  · rw [List.length_map, List.length_zip]
    have : (b + b + 1) * min nu.length ro.length ≤ (b + b + 1) * nu.length := Nat.mul_le_mul_left _ (Nat.min_le_left _ _)
    omega
theorem addR_len {nu : List Rat} {ro : List (List Rat)} {n : Nat} : (addR nu ro n).length = n := by unfold addR; rw [List.length_map, List.length_range]
theorem addR_nil {n : Nat} {ro : List (List Rat)} : addR [] ro n = List.replicate n 0 := by
  unfold addR
  apply List.ext_getElem?
  intro i
  rw [List.getElem?_map, List.getElem?_replicate]
  by_cases h : i < n
  · rw [List.getElem?_range h, if_pos h]; rfl
  · rw [List.getElem?_eq_none (by rw [List.length_range]; omega), if_neg h]; rfl
theorem addR_snoc {nu : List Rat} {ro : List (List Rat)} {c : Rat} {r : List Rat} {n : Nat} (h : nu.length = ro.length) (hr : r.length = n) : addR (nu ++ [c]) (ro ++ [r]) n = ((addR nu ro n).zip r).map fun p => p.1 + c * p.2 := by
  apply List.ext_getElem?
  intro i
  rw [List.getElem?_map]
  by_cases hi : i < n
  · have e1 : (addR (nu ++ [c]) (ro ++ [r]) n)[i]? = some (col (nu ++ [c]) (ro ++ [r]) i) := by unfold addR; rw [List.getElem?_map, List.getElem?_range hi]; rfl
    have e2 : (addR nu ro n)[i]? = some (col nu ro i) := by unfold addR; rw [List.getElem?_map, List.getElem?_range hi]; rfl
    have e3 : ((addR nu ro n).zip r)[i]? = some (col nu ro i, r.getD i 0) := by
      rw [List.getElem?_zip_eq_some]
      exact ⟨e2, getD_get (by omega)⟩
    rw [e1, e3]
    show some _ = some _
    congr 1
    unfold col
    rw [List.zip_append h, List.map_append, List.sum_append]
    congr 1
    show c * r.getD i 0 + 0 = _
    rw [Rat.add_zero]
  · rw [List.getElem?_eq_none (by rw [addR_len]; omega), List.getElem?_eq_none (by rw [List.length_zip, addR_len]; omega)]
    rfl
theorem zip_zero {x r : List Rat} (h : x.length = r.length) : (x.zip r).map (fun p => p.1 + 0 * p.2) = x := by
  induction x generalizing r with
  | nil => rfl
  | cons a x ih =>
    cases r with
    | nil => simp at h
    | cons b r =>
      rw [List.zip_cons_cons, List.map_cons, ih (by simpa using h), Rat.zero_mul, Rat.add_zero]
end L2.PL
namespace L2.PL
/-! ### products of rows by a table -/
def stepQ (acc : List Rat) (p : Rat × List Rat) : List Rat := addRow acc (p.2.map (p.1 * ·))
def foldQ (n : Nat) (l : List (Rat × List Rat)) : List Rat := l.foldl stepQ (List.replicate n 0)
def pairsQ (P : List (List (List Rat))) (x y : List Rat) : List (Rat × List Rat) := (x.flatMap fun a => y.map fun b => a * b).zip P.flatten
/-- the product of two rows -/
def tmul (P : List (List (List Rat))) (x y : List Rat) : List Rat := foldQ x.length (pairsQ P x y)
def stepZ (acc : List Int) (p : Int × List Int) : List Int := if p.1 = 0 then acc else (acc.zip p.2).map fun q => q.1 + p.1 * q.2
theorem foldQ_len {n : Nat} : ∀ (l : List (Rat × List Rat)), (∀ p ∈ l, p.2.length = n) → ∀ acc : List Rat, acc.length = n → (l.foldl stepQ acc).length = n
  | [], _, _, h => h
  | p :: l, hl, acc, h => foldQ_len l (fun q hq => hl q (List.mem_cons_of_mem _ hq)) _ (by
      unfold stepQ
      rw [addRow_len' (by rw [List.length_map, hl p List.mem_cons_self]; exact h)]
      exact h)
where addRow_len' {x y : List Rat} (h : x.length = y.length) : (addRow x y).length = x.length := by unfold addRow; rw [List.length_zipWith]; omega
theorem foldl_flat {α β : Type} (f : β → α → β) (a : β) : ∀ l : List α, l.foldl f a = l.foldl f a := fun _ => rfl
/-- whole numbers that stand for others, over one below -/
def Over (c : Rat) (z : Int) (r : Rat) : Prop := (z : Rat) = r * c
inductive OverL (c : Rat) : List Int → List Rat → Prop
  | nil : OverL c [] []
  | cons {z r l m} : Over c z r → OverL c l m → OverL c (z :: l) (r :: m)
theorem OverL.len {c : Rat} {l : List Int} {m : List Rat} (h : OverL c l m) : l.length = m.length := by
  induction h with
  | nil => rfl
  | cons _ _ ih => rw [List.length_cons, List.length_cons, ih]
theorem OverL.rep {c : Rat} : ∀ n : Nat, OverL c (List.replicate n 0) (List.replicate n 0)
  | 0 => .nil
  | n + 1 => .cons (by show ((0 : Int) : Rat) = 0 * c; rw [Rat.zero_mul]; rfl) (OverL.rep n)
theorem over_step {a b : Rat} {s : Int} {t : Rat} (hs : Over a s t) : ∀ {acc : List Int} {bcc : List Rat} {r : List Int} {q : List Rat}, OverL (a * b) acc bcc → OverL b r q → OverL (a * b) ((acc.zip r).map fun z => z.1 + s * z.2) (addRow bcc (q.map (t * ·)))
  | _, _, _, _, .nil, _ => .nil
  | _, _, _, _, .cons _ _, .nil => .nil
  | _, _, _, _, .cons h1 h2, .cons g1 g2 => .cons (by
      show (((_ : Int) + s * _ : Int) : Rat) = (_ + t * _) * (a * b)
      unfold Over at h1 g1 hs
      rw [Rat.intCast_add, Rat.intCast_mul, h1, g1, hs, Rat.add_mul]
      congr 1
      rw [Rat.mul_assoc, Rat.mul_assoc]
      congr 1
      rw [← Rat.mul_assoc, Rat.mul_comm a, Rat.mul_assoc]) (over_step hs h2 g2)
theorem addRow_zero : ∀ {acc q : List Rat}, acc.length = q.length → addRow acc (q.map ((0 : Rat) * ·)) = acc
  | [], [], _ => rfl
  | [], _ :: _, h => by cases h
  | _ :: _, [], h => by cases h
  | x :: acc, y :: q, h => by
    show (x + 0 * y) :: addRow acc (q.map ((0 : Rat) * ·)) = x :: acc
    rw [addRow_zero (by simpa using h), Rat.zero_mul, Rat.add_zero]
theorem over_stepZ {a b : Rat} (ha : a ≠ 0) {s : Int} {t : Rat} (hs : Over a s t) {acc : List Int} {bcc : List Rat} {r : List Int} {q : List Rat} (h : OverL (a * b) acc bcc) (g : OverL b r q) (hl : bcc.length = q.length) : OverL (a * b) (stepZ acc (s, r)) (stepQ bcc (t, q)) := by
  unfold stepZ stepQ
  by_cases z : s = 0
  · rw [if_pos z]
    have t0 : t = 0 := by
      unfold Over at hs
      rw [z] at hs
      rcases Rat.mul_eq_zero.mp hs.symm with w | w
      · exact w
      · exact absurd w ha
    show OverL _ acc (addRow bcc (q.map (t * ·)))
    rw [t0, addRow_zero hl]
    exact h
  · rw [if_neg z]
    exact over_step hs h g
end L2.PL
namespace L2.PL
theorem OverL.app {c : Rat} {l1 l2 : List Int} {m1 m2 : List Rat} (h : OverL c l1 m1) (g : OverL c l2 m2) : OverL c (l1 ++ l2) (m1 ++ m2) := by
  induction h with
  | nil => exact g
  | cons a _ ih => exact .cons a ih
theorem OverL.drop {c : Rat} : ∀ {l : List Int} {m : List Rat} (n : Nat), OverL c l m → OverL c (l.drop n) (m.drop n)
  | _, _, 0, h => h
  | _, _, _ + 1, .nil => .nil
  | _, _, n + 1, .cons _ h => h.drop n
theorem OverL.take {c : Rat} : ∀ {l : List Int} {m : List Rat} (n : Nat), OverL c l m → OverL c (l.take n) (m.take n)
  | _, _, 0, _ => .nil
  | _, _, _ + 1, .nil => .nil
  | _, _, n + 1, .cons a h => .cons a (h.take n)
theorem over_mul {a b : Rat} {s z : Int} {t r : Rat} (h : Over a s t) (g : Over b z r) : Over (a * b) (s * z) (t * r) := by
  unfold Over at *
  rw [Rat.intCast_mul, h, g, Rat.mul_assoc, Rat.mul_assoc]
  congr 1
  rw [← Rat.mul_assoc, Rat.mul_comm a, Rat.mul_assoc]
theorem OverL.scale {a b : Rat} {s : Int} {t : Rat} (h : Over a s t) {l : List Int} {m : List Rat} (g : OverL b l m) : OverL (a * b) (l.map (s * ·)) (m.map (t * ·)) := by
  induction g with
  | nil => exact .nil
  | cons x _ ih => exact .cons (over_mul h x) ih
theorem OverL.shares {a b : Rat} {l k : List Int} {m n : List Rat} (h : OverL a l m) (g : OverL b k n) : OverL (a * b) (l.flatMap fun s => k.map fun z => s * z) (m.flatMap fun t => n.map fun r => t * r) := by
  induction h with
  | nil => exact .nil
  | cons x _ ih =>
    rw [List.flatMap_cons, List.flatMap_cons]
    exact (OverL.scale x g).app ih
inductive OverLL (c : Rat) : List (List Int) → List (List Rat) → Prop
  | nil : OverLL c [] []
  | cons {z r l m} : OverL c z r → OverLL c l m → OverLL c (z :: l) (r :: m)
theorem OverLL.of_map {α : Type} {c : Rat} {f : α → List Int} {g : α → List Rat} (h : ∀ a, OverL c (f a) (g a)) : ∀ l : List α, OverLL c (l.map f) (l.map g)
  | [] => .nil
  | a :: l => .cons (h a) (OverLL.of_map h l)
inductive OverP (a b : Rat) (n : Nat) : List (Int × List Int) → List (Rat × List Rat) → Prop
  | nil : OverP a b n [] []
  | cons {s r t q l m} : Over a s t → OverL b r q → q.length = n → OverP a b n l m → OverP a b n ((s, r) :: l) ((t, q) :: m)
theorem OverP.zip {a b : Rat} {n : Nat} : ∀ {S : List Int} {T : List Rat} {R : List (List Int)} {Q : List (List Rat)}, OverL a S T → OverLL b R Q → (∀ q ∈ Q, q.length = n) → OverP a b n (S.zip R) (T.zip Q)
  | _, _, _, _, .nil, _, _ => by rw [List.zip_nil_left, List.zip_nil_left]; exact .nil
  | _, _, _, _, .cons _ _, .nil, _ => by rw [List.zip_nil_right, List.zip_nil_right]; exact .nil
  | _, _, _, _, .cons x h, .cons y g, hl => by
    rw [List.zip_cons_cons, List.zip_cons_cons]
    exact .cons x y (hl _ List.mem_cons_self) (OverP.zip h g fun q hq => hl q (List.mem_cons_of_mem _ hq))
theorem stepQ_len {n : Nat} {acc q : List Rat} {t : Rat} (h : acc.length = n) (g : q.length = n) : (stepQ acc (t, q)).length = n := by
  unfold stepQ addRow
  rw [List.length_zipWith, List.length_map]
  show min acc.length q.length = n
  omega
theorem over_fold {a b : Rat} (ha : a ≠ 0) {n : Nat} {l : List (Int × List Int)} {m : List (Rat × List Rat)} (h : OverP a b n l m) : ∀ {acc : List Int} {bcc : List Rat}, bcc.length = n → OverL (a * b) acc bcc → OverL (a * b) (l.foldl stepZ acc) (m.foldl stepQ bcc) := by
  induction h with
  | nil => exact fun _ g => g
  | cons x y z _ ih =>
    intro acc bcc hl g
    rw [List.foldl_cons, List.foldl_cons]
    exact ih (stepQ_len hl z) (over_stepZ ha x g y (by omega))
theorem chunk {α : Type} {n : Nat} : ∀ L : List (List α), (∀ r ∈ L, r.length = n) → ((List.range L.length).map fun i => (L.flatten.drop (i * n)).take n) = L
  | [], _ => rfl
  | r :: L, h => by
    have hr := h r List.mem_cons_self
    rw [List.length_cons, List.range_succ_eq_map, List.map_cons, List.map_map, List.flatten_cons, Nat.zero_mul, List.drop_zero, List.take_append_of_le_length (by omega), List.take_of_length_le (by omega)]
    congr 1
    have ih := chunk L fun x hx => h x (List.mem_cons_of_mem _ hx)
    refine Eq.trans ?_ ih
    apply List.map_congr_left
    intro i _
    show ((r ++ L.flatten).drop ((i + 1) * n)).take n = _
    rw [Nat.succ_mul, Nat.add_comm, ← hr, List.drop_append, List.drop_eq_nil_of_le (Nat.le_add_right _ _), List.nil_append, Nat.add_sub_cancel_left]
theorem divInt_over {z L : Int} {r : Rat} (hL : L ≠ 0) (h : Rat.divInt z L = r) : Over (L : Rat) z r := by
  have h0 : (L : Rat) ≠ 0 := fun e => hL (by exact_mod_cast e)
  unfold Over
  rw [← h, Rat.divInt_eq_div, Rat.div_def, Rat.mul_assoc, Rat.inv_mul_cancel _ h0, Rat.mul_one]
theorem over_divInt {z L : Int} {r : Rat} (hL : L ≠ 0) (h : Over (L : Rat) z r) : Rat.divInt z L = r := by
  have h0 : (L : Rat) ≠ 0 := fun e => hL (by exact_mod_cast e)
  unfold Over at h
  rw [Rat.divInt_eq_div, h, Rat.div_def, Rat.mul_assoc, Rat.mul_inv_cancel _ h0, Rat.mul_one]
theorem over_div {L : Int} (hL : L ≠ 0) : ∀ {l : List Int} {m : List Rat}, OverL (L : Rat) l m → (l.map fun z => Rat.divInt z L) = m
  | _, _, .nil => rfl
  | _, _, .cons x h => by rw [List.map_cons, over_divInt hL x, over_div hL h]
theorem over_wholes_go (L : Nat) (hL : 0 < L) : ∀ x : List Rat, (∀ r ∈ x, r.den ∣ L) → OverL ((L : Int) : Rat) (x.map fun r => r.num * ((L : Int).fdiv (r.den : Int))) x
  | [], _ => .nil
  | r :: x, h => .cons (divInt_over (by omega) (by
      rw [divInt_scale (b := (r.den : Int)) (by have := rat_den_pos r; omega) hL (by rw [Int.natAbs_natCast]; exact h r List.mem_cons_self)]
      exact Rat.num_divInt_den r)) (over_wholes_go L hL x fun q hq => h q (List.mem_cons_of_mem _ hq))
theorem over_wholes (x : List Rat) : OverL (((lcmL (x.map fun r => (r.num, (r.den : Int))) : Nat) : Int) : Rat) (wholes (x.map fun r => (r.num, (r.den : Int)))) x := by
  unfold wholes
  rw [List.map_map]
  refine over_wholes_go _ (lcmL_pos fun q hq => ?_) x fun r hr => ?_
  · obtain ⟨r, _, rfl⟩ := List.mem_map.mp hq
    have := rat_den_pos r
    show 1 ≤ (r.den : Int)
    omega
  · have := lcmL_dvd (l := x.map fun r => (r.num, (r.den : Int))) (q := (r.num, (r.den : Int))) (List.mem_map.mpr ⟨r, hr, rfl⟩)
    simpa using this
end L2.PL
namespace L2.PL
/-! ### the product the other way about -/
def oppP (P : List (List (List Rat))) : List (List (List Rat)) := (List.range P.length).map fun i => P.map fun r => r.getD i []
theorem addRow_rc : ∀ a u v : List Rat, addRow (addRow a u) v = addRow (addRow a v) u
  | [], _, _ => by simp [addRow]
  | _ :: _, [], [] => by simp [addRow]
  | _ :: _, [], _ :: _ => by simp [addRow]
  | _ :: _, _ :: _, [] => by simp [addRow]
  | x :: a, y :: u, z :: v => by
    show (x + y + z) :: addRow (addRow a u) v = (x + z + y) :: addRow (addRow a v) u
    rw [addRow_rc a u v, Rat.add_assoc, Rat.add_comm y z, ← Rat.add_assoc]
theorem stepQ_rc (a : List Rat) (p q : Rat × List Rat) : stepQ (stepQ a p) q = stepQ (stepQ a q) p := addRow_rc _ _ _
theorem fold_perm {l m : List (Rat × List Rat)} (h : l.Perm m) (a : List Rat) : l.foldl stepQ a = m.foldl stepQ a := h.foldl_eq' (fun _ _ _ _ z => stepQ_rc z _ _) a
theorem cons_flat {α β : Type} (g : β → α) (h : β → List α) : ∀ r : List β, (r.flatMap fun j => g j :: h j).Perm (r.map g ++ r.flatMap h)
  | [] => .refl _
  | j :: r => by
    rw [List.flatMap_cons, List.map_cons, List.flatMap_cons, List.cons_append, List.cons_append]
    refine .cons _ ?_
    refine ((cons_flat g h r).append_left (h j)).trans ?_
    exact List.perm_append_comm_assoc _ _ _
theorem swap_perm {α : Type} (f : Nat → Nat → α) (m : List Nat) : ∀ l : List Nat, (l.flatMap fun i => m.map (f i)).Perm (m.flatMap fun j => l.map fun i => f i j)
  | [] => by
    have : (m.flatMap fun j => (List.map (fun i => f i j) [])) = [] := by simp
    rw [this]
    exact .refl _
  | i :: l => by
    rw [List.flatMap_cons]
    have e : (m.flatMap fun j => (i :: l).map fun i => f i j) = m.flatMap fun j => f i j :: l.map fun i => f i j := rfl
    rw [e]
    exact ((swap_perm f m l).append_left _).trans (cons_flat (f i) (fun j => l.map fun i => f i j) m).symm
theorem pairs_go {y : List Rat} : ∀ (x : List Rat) (P : List (List (List Rat))), (∀ R ∈ P, R.length = y.length) → (x.flatMap fun a => y.map fun b => a * b).zip P.flatten = (x.zip P).flatMap fun p => (y.zip p.2).map fun q => (p.1 * q.1, q.2)
  | [], _, _ => by simp
  | _ :: _, [], _ => by simp
  | a :: x, R :: P, h => by
    have hR := h R List.mem_cons_self
    rw [List.flatMap_cons, List.flatten_cons, List.zip_cons_cons, List.flatMap_cons, List.zip_append (by rw [List.length_map, hR]), pairs_go x P fun r hr => h r (List.mem_cons_of_mem _ hr)]
    congr 1
    rw [List.zip_map_left]
    rfl
theorem zip_range {α β : Type} (a : α) (b : β) : ∀ {n : Nat} {x : List α} {y : List β}, x.length = n → y.length = n → x.zip y = (List.range n).map fun i => (x.getD i a, y.getD i b) := fun {n x y} hx hy => by
  apply List.ext_getElem?
  intro i
  rw [List.getElem?_map]
  by_cases hi : i < n
  · rw [List.getElem?_range hi]
    have h1 : x[i]? = some (x.getD i a) := by rw [List.getD_eq_getElem?_getD, List.getElem?_eq_getElem (by omega)]; rfl
    have h2 : y[i]? = some (y.getD i b) := by rw [List.getD_eq_getElem?_getD, List.getElem?_eq_getElem (by omega)]; rfl
    exact List.getElem?_zip_eq_some.mpr ⟨h1, h2⟩
  · rw [List.getElem?_eq_none (by rw [List.length_zip]; omega), List.getElem?_eq_none (by rw [List.length_range]; omega)]
    rfl
theorem pairs_range {n : Nat} {P : List (List (List Rat))} {x y : List Rat} (hP : P.length = n) (h : ∀ R ∈ P, R.length = n) (hx : x.length = n) (hy : y.length = n) : pairsQ P x y = (List.range n).flatMap fun i => (List.range n).map fun j => (x.getD i 0 * y.getD j 0, (P.getD i []).getD j []) := by
  unfold pairsQ
  rw [pairs_go x P fun R hR => by rw [h R hR, hy], zip_range 0 [] hx hP, List.flatMap_map]
  have key : ∀ l : List Nat, (∀ i ∈ l, i < n) → (l.flatMap fun i => (y.zip (P.getD i [])).map fun q => (x.getD i 0 * q.1, q.2)) = l.flatMap fun i => (List.range n).map fun j => (x.getD i 0 * y.getD j 0, (P.getD i []).getD j []) := fun l => by
    induction l with
    | nil => exact fun _ => rfl
    | cons i l ih =>
      intro hl
      have hi : i < P.length := by rw [hP]; exact hl i List.mem_cons_self
      have hR : (P.getD i []).length = n := by
        rw [List.getD_eq_getElem?_getD, List.getElem?_eq_getElem hi]
        exact h _ (List.getElem_mem hi)
      rw [List.flatMap_cons, List.flatMap_cons, ih fun k hk => hl k (List.mem_cons_of_mem _ hk), zip_range 0 [] hy hR, List.map_map]
      rfl
  exact key _ fun i hi => List.mem_range.mp hi
theorem oppP_get {P : List (List (List Rat))} {i j : Nat} (hi : i < P.length) (hj : j < P.length) : ((oppP P).getD i []).getD j [] = (P.getD j []).getD i [] := by
  unfold oppP
  rw [List.getD_eq_getElem?_getD (l := (List.range P.length).map _), List.getElem?_map, List.getElem?_range hi]
  show (P.map fun r => r.getD i []).getD j [] = _
  rw [List.getD_eq_getElem?_getD, List.getElem?_map, List.getElem?_eq_getElem hj, List.getD_eq_getElem?_getD (l := P), List.getElem?_eq_getElem hj]
  rfl
theorem tmul_opp {n : Nat} {P : List (List (List Rat))} {x y : List Rat} (hP : P.length = n) (h : ∀ R ∈ P, R.length = n) (hx : x.length = n) (hy : y.length = n) : tmul (oppP P) x y = tmul P y x := by
  unfold tmul foldQ
  rw [hx, hy]
  apply fold_perm
  have ho : (oppP P).length = n := by unfold oppP; rw [List.length_map, List.length_range, hP]
  have ho2 : ∀ R ∈ oppP P, R.length = n := fun R hR => by
    obtain ⟨i, _, rfl⟩ := List.mem_map.mp hR
    rw [List.length_map, hP]
  rw [pairs_range ho ho2 hx hy, pairs_range hP h hy hx]
  refine List.Perm.trans ?_ (swap_perm (fun i j => (y.getD i 0 * x.getD j 0, (P.getD i []).getD j [])) (List.range n) (List.range n)).symm
  have key : ∀ l : List Nat, (∀ i ∈ l, i < n) → (l.flatMap fun i => (List.range n).map fun j => (x.getD i 0 * y.getD j 0, ((oppP P).getD i []).getD j [])) = l.flatMap fun j => (List.range n).map fun i => (y.getD i 0 * x.getD j 0, (P.getD i []).getD j []) := fun l => by
    induction l with
    | nil => exact fun _ => rfl
    | cons i l ih =>
      intro hl
      rw [List.flatMap_cons, List.flatMap_cons, ih fun k hk => hl k (List.mem_cons_of_mem _ hk)]
      congr 1
      apply List.map_congr_left
      intro j hj
      have hj := List.mem_range.mp hj
      have hi := hl i List.mem_cons_self
      rw [oppP_get (by omega) (by omega), Rat.mul_comm]
  rw [key _ fun i hi => List.mem_range.mp hi]
end L2.PL
namespace L2.PL
/-! ### bounds above and below, apart -/
def RD (p d : Nat) (r : Rat) : Prop := r.num.natAbs < 2 ^ p ∧ r.den < 2 ^ d
theorem RD.mono {p d p' d' : Nat} {r : Rat} (h : RD p d r) (a : p ≤ p') (b : d ≤ d') : RD p' d' r := ⟨Nat.lt_of_lt_of_le h.1 (Nat.pow_le_pow_right (by decide) a), Nat.lt_of_lt_of_le h.2 (Nat.pow_le_pow_right (by decide) b)⟩
theorem RB.rd {n p d : Nat} {r : Rat} (h : RB n r) (a : n ≤ p) (b : n ≤ d) : RD p d r := RD.mono (p := n) (d := n) h a b
theorem divInt_RD {a b : Int} {m n : Nat} (h : b ≠ 0) (ha : a.natAbs < 2 ^ m) (hb : b.natAbs < 2 ^ n) : RD m n (Rat.divInt a b) := by
  obtain ⟨e1, e2⟩ := low_eq (a := a) h
  have hg := gcd_posR (a := a) h
  have hs : 0 < (shr a b).natAbs := by rw [shr_natAbs]; exact hg
  have d1 : shr a b ∣ a := Int.natAbs_dvd_natAbs.mp (by rw [shr_natAbs]; exact Nat.gcd_dvd_left _ _)
  have d2 : shr a b ∣ b := Int.natAbs_dvd_natAbs.mp (by rw [shr_natAbs]; exact Nat.gcd_dvd_right _ _)
  refine ⟨?_, ?_⟩
  · rw [← e1]; exact Nat.lt_of_le_of_lt (natAbs_fdiv_le d1) ha
  · have : (Rat.divInt a b).den = ((b.fdiv (shr a b))).natAbs := by rw [e2, Int.natAbs_natCast]
    rw [this]; exact Nat.lt_of_le_of_lt (natAbs_fdiv_le d2) hb
theorem RD.mul {m d n e : Nat} {x y : Rat} (hx : RD m d x) (hy : RD n e y) : RD (m + n) (d + e) (x * y) := by
  have hx0 := rat_den_pos x
  have hy0 := rat_den_pos y
  have h : ((x.den : Int) * y.den) ≠ 0 := by
    intro e
    rcases Int.mul_eq_zero.mp e with e | e <;> omega
  rw [← rat_mul]
  refine divInt_RD h ?_ ?_
  · rw [Int.natAbs_mul]; exact pow_mul_lt hx.1 hy.1
  · rw [Int.natAbs_mul]; exact pow_mul_lt (by simpa using hx.2) (by simpa using hy.2)
theorem RD.add {m d n e : Nat} {x y : Rat} (hx : RD m d x) (hy : RD n e y) : RD (m + e + (n + d) + 1) (d + e) (x + y) := by
  have hx0 := rat_den_pos x
  have hy0 := rat_den_pos y
  have h : ((x.den : Int) * y.den) ≠ 0 := by
    intro e
    rcases Int.mul_eq_zero.mp e with e | e <;> omega
  rw [← rat_add]
  have h1 : x.num.natAbs * y.den < 2 ^ (m + e) := pow_mul_lt hx.1 hy.2
  have h2 : y.num.natAbs * x.den < 2 ^ (n + d) := pow_mul_lt hy.1 hx.2
  have l1 : 2 ^ (m + e) ≤ 2 ^ (m + e + (n + d)) := Nat.pow_le_pow_right (by decide) (by omega)
  have l2 : 2 ^ (n + d) ≤ 2 ^ (m + e + (n + d)) := Nat.pow_le_pow_right (by decide) (by omega)
  refine divInt_RD h ?_ ?_
  · have e1 : (x.num * (y.den : Int)).natAbs = x.num.natAbs * y.den := by rw [Int.natAbs_mul]; simp
    have e2 : (y.num * (x.den : Int)).natAbs = y.num.natAbs * x.den := by rw [Int.natAbs_mul]; simp
    have := Int.natAbs_add_le (x.num * (y.den : Int)) (y.num * (x.den : Int))
    rw [Nat.pow_succ]; omega
  · rw [Int.natAbs_mul]; exact pow_mul_lt (by simpa using hx.2) (by simpa using hy.2)
/-- all belows divide one -/
def DV (D : Nat) (l : List Rat) : Prop := ∀ a ∈ l, a.den ∣ D
theorem DV.lcm {D : Nat} {l : List Rat} (h : DV D l) : lcmL (l.map fun r => (r.num, (r.den : Int))) ∣ D :=
  foldl_lcm_min _ D (fun q hq => by
    obtain ⟨r, hr, rfl⟩ := List.mem_map.mp hq
    show ((r.den : Int)).natAbs ∣ D
    rw [Int.natAbs_natCast]; exact h r hr) 1 (Nat.one_dvd _)
theorem DV.of_lcm (l : List Rat) : DV (lcmL (l.map fun r => (r.num, (r.den : Int)))) l := fun r hr => by
  have := lcmL_dvd (l := l.map fun r => (r.num, (r.den : Int))) (q := (r.num, (r.den : Int))) (List.mem_map.mpr ⟨r, hr, rfl⟩)
  simpa using this
theorem DV.mono {D E : Nat} {l : List Rat} (h : DV D l) (e : D ∣ E) : DV E l := fun a ha => Nat.dvd_trans (h a ha) e
theorem DV.sub {D : Nat} {l m : List Rat} (h : DV D m) (s : ∀ a ∈ l, a ∈ m) : DV D l := fun a ha => h a (s a ha)
theorem DV.zero (D : Nat) (n : Nat) : DV D (List.replicate n 0) := fun a ha => by
  rw [(List.mem_replicate.mp ha).2]; exact Nat.one_dvd _
theorem divInt_den_dvd {a b : Int} (h : b ≠ 0) : (Rat.divInt a b).den ∣ b.natAbs := by
  obtain ⟨_, e2⟩ := low_eq (a := a) h
  have d2 : shr a b ∣ b := Int.natAbs_dvd_natAbs.mp (by rw [shr_natAbs]; exact Nat.gcd_dvd_right _ _)
  have : (Rat.divInt a b).den = ((b.fdiv (shr a b))).natAbs := by rw [e2, Int.natAbs_natCast]
  rw [this, fdiv_dvd d2]
  obtain ⟨c, hc⟩ := d2
  have hs : shr a b ≠ 0 := shr_ne h
  have e3 : b / shr a b = c := by
    have := Int.mul_ediv_cancel_left c hs
    rw [← hc] at this
    exact this
  rw [e3]
  exact Int.natAbs_dvd_natAbs.mpr ⟨shr a b, by rw [Int.mul_comm]; exact hc⟩
theorem den_mul {x y : Rat} {a b : Nat} (hx : x.den ∣ a) (hy : y.den ∣ b) : (x * y).den ∣ a * b := by
  have hx0 := rat_den_pos x
  have hy0 := rat_den_pos y
  have h : ((x.den : Int) * y.den) ≠ 0 := by
    intro e
    rcases Int.mul_eq_zero.mp e with e | e <;> omega
  have z := divInt_den_dvd (a := x.num * y.num) h
  rw [rat_mul] at z
  refine Nat.dvd_trans z ?_
  rw [Int.natAbs_mul, Int.natAbs_natCast, Int.natAbs_natCast]
  exact Nat.mul_dvd_mul hx hy
theorem den_add {x y : Rat} {a : Nat} (h0 : 0 < a) (hx : x.den ∣ a) (hy : y.den ∣ a) : (x + y).den ∣ a := by
  obtain ⟨p, hp⟩ := hx
  obtain ⟨q, hq⟩ := hy
  have hx0 := rat_den_pos x
  have hy0 := rat_den_pos y
  have ha : (a : Int) ≠ 0 := by omega
  have ex : Rat.divInt (x.num * p) a = x := by
    have : (a : Int) = (x.den : Int) * p := by rw [hp]; simp
    rw [this]
    have hp0 : (p : Int) ≠ 0 := fun z => by rw [z, Int.mul_zero] at this; exact ha this
    rw [Rat.divInt_mul_right hp0]
    exact Rat.num_divInt_den x
  have ey : Rat.divInt (y.num * q) a = y := by
    have : (a : Int) = (y.den : Int) * q := by rw [hq]; simp
    rw [this]
    have hp0 : (q : Int) ≠ 0 := fun z => by rw [z, Int.mul_zero] at this; exact ha this
    rw [Rat.divInt_mul_right hp0]
    exact Rat.num_divInt_den y
  have e : x + y = Rat.divInt (x.num * p + y.num * q) a := by
    rw [← ex, ← ey, ex, ey, Rat.divInt_eq_div, Rat.intCast_add, Rat.div_def, Rat.add_mul]
    congr 1
    · rw [← Rat.div_def, ← Rat.divInt_eq_div]; exact ex.symm
    · rw [← Rat.div_def, ← Rat.divInt_eq_div]; exact ey.symm
  rw [e]
  have := divInt_den_dvd (a := x.num * p + y.num * q) ha
  rwa [Int.natAbs_natCast] at this
theorem DV.step {a b : Nat} (h0 : 0 < a * b) {acc q : List Rat} {t : Rat} (h : DV (a * b) acc) (ht : t.den ∣ a) (hq : DV b q) : DV (a * b) (stepQ acc (t, q)) := fun z hz => by
  unfold stepQ addRow at hz
  rw [← List.map_uncurry_zip_eq_zipWith] at hz
  obtain ⟨p, hp, rfl⟩ := List.mem_map.mp hz
  have m := List.of_mem_zip (a := p.1) (b := p.2) (by simpa using hp)
  obtain ⟨z, hz, e⟩ := List.mem_map.mp m.2
  show (p.1 + p.2).den ∣ _
  rw [← e]
  exact den_add h0 (h _ m.1) (den_mul ht (hq z hz))
theorem DV.fold {a b : Nat} (h0 : 0 < a * b) : ∀ {l : List (Rat × List Rat)} {acc : List Rat}, DV (a * b) acc → (∀ p ∈ l, p.1.den ∣ a ∧ DV b p.2) → DV (a * b) (l.foldl stepQ acc)
  | [], _, h, _ => h
  | p :: l, acc, h, hl => by
    rw [List.foldl_cons]
    exact DV.fold h0 (DV.step (t := p.1) (q := p.2) h0 h (hl p List.mem_cons_self).1 (hl p List.mem_cons_self).2) fun q hq => hl q (List.mem_cons_of_mem _ hq)
abbrev unitsR (n : Nat) : List (List Rat) := (List.range n).map fun i => unitR n ((i : Nat) : Int)
/-! ### sums and images -/
def plusQ (r : List Rat) (c : Rat) (s : List Rat) : List Rat := addRow r (s.map (c * ·))
def mixQ (P : List (List (List Rat))) (c : Rat) (Q : List (List (List Rat))) : List (List (List Rat)) := (P.zip Q).map fun p => (p.1.zip p.2).map fun q => plusQ q.1 c q.2
/-- the image of a row by a map -/
def imgQ (L : List (List Rat)) (x : List Rat) : List Rat := foldQ x.length (x.zip L)
/-- the product of the images -/
def chP (P : List (List (List Rat))) (L R : List (List Rat)) : List (List (List Rat)) := L.map fun x => R.map fun y => tmul P x y
theorem addR_plus {r s : List Rat} {c : Rat} {n : Nat} (hr : r.length = n) (hs : s.length = n) : addR [1, c] [r, s] n = plusQ r c s := by
  unfold addR plusQ addRow
  apply List.ext_getElem?
  intro i
  rw [List.getElem?_map]
  by_cases hi : i < n
  · rw [List.getElem?_range hi, List.getElem?_zipWith, List.getElem?_map, List.getElem?_eq_getElem (by omega : i < r.length), List.getElem?_eq_getElem (by omega : i < s.length)]
    show some (col [1, c] [r, s] i) = some (r[i] + c * s[i])
    unfold col
    have h1 : r[i]?.getD 0 = r[i] := by rw [List.getElem?_eq_getElem (by omega)]; rfl
    have h2 : s[i]?.getD 0 = s[i] := by rw [List.getElem?_eq_getElem (by omega)]; rfl
    simp [h1, h2, Rat.add_zero, Rat.one_mul]
  · rw [List.getElem?_eq_none (by rw [List.length_range]; omega), List.getElem?_eq_none (by rw [List.length_zipWith, List.length_map]; omega)]
    rfl
theorem smul_add (a : Rat) : ∀ x y : List Rat, (addRow x y).map (a * ·) = addRow (x.map (a * ·)) (y.map (a * ·))
  | [], _ => by simp [addRow]
  | _ :: _, [] => by simp [addRow]
  | x :: l, y :: m => by
    show a * (x + y) :: (addRow l m).map (a * ·) = (a * x + a * y) :: addRow (l.map (a * ·)) (m.map (a * ·))
    rw [smul_add a l m, Rat.mul_add]
theorem addRow_assoc : ∀ a b c : List Rat, addRow (addRow a b) c = addRow a (addRow b c)
  | [], _, _ => by simp [addRow]
  | _ :: _, [], _ => by simp [addRow]
  | _ :: _, _ :: _, [] => by simp [addRow]
  | x :: a, y :: b, z :: c => by
    show (x + y + z) :: addRow (addRow a b) c = (x + (y + z)) :: addRow a (addRow b c)
    rw [addRow_assoc a b c, Rat.add_assoc]
theorem smul_smul (a b : Rat) (x : List Rat) : (x.map (b * ·)).map (a * ·) = x.map ((a * b) * ·) := by
  rw [List.map_map]
  apply List.map_congr_left
  intro z _
  exact (Rat.mul_assoc a b z).symm
/-- so many times a sum of multiples -/
theorem fold_smul (a : Rat) : ∀ (m : List (Rat × List Rat)) (acc u : List Rat), (m.map fun q => (a * q.1, q.2)).foldl stepQ (addRow acc (u.map (a * ·))) = addRow acc ((m.foldl stepQ u).map (a * ·))
  | [], _, _ => rfl
  | q :: m, acc, u => by
    show (m.map fun q => (a * q.1, q.2)).foldl stepQ (stepQ (addRow acc (u.map (a * ·))) (a * q.1, q.2)) = addRow acc ((m.foldl stepQ (stepQ u q)).map (a * ·))
    rw [← fold_smul a m acc (stepQ u q)]
    congr 1
    unfold stepQ
    show addRow (addRow acc (u.map (a * ·))) (q.2.map ((a * q.1) * ·)) = _
    rw [addRow_assoc, smul_add, smul_smul]
theorem rep0_smul (a : Rat) (n : Nat) : (List.replicate n (0 : Rat)).map (a * ·) = List.replicate n 0 := by rw [List.map_replicate, Rat.mul_zero]
theorem add_rep0 : ∀ {n : Nat} {x : List Rat}, x.length = n → addRow x (List.replicate n 0) = x
  | 0, [], _ => rfl
  | n + 1, x :: l, h => by
    show (x + 0) :: addRow l (List.replicate n 0) = x :: l
    rw [add_rep0 (by simpa using h), Rat.add_zero]
theorem fold_flat {n : Nat} : ∀ (l : List (Rat × List (Rat × List Rat))) (acc : List Rat), acc.length = n → (∀ p ∈ l, ∀ q ∈ p.2, q.2.length = n) → (l.flatMap fun p => p.2.map fun q => (p.1 * q.1, q.2)).foldl stepQ acc = (l.map fun p => (p.1, foldQ n p.2)).foldl stepQ acc
  | [], _, _, _ => rfl
  | p :: l, acc, h, hl => by
    rw [List.flatMap_cons, List.foldl_append, List.map_cons, List.foldl_cons]
    have e : (p.2.map fun q => (p.1 * q.1, q.2)).foldl stepQ acc = stepQ acc (p.1, foldQ n p.2) := by
      have := fold_smul p.1 p.2 acc (List.replicate n 0)
      rw [rep0_smul, add_rep0 h] at this
      rw [this]
      rfl
    rw [e]
    have hf : (foldQ n p.2).length = n := foldQ_len p.2 (fun q hq => hl p List.mem_cons_self q hq) _ List.length_replicate
    exact fold_flat l _ (stepQ_len h hf) fun q hq => hl q (List.mem_cons_of_mem _ hq)
end L2.PL
namespace L2.PL
/-! ### tables side by side, tables crossed -/
abbrev zr (n : Nat) : List Rat := List.replicate n 0
theorem tmul_fold {n : Nat} {P : List (List (List Rat))} {x y : List Rat} (hx : x.length = n) (hR : ∀ R ∈ P, R.length = y.length) (hr : ∀ R ∈ P, ∀ r ∈ R, r.length = n) : tmul P x y = foldQ n (x.zip (P.map fun R => foldQ n (y.zip R))) := by
  unfold tmul
  rw [hx]
  have e : pairsQ P x y = (x.zip (P.map fun R => y.zip R)).flatMap fun p => p.2.map fun q => (p.1 * q.1, q.2) := by
    unfold pairsQ
    rw [pairs_go x P hR, List.zip_map_right, List.flatMap_map]
    rfl
  show (pairsQ P x y).foldl stepQ _ = _
  rw [e, fold_flat (n := n) _ _ List.length_replicate fun p hp q hq => ?_]
  · show _ = (x.zip (P.map fun R => foldQ n (y.zip R))).foldl stepQ (List.replicate n 0)
    rw [List.zip_map_right, List.zip_map_right, List.map_map]
    rfl
  · have m := (List.of_mem_zip (a := p.1) (b := p.2) hp).2
    obtain ⟨R, hR2, e⟩ := List.mem_map.mp m
    rw [← e] at hq
    exact hr R hR2 _ (List.of_mem_zip (a := q.1) (b := q.2) hq).2
theorem addRow_app {a b c d : List Rat} (h : a.length = c.length) : addRow (a ++ b) (c ++ d) = addRow a c ++ addRow b d := by
  unfold addRow
  exact List.zipWith_append h
theorem step_zero {n : Nat} {acc : List Rat} {c : Rat} (h : acc.length = n) : stepQ acc (c, zr n) = acc := by
  unfold stepQ
  show addRow acc ((zr n).map (c * ·)) = acc
  rw [rep0_smul, add_rep0 h]
theorem fold_appR {m : Nat} : ∀ (l : List (Rat × List Rat)) (u v : List Rat), (∀ p ∈ l, p.2.length = u.length) → v.length = m → (l.map fun p => (p.1, p.2 ++ zr m)).foldl stepQ (u ++ v) = l.foldl stepQ u ++ v
  | [], _, _, _, _ => rfl
  | p :: l, u, v, hl, hv => by
    have hp := hl p List.mem_cons_self
    have e : stepQ (u ++ v) (p.1, p.2 ++ zr m) = stepQ u p ++ v := by
      unfold stepQ
      show addRow (u ++ v) ((p.2 ++ zr m).map (p.1 * ·)) = _
      rw [List.map_append, addRow_app (by rw [List.length_map, hp]), rep0_smul, add_rep0 hv]
    rw [List.map_cons, List.foldl_cons, List.foldl_cons, e]
    exact fold_appR l _ v (fun q hq => by rw [stepQ_len (n := u.length) (t := p.1) rfl hp]; exact hl q (List.mem_cons_of_mem _ hq)) hv
theorem fold_appL {n : Nat} : ∀ (l : List (Rat × List Rat)) (u v : List Rat), u.length = n → (l.map fun p => (p.1, zr n ++ p.2)).foldl stepQ (u ++ v) = u ++ l.foldl stepQ v
  | [], _, _, _ => rfl
  | p :: l, u, v, hu => by
    have e : stepQ (u ++ v) (p.1, zr n ++ p.2) = u ++ stepQ v p := by
      unfold stepQ
      show addRow (u ++ v) ((zr n ++ p.2).map (p.1 * ·)) = _
      rw [List.map_append, addRow_app (by rw [List.length_map, List.length_replicate, hu]), rep0_smul, add_rep0 hu]
    rw [List.map_cons, List.foldl_cons, List.foldl_cons, e]
    exact fold_appL l u _ hu
theorem fold_zero {n : Nat} : ∀ (l : List (Rat × List Rat)) (acc : List Rat), acc.length = n → (∀ p ∈ l, p.2 = zr n) → l.foldl stepQ acc = acc
  | [], _, _, _ => rfl
  | p :: l, acc, h, hl => by
    have hp := hl p List.mem_cons_self
    have e : stepQ acc p = acc := by
      have : p = (p.1, zr n) := by rw [← hp]
      rw [this]
      exact step_zero h
    rw [List.foldl_cons, e]
    exact fold_zero l acc h fun q hq => hl q (List.mem_cons_of_mem _ hq)
theorem zr_app (n m : Nat) : zr n ++ zr m = zr (n + m) := List.replicate_append_replicate
theorem zip_mapR {α β γ : Type} (x : List α) (L : List β) (f : β → γ) : x.zip (L.map f) = (x.zip L).map fun p => (p.1, f p.2) := by
  rw [List.zip_map_right]
  rfl
def besP (A B : List (List (List Rat))) : List (List (List Rat)) :=
  (A.map fun R => (R.map fun r => r ++ zr B.length) ++ List.replicate B.length (zr A.length ++ zr B.length)) ++ (B.map fun R => List.replicate A.length (zr A.length ++ zr B.length) ++ R.map fun r => zr A.length ++ r)
abbrev okC (n : Nat) (P : List (List (List Rat))) : Prop := P.length = n ∧ ∀ R ∈ P, R.length = n ∧ ∀ r ∈ R, r.length = n
theorem besP_C {n m : Nat} {A B : List (List (List Rat))} (hA : okC n A) (hB : okC m B) : okC (n + m) (besP A B) := by
  unfold besP
  refine ⟨by rw [List.length_append, List.length_map, List.length_map, hA.1, hB.1], fun R hR => ?_⟩
  rcases List.mem_append.mp hR with h | h
  · obtain ⟨S, hS, rfl⟩ := List.mem_map.mp h
    refine ⟨by rw [List.length_append, List.length_map, List.length_replicate, (hA.2 S hS).1, hB.1], fun r hr => ?_⟩
    rcases List.mem_append.mp hr with h | h
    · obtain ⟨t, ht, rfl⟩ := List.mem_map.mp h
      rw [List.length_append, List.length_replicate, (hA.2 S hS).2 t ht, hB.1]
    · rw [(List.mem_replicate.mp h).2, List.length_append, List.length_replicate, List.length_replicate, hA.1, hB.1]
  · obtain ⟨S, hS, rfl⟩ := List.mem_map.mp h
    refine ⟨by rw [List.length_append, List.length_map, List.length_replicate, (hB.2 S hS).1, hA.1], fun r hr => ?_⟩
    rcases List.mem_append.mp hr with h | h
    · rw [(List.mem_replicate.mp h).2, List.length_append, List.length_replicate, List.length_replicate, hA.1, hB.1]
    · obtain ⟨t, ht, rfl⟩ := List.mem_map.mp h
      rw [List.length_append, List.length_replicate, (hB.2 S hS).2 t ht, hA.1]
theorem foldQ_lenC {n : Nat} {y : List Rat} {R : List (List Rat)} (h : ∀ r ∈ R, r.length = n) : (foldQ n (y.zip R)).length = n := foldQ_len _ (fun p hp => h _ (List.of_mem_zip (a := p.1) (b := p.2) hp).2) _ List.length_replicate
theorem tmul_bes {n m : Nat} {A B : List (List (List Rat))} {x1 y1 x2 y2 : List Rat} (hA : okC n A) (hB : okC m B) (h1 : x1.length = n) (h2 : y1.length = m) (h3 : x2.length = n) (h4 : y2.length = m) : tmul (besP A B) (x1 ++ y1) (x2 ++ y2) = tmul A x1 x2 ++ tmul B y1 y2 := by
  have hC := besP_C hA hB
  rw [tmul_fold (n := n + m) (by rw [List.length_append, h1, h2]) (fun R hR => by rw [(hC.2 R hR).1, List.length_append, h3, h4]) (fun R hR => (hC.2 R hR).2)]
  unfold besP
  rw [hA.1, hB.1, List.map_append, List.map_map, List.map_map]
  have e1 : A.map ((fun R => foldQ (n + m) ((x2 ++ y2).zip R)) ∘ fun R => (R.map fun r => r ++ zr m) ++ List.replicate m (zr n ++ zr m)) = (A.map fun R => foldQ n (x2.zip R)).map (· ++ zr m) := by
    rw [List.map_map]
    apply List.map_congr_left
    intro R hR
    have hR := hA.2 R hR
    show foldQ (n + m) ((x2 ++ y2).zip ((R.map fun r => r ++ zr m) ++ List.replicate m (zr n ++ zr m))) = foldQ n (x2.zip R) ++ zr m
    unfold foldQ
    rw [List.zip_append (by rw [List.length_map, hR.1, h3]), List.foldl_append, List.zip_map_right]
    have z : (x2.zip R).map (Prod.map id fun r => r ++ zr m) = (x2.zip R).map fun p => (p.1, p.2 ++ zr m) := rfl
    rw [z]
    have w : (List.replicate (n + m) (0 : Rat)) = zr n ++ zr m := (zr_app n m).symm
    rw [w, fold_appR _ _ _ (fun p hp => by rw [List.length_replicate]; exact hR.2 _ (List.of_mem_zip (a := p.1) (b := p.2) hp).2) List.length_replicate]
    have l : ((x2.zip R).foldl stepQ (zr n)).length = n := foldQ_lenC hR.2
    exact fold_zero (n := n + m) _ _ (by rw [List.length_append, l, List.length_replicate]) fun p hp => by rw [(List.mem_replicate.mp (List.of_mem_zip (a := p.1) (b := p.2) hp).2).2, zr_app]
  have e2 : B.map ((fun R => foldQ (n + m) ((x2 ++ y2).zip R)) ∘ fun R => List.replicate n (zr n ++ zr m) ++ R.map fun r => zr n ++ r) = (B.map fun R => foldQ m (y2.zip R)).map (zr n ++ ·) := by
    rw [List.map_map]
    apply List.map_congr_left
    intro R hR
    have hR := hB.2 R hR
    show foldQ (n + m) ((x2 ++ y2).zip (List.replicate n (zr n ++ zr m) ++ R.map fun r => zr n ++ r)) = zr n ++ foldQ m (y2.zip R)
    unfold foldQ
    rw [List.zip_append (by rw [List.length_replicate, h3]), List.foldl_append, List.zip_map_right]
    have z : (y2.zip R).map (Prod.map id fun r => zr n ++ r) = (y2.zip R).map fun p => (p.1, zr n ++ p.2) := rfl
    rw [z, fold_zero (n := n + m) _ _ List.length_replicate fun p hp => by rw [(List.mem_replicate.mp (List.of_mem_zip (a := p.1) (b := p.2) hp).2).2, zr_app]]
    have w : (List.replicate (n + m) (0 : Rat)) = zr n ++ zr m := (zr_app n m).symm
    rw [w, fold_appL _ _ _ List.length_replicate]
  rw [e1, e2]
  show ((x1 ++ y1).zip ((A.map fun R => foldQ n (x2.zip R)).map (· ++ zr m) ++ (B.map fun R => foldQ m (y2.zip R)).map (zr n ++ ·))).foldl stepQ (List.replicate (n + m) 0) = _
  rw [List.zip_append (by rw [List.length_map, List.length_map, hA.1, h1]), List.foldl_append, zip_mapR x1 (A.map fun R => foldQ n (x2.zip R)) (· ++ zr m), zip_mapR y1 (B.map fun R => foldQ m (y2.zip R)) (zr n ++ ·)]
  have w : (List.replicate (n + m) (0 : Rat)) = zr n ++ zr m := (zr_app n m).symm
  rw [w, fold_appR _ _ _ (fun p hp => by
    rw [List.length_replicate]
    obtain ⟨R, hR, e⟩ := List.mem_map.mp (List.of_mem_zip (a := p.1) (b := p.2) hp).2
    rw [← e]
    exact foldQ_lenC (hA.2 R hR).2) List.length_replicate]
  have tA : tmul A x1 x2 = (x1.zip (A.map fun R => foldQ n (x2.zip R))).foldl stepQ (zr n) := tmul_fold h1 (fun R hR => by rw [(hA.2 R hR).1, h3]) fun R hR => (hA.2 R hR).2
  have tB : tmul B y1 y2 = (y1.zip (B.map fun R => foldQ m (y2.zip R))).foldl stepQ (zr m) := tmul_fold h2 (fun R hR => by rw [(hB.2 R hR).1, h4]) fun R hR => (hB.2 R hR).2
  rw [← tA]
  have l : (tmul A x1 x2).length = n := by
    rw [tA]
    exact foldQ_lenC (R := A.map fun R => foldQ n (x2.zip R)) fun r hr => by
      obtain ⟨R, hR, e⟩ := List.mem_map.mp hr
      rw [← e]
      exact foldQ_lenC (hA.2 R hR).2
  rw [fold_appL _ _ _ l, ← tB]
/-! ### crossed -/
def cro (l r : List Rat) : List Rat := l.flatMap fun a => r.map fun b => a * b
def croP (A B : List (List (List Rat))) : List (List (List Rat)) := A.flatMap fun L => B.map fun O => L.flatMap fun l => O.map fun r => cro l r
theorem flat_len {α β : Type} {m : Nat} {f : α → List β} : ∀ l : List α, (∀ a ∈ l, (f a).length = m) → (l.flatMap f).length = l.length * m
  | [], _ => by simp
  | a :: l, h => by
    rw [List.flatMap_cons, List.length_append, h a List.mem_cons_self, flat_len l fun b hb => h b (List.mem_cons_of_mem _ hb), List.length_cons, Nat.succ_mul, Nat.add_comm]
theorem cro_len (l r : List Rat) : (cro l r).length = l.length * r.length := flat_len l fun a _ => List.length_map _
theorem cro_addL : ∀ {x y r : List Rat}, x.length = y.length → cro (addRow x y) r = addRow (cro x r) (cro y r)
  | [], [], _, _ => rfl
  | [], _ :: _, _, h => by cases h
  | _ :: _, [], _, h => by cases h
  | a :: x, b :: y, r, h => by
    show (r.map fun c => (a + b) * c) ++ cro (addRow x y) r = addRow ((r.map fun c => a * c) ++ cro x r) ((r.map fun c => b * c) ++ cro y r)
    rw [addRow_app (by rw [List.length_map, List.length_map]), cro_addL (by simpa using h)]
    congr 1
    unfold addRow
    rw [List.zipWith_map, List.zipWith_self]
    apply List.map_congr_left
    intro c _
    exact Rat.add_mul a b c
theorem cro_addR {r s : List Rat} (h : r.length = s.length) : ∀ l : List Rat, cro l (addRow r s) = addRow (cro l r) (cro l s)
  | [] => rfl
  | a :: l => by
    show ((addRow r s).map fun c => a * c) ++ cro l (addRow r s) = addRow ((r.map fun c => a * c) ++ cro l r) ((s.map fun c => a * c) ++ cro l s)
    rw [addRow_app (by rw [List.length_map, List.length_map, h]), cro_addR h l, smul_add]
theorem cro_smulL (c : Rat) {r : List Rat} : ∀ x : List Rat, cro (x.map (c * ·)) r = (cro x r).map (c * ·)
  | [] => rfl
  | a :: x => by
    show (r.map fun b => (c * a) * b) ++ cro (x.map (c * ·)) r = ((r.map fun b => a * b) ++ cro x r).map (c * ·)
    rw [List.map_append, cro_smulL c x, smul_smul]
theorem cro_smulR (c : Rat) {r : List Rat} : ∀ x : List Rat, cro x (r.map (c * ·)) = (cro x r).map (c * ·)
  | [] => rfl
  | a :: x => by
    show ((r.map (c * ·)).map fun b => a * b) ++ cro x (r.map (c * ·)) = ((r.map fun b => a * b) ++ cro x r).map (c * ·)
    rw [List.map_append, cro_smulR c x, smul_smul, smul_smul, Rat.mul_comm a c]
theorem cro_0L (n : Nat) (r : List Rat) : cro (zr n) r = zr (n * r.length) := by
  have e : zr n = (zr n).map ((0 : Rat) * ·) := (rep0_smul 0 n).symm
  rw [e, cro_smulL]
  apply List.eq_replicate_iff.mpr
  refine ⟨by rw [List.length_map, cro_len, List.length_replicate], fun b hb => ?_⟩
  obtain ⟨a, _, rfl⟩ := List.mem_map.mp hb
  exact Rat.zero_mul a
theorem cro_0R (l : List Rat) (m : Nat) : cro l (zr m) = zr (l.length * m) := by
  have e : zr m = (zr m).map ((0 : Rat) * ·) := (rep0_smul 0 m).symm
  rw [e, cro_smulR]
  apply List.eq_replicate_iff.mpr
  refine ⟨by rw [List.length_map, cro_len, List.length_replicate], fun b hb => ?_⟩
  obtain ⟨a, _, rfl⟩ := List.mem_map.mp hb
  exact Rat.zero_mul a
theorem fold_croR {m : Nat} (l : List Rat) : ∀ (q : List (Rat × List Rat)) (v : List Rat), v.length = m → (∀ t ∈ q, t.2.length = m) → (q.map fun t => (t.1, cro l t.2)).foldl stepQ (cro l v) = cro l (q.foldl stepQ v)
  | [], _, _, _ => rfl
  | t :: q, v, hv, hq => by
    have ht := hq t List.mem_cons_self
    have e : stepQ (cro l v) (t.1, cro l t.2) = cro l (stepQ v t) := by
      unfold stepQ
      show addRow (cro l v) ((cro l t.2).map (t.1 * ·)) = _
      rw [← cro_smulR, ← cro_addR (by rw [List.length_map, ht, hv])]
    rw [List.map_cons, List.foldl_cons, List.foldl_cons, e]
    exact fold_croR l q _ (stepQ_len (t := t.1) hv ht) fun s hs => hq s (List.mem_cons_of_mem _ hs)
theorem fold_croL {n : Nat} (r : List Rat) : ∀ (q : List (Rat × List Rat)) (v : List Rat), v.length = n → (∀ t ∈ q, t.2.length = n) → (q.map fun t => (t.1, cro t.2 r)).foldl stepQ (cro v r) = cro (q.foldl stepQ v) r
  | [], _, _, _ => rfl
  | t :: q, v, hv, hq => by
    have ht := hq t List.mem_cons_self
    have e : stepQ (cro v r) (t.1, cro t.2 r) = cro (stepQ v t) r := by
      unfold stepQ
      show addRow (cro v r) ((cro t.2 r).map (t.1 * ·)) = _
      rw [← cro_smulL, ← cro_addL (by rw [List.length_map, ht, hv])]
    rw [List.map_cons, List.foldl_cons, List.foldl_cons, e]
    exact fold_croL r q _ (stepQ_len (t := t.1) hv ht) fun s hs => hq s (List.mem_cons_of_mem _ hs)
theorem cro_fold {n m : Nat} {p q : List (Rat × List Rat)} (hp : ∀ s ∈ p, s.2.length = n) (hq : ∀ t ∈ q, t.2.length = m) : foldQ (n * m) (p.flatMap fun s => q.map fun t => (s.1 * t.1, cro s.2 t.2)) = cro (foldQ n p) (foldQ m q) := by
  have e : (p.flatMap fun s => q.map fun t => (s.1 * t.1, cro s.2 t.2)) = (p.map fun s => (s.1, q.map fun t => (t.1, cro s.2 t.2))).flatMap fun z => z.2.map fun w => (z.1 * w.1, w.2) := by
    rw [List.flatMap_map]
    congr 1
    funext s
    rw [List.map_map]
    rfl
  have lq : (foldQ m q).length = m := foldQ_len q (fun t ht => hq t ht) _ List.length_replicate
  rw [e]
  show (List.flatMap _ _).foldl stepQ _ = _
  rw [fold_flat (n := n * m) _ _ List.length_replicate fun z hz w hw => ?_]
  · have e2 : ((p.map fun s => (s.1, q.map fun t => (t.1, cro s.2 t.2))).map fun z => (z.1, foldQ (n * m) z.2)) = p.map fun s => (s.1, cro s.2 (foldQ m q)) := by
      rw [List.map_map]
      apply List.map_congr_left
      intro s hs
      show (s.1, foldQ (n * m) (q.map fun t => (t.1, cro s.2 t.2))) = _
      congr 1
      have := fold_croR s.2 q (zr m) List.length_replicate hq
      rw [cro_0R, hp s hs] at this
      exact this
    rw [e2]
    have := fold_croL (foldQ m q) p (zr n) List.length_replicate hp
    rw [cro_0L, lq] at this
    exact this
  · obtain ⟨s, hs, rfl⟩ := List.mem_map.mp hz
    obtain ⟨t, ht, rfl⟩ := List.mem_map.mp hw
    show (cro s.2 t.2).length = _
    rw [cro_len, hp s hs, hq t ht]
theorem zip_cro {α β γ δ ε ζ : Type} {f : α → β → ε} {g : γ → δ → ζ} {y : List β} {O : List δ} (h : y.length = O.length) : ∀ (x : List α) (L : List γ), (x.flatMap fun a => y.map fun b => f a b).zip (L.flatMap fun l => O.map fun r => g l r) = (x.zip L).flatMap fun s => (y.zip O).map fun t => (f s.1 t.1, g s.2 t.2)
  | [], _ => by simp
  | _ :: _, [] => by simp
  | a :: x, l :: L => by
    rw [List.flatMap_cons, List.flatMap_cons, List.zip_append (by rw [List.length_map, List.length_map, h]), zip_cro h x L, List.zip_cons_cons, List.flatMap_cons]
    congr 1
    rw [List.zip_map]
    rfl
theorem croP_C {n m : Nat} {A B : List (List (List Rat))} (hA : okC n A) (hB : okC m B) : okC (n * m) (croP A B) := by
  unfold croP
  refine ⟨by rw [flat_len (m := m) A fun L _ => by rw [List.length_map, hB.1], hA.1], fun R hR => ?_⟩
  obtain ⟨L, hL, h⟩ := List.mem_flatMap.mp hR
  obtain ⟨O, hO, rfl⟩ := List.mem_map.mp h
  have a := hA.2 L hL
  have b := hB.2 O hO
  refine ⟨by rw [flat_len (m := m) L fun l _ => by rw [List.length_map, b.1], a.1], fun r hr => ?_⟩
  obtain ⟨l, hl, h⟩ := List.mem_flatMap.mp hr
  obtain ⟨o, ho, rfl⟩ := List.mem_map.mp h
  rw [cro_len, a.2 l hl, b.2 o ho]
theorem tmul_cro {n m : Nat} {A B : List (List (List Rat))} {x1 y1 x2 y2 : List Rat} (hA : okC n A) (hB : okC m B) (h1 : x1.length = n) (h2 : y1.length = m) (h3 : x2.length = n) (h4 : y2.length = m) : tmul (croP A B) (cro x1 y1) (cro x2 y2) = cro (tmul A x1 x2) (tmul B y1 y2) := by
  have hC := croP_C hA hB
  rw [tmul_fold (n := n * m) (by rw [cro_len, h1, h2]) (fun R hR => by rw [(hC.2 R hR).1, cro_len, h3, h4]) (fun R hR => (hC.2 R hR).2)]
  have tA : tmul A x1 x2 = foldQ n (x1.zip (A.map fun R => foldQ n (x2.zip R))) := tmul_fold h1 (fun R hR => by rw [(hA.2 R hR).1, h3]) fun R hR => (hA.2 R hR).2
  have tB : tmul B y1 y2 = foldQ m (y1.zip (B.map fun R => foldQ m (y2.zip R))) := tmul_fold h2 (fun R hR => by rw [(hB.2 R hR).1, h4]) fun R hR => (hB.2 R hR).2
  have e1 : (croP A B).map (fun R => foldQ (n * m) ((cro x2 y2).zip R)) = A.flatMap fun L => B.map fun O => cro (foldQ n (x2.zip L)) (foldQ m (y2.zip O)) := by
    unfold croP
    rw [List.map_flatMap]
    have key : ∀ As : List (List (List Rat)), (∀ L ∈ As, L.length = n ∧ ∀ r ∈ L, r.length = n) → (As.flatMap fun L => (B.map fun O => L.flatMap fun l => O.map fun r => cro l r).map fun R => foldQ (n * m) ((cro x2 y2).zip R)) = As.flatMap fun L => B.map fun O => cro (foldQ n (x2.zip L)) (foldQ m (y2.zip O)) := fun As => by
      induction As with
      | nil => exact fun _ => rfl
      | cons L As ih =>
        intro h
        have hL := h L List.mem_cons_self
        rw [List.flatMap_cons, List.flatMap_cons, ih fun S hS => h S (List.mem_cons_of_mem _ hS)]
        congr 1
        rw [List.map_map]
        apply List.map_congr_left
        intro O hO
        have hO := hB.2 O hO
        show foldQ (n * m) ((cro x2 y2).zip (L.flatMap fun l => O.map fun r => cro l r)) = _
        have z : (cro x2 y2).zip (L.flatMap fun l => O.map fun r => cro l r) = (x2.zip L).flatMap fun s => (y2.zip O).map fun t => (s.1 * t.1, cro s.2 t.2) := zip_cro (by rw [hO.1, h4]) x2 L
        rw [z]
        exact cro_fold (fun s hs => hL.2 _ (List.of_mem_zip (a := s.1) (b := s.2) hs).2) fun t ht => hO.2 _ (List.of_mem_zip (a := t.1) (b := t.2) ht).2
    exact key A hA.2
  rw [e1]
  have z : (cro x1 y1).zip (A.flatMap fun L => B.map fun O => cro (foldQ n (x2.zip L)) (foldQ m (y2.zip O))) = (x1.zip A).flatMap fun s => (y1.zip B).map fun t => (s.1 * t.1, cro (foldQ n (x2.zip s.2)) (foldQ m (y2.zip t.2))) := zip_cro (by rw [hB.1, h2]) x1 A
  rw [z, tA, tB, ← cro_fold]
  · congr 1
    rw [zip_mapR x1 A, List.flatMap_map]
    congr 1
    funext s
    rw [zip_mapR y1 B, List.map_map]
    rfl
  · intro s hs
    obtain ⟨R, hR, e⟩ := List.mem_map.mp (List.of_mem_zip (a := s.1) (b := s.2) hs).2
    rw [← e]
    exact foldQ_lenC (hA.2 R hR).2
  · intro s hs
    obtain ⟨R, hR, e⟩ := List.mem_map.mp (List.of_mem_zip (a := s.1) (b := s.2) hs).2
    rw [← e]
    exact foldQ_lenC (hB.2 R hR).2
end L2.PL
namespace L2.PL
open PySem PySem.Spec PyProof.Rows

abbrev Sm (H H' : Hp) : Prop := ∀ a o, H a = some o → H' a = some o
theorem Sm.rfl' {H : Hp} : Sm H H := fun _ _ e => e
theorem Sm.trans' {H H' H'' : Hp} (a : Sm H H') (b : Sm H' H'') : Sm H H'' := fun x o e => b x o (a x o e)
theorem sm_upd {H : Hp} {p : Addr} {o : HO} (h : H p = none) : Sm H (upd H p o) := fun b x e => by
  rw [upd_ne (ne_of_none e h)]; exact e

/-! ### readings by what they mean -/
def wE (X : Cx) (e : Expr) : TE := fun σ H Q => ∀ (pins : List (Addr × Obj)) (s : Shared), Inv X pins σ H s → wpAny (model X.prog X.w) X.A (eval e X.env) (EP X pins σ Q) X.xe s
def wT (X : Cx) (e : Expr) : TT := fun σ H Q => ∀ (pins : List (Addr × Obj)) (s : Shared), Inv X pins σ H s → wpAny (model X.prog X.w) X.A (isTrue e X.env (eval e X.env)) (TP X pins σ Q) X.xe s
def wW (X : Cx) (e : Expr) : TT := fun σ H Q => ∀ (whole : Sem Value) (pins : List (Addr × Obj)) (s : Shared), Inv X pins σ H s → wpAny (model X.prog X.w) X.A (isTrue e X.env whole) (TP X pins σ Q) X.xe s
def wA (X : Cx) (es : List Expr) : TA := fun σ H Q => ∀ (pos : Pos) (pins : List (Addr × Obj)) (s : Shared), Inv X pins σ H s → wpAny (model X.prog X.w) X.A (spliced (backTo pos (starEach es X.env))) (AP X pins σ Q) X.xe s
def wK (X : Cx) (kws : List Keyword) : TA := fun σ H Q => ∀ (pos : Pos) (pins : List (Addr × Obj)) (s : Shared), Inv X pins σ H s → wpAny (model X.prog X.w) X.A (evalAll ((backToKw pos (keywordEach kws X.env)).map (·.2))) (AP X pins σ Q) X.xe s
def wS (X : Cx) (st : Stmt) : TS := fun D σ H => ∀ (pins : List (Addr × Obj)) (s : Shared), Inv X pins σ H s → wpAny (model X.prog X.w) X.A (exec st X.env) (SP X pins D) X.xe s
def wB (X : Cx) (st : List Stmt) : TS := fun D σ H => ∀ (pins : List (Addr × Obj)) (s : Shared), Inv X pins σ H s → wpAny (model X.prog X.w) X.A (execs st X.env) (SP X pins D) X.xe s
section
variable {X : Cx} {e : Expr} {es : List Expr} {kws : List Keyword} {st : Stmt} {sts : List Stmt} {σ : St} {H : Hp}
theorem pe_wE : PE X e (wE X e) := ⟨fun pins s _ _ _ I h => h pins s I⟩
theorem pt_wT : PT X e (wT X e) := ⟨fun pins s _ _ _ I h => h pins s I⟩
theorem pw_wW : PW X e (wW X e) := ⟨fun wh pins s _ _ _ I h => h wh pins s I⟩
theorem pa_wA : PA X es (wA X es) := ⟨fun pos pins s _ _ _ I h => h pos pins s I⟩
theorem pk_wK : PK X kws (wK X kws) := ⟨fun pos pins s _ _ _ I h => h pos pins s I⟩
theorem ps_wS : PS X st (wS X st) := ⟨fun pins s _ _ _ I h => h pins s I⟩
theorem pss_wB : PSs X sts (wB X sts) := ⟨fun pins s _ _ _ I h => h pins s I⟩
theorem PE.w {t : TE} (h : PE X e t) {Q : VK} (q : t σ H Q) : wE X e σ H Q := fun pins s I => h.run pins s σ H Q I q
theorem PT.w {t : TT} (h : PT X e t) {Q : Bool → Hp → Prop} (q : t σ H Q) : wT X e σ H Q := fun pins s I => h.run pins s σ H Q I q
theorem PW.w {t : TT} (h : PW X e t) {Q : Bool → Hp → Prop} (q : t σ H Q) : wW X e σ H Q := fun wh pins s I => h.run wh pins s σ H Q I q
theorem PA.w {t : TA} (h : PA X es t) {Q : List V → Hp → Prop} (q : t σ H Q) : wA X es σ H Q := fun pos pins s I => h.run pos pins s σ H Q I q
theorem PK.w {t : TA} (h : PK X kws t) {Q : List V → Hp → Prop} (q : t σ H Q) : wK X kws σ H Q := fun pos pins s I => h.run pos pins s σ H Q I q
theorem PS.w {t : TS} (h : PS X st t) {D : Ends} (q : t D σ H) : wS X st D σ H := fun pins s I => h.run pins s σ H D I q
theorem PSs.w {t : TS} (h : PSs X sts t) {D : Ends} (q : t D σ H) : wB X sts D σ H := fun pins s I => h.run pins s σ H D I q
theorem wB_cons {D : Ends} (q : wS X st { D with nx := wB X sts D } σ H) : wB X (st :: sts) D σ H := PSs.w (pss_cons ps_wS pss_wB) q
theorem wB_nil {D : Ends} (q : D.nx σ H) : wB X [] D σ H := PSs.w pss_nil q
end

/-! ### assertions about values, kept when the heap grows -/
structure Asr where
  p : Hp → V → Prop
  mono : ∀ {H H' : Hp} {v : V}, Sm H H' → p H v → p H' v
def AllA : List Asr → Hp → List V → Prop
  | [], _, vs => vs = []
  | A :: As, F, vs => ∃ v vs', vs = v :: vs' ∧ A.p F v ∧ AllA As F vs'
theorem AllA.mono : ∀ {As : List Asr} {H H' : Hp} {vs : List V}, Sm H H' → AllA As H vs → AllA As H' vs
  | [], _, _, _, _, h => h
  | A :: As, _, _, _, s, ⟨v, vs', e, a, r⟩ => ⟨v, vs', e, A.mono s a, AllA.mono s r⟩
theorem AllA.len : ∀ {As : List Asr} {H : Hp} {vs : List V}, AllA As H vs → vs.length = As.length
  | [], _, _, h => by rw [h]; rfl
  | A :: As, _, _, ⟨v, vs', e, a, r⟩ => by rw [e, List.length_cons, List.length_cons, AllA.len r]
theorem AllA.get : ∀ {As : List Asr} {H : Hp} {vs : List V} {i : Nat} {A : Asr}, AllA As H vs → As[i]? = some A → ∃ v, vs[i]? = some v ∧ A.p H v
  | [], _, _, _, _, _, e => by simp at e
  | B :: As, _, _, 0, A, ⟨v, vs', e, a, r⟩, q => by simp at q; subst q; subst e; exact ⟨v, rfl, a⟩
  | B :: As, _, _, i + 1, A, ⟨v, vs', e, a, r⟩, q => by
    subst e
    obtain ⟨v', h1, h2⟩ := AllA.get (i := i) r (by simpa using q)
    exact ⟨v', by simpa using h1, h2⟩
theorem AllA.get' : ∀ {As : List Asr} {H : Hp} {vs : List V} {i : Nat} {v : V}, AllA As H vs → vs[i]? = some v → ∃ A, As[i]? = some A ∧ A.p H v := fun {As H vs i v} h e => by
  have hl := h.len
  have hi : i < vs.length := by
    rcases Nat.lt_or_ge i vs.length with q | q
    · exact q
    · rw [List.getElem?_eq_none q] at e; cases e
  have hA : As[i]? = some (As[i]'(by omega)) := List.getElem?_eq_getElem (by omega)
  obtain ⟨v', h1, h2⟩ := h.get hA
  rw [e] at h1; cases h1
  exact ⟨_, hA, h2⟩
theorem AllA.app : ∀ {As Bs : List Asr} {H : Hp} {vs ws : List V}, AllA As H vs → AllA Bs H ws → AllA (As ++ Bs) H (vs ++ ws)
  | [], _, _, _, _, h, h' => by rw [h]; exact h'
  | A :: As, _, _, _, _, ⟨v, vs', e, a, r⟩, h' => by subst e; exact ⟨v, _, rfl, a, AllA.app r h'⟩
theorem AllA.one {A : Asr} {H : Hp} {v : V} (h : A.p H v) : AllA [A] H [v] := ⟨v, [], rfl, h, rfl⟩
theorem AllA.set : ∀ {As : List Asr} {H : Hp} {vs : List V} {i : Nat} {A : Asr} {v : V}, AllA As H vs → A.p H v → AllA (As.set i A) H (vs.set i v)
  | [], _, _, _, _, _, h, _ => by rw [h]; rfl
  | B :: As, _, _, 0, A, v, ⟨v', vs', e, a, r⟩, q => by subst e; exact ⟨v, vs', rfl, q, r⟩
  | B :: As, _, _, i + 1, A, v, ⟨v', vs', e, a, r⟩, q => by subst e; exact ⟨v', _, rfl, a, AllA.set r q⟩
theorem AllA.rep {A : Asr} {H : Hp} {v : V} (h : A.p H v) : ∀ n : Nat, AllA (List.replicate n A) H (List.replicate n v)
  | 0 => rfl
  | n + 1 => ⟨v, _, rfl, h, AllA.rep h n⟩
theorem AllA.rev : ∀ {As : List Asr} {H : Hp} {vs : List V}, AllA As H vs → AllA As.reverse H vs.reverse
  | [], _, _, h => by rw [h]; rfl
  | A :: As, _, _, ⟨v, vs', e, a, r⟩ => by
    subst e
    rw [List.reverse_cons, List.reverse_cons]
    exact AllA.app r.rev (AllA.one a)
theorem AllA.take : ∀ {As : List Asr} {H : Hp} {vs : List V} (n : Nat), AllA As H vs → AllA (As.take n) H (vs.take n)
  | _, _, _, 0, _ => rfl
  | [], _, _, n + 1, h => by rw [h]; rfl
  | A :: As, _, _, n + 1, ⟨v, vs', e, a, r⟩ => by subst e; exact ⟨v, _, rfl, a, AllA.take n r⟩
theorem AllA.drop : ∀ {As : List Asr} {H : Hp} {vs : List V} (n : Nat), AllA As H vs → AllA (As.drop n) H (vs.drop n)
  | _, _, _, 0, h => h
  | [], _, _, n + 1, h => by rw [h]; rfl
  | A :: As, _, _, n + 1, ⟨v, vs', e, a, r⟩ => by subst e; exact AllA.drop n r

def isV (w : V) : Asr := ⟨fun _ v => v = w, fun _ h => h⟩
abbrev aInt (i : Int) : Asr := isV (.int i)
abbrev isBl (b : Bool) : Asr := isV (.bl b)
abbrev isNon : Asr := isV .non
abbrev isStr (x : Str) : Asr := isV (.str x)
def exA {α : Type} (P : α → Prop) (A : α → Asr) : Asr := ⟨fun H v => ∃ x, P x ∧ (A x).p H v, fun s ⟨x, p, h⟩ => ⟨x, p, (A x).mono s h⟩⟩
def anyA : Asr := ⟨fun _ _ => True, fun _ h => h⟩
theorem Rd.mono {H H' : Hp} {a : Addr} {u : HO} (s : Sm H H') : Rd H a u → Rd H' a u
  | .inl h => .inl (s _ _ h)
  | .inr ⟨o, h⟩ => .inr ⟨o, s _ _ h⟩
theorem SqL.mono {K : PySem.W.Frag} {H H' : Hp} {a : Addr} {xs : List V} (s : Sm H H') : SqL K H a xs → SqL K H' a xs
  | .inl h => .inl (Rd.mono s h)
  | .inr h => .inr h
theorem SqT.mono {K : PySem.W.Frag} {H H' : Hp} {a : Addr} {xs : List V} (s : Sm H H') : SqT K H a xs → SqT K H' a xs
  | .inl h => .inl (Rd.mono s h)
  | .inr h => .inr h
def isTup (K : PySem.W.Frag) (As : List Asr) : Asr := ⟨fun F v => ∃ a vs, v = .ref a ∧ SqT K F a vs ∧ AllA As F vs, fun s ⟨a, vs, e, h, r⟩ => ⟨a, vs, e, SqT.mono s h, r.mono s⟩⟩
def isLst (K : PySem.W.Frag) (As : List Asr) : Asr := ⟨fun F v => ∃ a vs, v = .ref a ∧ SqL K F a vs ∧ AllA As F vs, fun s ⟨a, vs, e, h, r⟩ => ⟨a, vs, e, SqL.mono s h, r.mono s⟩⟩

/-! ### where one stands -/
open Classical in
noncomputable def fz (M : Addr → Prop) (H : Hp) : Hp := fun a => if M a then none else H a
theorem fz_pos {M : Addr → Prop} {H : Hp} {a : Addr} (h : M a) : fz M H a = none := by unfold fz; rw [if_pos h]
theorem fz_neg {M : Addr → Prop} {H : Hp} {a : Addr} (h : ¬ M a) : fz M H a = H a := by unfold fz; rw [if_neg h]
theorem fz_sub {M : Addr → Prop} {H : Hp} : Sm (fz M H) H := fun a o e => by
  by_cases h : M a
  · rw [fz_pos h] at e; cases e
  · rw [fz_neg h] at e; exact e
theorem fz_some {M : Addr → Prop} {H : Hp} {a : Addr} {o : HO} (h : fz M H a = some o) : ¬ M a ∧ H a = some o := by
  by_cases z : M a
  · rw [fz_pos z] at h; cases h
  · rw [fz_neg z] at h; exact ⟨z, h⟩
/-- fewer mutable ones: more stands -/
theorem fz_less {M M' : Addr → Prop} {H : Hp} (h : ∀ a, M' a → M a) : Sm (fz M H) (fz M' H) := fun a o e => by
  obtain ⟨n, e⟩ := fz_some e
  rw [fz_neg fun z => n (h a z)]; exact e
structure Gx where
  M : Addr → Prop
  L : Addr → Prop
  M0 : Addr → Prop
  H0 : Hp
  sub : ∀ a, M0 a → M a
  fr : ∀ a, M a → M0 a ∨ H0 a = none
/-- what is held of the changeable ones -/
structure Iv (M : Addr → Prop) where
  p : Hp → Prop
  dep : ∀ H H', (∀ a, M a → H' a = H a) → p H → p H'
/-- what may be changed here, or is changed by others -/
def Gx.U (G : Gx) (a : Addr) : Prop := G.M a ∨ G.L a
abbrev Slots := List (Option Asr)
def Sat (Γ : Slots) (F : Hp) (σ : St) : Prop := ∀ (i : Nat) (A : Asr), Γ[i]? = some (some A) → ∃ v, σ[i]? = some (some v) ∧ A.p F v
theorem Sat.mono {Γ : Slots} {F F' : Hp} {σ : St} (s : Sm F F') (h : Sat Γ F σ) : Sat Γ F' σ := fun i A e => by
  obtain ⟨v, h1, h2⟩ := h i A e
  exact ⟨v, h1, A.mono s h2⟩
theorem Sat.set {Γ : Slots} {F : Hp} {σ : St} {i : Nat} {A : Asr} {v : V} (h : Sat Γ F σ) (hi : i < σ.length) (a : A.p F v) : Sat (Γ.set i (some A)) F (σ.set i (some v)) := fun j B e => by
  by_cases q : i = j
  · subst q
    by_cases z : i < Γ.length
    · rw [List.getElem?_set_self z] at e
      cases e
      exact ⟨v, List.getElem?_set_self hi, a⟩
    · rw [List.getElem?_eq_none (by rw [List.length_set]; omega)] at e; cases e
  · rw [List.getElem?_set_ne q] at e ⊢
    exact h j B e
structure Gx.Ok (G : Gx) (I : Iv G.M) (Γ : Slots) (σ : St) (H : Hp) : Prop where
  frame : ∀ a o, ¬ G.M0 a → G.H0 a = some o → H a = some o
  live : ∀ a, G.U a → H a ≠ none
  inv : I.p H
  sat : Sat Γ (fz G.U H) σ
  len : σ.length = Γ.length
structure Gx.To (G : Gx) (I : Iv G.M) (H H' : Hp) : Prop where
  keep : ∀ a o, ¬ G.M a → H a = some o → H' a = some o
  live : ∀ a, G.U a → H' a ≠ none
  inv : I.p H'
section
variable {G : Gx} {I J : Iv G.M} {Γ : Slots} {σ : St} {H H' H'' : Hp} {p : Addr} {o : HO}
theorem Gx.To.fz (t : G.To I H H') : Sm (fz G.U H) (fz G.U H') := fun a o e => by
  obtain ⟨n, e⟩ := fz_some e
  rw [fz_neg n]; exact t.keep a o (fun z => n (.inl z)) e
theorem Gx.To.trans (t : G.To I H H') (u : G.To J H' H'') : G.To J H H'' := ⟨fun a o n e => u.keep a o n (t.keep a o n e), u.live, u.inv⟩
theorem Gx.Ok.to (k : G.Ok I Γ σ H) (t : G.To J H H') : G.Ok J Γ σ H' :=
  ⟨fun a o n e => t.keep a o (fun z => (G.fr a z).elim n fun q => by rw [q] at e; cases e) (k.frame a o n e), t.live, t.inv, k.sat.mono t.fz, k.len⟩
theorem Gx.Ok.self (k : G.Ok I Γ σ H) : G.To I H H := ⟨fun _ _ _ e => e, k.live, k.inv⟩
theorem Gx.To.post (t : G.To I H H') (h : ∀ H, I.p H → J.p H) : G.To J H H' := ⟨t.keep, t.live, h _ t.inv⟩
theorem Gx.Ok.post (t : G.Ok I Γ σ H) (h : ∀ H, I.p H → J.p H) : G.Ok J Γ σ H := ⟨t.frame, t.live, h _ t.inv, t.sat, t.len⟩
/-- a new object -/
theorem Gx.To.new (l : ∀ a, G.U a → H a ≠ none) (i : I.p H) (h : H p = none) : G.To I H (upd H p o) := by
  have ne : ∀ a, G.U a → a ≠ p := fun a m z => l a m (by rw [z]; exact h)
  refine ⟨fun a o _ e => sm_upd h a o e, fun a m => ?_, I.dep H _ (fun a m => upd_ne (ne a (.inl m))) i⟩
  rw [upd_ne (ne a m)]; exact l a m
theorem Gx.To.new' {H0 : Hp} (t : G.To I H0 H) (h : H p = none) : G.To I H0 (upd H p o) := t.trans (.new t.live t.inv h)
theorem fz_new (l : ∀ a, G.U a → H a ≠ none) (h : H p = none) : L2.PL.fz G.U (upd H p o) p = some o := by
  rw [fz_neg fun m => l p m h]; exact upd_same
theorem Gx.Ok.setv {i : Nat} {A : Asr} {v : V} (k : G.Ok I Γ σ H) (hi : i < Γ.length) (a : A.p (fz G.U H) v) : G.Ok I (Γ.set i (some A)) (σ.set i (some v)) H :=
  ⟨k.frame, k.live, k.inv, k.sat.set (by rw [k.len]; exact hi) a, by rw [List.length_set, List.length_set]; exact k.len⟩
/-- slots forgotten, or less said of them -/
def Low : Slots → Slots → Prop
  | [], [] => True
  | none :: r, _ :: r' => Low r r'
  | some A :: r, some B :: r' => (∀ F v, B.p F v → A.p F v) ∧ Low r r'
  | _, _ => False
theorem Low.sat : ∀ {Γ Γ' : Slots} {F : Hp} {σ : St}, Low Γ Γ' → Sat Γ' F σ → Sat Γ F σ ∧ Γ.length = Γ'.length
  | [], [], _, _, _, s => ⟨s, rfl⟩
  | none :: r, B :: r', F, [], h, s => by
    have z := Low.sat (σ := []) (show Low r r' from h) (F := F) fun i A e => by
      obtain ⟨v, e1, _⟩ := s (i + 1) A (by simpa using e)
      simp at e1
    refine ⟨fun i A e => ?_, by simp [z.2]⟩
    cases i with
    | zero => simp at e
    | succ i =>
      obtain ⟨v, e1, _⟩ := z.1 i A (by simpa using e)
      simp at e1
  | none :: r, B :: r', F, x :: σ, h, s => by
    have z := Low.sat (σ := σ) (show Low r r' from h) (F := F) fun i A e => by
      obtain ⟨v, e1, a1⟩ := s (i + 1) A (by simpa using e)
      exact ⟨v, by simpa using e1, a1⟩
    refine ⟨fun i A e => ?_, by simp [z.2]⟩
    cases i with
    | zero => simp at e
    | succ i =>
      obtain ⟨v, e1, a1⟩ := z.1 i A (by simpa using e)
      exact ⟨v, by simpa using e1, a1⟩
  | some A :: r, some B :: r', F, [], h, s => by
    obtain ⟨v, e1, _⟩ := s 0 B rfl
    simp at e1
  | some A :: r, some B :: r', F, x :: σ, h, s => by
    have z := Low.sat (σ := σ) h.2 (F := F) fun i A e => by
      obtain ⟨v, e1, a1⟩ := s (i + 1) A (by simpa using e)
      exact ⟨v, by simpa using e1, a1⟩
    refine ⟨fun i C e => ?_, by simp [z.2]⟩
    cases i with
    | zero =>
      simp at e
      subst e
      obtain ⟨v, e1, a1⟩ := s 0 B rfl
      exact ⟨v, e1, h.1 _ _ a1⟩
    | succ i =>
      obtain ⟨v, e1, a1⟩ := z.1 i C (by simpa using e)
      exact ⟨v, by simpa using e1, a1⟩
  | [], _ :: _, _, _, h, _ => h.elim
  | none :: _, [], _, _, h, _ => h.elim
  | some _ :: _, [], _, _, h, _ => h.elim
  | some _ :: _, none :: _, _, _, h, _ => h.elim
theorem Gx.Ok.low {Γ' : Slots} (k : G.Ok I Γ σ H) (h : Low Γ' Γ) : G.Ok I Γ' σ H := by
  obtain ⟨s, l⟩ := h.sat k.sat
  exact ⟨k.frame, k.live, k.inv, s, by rw [l]; exact k.len⟩
end
/-! ### the judgements -/
def EX (X : Cx) (G : Gx) (I : Iv G.M) (Γ : Slots) (e : Expr) (A : Asr) (J : Iv G.M) : Prop := ∀ (σ : St) (H : Hp) (Q : VK), G.Ok I Γ σ H → (∀ H' v, G.To J H H' → A.p (fz G.U H') v → Q v H') → wE X e σ H Q
def AX (X : Cx) (G : Gx) (I : Iv G.M) (Γ : Slots) (es : List Expr) (As : List Asr) (J : Iv G.M) : Prop := ∀ (σ : St) (H : Hp) (Q : List V → Hp → Prop), G.Ok I Γ σ H → (∀ H' vs, G.To J H H' → AllA As (fz G.U H') vs → Q vs H') → wA X es σ H Q
def KX (X : Cx) (G : Gx) (I : Iv G.M) (Γ : Slots) (kws : List Keyword) (As : List Asr) (J : Iv G.M) : Prop := ∀ (σ : St) (H : Hp) (Q : List V → Hp → Prop), G.Ok I Γ σ H → (∀ H' vs, G.To J H H' → AllA As (fz G.U H') vs → Q vs H') → wK X kws σ H Q
/-- a test, its answer b -/
def TX (X : Cx) (G : Gx) (I : Iv G.M) (Γ : Slots) (e : Expr) (P : Bool → Prop) (J : Iv G.M) : Prop := ∀ (σ : St) (H : Hp) (Q : Bool → Hp → Prop), G.Ok I Γ σ H → (∀ H' b, G.To J H H' → P b → Q b H') → wT X e σ H Q
def WX (X : Cx) (G : Gx) (I : Iv G.M) (Γ : Slots) (e : Expr) (P : Bool → Prop) (J : Iv G.M) : Prop := ∀ (σ : St) (H : Hp) (Q : Bool → Hp → Prop), G.Ok I Γ σ H → (∀ H' b, G.To J H H' → P b → Q b H') → wW X e σ H Q
def SX (X : Cx) (G : Gx) (I : Iv G.M) (Γ : Slots) (sts : List Stmt) (D : Ends) : Prop := ∀ (σ : St) (H : Hp), G.Ok I Γ σ H → wB X sts D σ H

section
variable {X : Cx} {G : Gx} {I J K : Iv G.M} {Γ : Slots} {e a b : Expr} {es : List Expr} {A B : Asr} {As : List Asr} {pos : Pos}
theorem EX.imp (h : EX X G I Γ e A J) (f : ∀ F v, A.p F v → B.p F v) : EX X G I Γ e B J := fun σ H Q k q => h σ H Q k fun H' v t r => q H' v t (f _ _ r)
theorem EX.ex {α : Type} {P : α → Prop} {B : α → Asr} (x : α) (h : EX X G I Γ e (B x) J) (p : P x) : EX X G I Γ e (exA P B) J := h.imp fun _ _ r => ⟨x, p, r⟩
theorem ex_var {i : Nat} {x : Str} (hN : X.N[i]? = some x) (hv : Vis X.env.scope x) (hg : Γ[i]? = some (some A)) (hd : (x == ("__debug__" : Str)) = false := by decide) (hcd : (x == ("__classdict__" : Str)) = false := by decide) : EX X G I Γ (.Name x pos) A I := fun σ H Q k q => by
  obtain ⟨v, e, h⟩ := k.sat i A hg
  exact PE.w (pe_var hN hv hd hcd) ⟨v, e, q H v k.self h⟩
theorem ex_int {i : Int} {j} : EX X G I Γ (.Constant (.int i) j pos) (aInt i) I := fun σ H Q k q => PE.w pe_int (q H _ k.self rfl)
theorem ex_bl {i : Bool} {j} : EX X G I Γ (.Constant (.bool i) j pos) (isBl i) I := fun σ H Q k q => PE.w pe_bl (q H _ k.self rfl)
theorem ex_non {j} : EX X G I Γ (.Constant .none j pos) isNon I := fun σ H Q k q => PE.w pe_non (q H _ k.self rfl)
theorem ex_str {x : Str} {j} : EX X G I Γ (.Constant (.str x) j pos) (isStr x) I := fun σ H Q k q => PE.w pe_str (q H _ k.self rfl)
/-- a global, a value that stands in the written part -/
theorem ex_glob {x : Str} {v : V} {u : Value} (hg : Gl X x) (hm : X.mg x = some u) (r : RelV v u) (h : ∀ F, A.p F v) (hd : (x == ("__debug__" : Str)) = false := by decide) : EX X G I Γ (.Name x pos) A I := fun σ H Q k q => PE.w (pe_glob hg hm r hd) (q H _ k.self (h _))
theorem ex_op2 {op : Operator} {r : R2} (ho : OpR X (binaryOp op) r) (ha : EX X G I Γ a A J) (hb : EX X G J Γ b B K) {C : Asr}
    (h : ∀ (F : Hp) (x y : V), A.p F x → B.p F y → ∀ (H : Hp) (Q : VK), Sm F H → (∀ v, C.p F v → Q v H) → r x y H Q) : EX X G I Γ (.BinOp a op b pos) C K := fun σ H Q k q =>
  PE.w (pe_op ho pe_wE pe_wE) (ha σ H _ k fun H1 x t1 a1 => hb σ H1 _ (k.to t1) fun H2 y t2 b2 => h (fz G.U H2) x y (A.mono t2.fz a1) b2 H2 Q fz_sub fun v c => q H2 v (t1.trans t2) c)
theorem ex_opI {op : Operator} {C : Int → Int → Prop} {g : Int → Int → V} {i j : Int} (ho : OpR X (binaryOp op) (rI C g)) (ha : EX X G I Γ a (aInt i) J) (hb : EX X G J Γ b (aInt j) K) (hc : C i j) : EX X G I Γ (.BinOp a op b pos) (isV (g i j)) K :=
  ex_op2 ho ha hb fun F x y ex ey H Q _ q => ⟨i, j, ex, ey, hc, q _ rfl⟩
theorem ex_opI0 {op : Operator} {g : Int → Int → V} {i j : Int} (ho : OpR X (binaryOp op) (rI0 g)) (ha : EX X G I Γ a (aInt i) J) (hb : EX X G J Γ b (aInt j) K) : EX X G I Γ (.BinOp a op b pos) (isV (g i j)) K :=
  ex_op2 ho ha hb fun F x y ex ey H Q _ q => ⟨i, j, ex, ey, q _ rfl⟩
theorem ex_add {i j : Int} (ha : EX X G I Γ a (aInt i) J) (hb : EX X G J Γ b (aInt j) K) : EX X G I Γ (.BinOp a .Add b pos) (aInt (i + j)) K := ex_opI0 op_add ha hb
theorem ex_sub {i j : Int} (ha : EX X G I Γ a (aInt i) J) (hb : EX X G J Γ b (aInt j) K) : EX X G I Γ (.BinOp a .Sub b pos) (aInt (i - j)) K := ex_opI0 op_sub ha hb
/-- bits -/
abbrev Bits (n : Nat) (i : Int) : Prop := i.natAbs < 2 ^ n
theorem ex_mul {i j : Int} (ha : EX X G I Γ a (aInt i) J) (hb : EX X G J Γ b (aInt j) K) (hc : ∃ m n, Bits m i ∧ Bits n j ∧ m + n ≤ 134217728) : EX X G I Γ (.BinOp a .Mult b pos) (aInt (i * j)) K :=
  ex_opI (C := CMulX) op_mulX ha hb (let ⟨m, n, h1, h2, h3⟩ := hc; mulx_ok h1 h2 h3)
theorem op_fdivA : OpR X (binaryOp .FloorDiv) (rI (fun _ j => j ≠ 0 ∧ j.natAbs.log2 < 9000) fun i j => .int (i.fdiv j)) := opI fun i j _ _ _ _ _ hc q =>
  floordiv_int hc.1 q (.inl (PyProof.noPylong_of_log2 hc.2))
theorem ex_fdiv {i j : Int} (ha : EX X G I Γ a (aInt i) J) (hb : EX X G J Γ b (aInt j) K) (h0 : j ≠ 0) (hc : Bits 9000 j) : EX X G I Γ (.BinOp a .FloorDiv b pos) (aInt (i.fdiv j)) K :=
  ex_opI op_fdivA ha hb ⟨h0, PySem.Flt.log2_lt_of (by decide) hc⟩
theorem ex_mod {i j : Int} (ha : EX X G I Γ a (aInt i) J) (hb : EX X G J Γ b (aInt j) K) (h0 : j ≠ 0) : EX X G I Γ (.BinOp a .Mod b pos) (aInt (i.fmod j)) K :=
  ex_opI (C := fun _ j => j ≠ 0) op_modN ha hb h0
theorem op_powA : OpR X (binaryOp .Pow) (rI (fun i j => 0 ≤ j ∧ (Builtin.Int.intBits i : Int) * j ≤ 2 ^ 27) fun i j => .int (i ^ j.toNat)) := opI fun _ _ _ _ _ _ _ hc q => pow_int hc.1 hc.2 q
theorem intBits_le {i : Int} {n : Nat} (h : Bits n i) (h0 : 0 < n) : Builtin.Int.intBits i ≤ n := by
  have := PySem.Flt.log2_lt_of h0 h
  unfold Builtin.Int.intBits
  split <;> omega
theorem ex_pow {i : Int} {k : Nat} (ha : EX X G I Γ a (aInt i) J) (hb : EX X G J Γ b (aInt (k : Int)) K) (hc : ∃ n, 0 < n ∧ Bits n i ∧ n * k ≤ 134217728) : EX X G I Γ (.BinOp a .Pow b pos) (aInt (i ^ k)) K := by
  obtain ⟨n, h0, h1, h2⟩ := hc
  refine ex_opI (g := fun i j => .int (i ^ j.toNat)) op_powA ha hb ⟨Int.natCast_nonneg _, ?_⟩
  have e : Builtin.Int.intBits i * k ≤ n * k := Nat.mul_le_mul_right _ (intBits_le h1 h0)
  have : ((Builtin.Int.intBits i * k : Nat) : Int) ≤ 2 ^ 27 := by omega
  rw [Int.natCast_mul] at this
  exact this
theorem ex_neg {i : Int} (ha : EX X G I Γ a (aInt i) J) : EX X G I Γ (.UnaryOp .USub a pos) (aInt (-i)) J := fun σ H Q k q => PE.w (pe_un un_neg pe_wE) (ha σ H _ k fun H1 x t1 a1 => ⟨i, a1, q H1 _ t1 rfl⟩)
/-! comparisons -/
theorem ex_cmp2 {op : CmpOp} {r : R2} (ho : OpR X (compareOp op) r) (hm : behindInMarks op b = false) (ha : EX X G I Γ a A J) (hb : EX X G J Γ b B K) {C : Asr}
    (h : ∀ (F : Hp) (x y : V), A.p F x → B.p F y → ∀ (H : Hp) (Q : VK), Sm F H → (∀ v, C.p F v → Q v H) → r x y H Q) : EX X G I Γ (.Compare a [op] [b] pos) C K := fun σ H Q k q =>
  PE.w (pe_cmpR ho pe_wE pe_wE hm) (ha σ H _ k fun H1 x t1 a1 => hb σ H1 _ (k.to t1) fun H2 y t2 b2 => h (fz G.U H2) x y (A.mono t2.fz a1) b2 H2 Q fz_sub fun v c => q H2 v (t1.trans t2) c)
theorem ex_cmpI {op : CmpOp} {g : Int → Int → V} {i j : Int} (ho : OpR X (compareOp op) (rI0 g)) (hm : behindInMarks op b = false) (ha : EX X G I Γ a (aInt i) J) (hb : EX X G J Γ b (aInt j) K) : EX X G I Γ (.Compare a [op] [b] pos) (isV (g i j)) K :=
  ex_cmp2 ho hm ha hb fun F x y ex ey H Q _ q => ⟨i, j, ex, ey, q _ rfl⟩
theorem ex_lt {i j : Int} (ha : EX X G I Γ a (aInt i) J) (hb : EX X G J Γ b (aInt j) K) : EX X G I Γ (.Compare a [.Lt] [b] pos) (isBl (decide (i < j))) K := ex_cmpI op_lt (nomark _) ha hb
theorem ex_le {i j : Int} (ha : EX X G I Γ a (aInt i) J) (hb : EX X G J Γ b (aInt j) K) : EX X G I Γ (.Compare a [.LtE] [b] pos) (isBl (decide (i ≤ j))) K := ex_cmpI op_le (nomark _) ha hb
theorem ex_gt {i j : Int} (ha : EX X G I Γ a (aInt i) J) (hb : EX X G J Γ b (aInt j) K) : EX X G I Γ (.Compare a [.Gt] [b] pos) (isBl (decide (j < i))) K := ex_cmpI op_gt (nomark _) ha hb
theorem ex_ge {i j : Int} (ha : EX X G I Γ a (aInt i) J) (hb : EX X G J Γ b (aInt j) K) : EX X G I Γ (.Compare a [.GtE] [b] pos) (isBl (decide (j ≤ i))) K := ex_cmpI op_ge (nomark _) ha hb
/-- == of two ints, two bools -/
theorem ex_eq {x y : V} (hs : scal x y = true) (ha : EX X G I Γ a (isV x) J) (hb : EX X G J Γ b (isV y) K) : EX X G I Γ (.Compare a [.Eq] [b] pos) (isBl (decide (x = y))) K :=
  ex_cmp2 op_eq (nomark _) ha hb fun F x' y' ex ey H Q _ q => by cases ex; cases ey; exact ⟨hs, q _ rfl⟩
theorem ex_ne {x y : V} (hs : scal x y = true) (ha : EX X G I Γ a (isV x) J) (hb : EX X G J Γ b (isV y) K) : EX X G I Γ (.Compare a [.NotEq] [b] pos) (isBl (!decide (x = y))) K :=
  ex_cmp2 op_ne (nomark _) ha hb fun F x' y' ex ey H Q _ q => by cases ex; cases ey; exact ⟨hs, q _ rfl⟩
theorem dec_int' {i j : Int} : decide (V.int i = V.int j) = decide (i = j) := by
  by_cases h : i = j
  · subst h; simp
  · rw [decide_eq_false h, decide_eq_false fun z => h (V.int.inj z)]
theorem ex_eqI {i j : Int} (ha : EX X G I Γ a (aInt i) J) (hb : EX X G J Γ b (aInt j) K) : EX X G I Γ (.Compare a [.Eq] [b] pos) (isBl (decide (i = j))) K := by rw [← dec_int']; exact ex_eq rfl ha hb
theorem ex_neI {i j : Int} (ha : EX X G I Γ a (aInt i) J) (hb : EX X G J Γ b (aInt j) K) : EX X G I Γ (.Compare a [.NotEq] [b] pos) (isBl (!decide (i = j))) K := by rw [← dec_int']; exact ex_ne rfl ha hb
theorem ex_isN {x : V} (ha : EX X G I Γ a (isV x) J) {j p} : EX X G I Γ (.Compare a [.Is] [.Constant .none j p] pos) (isBl (decide (x = .non))) J :=
  ex_cmp2 op_isN (nomark _) ha ex_non fun F x' y' ex ey H Q _ q => by cases ex; cases ey; exact ⟨rfl, q _ rfl⟩
/-! arguments, displays -/
theorem ax_nil : AX X G I Γ [] [] I := fun σ H Q k q => PA.w pa_nil (q H [] k.self rfl)
theorem ax_cons (ha : EX X G I Γ e A J) (hr : AX X G J Γ es As K) (hs : starEach (e :: es) X.env = (false, eval e X.env) :: starEach es X.env := by rfl) : AX X G I Γ (e :: es) (A :: As) K := fun σ H Q k q =>
  PA.w (pa_cons pe_wE pa_wA hs) (ha σ H _ k fun H1 x t1 a1 => hr σ H1 _ (k.to t1) fun H2 xs t2 r => q H2 _ (t1.trans t2) ⟨x, xs, rfl, A.mono t2.fz a1, r⟩)
theorem kx_nil : KX X G I Γ [] [] I := fun σ H Q k q => PK.w pk_nil (q H [] k.self rfl)
theorem kx_cons {nm : Option Str} {kpos : Pos} {kws : List Keyword} (ha : EX X G I Γ e A J) (hr : KX X G J Γ kws As K) : KX X G I Γ (⟨nm, e, kpos⟩ :: kws) (A :: As) K := fun σ H Q k q =>
  PK.w (pk_cons pe_wE pk_wK) (ha σ H _ k fun H1 x t1 a1 => hr σ H1 _ (k.to t1) fun H2 xs t2 r => q H2 _ (t1.trans t2) ⟨x, xs, rfl, A.mono t2.fz a1, r⟩)
theorem small_sz {n : Nat} (h : n ≤ 100000) : n ≤ sizeLine := by rw [sizeLine_eq]; omega
theorem ex_tup {x1} (h : AX X G I Γ es As J) (hz : As.length ≤ 100000) : EX X G I Γ (.Tuple es x1 pos) (isTup X.K As) J := fun σ H Q k q =>
  PE.w (pe_tup pa_wA) (h σ H _ k fun H1 xs t1 r => ⟨small_sz (by rw [r.len]; exact hz), fun p hp => q _ _ (t1.new' hp) ⟨p, xs, rfl, .inl (.inl (fz_new t1.live hp)), r.mono (Gx.To.new t1.live t1.inv hp).fz⟩⟩)
theorem ex_lst (h : AX X G I Γ es As J) (hz : As.length ≤ 100000) : EX X G I Γ (.List es pos) (isLst X.K As) J := fun σ H Q k q =>
  PE.w (pe_lst pa_wA) (h σ H _ k fun H1 xs t1 r => ⟨small_sz (by rw [r.len]; exact hz), fun p hp => q _ _ (t1.new' hp) ⟨p, xs, rfl, .inl (.inl (fz_new t1.live hp)), r.mono (Gx.To.new t1.live t1.inv hp).fz⟩⟩)
/-! subscripts -/
theorem ex_ixL {i : Int} {k : Nat} (hs : PlainIx b) (ha : EX X G I Γ a (isLst X.K As) J) (hb : EX X G J Γ b (aInt i) K) (hi : i = (k : Int)) (hA : As[k]? = some A) : EX X G I Γ (.Subscript a b pos) A K := fun σ H Q kk q =>
  PE.w (pe_ix ix_list pe_wE pe_wE hs) (ha σ H _ kk fun H1 x t1 a1 => hb σ H1 _ (kk.to t1) fun H2 y t2 b2 => by
    obtain ⟨p, vs, rfl, h, r⟩ := (isLst X.K As).mono t2.fz a1
    obtain ⟨v, e, w⟩ := r.get hA
    subst hi
    cases b2
    exact ⟨p, vs, _, v, rfl, rfl, SqL.mono fz_sub h, atI_nat e, q H2 v (t1.trans t2) w⟩)
theorem ex_ixT {i : Int} {k : Nat} (hs : PlainIx b) (ha : EX X G I Γ a (isTup X.K As) J) (hb : EX X G J Γ b (aInt i) K) (hi : i = (k : Int)) (hA : As[k]? = some A) : EX X G I Γ (.Subscript a b pos) A K := fun σ H Q kk q =>
  PE.w (pe_ix ix_tup pe_wE pe_wE hs) (ha σ H _ kk fun H1 x t1 a1 => hb σ H1 _ (kk.to t1) fun H2 y t2 b2 => by
    obtain ⟨p, vs, rfl, h, r⟩ := (isTup X.K As).mono t2.fz a1
    obtain ⟨v, e, w⟩ := r.get hA
    subst hi
    cases b2
    exact ⟨p, vs, _, v, rfl, rfl, SqT.mono fz_sub h, atI_nat e, q H2 v (t1.trans t2) w⟩)
end
end L2.PL
namespace L2.PL
open PySem PySem.Spec PyProof.Rows
section
variable {X : Cx} {G : Gx} {I J K : Iv G.M} {Γ : Slots} {e a b : Expr} {es rest : List Expr} {A B : Asr} {As : List Asr} {pos : Pos} {P : Bool → Prop}
/-! ### tests -/
theorem tx_val {k : Bool} (ha : EX X G I Γ e (isBl k) J) (he : ∀ whole, isTrue e X.env whole = (do let v ← whole; standAt e.pos; holding [v] (truthy v)) := by intro _; rfl) : TX X G I Γ e (· = k) J := fun σ H Q kk q =>
  PT.w (pt_val pe_wE he) (ha σ H _ kk fun H1 v t1 a1 => ⟨k, a1, q H1 k t1 rfl⟩)
theorem tx_cmp2 {op : CmpOp} {r : R2} (ho : OpR X (compareOp op) r) (hm : behindInMarks op b = false) (ha : EX X G I Γ a A J) (hb : EX X G J Γ b B K)
    (h : ∀ (F : Hp) (x y : V), A.p F x → B.p F y → ∀ (H : Hp) (Q : VK), Sm F H → (∀ c, P c → Q (.bl c) H) → r x y H Q) : TX X G I Γ (.Compare a [op] [b] pos) P K := fun σ H Q k q =>
  PT.w (pt_cmpR ho pe_wE pe_wE hm) (ha σ H _ k fun H1 x t1 a1 => hb σ H1 _ (k.to t1) fun H2 y t2 b2 => h (fz G.U H2) x y (A.mono t2.fz a1) b2 H2 _ fz_sub fun c p => ⟨c, rfl, q H2 c (t1.trans t2) p⟩)
theorem tx_cmpI {op : CmpOp} {g : Int → Int → Bool} {i j : Int} (ho : OpR X (compareOp op) (rI0 fun i j => .bl (g i j))) (hm : behindInMarks op b = false) (ha : EX X G I Γ a (aInt i) J) (hb : EX X G J Γ b (aInt j) K) : TX X G I Γ (.Compare a [op] [b] pos) (· = g i j) K :=
  tx_cmp2 ho hm ha hb fun F x y ex ey H Q _ q => ⟨i, j, ex, ey, q _ rfl⟩
theorem tx_lt {i j : Int} (ha : EX X G I Γ a (aInt i) J) (hb : EX X G J Γ b (aInt j) K) : TX X G I Γ (.Compare a [.Lt] [b] pos) (· = decide (i < j)) K := tx_cmpI op_lt (nomark _) ha hb
theorem tx_le {i j : Int} (ha : EX X G I Γ a (aInt i) J) (hb : EX X G J Γ b (aInt j) K) : TX X G I Γ (.Compare a [.LtE] [b] pos) (· = decide (i ≤ j)) K := tx_cmpI op_le (nomark _) ha hb
theorem tx_gt {i j : Int} (ha : EX X G I Γ a (aInt i) J) (hb : EX X G J Γ b (aInt j) K) : TX X G I Γ (.Compare a [.Gt] [b] pos) (· = decide (j < i)) K := tx_cmpI op_gt (nomark _) ha hb
theorem tx_ge {i j : Int} (ha : EX X G I Γ a (aInt i) J) (hb : EX X G J Γ b (aInt j) K) : TX X G I Γ (.Compare a [.GtE] [b] pos) (· = decide (j ≤ i)) K := tx_cmpI op_ge (nomark _) ha hb
theorem tx_eq {x y : V} (hs : scal x y = true) (ha : EX X G I Γ a (isV x) J) (hb : EX X G J Γ b (isV y) K) : TX X G I Γ (.Compare a [.Eq] [b] pos) (· = decide (x = y)) K :=
  tx_cmp2 op_eq (nomark _) ha hb fun F x' y' ex ey H Q _ q => by cases ex; cases ey; exact ⟨hs, q _ rfl⟩
theorem tx_ne {x y : V} (hs : scal x y = true) (ha : EX X G I Γ a (isV x) J) (hb : EX X G J Γ b (isV y) K) : TX X G I Γ (.Compare a [.NotEq] [b] pos) (· = !decide (x = y)) K :=
  tx_cmp2 op_ne (nomark _) ha hb fun F x' y' ex ey H Q _ q => by cases ex; cases ey; exact ⟨hs, q _ rfl⟩
theorem tx_eqI {i j : Int} (ha : EX X G I Γ a (aInt i) J) (hb : EX X G J Γ b (aInt j) K) : TX X G I Γ (.Compare a [.Eq] [b] pos) (· = decide (i = j)) K := by rw [← dec_int']; exact tx_eq rfl ha hb
theorem tx_neI {i j : Int} (ha : EX X G I Γ a (aInt i) J) (hb : EX X G J Γ b (aInt j) K) : TX X G I Γ (.Compare a [.NotEq] [b] pos) (· = !decide (i = j)) K := by rw [← dec_int']; exact tx_ne rfl ha hb
theorem tx_isN {x : V} (ha : EX X G I Γ a (isV x) J) {j p} : TX X G I Γ (.Compare a [.Is] [.Constant .none j p] pos) (· = decide (x = .non)) J :=
  tx_cmp2 op_isN (nomark _) ha ex_non fun F x' y' ex ey H Q _ q => by cases ex; cases ey; exact ⟨rfl, q _ rfl⟩
/-- .. of a draw: nothing is known of the answer but what its numbers say -/
theorem tx_dr {op : CmpOp} {g : Int → Int → Bool} {R S : Int → Prop} (ho : OpR X (compareOp op) (rI0 fun i j => .bl (g i j))) (hm : behindInMarks op b = false) (ha : EX X G I Γ a (exA R aInt) J) (hb : EX X G J Γ b (exA S aInt) K) :
    TX X G I Γ (.Compare a [op] [b] pos) (fun c => ∃ i j, R i ∧ S j ∧ c = g i j) K :=
  tx_cmp2 ho hm ha hb fun F x y ⟨i, r, ex⟩ ⟨j, s, ey⟩ H Q _ q => ⟨i, j, ex, ey, q _ ⟨i, j, r, s, rfl⟩⟩
theorem tx_drEq {R S : Int → Prop} (ha : EX X G I Γ a (exA R aInt) J) (hb : EX X G J Γ b (exA S aInt) K) : TX X G I Γ (.Compare a [.Eq] [b] pos) (fun c => ∃ i j, R i ∧ S j ∧ c = decide (i = j)) K :=
  tx_cmp2 op_eq (nomark _) ha hb fun F x y ⟨i, r, ex⟩ ⟨j, s, ey⟩ H Q _ q => by cases ex; cases ey; exact ⟨rfl, q _ ⟨i, j, r, s, dec_int'⟩⟩
theorem TX.imp {P' : Bool → Prop} (h : TX X G I Γ e P J) (f : ∀ c, P c → P' c) : TX X G I Γ e P' J := fun σ H Q k q => h σ H Q k fun H' c t p => q H' c t (f c p)
theorem tx_not (ha : TX X G I Γ a P J) : TX X G I Γ (.UnaryOp .Not a pos) (fun c => P (!c)) J := fun σ H Q k q =>
  PT.w (pt_not pt_wT) (ha σ H _ k fun H1 c t1 p => q H1 (!c) t1 (by show P (!!c); rw [Bool.not_not]; exact p))
theorem wx_and1 (ha : TX X G I Γ a P J) : WX X G I Γ (.BoolOp .And [a] pos) P J := fun σ H Q k q => PW.w (pw_and1 pt_wT) (ha σ H Q k q)
theorem wx_or1 (ha : TX X G I Γ a P J) : WX X G I Γ (.BoolOp .Or [a] pos) P J := fun σ H Q k q => PW.w (pw_or1 pt_wT) (ha σ H Q k q)
theorem wx_and {p q : Bool} (ha : TX X G I Γ a (· = p) J) (hb : p = true → WX X G J Γ (.BoolOp .And (b :: rest) pos) (· = q) K) (jk : ∀ H, J.p H → K.p H := by exact fun _ h => h) : WX X G I Γ (.BoolOp .And (a :: b :: rest) pos) (· = (p && q)) K := fun σ H Q k w =>
  PW.w (pw_and pt_wT pw_wW) (ha σ H _ k fun H1 c t1 e => by
    subst e
    cases c with
    | true => rw [if_pos rfl]; exact hb rfl σ H1 Q (k.to t1) fun H2 c2 t2 e2 => w H2 c2 (t1.trans t2) (by rw [e2]; rfl)
    | false => rw [if_neg Bool.false_ne_true]; exact w H1 false (t1.post jk) rfl)
theorem wx_or {p q : Bool} (ha : TX X G I Γ a (· = p) J) (hb : p = false → WX X G J Γ (.BoolOp .Or (b :: rest) pos) (· = q) K) (jk : ∀ H, J.p H → K.p H := by exact fun _ h => h) : WX X G I Γ (.BoolOp .Or (a :: b :: rest) pos) (· = (p || q)) K := fun σ H Q k w =>
  PW.w (pw_or pt_wT pw_wW) (ha σ H _ k fun H1 c t1 e => by
    subst e
    cases c with
    | true => rw [if_pos rfl]; exact w H1 true (t1.post jk) rfl
    | false => rw [if_neg Bool.false_ne_true]; exact hb rfl σ H1 Q (k.to t1) fun H2 c2 t2 e2 => w H2 c2 (t1.trans t2) (by rw [e2]; rfl))
/-- .. of draws -/
theorem wx_andP {P' R : Bool → Prop} (ha : TX X G I Γ a P J) (h0 : P false → R false) (hb : P true → WX X G J Γ (.BoolOp .And (b :: rest) pos) R K) (jk : ∀ H, J.p H → K.p H := by exact fun _ h => h) : WX X G I Γ (.BoolOp .And (a :: b :: rest) pos) R K := fun σ H Q k w =>
  PW.w (pw_and pt_wT pw_wW) (ha σ H _ k fun H1 c t1 e => by
    cases c with
    | true => rw [if_pos rfl]; exact hb e σ H1 Q (k.to t1) fun H2 c2 t2 e2 => w H2 c2 (t1.trans t2) e2
    | false => rw [if_neg Bool.false_ne_true]; exact w H1 false (t1.post jk) (h0 e))
theorem wx_orP {R : Bool → Prop} (ha : TX X G I Γ a P J) (h0 : P true → R true) (hb : P false → WX X G J Γ (.BoolOp .Or (b :: rest) pos) R K) (jk : ∀ H, J.p H → K.p H := by exact fun _ h => h) : WX X G I Γ (.BoolOp .Or (a :: b :: rest) pos) R K := fun σ H Q k w =>
  PW.w (pw_or pt_wT pw_wW) (ha σ H _ k fun H1 c t1 e => by
    cases c with
    | true => rw [if_pos rfl]; exact w H1 true (t1.post jk) (h0 e)
    | false => rw [if_neg Bool.false_ne_true]; exact hb e σ H1 Q (k.to t1) fun H2 c2 t2 e2 => w H2 c2 (t1.trans t2) e2)
theorem WX.tx (h : WX X G I Γ e P J) : TX X G I Γ e P J := fun σ H Q k q => PT.w (PW.pt pw_wW) (h σ H Q k q)
/-- the truth of a list -/
theorem tx_list (ha : EX X G I Γ e (isLst X.K As) J) (he : ∀ whole, isTrue e X.env whole = (do let v ← whole; standAt e.pos; holding [v] (truthy v)) := by intro _; rfl) : TX X G I Γ e (· = !As.isEmpty) J := fun σ H Q k q =>
  PT.w (pt_truth pe_wE he) (ha σ H _ k fun H1 v t1 ⟨p, vs, e, h, r⟩ => by
    subst e
    refine ⟨!vs.isEmpty, .inl ⟨vs, SqL.mono fz_sub h, rfl⟩, q H1 _ t1 ?_⟩
    have := r.len
    cases vs <;> cases As <;> simp_all)
/-! and, or, not, if as values -/
theorem ex_one {op} (ha : EX X G I Γ a A J) : EX X G I Γ (.BoolOp op [a] pos) A J := fun σ H Q k q => PE.w (pe_one pe_wE) (ha σ H Q k q)
theorem ex_and {p q : Bool} (ha : EX X G I Γ a (isBl p) J) (hb : p = true → EX X G J Γ (.BoolOp .And (b :: rest) pos) (isBl q) K) (jk : ∀ H, J.p H → K.p H := by exact fun _ h => h) : EX X G I Γ (.BoolOp .And (a :: b :: rest) pos) (isBl (p && q)) K := fun σ H Q k w =>
  PE.w (pe_and pe_wE pe_wE) (ha σ H _ k fun H1 v t1 e => ⟨p, e, by
    cases p with
    | true => rw [if_pos rfl]; exact hb rfl σ H1 Q (k.to t1) fun H2 c2 t2 e2 => w H2 c2 (t1.trans t2) e2
    | false => rw [if_neg Bool.false_ne_true]; exact w H1 _ (t1.post jk) rfl⟩)
theorem ex_or {p q : Bool} (ha : EX X G I Γ a (isBl p) J) (hb : p = false → EX X G J Γ (.BoolOp .Or (b :: rest) pos) (isBl q) K) (jk : ∀ H, J.p H → K.p H := by exact fun _ h => h) : EX X G I Γ (.BoolOp .Or (a :: b :: rest) pos) (isBl (p || q)) K := fun σ H Q k w =>
  PE.w (pe_or pe_wE pe_wE) (ha σ H _ k fun H1 v t1 e => ⟨p, e, by
    cases p with
    | true => rw [if_pos rfl]; exact w H1 _ (t1.post jk) rfl
    | false => rw [if_neg Bool.false_ne_true]; exact hb rfl σ H1 Q (k.to t1) fun H2 c2 t2 e2 => w H2 c2 (t1.trans t2) e2⟩)
theorem ex_not {p : Bool} (ha : EX X G I Γ a (isBl p) J) : EX X G I Γ (.UnaryOp .Not a pos) (isBl (!p)) J := fun σ H Q k w => PE.w (pe_not pe_wE) (ha σ H _ k fun H1 v t1 e => ⟨p, e, w H1 _ t1 rfl⟩)
theorem ex_if {c : Expr} (hc : TX X G I Γ c P J) (ha : P true → EX X G J Γ a A K) (hb : P false → EX X G J Γ b A K) : EX X G I Γ (.IfExp c a b pos) A K := fun σ H Q k q =>
  PE.w (pe_ifExp pt_wT pe_wE pe_wE) (hc σ H _ k fun H1 d t1 p => by
    cases d with
    | true => rw [if_pos rfl]; exact ha p σ H1 Q (k.to t1) fun H2 v t2 a2 => q H2 v (t1.trans t2) a2
    | false => rw [if_neg Bool.false_ne_true]; exact hb p σ H1 Q (k.to t1) fun H2 v t2 a2 => q H2 v (t1.trans t2) a2)
/-! ### calls of built-ins -/
theorem ex_B {x : Str} {id : String} {r : List V → Hp → VK → Prop} {p : Pos} {C : Asr} (hc : CallR X (.builtin id) r) (hg : Gl X x) (hm : X.mg x = none) (hv : bootBuiltins x = some (.builtin id)) (ha : AX X G I Γ (e :: es) As J)
    (h : ∀ (H1 : Hp) (vs : List V), AllA As (fz G.U H1) vs → ∀ Q : VK, (∀ v, C.p (fz G.U H1) v → Q v H1) → r vs H1 Q) (hn : x ≠ "__name__" := by decide) (hdb : (x == ("__debug__" : Str)) = false := by decide)
    (he : starEach (e :: es) X.env = (false, eval e X.env) :: starEach es X.env := by rfl) (hpl : (backTo pos (starEach es X.env)).any (·.1) = false := by rfl) : EX X G I Γ (.Call (.Name x p) (e :: es) [] pos) C J := fun σ H Q k q =>
  PE.w (pe_callB hc hg hm hv pa_wA hn hdb he hpl) (ha σ H _ k fun H1 vs t1 r1 => h H1 vs r1 Q fun v c => q H1 v t1 c)
theorem ex_Bfun {x : Str} {id : String} {r : List V → Hp → VK → Prop} {p : Pos} {C : Asr} (hc : CallR X (.builtin id) r) (hg : Gl X x) (hm : X.mg x = some (.builtin id)) (ha : AX X G I Γ (e :: es) As J)
    (h : ∀ (H1 : Hp) (vs : List V), AllA As (fz G.U H1) vs → ∀ Q : VK, (∀ v, C.p (fz G.U H1) v → Q v H1) → r vs H1 Q) (hdb : (x == ("__debug__" : Str)) = false := by decide)
    (he : starEach (e :: es) X.env = (false, eval e X.env) :: starEach es X.env := by rfl) (hpl : (backTo pos (starEach es X.env)).any (·.1) = false := by rfl) : EX X G I Γ (.Call (.Name x p) (e :: es) [] pos) C J := fun σ H Q k q =>
  PE.w (pe_callBfun hc hg hm pa_wA hdb he hpl) (ha σ H _ k fun H1 vs t1 r1 => h H1 vs r1 Q fun v c => q H1 v t1 c)
theorem ex_T {x : Str} {T : String} {r : List V → Hp → VK → Prop} {p : Pos} {C : Asr} (hc : CallR X (.type T) r) (hg : Gl X x) (hm : X.mg x = none) (hv : bootBuiltins x = some (.type T)) (ha : AX X G I Γ (e :: es) As J)
    (h : ∀ (H1 : Hp) (vs : List V), (∀ a, G.U a → H1 a ≠ none) → J.p H1 → AllA As (fz G.U H1) vs → ∀ Q : VK, (∀ H2 v, G.To J H1 H2 → C.p (fz G.U H2) v → Q v H2) → r vs H1 Q) (hn : x ≠ "__name__" := by decide) (hdb : (x == ("__debug__" : Str)) = false := by decide)
    (he : starEach (e :: es) X.env = (false, eval e X.env) :: starEach es X.env := by rfl) (hpl : (backTo pos (starEach es X.env)).any (·.1) = false := by rfl) : EX X G I Γ (.Call (.Name x p) (e :: es) [] pos) C J := fun σ H Q k q =>
  PE.w (pe_callTy hc hg hm hv pa_wA hn hdb he hpl) (ha σ H _ k fun H1 vs t1 r1 => h H1 vs t1.live t1.inv r1 Q fun H2 v t2 c => q H2 v (t1.trans t2) c)
theorem AllA.v1 {w : V} {F : Hp} {vs : List V} (h : AllA [isV w] F vs) : vs = [w] := by
  obtain ⟨v, r, e, h1, h2⟩ := h
  cases h1; cases h2; exact e
theorem AllA.v2 {w u : V} {F : Hp} {vs : List V} (h : AllA [isV w, isV u] F vs) : vs = [w, u] := by
  obtain ⟨v, r, e, h1, v2, r2, e2, h3, h4⟩ := h
  cases h1; cases h3; cases h4; rw [e, e2]
section
variable {p : Pos}
theorem ex_len (hg : Gl X "len") (hm : X.mg "len" = none) (ha : EX X G I Γ e (isLst X.K As) J) (hs : starEach [e] X.env = (false, eval e X.env) :: starEach [] X.env := by rfl) (hpl : (backTo pos (starEach [] X.env)).any (·.1) = false := by rfl) : EX X G I Γ (.Call (.Name "len" p) [e] [] pos) (aInt (As.length : Int)) J :=
  ex_B call_len_seq hg hm PySem.boot_len (ax_cons ha ax_nil hs) (fun H1 vs ⟨v, r, e1, ⟨q, ws, e2, h, rr⟩, e3⟩ Q w => by
    cases e3; subst e2; subst e1
    exact ⟨q, ws, rfl, .inl (SqL.mono fz_sub h), w _ (by rw [rr.len]; rfl)⟩) (by decide) (by decide) hs hpl
theorem ex_lenT (hg : Gl X "len") (hm : X.mg "len" = none) (ha : EX X G I Γ e (isTup X.K As) J) (hs : starEach [e] X.env = (false, eval e X.env) :: starEach [] X.env := by rfl) (hpl : (backTo pos (starEach [] X.env)).any (·.1) = false := by rfl) : EX X G I Γ (.Call (.Name "len" p) [e] [] pos) (aInt (As.length : Int)) J :=
  ex_B call_len_seq hg hm PySem.boot_len (ax_cons ha ax_nil hs) (fun H1 vs ⟨v, r, e1, ⟨q, ws, e2, h, rr⟩, e3⟩ Q w => by
    cases e3; subst e2; subst e1
    exact ⟨q, ws, rfl, .inr (SqT.mono fz_sub h), w _ (by rw [rr.len]; rfl)⟩) (by decide) (by decide) hs hpl
theorem ex_abs {i : Int} (hg : Gl X "abs") (hm : X.mg "abs" = none) (ha : EX X G I Γ e (aInt i) J) (hs : starEach [e] X.env = (false, eval e X.env) :: starEach [] X.env := by rfl) (hpl : (backTo pos (starEach [] X.env)).any (·.1) = false := by rfl) : EX X G I Γ (.Call (.Name "abs" p) [e] [] pos) (aInt (i.natAbs : Int)) J :=
  ex_B call_abs hg hm (by decide +kernel) (ax_cons ha ax_nil hs) (fun H1 vs r Q w => by
    refine ⟨i, r.v1, w _ ?_⟩
    show V.int _ = V.int _
    congr 1
    split <;> omega) (by decide) (by decide) hs hpl
theorem ex_intI {i : Int} (hg : Gl X "int") (hm : X.mg "int" = none) (ha : EX X G I Γ e (aInt i) J) (hs : starEach [e] X.env = (false, eval e X.env) :: starEach [] X.env := by rfl) (hpl : (backTo pos (starEach [] X.env)).any (·.1) = false := by rfl) : EX X G I Γ (.Call (.Name "int" p) [e] [] pos) (aInt i) J :=
  ex_T call_int1 hg hm (by decide +kernel) (ax_cons ha ax_nil hs) (fun H1 vs l i1 r Q w => .inl ⟨i, r.v1, w _ _ ⟨fun _ _ _ e => e, l, i1⟩ rfl⟩) (by decide) (by decide) hs hpl
theorem ex_intB {c : Bool} (hg : Gl X "int") (hm : X.mg "int" = none) (ha : EX X G I Γ e (isBl c) J) (hs : starEach [e] X.env = (false, eval e X.env) :: starEach [] X.env := by rfl) (hpl : (backTo pos (starEach [] X.env)).any (·.1) = false := by rfl) : EX X G I Γ (.Call (.Name "int" p) [e] [] pos) (aInt (if c then 1 else 0)) J :=
  ex_T call_int1 hg hm (by decide +kernel) (ax_cons ha ax_nil hs) (fun H1 vs l i1 r Q w => .inr ⟨c, r.v1, w _ _ ⟨fun _ _ _ e => e, l, i1⟩ rfl⟩) (by decide) (by decide) hs hpl
theorem ex_listL (hg : Gl X "list") (hm : X.mg "list" = none) (ha : EX X G I Γ e (isLst X.K As) J) (hs : starEach [e] X.env = (false, eval e X.env) :: starEach [] X.env := by rfl) (hpl : (backTo pos (starEach [] X.env)).any (·.1) = false := by rfl) : EX X G I Γ (.Call (.Name "list" p) [e] [] pos) (isLst X.K As) J :=
  ex_T call_list_of hg hm (by decide +kernel) (ax_cons ha ax_nil hs) (fun H1 vs l i1 ⟨v, r, e1, ⟨q, ws, e2, h, rr⟩, e3⟩ Q w => by
    cases e3; subst e2; subst e1
    exact ⟨q, ws, rfl, .inl (SqL.mono fz_sub h), fun z hz => w _ _ (.new l i1 hz) ⟨z, ws, rfl, .inl (.inl (fz_new l hz)), rr.mono (Gx.To.new l i1 hz).fz⟩⟩) (by decide) (by decide) hs hpl
theorem rRead {K : PySem.W.Frag} {ι : Type} {f : ι → V} {F : Hp} : ∀ {l : List ι} {vs : List V}, AllA (l.map fun i => isV (f i)) F vs → vs = l.map f
  | [], _, h => h
  | i :: l, _, ⟨v, r, e, h1, h2⟩ => by cases h1; rw [e, rRead (K := K) h2]; rfl
theorem ex_sum {ns : List Int} (hc : X.calm = true) (hg : Gl X "sum") (hm : X.mg "sum" = none) (ha : EX X G I Γ e (isLst X.K (ns.map fun i => aInt i)) J) (hs : starEach [e] X.env = (false, eval e X.env) :: starEach [] X.env := by rfl) (hpl : (backTo pos (starEach [] X.env)).any (·.1) = false := by rfl) : EX X G I Γ (.Call (.Name "sum" p) [e] [] pos) (aInt ns.sum) J :=
  ex_B (cr_sum hc) hg hm (by decide +kernel) (ax_cons ha ax_nil hs) (fun H1 vs ⟨v, r, e1, ⟨q, ws, e2, h, rr⟩, e3⟩ Q w => by
    cases e3; subst e2; subst e1
    rw [rRead (K := X.K) (f := V.int) rr] at h
    exact ⟨q, ns, rfl, SqL.mono fz_sub h, w _ rfl⟩) (by decide) (by decide) hs hpl
theorem ex_all {bs : List Bool} (hc : X.calm = true) (hg : Gl X "all") (hm : X.mg "all" = none) (ha : EX X G I Γ e (isLst X.K (bs.map fun i => isBl i)) J) (hs : starEach [e] X.env = (false, eval e X.env) :: starEach [] X.env := by rfl) (hpl : (backTo pos (starEach [] X.env)).any (·.1) = false := by rfl) : EX X G I Γ (.Call (.Name "all" p) [e] [] pos) (isBl (bs.all id)) J :=
  ex_B (cr_all hc) hg hm (by decide +kernel) (ax_cons ha ax_nil hs) (fun H1 vs ⟨v, r, e1, ⟨q, ws, e2, h, rr⟩, e3⟩ Q w => by
    cases e3; subst e2; subst e1
    rw [rRead (K := X.K) (f := V.bl) rr] at h
    exact ⟨q, bs, rfl, SqL.mono fz_sub h, w _ rfl⟩) (by decide) (by decide) hs hpl
theorem ex_gcd {x : Str} {i j : Int} (hg : Gl X x) (hm : X.mg x = some (.builtin "math.gcd")) (ha : EX X G I Γ a (aInt i) J) (hb : EX X G J Γ b (aInt j) K) (hdb : (x == ("__debug__" : Str)) = false := by decide)
    (hs : starEach [a, b] X.env = (false, eval a X.env) :: starEach [b] X.env := by rfl) (hs2 : starEach [b] X.env = (false, eval b X.env) :: starEach [] X.env := by rfl) (hpl : (backTo pos (starEach [b] X.env)).any (·.1) = false := by rfl) :
    EX X G I Γ (.Call (.Name x p) [a, b] [] pos) (aInt ((Nat.gcd i.natAbs j.natAbs : Nat) : Int)) K :=
  ex_Bfun cr_gcd hg hm (ax_cons ha (ax_cons hb ax_nil hs2) hs) (fun H1 vs r Q w => ⟨i, j, r.v2, w _ rfl⟩) hdb hs hpl
def rLcm : List V → Hp → VK → Prop := fun vs H Q => ∃ a b : Int, vs = [.int a, .int b] ∧ Bits 9000 a ∧ Bits 9000 b ∧ Q (.int ((Nat.lcm a.natAbs b.natAbs : Nat) : Int)) H
theorem lcm_le_mul (a b : Nat) : Nat.lcm a b ≤ a * b := Nat.div_le_self _ _
theorem cr_lcm : CallR X (.builtin "math.lcm") rLcm := by
  intro pins s σ H vs us Q I r h
  obtain ⟨a, b, rfl, ha, hb, q⟩ := h
  obtain ⟨t, u, rfl⟩ := Vals.int2 r
  have e1 : (Nat.lcm 1 a.natAbs) = a.natAbs := by rw [Nat.lcm_comm]; exact Nat.lcm_one_right _
  have z1 : (max 1 a.natAbs).log2 < 9000 := by
    refine (Nat.log2_lt (by omega)).mpr ?_
    have : 1 < 2 ^ 9000 := Nat.one_lt_two_pow (by decide)
    exact Nat.max_lt.mpr ⟨this, ha⟩
  have z2 : (max a.natAbs b.natAbs).log2 < 9000 := by
    by_cases h0 : max a.natAbs b.natAbs = 0
    · rw [h0]; decide
    · exact (Nat.log2_lt h0).mpr (Nat.max_lt.mpr ⟨ha, hb⟩)
  have z3 : ((((Nat.lcm 1 a.natAbs).lcm b.natAbs : Nat) : Int)).natAbs.log2 < bitsLine := by
    rw [e1, Int.natAbs_natCast]
    refine PySem.Flt.log2_lt_of (by decide) (Nat.lt_of_le_of_lt (lcm_le_mul _ _) ?_)
    have m : a.natAbs * b.natAbs < 2 ^ 9000 * 2 ^ 9000 := Nat.mul_lt_mul'' ha hb
    rw [← Nat.pow_add] at m
    exact Nat.lt_of_lt_of_le m (Nat.pow_le_pow_right (by decide) (by decide))
  refine PySem.call_function_meets PySem.W.MGF.kind_lcm PySem.W.MGF.plain_lcm PySem.W.MGF.entry_lcm (PySem.W.MGF.args_lcm _ _) (PySem.W.mg_run_lcm a t b u (by omega) (by omega) z3).meets ?_
  rw [e1]
  exact ⟨.int _, H, I.tok _, ⟨_, rfl⟩, q⟩
theorem ex_lcm {x : Str} {i j : Int} (hg : Gl X x) (hm : X.mg x = some (.builtin "math.lcm")) (ha : EX X G I Γ a (aInt i) J) (hb : EX X G J Γ b (aInt j) K) (hi : Bits 9000 i) (hj : Bits 9000 j) (hdb : (x == ("__debug__" : Str)) = false := by decide)
    (hs : starEach [a, b] X.env = (false, eval a X.env) :: starEach [b] X.env := by rfl) (hs2 : starEach [b] X.env = (false, eval b X.env) :: starEach [] X.env := by rfl) (hpl : (backTo pos (starEach [b] X.env)).any (·.1) = false := by rfl) :
    EX X G I Γ (.Call (.Name x p) [a, b] [] pos) (aInt ((Nat.lcm i.natAbs j.natAbs : Nat) : Int)) K :=
  ex_Bfun cr_lcm hg hm (ax_cons ha (ax_cons hb ax_nil hs2) hs) (fun H1 vs r Q w => ⟨i, j, r.v2, hi, hj, w _ rfl⟩) hdb hs hpl
end
/-! list + list, list * n (the parts may stand in the written part? no: tracked ones) -/
def isNew (As : List Asr) : Asr := ⟨fun F v => ∃ a vs, v = .ref a ∧ F a = some (.lst vs) ∧ AllA As F vs, fun s ⟨a, vs, e, h, r⟩ => ⟨a, vs, e, s _ _ h, r.mono s⟩⟩
theorem isNew.lst {K : PySem.W.Frag} (h : EX X G I Γ e (isNew As) J) : EX X G I Γ e (isLst K As) J := h.imp fun _ _ ⟨a, vs, e, h, r⟩ => ⟨a, vs, e, .inl (.inl h), r⟩
theorem ex_lstN (h : AX X G I Γ es As J) (hz : As.length ≤ 100000) : EX X G I Γ (.List es pos) (isNew As) J := fun σ H Q k q =>
  PE.w (pe_lst pa_wA) (h σ H _ k fun H1 xs t1 r => ⟨small_sz (by rw [r.len]; exact hz), fun p hp => q _ _ (t1.new' hp) ⟨p, xs, rfl, fz_new t1.live hp, r.mono (Gx.To.new t1.live t1.inv hp).fz⟩⟩)
theorem AllA.reps {As : List Asr} {H : Hp} {vs : List V} (h : AllA As H vs) : ∀ n : Nat, AllA (List.replicate n As).flatten H (List.replicate n vs).flatten
  | 0 => rfl
  | n + 1 => by rw [List.replicate_succ, List.replicate_succ, List.flatten_cons, List.flatten_cons]; exact h.app (AllA.reps h n)
theorem ex_rep {n : Nat} (ha : EX X G I Γ a (isNew As) J) (hb : EX X G J Γ b (aInt (n : Int)) K) (hz : As.length * n ≤ 100000) (hn : n ≤ 100000) : EX X G I Γ (.BinOp a .Mult b pos) (isNew (List.replicate n As).flatten) K := fun σ H Q k q =>
  PE.w (pe_op op_rep pe_wE pe_wE) (ha σ H _ k fun H1 x t1 a1 => hb σ H1 _ (k.to t1) fun H2 y t2 b2 => by
    obtain ⟨p, vs, rfl, h, r⟩ := (isNew As).mono t2.fz a1
    cases b2
    have h' : H2 p = some (.lst vs) := fz_sub _ _ h
    refine ⟨p, (n : Int), vs, rfl, rfl, h', by omega, by omega, ?_, fun z hz' => ?_⟩
    · rw [r.len, Int.toNat_natCast]; exact small_sz hz
    · rw [Int.toNat_natCast]
      exact q _ _ ((t1.trans t2).new' hz') ⟨z, _, rfl, fz_new t2.live hz', (r.reps n).mono (Gx.To.new t2.live t2.inv hz').fz⟩)
theorem ex_cat {Bs : List Asr} (ha : EX X G I Γ a (isNew As) J) (hb : EX X G J Γ b (isNew Bs) K) (hz : As.length + Bs.length ≤ 100000) : EX X G I Γ (.BinOp a .Add b pos) (isNew (As ++ Bs)) K := fun σ H Q k q =>
  PE.w (pe_op op_cat pe_wE pe_wE) (ha σ H _ k fun H1 x t1 a1 => hb σ H1 _ (k.to t1) fun H2 y t2 b2 => by
    obtain ⟨p, vs, rfl, h, r⟩ := (isNew As).mono t2.fz a1
    obtain ⟨p2, ws, rfl, h2, r2⟩ := b2
    refine ⟨p, p2, vs, ws, rfl, rfl, fz_sub _ _ h, fz_sub _ _ h2, ?_, fun z hz' => ?_⟩
    · rw [r.len, r2.len]; exact small_sz hz
    · exact q _ _ ((t1.trans t2).new' hz') ⟨z, _, rfl, fz_new t2.live hz', (r.app r2).mono (Gx.To.new t2.live t2.inv hz').fz⟩)
/-! ### calls of defs -/
/-- what a def without effects promises -/
def spF {ι : Type} (dom : ι → List Asr) (ok : ι → Prop) (cod : ι → Asr) : Sp := fun vs H Q _ => ∃ (M : Addr → Prop) (i : ι), (∀ a, M a → H a ≠ none) ∧ ok i ∧ AllA (dom i) (fz M H) vs ∧
  ∀ H' v, Sm H H' → (cod i).p (fz M H') v → Q v H'
theorem To.sm {H1 H' : Hp} (l : ∀ a, G.U a → H1 a ≠ none) (i : I.p H1) (s : Sm H1 H') : G.To I H1 H' := by
  have e : ∀ a, G.U a → H' a = H1 a := fun a m => by
    cases q : H1 a with
    | none => exact absurd q (l a m)
    | some o => exact s a o q
  exact ⟨fun a o _ q => s a o q, fun a m => by rw [e a m]; exact l a m, I.dep _ _ (fun a m => e a (.inl m)) i⟩
variable {ι : Type} {dom : ι → List Asr} {ok : ι → Prop} {cod : ι → Asr} {CX : CXT} {k : Nat} {f : Addr} {fd : FuncData} {ps : List Str} {E : XK} {x : Str} {p : Pos}
theorem ex_call (F : FnOk X.prog X.w X.K X.mg X.base CX k f fd ps (spF dom ok cod)) (hr : Room k X.A) (hg : Gl X x) (hm : X.mg x = some (.ref f)) (hk : PySem.W.keepIn X.K (.ref f) = true) (hb : Binds X.K fd ps []) (hx : Passes CX X E)
    (i : ι) (ha : AX X G I Γ (e :: es) (dom i) J) (hok : ok i) (hdb : (x == ("__debug__" : Str)) = false := by decide) (he : starEach (e :: es) X.env = (false, eval e X.env) :: starEach es X.env := by rfl) (hpl : (backTo pos (starEach es X.env)).any (·.1) = false := by rfl) :
    EX X G I Γ (.Call (.Name x p) (e :: es) [] pos) (cod i) J := fun σ H Q kk q =>
  PE.w (pe_call (E := E) F hr hg hm hk hb .nil hx pa_wA hdb he hpl) (ha σ H _ kk fun H1 vs t1 r => ⟨G.U, i, t1.live, hok, by rw [List.append_nil]; exact r, fun H' v s c => q H' v (t1.trans (To.sm t1.live t1.inv s)) c⟩)
end
end L2.PL
namespace L2.PL
open PySem PySem.Spec PyProof.Rows
/-! ### contexts -/
/-- nothing may be changed -/
abbrev gP (U : Addr → Prop) (H : Hp) : Gx := ⟨fun _ => False, U, fun _ => False, H, fun _ h => h, fun _ h => h.elim⟩
def ivT (M : Addr → Prop) : Iv M := ⟨fun _ => True, fun _ _ _ h => h⟩
/-- one more that is locked -/
abbrev Gx.lk (G : Gx) (D : Addr) : Gx := ⟨G.M, fun a => G.L a ∨ a = D, G.M0, G.H0, G.sub, G.fr⟩
theorem Gx.lk_U {G : Gx} {D a : Addr} : (G.lk D).U a ↔ G.U a ∨ a = D := by
  show (G.M a ∨ (G.L a ∨ a = D)) ↔ ((G.M a ∨ G.L a) ∨ a = D)
  constructor
  · rintro (h | h | h)
    · exact .inl (.inl h)
    · exact .inl (.inr h)
    · exact .inr h
  · rintro ((h | h) | h)
    · exact .inl h
    · exact .inr (.inl h)
    · exact .inr (.inr h)
/-- what is wanted of a value that is handed back -/
def Ret (G : Gx) (J : Iv G.M) (A : Asr) (D : Ends) : Prop := ∀ (Γ : Slots) (σ : St) (H' : Hp) (v : V), G.Ok J Γ σ H' → A.p (fz G.U H') v → D.rt v H'
theorem Ret.imp {G : Gx} {J : Iv G.M} {A B : Asr} {D : Ends} (h : Ret G J B D) (f : ∀ F v, A.p F v → B.p F v) : Ret G J A D := fun Γ σ H' v k a => h Γ σ H' v k (f _ _ a)
section
variable {X : Cx} {G : Gx} {I J K W1 : Iv G.M} {Γ : Slots} {e a b : Expr} {es rest : List Expr} {A B : Asr} {As : List Asr} {pos pos' : Pos} {P : Bool → Prop} {sts body orelse : List Stmt} {D : Ends} {i : Nat} {x : Str}
theorem sx_set (nd : X.N.Nodup) (hi : X.N[i]? = some x) (hx : Loc X.env.scope x) (hl : i < Γ.length) (he : EX X G I Γ e A J) (hr : SX X G J (Γ.set i (some A)) sts D)
    (hs : swapsWith e (some (.Name x pos')) pos.line X.env = pure false := by rfl) (hf : X.fn x = true ∨ X.env.scope.names.lookup x = some .local := by first | exact .inl rfl | exact .inr rfl) :
    SX X G I Γ (.Assign [.Name x pos'] e pos :: sts) D := fun σ H k =>
  wB_cons (PS.w (ps_set nd hi hx pe_wE hs hf) (he σ H _ k fun H1 v t1 a1 => hr _ _ ((k.to t1).setv hl a1)))
theorem sx_setE {α : Type} {P : α → Prop} {B : α → Asr} (nd : X.N.Nodup) (hi : X.N[i]? = some x) (hx : Loc X.env.scope x) (hl : i < Γ.length) (he : EX X G I Γ e (exA P B) J) (hr : ∀ y, P y → SX X G J (Γ.set i (some (B y))) sts D)
    (hs : swapsWith e (some (.Name x pos')) pos.line X.env = pure false := by rfl) (hf : X.fn x = true ∨ X.env.scope.names.lookup x = some .local := by first | exact .inl rfl | exact .inr rfl) :
    SX X G I Γ (.Assign [.Name x pos'] e pos :: sts) D := fun σ H k =>
  wB_cons (PS.w (ps_set nd hi hx pe_wE hs hf) (he σ H _ k fun H1 v t1 ⟨y, p, a1⟩ => hr y p _ _ ((k.to t1).setv hl a1)))
theorem sx_par {j : Nat} {y : Str} {px py pt : Pos} {kt k2 pt2} (hc : X.calm = true) (nd : X.N.Nodup) (hi : X.N[i]? = some x) (hj : X.N[j]? = some y) (hij : i ≠ j)
    (hx : X.env.scope.names.lookup x = some .local) (hy : X.env.scope.names.lookup y = some .local) (hl : i < Γ.length) (hl2 : j < Γ.length) (ha : EX X G I Γ a A J) (hb : EX X G J Γ b B K)
    (hr : SX X G K ((Γ.set i (some A)).set j (some B)) sts D)
    (hw : swappedStores [.Tuple [.Name x px, .Name y py] kt pt] (.Tuple [a, b] k2 pt2) X.env = pure (some [x, y]))
    (hs1 : starEach [a, b] X.env = (false, eval a X.env) :: starEach [b] X.env := by rfl) (hs2 : starEach [b] X.env = (false, eval b X.env) :: starEach [] X.env := by rfl)
    (hs : swapsWithSole [.Tuple [.Name x px, .Name y py] kt pt] (.Tuple [a, b] k2 pt2) pos.line X.env = pure false := by rfl) :
    SX X G I Γ (.Assign [.Tuple [.Name x px, .Name y py] kt pt] (.Tuple [a, b] k2 pt2) pos :: sts) D := fun σ H k =>
  wB_cons (PS.w (ps_par hc nd hi hj hij hx hy pa_wA hw hs) (ax_cons ha (ax_cons hb ax_nil hs2) hs1 σ H _ k fun H1 vs t1 ⟨v, r, e1, a1, v2, r2, e2, b1, e3⟩ => by
    subst e3; subst e2; subst e1
    exact ⟨v, v2, rfl, hr _ _ (((k.to t1).setv hl a1).setv (by rw [List.length_set]; exact hl2) b1)⟩))
/-- .. what is drawn at once -/
theorem sx_parE {α β : Type} {P : α → Prop} {R : β → Prop} {A' : α → Asr} {B' : β → Asr} {j : Nat} {y : Str} {px py pt : Pos} {kt k2 pt2} (hc : X.calm = true) (nd : X.N.Nodup) (hi : X.N[i]? = some x) (hj : X.N[j]? = some y) (hij : i ≠ j)
    (hx : X.env.scope.names.lookup x = some .local) (hy : X.env.scope.names.lookup y = some .local) (hl : i < Γ.length) (hl2 : j < Γ.length) (ha : EX X G I Γ a (exA P A') J) (hb : EX X G J Γ b (exA R B') K)
    (hr : ∀ u w, P u → R w → SX X G K ((Γ.set i (some (A' u))).set j (some (B' w))) sts D)
    (hw : swappedStores [.Tuple [.Name x px, .Name y py] kt pt] (.Tuple [a, b] k2 pt2) X.env = pure (some [x, y]))
    (hs1 : starEach [a, b] X.env = (false, eval a X.env) :: starEach [b] X.env := by rfl) (hs2 : starEach [b] X.env = (false, eval b X.env) :: starEach [] X.env := by rfl)
    (hs : swapsWithSole [.Tuple [.Name x px, .Name y py] kt pt] (.Tuple [a, b] k2 pt2) pos.line X.env = pure false := by rfl) :
    SX X G I Γ (.Assign [.Tuple [.Name x px, .Name y py] kt pt] (.Tuple [a, b] k2 pt2) pos :: sts) D := fun σ H k =>
  wB_cons (PS.w (ps_par hc nd hi hj hij hx hy pa_wA hw hs) (ax_cons ha (ax_cons hb ax_nil hs2) hs1 σ H _ k fun H1 vs t1 ⟨v, r, e1, ⟨u, pu, a1⟩, v2, r2, e2, ⟨w, pw, b1⟩, e3⟩ => by
    subst e3; subst e2; subst e1
    exact ⟨v, v2, rfl, hr u w pu pw _ _ (((k.to t1).setv hl a1).setv (by rw [List.length_set]; exact hl2) b1)⟩))
theorem sx_par3 {j l : Nat} {y z : Str} {c : Expr} {C : Asr} {px py pz pt : Pos} {kt k2 pt2} (hc : X.calm = true) (nd : X.N.Nodup) (hi : X.N[i]? = some x) (hj : X.N[j]? = some y) (hk : X.N[l]? = some z) (hij : i ≠ j) (hil : i ≠ l) (hjl : j ≠ l)
    (hx : X.env.scope.names.lookup x = some .local) (hy : X.env.scope.names.lookup y = some .local) (hz : X.env.scope.names.lookup z = some .local) (hl : i < Γ.length) (hl2 : j < Γ.length) (hl3 : l < Γ.length) (ha : EX X G I Γ a A J) (hb : EX X G J Γ b B K) (hcc : EX X G K Γ c C W1)
    (hr : SX X G W1 (((Γ.set i (some A)).set j (some B)).set l (some C)) sts D)
    (hw : swappedStores [.Tuple [.Name x px, .Name y py, .Name z pz] kt pt] (.Tuple [a, b, c] k2 pt2) X.env = pure (some [x, y, z]))
    (hs1 : starEach [a, b, c] X.env = (false, eval a X.env) :: starEach [b, c] X.env := by rfl) (hs2 : starEach [b, c] X.env = (false, eval b X.env) :: starEach [c] X.env := by rfl) (hs3 : starEach [c] X.env = (false, eval c X.env) :: starEach [] X.env := by rfl)
    (hs : swapsWithSole [.Tuple [.Name x px, .Name y py, .Name z pz] kt pt] (.Tuple [a, b, c] k2 pt2) pos.line X.env = pure false := by rfl) :
    SX X G I Γ (.Assign [.Tuple [.Name x px, .Name y py, .Name z pz] kt pt] (.Tuple [a, b, c] k2 pt2) pos :: sts) D := fun σ H k =>
  wB_cons (PS.w (ps_par3 hc nd hi hj hk hij hil hjl hx hy hz pa_wA hw hs) (ax_cons ha (ax_cons hb (ax_cons hcc ax_nil hs3) hs2) hs1 σ H _ k fun H1 vs t1 ⟨v, r, e1, a1, v2, r2, e2, b1, v3, r3, e3, c1, e4⟩ => by
    subst e4; subst e3; subst e2; subst e1
    exact ⟨v, v2, v3, rfl, hr _ _ ((((k.to t1).setv hl a1).setv (by rw [List.length_set]; exact hl2) b1).setv (by rw [List.length_set, List.length_set]; exact hl3) c1)⟩))
/-- a, b = e, e a tuple -/
theorem sx_tup2 {j : Nat} {y : Str} {px py pt : Pos} {kt} (hc : X.calm = true) (nd : X.N.Nodup) (hi : X.N[i]? = some x) (hj : X.N[j]? = some y) (hx : Loc X.env.scope x) (hy : Loc X.env.scope y) (hl : i < Γ.length) (hl2 : j < Γ.length)
    (hg : PG X (.Tuple [.Name x px, .Name y py] kt pt) (gTup X.K 2 (gCons (gName i) (gCons (gName j) gNil)))) (he : EX X G I Γ e (isTup X.K [A, B]) J) (hr : SX X G J ((Γ.set i (some A)).set j (some B)) sts D)
    (hs : swapsWithSole [.Tuple [.Name x px, .Name y py] kt pt] e pos.line X.env = pure false := by rfl) (hw : swappedStores [.Tuple [.Name x px, .Name y py] kt pt] e X.env = pure none := by rfl)
    (h1 : (assignEach [.Tuple [.Name x px, .Name y py] kt pt] X.env).map (·.2) = [assign (.Tuple [.Name x px, .Name y py] kt pt) X.env] := by rfl) :
    SX X G I Γ (.Assign [.Tuple [.Name x px, .Name y py] kt pt] e pos :: sts) D := fun σ H k =>
  wB_cons (PS.w (ps_asg pe_wE hg hs hw h1) (he σ H _ k fun H1 v t1 ⟨p, ws, e1, hq, v1, r1, e2, a1, v2, r2, e3, b1, e4⟩ => by
    subst e4; subst e3; subst e2; subst e1
    exact ⟨p, _, rfl, SqT.mono fz_sub hq, rfl, v1, _, rfl, v2, _, rfl, rfl, hr _ _ (((k.to t1).setv hl a1).setv (by rw [List.length_set]; exact hl2) b1)⟩))
theorem sx_expr (he : EX X G I Γ e A J) (hr : SX X G J Γ sts D) (hs : swapsWith e none pos.line X.env = pure false := by rfl) : SX X G I Γ (.Expr e pos :: sts) D := fun σ H k =>
  wB_cons (PS.w (ps_expr pe_wE hs) (he σ H _ k fun H1 v t1 a1 => hr _ _ (k.to t1)))
theorem sx_nil (h : ∀ σ H, G.Ok I Γ σ H → D.nx σ H) : SX X G I Γ [] D := fun σ H k => wB_nil (h σ H k)
theorem sx_ret (he : EX X G I Γ e A J) (hr : Ret G J A D) : SX X G I Γ (.Return (some e) pos :: sts) D := fun σ H k =>
  wB_cons (PS.w (ps_ret pe_wE) (he σ H _ k fun H1 v t1 a1 => hr Γ σ H1 v (k.to t1) a1))
theorem sx_if {c : Expr} (hc : TX X G I Γ c P J) (ht : P true → SX X G J Γ body { D with nx := wB X sts D }) (hf : P false → SX X G J Γ orelse { D with nx := wB X sts D }) : SX X G I Γ (.If c body orelse pos :: sts) D := fun σ H k =>
  wB_cons (PS.w (ps_if pt_wT pss_wB pss_wB) (hc σ H _ k fun H1 b t1 p => by
    cases b with
    | true => rw [if_pos rfl]; exact ht p _ _ (k.to t1)
    | false => rw [if_neg Bool.false_ne_true]; exact hf p _ _ (k.to t1)))
/-- a branch's end: what stands behind the if -/
theorem sx_fall {D' : Ends} (h : SX X G I Γ sts D) (e : D'.nx = wB X sts D) : SX X G I Γ [] D' := sx_nil fun σ H k => by rw [e]; exact h σ H k
/-- an if that only hands back, or else goes on -/
theorem sx_ifR {c : Expr} (hc : TX X G I Γ c P J) (ht : P true → SX X G J Γ body { D with nx := wB X sts D }) (hf : P false → SX X G J Γ sts D) : SX X G I Γ (.If c body [] pos :: sts) D :=
  sx_if hc ht fun p => sx_fall (hf p) rfl
end

/-! ### a def by its body -/
section
variable {Pr : Program} {w : World} {K : PySem.W.Frag} {mg : Str → Option Value} {base : Heap} {x qual : Str} {st : Stmt} {f : Addr} {fd : FuncData} {N ps : List Str} {k : Nat}
abbrev cxF (Pr : Program) (w : World) (K : PySem.W.Frag) (mg : Str → Option Value) (base : Heap) (N : List Str) (qual : Str) (sc : Scope) (f : Addr) (cdv : Value) (A : Around) (outer : List Env) (s : Shared) (H : Hp) (E : XK) : Cx :=
  (cxOf CX0 Pr w K mg base N qual sc f cdv A outer s H E).nox
abbrev retE (Q : VK) : Ends := { nx := fun _ H' => Q .non H', rt := Q }
theorem start_sat {As : List Asr} {F : Hp} {vs : List V} {N : List Str} (h : AllA As F vs) : Sat (As.map some ++ List.replicate (N.length - As.length) none) F (start N vs) := fun i A e => by
  have hl := h.len
  by_cases hi : i < As.length
  · rw [List.getElem?_append_left (by rw [List.length_map]; exact hi), List.getElem?_map] at e
    cases q : As[i]? with
    | none => rw [q] at e; cases e
    | some B =>
      rw [q] at e
      have e2 : B = A := by simpa using e
      subst e2
      obtain ⟨v, h1, h2⟩ := h.get q
      refine ⟨v, ?_, h2⟩
      unfold start
      rw [List.getElem?_append_left (by rw [List.length_map]; omega), List.getElem?_map, h1]
      rfl
  · rw [List.getElem?_append_right (by rw [List.length_map]; omega), List.getElem?_replicate] at e
    split at e <;> cases e
theorem fn_pure {ι : Type} {dom : ι → List Asr} {ok : ι → Prop} {cod : ι → Asr} (F : Fun K x qual st f fd) (S : FnScope N ps (defScope st)) (hl : ∀ i, (dom i).length = ps.length)
    (h : ∀ (cdv : Value) (A : Around) (outer : List Env) (s : Shared) (H : Hp) (E : XK) (U : Addr → Prop) (i : ι) (Q : VK), Room k (A.deeper (envOfC qual (defScope st) s.heap.objs.size f cdv)) → ok i → Ret (gP U H) (ivT _) (cod i) (retE Q) →
      SX (cxF Pr w K mg base N qual (defScope st) f cdv A outer s H E) (gP U H) (ivT _) ((dom i).map some ++ List.replicate (N.length - ps.length) none) (defBody st) (retE Q)) :
    FnOk Pr w K mg base CX0 (k + 1) f fd ps (spF dom ok cod) := by
  have hpl : ps.length ≤ N.length := by have := congrArg List.length S.pre; rw [List.length_take] at this; omega
  refine F.ok S (fun vs H Q E ⟨M, i, _, _, r, _⟩ => by rw [r.len, hl]) fun cdv A outer s H vs Q E hr ⟨M, i, l, o, r, q⟩ => ⟨_, pss_wB, ?_⟩
  refine h cdv A outer s H E M i _ hr o ?_ _ _ ⟨fun a o _ e => e, fun a u => ?_, True.intro, ?_, ?_⟩
  · intro Γ σ H' v kk a
    refine q H' v (fun a o e => kk.frame a o (fun z => z) e) (Asr.mono _ (fz_less fun a u => ?_) a)
    exact .inr u
  · rcases u with u | u
    · exact u.elim
    · exact l a u
  · rw [← hl i]
    refine start_sat (r.mono (fz_less fun a u => ?_))
    rcases u with u | u
    · exact u.elim
    · exact u
  · show (start N vs).length = _
    unfold start
    rw [List.length_append, List.length_append, List.length_map, List.length_map, List.length_replicate, List.length_replicate, r.len, hl]
end

/-! ### what is walked -/
structure Walks (U : Addr → Prop) (J : It) (As : List Asr) (H1 : Hp) : Prop where
  go : ∀ (U' : Addr → Prop) H2, Sm (fz U H1) (fz U' H2) → ∀ i, i < As.length → J.go i H2
  stop : ∀ (U' : Addr → Prop) H2, Sm (fz U H1) (fz U' H2) → ∀ i, As.length ≤ i → J.stop i H2
  yld : ∀ (U' : Addr → Prop) H2, Sm (fz U H1) (fz U' H2) → (∀ a, U' a → H2 a ≠ none) → ∀ i x H3 A, As[i]? = some A → J.yld i H2 x H3 → Sm H2 H3 ∧ A.p (fz U' H3) x
def IX (X : Cx) (G : Gx) (I : Iv G.M) (Γ : Slots) (tg iter : Expr) (As : List Asr) (J : Iv G.M) : Prop := ∃ wi, PI X tg iter wi ∧ ∀ (σ : St) (H : Hp) (R : It → Hp → Prop), G.Ok I Γ σ H → (∀ T H1, G.To J H H1 → Walks G.U T As H1 → R T H1) → wi σ H R
section
variable {X : Cx} {G : Gx} {I J K W1 : Iv G.M} {Γ : Slots} {tg e a b : Expr} {A B : Asr} {As Bs : List Asr} {pos p : Pos}
theorem walks_list {U : Addr → Prop} {K : PySem.W.Frag} {H1 : Hp} {q : Addr} {vs : List V} (h : SqL K (fz U H1) q vs) (r : AllA As (fz U H1) vs) : Walks U (Itl K q) As H1 := by
  refine ⟨fun U' H2 s i hi => ?_, fun U' H2 s i hi => ⟨vs, SqL.mono fz_sub (SqL.mono s h), by rw [r.len]; exact hi⟩, fun U' H2 s l i x H3 A e y => ?_⟩
  · obtain ⟨v, e, _⟩ := r.get (List.getElem?_eq_getElem hi)
    exact ⟨vs, v, SqL.mono fz_sub (SqL.mono s h), e⟩
  · obtain ⟨rfl, y⟩ := y
    obtain ⟨v, e1, a1⟩ := r.get e
    have e2 := y vs (SqL.mono fz_sub (SqL.mono s h))
    rw [e1] at e2; cases e2
    exact ⟨Sm.rfl', A.mono s a1⟩
theorem ix_list' (he : EX X G I Γ e (isLst X.K As) J) : IX X G I Γ tg e As J := ⟨_, pi_list pe_wE, fun σ H R k q => he σ H _ k fun H1 v t1 ⟨a, vs, e1, h, r⟩ => by
  subst e1
  exact ⟨a, rfl, ⟨vs, SqL.mono fz_sub h⟩, q _ _ t1 (walks_list h r)⟩⟩
theorem ix_tup' (he : EX X G I Γ e (isTup X.K As) J) : IX X G I Γ tg e As J := ⟨_, pi_tup pe_wE, fun σ H R k q => he σ H _ k fun H1 v t1 ⟨a, vs, e1, h, r⟩ => by
  subst e1
  refine ⟨a, rfl, ⟨vs, SqT.mono fz_sub h⟩, q _ _ t1 ⟨fun U' H2 s i hi => ?_, fun U' H2 s i hi => ⟨vs, SqT.mono fz_sub (SqT.mono s h), by rw [r.len]; exact hi⟩, fun U' H2 s l i x H3 A e y => ?_⟩⟩
  · obtain ⟨v, e, _⟩ := r.get (List.getElem?_eq_getElem hi)
    exact ⟨vs, v, SqT.mono fz_sub (SqT.mono s h), e⟩
  · obtain ⟨rfl, y⟩ := y
    obtain ⟨v, e1, a1⟩ := r.get e
    have e2 := y vs (SqT.mono fz_sub (SqT.mono s h))
    rw [e1] at e2; cases e2
    exact ⟨Sm.rfl', A.mono s a1⟩⟩
def rangeA (n : Nat) : List Asr := (List.range n).map fun i => aInt ((i : Nat) : Int)
theorem ix_range {n : Nat} (hg : Gl X "range") (hm : X.mg "range" = none) (he : EX X G I Γ e (aInt (n : Int)) J) (hn : n ≤ 100000) (hs : starEach [e] X.env = [(false, eval e X.env)] := by rfl) : IX X G I Γ tg (.Call (.Name "range" p) [e] [] pos) (rangeA n) J :=
  ⟨_, pi_range1 hg hm pa_wA hs, fun σ H R k q => ax_cons he ax_nil hs σ H _ k fun H1 vs t1 r => by
    refine ⟨(n : Int), AllA.v1 r, by omega, by omega, q _ _ t1 ?_⟩
    rw [Int.toNat_natCast]
    have hl : (rangeA n).length = n := by unfold rangeA; rw [List.length_map, List.length_range]
    refine ⟨fun U' H2 s i hi => by rw [hl] at hi; exact hi, fun U' H2 s i hi => by rw [hl] at hi; exact hi, fun U' H2 s l i x H3 A e y => ?_⟩
    obtain ⟨rfl, rfl⟩ := y
    refine ⟨Sm.rfl', ?_⟩
    unfold rangeA at e
    rw [List.getElem?_map] at e
    by_cases hi : i < n
    · rw [List.getElem?_range hi] at e
      cases e
      show V.int _ = V.int _
      congr 1; omega
    · rw [List.getElem?_eq_none (by rw [List.length_range]; omega)] at e; cases e⟩
def zipA (K : PySem.W.Frag) (As Bs : List Asr) : List Asr := List.zipWith (fun A B => isTup K [A, B]) As Bs
theorem ix_zip {elts : List Expr} {kk : Nat} {tpos : Pos} (hg : Gl X "zip") (hm : X.mg "zip" = none) (ha : EX X G I Γ a (isLst X.K As) J) (hb : EX X G J Γ b (isLst X.K Bs) K)
    (hs : starEach [a, b] X.env = (false, eval a X.env) :: starEach [b] X.env := by rfl) (hs2 : starEach [b] X.env = (false, eval b X.env) :: starEach [] X.env := by rfl) (hpl : (backTo pos (starEach [b] X.env)).any (·.1) = false := by rfl) :
    IX X G I Γ (.Tuple elts kk tpos) (.Call (.Name "zip" p) [a, b] [] pos) (zipA X.K As Bs) K :=
  ⟨_, pi_zip hg hm pa_wA hs hpl, fun σ H R k q => ax_cons ha (ax_cons hb ax_nil hs2) hs σ H _ k fun H1 vs t1 ⟨v, r, e1, ⟨c, xs, e2, h1, r1⟩, v2, r2, e3, ⟨d, ys, e4, h2, r2'⟩, e5⟩ => by
    subst e5; subst e4; subst e3; subst e2; subst e1
    refine ⟨c, d, xs, ys, rfl, SqL.mono fz_sub h1, SqL.mono fz_sub h2, q _ _ t1 ?_⟩
    have hl : (zipA X.K As Bs).length = min As.length Bs.length := by unfold zipA; rw [List.length_zipWith]
    refine ⟨fun U' H2 s i hi => ?_, fun U' H2 s i hi => ?_, fun U' H2 s l i x H3 A e y => ?_⟩
    · rw [hl] at hi
      obtain ⟨x, ex, _⟩ := r1.get (List.getElem?_eq_getElem (i := i) (by omega))
      obtain ⟨y, ey, _⟩ := r2'.get (List.getElem?_eq_getElem (i := i) (by omega))
      exact ⟨xs, ys, x, y, SqL.mono fz_sub (SqL.mono s h1), SqL.mono fz_sub (SqL.mono s h2), ex, ey⟩
    · rw [hl] at hi
      refine ⟨xs, ys, SqL.mono fz_sub (SqL.mono s h1), SqL.mono fz_sub (SqL.mono s h2), ?_⟩
      rw [r1.len, r2'.len]; omega
    · obtain ⟨T, x', y', rfl, nT, rfl, f1, f2⟩ := y
      unfold zipA at e
      rw [List.getElem?_zipWith] at e
      cases qa : As[i]? with
      | none => rw [qa] at e; cases e
      | some Aa =>
        cases qb : Bs[i]? with
        | none => rw [qa, qb] at e; cases e
        | some Bb =>
          rw [qa, qb] at e
          cases e
          obtain ⟨u, eu, au⟩ := r1.get qa
          obtain ⟨w, ew, aw⟩ := r2'.get qb
          have g1 := f1 xs (SqL.mono fz_sub (SqL.mono s h1))
          have g2 := f2 ys (SqL.mono fz_sub (SqL.mono s h2))
          rw [eu] at g1; cases g1
          rw [ew] at g2; cases g2
          have nU : ¬ U' T := fun m => l T m nT
          have s3 : Sm (fz U' H2) (fz U' (upd H2 T (.tup [x', y']))) := fun z o ez => by
            obtain ⟨nz, ez⟩ := fz_some ez
            rw [fz_neg nz]; exact sm_upd nT z o ez
          refine ⟨sm_upd nT, T, [x', y'], rfl, .inl (.inl ?_), x', [y'], rfl, Aa.mono (Sm.trans' s s3) au, y', [], rfl, Bb.mono (Sm.trans' s s3) aw, rfl⟩
          rw [fz_neg nU]; exact upd_same⟩
def enumA (K : PySem.W.Frag) (As : List Asr) : List Asr := List.zipWith (fun i A => isTup K [aInt ((i : Nat) : Int), A]) (List.range As.length) As
theorem ix_enum {elts : List Expr} {kk : Nat} {tpos : Pos} (hg : Gl X "enumerate") (hm : X.mg "enumerate" = none) (ha : EX X G I Γ a (isLst X.K As) J) (hs : starEach [a] X.env = [(false, eval a X.env)] := by rfl) :
    IX X G I Γ (.Tuple elts kk tpos) (.Call (.Name "enumerate" p) [a] [] pos) (enumA X.K As) J :=
  ⟨_, pi_enum hg hm pa_wA hs, fun σ H R k q => ax_cons ha ax_nil hs σ H _ k fun H1 vs t1 ⟨v, r, e1, ⟨c, xs, e2, h1, r1⟩, e5⟩ => by
    subst e5; subst e2; subst e1
    refine ⟨c, xs, rfl, SqL.mono fz_sub h1, q _ _ t1 ?_⟩
    have hl : (enumA X.K As).length = As.length := by unfold enumA; rw [List.length_zipWith, List.length_range]; omega
    refine ⟨fun U' H2 s i hi => ?_, fun U' H2 s i hi => ?_, fun U' H2 s l i x H3 A e y => ?_⟩
    · rw [hl] at hi
      obtain ⟨x, ex, _⟩ := r1.get (List.getElem?_eq_getElem (i := i) (by omega))
      exact ⟨xs, x, SqL.mono fz_sub (SqL.mono s h1), ex⟩
    · rw [hl] at hi
      exact ⟨xs, SqL.mono fz_sub (SqL.mono s h1), by rw [r1.len]; omega⟩
    · obtain ⟨T, x', rfl, nT, rfl, f1⟩ := y
      unfold enumA at e
      rw [List.getElem?_zipWith] at e
      cases qa : As[i]? with
      | none => rw [qa] at e; cases qi : (List.range As.length)[i]? <;> rw [qi] at e <;> cases e
      | some Aa =>
        have hi : i < As.length := by
          rcases Nat.lt_or_ge i As.length with z | z
          · exact z
          · rw [List.getElem?_eq_none z] at qa; cases qa
        rw [qa, List.getElem?_range hi] at e
        cases e
        obtain ⟨u, eu, au⟩ := r1.get qa
        have g1 := f1 xs (SqL.mono fz_sub (SqL.mono s h1))
        rw [eu] at g1; cases g1
        have nU : ¬ U' T := fun m => l T m nT
        have s3 : Sm (fz U' H2) (fz U' (upd H2 T (.tup [.int (i : Nat), x']))) := fun z o ez => by
          obtain ⟨nz, ez⟩ := fz_some ez
          rw [fz_neg nz]; exact sm_upd nT z o ez
        refine ⟨sm_upd nT, T, [.int (i : Nat), x'], rfl, .inl (.inl ?_), .int (i : Nat), [x'], rfl, rfl, x', [], rfl, Aa.mono (Sm.trans' s s3) au, rfl⟩
        rw [fz_neg nU]; exact upd_same⟩
theorem ix_rev (hg : Gl X "reversed") (hm : X.mg "reversed" = none) (ha : EX X G I Γ a (isLst X.K As) J) (hs : starEach [a] X.env = [(false, eval a X.env)] := by rfl) : IX X G I Γ tg (.Call (.Name "reversed" p) [a] [] pos) As.reverse J :=
  ⟨_, pi_reversed hg hm pa_wA hs, fun σ H R k q => ax_cons ha ax_nil hs σ H _ k fun H1 vs t1 ⟨v, r, e1, ⟨c, xs, e2, h1, r1⟩, e5⟩ => by
    subst e5; subst e2; subst e1
    refine ⟨c, xs, rfl, SqL.mono fz_sub h1, q _ _ t1 ?_⟩
    have hn := r1.len
    refine ⟨fun U' H2 s i hi => ?_, fun U' H2 s i hi => ?_, fun U' H2 s l i x H3 A e y => ?_⟩
    · rw [List.length_reverse] at hi
      obtain ⟨x, ex, _⟩ := r1.get (List.getElem?_eq_getElem (i := xs.length - 1 - i) (by omega))
      exact ⟨by omega, xs, x, SqL.mono fz_sub (SqL.mono s h1), ex⟩
    · rw [List.length_reverse] at hi
      show xs.length ≤ i
      omega
    · obtain ⟨rfl, f1⟩ := y
      have hi : i < As.length := by
        rcases Nat.lt_or_ge i As.length with z | z
        · exact z
        · rw [List.getElem?_eq_none (by rw [List.length_reverse]; exact z)] at e; cases e
      rw [List.getElem?_reverse hi] at e
      obtain ⟨u, eu, au⟩ := r1.get e
      have g1 := f1 xs (SqL.mono fz_sub (SqL.mono s h1))
      rw [hn, eu] at g1; cases g1
      exact ⟨Sm.rfl', A.mono s au⟩⟩
theorem sx_end {X : Cx} {G : Gx} {I : Iv G.M} {Γ : Slots} {Q : VK} {A : Asr} (h : Ret G I A (retE Q)) (a : ∀ F, A.p F .non) : SX X G I Γ [] (retE Q) := sx_nil fun σ H k => h Γ σ H .non k (a _)
theorem sx_retEq {X : Cx} {G : Gx} {I J : Iv G.M} {Γ : Slots} {D : Ends} {e : Expr} {A B : Asr} {pos : Pos} {sts : List Stmt} (he : EX X G I Γ e A J) (hr : Ret G J B D) (h : A = B) : SX X G I Γ (.Return (some e) pos :: sts) D := sx_ret he (by rw [h]; exact hr)
end
end L2.PL
namespace L2.PL
open PySem PySem.Spec PyProof.Rows
theorem wipe_get {σ : St} : ∀ {vs : List Nat} {j : Nat}, (wipe σ vs)[j]? = if j ∈ vs ∧ j < σ.length then some none else σ[j]?
  | [], j => by unfold wipe; rw [if_neg (by simp)]
  | v :: vs, j => by
    unfold wipe
    by_cases e : v = j
    · subst e
      by_cases h : v < σ.length
      · rw [List.getElem?_set_self (by rw [wipe_length]; exact h), if_pos ⟨List.mem_cons_self, h⟩]
      · rw [List.getElem?_eq_none (by rw [List.length_set, wipe_length]; omega), if_neg (fun z => h z.2), List.getElem?_eq_none (by omega)]
    · rw [List.getElem?_set_ne e, wipe_get]
      have : (j ∈ v :: vs) ↔ j ∈ vs := by rw [List.mem_cons]; exact ⟨fun h => h.resolve_left fun z => e z.symm, .inr⟩
      simp only [this]
theorem wipe_eq {σ τ : St} {vs : List Nat} (hl : σ.length = τ.length) (h : ∀ j, j ∉ vs → σ[j]? = τ[j]?) : wipe σ vs = wipe τ vs := by
  apply List.ext_getElem?
  intro j
  rw [wipe_get, wipe_get, hl]
  by_cases e : j ∈ vs
  · by_cases z : j < τ.length
    · rw [if_pos ⟨e, z⟩, if_pos ⟨e, z⟩]
    · rw [if_neg (fun w => z w.2), if_neg (fun w => z w.2), List.getElem?_eq_none (by omega), List.getElem?_eq_none (by omega)]
  · rw [if_neg (fun w => e w.1), if_neg (fun w => e w.1)]; exact h j e
theorem wipe_wipe {σ : St} {vs : List Nat} : wipe (wipe σ vs) vs = wipe σ vs := wipe_eq (wipe_length _ _) fun j h => by rw [wipe_get, if_neg (fun w => h w.1)]
/-- what a target does -/
def GSem (U : Addr → Prop) (g : TG) (A : Asr) (Γ Γ' : Slots) (vs : List Nat) : Prop := ∀ (v : V) (σ : St) (H : Hp) (Q : St → Hp → Prop), Sat Γ (fz U H) σ → σ.length = Γ.length → A.p (fz U H) v →
  (∀ σ', Sat Γ' (fz U H) σ' → σ'.length = Γ'.length → (∀ j, j ∉ vs → σ'[j]? = σ[j]?) → Q σ' H) → g v σ H Q
theorem gs_name {U : Addr → Prop} {A : Asr} {Γ : Slots} {i : Nat} (hi : i < Γ.length) : GSem U (gName i) A Γ (Γ.set i (some A)) [i] := fun v σ H Q s l a q =>
  q _ (s.set (by omega) a) (by rw [List.length_set, List.length_set]; exact l) fun j hj => by rw [List.getElem?_set_ne (fun e => hj (by rw [e]; exact List.mem_cons_self))]
theorem gs_tup2 {U : Addr → Prop} {K : PySem.W.Frag} {A B : Asr} {Γ : Slots} {i j : Nat} (hi : i < Γ.length) (hj : j < Γ.length) : GSem U (gTup K 2 (gCons (gName i) (gCons (gName j) gNil))) (isTup K [A, B]) Γ ((Γ.set i (some A)).set j (some B)) [i, j] :=
  fun v σ H Q s l ⟨p, ws, e1, h, v1, r1, e2, a1, v2, r2, e3, b1, e4⟩ q => by
    subst e4; subst e3; subst e2; subst e1
    refine ⟨p, _, rfl, SqT.mono fz_sub h, rfl, v1, _, rfl, v2, _, rfl, rfl, q _ ((s.set (by omega) a1).set (by rw [List.length_set]; omega) b1) (by simp [l]) fun k hk => ?_⟩
    have h1 : i ≠ k := fun e => hk (by rw [e]; simp)
    have h2 : j ≠ k := fun e => hk (by rw [e]; simp)
    rw [List.getElem?_set_ne h2, List.getElem?_set_ne h1]
/-- the way over a list, one new list -/
theorem lc_reads {G : Gx} {I : Iv G.M} (Iz : Nat → Iv G.M) {Γ : Slots} {As : List Asr} {vs : List Nat} {wi : TI} {g : TG} {tt : TT} {te : TE} (Γk : Nat → Slots) (Rk : Nat → List Asr)
    (hi : ∀ (σ : St) (H : Hp) (R : It → Hp → Prop), G.Ok I Γ σ H → (∀ T H1, G.To (Iz 0) H H1 → Walks G.U T As H1 → R T H1) → wi σ H R)
    (hw : ∀ j ∈ vs, ∀ A, Γ[j]? ≠ some (some A)) (h0 : Rk 0 = []) (hz : As.length ≤ 100000) (hR : ∀ i, (Rk i).length ≤ i)
    (hΓ : ∀ (D : Addr) k A, As[k]? = some A → (Γk k).length = Γ.length) (hg : ∀ D k A, As[k]? = some A → GSem (G.lk D).U g A Γ (Γk k) vs)
    (hs : ∀ D k A, As[k]? = some A → ∀ (σ : St) (H : Hp) (Q : Bool → Hp → Prop), (G.lk D).Ok (Iz k) (Γk k) σ H →
      ((∀ B H' T, Rk (k + 1) = Rk k ++ [B] → (G.lk D).To T H H' → (∀ Q' : VK, (∀ H'' v, (G.lk D).To (Iz (k + 1)) H' H'' → B.p (fz (G.lk D).U H'') v → Q' v H'') → te σ H' Q') → Q true H') ∧ (∀ H', Rk (k + 1) = Rk k → (G.lk D).To (Iz (k + 1)) H H' → Q false H')) → tt σ H Q) :
    ∀ (σ : St) (H : Hp) (Q : VK), G.Ok I Γ σ H → (∀ H' D acc, G.To (Iz As.length) H H' → H D = none → H' D = some (.lst acc) → AllA (Rk As.length) (fz (G.lk D).U H') acc → Q (.ref D) H') → tLc wi g tt te vs σ H Q := by
  intro σ H Q k q
  refine hi σ H _ k fun J H1 t1 wk D hD => ?_
  have k1 := k.to t1
  have nU : ¬ G.U D := fun m => t1.live D m hD
  have nM : ¬ G.M D := fun m => nU (.inl m)
  have lkU : ∀ {a}, (G.lk D).U a ↔ G.U a ∨ a = D := Gx.lk_U
  have f01 : Sm (fz G.U H1) (fz (G.lk D).U H1) := fun a o e => by
    obtain ⟨n, e⟩ := fz_some e
    rw [fz_neg fun z => (lkU.mp z).elim n fun z => by rw [z, hD] at e; cases e]; exact e
  let Pv : Nat → Hp → Prop := fun i H2 => Sm (fz G.U H1) (fz (G.lk D).U H2) ∧ (∀ a o, ¬ G.M a → a ≠ D → H1 a = some o → H2 a = some o) ∧ (∀ a, G.U a → H2 a ≠ none) ∧ (Iz i).p H2 ∧ ∃ acc, H2 D = some (.lst acc) ∧ AllA (Rk i) (fz (G.lk D).U H2) acc
  have lkLess : ∀ H2, Sm (fz (G.lk D).U H2) (fz G.U H2) := fun H2 => fz_less fun a z => lkU.mpr (.inl z)
  refine ⟨fun i m H2 => m = As.length - i ∧ i ≤ As.length ∧ Pv i H2, ⟨As.length, by omega, Nat.zero_le _, ?_⟩, ?_⟩
  · have u : Sm (fz (G.lk D).U H1) (fz (G.lk D).U (upd H1 D (.lst []))) := fun a o e => by
      obtain ⟨n, e⟩ := fz_some e
      rw [fz_neg n]; exact sm_upd hD a o e
    have t2 := Gx.To.new (o := .lst []) t1.live t1.inv hD
    exact ⟨Sm.trans' f01 u, fun a o _ _ e => sm_upd hD a o e, t2.live, t2.inv, [], upd_same, by rw [h0]; rfl⟩
  · rintro i m H2 ⟨rfl, hle, s2, kp, lv, iv, acc, eD, ra⟩
    have lvL : ∀ a, (G.lk D).U a → H2 a ≠ none := fun a m => (lkU.mp m).elim (lv a) fun z => by rw [z, eD]; exact fun w => nomatch w
    by_cases hlt : i < As.length
    · have eA := List.getElem?_eq_getElem hlt
      refine .inr ⟨wk.go _ H2 s2 i hlt, Pv (i + 1), fun H' p' => ⟨As.length - (i + 1), by omega, rfl, hlt, p'⟩, fun x H3 y => ?_⟩
      obtain ⟨s3, ax⟩ := wk.yld _ H2 s2 lvL i x H3 _ eA y
      have eD3 : H3 D = some (.lst acc) := s3 D _ eD
      have lv3 : ∀ a, G.U a → H3 a ≠ none := fun a m => by
        cases z : H2 a with
        | none => exact absurd z (lv a m)
        | some o => rw [s3 a o z]; exact fun w => nomatch w
      have e3 : ∀ a, G.M a → H3 a = H2 a := fun a m => by
        cases z : H2 a with
        | none => exact absurd z (lv a (.inl m))
        | some o => exact s3 a o z
      have iv3 : (Iz i).p H3 := (Iz i).dep H2 H3 e3 iv
      have sm3 : Sm (fz (G.lk D).U H2) (fz (G.lk D).U H3) := fun a o e => by
        obtain ⟨n, e⟩ := fz_some e
        rw [fz_neg n]; exact s3 a o e
      have lvL3 : ∀ a, (G.lk D).U a → H3 a ≠ none := fun a m => (lkU.mp m).elim (lv3 a) fun z => by rw [z, eD3]; exact fun w => nomatch w
      have ok3 : ∀ {Γ' : Slots} {σ' : St}, Sat Γ' (fz (G.lk D).U H3) σ' → σ'.length = Γ'.length → (G.lk D).Ok (Iz i) Γ' σ' H3 := fun st ln =>
        ⟨fun a o n e => s3 a o (by
          have e : G.H0 a = some o := e
          have e1 := k1.frame a o n e
          exact kp a o (fun z => (G.fr a z).elim n fun w => by rw [w] at e; cases e) (fun z => by rw [z, hD] at e1; cases e1) e1), lvL3, iv3, st, ln⟩
      have sat3 : Sat Γ (fz (G.lk D).U H3) (wipe σ vs) := fun j A e => by
        obtain ⟨v, h1, h2⟩ := k1.sat j A e
        refine ⟨v, ?_, A.mono (Sm.trans' s2 sm3) h2⟩
        rw [wipe_get, if_neg (fun z => hw j z.1 A e)]; exact h1
      refine hg D i _ eA x (wipe σ vs) H3 _ sat3 (by rw [wipe_length]; exact k1.len) ax fun σ2 st2 ln2 kp2 => ?_
      refine ⟨?_, hs D i _ eA σ2 H3 _ (ok3 st2 ln2) ⟨fun B H4 T eR t4 te4 => ?_, fun H4 eR t4 => ?_⟩⟩
      · rw [← wipe_wipe (σ := σ)]
        exact wipe_eq (by rw [ln2, hΓ D i _ eA, wipe_length, ← k1.len]) kp2
      · rw [if_pos rfl]
        refine te4 _ fun H5 yv t5 by5 => ?_
        have t45 := t4.trans t5
        have eD5 : H5 D = some (.lst acc) := t45.keep D _ nM eD3
        have fzD : fz (G.lk D).U (upd H5 D (.lst (acc ++ [yv]))) = fz (G.lk D).U H5 := by
          funext a
          by_cases z : (G.lk D).U a
          · rw [fz_pos z, fz_pos z]
          · rw [fz_neg z, fz_neg z, upd_ne fun w => z (lkU.mpr (.inr w))]
        refine ⟨acc, eD5, Nat.lt_of_le_of_lt (Nat.le_trans (by rw [ra.len]; exact hR i) (Nat.le_of_lt hlt)) (Nat.lt_of_le_of_lt hz (by rw [sizeLine_eq]; omega)), ?_, fun a o n nd e => ?_, fun a m => ?_, ?_, acc ++ [yv], upd_same, ?_⟩
        · rw [fzD]; exact Sm.trans' s2 (Sm.trans' sm3 t45.fz)
        · rw [upd_ne nd]; exact t45.keep a o n (s3 a o (kp a o n nd e))
        · by_cases z : a = D
          · rw [z, upd_same]; exact fun w => nomatch w
          · rw [upd_ne z]; exact t45.live a (lkU.mpr (.inl m))
        · exact (Iz (i + 1)).dep H5 _ (fun a m => upd_ne fun z => nM (by rw [← z]; exact m)) t45.inv
        · rw [fzD, eR]
          exact (ra.mono (Sm.trans' sm3 t45.fz)).app (AllA.one by5)
      · rw [if_neg Bool.false_ne_true]
        refine ⟨Sm.trans' s2 (Sm.trans' sm3 t4.fz), fun a o n nd e => t4.keep a o n (s3 a o (kp a o n nd e)), fun a m => t4.live a (lkU.mpr (.inl m)), t4.inv, acc, t4.keep D _ nM eD3, ?_⟩
        rw [eR]
        exact ra.mono (Sm.trans' sm3 t4.fz)
    · have e : i = As.length := by omega
      subst e
      have hD0 : H D = none := by
        cases z : H D with
        | none => rfl
        | some o =>
          by_cases m : G.M D
          · exact absurd m nM
          · have := t1.keep D o m z
            rw [hD] at this; cases this
      refine .inl ⟨wk.stop _ H2 s2 _ (Nat.le_refl _), q H2 D acc ⟨fun a o n e => ?_, lv, iv⟩ hD0 eD ra⟩
      have e1 := t1.keep a o n e
      exact kp a o n (fun z => by rw [z, hD] at e1; cases e1) e1

/-! ### comprehensions -/
def LX (X : Cx) (G : Gx) (I : Iv G.M) (Γ : Slots) (elt tg iter : Expr) (ifs : List Expr) (scope : Scope) (R : List Asr) (J : Iv G.M) : Prop := ∃ (wi : TI) (g : TG) (tt : TT) (te : TE) (own : List (Str × Nat)), PI X tg iter wi ∧ BlkOk X.N X.env.scope scope own ∧
  (∀ (s : Shared) (H : Hp) (C : Addr) (cl : List (Str × Addr)) (fp : List Addr), PG (X.blk s H scope (compEnvC scope cl C X.env) fp) tg g) ∧ (∀ (s : Shared) (H : Hp) (C : Addr) (cl : List (Str × Addr)) (fp : List Addr), PTs (X.blk s H scope (compEnvC scope cl C X.env) fp) ifs tt) ∧
  (∀ (s : Shared) (H : Hp) (C : Addr) (cl : List (Str × Addr)) (fp : List Addr), PE (X.blk s H scope (compEnvC scope cl C X.env) fp) elt te) ∧
  ∀ (σ : St) (H : Hp) (Q : VK), G.Ok I Γ σ H → (∀ H' D acc, G.To J H H' → H D = none → H' D = some (.lst acc) → AllA R (fz (G.lk D).U H') acc → Q (.ref D) H') → tLc wi g tt te (own.map (·.2)) σ H Q
section
variable {X : Cx} {G : Gx} {I J K : Iv G.M} {Γ : Slots} {elt tg iter c : Expr} {ifs : List Expr} {scope : Scope} {As Cs : List Asr} {pos spos py : Pos} {sts : List Stmt} {D : Ends} {i : Nat} {y : Str}
theorem new_of {σ : St} {H H' : Hp} {D : Addr} {acc : List V} (k : G.Ok I Γ σ H) (n : H D = none) (e : H' D = some (.lst acc)) (a : AllA As (fz (G.lk D).U H') acc) : (isNew As).p (fz G.U H') (.ref D) :=
  ⟨D, acc, rfl, by rw [fz_neg fun m => k.live D m n]; exact e, a.mono (fz_less fun _ z => Gx.lk_U.mpr (.inl z))⟩
theorem ex_lc (hc : X.calm = true) (nd : X.N.Nodup) (h : LX X G I Γ elt tg iter ifs scope As J) (hs : ∀ x, foldedSetIterable iter X.env x = pure x := by intro _; rfl) : EX X G I Γ (.ListComp elt [⟨tg, iter, ifs, 0⟩] scope pos) (isNew As) J := fun σ H Q k q => by
  obtain ⟨wi, g, tt, te, own, h1, h2, h3, h4, h5, h6⟩ := h
  exact PE.w (pe_lc hc nd h1 h2 h3 h4 h5 hs) (h6 σ H Q k fun H' D acc t n e a => q H' _ t (new_of k n e a))
theorem sx_setLc (hc : X.calm = true) (nd : X.N.Nodup) (hy : X.N[i]? = some y) (hyl : X.env.scope.names.lookup y = some .local) (hl : i < Γ.length) (h : LX X G I Γ elt tg iter ifs scope As J) (hr : SX X G J (Γ.set i (some (isNew As))) sts D)
    (hsw : swapsWith (.ListComp elt [⟨tg, iter, ifs, 0⟩] scope pos) (some (.Name y py)) spos.line X.env = pure true) (hs : ∀ x, foldedSetIterable iter X.env x = pure x := by intro _; rfl) :
    SX X G I Γ (.Assign [.Name y py] (.ListComp elt [⟨tg, iter, ifs, 0⟩] scope pos) spos :: sts) D := fun σ H k => by
  obtain ⟨wi, g, tt, te, own, h1, h2, h3, h4, h5, h6⟩ := h
  exact wB_cons (PS.w (ps_setLc hc nd hy hyl hsw h1 h2 h3 h4 h5 hs) (h6 σ H _ k fun H1 D acc t1 n e a => hr _ _ ((k.to t1).setv hl (new_of k n e a))))
def teB (X : Cx) (scope : Scope) (elt : Expr) : TE := fun σ H Q => ∀ (s : Shared) (H0 : Hp) (C : Addr) (cl : List (Str × Addr)) (fp : List Addr), wE (X.blk s H0 scope (compEnvC scope cl C X.env) fp) elt σ H Q
def ttB (X : Cx) (scope : Scope) (c : Expr) : TT := fun σ H Q => ∀ (s : Shared) (H0 : Hp) (C : Addr) (cl : List (Str × Addr)) (fp : List Addr), wT (X.blk s H0 scope (compEnvC scope cl C X.env) fp) c σ H Q
theorem take_succ_get {α : Type} {l : List α} {k : Nat} {a : α} (h : l[k]? = some a) : l.take (k + 1) = l.take k ++ [a] := by
  rw [List.take_add_one, h]; rfl
/-- no if: the elements one by one -/
theorem lx_all {own : List (Str × Nat)} {g : TG} (Γk : Nat → Asr → Slots) (Iz : Nat → Iv G.M) (hi : IX X G I Γ tg iter As (Iz 0)) (blk : blkC X.N X.env.scope scope own = true) (hz : As.length ≤ 100000) (hC : Cs.length = As.length)
    (hw : ∀ j ∈ own.map (·.2), ∀ A, Γ[j]? ≠ some (some A)) (hΓ : ∀ (k : Nat) A, As[k]? = some A → (Γk k A).length = Γ.length)
    (hpg : ∀ (s : Shared) (H : Hp) (C : Addr) (cl : List (Str × Addr)) (fp : List Addr), PG (X.blk s H scope (compEnvC scope cl C X.env) fp) tg g)
    (hg : ∀ (U : Addr → Prop) k A, As[k]? = some A → GSem U g A Γ (Γk k A) (own.map (·.2)))
    (he : ∀ D (s : Shared) (H : Hp) (C : Addr) (cl : List (Str × Addr)) (fp : List Addr) k A B, As[k]? = some A → Cs[k]? = some B → EX (X.blk s H scope (compEnvC scope cl C X.env) fp) (G.lk D) (Iz k) (Γk k A) elt B (Iz (k + 1))) :
    LX X G I Γ elt tg iter [] scope Cs (Iz As.length) := by
  obtain ⟨wi, h1, h2⟩ := hi
  refine ⟨wi, g, tYes, teB X scope elt, own, h1, blkOk_by blk, hpg, fun _ _ _ _ _ => pts_nil, fun s H C cl fp => ⟨fun pins s' σ H' Q I h => h s H C cl fp pins s' I⟩, ?_⟩
  have e : Cs = Cs.take As.length := by rw [← hC, List.take_length]
  rw [e]
  refine lc_reads Iz (tt := tYes) (te := teB X scope elt) (fun k => match As[k]? with | some A => Γk k A | none => Γ) (fun k => Cs.take k) h2 hw rfl hz (fun k => List.length_take_le _ _) (fun _ k A q => by simp only [q]; exact hΓ k A q) (fun D k A q => by simp only [q]; exact hg _ k A q) fun D k A eA σ H Q kk w => ?_
  simp only [eA] at kk
  have hk : k < As.length := by
    rcases Nat.lt_or_ge k As.length with z | z
    · exact z
    · rw [List.getElem?_eq_none z] at eA; cases eA
  have eC : Cs[k]? = some (Cs[k]'(by omega)) := List.getElem?_eq_getElem (by omega)
  exact w.1 _ H _ (take_succ_get eC) kk.self fun Q' q' s H0 C cl fp => he D s H0 C cl fp k A _ eA eC σ H Q' kk q'
/-- one if -/
theorem lx_if {ι : Type} {l : List ι} {fA fC : ι → Asr} {p : ι → Bool} {own : List (Str × Nat)} {g : TG} (Γk : ι → Slots) (hi : IX X G I Γ tg iter (l.map fA) J) (blk : blkC X.N X.env.scope scope own = true) (hz : l.length ≤ 100000)
    (hw : ∀ j ∈ own.map (·.2), ∀ A, Γ[j]? ≠ some (some A)) (hΓ : ∀ a ∈ l, (Γk a).length = Γ.length)
    (hpg : ∀ (s : Shared) (H : Hp) (C : Addr) (cl : List (Str × Addr)) (fp : List Addr), PG (X.blk s H scope (compEnvC scope cl C X.env) fp) tg g)
    (hg : ∀ (U : Addr → Prop) a, a ∈ l → GSem U g (fA a) Γ (Γk a) (own.map (·.2)))
    (ht : ∀ D (s : Shared) (H : Hp) (C : Addr) (cl : List (Str × Addr)) (fp : List Addr) a, a ∈ l → TX (X.blk s H scope (compEnvC scope cl C X.env) fp) (G.lk D) J (Γk a) c (· = p a) J)
    (he : ∀ D (s : Shared) (H : Hp) (C : Addr) (cl : List (Str × Addr)) (fp : List Addr) a, a ∈ l → p a = true → EX (X.blk s H scope (compEnvC scope cl C X.env) fp) (G.lk D) J (Γk a) elt (fC a) J) :
    LX X G I Γ elt tg iter [c] scope ((l.filter p).map fC) J := by
  obtain ⟨wi, h1, h2⟩ := hi
  refine ⟨wi, g, ttB X scope c, teB X scope elt, own, h1, blkOk_by blk, hpg, fun s H C cl fp => pts_one ⟨fun pins s' σ H' Q I h => h s H C cl fp pins s' I⟩, fun s H C cl fp => ⟨fun pins s' σ H' Q I h => h s H C cl fp pins s' I⟩, ?_⟩
  have e : (l.filter p).map fC = ((l.take (l.map fA).length).filter p).map fC := by rw [List.length_map, List.take_length]
  rw [e]
  have get : ∀ {k A}, (l.map fA)[k]? = some A → ∃ a, l[k]? = some a ∧ a ∈ l ∧ A = fA a := fun {k A} q => by
    rw [List.getElem?_map] at q
    cases z : l[k]? with
    | none => rw [z] at q; cases q
    | some a => rw [z] at q; exact ⟨a, z, List.mem_of_getElem? z, (Option.some.inj q).symm⟩
  refine lc_reads (fun _ => J) (tt := ttB X scope c) (te := teB X scope elt) (fun k => match l[k]? with | some a => Γk a | none => Γ) (fun k => ((l.take k).filter p).map fC) h2 hw rfl (by rw [List.length_map]; exact hz)
    (fun k => by rw [List.length_map]; exact Nat.le_trans (List.length_filter_le _ _) (List.length_take_le _ _)) (fun D k A q => ?_) (fun D k A q => ?_) fun D k A eA σ H Q kk w => ?_
  · obtain ⟨a, e1, m, rfl⟩ := get q
    rw [e1]; exact hΓ a m
  · obtain ⟨a, e1, m, rfl⟩ := get q
    rw [e1]; exact hg _ a m
  · obtain ⟨a, e1, m, rfl⟩ := get eA
    rw [e1] at kk
    intro s H0 C cl fp
    refine ht D s H0 C cl fp a m σ H _ kk fun H1 b t1 eb => ?_
    have et : l.take (k + 1) = l.take k ++ [a] := take_succ_get e1
    cases hb : b with
    | true =>
      rw [hb] at eb
      refine w.1 (fC a) H1 _ ?_ t1 fun Q' q' s H0 C cl fp => he D s H0 C cl fp a m eb.symm σ H1 Q' (kk.to t1) q'
      rw [et, List.filter_append, List.map_append, List.filter_cons_of_pos (by rw [← eb])]
      rfl
    | false =>
      rw [hb] at eb
      refine w.2 H1 ?_ t1
      rw [et, List.filter_append, List.filter_cons_of_neg (by rw [← eb]; exact Bool.false_ne_true)]
      simp
end
end L2.PL
namespace L2.PL
open PySem PySem.Spec PyProof.Rows
/-- the same place, looked at from H1 -/
abbrev Gx.re (G : Gx) (H1 : Hp) : Gx := ⟨G.M, G.L, G.M, H1, fun _ h => h, fun _ h => .inl h⟩
theorem Gx.Ok.back {G : Gx} {I : Iv G.M} {H1 : Hp} {Γ Γ1 : Slots} {σ σ1 : St} {H : Hp} {J : Iv G.M} (k1 : G.Ok J Γ1 σ1 H1) (k : (G.re H1).Ok I Γ σ H) : G.Ok I Γ σ H :=
  ⟨fun a o n e => k.frame a o (fun z => (G.fr a z).elim n fun q => by rw [q] at e; cases e) (k1.frame a o n e), k.live, k.inv, k.sat, k.len⟩
theorem Gx.Ok.at {G : Gx} {I : Iv G.M} {Γ : Slots} {σ : St} {H : Hp} (k : G.Ok I Γ σ H) : (G.re H).Ok I Γ σ H := ⟨fun _ _ _ e => e, k.live, k.inv, k.sat, k.len⟩
theorem Ret.re {G : Gx} {I J : Iv G.M} {A : Asr} {D : Ends} {H1 : Hp} {Γ1 : Slots} {σ1 : St} (r : Ret G I A D) (k1 : G.Ok J Γ1 σ1 H1) : Ret (G.re H1) I A D := fun Γ σ H' v k a => r Γ σ H' v (k1.back k) a
theorem Ret.post {G : Gx} {I J : Iv G.M} {A : Asr} {D : Ends} (r : Ret G I A D) (h : ∀ H, J.p H → I.p H) : Ret G J A D := fun Γ σ H' v k a => r Γ σ H' v (k.post h) a
section
variable {X : Cx} {G : Gx} {I J K : Iv G.M} {Γ : Slots} {tg iter e : Expr} {As : List Asr} {A : Asr} {pos : Pos} {sts body : List Stmt} {D : Ends}
theorem EX.post {e : Expr} (h : EX X G I Γ e A J) (f : ∀ H, J.p H → K.p H) : EX X G I Γ e A K := fun σ H Q k q => h σ H Q k fun H' v t a => q H' v (t.post f) a
theorem SX.pre {D : Ends} (h : SX X G J Γ sts D) (f : ∀ H, I.p H → J.p H) : SX X G I Γ sts D := fun σ H k => h σ H (k.post f)
theorem SX.low {Γ' : Slots} (h : SX X G I Γ' sts D) (l : Low Γ' Γ) : SX X G I Γ sts D := fun σ H k => h σ H (k.low l)
theorem sx_for {g : TG} {vs : List Nat} (Iz : Nat → Iv G.M) (Γs : Nat → Slots) (Γk : Nat → Asr → Slots) (hp : PassesOwn (model X.prog X.w) X.A X.env X.xe) (hc : X.calm = true) (hi : IX X G I Γ tg iter As (Iz 0)) (hg : PG X tg g) (h0 : Low (Γs 0) Γ)
    (hsem : ∀ k A, As[k]? = some A → GSem G.U g A (Γs k) (Γk k A) vs)
    (hs : ∀ H1 Γ1 σ1 k A, As[k]? = some A → G.Ok (Iz 0) Γ1 σ1 H1 → SX X (G.re H1) (Iz k) (Γk k A) body { D with nx := (G.re H1).Ok (Iz (k + 1)) (Γs (k + 1)), ct := (G.re H1).Ok (Iz (k + 1)) (Γs (k + 1)), bk := wB X sts D })
    (hd : SX X G (Iz As.length) (Γs As.length) sts D) (hf : ∀ x, foldedSetIterable iter X.env x = pure x := by intro _; rfl) : SX X G I Γ (.For tg iter body [] pos :: sts) D := fun σ H k => by
  obtain ⟨wi, hi1, hi2⟩ := hi
  refine wB_cons (PS.w (ps_for hp hc hi1 hg pss_wB hf) (hi2 σ H _ k fun T H1 t1 wk => ?_))
  have k1 := (k.to t1).low h0
  refine ⟨fun i m σ2 H2 => m = As.length - i ∧ i ≤ As.length ∧ (G.re H1).Ok (Iz i) (Γs i) σ2 H2, ⟨As.length, by omega, Nat.zero_le _, k1.at⟩, ?_⟩
  rintro i m σ2 H2 ⟨rfl, hle, k2⟩
  have s2 : Sm (fz G.U H1) (fz G.U H2) := fun a o e => by
    obtain ⟨n, e⟩ := fz_some e
    rw [fz_neg n]; exact k2.frame a o (fun z => n (.inl z)) e
  by_cases hlt : i < As.length
  · have eA := List.getElem?_eq_getElem hlt
    refine .inr ⟨wk.go _ H2 s2 i hlt, (G.re H1).Ok (Iz (i + 1)) (Γs (i + 1)), fun σ' H' p' => ⟨As.length - (i + 1), by omega, rfl, hlt, p'⟩, fun x H3 y => ?_⟩
    obtain ⟨s3, ax⟩ := wk.yld _ H2 s2 k2.live i x H3 _ eA y
    have t3 : (G.re H1).To (Iz i) H2 H3 := To.sm (G := G.re H1) k2.live k2.inv s3
    have k3 := k2.to t3
    refine hsem i _ eA x σ2 H3 _ k3.sat k3.len ax fun σ' st ln _ => ?_
    exact hs H1 _ _ i _ eA k1 σ' H3 ⟨k3.frame, k3.live, k3.inv, st, ln⟩
  · have e : i = As.length := by omega
    subst e
    exact .inl ⟨wk.stop _ H2 s2 _ (Nat.le_refl _), hd σ2 H2 (k1.back k2)⟩
/-- nothing is stored but the loop's own name -/
theorem sx_for0 {g : TG} {vs : List Nat} (Γk : Nat → Asr → Slots) (hp : PassesOwn (model X.prog X.w) X.A X.env X.xe) (hc : X.calm = true) (hi : IX X G I Γ tg iter As J) (hg : PG X tg g)
    (hsem : ∀ k A, As[k]? = some A → GSem G.U g A Γ (Γk k A) vs)
    (hs : ∀ H1 Γ1 σ1 k A, As[k]? = some A → G.Ok J Γ1 σ1 H1 → SX X (G.re H1) J (Γk k A) body { D with nx := (G.re H1).Ok J Γ, ct := (G.re H1).Ok J Γ, bk := wB X sts D })
    (hd : SX X G J Γ sts D) (hf : ∀ x, foldedSetIterable iter X.env x = pure x := by intro _; rfl) : SX X G I Γ (.For tg iter body [] pos :: sts) D := by
  have lowR : ∀ Γ : Slots, Low Γ Γ := fun Γ => by
    induction Γ with
    | nil => exact True.intro
    | cons a r ih =>
      cases a with
      | none => exact ih
      | some A => exact ⟨fun _ _ h => h, ih⟩
  exact sx_for (fun _ => J) (fun _ => Γ) Γk hp hc hi hg (lowR Γ) hsem hs hd hf
end
theorem low_refl : ∀ Γ : Slots, Low Γ Γ
  | [] => True.intro
  | none :: r => low_refl r
  | some A :: r => ⟨fun _ _ h => h, low_refl r⟩
theorem low_set : ∀ {Γ : Slots} {i : Nat} {A : Asr}, (∀ B, Γ[i]? ≠ some (some B)) → Low Γ (Γ.set i (some A))
  | [], _, _, _ => True.intro
  | none :: r, 0, _, _ => low_refl r
  | none :: r, i + 1, _, h => low_set (Γ := r) (i := i) fun B e => h B (by simpa using e)
  | some A :: r, 0, _, h => absurd rfl (h A)
  | some A :: r, i + 1, _, h => ⟨fun _ _ q => q, low_set (Γ := r) (i := i) fun B e => h B (by simpa using e)⟩

/-! ### isinstance -/
/-- a value's built-in type -/
def TyA (K : PySem.W.Frag) (A : Asr) (T : String) : Prop := ∀ F H v, A.p F v → Sm F H → TyX K H v (.type T)
theorem ty_int {K : PySem.W.Frag} {i : Int} : TyA K (aInt i) "int" := fun F H v e _ => by cases e; exact .base (.int i)
theorem ty_bl {K : PySem.W.Frag} {b : Bool} : TyA K (isBl b) "bool" := fun F H v e _ => by cases e; exact .base (.bl b)
theorem ty_str {K : PySem.W.Frag} {b : Str} : TyA K (isStr b) "str" := fun F H v e _ => by cases e; exact .base (.str b)
theorem ty_non {K : PySem.W.Frag} : TyA K isNon "NoneType" := fun F H v e _ => by cases e; exact .base .non
theorem ty_lst {K : PySem.W.Frag} {As : List Asr} : TyA K (isLst K As) "list" := fun F H v ⟨a, vs, e, h, _⟩ s => by
  subst e
  rcases h with h | ⟨o, its, n, hk, hc, _⟩
  · rcases Rd.mono s h with h | ⟨o, h⟩
    · exact .base (.lst h)
    · exact .base (.frz h)
  · exact .kList hk hc
theorem ty_tup {K : PySem.W.Frag} {As : List Asr} : TyA K (isTup K As) "tuple" := fun F H v ⟨a, vs, e, h, _⟩ s => by
  subst e
  rcases h with h | ⟨o, its, n, hk, hc, _⟩
  · rcases Rd.mono s h with h | ⟨o, h⟩
    · exact .base (.tup h)
    · exact .fTuple h
  · exact .kTuple hk hc
section
variable {X : Cx} {G : Gx} {I J K : Iv G.M} {Γ : Slots} {e c c1 c2 : Expr} {As : List Asr} {A : Asr} {p pos : Pos} {T U U2 : String}
theorem ex_isi {b : Bool} (hg : Gl X "isinstance") (hm : X.mg "isinstance" = none) (ty : TyA X.K A T) (ha : EX X G I Γ e A J) (hc : EX X G J Γ c (isV (.ty U)) K) (hk : kitB T U = some b)
    (hs : starEach [e, c] X.env = (false, eval e X.env) :: starEach [c] X.env := by rfl) (hs2 : starEach [c] X.env = (false, eval c X.env) :: starEach [] X.env := by rfl) (hpl : (backTo pos (starEach [c] X.env)).any (·.1) = false := by rfl) :
    EX X G I Γ (.Call (.Name "isinstance" p) [e, c] [] pos) (isBl b) K :=
  ex_B call_isi hg hm (by decide +kernel) (ax_cons ha (ax_cons hc ax_nil hs2) hs) (fun H1 vs ⟨v, r, e1, a1, v2, r2, e2, a2, e3⟩ Q w => by
    cases a2; cases e3; subst e2; subst e1
    exact ⟨v, .ty U, .type T, .type U, b, rfl, .ty U, ty _ _ _ a1 fz_sub, kit_ty hk, w _ rfl⟩) (by decide) (by decide) hs hpl
/-- isinstance(x, (T1, T2)) -/
theorem ex_isi2 {b1 b2 : Bool} {k1} {tp : Pos} (hg : Gl X "isinstance") (hm : X.mg "isinstance" = none) (ty : TyA X.K A T) (ha : EX X G I Γ e A J) (h1 : EX X G J Γ c1 (isV (.ty U)) J) (h2 : EX X G J Γ c2 (isV (.ty U2)) J)
    (hk : kitB T U = some b1) (hk2 : kitB T U2 = some b2)
    (hs : starEach [e, .Tuple [c1, c2] k1 tp] X.env = (false, eval e X.env) :: starEach [.Tuple [c1, c2] k1 tp] X.env := by rfl) (hs2 : starEach [.Tuple [c1, c2] k1 tp] X.env = (false, eval (.Tuple [c1, c2] k1 tp) X.env) :: starEach [] X.env := by rfl) (hpl : (backTo pos (starEach [.Tuple [c1, c2] k1 tp] X.env)).any (·.1) = false := by rfl)
    (hs3 : starEach [c1, c2] X.env = (false, eval c1 X.env) :: starEach [c2] X.env := by rfl) (hs4 : starEach [c2] X.env = (false, eval c2 X.env) :: starEach [] X.env := by rfl) :
    EX X G I Γ (.Call (.Name "isinstance" p) [e, .Tuple [c1, c2] k1 tp] [] pos) (isBl (b1 || b2)) J := fun σ H Q k q =>
  PE.w (pe_callB call_isiT hg hm (by decide +kernel) (pa_cons pe_wE (pa_cons (pe_tup (pa_cons pe_wE (pa_cons pe_wE pa_nil hs4) hs3)) pa_nil hs2) hs) (by decide) (by decide) hs hpl)
    (ha σ H _ k fun H1 v t1 a1 => h1 σ H1 _ (k.to t1) fun H2 u1 t2 e1 => h2 σ H2 _ ((k.to t1).to t2) fun H3 u2 t3 e2 => by
      cases e1; cases e2
      refine ⟨by show 2 ≤ sizeLine; rw [sizeLine_eq]; decide, fun tpa hn => ?_⟩
      have t4 : G.To J H3 (upd H3 tpa (.tup [.ty U, .ty U2])) := Gx.To.new t3.live t3.inv hn
      refine ⟨v, tpa, [.ty U, .ty U2], .type T, [.type U, .type U2], b1 || b2, rfl, upd_same, .cons (.ty U) (.cons (.ty U2) .nil), ty _ _ _ (A.mono ((t2.trans t3).trans t4).fz a1) fz_sub, ?_, q _ _ ((t1.trans t2).trans (t3.trans t4)) rfl⟩
      refine kitAny_cons (kit_ty hk) (fun e => ?_) (fun e => by rw [e]; rfl)
      rw [e, Bool.false_or]
      exact kitAny_cons (kit_ty hk2) (fun e => by rw [e]; rfl) (fun e => e))
theorem ex_blt {x : Str} {v : V} {u : Value} (hg : Gl X x) (hm : X.mg x = none) (hv : bootBuiltins x = some u) (r : RelV v u) (hn : x ≠ "__name__" := by decide) (hd : (x == ("__debug__" : Str)) = false := by decide) : EX X G I Γ (.Name x pos) (isV v) I := fun σ H Q k q =>
  PE.w (pe_bltn hg hm hv r hn hd) (q H _ k.self rfl)
/-! ### keywords -/
variable {ι : Type} {dom : ι → List Asr} {ok : ι → Prop} {cod : ι → Asr} {CX : CXT} {k : Nat} {f : Addr} {fd : FuncData} {ps ks : List Str} {E : XK} {x : Str} {kws : List Keyword}
theorem pe_callK0 {sp : Sp} {g : List Value → List Value → List Value} {gV : List V → List V → List V} {tk : TA} (F : FnOk X.prog X.w X.K X.mg X.base CX k f fd ps sp) (hr : Room k X.A) (hg : Gl X x) (hm : X.mg x = some (.ref f)) (hk : PySem.W.keepIn X.K (.ref f) = true) (hb : KBn X.K fd ps 0 ks g gV) (hx : Passes CX X E)
    (hkw : PK X kws tk) (hall : (backToKw pos (keywordEach kws X.env)).all (·.1.isSome) = true := by rfl) (hks : (backToKw pos (keywordEach kws X.env)).filterMap (·.1) = ks := by rfl)
    (hdb : (x == ("__debug__" : Str)) = false := by decide)
    (hpl : ((backTo pos (starEach [] X.env)).any (·.1) || (backToKw pos (keywordEach kws X.env)).any (·.1.isNone)) = false := by rfl) :
    PE X (.Call (.Name x p) [] kws pos) (fun σ H Q => tk σ H fun zs H2 => zs.length = ks.length ∧ sp (gV [] zs) H2 Q E) := by
  refine ⟨fun pins s σ H Q I h => ?_⟩
  refine wpAny_Call_Name_kw (ld_glob I hg hm ?_ hdb)
  refine PySem.W.callWith_KW0 (h₀ := X.base) I.ok.mod.kin hk hall ?_ hpl
  refine thn (hkw.run pos pins s σ H _ I h) fun ws s2 ⟨zs, H2, I2, rz, l2, q2⟩ => ⟨I2.kIn, ?_⟩
  rw [hks]
  exact run_fnN F hr hb hx I2 .nil rz rfl l2 q2
theorem ex_callK {g : List Value → List Value → List Value} {gV : List V → List V → List V} {gA : List Asr → List Asr} (F : FnOk X.prog X.w X.K X.mg X.base CX k f fd ps (spF dom ok cod)) (hr : Room k X.A) (hg : Gl X x) (hm : X.mg x = some (.ref f)) (hk : PySem.W.keepIn X.K (.ref f) = true) (hb : KBn X.K fd ps 0 ks g gV) (hx : Passes CX X E)
    (i : ι) (ha : KX X G I Γ kws As J) (hA : gA As = dom i) (hl : As.length = ks.length) (hgA : ∀ F vs, AllA As F vs → AllA (gA As) F (gV [] vs)) (hok : ok i) (hall : (backToKw pos (keywordEach kws X.env)).all (·.1.isSome) = true := by rfl) (hks : (backToKw pos (keywordEach kws X.env)).filterMap (·.1) = ks := by rfl)
    (hdb : (x == ("__debug__" : Str)) = false := by decide)
    (hpl : ((backTo pos (starEach [] X.env)).any (·.1) || (backToKw pos (keywordEach kws X.env)).any (·.1.isNone)) = false := by rfl) :
    EX X G I Γ (.Call (.Name x p) [] kws pos) (cod i) J := fun σ H Q kk q =>
  PE.w (pe_callK0 (E := E) F hr hg hm hk hb hx pk_wK hall hks hdb hpl) (ha σ H _ kk fun H1 vs t1 r => ⟨r.len.trans hl, G.U, i, t1.live, hok, hA ▸ hgA _ _ r, fun H' v s c => q H' v (t1.trans (To.sm t1.live t1.inv s)) c⟩)
end
/-- how keywords bind: h is «fun _ _ _ _ _ _ ws hl => match ws, hl with | [_, _], _ => rfl» -/
theorem kbn_of {K : PySem.W.Frag} {x qual : Str} {st : Stmt} {f : Addr} {fd : FuncData} {ps ks : List Str} {g : List Value → List Value} {gV : List V → List V} (F : Fun K x qual st f fd) (hr : ∀ {zs : List V} {ws : List Value}, Vals zs ws → Vals (gV zs) (g ws))
    (h : ∀ (kV doc pm : Value) (an : Option Addr) (cdv ct : Value) (ws : List Value), ws.length = ks.length → bindArgs (PySem.W.fnOf x qual (defArgs st) (defBody st) (defScope st) .none kV doc pm an cdv ct) ⟨[], ks.zip ws⟩ = pure (ps.zip (g ws))) : KBn K fd ps 0 ks (fun _ ws => g ws) (fun _ zs => gV zs) := by
  obtain ⟨oc, od, kV, doc, pm, an, cdv, ct, osl, rfl, lk, hcd⟩ := F.ex
  refine ⟨fun s us ws _ l1 l2 => ?_, fun _ r => hr r⟩
  cases us with
  | nil => exact .of_eq (h kV doc pm an cdv ct ws l2)
  | cons _ _ => cases l1
def swp {α : Type} : List α → List α
  | [a, b] => [b, a]
  | l => l
theorem swp_rel : ∀ {zs : List V} {ws : List Value}, Vals zs ws → Vals (swp zs) (swp ws)
  | _, _, .nil => .nil
  | _, _, .cons a .nil => .cons a .nil
  | _, _, .cons a (.cons b .nil) => .cons b (.cons a .nil)
  | _, _, .cons a (.cons b (.cons c r)) => .cons a (.cons b (.cons c r))
theorem swp_all {A B : Asr} (F : Hp) (vs : List V) (h : AllA [A, B] F vs) : AllA (swp [A, B]) F (swp vs) := by
  obtain ⟨v, r, rfl, a, v2, r2, rfl, b, rfl⟩ := h
  exact ⟨v2, _, rfl, b, v, _, rfl, a, rfl⟩
def rv3 {α : Type} : List α → List α
  | [a, b, c] => [c, b, a]
  | l => l
theorem rv3_rel : ∀ {zs : List V} {ws : List Value}, Vals zs ws → Vals (rv3 zs) (rv3 ws)
  | _, _, .nil => .nil
  | _, _, .cons a .nil => .cons a .nil
  | _, _, .cons a (.cons b .nil) => .cons a (.cons b .nil)
  | _, _, .cons a (.cons b (.cons c .nil)) => .cons c (.cons b (.cons a .nil))
  | _, _, .cons a (.cons b (.cons c (.cons d r))) => .cons a (.cons b (.cons c (.cons d r)))
theorem rv3_all {A B C : Asr} (F : Hp) (vs : List V) (h : AllA [A, B, C] F vs) : AllA (rv3 [A, B, C]) F (rv3 vs) := by
  obtain ⟨v, r, rfl, a, v2, r2, rfl, b, v3, r3, rfl, c, rfl⟩ := h
  exact ⟨v3, _, rfl, c, v2, _, rfl, b, v, _, rfl, a, rfl⟩

/-! ### the pool of draws: two lists of its own; n: how many mixed draws there were at most -/
structure PoolAt (ap ag : Addr) (n : Nat) (H : Hp) : Prop where
  ne : ap ≠ ag
  ex : ∃ (gs : List Int) (fig mark cnt : Int), H ap = some (.lst [.ref ag, .int fig, .int mark, .int cnt]) ∧ H ag = some (.lst (gs.map V.int)) ∧ (∀ g ∈ gs, 0 ≤ g) ∧ 0 ≤ fig ∧ (0 ≤ mark ∧ mark < 2 ^ 100) ∧ 0 ≤ cnt ∧ cnt ≤ n
theorem PoolAt.more {ap ag : Addr} {n m : Nat} {H : Hp} (h : PoolAt ap ag n H) (l : n ≤ m) : PoolAt ap ag m H := by
  obtain ⟨ne, gs, fig, mark, cnt, a, b, c, d, e, f, g⟩ := h
  exact ⟨ne, gs, fig, mark, cnt, a, b, c, d, e, f, by omega⟩
/-- what a drawing def promises: the pool first, then the others; c: how many draws at most -/
def spD {ι : Type} (c : Nat) (dom : ι → List Asr) (ok : ι → Prop) (cod : ι → Asr) : Sp := fun vs H Q _ => ∃ (U : Addr → Prop) (ap ag : Addr) (n : Nat) (vs' : List V) (i : ι), vs = .ref ap :: vs' ∧ (∀ a, U a → H a ≠ none) ∧ U ap ∧ U ag ∧ n + c ≤ 2 ^ 60 ∧ PoolAt ap ag n H ∧ ok i ∧ AllA (dom i) (fz U H) vs' ∧
  ∀ H' v, (∀ a o, a ≠ ap → a ≠ ag → H a = some o → H' a = some o) → PoolAt ap ag (n + c) H' → (cod i).p (fz U H') v → Q v H'
/-- an invariant that knows the pool -/
structure Drw (M : Addr → Prop) (ap ag : Addr) (Iz : Nat → Iv M) : Prop where
  hp : M ap
  hg : M ag
  pool : ∀ n H, (Iz n).p H → PoolAt ap ag n H
  back : ∀ n m H H', (Iz n).p H → PoolAt ap ag m H' → (∀ a, M a → a ≠ ap → a ≠ ag → H' a = H a) → (Iz m).p H'
section
variable {X : Cx} {G : Gx} {I J K : Iv G.M} {Γ : Slots} {e c c1 c2 : Expr} {es : List Expr} {As : List Asr} {A : Asr} {p pos : Pos} {ι : Type} {dom : ι → List Asr} {ok : ι → Prop} {cod : ι → Asr} {CX : CXT} {k n : Nat} {f : Addr} {fd : FuncData} {ps ks : List Str} {E : XK} {x : Str} {ap ag : Addr} {Iz : Nat → Iv G.M} {d : Nat}
theorem ex_draw (F : FnOk X.prog X.w X.K X.mg X.base CX k f fd ps (spD d dom ok cod)) (hr : Room k X.A) (hg : Gl X x) (hm : X.mg x = some (.ref f)) (hk : PySem.W.keepIn X.K (.ref f) = true) (hb : Binds X.K fd ps []) (hx : Passes CX X E)
    (W : Drw G.M ap ag Iz) (i : ι) (he : EX X G I Γ e (isV (.ref ap)) (Iz n)) (ha : AX X G (Iz n) Γ es (dom i) (Iz n)) (hn : n + d ≤ 2 ^ 60) (hok : ok i) (hdb : (x == ("__debug__" : Str)) = false := by decide) (hst : starEach (e :: es) X.env = (false, eval e X.env) :: starEach es X.env := by rfl) (hpl : (backTo pos (starEach es X.env)).any (·.1) = false := by rfl) :
    EX X G I Γ (.Call (.Name x p) (e :: es) [] pos) (cod i) (Iz (n + d)) := fun σ H Q kk q =>
  PE.w (pe_call (E := E) F hr hg hm hk hb .nil hx (pa_cons pe_wE pa_wA hst) hdb hst hpl) (he σ H _ kk fun H0 v0 t0 e0 => ha σ H0 _ (kk.to t0) fun H1 vs t1 r => by
    cases e0
    refine ⟨G.U, ap, ag, n, vs, i, by rw [List.append_nil], t1.live, .inl W.hp, .inl W.hg, hn, W.pool n _ t1.inv, hok, r, fun H' v s pl c => q H' v ((t0.trans t1).trans ⟨fun a o m e => s a o (fun z => m (by rw [z]; exact W.hp)) (fun z => m (by rw [z]; exact W.hg)) e, fun a m => ?_, ?_⟩) c⟩
    · obtain ⟨ne, gs, fig, mark, cnt, h1, h2, _⟩ := pl
      by_cases z1 : a = ap
      · rw [z1, h1]; exact fun w => nomatch w
      · by_cases z2 : a = ag
        · rw [z2, h2]; exact fun w => nomatch w
        · cases z : H1 a with
          | none => exact absurd z (t1.live a m)
          | some o => rw [s a o z1 z2 z]; exact fun w => nomatch w
    · refine W.back n (n + d) H1 H' t1.inv pl fun a m z1 z2 => ?_
      cases z : H1 a with
      | none => exact absurd z (t1.live a (.inl m))
      | some o => exact s a o z1 z2 z)
end
/-- the pool alone -/
def ivP (M : Addr → Prop) (ap ag : Addr) (h1 : M ap) (h2 : M ag) (n : Nat) : Iv M := ⟨PoolAt ap ag n, fun H H' e ⟨ne, gs, fig, mark, cnt, a, b, r⟩ => ⟨ne, gs, fig, mark, cnt, by rw [e _ h1]; exact a, by rw [e _ h2]; exact b, r⟩⟩
theorem drw_pool {M : Addr → Prop} {ap ag : Addr} (h1 : M ap) (h2 : M ag) : Drw M ap ag (ivP M ap ag h1 h2) := ⟨h1, h2, fun _ _ h => h, fun _ _ _ _ _ h _ => h⟩
/-- the context of a drawing def -/
abbrev gD (U : Addr → Prop) (ap ag : Addr) (H : Hp) : Gx := ⟨fun a => a = ap ∨ a = ag, U, fun a => a = ap ∨ a = ag, H, fun _ h => h, fun _ h => .inl h⟩
abbrev ivD (U : Addr → Prop) (ap ag : Addr) (H : Hp) (n : Nat) : Iv (gD U ap ag H).M := ivP _ ap ag (.inl rfl) (.inr rfl) n
theorem drw_gD {U : Addr → Prop} {ap ag : Addr} {H : Hp} : Drw (gD U ap ag H).M ap ag (ivD U ap ag H) := drw_pool _ _
section
variable {Pr : Program} {w : World} {K : PySem.W.Frag} {mg : Str → Option Value} {base : Heap} {x qual : Str} {st : Stmt} {f : Addr} {fd : FuncData} {N ps : List Str} {k : Nat}
theorem fn_draw {ι : Type} {c : Nat} {dom : ι → List Asr} {ok : ι → Prop} {cod : ι → Asr} (F : Fun K x qual st f fd) (S : FnScope N ps (defScope st)) (hl : ∀ i, (dom i).length + 1 = ps.length)
    (h : ∀ (cdv : Value) (A : Around) (outer : List Env) (s : Shared) (H : Hp) (E : XK) (U : Addr → Prop) (ap ag : Addr) (n : Nat) (i : ι) (Q : VK), Room k (A.deeper (envOfC qual (defScope st) s.heap.objs.size f cdv)) → ok i → n + c ≤ 2 ^ 60 → Ret (gD U ap ag H) (ivD U ap ag H (n + c)) (cod i) (retE Q) →
      SX (cxF Pr w K mg base N qual (defScope st) f cdv A outer s H E) (gD U ap ag H) (ivD U ap ag H n) ((isV (.ref ap) :: dom i).map some ++ List.replicate (N.length - ps.length) none) (defBody st) (retE Q)) :
    FnOk Pr w K mg base CX0 (k + 1) f fd ps (spD c dom ok cod) := by
  have hpl : ps.length ≤ N.length := by have := congrArg List.length S.pre; rw [List.length_take] at this; omega
  refine F.ok S (fun vs H Q E ⟨U, ap, ag, n, vs', i, e, _, _, _, _, _, _, r, _⟩ => by rw [e, List.length_cons, r.len, hl]) fun cdv A outer s H vs Q E hr ⟨U, ap, ag, n, vs', i, e, l, u1, u2, hn, pl, o, r, q⟩ => ⟨_, pss_wB, ?_⟩
  subst e
  have less : ∀ {H : Hp}, Sm (fz U H) (fz (gD U ap ag H).U H) := fun {H} => fz_less fun a z => by
    rcases z with (z | z) | z
    · rw [z]; exact u1
    · rw [z]; exact u2
    · exact z
  refine h cdv A outer s H E U ap ag n i _ hr o hn ?_ _ _ ⟨fun a o _ e => e, fun a u => ?_, pl, ?_, ?_⟩
  · intro Γ σ H' v kk a
    exact q H' v (fun a o z1 z2 e => kk.frame a o (fun z => z.elim z1 z2) e) kk.inv (Asr.mono _ (fz_less fun a u => .inr u) a)
  · rcases u with (u | u) | u
    · rw [u]; exact l _ u1
    · rw [u]; exact l _ u2
    · exact l a u
  · have r2 : AllA (isV (.ref ap) :: dom i) (fz (gD U ap ag H).U H) (.ref ap :: vs') := ⟨_, _, rfl, rfl, r.mono less⟩
    have := start_sat (N := N) r2
    rw [List.length_cons, hl i] at this
    exact this
  · show (start N (.ref ap :: vs')).length = _
    unfold start
    rw [List.length_append, List.length_append, List.length_map, List.length_map, List.length_replicate, List.length_replicate, List.length_cons, List.length_cons, r.len, hl]
end
end L2.PL
namespace L2.PL
open PySem PySem.Spec PyProof.Rows
theorem map_get {α β : Type} {l : List α} {f : α → β} {k : Nat} {B : β} (h : (l.map f)[k]? = some B) : ∃ a, l[k]? = some a ∧ a ∈ l ∧ B = f a := by
  rw [List.getElem?_map] at h
  cases z : l[k]? with
  | none => rw [z] at h; cases h
  | some a => rw [z] at h; exact ⟨a, rfl, List.mem_of_getElem? z, (Option.some.inj h).symm⟩
theorem zipA_map {α β : Type} {K : PySem.W.Frag} {l : List α} {m : List β} {f : α → Asr} {g : β → Asr} : zipA K (l.map f) (m.map g) = (l.zip m).map fun p => isTup K [f p.1, g p.2] := by
  unfold zipA
  rw [List.zipWith_map, ← List.map_uncurry_zip_eq_zipWith]
  rfl
theorem enumA_map {α : Type} {K : PySem.W.Frag} {l : List α} {f : α → Asr} : enumA K (l.map f) = ((List.range l.length).zip l).map fun p => isTup K [aInt ((p.1 : Nat) : Int), f p.2] := by
  unfold enumA
  rw [List.length_map, ← List.map_uncurry_zip_eq_zipWith, List.zip_map_right, List.map_map]
  rfl
section
variable {X : Cx} {G : Gx} {I J K : Iv G.M} {Γ : Slots} {elt iter e c : Expr} {scope : Scope} {pos px py pt : Pos} {sts body : List Stmt} {D : Ends} {x y : Str} {ι : Type} {l : List ι} {fA fC f1 f2 : ι → Asr} {i j : Nat} {kt : Nat}
theorem IX.cast {tg : Expr} {As Bs : List Asr} (h : IX X G I Γ tg iter As J) (e : As = Bs) : IX X G I Γ tg iter Bs J := e ▸ h
theorem not_some {Γ : Slots} {j : Nat} (h : Γ[j]? = some none) : ∀ A, Γ[j]? ≠ some (some A) := fun A e => by rw [h] at e; cases e
/-- for x in ..: -/
theorem sx_forN (j : Nat) (Iz : Nat → Iv G.M) (Γs : Nat → Slots) (hp : PassesOwn (model X.prog X.w) X.A X.env X.xe) (hc : X.calm = true) (nd : X.N.Nodup) (hj : X.N[j]? = some x) (hx : Loc X.env.scope x) (hf' : X.fn x = true ∨ X.env.scope.names.lookup x = some .local)
    (hi : IX X G I Γ (.Name x px) iter (l.map fA) (Iz 0)) (h0 : Low (Γs 0) Γ) (hl : ∀ k, j < (Γs k).length)
    (hs : ∀ H1 Γ1 σ1 k a, l[k]? = some a → a ∈ l → k < l.length → G.Ok (Iz 0) Γ1 σ1 H1 → SX X (G.re H1) (Iz k) ((Γs k).set j (some (fA a))) body { D with nx := (G.re H1).Ok (Iz (k + 1)) (Γs (k + 1)), ct := (G.re H1).Ok (Iz (k + 1)) (Γs (k + 1)), bk := wB X sts D })
    (hd : SX X G (Iz l.length) (Γs l.length) sts D) (hf : ∀ x, foldedSetIterable iter X.env x = pure x := by intro _; rfl) : SX X G I Γ (.For (.Name x px) iter body [] pos :: sts) D := by
  refine sx_for Iz Γs (fun k A => (Γs k).set j (some A)) hp hc hi (pg_name nd hj hx hf') h0 (fun k A _ => gs_name (hl k)) (fun H1 Γ1 σ1 k A e k1 => ?_) (by rw [List.length_map]; exact hd) hf
  obtain ⟨a, e1, m, rfl⟩ := map_get e
  refine hs H1 Γ1 σ1 k a e1 m ?_ k1
  rcases Nat.lt_or_ge k l.length with z | z
  · exact z
  · rw [List.getElem?_eq_none z] at e1; cases e1
/-- for x, y in ..: -/
theorem sx_forT (i j : Nat) (Iz : Nat → Iv G.M) (Γs : Nat → Slots) (hp : PassesOwn (model X.prog X.w) X.A X.env X.xe) (hc : X.calm = true) (hg : PG X (.Tuple [.Name x px, .Name y py] kt pt) (gTup X.K 2 (gCons (gName i) (gCons (gName j) gNil))))
    (hi : IX X G I Γ (.Tuple [.Name x px, .Name y py] kt pt) iter (l.map fun a => isTup X.K [f1 a, f2 a]) (Iz 0)) (h0 : Low (Γs 0) Γ) (hl : ∀ k, i < (Γs k).length) (hl2 : ∀ k, j < (Γs k).length)
    (hs : ∀ H1 Γ1 σ1 k a, l[k]? = some a → a ∈ l → k < l.length → G.Ok (Iz 0) Γ1 σ1 H1 → SX X (G.re H1) (Iz k) (((Γs k).set i (some (f1 a))).set j (some (f2 a))) body { D with nx := (G.re H1).Ok (Iz (k + 1)) (Γs (k + 1)), ct := (G.re H1).Ok (Iz (k + 1)) (Γs (k + 1)), bk := wB X sts D })
    (hd : SX X G (Iz l.length) (Γs l.length) sts D) (hf : ∀ x, foldedSetIterable iter X.env x = pure x := by intro _; rfl) : SX X G I Γ (.For (.Tuple [.Name x px, .Name y py] kt pt) iter body [] pos :: sts) D := by
  refine sx_for (vs := [i, j]) Iz Γs (fun k _ => match l[k]? with | some a => ((Γs k).set i (some (f1 a))).set j (some (f2 a)) | none => Γs k) hp hc hi hg h0 (fun k A e => ?_) (fun H1 Γ1 σ1 k A e k1 => ?_) (by rw [List.length_map]; exact hd) hf
  · obtain ⟨a, e1, m, rfl⟩ := map_get e
    simp only [e1]
    exact gs_tup2 (hl k) (hl2 k)
  · obtain ⟨a, e1, m, rfl⟩ := map_get e
    simp only [e1]
    refine hs H1 Γ1 σ1 k a e1 m ?_ k1
    rcases Nat.lt_or_ge k l.length with z | z
    · exact z
    · rw [List.getElem?_eq_none z] at e1; cases e1
/-- [e for x in ..] -/
theorem lx_N (j : Nat) (hi : IX X G I Γ (.Name x px) iter (l.map fA) J) (nd : X.N.Nodup) (hj : X.N[j]? = some x) (blk : blkC X.N X.env.scope scope [(x, j)] = true) (hz : l.length ≤ 100000) (hw : Γ[j]? = some none) (hx : scope.names.lookup x = some .local ∨ scope.names.lookup x = some .cell)
    (hpg : ∀ (s : Shared) (H : Hp) (C : Addr) (cl : List (Str × Addr)) (fp : List Addr), PG (X.blk s H scope (compEnvC scope cl C X.env) fp) (.Name x px) (gName j))
    (he : ∀ D (s : Shared) (H : Hp) (C : Addr) (cl : List (Str × Addr)) (fp : List Addr) a, a ∈ l → EX (X.blk s H scope (compEnvC scope cl C X.env) fp) (G.lk D) J (Γ.set j (some (fA a))) elt (fC a) J) :
    LX X G I Γ elt (.Name x px) iter [] scope (l.map fC) J := by
  have hl : j < Γ.length := by
    rcases Nat.lt_or_ge j Γ.length with z | z
    · exact z
    · rw [List.getElem?_eq_none z] at hw; cases hw
  refine lx_all (own := [(x, j)]) (fun _ A => Γ.set j (some A)) (fun _ => J) hi blk (by rw [List.length_map]; exact hz) (by rw [List.length_map, List.length_map]) (fun k hk => ?_) (fun k A _ => by rw [List.length_set]) hpg (fun U k A _ => gs_name hl) fun D s H C cl fp k A B eA eB => ?_
  · have : k = j := by simpa using hk
    subst this
    exact not_some hw
  · obtain ⟨a, e1, m, rfl⟩ := map_get eA
    obtain ⟨b, e2, _, rfl⟩ := map_get eB
    rw [e1] at e2; cases e2
    exact he D s H C cl fp a m
/-- [e for x in .. if c] -/
theorem lx_NI {p : ι → Bool} (j : Nat) (hi : IX X G I Γ (.Name x px) iter (l.map fA) J) (nd : X.N.Nodup) (hj : X.N[j]? = some x) (blk : blkC X.N X.env.scope scope [(x, j)] = true) (hz : l.length ≤ 100000) (hw : Γ[j]? = some none)
    (hpg : ∀ (s : Shared) (H : Hp) (C : Addr) (cl : List (Str × Addr)) (fp : List Addr), PG (X.blk s H scope (compEnvC scope cl C X.env) fp) (.Name x px) (gName j))
    (ht : ∀ D (s : Shared) (H : Hp) (C : Addr) (cl : List (Str × Addr)) (fp : List Addr) a, a ∈ l → TX (X.blk s H scope (compEnvC scope cl C X.env) fp) (G.lk D) J (Γ.set j (some (fA a))) c (· = p a) J)
    (he : ∀ D (s : Shared) (H : Hp) (C : Addr) (cl : List (Str × Addr)) (fp : List Addr) a, a ∈ l → p a = true → EX (X.blk s H scope (compEnvC scope cl C X.env) fp) (G.lk D) J (Γ.set j (some (fA a))) elt (fC a) J) :
    LX X G I Γ elt (.Name x px) iter [c] scope ((l.filter p).map fC) J := by
  have hl : j < Γ.length := by
    rcases Nat.lt_or_ge j Γ.length with z | z
    · exact z
    · rw [List.getElem?_eq_none z] at hw; cases hw
  refine lx_if (own := [(x, j)]) (fun a => Γ.set j (some (fA a))) hi blk hz (fun k hk => ?_) (fun a _ => by rw [List.length_set]) hpg (fun U a _ => gs_name hl) ht he
  have : k = j := by simpa using hk
  subst this
  exact not_some hw
/-- [e for x, y in ..] -/
theorem lx_T (i j : Nat) (hi : IX X G I Γ (.Tuple [.Name x px, .Name y py] kt pt) iter (l.map fun a => isTup X.K [f1 a, f2 a]) J) (blk : blkC X.N X.env.scope scope [(x, i), (y, j)] = true) (hz : l.length ≤ 100000) (hw : Γ[i]? = some none) (hw2 : Γ[j]? = some none)
    (hpg : ∀ (s : Shared) (H : Hp) (C : Addr) (cl : List (Str × Addr)) (fp : List Addr), PG (X.blk s H scope (compEnvC scope cl C X.env) fp) (.Tuple [.Name x px, .Name y py] kt pt) (gTup X.K 2 (gCons (gName i) (gCons (gName j) gNil))))
    (he : ∀ D (s : Shared) (H : Hp) (C : Addr) (cl : List (Str × Addr)) (fp : List Addr) a, a ∈ l → EX (X.blk s H scope (compEnvC scope cl C X.env) fp) (G.lk D) J ((Γ.set i (some (f1 a))).set j (some (f2 a))) elt (fC a) J) :
    LX X G I Γ elt (.Tuple [.Name x px, .Name y py] kt pt) iter [] scope (l.map fC) J := by
  have len : ∀ {k : Nat}, Γ[k]? = some none → k < Γ.length := fun {k} hw => by
    rcases Nat.lt_or_ge k Γ.length with z | z
    · exact z
    · rw [List.getElem?_eq_none z] at hw; cases hw
  refine lx_all (own := [(x, i), (y, j)]) (fun k _ => match l[k]? with | some a => (Γ.set i (some (f1 a))).set j (some (f2 a)) | none => Γ) (fun _ => J) hi blk (by rw [List.length_map]; exact hz) (by rw [List.length_map, List.length_map]) (fun k hk => ?_) (fun k A e => ?_) hpg (fun U k A e => ?_) fun D s H C cl fp k A B eA eB => ?_
  · have : k = i ∨ k = j := by simpa using hk
    rcases this with rfl | rfl
    · exact not_some hw
    · exact not_some hw2
  · obtain ⟨a, e1, m, rfl⟩ := map_get e
    simp only [e1, List.length_set]
  · obtain ⟨a, e1, m, rfl⟩ := map_get e
    simp only [e1]
    exact gs_tup2 (len hw) (len hw2)
  · obtain ⟨a, e1, m, rfl⟩ := map_get eA
    obtain ⟨b, e2, _, rfl⟩ := map_get eB
    rw [e1] at e2; cases e2
    simp only [e1]
    exact he D s H C cl fp a m
/-- drawn one by one -/
theorem lx_D {A : Asr} (j d n0 : Nat) (Iz : Nat → Iv G.M) (hi : IX X G I Γ (.Name x px) iter (l.map fA) (Iz n0)) (blk : blkC X.N X.env.scope scope [(x, j)] = true) (hz : l.length ≤ 100000) (hw : Γ[j]? = some none)
    (hpg : ∀ (s : Shared) (H : Hp) (C : Addr) (cl : List (Str × Addr)) (fp : List Addr), PG (X.blk s H scope (compEnvC scope cl C X.env) fp) (.Name x px) (gName j))
    (he : ∀ D (s : Shared) (H : Hp) (C : Addr) (cl : List (Str × Addr)) (fp : List Addr) k a, l[k]? = some a → k < l.length → EX (X.blk s H scope (compEnvC scope cl C X.env) fp) (G.lk D) (Iz (n0 + k * d)) (Γ.set j (some (fA a))) elt A (Iz (n0 + (k + 1) * d))) :
    LX X G I Γ elt (.Name x px) iter [] scope (List.replicate l.length A) (Iz (n0 + l.length * d)) := by
  have hl : j < Γ.length := by
    rcases Nat.lt_or_ge j Γ.length with z | z
    · exact z
    · rw [List.getElem?_eq_none z] at hw; cases hw
  have hi' : IX X G I Γ (.Name x px) iter (l.map fA) (Iz (n0 + 0 * d)) := by rw [Nat.zero_mul]; exact hi
  have r := lx_all (Cs := List.replicate l.length A) (own := [(x, j)]) (fun _ A => Γ.set j (some A)) (fun k => Iz (n0 + k * d)) hi' blk (by rw [List.length_map]; exact hz) (by rw [List.length_map, List.length_replicate]) (fun k hk => by
    have : k = j := by simpa using hk
    subst this
    exact not_some hw) (fun k A _ => by rw [List.length_set]) hpg (fun U k A _ => gs_name hl) fun D s H C cl fp k A' B eA eB => by
      obtain ⟨a, e1, m, rfl⟩ := map_get eA
      have hk : k < l.length := by
        rcases Nat.lt_or_ge k l.length with z | z
        · exact z
        · rw [List.getElem?_eq_none z] at e1; cases e1
      rw [List.getElem?_replicate, if_pos hk] at eB
      cases eB
      exact he D s H C cl fp k a e1 hk
  rw [List.length_map] at r
  exact r
end
/-- many that are each of one kind: a list of data -/
theorem AllA.repl {α : Type} {P : α → Prop} {f : α → Asr} {F : Hp} : ∀ {n : Nat} {vs : List V}, AllA (List.replicate n (exA P f)) F vs → ∃ xs : List α, xs.length = n ∧ (∀ x ∈ xs, P x) ∧ AllA (xs.map f) F vs
  | 0, vs, h => ⟨[], rfl, by simp, h⟩
  | n + 1, vs, ⟨v, r, e, ⟨x, p, hx⟩, hr⟩ => by
    obtain ⟨xs, l, q, a⟩ := AllA.repl hr
    refine ⟨x :: xs, by rw [List.length_cons, l], fun y hy => ?_, v, r, e, hx, a⟩
    rcases List.mem_cons.mp hy with rfl | hy
    · exact p
    · exact q y hy
theorem isNew_ex {α : Type} {P : α → Prop} {f : α → Asr} {n : Nat} (F : Hp) (v : V) (h : (isNew (List.replicate n (exA P f))).p F v) : (exA (fun xs : List α => xs.length = n ∧ ∀ x ∈ xs, P x) fun xs => isNew (xs.map f)).p F v := by
  obtain ⟨a, vs, e, h1, h2⟩ := h
  obtain ⟨xs, l, q, r⟩ := h2.repl
  exact ⟨xs, ⟨l, q⟩, a, vs, e, h1, r⟩
/-! ### a def, known by its name -/
structure Has (Pr : Program) (w : World) (K : PySem.W.Frag) (mg : Str → Option Value) (base : Heap) (x : Str) (ps : List Str) (sp : Sp) (k : Nat) : Prop where
  ex : ∃ (f : Addr) (fd : FuncData), (∃ st, Fun K x x st f fd) ∧ FnOk Pr w K mg base CX0 k f fd ps sp ∧ mg x = some (.ref f) ∧ PySem.W.keepIn K (.ref f) = true ∧ Binds K fd ps []
structure DefAt (K : PySem.W.Frag) (mg : Str → Option Value) (x : Str) (st : Stmt) : Prop where
  ex : ∃ (f : Addr) (fd : FuncData), Fun K x x st f fd ∧ mg x = some (.ref f)
section
variable {X : Cx} {G : Gx} {I J K : Iv G.M} {Γ : Slots} {e : Expr} {es : List Expr} {pos p : Pos} {x : Str} {ι : Type} {dom : ι → List Asr} {ok : ι → Prop} {cod : ι → Asr} {ps : List Str} {k n d : Nat} {ap ag : Addr} {Iz : Nat → Iv G.M}
theorem ex_callH {Pr : Program} {w : World} {K0 : PySem.W.Frag} {mg : Str → Option Value} {base : Heap} (C : Has Pr w K0 mg base x ps (spF dom ok cod) k) (hr : Room k X.A) (i : ι) (ha : AX X G I Γ (e :: es) (dom i) J) (hok : ok i) {A : Asr} (hA : cod i = A := by exact rfl) (hg : Gl X x := by rfl) (e1 : X.prog = Pr := by rfl) (e2 : X.w = w := by rfl) (e3 : X.K = K0 := by rfl) (e4 : X.mg = mg := by rfl) (e5 : X.base = base := by rfl) (hdb : (x == ("__debug__" : Str)) = false := by decide)
    (he : starEach (e :: es) X.env = (false, eval e X.env) :: starEach es X.env := by rfl) (hpl : (backTo pos (starEach es X.env)).any (·.1) = false := by rfl) : EX X G I Γ (.Call (.Name x p) (e :: es) [] pos) A J := by
  subst hA e1 e2 e3 e4 e5
  obtain ⟨f, fd, _, F, hm, hk, hb⟩ := C.ex
  exact ex_call (E := fun _ _ _ => False) F hr hg hm hk hb pass0 i ha hok hdb he hpl
theorem ex_drawH {Pr : Program} {w : World} {K0 : PySem.W.Frag} {mg : Str → Option Value} {base : Heap} (C : Has Pr w K0 mg base x ps (spD d dom ok cod) k) (hr : Room k X.A) (W : Drw G.M ap ag Iz) (i : ι) (h0 : EX X G I Γ e (isV (.ref ap)) (Iz n)) (ha : AX X G (Iz n) Γ es (dom i) (Iz n)) (hn : n + d ≤ 2 ^ 60) (hok : ok i) {A : Asr} (hA : cod i = A := by exact rfl) (hg : Gl X x := by rfl) (e1 : X.prog = Pr := by rfl) (e2 : X.w = w := by rfl) (e3 : X.K = K0 := by rfl) (e4 : X.mg = mg := by rfl) (e5 : X.base = base := by rfl) (hdb : (x == ("__debug__" : Str)) = false := by decide)
    (hst : starEach (e :: es) X.env = (false, eval e X.env) :: starEach es X.env := by rfl) (hpl : (backTo pos (starEach es X.env)).any (·.1) = false := by rfl) : EX X G I Γ (.Call (.Name x p) (e :: es) [] pos) A (Iz (n + d)) := by
  subst hA e1 e2 e3 e4 e5
  obtain ⟨f, fd, _, F, hm, hk, hb⟩ := C.ex
  exact ex_draw (E := fun _ _ _ => False) F hr hg hm hk hb pass0 W i h0 ha hn hok hdb hst hpl
end
end L2.PL
namespace L2.PL
open PySem PySem.Spec PyProof.Rows
/-! ### a list of one's own, that is stored into -/
abbrev Gx.own (G : Gx) (D : Addr) (h : G.H0 D = none) : Gx := ⟨fun a => G.M a ∨ a = D, G.L, G.M0, G.H0, fun a m => .inl (G.sub a m), fun a m => m.elim (G.fr a) fun e => .inr (e ▸ h)⟩
def Iv.own {M : Addr → Prop} (I : Iv M) (D : Addr) (vs : List V) : Iv (fun a => M a ∨ a = D) := ⟨fun H => I.p H ∧ H D = some (.lst vs), fun H H' e h => ⟨I.dep H H' (fun a m => e a (.inl m)) h.1, by rw [e D (.inr rfl)]; exact h.2⟩⟩
def isOwn (D : Addr) (vs : List V) (As : List Asr) : Asr := ⟨fun F v => v = .ref D ∧ AllA As F vs, fun s h => ⟨h.1, h.2.mono s⟩⟩
theorem Gx.own_U {G : Gx} {D a : Addr} {h : G.H0 D = none} : (G.own D h).U a ↔ G.U a ∨ a = D := by
  show ((G.M a ∨ a = D) ∨ G.L a) ↔ ((G.M a ∨ G.L a) ∨ a = D)
  constructor
  · rintro ((h | h) | h)
    · exact .inl (.inl h)
    · exact .inr h
    · exact .inl (.inr h)
  · rintro ((h | h) | h)
    · exact .inl (.inl h)
    · exact .inr h
    · exact .inl (.inr h)
/-- an invariant that knows a list of one's own -/
structure Owns (M : Addr → Prop) (I : Iv M) (D : Addr) (vs : List V) (I' : List V → Iv M) : Prop where
  mem : M D
  get : ∀ H, I.p H → H D = some (.lst vs)
  put : ∀ H H' ws, I.p H → H' D = some (.lst ws) → (∀ a, M a → a ≠ D → H' a = H a) → (I' ws).p H'
theorem owns_top {M : Addr → Prop} {I : Iv M} {D : Addr} {vs : List V} (n : ¬ M D) : Owns (fun a => M a ∨ a = D) (I.own D vs) D vs (fun ws => I.own D ws) :=
  ⟨.inr rfl, fun _ h => h.2, fun H H' ws h e k => ⟨I.dep H H' (fun a m => k a (.inl m) fun z => n (z ▸ m)) h.1, e⟩⟩
theorem owns_up {M : Addr → Prop} {I : Iv M} {D D2 : Addr} {vs ws : List V} {I' : List V → Iv M} (n : ¬ M D2) (W : Owns M I D vs I') : Owns (fun a => M a ∨ a = D2) (I.own D2 ws) D vs (fun us => (I' us).own D2 ws) :=
  ⟨.inl W.mem, fun _ h => W.get _ h.1, fun H H' us h e k => ⟨W.put H H' us h.1 e fun a m z => k a (.inl m) z, by rw [k D2 (.inr rfl) fun z => n (z ▸ W.mem)]; exact h.2⟩⟩
theorem drw_own {M : Addr → Prop} {ap ag D : Addr} {Iz : Nat → Iv M} {vs : List V} (n : ¬ M D) (W : Drw M ap ag Iz) : Drw (fun a => M a ∨ a = D) ap ag (fun k => (Iz k).own D vs) :=
  ⟨.inl W.hp, .inl W.hg, fun k H h => W.pool k H h.1, fun k m H H' h p e => ⟨W.back k m H H' h.1 p fun a ma => e a (.inl ma), by rw [e D (.inr rfl) (fun z => n (z ▸ W.hp)) (fun z => n (z ▸ W.hg))]; exact h.2⟩⟩
/-- a new list -/
def NX (X : Cx) (G : Gx) (I : Iv G.M) (Γ : Slots) (e : Expr) (As : List Asr) (J : Iv G.M) : Prop := ∀ (σ : St) (H : Hp) (Q : VK), G.Ok I Γ σ H → (∀ H' D vs, G.To J H H' → H D = none → H' D = some (.lst vs) → AllA As (fz (G.lk D).U H') vs → Q (.ref D) H') → wE X e σ H Q
section
variable {X : Cx} {G : Gx} {I J K K2 : Iv G.M} {Γ : Slots} {e a b : Expr} {es : List Expr} {A B : Asr} {As Bs : List Asr} {pos pos' py spos p : Pos} {sts : List Stmt} {E : Ends} {i : Nat} {x y : Str}
theorem NX.ex (h : NX X G I Γ e As J) : EX X G I Γ e (isNew As) J := fun σ H Q k q => h σ H Q k fun H' D acc t n e a => q H' _ t (new_of k n e a)
theorem NX.imp (h : NX X G I Γ e As J) (f : ∀ F vs, AllA As F vs → AllA Bs F vs) : NX X G I Γ e Bs J := fun σ H Q k q => h σ H Q k fun H' D acc t n e a => q H' D acc t n e (f _ _ a)
theorem none_of (t : G.To J H H') (k : ∀ a, G.U a → H' a ≠ none) {p : Addr} (h : H' p = none) : H p = none := by
  cases z : H p with
  | none => rfl
  | some o =>
    by_cases m : G.M p
    · exact absurd h (k p (.inl m))
    · have := t.keep p o m z
      rw [h] at this; cases this
theorem fz_lk {H : Hp} {p : Addr} {o : HO} (h : H p = none) : Sm (fz G.U H) (fz (G.lk p).U (upd H p o)) := fun a u e => by
  obtain ⟨n, e⟩ := fz_some e
  have ne : a ≠ p := ne_of_none e h
  rw [fz_neg fun z => (Gx.lk_U.mp z).elim n ne, upd_ne ne]; exact e
theorem nx_lst (h : AX X G I Γ es As J) (hz : As.length ≤ 100000) : NX X G I Γ (.List es pos) As J := fun σ H Q k q =>
  PE.w (pe_lst pa_wA) (h σ H _ k fun H1 xs t1 r => ⟨small_sz (by rw [r.len]; exact hz), fun p hp => q _ _ _ (t1.new' hp) (none_of t1 t1.live hp) upd_same (r.mono (fz_lk hp))⟩)
theorem nx_rep {n : Nat} (ha : EX X G I Γ a (isNew As) J) (hb : EX X G J Γ b (aInt (n : Int)) K) (hz : As.length * n ≤ 100000) (hn : n ≤ 100000) : NX X G I Γ (.BinOp a .Mult b pos) (List.replicate n As).flatten K := fun σ H Q k q =>
  PE.w (pe_op op_rep pe_wE pe_wE) (ha σ H _ k fun H1 x t1 a1 => hb σ H1 _ (k.to t1) fun H2 y t2 b2 => by
    obtain ⟨p, vs, rfl, h, r⟩ := (isNew As).mono t2.fz a1
    cases b2
    have h' : H2 p = some (.lst vs) := fz_sub _ _ h
    refine ⟨p, (n : Int), vs, rfl, rfl, h', by omega, by omega, ?_, fun z hz' => ?_⟩
    · rw [r.len, Int.toNat_natCast]; exact small_sz hz
    · rw [Int.toNat_natCast]
      exact q _ _ _ ((t1.trans t2).new' hz') (none_of (t1.trans t2) t2.live hz') upd_same ((r.reps n).mono (fz_lk hz')))
theorem nx_lc {elt tg iter : Expr} {ifs : List Expr} {scope : Scope} (hc : X.calm = true) (nd : X.N.Nodup) (h : LX X G I Γ elt tg iter ifs scope As J) (hs : ∀ x, foldedSetIterable iter X.env x = pure x := by intro _; rfl) : NX X G I Γ (.ListComp elt [⟨tg, iter, ifs, 0⟩] scope pos) As J := fun σ H Q k q => by
  obtain ⟨wi, g, tt, te, own, h1, h2, h3, h4, h5, h6⟩ := h
  exact PE.w (pe_lc hc nd h1 h2 h3 h4 h5 hs) (h6 σ H Q k q)
/-- the store of a new list, that is one's own from here on -/
theorem Gx.Ok.own {σ : St} {H H' : Hp} {D : Addr} {vs : List V} (k : G.Ok I Γ σ H) (t : G.To J H H') (n : H D = none) (e : H' D = some (.lst vs)) (a : AllA As (fz (G.lk D).U H') vs) (hl : i < Γ.length) :
    ∃ (h0 : G.H0 D = none) (hM : ¬ G.U D), (G.own D h0).Ok (J.own D vs) (Γ.set i (some (isOwn D vs As))) (σ.set i (some (.ref D))) H' := by
  have hU : ¬ G.U D := fun m => k.live D m n
  have h0 : G.H0 D = none := by
    cases z : G.H0 D with
    | none => rfl
    | some o => 
      by_cases m : G.M0 D
      · exact absurd n (k.live D (.inl (G.sub D m)))
      · have := k.frame D o m z
        rw [n] at this; cases this
  have sm : Sm (fz G.U H) (fz (G.own D h0).U H') := fun b o eb => by
    obtain ⟨nb, eb⟩ := fz_some eb
    have ne : b ≠ D := ne_of_none eb n
    rw [fz_neg fun z => (Gx.own_U.mp z).elim nb ne]
    exact t.keep b o (fun z => nb (.inl z)) eb
  have le : Sm (fz (G.lk D).U H') (fz (G.own D h0).U H') := fz_less fun b z => Gx.lk_U.mpr (Gx.own_U.mp z)
  refine ⟨h0, hU, ⟨(k.to t).frame, fun b u => ?_, ⟨t.inv, e⟩, ?_, ?_⟩⟩
  · rcases Gx.own_U.mp u with u | u
    · exact t.live b u
    · rw [u, e]; exact fun w => nomatch w
  · exact (k.sat.mono sm).set (by rw [k.len]; exact hl) ⟨rfl, a.mono le⟩
  · rw [List.length_set, List.length_set]; exact k.len
theorem sx_own (nd : X.N.Nodup) (hi : X.N[i]? = some x) (hx : Loc X.env.scope x) (hl : i < Γ.length) (he : NX X G I Γ e As J)
    (hr : ∀ (D : Addr) (vs : List V) (h : G.H0 D = none), ¬ G.U D → vs.length = As.length → SX X (G.own D h) (J.own D vs) (Γ.set i (some (isOwn D vs As))) sts E)
    (hs : swapsWith e (some (.Name x pos')) pos.line X.env = pure false := by rfl) (hf : X.fn x = true ∨ X.env.scope.names.lookup x = some .local := by first | exact .inl rfl | exact .inr rfl) :
    SX X G I Γ (.Assign [.Name x pos'] e pos :: sts) E := fun σ H k =>
  wB_cons (PS.w (ps_set nd hi hx pe_wE hs hf) (he σ H _ k fun H1 D vs t1 n e a => by
    obtain ⟨h0, hM, k1⟩ := k.own (i := i) t1 n e a hl
    exact hr D vs h0 hM a.len _ _ k1))
theorem sx_ownLc {elt tg iter : Expr} {ifs : List Expr} {scope : Scope} (hc : X.calm = true) (nd : X.N.Nodup) (hy : X.N[i]? = some y) (hyl : X.env.scope.names.lookup y = some .local) (hl : i < Γ.length) (h : LX X G I Γ elt tg iter ifs scope As J)
    (hr : ∀ (D : Addr) (vs : List V) (h : G.H0 D = none), ¬ G.U D → vs.length = As.length → SX X (G.own D h) (J.own D vs) (Γ.set i (some (isOwn D vs As))) sts E)
    (hsw : swapsWith (.ListComp elt [⟨tg, iter, ifs, 0⟩] scope pos) (some (.Name y py)) spos.line X.env = pure true) (hs : ∀ x, foldedSetIterable iter X.env x = pure x := by intro _; rfl) :
    SX X G I Γ (.Assign [.Name y py] (.ListComp elt [⟨tg, iter, ifs, 0⟩] scope pos) spos :: sts) E := fun σ H k => by
  obtain ⟨wi, g, tt, te, own, h1, h2, h3, h4, h5, h6⟩ := h
  exact wB_cons (PS.w (ps_setLc hc nd hy hyl hsw h1 h2 h3 h4 h5 hs) (h6 σ H _ k fun H1 D vs t1 n e a => by
    obtain ⟨h0, hM, k1⟩ := k.own (i := i) t1 n e a hl
    exact hr D vs h0 hM a.len _ _ k1))
theorem sx_free {D : Addr} {vs : List V} {h0 : G.H0 D = none} (i : Nat) (hU : ¬ G.U D) (hg : Γ[i]? = some (some (isOwn D vs As))) (hr : SX X G J (Γ.set i (some (isNew As))) sts E) : SX X (G.own D h0) (J.own D vs) Γ sts E := fun σ H k => by
  have le : Sm (fz (G.own D h0).U H) (fz G.U H) := fz_less fun a z => Gx.own_U.mpr (.inl z)
  obtain ⟨v, e1, e2, a⟩ := k.sat i _ hg
  have hl : i < σ.length := by
    rcases Nat.lt_or_ge i σ.length with z | z
    · exact z
    · rw [List.getElem?_eq_none z] at e1; cases e1
  have es : σ.set i (some v) = σ := by
    apply List.ext_getElem?
    intro j
    by_cases q : i = j
    · subst q; rw [List.getElem?_set_self hl, e1]
    · rw [List.getElem?_set_ne q]
  have st : Sat (Γ.set i (some (isNew As))) (fz G.U H) (σ.set i (some v)) := (k.sat.mono le).set hl (by
    subst e2
    exact ⟨D, vs, rfl, by rw [fz_neg hU]; exact k.inv.2, a.mono le⟩)
  rw [es] at st
  exact hr σ H ⟨k.frame, fun a u => k.live a (Gx.own_U.mpr (.inl u)), k.inv.1, st, by rw [List.length_set]; exact k.len⟩
/-- x[k] = e -/
theorem sx_store {D : Addr} {vs : List V} {P : Int → Prop} {I' : List V → Iv G.M} {o ix : Expr} {ps : Pos} (i : Nat) (hl : i < Γ.length) (W : Owns G.M K D vs I') (he : EX X G I Γ e A J) (ho : EX X G J Γ o (isOwn D vs As) J) (hx : EX X G J Γ ix (exA P aInt) K) (hn : ∀ k, P k → 0 ≤ k ∧ k < (As.length : Int))
    (hg : Γ[i]? = some (some (isOwn D vs As)))
    (hr : ∀ (k : Nat) (v : V), P (k : Int) → k < As.length → SX X G (I' (vs.set k v)) (Γ.set i (some (isOwn D (vs.set k v) (As.set k A)))) sts E)
    (hs : swapsWithSole [.Subscript o ix ps] e pos.line X.env = pure false := by rfl) (hw : swappedStores [.Subscript o ix ps] e X.env = pure none := by rfl)
    (h1 : (assignEach [.Subscript o ix ps] X.env).map (·.2) = [assign (.Subscript o ix ps) X.env] := by rfl)
    (ha : ∀ v, assign (.Subscript o ix ps) X.env v = (do
      let ov ← holding [v] (eval o X.env)
      let iv ← holding [v, ov] (eval ix X.env)
      standAt ps
      holding [v, ov, iv] (setItem ov iv v)
      release [v, ov, iv] []) := by intro _; rfl) :
    SX X G I Γ (.Assign [.Subscript o ix ps] e pos :: sts) E := fun σ H k =>
  wB_cons (PS.w (ps_asg pe_wE (pg_sub pe_wE pe_wE set_list ha) hs hw h1) (he σ H _ k fun H1 v t1 a1 => ho σ H1 _ (k.to t1) fun H2 w t2 o2 => hx σ H2 _ ((k.to t1).to t2) fun H3 z t3 ⟨n, pn, ez⟩ => by
    obtain ⟨e1, r⟩ := o2
    cases ez
    subst e1
    obtain ⟨p1, p2⟩ := hn n pn
    have k3 := ((k.to t1).to t2).to t3
    have eD := W.get H3 t3.inv
    have hlen : vs.length = As.length := r.len
    have hnn : (n.toNat : Int) = n := by omega
    have hlt : n.toNat < As.length := by omega
    refine ⟨D, vs, n, n.toNat, rfl, rfl, eD, ?_, ?_⟩
    · unfold ixN
      rw [if_pos p1, if_pos (by omega)]
    have mD : ∀ a, a ≠ D → ¬ G.U a → upd H3 D (.lst (vs.set n.toNat v)) a = H3 a := fun a z _ => upd_ne z
    have fzD : fz G.U (upd H3 D (.lst (vs.set n.toNat v))) = fz G.U H3 := by
      funext a
      by_cases z : G.U a
      · rw [fz_pos z, fz_pos z]
      · rw [fz_neg z, fz_neg z, upd_ne fun w => z (by rw [w]; exact .inl W.mem)]
    refine hr n.toNat v (by rw [hnn]; exact pn) hlt _ _ ⟨fun a o m e => ?_, fun a u => ?_, W.put H3 _ _ t3.inv upd_same (fun a _ z => upd_ne z), ?_, ?_⟩
    · by_cases z : a = D
      · subst z
        rcases G.fr a W.mem with q | q
        · exact absurd q m
        · rw [q] at e; cases e
      · rw [upd_ne z]; exact k3.frame a o m e
    · by_cases z : a = D
      · rw [z, upd_same]; exact fun w => nomatch w
      · rw [upd_ne z]; exact k3.live a u
    · rw [fzD]
      have st := k3.sat
      have ra : AllA As (fz G.U H3) vs := r.mono t3.fz
      have av : A.p (fz G.U H3) v := A.mono (t2.trans t3).fz a1
      obtain ⟨v0, e0, q0, _⟩ := st i _ hg
      intro j B ej
      by_cases q : i = j
      · subst q
        rw [List.getElem?_set_self hl] at ej
        cases ej
        exact ⟨v0, e0, q0, ra.set av⟩
      · rw [List.getElem?_set_ne q] at ej
        exact st j B ej
    · rw [List.length_set]; exact k3.len))
/-- x.append(e) -/
theorem sx_append {D : Addr} {vs : List V} {I' : List V → Iv G.M} {o : Expr} {apos cpos : Pos} (i : Nat) (hl : i < Γ.length) (W : Owns G.M K D vs I') (ho : EX X G I Γ o (isOwn D vs As) I) (he : EX X G I Γ e A K) (hg : Γ[i]? = some (some (isOwn D vs As))) (hz : As.length < 100000) (hWI : Owns G.M I D vs I')
    (hr : ∀ v : V, SX X G (I' (vs ++ [v])) (Γ.set i (some (isOwn D (vs ++ [v]) (As ++ [A])))) sts E)
    (hbase : attributeBase o "append" X.env (eval o X.env) = eval o X.env := by rfl)
    (hfew : ((backTo cpos (starEach [e] X.env)).all (fun x => !x.1) && (backToKw cpos (keywordEach [] X.env)).all (fun x => x.1.isSome)
      && decide ([e].length + ([] : List Keyword).length + (if ([] : List Keyword).isEmpty then 0 else 1) < 30)) = true := by rfl)
    (hline : (apos.endLine == cpos.line) = true := by rfl) (hs' : starEach [e] X.env = (false, eval e X.env) :: starEach [] X.env := by rfl) (hplain : (backTo cpos (starEach [] X.env)).any (·.1) = false := by rfl)
    (hs : swapsWith (.Call (.Attribute o "append" apos) [e] [] cpos) none pos.line X.env = pure false := by rfl) :
    SX X G I Γ (.Expr (.Call (.Attribute o "append" apos) [e] [] cpos) pos :: sts) E := fun σ H k =>
  wB_cons (PS.w (ps_expr (pe_bm PySem.F.plainAttrs_list PySem.F.slot_list_append PySem.F.type_list_append mt_append pe_wE (pa_cons pe_wE pa_nil hs') hbase hfew hline hs' hplain) hs) (ho σ H _ k fun H1 w t1 o1 => by
    obtain ⟨e1, r⟩ := o1
    subst e1
    refine ⟨.inl ⟨rfl, vs, .inl (.inl (hWI.get H1 t1.inv))⟩, he σ H1 _ (k.to t1) fun H2 v t2 a2 => ?_⟩
    have k3 := (k.to t1).to t2
    have eD := W.get H2 t2.inv
    have hlen : vs.length = As.length := r.len
    refine ⟨D, vs, v, rfl, rfl, eD, by rw [hlen, sizeLine_eq]; omega, ?_⟩
    have fzD : fz G.U (upd H2 D (.lst (vs ++ [v]))) = fz G.U H2 := by
      funext a
      by_cases z : G.U a
      · rw [fz_pos z, fz_pos z]
      · rw [fz_neg z, fz_neg z, upd_ne fun w => z (by rw [w]; exact .inl W.mem)]
    refine hr v _ _ ⟨fun a o m e => ?_, fun a u => ?_, W.put H2 _ _ t2.inv upd_same (fun a _ z => upd_ne z), ?_, ?_⟩
    · by_cases z : a = D
      · subst z
        rcases G.fr a W.mem with q | q
        · exact absurd q m
        · rw [q] at e; cases e
      · rw [upd_ne z]; exact k3.frame a o m e
    · by_cases z : a = D
      · rw [z, upd_same]; exact fun w => nomatch w
      · rw [upd_ne z]; exact k3.live a u
    · rw [fzD]
      have st := k3.sat
      have ra : AllA As (fz G.U H2) vs := r.mono t2.fz
      obtain ⟨v0, e0, q0, _⟩ := st i _ hg
      intro j B ej
      by_cases q : i = j
      · subst q
        rw [List.getElem?_set_self hl] at ej
        cases ej
        exact ⟨v0, e0, q0, ra.app (AllA.one a2)⟩
      · rw [List.getElem?_set_ne q] at ej
        exact st j B ej
    · rw [List.length_set]; exact k3.len))
/-- x[k], x one's own -/
theorem ex_ixO {D : Addr} {vs : List V} {I' : List V → Iv G.M} {j : Int} {k : Nat} (W : Owns G.M K D vs I') (hs : PlainIx b) (ha : EX X G I Γ a (isOwn D vs As) J) (hb : EX X G J Γ b (aInt j) K) (hj : j = (k : Int)) (hA : As[k]? = some A) : EX X G I Γ (.Subscript a b pos) A K := fun σ H Q kk q =>
  PE.w (pe_ix ix_list pe_wE pe_wE hs) (ha σ H _ kk fun H1 x t1 a1 => hb σ H1 _ (kk.to t1) fun H2 y t2 b2 => by
    obtain ⟨rfl, r⟩ := (isOwn D vs As).mono t2.fz a1
    obtain ⟨v, e, w⟩ := r.get hA
    subst hj
    cases b2
    exact ⟨D, vs, _, v, rfl, rfl, .inl (.inl (W.get H2 t2.inv)), atI_nat e, q H2 v (t1.trans t2) w⟩)
/-- len(x), x one's own -/
theorem ex_lenO {D : Addr} {vs : List V} {I' : List V → Iv G.M} (W : Owns G.M J D vs I') (hg : Gl X "len") (hm : X.mg "len" = none) (ha : EX X G I Γ e (isOwn D vs As) J) (hs : starEach [e] X.env = (false, eval e X.env) :: starEach [] X.env := by rfl) (hpl : (backTo pos (starEach [] X.env)).any (·.1) = false := by rfl) : EX X G I Γ (.Call (.Name "len" p) [e] [] pos) (aInt (As.length : Int)) J := fun σ H Q k q =>
  PE.w (pe_callB call_len_seq hg hm PySem.boot_len pa_wA (by decide) (by decide) hs hpl) (ax_cons ha ax_nil hs σ H _ k fun H1 vs' t1 ⟨v, r, e1, ⟨e2, rr⟩, e3⟩ => by
    cases e3; subst e2; subst e1
    exact ⟨D, vs, rfl, .inl (.inl (.inl (W.get H1 t1.inv))), q H1 _ t1 (by rw [rr.len]; rfl)⟩)
end
/-! ### while -/
section
variable {X : Cx} {G : Gx} {I : Iv G.M} {Γ : Slots} {c : Expr} {pos : Pos} {sts body : List Stmt} {D : Ends}
theorem sx_while {ι : Type} (Iz : ι → Iv G.M) (Γs : ι → Slots) (μ : ι → Nat) (Iw : ι → Prop) (P : ι → Bool → Prop) (x0 : ι) (hp : PassesOwn (model X.prog X.w) X.A X.env X.xe) (w0 : Iw x0) (h0 : ∀ σ H, G.Ok I Γ σ H → G.Ok (Iz x0) (Γs x0) σ H)
    (hc : ∀ x, Iw x → TX X G (Iz x) (Γs x) c (P x) (Iz x))
    (hb : ∀ x, Iw x → P x true → SX X G (Iz x) (Γs x) body { D with nx := fun σ H => ∃ y, μ y < μ x ∧ Iw y ∧ G.Ok (Iz y) (Γs y) σ H, ct := fun σ H => ∃ y, μ y < μ x ∧ Iw y ∧ G.Ok (Iz y) (Γs y) σ H, bk := wB X sts D })
    (hd : ∀ x, Iw x → P x false → SX X G (Iz x) (Γs x) sts D) : SX X G I Γ (.While c body [] pos :: sts) D := fun σ H k => by
  refine wB_cons (PS.w (ps_while hp pt_wT pss_wB) ?_)
  refine ⟨fun m σ H => ∃ x, μ x = m ∧ Iw x ∧ G.Ok (Iz x) (Γs x) σ H, ⟨μ x0, x0, rfl, w0, h0 σ H k⟩, ?_⟩
  rintro m σ H ⟨x, rfl, wx, kx⟩
  refine hc x wx σ H _ kx fun H1 b t1 pb => ?_
  have k1 := kx.to t1
  cases b with
  | true =>
    rw [if_pos rfl]
    refine ⟨fun σ H => ∃ y, μ y < μ x ∧ Iw y ∧ G.Ok (Iz y) (Γs y) σ H, fun σ' H' ⟨y, h1, h2, h3⟩ => ⟨μ y, h1, y, rfl, h2, h3⟩, hb x wx pb _ _ k1⟩
  | false =>
    rw [if_neg Bool.false_ne_true]
    exact hd x wx pb _ _ k1
end
/-! ### a for with something that is not told beforehand -/
section
variable {X : Cx} {G : Gx} {I J K : Iv G.M} {Γ : Slots} {tg iter e : Expr} {As : List Asr} {A : Asr} {pos px : Pos} {sts body : List Stmt} {D : Ends} {x : Str} {ι α : Type} {l : List α} {fA : α → Asr}
theorem sx_forX {g : TG} {vs : List Nat} (Iz : Nat → ι → Iv G.M) (Γs : Nat → ι → Slots) (Γk : Nat → ι → Asr → Slots) (Pk : Nat → ι → Prop) (x0 : ι) (hp : PassesOwn (model X.prog X.w) X.A X.env X.xe) (hc : X.calm = true) (hi : IX X G I Γ tg iter As (Iz 0 x0)) (hg : PG X tg g) (p0 : Pk 0 x0) (h0 : Low (Γs 0 x0) Γ)
    (hsem : ∀ k y A, As[k]? = some A → GSem G.U g A (Γs k y) (Γk k y A) vs)
    (hs : ∀ H1 Γ1 σ1 k y A, As[k]? = some A → Pk k y → G.Ok (Iz 0 x0) Γ1 σ1 H1 → SX X (G.re H1) (Iz k y) (Γk k y A) body { D with nx := fun σ H => ∃ z, Pk (k + 1) z ∧ (G.re H1).Ok (Iz (k + 1) z) (Γs (k + 1) z) σ H, ct := fun σ H => ∃ z, Pk (k + 1) z ∧ (G.re H1).Ok (Iz (k + 1) z) (Γs (k + 1) z) σ H, bk := wB X sts D })
    (hd : ∀ y, Pk As.length y → SX X G (Iz As.length y) (Γs As.length y) sts D) (hf : ∀ x, foldedSetIterable iter X.env x = pure x := by intro _; rfl) : SX X G I Γ (.For tg iter body [] pos :: sts) D := fun σ H k => by
  obtain ⟨wi, hi1, hi2⟩ := hi
  refine wB_cons (PS.w (ps_for hp hc hi1 hg pss_wB hf) (hi2 σ H _ k fun T H1 t1 wk => ?_))
  have k1 := (k.to t1).low h0
  refine ⟨fun i m σ2 H2 => m = As.length - i ∧ i ≤ As.length ∧ ∃ y, Pk i y ∧ (G.re H1).Ok (Iz i y) (Γs i y) σ2 H2, ⟨As.length, by omega, Nat.zero_le _, x0, p0, k1.at⟩, ?_⟩
  rintro i m σ2 H2 ⟨rfl, hle, y, py, k2⟩
  have s2 : Sm (fz G.U H1) (fz G.U H2) := fun a o e => by
    obtain ⟨n, e⟩ := fz_some e
    rw [fz_neg n]; exact k2.frame a o (fun z => n (.inl z)) e
  by_cases hlt : i < As.length
  · have eA := List.getElem?_eq_getElem hlt
    refine .inr ⟨wk.go _ H2 s2 i hlt, fun σ H => ∃ z, Pk (i + 1) z ∧ (G.re H1).Ok (Iz (i + 1) z) (Γs (i + 1) z) σ H, fun σ' H' p' => ⟨As.length - (i + 1), by omega, rfl, hlt, p'⟩, fun x H3 y' => ?_⟩
    obtain ⟨s3, ax⟩ := wk.yld _ H2 s2 k2.live i x H3 _ eA y'
    have t3 : (G.re H1).To (Iz i y) H2 H3 := To.sm (G := G.re H1) k2.live k2.inv s3
    have k3 := k2.to t3
    refine hsem i y _ eA x σ2 H3 _ k3.sat k3.len ax fun σ' st ln _ => ?_
    exact hs H1 _ _ i y _ eA py k1 σ' H3 ⟨k3.frame, k3.live, k3.inv, st, ln⟩
  · have e : i = As.length := by omega
    subst e
    exact .inl ⟨wk.stop _ H2 s2 _ (Nat.le_refl _), hd y py σ2 H2 (k1.back k2)⟩
theorem sx_forNX (j : Nat) (Iz : Nat → ι → Iv G.M) (Γs : Nat → ι → Slots) (Pk : Nat → ι → Prop) (x0 : ι) (hp : PassesOwn (model X.prog X.w) X.A X.env X.xe) (hc : X.calm = true) (nd : X.N.Nodup) (hj : X.N[j]? = some x) (hx : Loc X.env.scope x) (hf' : X.fn x = true ∨ X.env.scope.names.lookup x = some .local)
    (hi : IX X G I Γ (.Name x px) iter (l.map fA) (Iz 0 x0)) (p0 : Pk 0 x0) (h0 : Low (Γs 0 x0) Γ) (hl : ∀ k y, j < (Γs k y).length)
    (hs : ∀ H1 Γ1 σ1 k y a, l[k]? = some a → a ∈ l → k < l.length → Pk k y → G.Ok (Iz 0 x0) Γ1 σ1 H1 → SX X (G.re H1) (Iz k y) ((Γs k y).set j (some (fA a))) body { D with nx := fun σ H => ∃ z, Pk (k + 1) z ∧ (G.re H1).Ok (Iz (k + 1) z) (Γs (k + 1) z) σ H, ct := fun σ H => ∃ z, Pk (k + 1) z ∧ (G.re H1).Ok (Iz (k + 1) z) (Γs (k + 1) z) σ H, bk := wB X sts D })
    (hd : ∀ y, Pk l.length y → SX X G (Iz l.length y) (Γs l.length y) sts D) (hf : ∀ x, foldedSetIterable iter X.env x = pure x := by intro _; rfl) : SX X G I Γ (.For (.Name x px) iter body [] pos :: sts) D := by
  refine sx_forX (vs := [j]) Iz Γs (fun k y A => (Γs k y).set j (some A)) Pk x0 hp hc hi (pg_name nd hj hx hf') p0 h0 (fun k y A _ => gs_name (hl k y)) (fun H1 Γ1 σ1 k y A e py k1 => ?_) (fun y py => by rw [List.length_map] at py ⊢; exact hd y py) hf
  obtain ⟨a, e1, m, rfl⟩ := map_get e
  refine hs H1 Γ1 σ1 k y a e1 m ?_ py k1
  rcases Nat.lt_or_ge k l.length with z | z
  · exact z
  · rw [List.getElem?_eq_none z] at e1; cases e1
end
/-! ### what is drawn, in sums and the like -/
section
variable {X : Cx} {G : Gx} {I J K : Iv G.M} {Γ : Slots} {e a b : Expr} {es : List Expr} {A B C : Asr} {As : List Asr} {pos p : Pos}
theorem exA_of {α : Type} {P : α → Prop} {f : α → Asr} {F : Hp} {v : V} (x : α) (p : P x) (h : (f x).p F v) : (exA P f).p F v := ⟨x, p, h⟩
theorem EX.dr {i : Int} (h : EX X G I Γ e (aInt i) J) : EX X G I Γ e (exA (· = i) aInt) J := h.imp fun _ _ r => ⟨i, rfl, r⟩
theorem ex_opD {op : Operator} {g : Int → Int → Int} {P Q R : Int → Prop} (ho : OpR X (binaryOp op) (rI0 fun i j => .int (g i j))) (ha : EX X G I Γ a (exA P aInt) J) (hb : EX X G J Γ b (exA Q aInt) K) (h : ∀ i j, P i → Q j → R (g i j)) : EX X G I Γ (.BinOp a op b pos) (exA R aInt) K :=
  ex_op2 ho ha hb fun F x y ⟨i, pi, ex⟩ ⟨j, pj, ey⟩ H Qq _ q => by
    cases ex; cases ey
    exact ⟨i, j, rfl, rfl, q _ ⟨_, h i j pi pj, rfl⟩⟩
theorem ex_addD {P Q R : Int → Prop} (ha : EX X G I Γ a (exA P aInt) J) (hb : EX X G J Γ b (exA Q aInt) K) (h : ∀ i j, P i → Q j → R (i + j)) : EX X G I Γ (.BinOp a .Add b pos) (exA R aInt) K := ex_opD op_add ha hb h
theorem ex_subD {P Q R : Int → Prop} (ha : EX X G I Γ a (exA P aInt) J) (hb : EX X G J Γ b (exA Q aInt) K) (h : ∀ i j, P i → Q j → R (i - j)) : EX X G I Γ (.BinOp a .Sub b pos) (exA R aInt) K := ex_opD op_sub ha hb h
theorem ex_mulD {m n : Nat} {P Q R : Int → Prop} (ha : EX X G I Γ a (exA P aInt) J) (hb : EX X G J Γ b (exA Q aInt) K) (h1 : ∀ i, P i → Bits m i) (h2 : ∀ j, Q j → Bits n j) (hmn : m + n ≤ 134217728) (h : ∀ i j, P i → Q j → R (i * j)) : EX X G I Γ (.BinOp a .Mult b pos) (exA R aInt) K :=
  ex_op2 op_mulX ha hb fun F x y ⟨i, pi, ex⟩ ⟨j, pj, ey⟩ H Qq _ q => by
    cases ex; cases ey
    exact ⟨i, j, rfl, rfl, mulx_ok (h1 i pi) (h2 j pj) hmn, q _ ⟨_, h i j pi pj, rfl⟩⟩
theorem ex_negD {P R : Int → Prop} (ha : EX X G I Γ a (exA P aInt) J) (h : ∀ i, P i → R (-i)) : EX X G I Γ (.UnaryOp .USub a pos) (exA R aInt) J := fun σ H Q k q => PE.w (pe_un un_neg pe_wE) (ha σ H _ k fun H1 x t1 ⟨i, pi, a1⟩ => ⟨i, a1, q H1 _ t1 ⟨_, h i pi, rfl⟩⟩)
/-- one of some ints -/
theorem ex_ixD {P R : Int → Prop} (hs : PlainIx b) (ha : EX X G I Γ a (isLst X.K As) J) (hb : EX X G J Γ b (exA P aInt) K) (hP : ∀ i, P i → 0 ≤ i ∧ i < (As.length : Int)) (hA : ∀ (k : Nat) A F v, P (k : Int) → As[k]? = some A → A.p F v → C.p F v) : EX X G I Γ (.Subscript a b pos) C K := fun σ H Q kk q =>
  PE.w (pe_ix ix_list pe_wE pe_wE hs) (ha σ H _ kk fun H1 x t1 a1 => hb σ H1 _ (kk.to t1) fun H2 y t2 ⟨i, pi, b2⟩ => by
    obtain ⟨p, vs, rfl, h, r⟩ := (isLst X.K As).mono t2.fz a1
    cases b2
    obtain ⟨p1, p2⟩ := hP i pi
    have ei : i = (i.toNat : Int) := by omega
    obtain ⟨v, e, w⟩ := r.get (List.getElem?_eq_getElem (i := i.toNat) (by omega))
    refine ⟨p, vs, _, v, rfl, rfl, SqL.mono fz_sub h, by rw [ei]; exact atI_nat e, q H2 v (t1.trans t2) (hA i.toNat _ _ _ (ei ▸ pi) (List.getElem?_eq_getElem (by omega)) w)⟩)
variable {ι : Type} {dom : ι → List Asr} {ok : ι → Prop} {cod : ι → Asr} {ps : List Str} {k n n' d : Nat} {ap ag : Addr} {Iz : Nat → Iv G.M} {x : Str}
/-- a draw, its arguments drawn, too -/
theorem ex_drawX {Pr : Program} {w : World} {K0 : PySem.W.Frag} {mg : Str → Option Value} {base : Heap} (C : Has Pr w K0 mg base x ps (spD d dom ok cod) k) (hr : Room k X.A) (W : Drw G.M ap ag Iz) (h0 : EX X G I Γ e (isV (.ref ap)) I) (ha : AX X G I Γ es As (Iz n')) (hn : n' + d ≤ 2 ^ 60) {A : Asr}
    (hsel : ∀ F vs, AllA As F vs → ∃ i, ok i ∧ AllA (dom i) F vs ∧ ∀ F v, (cod i).p F v → A.p F v) (hg : Gl X x := by rfl) (e1 : X.prog = Pr := by rfl) (e2 : X.w = w := by rfl) (e3 : X.K = K0 := by rfl) (e4 : X.mg = mg := by rfl) (e5 : X.base = base := by rfl) (hdb : (x == ("__debug__" : Str)) = false := by decide)
    (hst : starEach (e :: es) X.env = (false, eval e X.env) :: starEach es X.env := by rfl) (hpl : (backTo pos (starEach es X.env)).any (·.1) = false := by rfl) : EX X G I Γ (.Call (.Name x p) (e :: es) [] pos) A (Iz (n' + d)) := by
  subst e1 e2 e3 e4 e5
  obtain ⟨f, fd, _, F, hm, hk, hb⟩ := C.ex
  exact fun σ H Q kk q =>
  PE.w (pe_call (E := fun _ _ _ => False) F hr hg hm hk hb .nil pass0 (pa_cons pe_wE pa_wA hst) hdb hst hpl) (h0 σ H _ kk fun H0 v0 t0 e0 => ha σ H0 _ (kk.to t0) fun H1 vs t1 r => by
    cases e0
    obtain ⟨i, hok, hdm, hcd⟩ := hsel _ _ r
    refine ⟨G.U, ap, ag, n', vs, i, by rw [List.append_nil], t1.live, .inl W.hp, .inl W.hg, hn, W.pool n' _ t1.inv, hok, hdm, fun H' v s pl c => q H' v ((t0.trans t1).trans ⟨fun a o m e => s a o (fun z => m (by rw [z]; exact W.hp)) (fun z => m (by rw [z]; exact W.hg)) e, fun a m => ?_, ?_⟩) (hcd _ _ c)⟩
    · obtain ⟨ne, gs, fig, mark, cnt, h1, h2, _⟩ := pl
      by_cases z1 : a = ap
      · rw [z1, h1]; exact fun w => nomatch w
      · by_cases z2 : a = ag
        · rw [z2, h2]; exact fun w => nomatch w
        · cases z : H1 a with
          | none => exact absurd z (t1.live a m)
          | some o => rw [s a o z1 z2 z]; exact fun w => nomatch w
    · refine W.back n' (n' + d) H1 H' t1.inv pl fun a m z1 z2 => ?_
      cases z : H1 a with
      | none => exact absurd z (t1.live a (.inl m))
      | some o => exact s a o z1 z2 z)
/-- a call, its arguments drawn -/
theorem ex_callX {Pr : Program} {w : World} {K0 : PySem.W.Frag} {mg : Str → Option Value} {base : Heap} (C : Has Pr w K0 mg base x ps (spF dom ok cod) k) (hr : Room k X.A) (ha : AX X G I Γ (e :: es) As J) {A : Asr}
    (hsel : ∀ F vs, AllA As F vs → ∃ i, ok i ∧ AllA (dom i) F vs ∧ ∀ F v, (cod i).p F v → A.p F v) (hg : Gl X x := by rfl) (e1 : X.prog = Pr := by rfl) (e2 : X.w = w := by rfl) (e3 : X.K = K0 := by rfl) (e4 : X.mg = mg := by rfl) (e5 : X.base = base := by rfl) (hdb : (x == ("__debug__" : Str)) = false := by decide)
    (he : starEach (e :: es) X.env = (false, eval e X.env) :: starEach es X.env := by rfl) (hpl : (backTo pos (starEach es X.env)).any (·.1) = false := by rfl) : EX X G I Γ (.Call (.Name x p) (e :: es) [] pos) A J := by
  subst e1 e2 e3 e4 e5
  obtain ⟨f, fd, _, F, hm, hk, hb⟩ := C.ex
  exact fun σ H Q kk q =>
    PE.w (pe_call (E := fun _ _ _ => False) F hr hg hm hk hb .nil pass0 pa_wA hdb he hpl) (ha σ H _ kk fun H1 vs t1 r => by
      obtain ⟨i, hok, hdm, hcd⟩ := hsel _ _ r
      exact ⟨G.U, i, t1.live, hok, by rw [List.append_nil]; exact hdm, fun H' v s c => q H' v (t1.trans (To.sm t1.live t1.inv s)) (hcd _ _ c)⟩)
end
/-! ### data as a whole -/
mutual
def isD (K : PySem.W.Frag) : PyData → Asr
  | .none => isNon
  | .bool b => isBl b
  | .int i => aInt i
  | .str s => isStr s
  | .list ds => isLst K (isDs K ds)
  | .tuple ds => isTup K (isDs K ds)
  | .dict _ => ⟨fun _ _ => False, fun _ h => h⟩
def isDs (K : PySem.W.Frag) : List PyData → List Asr
  | [] => []
  | d :: ds => isD K d :: isDs K ds
end
theorem isDs_map {K : PySem.W.Frag} : ∀ ds : List PyData, isDs K ds = ds.map (isD K)
  | [] => by rw [isDs]; rfl
  | d :: ds => by rw [isDs, isDs_map ds]; rfl
mutual
theorem isD_dp {K : PySem.W.Frag} {F H : Hp} (s : Sm F H) : ∀ (d : PyData) (v : V), (isD K d).p F v → Dp K H v d
  | .none, v, h => by cases h; exact .non
  | .bool b, v, h => by cases h; exact .bl b
  | .int i, v, h => by cases h; exact .int i
  | .str x, v, h => by cases h; exact .str x
  | .list ds, v, h => by
    rw [isD] at h
    obtain ⟨a, vs, rfl, h1, h2⟩ := h
    exact .lst (SqL.mono s h1) (isD_dps s ds vs h2)
  | .tuple ds, v, h => by
    rw [isD] at h
    obtain ⟨a, vs, rfl, h1, h2⟩ := h
    exact .tup (SqT.mono s h1) (isD_dps s ds vs h2)
  | .dict _, v, h => h.elim
theorem isD_dps {K : PySem.W.Frag} {F H : Hp} (s : Sm F H) : ∀ (ds : List PyData) (vs : List V), AllA (isDs K ds) F vs → DpAll K H vs ds
  | [], vs, h => by rw [isDs] at h; cases h; exact .nil
  | d :: ds, vs, h => by
    rw [isDs] at h
    obtain ⟨v, r, rfl, h1, h2⟩ := h
    exact .cons (isD_dp s d v h1) (isD_dps s ds r h2)
end
section
variable {X : Cx} {G : Gx} {I J K : Iv G.M} {Γ : Slots} {a b : Expr} {A B : Asr} {pos : Pos} {d d' : PyData}
theorem ex_eqD {k : Nat} (hr : Room k X.A) (hs : SeqAt.shaped d = true) (hs' : SeqAt.shaped d' = true) (ha : EX X G I Γ a (isD X.K d) J) (hb : EX X G J Γ b (isD X.K d') K) : EX X G I Γ (.Compare a [.Eq] [b] pos) (isBl (PyData.eqv d d')) K :=
  ex_cmp2 (op_eqD hr.units) (nomark _) ha hb fun F x y ex ey H Q s q => ⟨d, d', isD_dp s d x ex, isD_dp s d' y ey, hs, hs', q _ rfl⟩
theorem tx_eqD {k : Nat} (hr : Room k X.A) (hs : SeqAt.shaped d = true) (hs' : SeqAt.shaped d' = true) (ha : EX X G I Γ a (isD X.K d) J) (hb : EX X G J Γ b (isD X.K d') K) : TX X G I Γ (.Compare a [.Eq] [b] pos) (· = PyData.eqv d d') K :=
  tx_cmp2 (op_eqD hr.units) (nomark _) ha hb fun F x y ex ey H Q s q => ⟨d, d', isD_dp s d x ex, isD_dp s d' y ey, hs, hs', q _ rfl⟩
end
end L2.PL
namespace L2.PL
open PySem PySem.Spec PyProof.Rows
section
variable {X : Cx} {G : Gx} {I J K : Iv G.M} {Γ : Slots} {e a b : Expr} {es : List Expr} {A B C : Asr} {As : List Asr} {pos p : Pos} {sts : List Stmt} {E : Ends} {D : Addr} {vs : List V} {I' : List V → Iv G.M} {w : V}
/-- what is known of the invariant -/
theorem sx_ex {α : Type} {P : α → Prop} {Ix : α → Iv G.M} (h : ∀ H, I.p H → ∃ x, P x ∧ (Ix x).p H) (hr : ∀ x, P x → SX X G (Ix x) Γ sts E) : SX X G I Γ sts E := fun σ H k => by
  obtain ⟨x, px, q⟩ := h H k.inv
  exact hr x px σ H ⟨k.frame, k.live, q, k.sat, k.len⟩
theorem ex_ixV {j : Int} {k : Nat} (W : Owns G.M K D vs I') (hs : PlainIx b) (ha : EX X G I Γ a (isV (.ref D)) J) (hb : EX X G J Γ b (aInt j) K) (hj : j = (k : Int)) (hA : vs[k]? = some w) : EX X G I Γ (.Subscript a b pos) (isV w) K := fun σ H Q kk q =>
  PE.w (pe_ix ix_list pe_wE pe_wE hs) (ha σ H _ kk fun H1 x t1 a1 => hb σ H1 _ (kk.to t1) fun H2 y t2 b2 => by
    cases a1; cases b2
    subst hj
    exact ⟨D, vs, _, w, rfl, rfl, .inl (.inl (W.get H2 t2.inv)), atI_nat hA, q H2 w (t1.trans t2) rfl⟩)
theorem sx_storeV {o ix : Expr} {ps : Pos} {j : Int} {k : Nat} (W : Owns G.M K D vs I') (he : EX X G I Γ e (isV w) J) (ho : EX X G J Γ o (isV (.ref D)) J) (hx : EX X G J Γ ix (aInt j) K) (hj : j = (k : Int)) (hk : k < vs.length)
    (hr : SX X G (I' (vs.set k w)) Γ sts E)
    (hs : swapsWithSole [.Subscript o ix ps] e pos.line X.env = pure false := by rfl) (hw : swappedStores [.Subscript o ix ps] e X.env = pure none := by rfl)
    (h1 : (assignEach [.Subscript o ix ps] X.env).map (·.2) = [assign (.Subscript o ix ps) X.env] := by rfl)
    (ha : ∀ v, assign (.Subscript o ix ps) X.env v = (do
      let ov ← holding [v] (eval o X.env)
      let iv ← holding [v, ov] (eval ix X.env)
      standAt ps
      holding [v, ov, iv] (setItem ov iv v)
      release [v, ov, iv] []) := by intro _; rfl) :
    SX X G I Γ (.Assign [.Subscript o ix ps] e pos :: sts) E := fun σ H kk =>
  wB_cons (PS.w (ps_asg pe_wE (pg_sub pe_wE pe_wE set_list ha) hs hw h1) (he σ H _ kk fun H1 v t1 a1 => ho σ H1 _ (kk.to t1) fun H2 u t2 o2 => hx σ H2 _ ((kk.to t1).to t2) fun H3 z t3 ez => by
    cases a1; cases o2; cases ez
    subst hj
    have k3 := ((kk.to t1).to t2).to t3
    have eD := W.get H3 t3.inv
    refine ⟨D, vs, _, k, rfl, rfl, eD, ?_, ?_⟩
    · unfold ixN
      rw [if_pos (by omega), if_pos (by omega), Int.toNat_natCast]
    have fzD : fz G.U (upd H3 D (.lst (vs.set k w))) = fz G.U H3 := by
      funext a
      by_cases z : G.U a
      · rw [fz_pos z, fz_pos z]
      · rw [fz_neg z, fz_neg z, upd_ne fun w => z (by rw [w]; exact .inl W.mem)]
    refine hr _ _ ⟨fun a o m e => ?_, fun a u => ?_, W.put H3 _ _ t3.inv upd_same (fun a _ z => upd_ne z), by rw [fzD]; exact k3.sat, k3.len⟩
    · by_cases z : a = D
      · subst z
        rcases G.fr a W.mem with q | q
        · exact absurd q m
        · rw [q] at e; cases e
      · rw [upd_ne z]; exact k3.frame a o m e
    · by_cases z : a = D
      · rw [z, upd_same]; exact fun w => nomatch w
      · rw [upd_ne z]; exact k3.live a u))
/-- x.pop(0) -/
theorem ex_pop0 {o : Expr} {apos cpos : Pos} (W : Owns G.M K D (w :: vs) I') (ho : EX X G I Γ o (isV (.ref D)) J) (he : EX X G J Γ e (aInt 0) K) (hWJ : ∃ I'', Owns G.M J D (w :: vs) I'') 
    (hbase : attributeBase o "pop" X.env (eval o X.env) = eval o X.env := by rfl)
    (hfew : ((backTo cpos (starEach [e] X.env)).all (fun x => !x.1) && (backToKw cpos (keywordEach [] X.env)).all (fun x => x.1.isSome)
      && decide ([e].length + ([] : List Keyword).length + (if ([] : List Keyword).isEmpty then 0 else 1) < 30)) = true := by rfl)
    (hline : (apos.endLine == cpos.line) = true := by rfl) (hs' : starEach [e] X.env = (false, eval e X.env) :: starEach [] X.env := by rfl) (hplain : (backTo cpos (starEach [] X.env)).any (·.1) = false := by rfl) :
    EX X G I Γ (.Call (.Attribute o "pop" apos) [e] [] cpos) (isV w) (I' vs) := fun σ H Q k q =>
  PE.w (pe_bm PySem.F.plainAttrs_list PySem.F.slot_list_pop PySem.F.type_list_pop mt_popAt pe_wE (pa_cons pe_wE pa_nil hs') hbase hfew hline hs' hplain) (ho σ H _ k fun H1 u t1 o1 => by
    cases o1
    obtain ⟨I'', WJ⟩ := hWJ
    refine ⟨.inl ⟨rfl, _, .inl (.inl (WJ.get H1 t1.inv))⟩, he σ H1 _ (k.to t1) fun H2 v t2 a2 => ?_⟩
    cases a2
    have k3 := (k.to t1).to t2
    have eD := W.get H2 t2.inv
    refine ⟨D, _, 0, 0, w, rfl, rfl, eD, by decide, by decide, (ixN_seq (j := 0) (by unfold ixN; rw [if_pos (by decide), if_pos (by rw [List.length_cons]; omega)]; rfl)).1, by rfl, ?_⟩
    refine q _ w ((t1.trans t2).trans ⟨fun a o n e => ?_, fun a u => ?_, W.put H2 _ _ t2.inv upd_same (fun a _ z => upd_ne z)⟩) rfl
    · rw [upd_ne fun z => n (by rw [z]; exact W.mem)]; exact e
    · by_cases z : a = D
      · rw [z, upd_same]; exact fun w => nomatch w
      · rw [upd_ne z]; exact k3.live a u)
/-- x != [], x one's own list of ints -/
theorem tx_neNil {o : Expr} {gs : List Int} {r : Nat} {p2 : Pos} (hr : Room r X.A) (W : Owns G.M J D (gs.map V.int) I') (ho : EX X G I Γ o (isV (.ref D)) J) : TX X G I Γ (.Compare o [.NotEq] [.List [] p2] pos) (· = !gs.isEmpty) J := fun σ H Q k q =>
  PT.w (pt_cmpR (op_neD hr.units) pe_wE pe_wE (nomark _)) (ho σ H _ k fun H1 x t1 e1 => ex_lst (As := []) ax_nil (by decide) σ H1 _ (k.to t1) fun H2 y t2 a2 => by
    cases e1
    obtain ⟨p, us, rfl, h, r2⟩ := a2
    cases r2
    have dp : ∀ l : List Int, DpAll X.K H2 (l.map V.int) (l.map PyData.int) := fun l => by
      induction l with
      | nil => exact .nil
      | cons i l ih => exact .cons (.int i) ih
    have ly : ∀ l : List Int, PyData.canLayAll0 (l.map PyData.int) = true := fun l => by
      induction l with
      | nil => rfl
      | cons i l ih => show (PyData.canLay0 (.int i) && _) = true; rw [ih]; rfl
    have dd : ∀ l : List Int, PyData.depthAll (l.map PyData.int) ≤ 1 := fun l => by
      induction l with
      | nil => decide
      | cons i l ih => rw [List.map_cons, PyData.depthAll]; exact Nat.max_le.mpr ⟨by unfold PyData.depth; omega, ih⟩
    refine ⟨.list (gs.map PyData.int), .list [], .lst (.inl (.inl (W.get H2 t2.inv))) (dp gs), .lst (SqL.mono fz_sub h) .nil, ?_, by decide, _, rfl, q H2 _ (t1.trans t2) ?_⟩
    · unfold SeqAt.shaped
      rw [Bool.and_eq_true]
      refine ⟨?_, decide_eq_true ?_⟩
      · rw [PyData.canLay0]; exact ly gs
      · rw [PyData.depth]; have := dd gs; omega
    · cases gs <;> rfl)
theorem ex_powC {i j : Int} {k : Nat} (ha : EX X G I Γ a (aInt i) J) (hb : EX X G J Γ b (aInt j) K) (hj : j = (k : Int)) (hc : ∃ n, 0 < n ∧ Bits n i ∧ n * k ≤ 134217728) : EX X G I Γ (.BinOp a .Pow b pos) (aInt (i ^ k)) K := by
  subst hj
  exact ex_pow ha hb hc
end
/-! ### the pool, written out -/
abbrev ivX (U : Addr → Prop) (ap ag : Addr) (H : Hp) (gs : List Int) (fig mark cnt : Int) : Iv (gD U ap ag H).M := ⟨fun H => H ap = some (.lst [.ref ag, .int fig, .int mark, .int cnt]) ∧ H ag = some (.lst (gs.map V.int)), fun H H' e h => ⟨by rw [e _ (.inl rfl)]; exact h.1, by rw [e _ (.inr rfl)]; exact h.2⟩⟩
abbrev ivY (U : Addr → Prop) (ap ag : Addr) (H : Hp) (ws ys : List V) : Iv (gD U ap ag H).M := ⟨fun H => H ap = some (.lst ws) ∧ H ag = some (.lst ys), fun H H' e h => ⟨by rw [e _ (.inl rfl)]; exact h.1, by rw [e _ (.inr rfl)]; exact h.2⟩⟩
theorem owns_ap {U : Addr → Prop} {ap ag : Addr} {H : Hp} {ws ys : List V} (ne : ap ≠ ag) : Owns (gD U ap ag H).M (ivY U ap ag H ws ys) ap ws (fun us => ivY U ap ag H us ys) :=
  ⟨.inl rfl, fun _ h => h.1, fun H H' us h e k => ⟨e, by rw [k ag (.inr rfl) (fun z => ne z.symm)]; exact h.2⟩⟩
theorem owns_ag {U : Addr → Prop} {ap ag : Addr} {H : Hp} {ws ys : List V} (ne : ap ≠ ag) : Owns (gD U ap ag H).M (ivY U ap ag H ws ys) ag ys (fun us => ivY U ap ag H ws us) :=
  ⟨.inr rfl, fun _ h => h.2, fun H H' us h e k => ⟨by rw [k ap (.inl rfl) ne]; exact h.1, e⟩⟩
structure PoolW where
  gs : List Int
  fig : Int
  mark : Int
  cnt : Int
structure PoolW.Ok (p : PoolW) (n : Nat) : Prop where
  gs : ∀ g ∈ p.gs, 0 ≤ g
  fig : 0 ≤ p.fig
  m0 : 0 ≤ p.mark
  m1 : p.mark < 2 ^ 100
  c0 : 0 ≤ p.cnt
  c1 : p.cnt ≤ n
abbrev PoolW.ws (p : PoolW) (ag : Addr) : List V := [.ref ag, .int p.fig, .int p.mark, .int p.cnt]
theorem pool_open {U : Addr → Prop} {ap ag : Addr} {H H' : Hp} {n : Nat} (h : (ivD U ap ag H n).p H') : ∃ p : PoolW, (p.Ok n ∧ ap ≠ ag) ∧ (ivY U ap ag H (p.ws ag) (p.gs.map V.int)).p H' := by
  obtain ⟨ne, gs, fig, mark, cnt, a, b, c, d, e, f, g⟩ := h
  exact ⟨⟨gs, fig, mark, cnt⟩, ⟨⟨c, d, e.1, e.2, f, g⟩, ne⟩, a, b⟩
theorem pool_shut {U : Addr → Prop} {ap ag : Addr} {H : Hp} {n : Nat} (p : PoolW) (ok : p.Ok n) (ne : ap ≠ ag) : ∀ H', (ivY U ap ag H (p.ws ag) (p.gs.map V.int)).p H' → (ivD U ap ag H n).p H' := fun H' h =>
  ⟨ne, p.gs, p.fig, p.mark, p.cnt, h.1, h.2, ok.gs, ok.fig, ⟨ok.m0, ok.m1⟩, ok.c0, ok.c1⟩
end L2.PL
namespace L2.PL
open PySem PySem.Spec PyProof.Rows
section
variable {X : Cx} {G : Gx} {I J K : Iv G.M} {Γ : Slots} {e a b iter : Expr} {es : List Expr} {A B C : Asr} {As Bs : List Asr} {pos p : Pos} {sts body : List Stmt} {E : Ends} {D : Addr} {vs : List V} {I' : List V → Iv G.M} {w : V} {i j : Nat} {x y : Str}
theorem sx_appendV {o : Expr} {apos cpos : Pos} (W : Owns G.M K D vs I') (ho : EX X G I Γ o (isV (.ref D)) I) (he : EX X G I Γ e (isV w) K) (hz : vs.length < 100000) (hWI : ∃ vs' I'', Owns G.M I D vs' I'')
    (hr : SX X G (I' (vs ++ [w])) Γ sts E)
    (hbase : attributeBase o "append" X.env (eval o X.env) = eval o X.env := by rfl)
    (hfew : ((backTo cpos (starEach [e] X.env)).all (fun x => !x.1) && (backToKw cpos (keywordEach [] X.env)).all (fun x => x.1.isSome)
      && decide ([e].length + ([] : List Keyword).length + (if ([] : List Keyword).isEmpty then 0 else 1) < 30)) = true := by rfl)
    (hline : (apos.endLine == cpos.line) = true := by rfl) (hs' : starEach [e] X.env = (false, eval e X.env) :: starEach [] X.env := by rfl) (hplain : (backTo cpos (starEach [] X.env)).any (·.1) = false := by rfl)
    (hs : swapsWith (.Call (.Attribute o "append" apos) [e] [] cpos) none pos.line X.env = pure false := by rfl) :
    SX X G I Γ (.Expr (.Call (.Attribute o "append" apos) [e] [] cpos) pos :: sts) E := fun σ H k =>
  wB_cons (PS.w (ps_expr (pe_bm PySem.F.plainAttrs_list PySem.F.slot_list_append PySem.F.type_list_append mt_append pe_wE (pa_cons pe_wE pa_nil hs') hbase hfew hline hs' hplain) hs) (ho σ H _ k fun H1 u t1 o1 => by
    cases o1
    obtain ⟨vs', I'', WI⟩ := hWI
    refine ⟨.inl ⟨rfl, vs', .inl (.inl (WI.get H1 t1.inv))⟩, he σ H1 _ (k.to t1) fun H2 v t2 a2 => ?_⟩
    cases a2
    have k3 := (k.to t1).to t2
    have eD := W.get H2 t2.inv
    refine ⟨D, vs, w, rfl, rfl, eD, by rw [sizeLine_eq]; omega, ?_⟩
    have fzD : fz G.U (upd H2 D (.lst (vs ++ [w]))) = fz G.U H2 := by
      funext a
      by_cases z : G.U a
      · rw [fz_pos z, fz_pos z]
      · rw [fz_neg z, fz_neg z, upd_ne fun w => z (by rw [w]; exact .inl W.mem)]
    refine hr _ _ ⟨fun a o m e => ?_, fun a u => ?_, W.put H2 _ _ t2.inv upd_same (fun a _ z => upd_ne z), by rw [fzD]; exact k3.sat, k3.len⟩
    · by_cases z : a = D
      · subst z
        rcases G.fr a W.mem with q | q
        · exact absurd q m
        · rw [q] at e; cases e
      · rw [upd_ne z]; exact k3.frame a o m e
    · by_cases z : a = D
      · rw [z, upd_same]; exact fun w => nomatch w
      · rw [upd_ne z]; exact k3.live a u))
/-- x, y = e, a new list -/
theorem sx_parOwn {α : Type} {P : α → Prop} {A' : α → Asr} {px py pt : Pos} {kt k2 pt2} (hc : X.calm = true) (nd : X.N.Nodup) (hi : X.N[i]? = some x) (hj : X.N[j]? = some y) (hij : i ≠ j)
    (hx : X.env.scope.names.lookup x = some .local) (hy : X.env.scope.names.lookup y = some .local) (hl : i < Γ.length) (hl2 : j < Γ.length) (ha : EX X G I Γ a (exA P A') J) (hb : NX X G J Γ b Bs K)
    (hr : ∀ u (D : Addr) (vs : List V) (h : G.H0 D = none), P u → ¬ G.U D → vs.length = Bs.length → SX X (G.own D h) (K.own D vs) ((Γ.set i (some (A' u))).set j (some (isOwn D vs Bs))) sts E)
    (hw : swappedStores [.Tuple [.Name x px, .Name y py] kt pt] (.Tuple [a, b] k2 pt2) X.env = pure (some [x, y]))
    (hs1 : starEach [a, b] X.env = (false, eval a X.env) :: starEach [b] X.env := by rfl) (hs2 : starEach [b] X.env = (false, eval b X.env) :: starEach [] X.env := by rfl)
    (hs : swapsWithSole [.Tuple [.Name x px, .Name y py] kt pt] (.Tuple [a, b] k2 pt2) pos.line X.env = pure false := by rfl) :
    SX X G I Γ (.Assign [.Tuple [.Name x px, .Name y py] kt pt] (.Tuple [a, b] k2 pt2) pos :: sts) E := fun σ H k =>
  wB_cons (PS.w (ps_par hc nd hi hj hij hx hy (pa_cons pe_wE (pa_cons pe_wE pa_nil hs2) hs1) hw hs) (ha σ H _ k fun H1 v t1 ⟨u, pu, a1⟩ => hb σ H1 _ (k.to t1) fun H2 D vs t2 n e a2 => by
    have k1 := (k.to t1).setv (A := A' u) hl a1
    obtain ⟨h0, hM, k2⟩ := k1.own (i := j) t2 n e a2 (by rw [List.length_set]; exact hl2)
    exact ⟨v, .ref D, rfl, hr u D vs h0 pu hM a2.len _ _ k2⟩))
/-- for x, y in .. -/
theorem sx_forTX {ι α : Type} {l : List α} {f1 f2 : α → Asr} {px py pt pp : Pos} {kt : Nat} (i j : Nat) (Iz : Nat → ι → Iv G.M) (Γs : Nat → ι → Slots) (Pk : Nat → ι → Prop) (x0 : ι) (hp : PassesOwn (model X.prog X.w) X.A X.env X.xe) (hc : X.calm = true) (hg : PG X (.Tuple [.Name x px, .Name y py] kt pt) (gTup X.K 2 (gCons (gName i) (gCons (gName j) gNil))))
    (hi : IX X G I Γ (.Tuple [.Name x px, .Name y py] kt pt) iter (l.map fun a => isTup X.K [f1 a, f2 a]) (Iz 0 x0)) (p0 : Pk 0 x0) (h0 : Low (Γs 0 x0) Γ) (hl : ∀ k y, i < (Γs k y).length) (hl2 : ∀ k y, j < (Γs k y).length)
    (hs : ∀ H1 Γ1 σ1 k y a, l[k]? = some a → a ∈ l → k < l.length → Pk k y → G.Ok (Iz 0 x0) Γ1 σ1 H1 → SX X (G.re H1) (Iz k y) (((Γs k y).set i (some (f1 a))).set j (some (f2 a))) body { E with nx := fun σ H => ∃ z, Pk (k + 1) z ∧ (G.re H1).Ok (Iz (k + 1) z) (Γs (k + 1) z) σ H, ct := fun σ H => ∃ z, Pk (k + 1) z ∧ (G.re H1).Ok (Iz (k + 1) z) (Γs (k + 1) z) σ H, bk := wB X sts E })
    (hd : ∀ y, Pk l.length y → SX X G (Iz l.length y) (Γs l.length y) sts E) (hf : ∀ x, foldedSetIterable iter X.env x = pure x := by intro _; rfl) : SX X G I Γ (.For (.Tuple [.Name x px, .Name y py] kt pt) iter body [] pp :: sts) E := by
  refine sx_forX (vs := [i, j]) Iz Γs (fun k y _ => match l[k]? with | some a => ((Γs k y).set i (some (f1 a))).set j (some (f2 a)) | none => Γs k y) Pk x0 hp hc hi hg p0 h0 (fun k y A e => ?_) (fun H1 Γ1 σ1 k y A e py k1 => ?_) (fun y py => by rw [List.length_map] at py ⊢; exact hd y py) hf
  · obtain ⟨a, e1, m, rfl⟩ := map_get e
    simp only [e1]
    exact gs_tup2 (hl k y) (hl2 k y)
  · obtain ⟨a, e1, m, rfl⟩ := map_get e
    simp only [e1]
    refine hs H1 Γ1 σ1 k y a e1 m ?_ py k1
    rcases Nat.lt_or_ge k l.length with z | z
    · exact z
    · rw [List.getElem?_eq_none z] at e1; cases e1
/-- a new list is handed back, whole -/
theorem sx_retN (he : NX X G I Γ e As J) (hr : ∀ (Γ : Slots) (σ : St) (H H' : Hp) (D : Addr) (vs : List V), G.Ok I Γ σ H → G.To J H H' → H D = none → H' D = some (.lst vs) → AllA As (fz (G.lk D).U H') vs → E.rt (.ref D) H') : SX X G I Γ (.Return (some e) pos :: sts) E := fun σ H k =>
  wB_cons (PS.w (ps_ret pe_wE) (he σ H _ k fun H' D vs t n e a => hr Γ σ H H' D vs k t n e a))
end
/-- the promise of the def that makes the pool -/
def spPool (K : PySem.W.Frag) : Sp := fun vs H Q _ => ∃ (a : Addr) (ns : List Int), vs = [.ref a] ∧ SqL K H a (ns.map V.int) ∧ ns.length ≤ 63 ∧ ∀ H' ap ag, Sm H H' → H ap = none → H ag = none → PoolAt ap ag 0 H' → Q (.ref ap) H'
end L2.PL
namespace L2.PL
open PySem PySem.Spec PyProof.Rows
/-- .. of which is known only what holds of it -/
def IXE {β : Type} (X : Cx) (G : Gx) (I : Iv G.M) (Γ : Slots) (tg iter : Expr) (P : β → Prop) (As : β → List Asr) (J : Iv G.M) : Prop := ∃ wi, PI X tg iter wi ∧ ∀ (σ : St) (H : Hp) (R : It → Hp → Prop), G.Ok I Γ σ H → (∀ b, P b → ∀ T H1, G.To J H H1 → Walks G.U T (As b) H1 → R T H1) → wi σ H R
section
variable {X : Cx} {G : Gx} {I J K : Iv G.M} {Γ : Slots} {tg iter e : Expr} {A : Asr} {pos px p : Pos} {sts body : List Stmt} {D : Ends} {x : Str} {ι α β : Type} {l : β → List α} {fA : β → α → Asr} {PB : β → Prop} {As : β → List Asr}
theorem IX.toE {As : List Asr} (h : IX X G I Γ tg iter As J) : IXE X G I Γ tg iter (fun _ : Unit => True) (fun _ => As) J := by
  obtain ⟨wi, h1, h2⟩ := h
  exact ⟨wi, h1, fun σ H R k q => h2 σ H R k fun T H1 t w => q () True.intro T H1 t w⟩
theorem sx_forXE {g : TG} {vs : List Nat} (Iz : β → Nat → ι → Iv G.M) (Γs : β → Nat → ι → Slots) (Γk : β → Nat → ι → Asr → Slots) (Pk : β → Nat → ι → Prop) (x0 : β → ι) (hp : PassesOwn (model X.prog X.w) X.A X.env X.xe) (hc : X.calm = true) (hi : IXE X G I Γ tg iter PB As J) (hg : PG X tg g) (p0 : ∀ b, PB b → Pk b 0 (x0 b)) (hJ : ∀ b, PB b → ∀ H, J.p H → (Iz b 0 (x0 b)).p H) (h0 : ∀ b, PB b → Low (Γs b 0 (x0 b)) Γ)
    (hsem : ∀ b k y A, PB b → (As b)[k]? = some A → GSem G.U g A (Γs b k y) (Γk b k y A) vs)
    (hs : ∀ b H1 Γ1 σ1 k y A, PB b → (As b)[k]? = some A → Pk b k y → G.Ok (Iz b 0 (x0 b)) Γ1 σ1 H1 → SX X (G.re H1) (Iz b k y) (Γk b k y A) body { D with nx := fun σ H => ∃ z, Pk b (k + 1) z ∧ (G.re H1).Ok (Iz b (k + 1) z) (Γs b (k + 1) z) σ H, ct := fun σ H => ∃ z, Pk b (k + 1) z ∧ (G.re H1).Ok (Iz b (k + 1) z) (Γs b (k + 1) z) σ H, bk := wB X sts D })
    (hd : ∀ b y, PB b → Pk b (As b).length y → SX X G (Iz b (As b).length y) (Γs b (As b).length y) sts D) (hf : ∀ x, foldedSetIterable iter X.env x = pure x := by intro _; rfl) : SX X G I Γ (.For tg iter body [] pos :: sts) D := fun σ H k => by
  obtain ⟨wi, hi1, hi2⟩ := hi
  refine wB_cons (PS.w (ps_for hp hc hi1 hg pss_wB hf) (hi2 σ H _ k fun b pb T H1 t1 wk => ?_))
  have k1 := ((k.to t1).post (hJ b pb)).low (h0 b pb)
  refine ⟨fun i m σ2 H2 => m = (As b).length - i ∧ i ≤ (As b).length ∧ ∃ y, Pk b i y ∧ (G.re H1).Ok (Iz b i y) (Γs b i y) σ2 H2, ⟨(As b).length, by omega, Nat.zero_le _, x0 b, p0 b pb, k1.at⟩, ?_⟩
  rintro i m σ2 H2 ⟨rfl, hle, y, py, k2⟩
  have s2 : Sm (fz G.U H1) (fz G.U H2) := fun a o e => by
    obtain ⟨n, e⟩ := fz_some e
    rw [fz_neg n]; exact k2.frame a o (fun z => n (.inl z)) e
  by_cases hlt : i < (As b).length
  · have eA := List.getElem?_eq_getElem hlt
    refine .inr ⟨wk.go _ H2 s2 i hlt, fun σ H => ∃ z, Pk b (i + 1) z ∧ (G.re H1).Ok (Iz b (i + 1) z) (Γs b (i + 1) z) σ H, fun σ' H' p' => ⟨(As b).length - (i + 1), by omega, rfl, hlt, p'⟩, fun x H3 y' => ?_⟩
    obtain ⟨s3, ax⟩ := wk.yld _ H2 s2 k2.live i x H3 _ eA y'
    have t3 : (G.re H1).To (Iz b i y) H2 H3 := To.sm (G := G.re H1) k2.live k2.inv s3
    have k3 := k2.to t3
    refine hsem b i y _ pb eA x σ2 H3 _ k3.sat k3.len ax fun σ' st ln _ => ?_
    exact hs b H1 _ _ i y _ pb eA py k1 σ' H3 ⟨k3.frame, k3.live, k3.inv, st, ln⟩
  · have e : i = (As b).length := by omega
    subst e
    exact .inl ⟨wk.stop _ H2 s2 _ (Nat.le_refl _), hd b y pb py σ2 H2 (k1.back k2)⟩
theorem sx_forNXE (j : Nat) (Iz : β → Nat → ι → Iv G.M) (Γs : β → Nat → ι → Slots) (Pk : β → Nat → ι → Prop) (x0 : β → ι) (hp : PassesOwn (model X.prog X.w) X.A X.env X.xe) (hc : X.calm = true) (nd : X.N.Nodup) (hj : X.N[j]? = some x) (hx : Loc X.env.scope x) (hf' : X.fn x = true ∨ X.env.scope.names.lookup x = some .local)
    (hi : IXE X G I Γ (.Name x px) iter PB (fun b => (l b).map (fA b)) J) (p0 : ∀ b, PB b → Pk b 0 (x0 b)) (hJ : ∀ b, PB b → ∀ H, J.p H → (Iz b 0 (x0 b)).p H) (h0 : ∀ b, PB b → Low (Γs b 0 (x0 b)) Γ) (hl : ∀ b k y, j < (Γs b k y).length)
    (hs : ∀ b H1 Γ1 σ1 k y a, PB b → (l b)[k]? = some a → a ∈ l b → k < (l b).length → Pk b k y → G.Ok (Iz b 0 (x0 b)) Γ1 σ1 H1 → SX X (G.re H1) (Iz b k y) ((Γs b k y).set j (some (fA b a))) body { D with nx := fun σ H => ∃ z, Pk b (k + 1) z ∧ (G.re H1).Ok (Iz b (k + 1) z) (Γs b (k + 1) z) σ H, ct := fun σ H => ∃ z, Pk b (k + 1) z ∧ (G.re H1).Ok (Iz b (k + 1) z) (Γs b (k + 1) z) σ H, bk := wB X sts D })
    (hd : ∀ b y, PB b → Pk b (l b).length y → SX X G (Iz b (l b).length y) (Γs b (l b).length y) sts D) (hf : ∀ x, foldedSetIterable iter X.env x = pure x := by intro _; rfl) : SX X G I Γ (.For (.Name x px) iter body [] pos :: sts) D := by
  refine sx_forXE (vs := [j]) Iz Γs (fun b k y A => (Γs b k y).set j (some A)) Pk x0 hp hc hi (pg_name nd hj hx hf') p0 hJ h0 (fun b k y A pb _ => gs_name (hl b k y)) (fun b H1 Γ1 σ1 k y A pb e py k1 => ?_) (fun b y pb py => by rw [List.length_map] at py ⊢; exact hd b y pb py) hf
  obtain ⟨a, e1, m, rfl⟩ := map_get e
  refine hs b H1 Γ1 σ1 k y a pb e1 m ?_ py k1
  rcases Nat.lt_or_ge k (l b).length with z | z
  · exact z
  · rw [List.getElem?_eq_none z] at e1; cases e1
/-- range of what is drawn -/
theorem ix_rangeE {P : Int → Prop} (hg : Gl X "range") (hm : X.mg "range" = none) (he : EX X G I Γ e (exA P aInt) J) (hn : ∀ i, P i → 0 ≤ i ∧ i ≤ 100000) (hs : starEach [e] X.env = [(false, eval e X.env)] := by rfl) : IXE X G I Γ tg (.Call (.Name "range" p) [e] [] pos) (fun n : Nat => P (n : Int)) (fun n => (List.range n).map fun i => aInt ((i : Nat) : Int)) J :=
  ⟨_, pi_range1 hg hm pa_wA hs, fun σ H R k q => ax_cons he ax_nil hs σ H _ k fun H1 vs t1 r => by
    obtain ⟨v, r', rfl, ⟨i, pi, e⟩, rfl⟩ := r
    cases e
    obtain ⟨h1, h2⟩ := hn i pi
    have ei : i = (i.toNat : Int) := by omega
    refine ⟨i, rfl, by omega, by omega, q i.toNat (ei ▸ pi) _ _ t1 ?_⟩
    have hl : ((List.range i.toNat).map fun i => aInt ((i : Nat) : Int)).length = i.toNat := by rw [List.length_map, List.length_range]
    refine ⟨fun U' H2 s j hj => by rw [hl] at hj; exact hj, fun U' H2 s j hj => by rw [hl] at hj; exact hj, fun U' H2 s l j x H3 A e y => ?_⟩
    obtain ⟨rfl, rfl⟩ := y
    refine ⟨Sm.rfl', ?_⟩
    obtain ⟨a, e1, m, rfl⟩ := map_get e
    have ha := List.mem_range.mp m
    have hj : j < i.toNat := by
      rcases Nat.lt_or_ge j i.toNat with z | z
      · exact z
      · rw [List.getElem?_eq_none (by rw [List.length_range]; exact z)] at e1; cases e1
    rw [List.getElem?_range hj] at e1
    cases e1
    show V.int _ = V.int _
    congr 1; omega⟩
end
theorem has_fd {Pr : Program} {w : World} {K : PySem.W.Frag} {mg : Str → Option Value} {base : Heap} {x : Str} {ps : List Str} {sp : Sp} {k : Nat} {st : Stmt} (C : Has Pr w K mg base x ps sp k) (D : DefAt K mg x st) : ∃ f fd, Fun K x x st f fd ∧ FnOk Pr w K mg base CX0 k f fd ps sp ∧ mg x = some (.ref f) ∧ PySem.W.keepIn K (.ref f) = true := by
  obtain ⟨f, fd, ⟨st', F'⟩, F, hm, hk, hb⟩ := C.ex
  obtain ⟨f2, fd2, F2, hm2⟩ := D.ex
  rw [hm] at hm2
  cases hm2
  obtain ⟨oc, od, kV, doc, pm, an, cdv, ct, osl, e, lk, hcd⟩ := F'.ex
  obtain ⟨oc2, od2, kV2, doc2, pm2, an2, cdv2, ct2, osl2, e2, lk2, hcd2⟩ := F2.ex
  rw [lk] at lk2
  have : fd = fd2 := by injection lk2 with z; injection z with z1 z2 z3 z4; injection z3
  subst this
  exact ⟨f, fd, F2, F, hm, hk⟩
section
variable {X : Cx} {G : Gx} {I J : Iv G.M} {Γ : Slots} {pos p : Pos} {x : Str} {kws : List Keyword} {As : List Asr} {ι : Type} {dom : ι → List Asr} {ok : ι → Prop} {cod : ι → Asr} {ps ks : List Str} {k : Nat} {st : Stmt}
/-- a call by keywords -/
theorem ex_callKH {Pr : Program} {w : World} {K0 : PySem.W.Frag} {mg : Str → Option Value} {base : Heap} {g : List Value → List Value} {gV : List V → List V} {gA : List Asr → List Asr} (C : Has Pr w K0 mg base x ps (spF dom ok cod) k) (D : DefAt K0 mg x st) (hr : Room k X.A) 
    (hrel : ∀ {zs : List V} {ws : List Value}, Vals zs ws → Vals (gV zs) (g ws))
    (hb : ∀ (kV doc pm : Value) (an : Option Addr) (cdv ct : Value) (ws : List Value), ws.length = ks.length → bindArgs (PySem.W.fnOf x x (defArgs st) (defBody st) (defScope st) .none kV doc pm an cdv ct) ⟨[], ks.zip ws⟩ = pure (ps.zip (g ws)))
    (i : ι) (ha : KX X G I Γ kws As J) (hA : gA As = dom i) (hl : As.length = ks.length) (hgA : ∀ F vs, AllA As F vs → AllA (gA As) F (gV vs)) (hok : ok i) {A : Asr} (hC : cod i = A := by exact rfl) (hg : Gl X x := by rfl) (e1 : X.prog = Pr := by rfl) (e2 : X.w = w := by rfl) (e3 : X.K = K0 := by rfl) (e4 : X.mg = mg := by rfl) (e5 : X.base = base := by rfl)
    (hall : (backToKw pos (keywordEach kws X.env)).all (·.1.isSome) = true := by rfl) (hks : (backToKw pos (keywordEach kws X.env)).filterMap (·.1) = ks := by rfl)
    (hdb : (x == ("__debug__" : Str)) = false := by decide)
    (hpl : ((backTo pos (starEach [] X.env)).any (·.1) || (backToKw pos (keywordEach kws X.env)).any (·.1.isNone)) = false := by rfl) :
    EX X G I Γ (.Call (.Name x p) [] kws pos) A J := by
  subst hC e1 e2 e3 e4 e5
  obtain ⟨f, fd, F, FO, hm, hk⟩ := has_fd C D
  exact ex_callK (E := fun _ _ _ => False) (gA := gA) FO hr hg hm hk (kbn_of (ps := ps) (ks := ks) F hrel hb) pass0 i ha hA hl hgA hok hall hks hdb hpl
end
theorem ivD_more {U : Addr → Prop} {ap ag : Addr} {H : Hp} {n m : Nat} (h : n ≤ m) : ∀ H', (ivD U ap ag H n).p H' → (ivD U ap ag H m).p H' := fun H' p => PoolAt.more p h
theorem RB_int {k : Int} {n : Nat} (h : k.natAbs < 2 ^ n) (h1 : 1 ≤ n) : RB n (k : Rat) := ⟨h, by show 1 < 2 ^ n; exact Nat.lt_of_lt_of_le (by decide : 1 < 2 ^ 1) (Nat.pow_le_pow_right (by decide) h1)⟩
theorem pick_bits {m : Int} (h : m < 2 ^ 64) (h1 : 1 ≤ m) : Bits 9000 m := by
  have h2 : m.natAbs < 2 ^ 64 := by omega
  exact Nat.lt_of_lt_of_le h2 (Nat.pow_le_pow_right (by decide) (by decide))
theorem fmod_in {a m : Int} (h : 1 ≤ m) : 0 ≤ a.fmod m ∧ a.fmod m < m := ⟨Int.fmod_nonneg_of_pos a (by omega), Int.fmod_lt_of_pos a (by omega)⟩
theorem fdiv_nn {a m : Int} (h : 1 ≤ m) (ha : 0 ≤ a) : 0 ≤ a.fdiv m := Int.fdiv_nonneg ha (by omega)
theorem bits_of {n : Nat} {i : Int} (h1 : -(2 : Int) ^ n < i) (h2 : i < (2 : Int) ^ n) : Bits n i := by
  have e : ((2 ^ n : Nat) : Int) = (2 : Int) ^ n := by rw [Int.natCast_pow]; rfl
  show i.natAbs < 2 ^ n
  omega
/-- what stands in a slot, opened -/
theorem sx_opn {X : Cx} {G : Gx} {I : Iv G.M} {Γ : Slots} {sts : List Stmt} {E : Ends} {α : Type} {P : α → Prop} {fA : α → Asr} {A : Asr} (i : Nat) (hg : Γ[i]? = some (some A)) (h : ∀ F v, A.p F v → (exA P fA).p F v) (hr : ∀ x, P x → SX X G I (Γ.set i (some (fA x))) sts E) : SX X G I Γ sts E := fun σ H k => by
  obtain ⟨v, e1, a⟩ := k.sat i A hg
  obtain ⟨x, px, hx⟩ := h _ _ a
  refine hr x px σ H ⟨k.frame, k.live, k.inv, fun j B ej => ?_, by rw [List.length_set]; exact k.len⟩
  have hl : i < Γ.length := by
    rcases Nat.lt_or_ge i Γ.length with z | z
    · exact z
    · rw [List.getElem?_eq_none z] at hg; cases hg
  by_cases q : i = j
  · subst q
    rw [List.getElem?_set_self hl] at ej
    cases ej
    exact ⟨v, e1, hx⟩
  · rw [List.getElem?_set_ne q] at ej
    exact k.sat j B ej
theorem bmul {m n : Nat} {i j : Int} (hi : i.natAbs < 2 ^ m) (hj : j.natAbs < 2 ^ n) (h : m + n ≤ 134217728) : ∃ m n, Bits m i ∧ Bits n j ∧ m + n ≤ 134217728 := ⟨m, n, hi, hj, h⟩
theorem nt {k : Bool} (h : (!k) = true) : k = false := by cases k with
  | true => cases h
  | false => rfl
theorem rep_set {α : Type} {n k : Nat} {a : α} : (List.replicate n a).set k a = List.replicate n a := by
  apply List.ext_getElem?
  intro i
  by_cases e : k = i
  · subst e
    by_cases h : k < n
    · rw [List.getElem?_set_self (by rw [List.length_replicate]; exact h), List.getElem?_replicate, if_pos h]
    · rw [List.getElem?_eq_none (by rw [List.length_set, List.length_replicate]; omega), List.getElem?_eq_none (by rw [List.length_replicate]; omega)]
  · rw [List.getElem?_set_ne e]
theorem EX.dim {X : Cx} {G : Gx} {I J : Iv G.M} {Γ : Slots} {e : Expr} {A B : Asr} (h : EX X G I Γ e A J) (f : ∀ F v, A.p F v → B.p F v) : EX X G I Γ e B J := h.imp f
section
variable {X : Cx} {G : Gx} {I J K : Iv G.M} {Γ : Slots} {e a b : Expr} {rest : List Expr} {A : Asr} {As : List Asr} {pos : Pos} {sts : List Stmt} {D : Ends} {i : Nat} {x : Str}
theorem sx_tup2E {α : Type} {P : α → Prop} {A B : α → Asr} {j : Nat} {y : Str} {px py pt : Pos} {kt} (hc : X.calm = true) (nd : X.N.Nodup) (hi : X.N[i]? = some x) (hj : X.N[j]? = some y) (hx : Loc X.env.scope x) (hy : Loc X.env.scope y) (hl : i < Γ.length) (hl2 : j < Γ.length)
    (hg : PG X (.Tuple [.Name x px, .Name y py] kt pt) (gTup X.K 2 (gCons (gName i) (gCons (gName j) gNil)))) (he : EX X G I Γ e (exA P fun q => isTup X.K [A q, B q]) J) (hr : ∀ q, P q → SX X G J ((Γ.set i (some (A q))).set j (some (B q))) sts D)
    (hs : swapsWithSole [.Tuple [.Name x px, .Name y py] kt pt] e pos.line X.env = pure false := by rfl) (hw : swappedStores [.Tuple [.Name x px, .Name y py] kt pt] e X.env = pure none := by rfl)
    (h1 : (assignEach [.Tuple [.Name x px, .Name y py] kt pt] X.env).map (·.2) = [assign (.Tuple [.Name x px, .Name y py] kt pt) X.env] := by rfl) :
    SX X G I Γ (.Assign [.Tuple [.Name x px, .Name y py] kt pt] e pos :: sts) D := fun σ H k =>
  wB_cons (PS.w (ps_asg pe_wE hg hs hw h1) (he σ H _ k fun H1 v t1 ⟨q0, pq, p, ws, e1, hq, v1, r1, e2, a1, v2, r2, e3, b1, e4⟩ => by
    subst e4; subst e3; subst e2; subst e1
    exact ⟨p, _, rfl, SqT.mono fz_sub hq, rfl, v1, _, rfl, v2, _, rfl, rfl, hr q0 pq _ _ (((k.to t1).setv hl a1).setv (by rw [List.length_set]; exact hl2) b1)⟩))
theorem ex_andE {p : Bool} (ha : EX X G I Γ a (isBl p) J) (hb : p = true → EX X G J Γ (.BoolOp .And (b :: rest) pos) (exA (fun _ : Bool => True) isBl) K) (jk : ∀ H, J.p H → K.p H) : EX X G I Γ (.BoolOp .And (a :: b :: rest) pos) (exA (fun _ : Bool => True) isBl) K := fun σ H Q k w =>
  PE.w (pe_and pe_wE pe_wE) (ha σ H _ k fun H1 v t1 e => ⟨p, e, by
    cases p with
    | true => rw [if_pos rfl]; exact hb rfl σ H1 Q (k.to t1) fun H2 c2 t2 e2 => w H2 c2 (t1.trans t2) e2
    | false => rw [if_neg Bool.false_ne_true]; exact w H1 _ (t1.post jk) ⟨false, True.intro, rfl⟩⟩)
/-- x[k] of a draw, x one's own -/
theorem ex_ixOD {D : Addr} {vs : List V} {I' : List V → Iv G.M} {P : Int → Prop} {C : Asr} (W : Owns G.M K D vs I') (hs : PlainIx b) (ha : EX X G I Γ a (isOwn D vs As) J) (hb : EX X G J Γ b (exA P aInt) K) (hP : ∀ i, P i → 0 ≤ i ∧ i < (As.length : Int)) (hA : ∀ (k : Nat) A F v, As[k]? = some A → A.p F v → C.p F v) : EX X G I Γ (.Subscript a b pos) C K := fun σ H Q kk q =>
  PE.w (pe_ix ix_list pe_wE pe_wE hs) (ha σ H _ kk fun H1 x t1 a1 => hb σ H1 _ (kk.to t1) fun H2 y t2 ⟨j, pj, b2⟩ => by
    obtain ⟨rfl, r⟩ := (isOwn D vs As).mono t2.fz a1
    cases b2
    obtain ⟨p1, p2⟩ := hP j pj
    have ej : j = (j.toNat : Int) := by omega
    have hlt : j.toNat < As.length := by omega
    obtain ⟨v, e, w⟩ := r.get (List.getElem?_eq_getElem hlt)
    exact ⟨D, vs, _, v, rfl, rfl, .inl (.inl (W.get H2 t2.inv)), by rw [ej]; exact atI_nat e, q H2 v (t1.trans t2) (hA j.toNat _ _ _ (List.getElem?_eq_getElem hlt) w)⟩)
end
/-- rows of one size, drawn -/
theorem rows_ex {α : Type} {n : Nat} {P : α → Prop} {f : α → Asr} (F : Hp) (v : V) (h : (isNew (List.replicate n (exA P f))).p F v) : (exA (fun xs : List α => xs.length = n ∧ ∀ x ∈ xs, P x) fun xs => isNew (xs.map f)).p F v := isNew_ex F v h
theorem sum_RB {b : Nat} : ∀ l : List Rat, (∀ x ∈ l, RB b x) → RB (1 + (b + 1) * l.length) l.sum
  | [], _ => RB.zero
  | x :: l, h => by
    have ih := sum_RB l fun y hy => h y (List.mem_cons_of_mem _ hy)
    have hx := h x List.mem_cons_self
    rw [List.sum_cons, List.length_cons]
    refine (hx.add ih).mono ?_
    rw [Nat.mul_add]; omega
end L2.PL
namespace L2.PL
open PySem PySem.Spec PyProof.Rows
/-- the law's own place: the pool and nothing else may be changed -/
abbrev gL (H0 : Hp) (ap ag : Addr) (h1 : H0 ap = none) (h2 : H0 ag = none) : Gx := ⟨fun a => a = ap ∨ a = ag, fun _ => False, fun _ => False, H0, fun _ h => h.elim, fun a h => .inr (h.elim (fun e => by rw [e]; exact h1) fun e => by rw [e]; exact h2)⟩
abbrev ivL (H0 : Hp) (ap ag : Addr) (h1 : H0 ap = none) (h2 : H0 ag = none) (n : Nat) : Iv (gL H0 ap ag h1 h2).M := ivP _ ap ag (.inl rfl) (.inr rfl) n
theorem drw_gL {H0 : Hp} {ap ag : Addr} {h1 : H0 ap = none} {h2 : H0 ag = none} : Drw (gL H0 ap ag h1 h2).M ap ag (ivL H0 ap ag h1 h2) := drw_pool _ _
theorem ivL_more {H0 : Hp} {ap ag : Addr} {h1 : H0 ap = none} {h2 : H0 ag = none} {n m : Nat} (h : n ≤ m) : ∀ H', (ivL H0 ap ag h1 h2 n).p H' → (ivL H0 ap ag h1 h2 m).p H' := fun H' p => PoolAt.more p h
def spLaw (K : PySem.W.Frag) : Sp := fun vs H Q _ => ∃ (a : Addr) (ns : List Int), vs = [.ref a] ∧ SqL K H a (ns.map V.int) ∧ ns.length ≤ 63 ∧ ∀ H', Q (.bl true) H'
section
variable {X : Cx} {Γ : Slots} {e : Expr} {pos pos' p py : Pos} {sts : List Stmt} {E : Ends} {i : Nat} {x y : Str} {k : Nat}
theorem sx_pool {Pr : Program} {w : World} {K0 : PySem.W.Frag} {mg : Str → Option Value} {base : Heap} {H0 : Hp} {ns : List Int} {ps : List Str} (C : Has Pr w K0 mg base x ps (spPool K0) k) (hr : Room k X.A) (nd : X.N.Nodup) (hi : X.N[i]? = some y) (hy : Loc X.env.scope y) (hl : i < Γ.length) (hn : ns.length ≤ 63)
    (he : EX X (gP (fun _ => False) H0) (ivT _) Γ e (isLst K0 (ns.map aInt)) (ivT _))
    (hr' : ∀ (ap ag : Addr) (h1 : H0 ap = none) (h2 : H0 ag = none), SX X (gL H0 ap ag h1 h2) (ivL H0 ap ag h1 h2 0) (Γ.set i (some (isV (.ref ap)))) sts E)
    (hs : swapsWith (.Call (.Name x p) [e] [] pos) (some (.Name y py)) pos'.line X.env = pure false := by rfl) (hf : X.fn y = true ∨ X.env.scope.names.lookup y = some .local := by first | exact .inl rfl | exact .inr rfl)
    (hg : Gl X x := by rfl) (e1 : X.prog = Pr := by rfl) (e2 : X.w = w := by rfl) (e3 : X.K = K0 := by rfl) (e4 : X.mg = mg := by rfl) (e5 : X.base = base := by rfl) (hdb : (x == ("__debug__" : Str)) = false := by decide)
    (hs1 : starEach [e] X.env = (false, eval e X.env) :: starEach [] X.env := by rfl) (hpl : (backTo pos (starEach [] X.env)).any (·.1) = false := by rfl) :
    SX X (gP (fun _ => False) H0) (ivT _) Γ (.Assign [.Name y py] (.Call (.Name x p) [e] [] pos) pos' :: sts) E := by
  subst e1 e2 e3 e4 e5
  obtain ⟨f, fd, _, F, hm, hk, hb⟩ := C.ex
  exact fun σ H kk => wB_cons (PS.w (ps_set nd hi hy (pe_call (E := fun _ _ _ => False) F hr hg hm hk hb .nil pass0 pa_wA hdb hs1 hpl) hs hf) (ax_cons he ax_nil hs1 σ H _ kk fun H1 vs t1 r => by
    obtain ⟨v, r', rfl, ⟨a, us, rfl, hS, hA⟩, rfl⟩ := r
    have eu := rRead (K := X.K) (f := V.int) hA
    subst eu
    have k1 := kk.to t1
    refine ⟨a, ns, rfl, SqL.mono fz_sub hS, hn, fun H' ap ag sm n1 n2 pl => ?_⟩
    have up : ∀ b, H1 b = none → H0 b = none := fun b z => by
      cases q : H0 b with
      | none => rfl
      | some o => rw [k1.frame b o (fun z => z) q] at z; cases z
    refine hr' ap ag (up ap n1) (up ag n2) _ _ ⟨fun b o _ q => sm b o (k1.frame b o (fun z => z) q), fun b u => ?_, pl, ?_, ?_⟩
    · obtain ⟨ne, gs, fig, mark, cnt, h1, h2, _⟩ := pl
      rcases u with (u | u) | u
      · rw [u, h1]; exact fun w => nomatch w
      · rw [u, h2]; exact fun w => nomatch w
      · exact u.elim
    · refine Sat.set (k1.sat.mono fun b o q => ?_) (by rw [k1.len]; exact hl) rfl
      obtain ⟨_, q⟩ := fz_some q
      rw [fz_neg]
      · exact sm b o q
      · rintro ((z | z) | z)
        · rw [z, n1] at q; cases q
        · rw [z, n2] at q; cases q
        · exact z
    · rw [List.length_set, List.length_set]; exact k1.len))
variable {Pr : Program} {w : World} {K : PySem.W.Frag} {mg : Str → Option Value} {base : Heap} {qual : Str} {st : Stmt} {f : Addr} {fd : FuncData} {N ps : List Str}
theorem fn_law (F : Fun K x qual st f fd) (S : FnScope N ps (defScope st)) (hp : ps.length = 1)
    (h : ∀ (cdv : Value) (A : Around) (outer : List Env) (s : Shared) (H : Hp) (E : XK) (ns : List Int) (Q : VK), Room k (A.deeper (envOfC qual (defScope st) s.heap.objs.size f cdv)) → ns.length ≤ 63 → (∀ H', Q (.bl true) H') →
      SX (cxF Pr w K mg base N qual (defScope st) f cdv A outer s H E) (gP (fun _ => False) H) (ivT _) (some (isLst K (ns.map aInt)) :: List.replicate (N.length - 1) none) (defBody st) (retE Q)) :
    FnOk Pr w K mg base CX0 (k + 1) f fd ps (spLaw K) := by
  have hpl : ps.length ≤ N.length := by have := congrArg List.length S.pre; rw [List.length_take] at this; omega
  refine F.ok S (fun vs H Q E ⟨a, ns, e, _⟩ => by rw [e, hp]; rfl) fun cdv A outer s H vs Q E hr ⟨a, ns, e, hS, hn, q⟩ => ⟨_, pss_wB, ?_⟩
  subst e
  have mn : Sm H (fz (gP (fun _ => False) H).U H) := fun a o e => by rw [fz_neg fun z => z.elim (fun z => z) fun z => z]; exact e
  refine h cdv A outer s H E ns Q hr hn q _ _ ⟨fun a o _ e => e, fun a u => u.elim (fun z => z.elim) (fun z => z.elim), True.intro, ?_, ?_⟩
  · refine start_sat (N := N) (As := [isLst K (ns.map aInt)]) (AllA.one ⟨a, ns.map V.int, rfl, SqL.mono mn hS, ?_⟩)
    clear hS hn q
    induction ns with
    | nil => rfl
    | cons i l ih => exact ⟨_, _, rfl, rfl, ih⟩
  · show (start N [V.ref a]).length = _
    unfold start
    simp only [List.length_append, List.length_map, List.length_replicate, List.length_cons, List.length_nil]
    omega
end
end L2.PL
namespace L2.PL
open PySem PySem.Spec PyProof.Rows
def mkD (x : Str) (st : Stmt) : He.DefD := ⟨(x, none), x, x, defArgs st, defBody st, defScope st, [], []⟩
section
variable {Pr : Program} {w : World} {K : PySem.W.Frag} {h : Heap} {mg : Str → Option Value} {base : Heap} {fa : List He.Fa} {fn : List He.DefD} {x : Str} {st : Stmt}
theorem defAt_of (X : K.In h) (G : h.Ns mainGlobals mg) (c : He.SaysD fa fn K) (i j : Nat) (hfn : fn[i]? = some (mkD x st)) (hfa : fa[j]? = some (.glo x)) : DefAt K mg x st := by
  obtain ⟨fd, FD⟩ := c.def_ i hfn
  obtain ⟨oc, od, dV, kV, doc, pm, an, cdv, ct, osl, e, lk, cd, dv, kw⟩ := FD.ex
  have e0 : dV = .none := by
    rcases dv with ⟨_, e⟩ | ⟨ne, _⟩
    · exact e
    · exact absurd rfl ne
  subst e0
  exact ⟨_, fd, ⟨⟨oc, od, kV, doc, pm, an, cdv, ct, osl, e, lk, cd⟩, FD.kp⟩, He.glo_ok X G (c.fact j hfa)⟩
theorem free_of (X : K.In h) (G : h.Ns mainGlobals mg) (c : He.SaysD fa fn K) (j : Nat) (hfa : fa[j]? = some (.free x)) : mg x = none := He.free_ok X G (c.fact j hfa)
theorem has_fix {ps : List Str} {sp : Sp} {k : Nat} {f : Addr} {fd : FuncData} (C : Has Pr w K mg base x ps sp k) (F : Fun K x x st f fd) (hm : mg x = some (.ref f)) : FnOk Pr w K mg base CX0 k f fd ps sp := by
  obtain ⟨f2, fd2, F2, FO, hm2, _⟩ := has_fd C ⟨f, fd, F, hm⟩
  rw [hm] at hm2
  cases hm2
  obtain ⟨oc, od, kV, doc, pm, an, cdv, ct, osl, e, lk, hcd⟩ := F.ex
  obtain ⟨oc2, od2, kV2, doc2, pm2, an2, cdv2, ct2, osl2, e2, lk2, hcd2⟩ := F2.ex
  rw [lk] at lk2
  have : fd = fd2 := by injection lk2 with z; injection z with z1 z2 z3 z4; injection z3
  subst this
  exact FO
end
end L2.PL
namespace L2.PL
open PySem PySem.Spec PyProof.Rows
/-! ### three clauses: written anew, over runs without exceptions -/
/-- t comes to Q, and raises nothing -/
def Go {α : Type} (X : Cx) (t : Sem α) (Q : α → Shared → Prop) (s : Shared) : Prop := wpAny (model X.prog X.w) X.A t Q (fun _ _ => False) s
def Run (X : Cx) (c : Code) (Good : Shared → Prop) (s : Shared) : Prop := codeAny (model X.prog X.w) X.A c (fun r s' => match r with
  | .error _ => False
  | .ok _ => Good s') s
theorem Go.any {α : Type} {X : Cx} {t : Sem α} {Q Q' : α → Shared → Prop} {E : Value → Shared → Prop} {s : Shared} (h : Go X t Q s) (f : ∀ a s, Q a s → Q' a s) : wpAny (model X.prog X.w) X.A t Q' E s := wpAny_mono h f fun _ _ z => z.elim
theorem Go.then {α : Type} {X : Cx} {t : Sem α} {Q Q' : α → Shared → Prop} {s : Shared} (h : Go X t Q s) (f : ∀ a s, Q a s → Q' a s) : Go X t Q' s := h.any f
theorem Go.of {α : Type} {X : Cx} {t : Sem α} {Q : α → Shared → Prop} {s : Shared} (hx : X.xe = fun _ _ => False) (h : wpAny (model X.prog X.w) X.A t Q X.xe s) : Go X t Q s := by unfold Go; rw [hx] at h; exact h
theorem Run.then {X : Cx} {c : Code} {G G' : Shared → Prop} {s : Shared} (h : Run X c G s) (f : ∀ s, G s → G' s) : Run X c G' s := codeAny_mono h fun r s' q => by
  cases r with
  | ok z => exact f s' q
  | error z => exact q
def onTests (X : Cx) (ifs : List Expr) : Sem Bool := forIn ifs true fun c r => if r = true then do let ok ← isTrue c X.env (eval c X.env); pure (ForInStep.yield ok) else pure (ForInStep.yield r)
/-- one turn of a clause's loop: no item, an item that the tests let go, an item that they take -/
def Once (X : Cx) (tg : Expr) (ifs : List Expr) (it : Value) (Stop Skip Pass : Shared → Prop) (s : Shared) : Prop :=
  Go X (pyNext it) (fun r s1 => match r with
    | some v => Go X (letOwnedTupleGo tg it v) (fun _ s2 => Go X (assign tg X.env v) (fun _ s3 => Go X (onTests X ifs) (fun ok s4 => if ok = true then Pass s4 else Skip s4) s3) s2) s1
    | none => Stop s1) s
abbrev LC3 (elt t0 i0 t1 i1 t2 i2 : Expr) (f0 f1 f2 : List Expr) (sc : Scope) (pos : Pos) : Expr := .ListComp elt [⟨t0, i0, f0, 0⟩, ⟨t1, i1, f1, 0⟩, ⟨t2, i2, f2, 0⟩] sc pos
section
variable {X : Cx} {elt t0 i0 t1 i1 t2 i2 : Expr} {f0 f1 f2 : List Expr} {sc : Scope} {pos : Pos} {it acc : Value}
theorem loop_last (P : Nat → Shared → Prop) (Good : Shared → Prop)
    (step : ∀ n s, P n s → Once X t2 f2 it Good (fun s' => ∃ m, m < n ∧ P m s') (fun s' => Go X (eval elt X.env) (fun x s1 => Go X (call (.builtin "list.append") [acc, x]) (fun _ s2 => ∃ m, m < n ∧ P m s2) s1) s') s) (n : Nat) (s : Shared) (h : P n s) :
    Run X (.compLoop (LC3 elt t0 i0 t1 i1 t2 i2 f0 f1 f2 sc pos) 2 it acc X.env) Good s := by
  refine codeAny_loop rfl P (fun n s hP => ?_) n h
  refine (show wpAny _ X.A ((compTurn (LC3 elt t0 i0 t1 i1 t2 i2 f0 f1 f2 sc pos) 2 it acc X.env).onRaise (fun x => do noteFrame x X.env; theTreesLotGoes x)) _ _ s from wpAny_noted ?_)
  refine wpAny_bind (wpAny_standAt (wpAny_bind ((step n s hP).any fun r s1 h1 => ?_)))
  match r, h1 with
  | none, h1 => exact wpAny_pure h1
  | some v, h1 =>
    refine wpAny_bind (Go.any h1 fun _ s2 h2 => wpAny_bind (h2.any fun _ s3 h3 => wpAny_bind (h3.any fun ok s4 h4 => ?_)))
    match ok, h4 with
    | false, h4 => exact wpAny_pure ⟨rfl, h4⟩
    | true, h4 => exact wpAny_bind (wpAny_bind (Go.any h4 fun x s5 h5 => wpAny_bind (h5.any fun _ s6 h6 => wpAny_pure (wpAny_pure ⟨rfl, h6⟩))))
/-- what the first and the second clause do with an item -/
def Deeper (X : Cx) (C i : Expr) (k : Nat) (acc : Value) (Good : Shared → Prop) (s : Shared) : Prop := Go X (eval i X.env) (fun x s1 => Go X (pyIter x) (fun it s2 => Run X (.compStart C k it acc X.env) Good s2) s1) s
theorem loop_mid (hs : ∀ x, foldedSetIterable i2 X.env x = pure x) (P : Nat → Shared → Prop) (Good : Shared → Prop)
    (step : ∀ n s, P n s → Once X t1 f1 it Good (fun s' => ∃ m, m < n ∧ P m s') (Deeper X (LC3 elt t0 i0 t1 i1 t2 i2 f0 f1 f2 sc pos) i2 2 acc fun s' => ∃ m, m < n ∧ P m s') s) (n : Nat) (s : Shared) (h : P n s) :
    Run X (.compLoop (LC3 elt t0 i0 t1 i1 t2 i2 f0 f1 f2 sc pos) 1 it acc X.env) Good s := by
  refine codeAny_loop rfl P (fun n s hP => ?_) n h
  refine (show wpAny _ X.A ((compTurn (LC3 elt t0 i0 t1 i1 t2 i2 f0 f1 f2 sc pos) 1 it acc X.env).onRaise (fun x => do noteFrame x X.env; theTreesLotGoes x)) _ _ s from wpAny_noted ?_)
  refine wpAny_bind (wpAny_standAt (wpAny_bind ((step n s hP).any fun r s1 h1 => ?_)))
  match r, h1 with
  | none, h1 => exact wpAny_pure h1
  | some v, h1 =>
    refine wpAny_bind (Go.any h1 fun _ s2 h2 => wpAny_bind (h2.any fun _ s3 h3 => wpAny_bind (h3.any fun ok s4 h4 => ?_)))
    match ok, h4 with
    | false, h4 => exact wpAny_pure ⟨rfl, h4⟩
    | true, h4 =>
      refine wpAny_bind (Go.any h4 fun x s5 h5 => wpAny_bind (wpAny_standAt (wpAny_bind (wpAny_of_eq (hs x) (wpAny_bind (wpAny_holding (h5.any fun it1 s6 h6 => wpAny_bind (wpAny_runOwn ?_))))))))
      rw [Around.mark_none]
      refine codeAny_mono h6 fun r s7 q => ?_
      match r, q with
      | .ok _, q => first | exact wpAny_pure ⟨rfl, q⟩ | exact wpAny_bind (wpAny_pure (wpAny_pure ⟨rfl, q⟩))
      | .error _, q => exact q.elim
theorem loop_first (hs : ∀ x, foldedSetIterable i1 X.env x = pure x) (P : Nat → Shared → Prop) (Good : Shared → Prop)
    (step : ∀ n s, P n s → Once X t0 f0 it Good (fun s' => ∃ m, m < n ∧ P m s') (Deeper X (LC3 elt t0 i0 t1 i1 t2 i2 f0 f1 f2 sc pos) i1 1 acc fun s' => ∃ m, m < n ∧ P m s') s) (n : Nat) (s : Shared) (h : P n s) :
    Run X (.compLoop (LC3 elt t0 i0 t1 i1 t2 i2 f0 f1 f2 sc pos) 0 it acc X.env) Good s := by
  refine codeAny_loop rfl P (fun n s hP => ?_) n h
  refine (show wpAny _ X.A ((compTurn (LC3 elt t0 i0 t1 i1 t2 i2 f0 f1 f2 sc pos) 0 it acc X.env).onRaise (fun x => do noteFrame x X.env; theTreesLotGoes x)) _ _ s from wpAny_noted ?_)
  refine wpAny_bind (wpAny_standAt (wpAny_bind ((step n s hP).any fun r s1 h1 => ?_)))
  match r, h1 with
  | none, h1 => exact wpAny_pure h1
  | some v, h1 =>
    refine wpAny_bind (Go.any h1 fun _ s2 h2 => wpAny_bind (h2.any fun _ s3 h3 => wpAny_bind (h3.any fun ok s4 h4 => ?_)))
    match ok, h4 with
    | false, h4 => exact wpAny_pure ⟨rfl, h4⟩
    | true, h4 =>
      refine wpAny_bind (Go.any h4 fun x s5 h5 => wpAny_bind (wpAny_standAt (wpAny_bind (wpAny_of_eq (hs x) (wpAny_bind (wpAny_holding (h5.any fun it1 s6 h6 => wpAny_bind (wpAny_runOwn ?_))))))))
      rw [Around.mark_none]
      refine codeAny_mono h6 fun r s7 q => ?_
      match r, q with
      | .ok _, q => first | exact wpAny_pure ⟨rfl, q⟩ | exact wpAny_bind (wpAny_pure (wpAny_pure ⟨rfl, q⟩))
      | .error _, q => exact q.elim
/-- a clause that is begun with an iterator, whichever way it is taken -/
theorem begun1 {Good : Shared → Prop} {s : Shared} (h : Run X (.compLoop (LC3 elt t0 i0 t1 i1 t2 i2 f0 f1 f2 sc pos) 1 it acc X.env) Good s) (self : ∀ Q : Value → Shared → Prop, Q it s → Go X (pyIter it) Q s) :
    Run X (.compStart (LC3 elt t0 i0 t1 i1 t2 i2 f0 f1 f2 sc pos) 1 it acc X.env) Good s := by
  refine codeAny_of_tree (show wpAny _ _ ((compStart (LC3 elt t0 i0 t1 i1 t2 i2 f0 f1 f2 sc pos) 1 it acc X.env).onRaise (fun x => do noteFrame x X.env; standAt theWindowsPlace)) _ _ s from wpAny_notedAt ?_)
  unfold compStart
  refine (show wpAny _ _ (ask >>= _) _ _ s from wpAny_bind (wpAny_askSetting (wpAny_ite ?_)))
  split
  · first | exact wpAny_bind (wpAny_pure (wpAny_pure ⟨rfl, h⟩)) | exact wpAny_pure ⟨rfl, h⟩
  · have g : ∀ {E : Value → Shared → Prop}, wpAny (model X.prog X.w) X.A (pyIter it) (fun i' s' => i' = it ∧ s' = s) E s := fun {E} => (self (fun i' s' => i' = it ∧ s' = s) ⟨rfl, rfl⟩).any fun _ _ z => z
    refine wpAny_bind (wpAny_rule ?_)
    refine (show wpAny _ _ (standAt i1.pos >>= _) _ _ s from wpAny_bind (wpAny_standAt (wpAny_bind (wpAny_mono g (fun i' s' e => ?_) fun _ _ z => z))))
    obtain ⟨rfl, rfl⟩ := e
    exact wpAny_pure ⟨rfl, h⟩
theorem begun2 {Good : Shared → Prop} {s : Shared} (h : Run X (.compLoop (LC3 elt t0 i0 t1 i1 t2 i2 f0 f1 f2 sc pos) 2 it acc X.env) Good s) (self : ∀ Q : Value → Shared → Prop, Q it s → Go X (pyIter it) Q s) :
    Run X (.compStart (LC3 elt t0 i0 t1 i1 t2 i2 f0 f1 f2 sc pos) 2 it acc X.env) Good s := by
  refine codeAny_of_tree (show wpAny _ _ ((compStart (LC3 elt t0 i0 t1 i1 t2 i2 f0 f1 f2 sc pos) 2 it acc X.env).onRaise (fun x => do noteFrame x X.env; standAt theWindowsPlace)) _ _ s from wpAny_notedAt ?_)
  unfold compStart
  refine (show wpAny _ _ (ask >>= _) _ _ s from wpAny_bind (wpAny_askSetting (wpAny_ite ?_)))
  split
  · first | exact wpAny_bind (wpAny_pure (wpAny_pure ⟨rfl, h⟩)) | exact wpAny_pure ⟨rfl, h⟩
  · have g : ∀ {E : Value → Shared → Prop}, wpAny (model X.prog X.w) X.A (pyIter it) (fun i' s' => i' = it ∧ s' = s) E s := fun {E} => (self (fun i' s' => i' = it ∧ s' = s) ⟨rfl, rfl⟩).any fun _ _ z => z
    refine wpAny_bind (wpAny_rule ?_)
    refine (show wpAny _ _ (standAt i2.pos >>= _) _ _ s from wpAny_bind (wpAny_standAt (wpAny_bind (wpAny_mono g (fun i' s' e => ?_) fun _ _ z => z))))
    obtain ⟨rfl, rfl⟩ := e
    exact wpAny_pure ⟨rfl, h⟩
end
/-! ### a turn over an iterator that is walked -/
theorem once_ok {X : Cx} {tg : Expr} {ifs : List Expr} {J : It} {fp : List Addr} {it : Addr} {tn : Nat → Heap → Prop} {g : TG} {tt : TT} {pins : List (Addr × Obj)} {σ : St} {H : Hp} {s : Shared} {j : Nat} {Sp : Prop} {After : Bool → St → Hp → Prop}
    (hc : X.calm = true) (hx : X.xe = fun _ _ => False) (T : Turn X.prog X.w X.K tg J fp it tn) (pg : PG X tg g) (pt : PTs X ifs tt) (I : Inv X pins σ H s) (f : ∀ b ∈ fp, FpOk X pins H b) (st : tn j s.heap)
    (h : (J.stop j H ∧ Sp) ∨ (J.go j H ∧ ∀ x H', J.yld j H x H' → g x σ H' fun σ3 H5 => tt σ3 H5 fun b H6 => After b σ3 H6)) :
    Once X tg ifs (.ref it) (fun s1 => Inv X pins σ H s1 ∧ Sp)
      (fun s4 => ∃ pins' σ3 H6, (∀ σ' H' s', Inv X pins' σ' H' s' → Inv X pins σ' H' s' ∧ tn (j + 1) s'.heap ∧ ∀ b ∈ fp, H' b = none) ∧ Inv X pins' σ3 H6 s4 ∧ After false σ3 H6)
      (fun s4 => ∃ pins' σ3 H6, (∀ σ' H' s', Inv X pins' σ' H' s' → Inv X pins σ' H' s' ∧ tn (j + 1) s'.heap ∧ ∀ b ∈ fp, H' b = none) ∧ Inv X pins' σ3 H6 s4 ∧ After true σ3 H6) s := by
  rcases h with ⟨stop, sp⟩ | ⟨go, step⟩
  · refine Go.then (T.done X rfl rfl rfl hc j pins s σ H (fun _ _ => False) I f st stop) fun r s1 ⟨hr, I1⟩ => ?_
    subst hr
    exact ⟨I1, sp⟩
  · refine Go.then (T.item X rfl rfl rfl hc j pins s σ H (fun _ _ => False) I f st go) fun r s1 ⟨u, hr, h1⟩ => ?_
    subst hr
    refine Go.then h1 fun _ s2 ⟨x, H2, I2, rx, y, st2, n2⟩ => ?_
    have f2 : ∀ b ∈ fp, FpOk X pins H2 b := fun b hb => ⟨n2 b hb, (f b hb).2⟩
    have I3 := I2.pinned f2 (T.obj _ _ st2)
    have back : ∀ σ' H' s', Inv X (pins ++ pinsAt fp s2.heap) σ' H' s' → Inv X pins σ' H' s' ∧ tn (j + 1) s'.heap ∧ ∀ b ∈ fp, H' b = none := fun σ' H' s' I' => by
      have stay : ∀ b ∈ fp, ∀ o, s2.heap.get? b = some o → s'.heap.get? b = some o ∧ H' b = none := fun b hb o e => by
        have z := I'.pin (b, o) (List.mem_append_right _ (List.mem_append_right _ (mem_pinsAt hb e)))
        exact ⟨z.1, z.2.1⟩
      refine ⟨I'.unpinned, T.keep _ _ _ st2 fun b hb o e => (stay b hb o e).1, fun b hb => ?_⟩
      obtain ⟨o, e, _⟩ := T.obj _ _ st2 b hb
      exact (stay b hb o e).2
    refine Go.then (Go.of hx (pg.run _ s2 σ H2 x u _ I3 rx (step x H2 y))) fun _ s3 ⟨σ3, H3, I4, q⟩ => ?_
    refine Go.then (Go.of hx (pt.run _ s3 σ3 H3 _ I4 q)) fun b s4 ⟨H4, I5, q2⟩ => ?_
    cases b with
    | true => rw [if_pos rfl]; exact ⟨_, σ3, H4, back, I5, q2⟩
    | false => rw [if_neg Bool.false_ne_true]; exact ⟨_, σ3, H4, back, I5, q2⟩
theorem Once.imp {X : Cx} {tg : Expr} {ifs : List Expr} {it : Value} {S K P S' K' P' : Shared → Prop} {s : Shared} (h : Once X tg ifs it S K P s) (a : ∀ s, S s → S' s) (b : ∀ s, K s → K' s) (c : ∀ s, P s → P' s) : Once X tg ifs it S' K' P' s := by
  refine Go.then h fun r s1 h1 => ?_
  cases r with
  | none => exact a _ h1
  | some v =>
    refine Go.then h1 fun _ s2 h2 => Go.then h2 fun _ s3 h3 => Go.then h3 fun ok s4 h4 => ?_
    cases ok with
    | true => rw [if_pos rfl] at h4 ⊢; exact c _ h4
    | false => rw [if_neg Bool.false_ne_true] at h4 ⊢; exact b _ h4
/-! ### what the deeper clauses ask, and that they keep it -/
abbrev TCh := St → Hp → (Hp → Prop) → Prop
def chLast (te : TE) (D : Addr) : TCh := fun σ H Nx => te σ H fun y H1 => ∃ acc, H1 D = some (.lst acc) ∧ acc.length < sizeLine ∧ Nx (upd H1 D (.lst (acc ++ [y])))
def chCl (wi : TI) (g : TG) (tt : TT) (ws : List Nat) (deep : TCh) : TCh := fun σ H Nx => wi σ H fun J H1 => ∃ W : Nat → Nat → Hp → Prop, (∃ m, W 0 m H1) ∧ ∀ j k H, W j k H →
  (J.stop j H ∧ Nx H) ∨ (J.go j H ∧ ∃ N2 : Hp → Prop, (∀ H', N2 H' → ∃ k', k' < k ∧ W (j + 1) k' H') ∧ ∀ x H', J.yld j H x H' → g x (wipe σ ws) H' fun σ3 H3 => tt σ3 H3 fun b H4 => wipe σ3 ws = wipe σ ws ∧ if b = true then deep σ3 H4 N2 else N2 H4)
/-- what stands behind a clause: all slots but those of the deeper clauses' names -/
def Left (X : Cx) (ws : List Nat) (pins : List (Addr × Obj)) (σ : St) (Nx : Hp → Prop) (s' : Shared) : Prop :=
  ∃ σ' H', Inv X pins σ' H' s' ∧ σ'.length = σ.length ∧ (∀ j v, j ∉ ws → σ[j]? = some (some v) → σ'[j]? = some (some v)) ∧ Nx H'
def Keeps (X : Cx) (C i : Expr) (k : Nat) (D : Addr) (ws : List Nat) (t : TCh) : Prop := ∀ (pins : List (Addr × Obj)) (s : Shared) (σ : St) (H : Hp) (Nx : Hp → Prop), Inv X pins σ H s → t σ H Nx → Deeper X C i k (.ref D) (Left X ws pins σ Nx) s
section
variable {X : Cx} {elt t0 i0 t1 i1 t2 i2 : Expr} {f0 f1 f2 : List Expr} {sc : Scope} {pos : Pos} {wi : TI} {g : TG} {tt : TT} {te : TE} {D : Addr} {ws ws2 : List Nat} {deep : TCh}
theorem keeps_last (hc : X.calm = true) (hx : X.xe = fun _ _ => False) (hi : PI X t2 i2 wi) (hg : PG X t2 g) (ht : PTs X f2 tt) (he : PE X elt te) : Keeps X (LC3 elt t0 i0 t1 i1 t2 i2 f0 f1 f2 sc pos) i2 2 D ws (chCl wi g tt ws (chLast te D)) := by
  intro pins s σ H Nx I h
  refine Go.then (Go.of hx (hi.run pins s σ H _ I h)) fun v s1 h1 => Go.then (Go.of hx h1) fun w s2 ⟨it, fp, tn, J, H2, e, I2, T, st, f, W, ⟨m0, w0⟩, turn⟩ => ?_
  subst e
  refine begun2 (loop_last (fun k s' => ∃ j H', Inv X pins (wipe σ ws) H' s' ∧ tn j s'.heap ∧ (∀ b ∈ fp, H' b = none) ∧ W j k H') _ ?_ m0 s2 ⟨0, H2, I2.weak (wipe_length _ _) (fun j v e => (wipe_some e).1), st, fun b hb => (f b hb).1, w0⟩) fun Q q => T.self X.A 0 _ _ _ st q
  rintro k s3 ⟨j, H3, I3, st3, n3, w3⟩
  have f3 : ∀ b ∈ fp, FpOk X pins H3 b := fun b hb => ⟨n3 b hb, (f b hb).2⟩
  rcases turn j k H3 w3 with ⟨stop, nx⟩ | ⟨go, N2, hN, step⟩
  · refine (once_ok (After := fun _ _ _ => False) (Sp := True) hc hx T hg ht I3 f3 st3 (.inl ⟨stop, trivial⟩)).imp (fun s4 h4 => ?_) (fun s4 ⟨_, _, _, _, _, z⟩ => z.elim) (fun s4 ⟨_, _, _, _, _, z⟩ => z.elim)
    exact ⟨wipe σ ws, H3, h4.1, wipe_length _ _, fun j v hj e => by rw [wipe_out hj]; exact e, nx⟩
  · have again : ∀ {pins' : List (Addr × Obj)} {σ3 σ' : St} {H' : Hp} {s' : Shared}, (∀ σ' H' s', Inv X pins' σ' H' s' → Inv X pins σ' H' s' ∧ tn (j + 1) s'.heap ∧ ∀ b ∈ fp, H' b = none) → wipe σ3 ws = wipe σ ws → Inv X pins' σ3 H' s' → N2 H' → ∃ m, m < k ∧ ∃ j H', Inv X pins (wipe σ ws) H' s' ∧ tn j s'.heap ∧ (∀ b ∈ fp, H' b = none) ∧ W j m H' := fun {pins' σ3 σ' H' s'} back hw I' n2 => by
      obtain ⟨k', hk, w'⟩ := hN H' n2
      obtain ⟨a, b, c⟩ := back _ _ _ I'
      exact ⟨k', hk, j + 1, H', a.weak (by rw [← hw, wipe_length]) (fun i v e => by rw [← hw] at e; exact (wipe_some e).1), b, c, w'⟩
    refine (once_ok (After := fun b σ3 H4 => wipe σ3 ws = wipe σ ws ∧ if b = true then chLast te D σ3 H4 N2 else N2 H4) (Sp := False) hc hx T hg ht I3 f3 st3 (.inr ⟨go, step⟩)).imp (fun _ z => z.2.elim) (fun s4 ⟨pins', σ3, H4, back, I4, hw, q⟩ => ?_) (fun s4 ⟨pins', σ3, H4, back, I4, hw, q⟩ => ?_)
    · rw [if_neg Bool.false_ne_true] at q
      exact again (σ' := σ3) back hw I4 q
    · rw [if_pos rfl] at q
      refine Go.then (Go.of hx (he.run _ s4 σ3 H4 _ I4 q)) fun z s5 ⟨y, H5, I5, ry, acc, hD, hz, n2⟩ => ?_
      exact app_ok (X := X) I5 hD hz ry fun s6 I6 => again (σ' := σ3) back hw I6 n2
theorem keeps_mid (hc : X.calm = true) (hx : X.xe = fun _ _ => False) (hi : PI X t1 i1 wi) (hg : PG X t1 g) (ht : PTs X f1 tt) (hs : ∀ x, foldedSetIterable i2 X.env x = pure x) (sub : ∀ i ∈ ws2, i ∈ ws) (hk : Keeps X (LC3 elt t0 i0 t1 i1 t2 i2 f0 f1 f2 sc pos) i2 2 D ws2 deep) :
    Keeps X (LC3 elt t0 i0 t1 i1 t2 i2 f0 f1 f2 sc pos) i1 1 D ws (chCl wi g tt ws deep) := by
  intro pins s σ H Nx I h
  refine Go.then (Go.of hx (hi.run pins s σ H _ I h)) fun v s1 h1 => Go.then (Go.of hx h1) fun w s2 ⟨it, fp, tn, J, H2, e, I2, T, st, f, W, ⟨m0, w0⟩, turn⟩ => ?_
  subst e
  refine begun1 (loop_mid hs (fun k s' => ∃ j H', Inv X pins (wipe σ ws) H' s' ∧ tn j s'.heap ∧ (∀ b ∈ fp, H' b = none) ∧ W j k H') _ ?_ m0 s2 ⟨0, H2, I2.weak (wipe_length _ _) (fun j v e => (wipe_some e).1), st, fun b hb => (f b hb).1, w0⟩) fun Q q => T.self X.A 0 _ _ _ st q
  rintro k s3 ⟨j, H3, I3, st3, n3, w3⟩
  have f3 : ∀ b ∈ fp, FpOk X pins H3 b := fun b hb => ⟨n3 b hb, (f b hb).2⟩
  rcases turn j k H3 w3 with ⟨stop, nx⟩ | ⟨go, N2, hN, step⟩
  · refine (once_ok (After := fun _ _ _ => False) (Sp := True) hc hx T hg ht I3 f3 st3 (.inl ⟨stop, trivial⟩)).imp (fun s4 h4 => ?_) (fun s4 ⟨_, _, _, _, _, z⟩ => z.elim) (fun s4 ⟨_, _, _, _, _, z⟩ => z.elim)
    exact ⟨wipe σ ws, H3, h4.1, wipe_length _ _, fun j v hj e => by rw [wipe_out hj]; exact e, nx⟩
  · have again : ∀ {pins' : List (Addr × Obj)} {σ3 σ' : St} {H' : Hp} {s' : Shared}, (∀ σ' H' s', Inv X pins' σ' H' s' → Inv X pins σ' H' s' ∧ tn (j + 1) s'.heap ∧ ∀ b ∈ fp, H' b = none) → wipe σ3 ws = wipe σ ws → Inv X pins' σ' H' s' → σ'.length = σ3.length → (∀ j v, j ∉ ws2 → σ3[j]? = some (some v) → σ'[j]? = some (some v)) → N2 H' → ∃ m, m < k ∧ ∃ j H', Inv X pins (wipe σ ws) H' s' ∧ tn j s'.heap ∧ (∀ b ∈ fp, H' b = none) ∧ W j m H' := fun {pins' σ3 σ' H' s'} back hw I' ln kn n2 => by
      obtain ⟨k', hk, w'⟩ := hN H' n2
      obtain ⟨a, b, c⟩ := back _ _ _ I'
      refine ⟨k', hk, j + 1, H', a.weak (by rw [ln, ← hw, wipe_length]) (fun i v e => ?_), b, c, w'⟩
      rw [← hw] at e
      obtain ⟨e1, e2⟩ := wipe_some e
      exact kn i v (fun z => e2 (sub i z)) e1
    refine (once_ok (After := fun b σ3 H4 => wipe σ3 ws = wipe σ ws ∧ if b = true then deep σ3 H4 N2 else N2 H4) (Sp := False) hc hx T hg ht I3 f3 st3 (.inr ⟨go, step⟩)).imp (fun _ z => z.2.elim) (fun s4 ⟨pins', σ3, H4, back, I4, hw, q⟩ => ?_) (fun s4 ⟨pins', σ3, H4, back, I4, hw, q⟩ => ?_)
    · rw [if_neg Bool.false_ne_true] at q
      exact again back hw I4 rfl (fun _ _ _ e => e) q
    · rw [if_pos rfl] at q
      refine Go.then (hk pins' s4 σ3 H4 N2 I4 q) fun x s5 h5 => Go.then h5 fun it2 s6 h6 => Run.then h6 fun s7 ⟨σ', H', I', ln, kn, n2⟩ => again back hw I' ln kn n2
end
/-! ### the three together, as a value -/
def tLc3 (wi : TI) (g : TG) (tt : TT) (vs : List Nat) (deep : Addr → TCh) : TE := fun σ H Q => wi σ H fun J H1 => ∀ D, H1 D = none → ∃ W : Nat → Nat → Hp → Prop, (∃ m, W 0 m (upd H1 D (.lst []))) ∧ ∀ j k H2, W j k H2 →
  (J.stop j H2 ∧ Q (.ref D) H2) ∨ (J.go j H2 ∧ ∃ N2 : Hp → Prop, (∀ H', N2 H' → ∃ k', k' < k ∧ W (j + 1) k' H') ∧ ∀ x H', J.yld j H2 x H' → g x (wipe σ vs) H' fun σ3 H3 => tt σ3 H3 fun b H4 => wipe σ3 vs = wipe σ vs ∧ if b = true then deep D σ3 H4 N2 else N2 H4)
/-- a comprehension's block, whatever stands in it -/
abbrev Blk (X : Cx) (sc : Scope) (P : Cx → Prop) : Prop := ∀ (s : Shared) (H : Hp) (C : Addr) (cl : List (Str × Addr)) (fp : List Addr), P (X.blk s H sc (compEnvC sc cl C X.env) fp)
section
variable {X : Cx} {elt t0 i0 t1 i1 t2 i2 : Expr} {f0 f1 f2 : List Expr} {sc : Scope} {pos : Pos} {wi : TI} {g : TG} {tt : TT} {own : List (Str × Nat)} {ws : List Nat} {deep : Addr → TCh}
theorem pe_lc3 (hc : X.calm = true) (nd : X.N.Nodup) (hi : PI X t0 i0 wi) (ok : BlkOk X.N X.env.scope sc own) (hg : Blk X sc fun Y => PG Y t0 g) (ht : Blk X sc fun Y => PTs Y f0 tt) (sub : ∀ i ∈ ws, i ∈ own.map (·.2))
    (hk : ∀ D, Blk X sc fun Y => Keeps Y (LC3 elt t0 i0 t1 i1 t2 i2 f0 f1 f2 sc pos) i1 1 D ws (deep D)) (hs : ∀ x, foldedSetIterable i0 X.env x = pure x := by intro _; rfl) (hs1 : ∀ env x, foldedSetIterable i1 env x = pure x := by intro _ _; rfl) :
    PE X (LC3 elt t0 i0 t1 i1 t2 i2 f0 f1 f2 sc pos) (tLc3 wi g tt (own.map (·.2)) deep) := by
  refine ⟨fun pins s σ H Q I h => ?_⟩
  rw [eval_ListComp]
  have known : ∀ y ∈ sc.names, y.2 = .free → ∃ c, X.env.cells.lookup y.1 = some c := fun y hy e => (ok.free y hy e).elim (fun z => I.ok.has _ (.inl z)) fun z => I.ok.has _ (.inr z)
  refine wpAny_comprehension_free rfl hs (closure_ok known) ok.kind (fun y hy e => by rw [ok.uniq y hy, e]) (wpAny_mono (hi.run pins s σ H _ I h) (fun v s1 h1 => wpAny_mono h1 (fun w s2 h2 => ?_) fun _ _ z => z) fun _ _ z => z)
  obtain ⟨it, fp, tn, J, H2, rfl, I2, T, st2, fo2, q⟩ := h2
  refine wpAny_newObj_type (newEnv_comp ?_) (by show 0 ≤ sizeLine; decide)
  have nD : H2 s2.heap.objs.size = none := I2.hok.fresh (Nat.le_refl _)
  obtain ⟨W, ⟨m0, w0⟩, turn⟩ := q s2.heap.objs.size nD
  generalize eD : s2.heap.objs.size = D at nD w0 turn ⊢
  generalize eH : upd H2 D (.lst []) = H3 at w0
  -- the state with the new list
  have I3 : Inv X pins σ H3 { s2 with heap := s2.heap.push { cls := .type "list", data := .seq ([] : List Value).toArray } } := by
    rw [← eH]
    refine I2.laid (t' := s2.toks) (fun b o e => Heap.get?_push_of_some _ e) (Nat.le_of_eq eD) ⟨Nat.zero_le _, [], 0, .nil, ?_⟩
    rw [← eD]
    exact Heap.get?_push_size _ rfl
  have old : ∀ b ∈ fp, b < s2.heap.objs.size := fun b hb => by
    obtain ⟨o, e, _⟩ := T.obj _ _ st2 b hb
    exact Heap.lt_size e
  generalize e3 : ({ s2 with heap := s2.heap.push { cls := .type "list", data := .seq ([] : List Value).toArray } } : Shared) = s3 at I3 ⊢
  have hp3 : s3.heap = s2.heap.push { cls := .type "list", data := .seq ([] : List Value).toArray } := by rw [← e3]
  have fo3 : ∀ b ∈ fp, FpOk X pins H3 b ∧ b < s3.heap.objs.size := fun b hb => by
    have lt := old b hb
    refine ⟨⟨?_, (fo2 b hb).2⟩, by rw [hp3, Heap.size_push]; exact Nat.lt_succ_of_lt lt⟩
    rw [← eH, upd_ne (by rw [← eD]; exact Nat.ne_of_lt lt)]
    exact (fo2 b hb).1
  have st3 : tn 0 s3.heap := T.keep _ _ _ st2 fun b _ o e => by rw [hp3]; exact Heap.get?_push_of_some _ e
  -- the block
  have I4 := block_start I3 ok nd fo3
  have k1 := hk D s3 H3 s3.heap.objs.size (cellsFrom (s3.heap.objs.size + 1) sc.names (cloFrom X.env.cells sc.names [])) fp
  have g1 := hg s3 H3 s3.heap.objs.size (cellsFrom (s3.heap.objs.size + 1) sc.names (cloFrom X.env.cells sc.names [])) fp
  have t1' := ht s3 H3 s3.heap.objs.size (cellsFrom (s3.heap.objs.size + 1) sc.names (cloFrom X.env.cells sc.names [])) fp
  generalize eE : compEnvC sc (cellsFrom (s3.heap.objs.size + 1) sc.names (cloFrom X.env.cells sc.names [])) s3.heap.objs.size X.env = ce at I4 k1 g1 t1'
  have eL : ce.locals = s3.heap.objs.size := by rw [← eE]; rfl
  refine (show codeAny (model X.prog X.w) X.A (.compStart (LC3 elt t0 i0 t1 i1 t2 i2 f0 f1 f2 sc pos) 0 (.ref it) (.ref D) (compEnvC sc (cellsFrom (s3.heap.objs.size + 1) sc.names (cloFrom X.env.cells sc.names [])) s3.heap.objs.size X.env)) _ _ from ?_)
  rw [eE]
  let Y : Cx := X.blk s3 H3 sc ce fp
  have seen : ∀ {σ' : St} {H' : Hp} {s' : Shared}, Inv Y [] σ' H' s' → (∀ b ∈ fp, H' b = none) → ∀ b ∈ fp, FpOk Y [] H' b := fun {σ' H' s'} I' n b hb => by
    refine ⟨n b hb, (I'.ok.exf b hb).1, I'.ok.exfs b hb, .inl hb, fun x c e => (I'.ok.exf b hb).2 x c e, fun p hp => ?_⟩
    have : p ∈ ([] : List (Addr × Obj)) ++ [] := hp
    simp at this
  generalize e4 : ({ s3 with heap := pushCells (s3.heap.push { cls := .type "dict", data := .dict #[] }) sc.names } : Shared) = s4 at I4
  have st4 : tn 0 s4.heap := T.keep _ _ _ st3 fun b _ o e => by rw [← e4]; exact pushCells_keeps _ _ _ _ (Heap.get?_push_of_some _ e)
  -- what is wanted behind the loop
  have ends : ∀ {H' : Hp} {s' : Shared}, Inv Y [] (wipe σ (own.map (·.2))) H' s' → Q (.ref D) H' → compPost (model X.prog X.w) X.A X.xe none (EP X pins σ Q) (.ref D) s3.heap.objs.size (.ok .next) s' := fun {H' s'} I' qq => by
    have I5 : Inv X pins σ H' s' := I3.call' (ch := fp) I'.os I'.base I'.hok I'.bare fun b hb => ⟨(fo3 b hb).1.2.2.2.1, (fo3 b hb).1.2.1, (fo3 b hb).1.2.2.2.2.1, (fo3 b hb).1.2.2.2.2.2⟩
    have nC : H' s3.heap.objs.size = none := by rw [← eL]; exact I'.free
    obtain ⟨m, hn, _⟩ := I'.loc
    have hn : s'.heap.Ns ce.locals m := hn
    rw [eL] at hn
    obtain ⟨a0, a1, a2, a3, a4, a5⟩ := I3.fpOk (Nat.le_refl _) nC
    exact ⟨m, hn, fun h'' sb => ⟨.ref D, H', I5.turned (t' := s'.toks) (fun b o hb e => (sb.2 b hb).trans e) a0 a1 a3 a4 a5, rfl, qq⟩⟩
  have loop : Run Y (.compLoop (LC3 elt t0 i0 t1 i1 t2 i2 f0 f1 f2 sc pos) 0 (.ref it) (.ref D) Y.env) (fun s' => ∃ H', Inv Y [] (wipe σ (own.map (·.2))) H' s' ∧ Q (.ref D) H') s4 := by
    refine loop_first (X := Y) (hs1 ce) (fun k s' => ∃ j H', Inv Y [] (wipe σ (own.map (·.2))) H' s' ∧ tn j s'.heap ∧ (∀ b ∈ fp, H' b = none) ∧ W j k H') _ ?_ m0 s4 ⟨0, H3, I4, st4, fun b hb => (fo3 b hb).1.1, w0⟩
    rintro k s5 ⟨j, H5, I5, st5, n5, w5⟩
    rcases turn j k H5 w5 with ⟨stop, qq⟩ | ⟨go, N2, hN, step⟩
    · refine (once_ok (X := Y) (After := fun _ _ _ => False) (Sp := True) hc rfl T g1 t1' I5 (seen I5 n5) st5 (.inl ⟨stop, trivial⟩)).imp (fun s6 h6 => ?_) (fun s6 ⟨_, _, _, _, _, z⟩ => z.elim) (fun s6 ⟨_, _, _, _, _, z⟩ => z.elim)
      exact ⟨H5, h6.1, qq⟩
    · have again : ∀ {pins' : List (Addr × Obj)} {σ3 σ' : St} {H' : Hp} {s' : Shared}, (∀ σ' H' s', Inv Y pins' σ' H' s' → Inv Y [] σ' H' s' ∧ tn (j + 1) s'.heap ∧ ∀ b ∈ fp, H' b = none) → wipe σ3 (own.map (·.2)) = wipe σ (own.map (·.2)) → Inv Y pins' σ' H' s' → σ'.length = σ3.length → (∀ j v, j ∉ ws → σ3[j]? = some (some v) → σ'[j]? = some (some v)) → N2 H' →
          ∃ m, m < k ∧ ∃ j H', Inv Y [] (wipe σ (own.map (·.2))) H' s' ∧ tn j s'.heap ∧ (∀ b ∈ fp, H' b = none) ∧ W j m H' := fun {pins' σ3 σ' H' s'} back hw I' ln kn n2 => by
        obtain ⟨k', hk', w'⟩ := hN H' n2
        obtain ⟨a, b, c⟩ := back _ _ _ I'
        refine ⟨k', hk', j + 1, H', a.weak (by rw [ln, ← hw, wipe_length]) (fun i v e => ?_), b, c, w'⟩
        rw [← hw] at e
        obtain ⟨e1, e2⟩ := wipe_some e
        exact kn i v (fun z => e2 (sub i z)) e1
      refine (once_ok (X := Y) (After := fun b σ3 H4 => wipe σ3 (own.map (·.2)) = wipe σ (own.map (·.2)) ∧ if b = true then deep D σ3 H4 N2 else N2 H4) (Sp := False) hc rfl T g1 t1' I5 (seen I5 n5) st5 (.inr ⟨go, step⟩)).imp (fun _ z => z.2.elim) (fun s6 ⟨pins', σ3, H4, back, I6, hw, q⟩ => ?_) (fun s6 ⟨pins', σ3, H4, back, I6, hw, q⟩ => ?_)
      · rw [if_neg Bool.false_ne_true] at q
        exact again back hw I6 rfl (fun _ _ _ e => e) q
      · rw [if_pos rfl] at q
        refine Go.then (k1 pins' s6 σ3 H4 N2 I6 q) fun x s7 h7 => Go.then h7 fun it2 s8 h8 => Run.then h8 fun s9 ⟨σ', H', I', ln, kn, n2⟩ => again back hw I' ln kn n2
  have loop2 : codeAny (model X.prog X.w) X.A (.compLoop (LC3 elt t0 i0 t1 i1 t2 i2 f0 f1 f2 sc pos) 0 (.ref it) (.ref D) ce) (compPost (model X.prog X.w) X.A X.xe none (EP X pins σ Q) (.ref D) s3.heap.objs.size) s4 := codeAny_mono loop fun r s' z => by
    match r, z with
    | .error _, z => exact z.elim
    | .ok fl, z =>
      obtain ⟨H', I', qq⟩ := z
      have e := ends I' qq
      cases fl <;> exact e
  exact codeAny_compStart_list loop2 (T.self X.A 0 _ _ _ st4 loop2)
end
end L2.PL
namespace L2.PL
open PySem PySem.Spec PyProof.Rows
/-! ### what a clause walks, by its meaning -/
def wP (Y : Cx) (tg iter : Expr) : TI := fun σ H R => ∀ (pins : List (Addr × Obj)) (s : Shared), Inv Y pins σ H s → wpAny (model Y.prog Y.w) Y.A (eval iter Y.env) (fun v s1 => wpAny (model Y.prog Y.w) Y.A (pyIter v) (PIE Y pins σ tg R) Y.xe s1) Y.xe s
theorem pi_wP {Y : Cx} {tg iter : Expr} : PI Y tg iter (wP Y tg iter) := ⟨fun pins s _ _ _ I h => h pins s I⟩
theorem ix_wP {Y : Cx} {G : Gx} {I J : Iv G.M} {Γ : Slots} {tg iter : Expr} {As : List Asr} (h : IX Y G I Γ tg iter As J) (σ : St) (H : Hp) (R : It → Hp → Prop) (k : G.Ok I Γ σ H) (q : ∀ T H1, G.To J H H1 → Walks G.U T As H1 → R T H1) : wP Y tg iter σ H R := by
  obtain ⟨wi, h1, h2⟩ := h
  exact fun pins s Iv => h1.run pins s σ H R Iv (h2 σ H R k q)
def wiB (X : Cx) (sc : Scope) (tg iter : Expr) : TI := fun σ H R => ∀ (s : Shared) (H0 : Hp) (C : Addr) (cl : List (Str × Addr)) (fp : List Addr), wP (X.blk s H0 sc (compEnvC sc cl C X.env) fp) tg iter σ H R
theorem pi_wiB {X : Cx} {sc : Scope} {tg iter : Expr} : Blk X sc fun Y => PI Y tg iter (wiB X sc tg iter) := fun s H C cl fp => ⟨fun pins s' _ _ _ I h => h s H C cl fp pins s' I⟩
theorem pe_teB {X : Cx} {sc : Scope} {elt : Expr} : Blk X sc fun Y => PE Y elt (teB X sc elt) := fun s H C cl fp => ⟨fun pins s' σ H' Q I h => h s H C cl fp pins s' I⟩
/-! ### what is added to the new list -/
structure Adds (G : Gx) (I : Iv G.M) (D : Addr) (S R : List Asr) (H H' : Hp) : Prop where
  keep : ∀ a o, ¬ G.M a → a ≠ D → H a = some o → H' a = some o
  live : ∀ a, G.U a → H' a ≠ none
  inv : I.p H'
  list : ∃ acc, H' D = some (.lst acc) ∧ AllA (S ++ R) (fz (G.lk D).U H') acc
/-- a chain of clauses adds these -/
def ChX (G : Gx) (I : Iv G.M) (D : Addr) (Γ : Slots) (t : TCh) (R : List Asr) : Prop := ∀ (σ : St) (H : Hp) (Nx : Hp → Prop) (S : List Asr), (G.lk D).Ok I Γ σ H → (∃ acc, H D = some (.lst acc) ∧ AllA S (fz (G.lk D).U H) acc) → S.length + R.length ≤ 100000 → (∀ H', Adds G I D S R H H' → Nx H') → t σ H Nx
section
variable {X : Cx} {G : Gx} {I : Iv G.M} {D : Addr} {Γ : Slots} {S R R' : List Asr} {H H' H'' : Hp}
theorem Adds.refl (l : ∀ a, G.U a → H a ≠ none) (i : I.p H) (h : ∃ acc, H D = some (.lst acc) ∧ AllA S (fz (G.lk D).U H) acc) : Adds G I D S [] H H := ⟨fun _ _ _ _ e => e, l, i, by rw [List.append_nil]; exact h⟩
theorem Adds.fz (nD : ¬ G.U D) (h : Adds G I D S R H H') : Sm (fz (G.lk D).U H) (fz (G.lk D).U H') := fun a o e => by
  obtain ⟨n, e⟩ := fz_some e
  rw [fz_neg n]
  exact h.keep a o (fun z => n (Gx.lk_U.mpr (.inl (.inl z)))) (fun z => n (Gx.lk_U.mpr (.inr z))) e
theorem Adds.trans (h : Adds G I D S R H H') (h' : Adds G I D (S ++ R) R' H' H'') : Adds G I D S (R ++ R') H H'' :=
  ⟨fun a o n d e => h'.keep a o n d (h.keep a o n d e), h'.live, h'.inv, by rw [← List.append_assoc]; exact h'.list⟩
theorem Adds.ok {σ : St} (nD : ¬ G.U D) (h0 : G.H0 D = none) (k : (G.lk D).Ok I Γ σ H) (h : Adds G I D S R H H') : (G.lk D).Ok I Γ σ H' := by
  refine ⟨fun a o n e => h.keep a o (fun z => (G.fr a z).elim n fun w => by rw [w] at e; cases e) (fun z => by rw [z, h0] at e; cases e) (k.frame a o n e), fun a u => ?_, h.inv, k.sat.mono (h.fz nD), k.len⟩
  rcases Gx.lk_U.mp u with u | u
  · exact h.live a u
  · obtain ⟨acc, e, _⟩ := h.list
    rw [u, e]; exact fun w => nomatch w
/-- the element -/
theorem chx_last {sc : Scope} {elt : Expr} {A : Asr} (nD : ¬ G.U D) (he : ∀ (s : Shared) (H : Hp) (C : Addr) (cl : List (Str × Addr)) (fp : List Addr), EX (X.blk s H sc (compEnvC sc cl C X.env) fp) (G.lk D) I Γ elt A I) : ChX G I D Γ (chLast (teB X sc elt) D) [A] := by
  intro σ H Nx S k ⟨acc, eD, ra⟩ hz q s H0 C cl fp
  refine he s H0 C cl fp σ H _ k fun H1 v t1 a1 => ?_
  have eD1 : H1 D = some (.lst acc) := t1.keep D _ (fun z => nD (.inl z)) eD
  have fzD : fz (G.lk D).U (upd H1 D (.lst (acc ++ [v]))) = L2.PL.fz (G.lk D).U H1 := by
    funext a
    by_cases z : (G.lk D).U a
    · rw [fz_pos z, fz_pos z]
    · rw [fz_neg z, fz_neg z, upd_ne fun w => z (Gx.lk_U.mpr (.inr w))]
  refine ⟨acc, eD1, ?_, q _ ⟨fun a o n d e => ?_, fun a u => ?_, ?_, acc ++ [v], upd_same, ?_⟩⟩
  · rw [ra.len, sizeLine_eq]
    have : S.length + 1 ≤ 100000 := hz
    omega
  · rw [upd_ne d]; exact t1.keep a o n e
  · by_cases z : a = D
    · rw [z, upd_same]; exact fun w => nomatch w
    · rw [upd_ne z]; exact t1.live a (Gx.lk_U.mpr (.inl u))
  · exact I.dep H1 _ (fun a m => upd_ne fun z => nD (by rw [← z]; exact .inl m)) t1.inv
  · rw [fzD]
    exact (ra.mono t1.fz).app (AllA.one a1)
/-- a clause over a list: what each item adds, one behind the other -/
theorem chx_cl {sc : Scope} {tg iter : Expr} {g : TG} {ws : List Nat} {deep : TCh} {ι : Type} {l : List ι} {fA : ι → Asr} (Γk : ι → Slots) (Rk : ι → List Asr) (nD : ¬ G.U D) (h0 : G.H0 D = none)
    (hi : ∀ (s : Shared) (H : Hp) (C : Addr) (cl : List (Str × Addr)) (fp : List Addr), IX (X.blk s H sc (compEnvC sc cl C X.env) fp) (G.lk D) I Γ tg iter (l.map fA) I) (hw : ∀ j ∈ ws, ∀ A, Γ[j]? ≠ some (some A)) (hΓ : ∀ a ∈ l, (Γk a).length = Γ.length)
    (hg : ∀ (U : Addr → Prop) a, a ∈ l → GSem U g (fA a) Γ (Γk a) ws) (hd : ∀ a ∈ l, ChX G I D (Γk a) deep (Rk a)) : ChX G I D Γ (chCl (wiB X sc tg iter) g tYes ws deep) (l.flatMap Rk) := by
  intro σ H Nx S k hacc hz q s H0 C cl fp
  refine ix_wP (hi s H0 C cl fp) σ H _ k fun J H1 t1 wk => ?_
  have k1 := k.to t1
  obtain ⟨acc, eD, ra⟩ := hacc
  have eD1 : H1 D = some (.lst acc) := t1.keep D _ (fun z => nD (.inl z)) eD
  have first : Adds G I D S [] H H1 := ⟨fun a o n _ e => t1.keep a o n e, fun a u => t1.live a (Gx.lk_U.mpr (.inl u)), t1.inv, acc, eD1, by rw [List.append_nil]; exact ra.mono t1.fz⟩
  have hlen : (l.map fA).length = l.length := List.length_map ..
  refine ⟨fun j m H2 => m = l.length - j ∧ j ≤ l.length ∧ Adds G I D S ((l.take j).flatMap Rk) H H2 ∧ Sm (fz (G.lk D).U H1) (fz (G.lk D).U H2) ∧ (G.lk D).Ok I Γ σ H2, ⟨l.length, by omega, Nat.zero_le _, first, Sm.rfl', k1⟩, ?_⟩
  rintro j m H2 ⟨rfl, hle, ad, s2, k2⟩
  by_cases hlt : j < l.length
  · have ea : l[j]? = some l[j] := List.getElem?_eq_getElem hlt
    have eA : (l.map fA)[j]? = some (fA l[j]) := by rw [List.getElem?_map, ea]; rfl
    have mem : l[j] ∈ l := List.getElem_mem hlt
    refine .inr ⟨wk.go _ H2 s2 j (by rw [hlen]; exact hlt), fun H' => j + 1 ≤ l.length ∧ Adds G I D S ((l.take (j + 1)).flatMap Rk) H H' ∧ Sm (fz (G.lk D).U H1) (fz (G.lk D).U H') ∧ (G.lk D).Ok I Γ σ H', fun H' p => ⟨l.length - (j + 1), by omega, rfl, p⟩, fun x H3 y => ?_⟩
    obtain ⟨s3, ax⟩ := wk.yld _ H2 s2 k2.live j x H3 _ eA y
    have t3 : (G.lk D).To I H2 H3 := To.sm (G := G.lk D) k2.live k2.inv s3
    have k3 := k2.to t3
    have sat3 : Sat Γ (fz (G.lk D).U H3) (wipe σ ws) := fun i A e => by
      obtain ⟨v, h1, h2⟩ := k3.sat i A e
      refine ⟨v, ?_, h2⟩
      rw [wipe_get, if_neg (fun z => hw i z.1 A e)]; exact h1
    refine hg _ _ mem x (wipe σ ws) H3 _ sat3 (by rw [wipe_length]; exact k3.len) ax fun σ2 st2 ln2 kp2 => ?_
    show wipe σ2 ws = wipe σ ws ∧ deep σ2 H3 _
    refine ⟨?_, ?_⟩
    · rw [← wipe_wipe (σ := σ)]
      exact wipe_eq (by rw [ln2, hΓ _ mem, wipe_length, ← k3.len]) kp2
    have ad3 : Adds G I D S ((l.take j).flatMap Rk) H H3 := by
      obtain ⟨acc2, e2, r2⟩ := ad.list
      exact ⟨fun a o n d e => t3.keep a o n (ad.keep a o n d e), fun a u => t3.live a (Gx.lk_U.mpr (.inl u)), t3.inv, acc2, t3.keep D _ (fun z => nD (.inl z)) e2, r2.mono t3.fz⟩
    have etake : (l.take (j + 1)).flatMap Rk = (l.take j).flatMap Rk ++ Rk l[j] := by rw [take_succ_get ea, List.flatMap_append]; simp
    refine hd _ mem σ2 H3 _ (S ++ (l.take j).flatMap Rk) ⟨k3.frame, k3.live, k3.inv, st2, ln2⟩ ad3.list ?_ fun H' ad' => ?_
    · rw [List.length_append]
      have e1 : ((l.take j).flatMap Rk).length + (Rk l[j]).length ≤ (l.flatMap Rk).length := by
        rw [← List.length_append, ← etake]
        have e2 : l.flatMap Rk = (l.take (j + 1)).flatMap Rk ++ (l.drop (j + 1)).flatMap Rk := by rw [← List.flatMap_append, List.take_append_drop]
        rw [e2, List.length_append]; omega
      omega
    · have tot := ad3.trans ad'
      rw [← etake] at tot
      refine ⟨hlt, tot, ?_, ad'.ok nD h0 k3⟩
      exact Sm.trans' s2 (Sm.trans' t3.fz (ad'.fz nD))
  · have e : j = l.length := by omega
    subst e
    rw [List.take_length] at ad
    exact .inl ⟨wk.stop _ H2 s2 _ (by rw [hlen]; exact Nat.le_refl _), q _ ad⟩
end
/-! ### the whole, as a value -/
section
variable {X : Cx} {G : Gx} {I J : Iv G.M} {Γ : Slots} {elt t0 i0 t1 i1 t2 i2 : Expr} {sc : Scope} {pos : Pos} {ι : Type} {l : List ι} {fA : ι → Asr} {g : TG} {vs : List Nat}
/-- the first clause and the new list -/
theorem outer_reads {wi : TI} {deep : Addr → TCh} (Γk : ι → Slots) (Rk : ι → List Asr)
    (hi : ∀ (σ : St) (H : Hp) (R : It → Hp → Prop), G.Ok I Γ σ H → (∀ T H1, G.To J H H1 → Walks G.U T (l.map fA) H1 → R T H1) → wi σ H R) (hw : ∀ j ∈ vs, ∀ A, Γ[j]? ≠ some (some A)) (hΓ : ∀ a ∈ l, (Γk a).length = Γ.length)
    (hg : ∀ (U : Addr → Prop) a, a ∈ l → GSem U g (fA a) Γ (Γk a) vs) (hd : ∀ D, ¬ G.U D → G.H0 D = none → ∀ a ∈ l, ChX G J D (Γk a) (deep D) (Rk a)) (hz : (l.flatMap Rk).length ≤ 100000) (σ : St) (H : Hp) (Q : VK) (k : G.Ok I Γ σ H)
    (q : ∀ H' D acc, G.To J H H' → H D = none → H' D = some (.lst acc) → AllA (l.flatMap Rk) (fz (G.lk D).U H') acc → Q (.ref D) H') : tLc3 wi g tYes vs deep σ H Q := by
  refine hi σ H _ k fun T H1 t1 wk D hD => ?_
  have k1 := k.to t1
  have nD : ¬ G.U D := fun m => t1.live D m hD
  have n0 : H D = none := none_of t1 t1.live hD
  have h0 : G.H0 D = none := by
    cases z : G.H0 D with
    | none => rfl
    | some o =>
      by_cases m : G.M0 D
      · exact absurd n0 (k.live D (.inl (G.sub D m)))
      · rw [k.frame D o m z] at n0; cases n0
  have hlen : (l.map fA).length = l.length := List.length_map ..
  have s1 : Sm (fz G.U H1) (fz (G.lk D).U (upd H1 D (.lst []))) := fz_lk hD
  have kU : (G.lk D).Ok J Γ σ (upd H1 D (.lst [])) := by
    refine ⟨fun a o n e => sm_upd hD a o (k1.frame a o n e), fun a u => ?_, J.dep H1 _ (fun a m => upd_ne fun z => nD (by rw [← z]; exact .inl m)) t1.inv, k1.sat.mono s1, k1.len⟩
    by_cases z : a = D
    · rw [z, upd_same]; exact fun w => nomatch w
    · rw [upd_ne z]
      exact (Gx.lk_U.mp u).elim (t1.live a) fun w => absurd w z
  have first : Adds G J D [] [] H1 (upd H1 D (.lst [])) := ⟨fun a o _ d e => by rw [upd_ne d]; exact e, fun a u => by
    by_cases z : a = D
    · rw [z, upd_same]; exact fun w => nomatch w
    · rw [upd_ne z]; exact t1.live a u, kU.inv, [], upd_same, rfl⟩
  refine ⟨fun j m H2 => m = l.length - j ∧ j ≤ l.length ∧ Adds G J D [] ((l.take j).flatMap Rk) H1 H2 ∧ Sm (fz G.U H1) (fz (G.lk D).U H2) ∧ (G.lk D).Ok J Γ σ H2, ⟨l.length, by omega, Nat.zero_le _, first, s1, kU⟩, ?_⟩
  rintro j m H2 ⟨rfl, hle, ad, s2, k2⟩
  by_cases hlt : j < l.length
  · have ea : l[j]? = some l[j] := List.getElem?_eq_getElem hlt
    have eA : (l.map fA)[j]? = some (fA l[j]) := by rw [List.getElem?_map, ea]; rfl
    have mem : l[j] ∈ l := List.getElem_mem hlt
    refine .inr ⟨wk.go _ H2 s2 j (by rw [hlen]; exact hlt), fun H' => j + 1 ≤ l.length ∧ Adds G J D [] ((l.take (j + 1)).flatMap Rk) H1 H' ∧ Sm (fz G.U H1) (fz (G.lk D).U H') ∧ (G.lk D).Ok J Γ σ H', fun H' p => ⟨l.length - (j + 1), by omega, rfl, p⟩, fun x H3 y => ?_⟩
    obtain ⟨s3, ax⟩ := wk.yld _ H2 s2 k2.live j x H3 _ eA y
    have t3 : (G.lk D).To J H2 H3 := To.sm (G := G.lk D) k2.live k2.inv s3
    have k3 := k2.to t3
    have sat3 : Sat Γ (fz (G.lk D).U H3) (wipe σ vs) := fun i A e => by
      obtain ⟨v, h1, h2⟩ := k3.sat i A e
      refine ⟨v, ?_, h2⟩
      rw [wipe_get, if_neg (fun z => hw i z.1 A e)]; exact h1
    refine hg _ _ mem x (wipe σ vs) H3 _ sat3 (by rw [wipe_length]; exact k3.len) ax fun σ2 st2 ln2 kp2 => ?_
    show wipe σ2 vs = wipe σ vs ∧ deep D σ2 H3 _
    refine ⟨?_, ?_⟩
    · rw [← wipe_wipe (σ := σ)]
      exact wipe_eq (by rw [ln2, hΓ _ mem, wipe_length, ← k3.len]) kp2
    have ad3 : Adds G J D [] ((l.take j).flatMap Rk) H1 H3 := by
      obtain ⟨acc2, e2, r2⟩ := ad.list
      exact ⟨fun a o n d e => t3.keep a o n (ad.keep a o n d e), fun a u => t3.live a (Gx.lk_U.mpr (.inl u)), t3.inv, acc2, t3.keep D _ (fun z => nD (.inl z)) e2, r2.mono t3.fz⟩
    have etake : (l.take (j + 1)).flatMap Rk = (l.take j).flatMap Rk ++ Rk l[j] := by rw [take_succ_get ea, List.flatMap_append]; simp
    refine hd D nD h0 _ mem σ2 H3 _ ([] ++ (l.take j).flatMap Rk) ⟨k3.frame, k3.live, k3.inv, st2, ln2⟩ ad3.list ?_ fun H' ad' => ?_
    · rw [List.nil_append, ← List.length_append, ← etake]
      have e2 : l.flatMap Rk = (l.take (j + 1)).flatMap Rk ++ (l.drop (j + 1)).flatMap Rk := by rw [← List.flatMap_append, List.take_append_drop]
      rw [e2, List.length_append] at hz; omega
    · have tot := ad3.trans ad'
      rw [← etake] at tot
      exact ⟨hlt, tot, Sm.trans' s2 (Sm.trans' t3.fz (ad'.fz nD)), ad'.ok nD h0 k3⟩
  · have e : j = l.length := by omega
    subst e
    rw [List.take_length] at ad
    obtain ⟨acc, eD, ra⟩ := ad.list
    refine .inl ⟨wk.stop _ H2 s2 _ (by rw [hlen]; exact Nat.le_refl _), q H2 D acc ⟨fun a o n e => ?_, ad.live, ad.inv⟩ n0 eD ra⟩
    have e1 := t1.keep a o n e
    exact ad.keep a o n (fun z => by rw [z, hD] at e1; cases e1) e1
end
end L2.PL
namespace L2.PL
open PySem PySem.Spec PyProof.Rows
theorem map_flat {α β : Type} (f : α → β) : ∀ l : List α, l.map f = l.flatMap fun c => [f c]
  | [] => rfl
  | a :: l => by rw [List.map_cons, List.flatMap_cons, map_flat f l]; rfl
theorem GSem.more {U : Addr → Prop} {g : TG} {A : Asr} {Γ Γ' : Slots} {vs ws : List Nat} (h : GSem U g A Γ Γ' vs) (s : ∀ i ∈ vs, i ∈ ws) : GSem U g A Γ Γ' ws := fun v σ H Q a b c q => h v σ H Q a b c fun σ' x y z => q σ' x y fun j hj => z j fun w => hj (s j w)
section
variable {X : Cx} {G : Gx} {I J : Iv G.M} {Γ : Slots} {elt i0 i1 i2 : Expr} {sc : Scope} {pos p0 p1 p2 py spos : Pos} {x0 x1 x2 y : Str} {j0 j1 j2 i : Nat} {ι κ μ : Type} {l : List ι} {m : ι → List κ} {n : ι → κ → List μ} {fA : ι → Asr} {fB : ι → κ → Asr} {fC fD : ι → κ → μ → Asr} {fE : ι → κ → Asr} {sts : List Stmt} {E : Ends}
theorem len_of {j : Nat} (h : Γ[j]? = some none) : j < Γ.length := by
  rcases Nat.lt_or_ge j Γ.length with z | z
  · exact z
  · rw [List.getElem?_eq_none z] at h; cases h
/-- [e for x0 in .. for x1 in .. for x2 in ..], one by one and pure -/
theorem nx_lc3 (hc : X.calm = true) (nd : X.N.Nodup) (hi : IX X G I Γ (.Name x0 p0) i0 (l.map fA) J) (blk : blkC X.N X.env.scope sc [(x0, j0), (x1, j1), (x2, j2)] = true) (hn : j0 ≠ j1 ∧ j0 ≠ j2 ∧ j1 ≠ j2) (w0 : Γ[j0]? = some none) (w1 : Γ[j1]? = some none) (w2 : Γ[j2]? = some none)
    (g0 : Blk X sc fun Y => PG Y (.Name x0 p0) (gName j0)) (g1 : Blk X sc fun Y => PG Y (.Name x1 p1) (gName j1)) (g2 : Blk X sc fun Y => PG Y (.Name x2 p2) (gName j2))
    (hz : (l.flatMap fun a => (m a).flatMap fun b => (n a b).map (fD a b)).length ≤ 100000)
    (h1 : ∀ D a, a ∈ l → Blk X sc fun Y => IX Y (G.lk D) J (Γ.set j0 (some (fA a))) (.Name x1 p1) i1 ((m a).map (fB a)) J)
    (h2 : ∀ D a b, a ∈ l → b ∈ m a → Blk X sc fun Y => IX Y (G.lk D) J ((Γ.set j0 (some (fA a))).set j1 (some (fB a b))) (.Name x2 p2) i2 ((n a b).map (fC a b)) J)
    (he : ∀ D a b c, a ∈ l → b ∈ m a → c ∈ n a b → Blk X sc fun Y => EX Y (G.lk D) J (((Γ.set j0 (some (fA a))).set j1 (some (fB a b))).set j2 (some (fC a b c))) elt (fD a b c) J)
    (hs : ∀ x, foldedSetIterable i0 X.env x = pure x := by intro _; rfl) (hs1 : ∀ env x, foldedSetIterable i1 env x = pure x := by intro _ _; rfl) (hs2 : ∀ env x, foldedSetIterable i2 env x = pure x := by intro _ _; rfl) :
    NX X G I Γ (.ListComp elt [⟨.Name x0 p0, i0, [], 0⟩, ⟨.Name x1 p1, i1, [], 0⟩, ⟨.Name x2 p2, i2, [], 0⟩] sc pos) (l.flatMap fun a => (m a).flatMap fun b => (n a b).map (fD a b)) J := fun σ H Q k q => by
  obtain ⟨wi, a1, a2⟩ := hi
  have keep : ∀ D, Blk X sc fun Y => Keeps Y (LC3 elt (.Name x0 p0) i0 (.Name x1 p1) i1 (.Name x2 p2) i2 [] [] [] sc pos) i1 1 D [j1, j2] (chCl (wiB X sc (.Name x1 p1) i1) (gName j1) tYes [j1, j2] (chCl (wiB X sc (.Name x2 p2) i2) (gName j2) tYes [j2] (chLast (teB X sc elt) D))) :=
    fun D s H C cl fp => keeps_mid hc rfl (pi_wiB s H C cl fp) (g1 s H C cl fp) pts_nil (hs2 _) (by simp) (keeps_last hc rfl (pi_wiB s H C cl fp) (g2 s H C cl fp) pts_nil (pe_teB s H C cl fp))
  refine PE.w (pe_lc3 (own := [(x0, j0), (x1, j1), (x2, j2)]) (ws := [j1, j2]) (g := gName j0) (tt := tYes) (deep := fun D => chCl (wiB X sc (.Name x1 p1) i1) (gName j1) tYes [j1, j2] (chCl (wiB X sc (.Name x2 p2) i2) (gName j2) tYes [j2] (chLast (teB X sc elt) D))) hc nd a1 (blkOk_by blk) g0 (fun _ _ _ _ _ => pts_nil) (by simp) keep hs hs1) ?_
  have l0 := len_of w0
  have l1 := len_of w1
  have l2 := len_of w2
  refine outer_reads (J := J) (fun a => Γ.set j0 (some (fA a))) (fun a => (m a).flatMap fun b => (n a b).map (fD a b)) a2 (fun j hj => ?_) (fun a _ => by rw [List.length_set]) (fun U a _ => (gs_name l0).more (by simp)) (fun D nD h0 a ha => ?_) hz σ H Q k q
  · have : j = j0 ∨ j = j1 ∨ j = j2 := by simpa using hj
    rcases this with rfl | rfl | rfl
    · exact not_some w0
    · exact not_some w1
    · exact not_some w2
  refine chx_cl (fun b => (Γ.set j0 (some (fA a))).set j1 (some (fB a b))) (fun b => (n a b).map (fD a b)) nD h0 (fun s H C cl fp => h1 D a ha s H C cl fp) (fun j hj => ?_) (fun b _ => by rw [List.length_set]) (fun U b _ => (gs_name (by rw [List.length_set]; exact l1)).more (by simp)) fun b hb => ?_
  · have : j = j1 ∨ j = j2 := by simpa using hj
    rcases this with rfl | rfl
    · rw [List.getElem?_set_ne hn.1]; exact not_some w1
    · rw [List.getElem?_set_ne hn.2.1]; exact not_some w2
  have e : (n a b).map (fD a b) = (n a b).flatMap fun c => [fD a b c] := map_flat _ _
  rw [e]
  refine chx_cl (fun c => ((Γ.set j0 (some (fA a))).set j1 (some (fB a b))).set j2 (some (fC a b c))) (fun c => [fD a b c]) nD h0 (fun s H C cl fp => h2 D a b ha hb s H C cl fp) (fun j hj => ?_) (fun c _ => by rw [List.length_set]) (fun U c _ => (gs_name (by rw [List.length_set, List.length_set]; exact l2)).more (by simp)) fun c hc' => chx_last nD fun s H C cl fp => he D a b c ha hb hc' s H C cl fp
  have : j = j2 := by simpa using hj
  subst this
  rw [List.getElem?_set_ne hn.2.2, List.getElem?_set_ne hn.2.1]; exact not_some w2
theorem lc2_reads (hi : ∃ wi, PI X (.Name x0 p0) i0 wi ∧ ∀ (σ : St) (H : Hp) (R : It → Hp → Prop), G.Ok I Γ σ H → (∀ T H1, G.To J H H1 → Walks G.U T (l.map fA) H1 → R T H1) → wi σ H R) (hn : j0 ≠ j1) (w0 : Γ[j0]? = some none) (w1 : Γ[j1]? = some none)
    (hz : (l.flatMap fun a => (m a).map (fE a)).length ≤ 100000)
    (h1 : ∀ D a, a ∈ l → Blk X sc fun Y => IX Y (G.lk D) J (Γ.set j0 (some (fA a))) (.Name x1 p1) i1 ((m a).map (fB a)) J)
    (he : ∀ D a b, a ∈ l → b ∈ m a → Blk X sc fun Y => EX Y (G.lk D) J ((Γ.set j0 (some (fA a))).set j1 (some (fB a b))) elt (fE a b) J) :
    ∃ wi, PI X (.Name x0 p0) i0 wi ∧ ∀ (σ : St) (H : Hp) (Q : VK), G.Ok I Γ σ H → (∀ H' D acc, G.To J H H' → H D = none → H' D = some (.lst acc) → AllA (l.flatMap fun a => (m a).map (fE a)) (fz (G.lk D).U H') acc → Q (.ref D) H') →
      tLc2 wi (gName j0) tYes (wiB X sc (.Name x1 p1) i1) (gName j1) tYes (teB X sc elt) [j0, j1] [j1] σ H Q := by
  obtain ⟨wi, a1, a2⟩ := hi
  refine ⟨wi, a1, fun σ H Q k q => ?_⟩
  have l0 := len_of w0
  have l1 := len_of w1
  have r : tLc3 wi (gName j0) tYes [j0, j1] (fun D => chCl (wiB X sc (.Name x1 p1) i1) (gName j1) tYes [j1] (chLast (teB X sc elt) D)) σ H Q := by
    refine outer_reads (J := J) (fun a => Γ.set j0 (some (fA a))) (fun a => (m a).map (fE a)) a2 (fun j hj => ?_) (fun a _ => by rw [List.length_set]) (fun U a _ => (gs_name l0).more (by simp)) (fun D nD h0 a ha => ?_) hz σ H Q k q
    · have : j = j0 ∨ j = j1 := by simpa using hj
      rcases this with rfl | rfl
      · exact not_some w0
      · exact not_some w1
    have e : (m a).map (fE a) = (m a).flatMap fun c => [fE a c] := map_flat _ _
    rw [e]
    refine chx_cl (fun b => (Γ.set j0 (some (fA a))).set j1 (some (fB a b))) (fun b => [fE a b]) nD h0 (fun s H C cl fp => h1 D a ha s H C cl fp) (fun j hj => ?_) (fun b _ => by rw [List.length_set]) (fun U b _ => (gs_name (by rw [List.length_set]; exact l1)).more (by simp)) fun b hb => chx_last nD fun s H C cl fp => he D a b ha hb s H C cl fp
    have : j = j1 := by simpa using hj
    subst this
    rw [List.getElem?_set_ne hn]; exact not_some w1
  exact r
/-- [e for x0 in .. for x1 in ..] -/
theorem nx_lc2 (hc : X.calm = true) (nd : X.N.Nodup) (hi : IX X G I Γ (.Name x0 p0) i0 (l.map fA) J) (blk : blkC X.N X.env.scope sc [(x0, j0), (x1, j1)] = true) (hn : j0 ≠ j1) (w0 : Γ[j0]? = some none) (w1 : Γ[j1]? = some none)
    (g0 : Blk X sc fun Y => PG Y (.Name x0 p0) (gName j0)) (g1 : Blk X sc fun Y => PG Y (.Name x1 p1) (gName j1)) (hz : (l.flatMap fun a => (m a).map (fE a)).length ≤ 100000)
    (h1 : ∀ D a, a ∈ l → Blk X sc fun Y => IX Y (G.lk D) J (Γ.set j0 (some (fA a))) (.Name x1 p1) i1 ((m a).map (fB a)) J)
    (he : ∀ D a b, a ∈ l → b ∈ m a → Blk X sc fun Y => EX Y (G.lk D) J ((Γ.set j0 (some (fA a))).set j1 (some (fB a b))) elt (fE a b) J)
    (hs : ∀ x, foldedSetIterable i0 X.env x = pure x := by intro _; rfl) (hs1 : ∀ env x, foldedSetIterable i1 env x = pure x := by intro _ _; rfl) :
    NX X G I Γ (.ListComp elt [⟨.Name x0 p0, i0, [], 0⟩, ⟨.Name x1 p1, i1, [], 0⟩] sc pos) (l.flatMap fun a => (m a).map (fE a)) J := fun σ H Q k q => by
  obtain ⟨wi, a1, a2⟩ := lc2_reads hi hn w0 w1 hz h1 he
  exact PE.w (pe_lc2 (own := [(x0, j0), (x1, j1)]) (vs1 := [j1]) hc nd a1 (blkOk_by blk) (by simp) g0 (fun _ _ _ _ _ => pts_nil) pi_wiB g1 (fun _ _ _ _ _ => pts_nil) pe_teB hs hs1) (a2 σ H Q k q)
/-- y = [e for x0 in .. for x1 in ..] -/
theorem sx_setLc2 (hc : X.calm = true) (nd : X.N.Nodup) (hy : X.N[i]? = some y) (hyl : X.env.scope.names.lookup y = some .local) (hl : i < Γ.length) (hi : IX X G I Γ (.Name x0 p0) i0 (l.map fA) J) (blk : blkC X.N X.env.scope sc [(x0, j0), (x1, j1)] = true) (hn : j0 ≠ j1) (w0 : Γ[j0]? = some none) (w1 : Γ[j1]? = some none)
    (g0 : Blk X sc fun Y => PG Y (.Name x0 p0) (gName j0)) (g1 : Blk X sc fun Y => PG Y (.Name x1 p1) (gName j1)) (hz : (l.flatMap fun a => (m a).map (fE a)).length ≤ 100000)
    (h1 : ∀ D a, a ∈ l → Blk X sc fun Y => IX Y (G.lk D) J (Γ.set j0 (some (fA a))) (.Name x1 p1) i1 ((m a).map (fB a)) J)
    (he : ∀ D a b, a ∈ l → b ∈ m a → Blk X sc fun Y => EX Y (G.lk D) J ((Γ.set j0 (some (fA a))).set j1 (some (fB a b))) elt (fE a b) J)
    (hr : SX X G J (Γ.set i (some (isNew (l.flatMap fun a => (m a).map (fE a))))) sts E)
    (hsw : swapsWith (.ListComp elt [⟨.Name x0 p0, i0, [], 0⟩, ⟨.Name x1 p1, i1, [], 0⟩] sc pos) (some (.Name y py)) spos.line X.env = pure true)
    (hs : ∀ x, foldedSetIterable i0 X.env x = pure x := by intro _; rfl) (hs1 : ∀ env x, foldedSetIterable i1 env x = pure x := by intro _ _; rfl) :
    SX X G I Γ (.Assign [.Name y py] (.ListComp elt [⟨.Name x0 p0, i0, [], 0⟩, ⟨.Name x1 p1, i1, [], 0⟩] sc pos) spos :: sts) E := fun σ H k => by
  obtain ⟨wi, a1, a2⟩ := lc2_reads hi hn w0 w1 hz h1 he
  exact wB_cons (PS.w (ps_setLc2 (own := [(x0, j0), (x1, j1)]) (vs1 := [j1]) hc nd hy hyl hsw a1 (blkOk_by blk) (by simp) g0 (fun _ _ _ _ _ => pts_nil) pi_wiB g1 (fun _ _ _ _ _ => pts_nil) pe_teB hs hs1) (a2 σ H _ k fun H1 D acc t1 n e a => hr _ _ ((k.to t1).setv hl (new_of k n e a))))
end
end L2.PL
namespace L2.PL
open PySem PySem.Spec PyProof.Rows
/-! ### objects of own classes -/
def Flds : List (Str × Asr) → List (Str × V) → Hp → Prop
  | [], _, _ => True
  | p :: r, fs, F => (∃ v, fs.lookup p.1 = some v ∧ p.2.p F v) ∧ Flds r fs F
theorem Flds.mono : ∀ {fl : List (Str × Asr)} {fs : List (Str × V)} {F F' : Hp}, Sm F F' → Flds fl fs F → Flds fl fs F'
  | [], _, _, _, _, _ => True.intro
  | p :: r, fs, F, F', s, ⟨⟨v, e, a⟩, h⟩ => ⟨⟨v, e, p.2.mono s a⟩, h.mono s⟩
theorem Flds.get : ∀ {fl : List (Str × Asr)} {fs : List (Str × V)} {F : Hp} {x : Str} {A : Asr}, Flds fl fs F → fl.lookup x = some A → ∃ v, fs.lookup x = some v ∧ A.p F v
  | [], _, _, _, _, _, e => by cases e
  | (y, B) :: r, fs, F, x, A, ⟨⟨v, e, a⟩, h⟩, q => by
    rw [List.lookup_cons] at q
    cases z : (x == y) with
    | true =>
      rw [z] at q
      have e1 : B = A := Option.some.inj q
      subst e1
      rw [eq_of_beq z]
      exact ⟨v, e, a⟩
    | false => rw [z] at q; exact h.get q
theorem Flds.put {f : Str} {y : V} : ∀ {fl : List (Str × Asr)} {fs : List (Str × V)} {F : Hp}, Flds fl fs F → (∀ p ∈ fl, p.1 ≠ f) → Flds fl (putF f y fs) F
  | [], _, _, _, _ => True.intro
  | p :: r, fs, F, ⟨⟨v, e, a⟩, h⟩, n => ⟨⟨v, by rw [lookup_putF, if_neg (n p List.mem_cons_self)]; exact e, a⟩, h.put fun q hq => n q (List.mem_cons_of_mem _ hq)⟩
/-- no other attributes -/
def Only (fl : List (Str × Asr)) (fs : List (Str × V)) : Prop := ∀ x, (∀ p ∈ fl, p.1 ≠ x) → fs.lookup x = none
theorem Only.put {f : Str} {y : V} {A : Asr} {fl : List (Str × Asr)} {fs : List (Str × V)} (h : Only fl fs) : Only ((f, A) :: fl) (putF f y fs) := fun x n => by
  rw [lookup_putF, if_neg fun e => n (f, A) List.mem_cons_self e.symm]
  exact h x fun p hp => n p (List.mem_cons_of_mem _ hp)
def isIns (C : Addr) (fl : List (Str × Asr)) : Asr := ⟨fun F v => ∃ a dx fs, v = .ref a ∧ F a = some (.ins C dx fs) ∧ Flds fl fs F ∧ Only fl fs, fun s ⟨a, dx, fs, e, h, f, o⟩ => ⟨a, dx, fs, e, s _ _ h, f.mono s, o⟩⟩
def isSelf (x : Addr) (fs : List (Str × V)) (fl : List (Str × Asr)) : Asr := ⟨fun F v => v = .ref x ∧ Flds fl fs F ∧ Only fl fs, fun s h => ⟨h.1, h.2.1.mono s, h.2.2⟩⟩
/-- the object while it is made -/
abbrev ivS (M : Addr → Prop) (x : Addr) (hM : M x) (C dx : Addr) (fs : List (Str × V)) : Iv M := ⟨fun H => H x = some (.ins C dx fs), fun H H' e h => by rw [e x hM]; exact h⟩
abbrev gS (U : Addr → Prop) (x : Addr) (H : Hp) : Gx := ⟨fun a => a = x, U, fun a => a = x, H, fun _ h => h, fun _ h => .inl h⟩
/-- a store into an attribute, as a target -/
def gFld (K : PySem.W.Frag) (to : TE) (f : Str) : TG := fun v σ H Q => to σ H fun o H1 => ∃ a C dx fs, o = .ref a ∧ H1 a = some (.ins C dx fs) ∧ Cls K C ∧ NoAttr K C f ∧ fs.length < 1000 ∧ Q σ (upd H1 a (.ins C dx (putF f v fs)))
theorem pg_fld {X : Cx} {o : Expr} {to : TE} {f : Str} {pos : Pos} (ho : PE X o to) : PG X (.Attribute o f pos) (gFld X.K to f) := by
  refine ⟨fun pins s σ H v u Q I r h => ?_⟩
  refine (show wpAny _ _ (do let ov ← holding [u] (eval o X.env); standAt pos.atName; holding [u, ov] (setAttr ov f u); release [u, ov] []) _ _ s from ?_)
  refine wpAny_bind (wpAny_holding (thn (ho.run pins s σ H _ I h) fun ov s1 ⟨y, H1, I1, r1, a, C, dx, fs, e1, e2, c, n, hz, q⟩ => wpAny_bind (wpAny_standAt (wpAny_bind (wpAny_holding ?_)))))
  subst e1
  cases r1
  exact setattr_ok I1 e2 c n hz r fun s2 I2 => wpAny_release ⟨σ, _, I2, q⟩
section
variable {X : Cx} {G : Gx} {I J K : Iv G.M} {Γ : Slots} {e o : Expr} {es : List Expr} {kws : List Keyword} {A B : Asr} {As : List Asr} {pos p pos' : Pos} {C : Addr} {fl : List (Str × Asr)} {f x y : Str} {sts : List Stmt} {E : Ends} {i : Nat}
/-- e.f -/
theorem ex_fldI (c : Cls X.K C) (n : NoAttr X.K C f) (he : EX X G I Γ e (isIns C fl) J) (hl : fl.lookup f = some A) (hb : attributeBase e f X.env (eval e X.env) = eval e X.env := by rfl) : EX X G I Γ (.Attribute e f pos) A J := fun σ H Q k q =>
  PE.w (pe_fld pe_wE hb) (he σ H _ k fun H1 v t1 ⟨a, dx, fs, e1, h, fd, _⟩ => by
    obtain ⟨u, hu, au⟩ := fd.get hl
    exact ⟨a, C, dx, fs, u, e1, fz_sub _ _ h, c, n, hu, q H1 u t1 au⟩)
/-- self.f, while it is made -/
theorem ex_fldS {a dx : Addr} {hM : G.M a} {fs : List (Str × V)} (c : Cls X.K C) (n : NoAttr X.K C f) (he : EX X G (ivS G.M a hM C dx fs) Γ e (isSelf a fs fl) (ivS G.M a hM C dx fs)) (hl : fl.lookup f = some A) (hb : attributeBase e f X.env (eval e X.env) = eval e X.env := by rfl) : EX X G (ivS G.M a hM C dx fs) Γ (.Attribute e f pos) A (ivS G.M a hM C dx fs) := fun σ H Q k q =>
  PE.w (pe_fld pe_wE hb) (he σ H _ k fun H1 v t1 ⟨e1, fd, _⟩ => by
    obtain ⟨u, hu, au⟩ := fd.get hl
    exact ⟨a, C, dx, fs, u, e1, t1.inv, c, n, hu, q H1 u t1 au⟩)
/-- behind a store into self -/
theorem self_put {a dx : Addr} {hM : G.M a} {fs : List (Str × V)} {σ : St} {H : Hp} {v : V} (k : G.Ok (ivS G.M a hM C dx fs) Γ σ H) (hi : Γ[i]? = some (some (isSelf a fs fl))) (hv : A.p (fz G.U H) v) (hn : ∀ p ∈ fl, p.1 ≠ f) : G.Ok (ivS G.M a hM C dx (putF f v fs)) (Γ.set i (some (isSelf a (putF f v fs) ((f, A) :: fl)))) σ (upd H a (.ins C dx (putF f v fs))) := by
  have fzD : fz G.U (upd H a (.ins C dx (putF f v fs))) = fz G.U H := by
    funext b
    by_cases z : G.U b
    · rw [fz_pos z, fz_pos z]
    · rw [fz_neg z, fz_neg z, upd_ne fun w => z (by rw [w]; exact .inl hM)]
  have hl : i < Γ.length := by
    rcases Nat.lt_or_ge i Γ.length with z | z
    · exact z
    · rw [List.getElem?_eq_none z] at hi; cases hi
  refine ⟨fun b u m eb => ?_, fun b u => ?_, upd_same, ?_, by rw [List.length_set]; exact k.len⟩
  · by_cases z : b = a
    · subst z
      rcases G.fr b hM with q | q
      · exact absurd q m
      · rw [q] at eb; cases eb
    · rw [upd_ne z]; exact k.frame b u m eb
  · by_cases z : b = a
    · rw [z, upd_same]; exact fun w => nomatch w
    · rw [upd_ne z]; exact k.live b u
  · rw [fzD]
    intro j B ej
    by_cases q : i = j
    · subst q
      rw [List.getElem?_set_self hl] at ej
      cases ej
      obtain ⟨w, e1, e2, e3, e4⟩ := k.sat i _ hi
      exact ⟨w, e1, e2, ⟨⟨v, by rw [lookup_putF, if_pos rfl], hv⟩, e3.put hn⟩, e4.put⟩
    · rw [List.getElem?_set_ne q] at ej
      exact k.sat j B ej
/-- self.f = e -/
theorem sx_fldS {a dx : Addr} {hM : G.M a} {fs : List (Str × V)} (i : Nat) (c : Cls X.K C) (n : NoAttr X.K C f) (he : EX X G (ivS G.M a hM C dx fs) Γ e A (ivS G.M a hM C dx fs)) (ho : EX X G (ivS G.M a hM C dx fs) Γ o (isSelf a fs fl) (ivS G.M a hM C dx fs)) (hi : Γ[i]? = some (some (isSelf a fs fl))) (hz : fs.length < 1000) (hn : ∀ p ∈ fl, p.1 ≠ f)
    (hr : ∀ v, SX X G (ivS G.M a hM C dx (putF f v fs)) (Γ.set i (some (isSelf a (putF f v fs) ((f, A) :: fl)))) sts E) (hs : swapsWith e (some (.Attribute o f pos')) pos.line X.env = pure false := by rfl) :
    SX X G (ivS G.M a hM C dx fs) Γ (.Assign [.Attribute o f pos'] e pos :: sts) E := fun σ H k =>
  wB_cons (PS.w (ps_fld pe_wE pe_wE hs) (he σ H _ k fun H1 v t1 a1 => ho σ H1 _ (k.to t1) fun H2 w t2 ⟨e1, _⟩ =>
    ⟨a, C, dx, fs, e1, t2.inv, c, n, hz, hr v _ _ (self_put ((k.to t1).to t2) hi (A.mono t2.fz a1) hn)⟩))
/-- x, self.f = e -/
theorem sx_tupF {a dx : Addr} {hM : G.M a} {fs : List (Str × V)} {j : Nat} {px pf pt : Pos} {kt} (i : Nat) (hc : X.calm = true) (nd : X.N.Nodup) (hj : X.N[j]? = some x) (hx : Loc X.env.scope x) (hf : X.fn x = true ∨ X.env.scope.names.lookup x = some .local) (hl : j < Γ.length) (hij : i ≠ j) (c : Cls X.K C) (n : NoAttr X.K C f) (he : EX X G (ivS G.M a hM C dx fs) Γ e (isTup X.K [B, A]) (ivS G.M a hM C dx fs))
    (ho : EX X G (ivS G.M a hM C dx fs) (Γ.set j (some B)) o (isSelf a fs fl) (ivS G.M a hM C dx fs)) (hi : Γ[i]? = some (some (isSelf a fs fl))) (hz : fs.length < 1000) (hn : ∀ p ∈ fl, p.1 ≠ f)
    (hr : ∀ v, SX X G (ivS G.M a hM C dx (putF f v fs)) ((Γ.set j (some B)).set i (some (isSelf a (putF f v fs) ((f, A) :: fl)))) sts E)
    (hs : swapsWithSole [.Tuple [.Name x px, .Attribute o f pf] kt pt] e pos.line X.env = pure false := by rfl) (hw : swappedStores [.Tuple [.Name x px, .Attribute o f pf] kt pt] e X.env = pure none := by rfl)
    (h1 : (assignEach [.Tuple [.Name x px, .Attribute o f pf] kt pt] X.env).map (·.2) = [assign (.Tuple [.Name x px, .Attribute o f pf] kt pt) X.env] := by rfl) :
    SX X G (ivS G.M a hM C dx fs) Γ (.Assign [.Tuple [.Name x px, .Attribute o f pf] kt pt] e pos :: sts) E := fun σ H k =>
  wB_cons (PS.w (ps_asg pe_wE (pg_tup hc (pgs_cons (pg_name (i := j) nd hj hx hf) (pgs_cons (pg_fld pe_wE) pgs_nil))) hs hw h1) (he σ H _ k fun H1 v t1 ⟨tp, ws, e1, hq, v1, r1, e2, b1, v2, r2, e3, a1, e4⟩ => by
    subst e4; subst e3; subst e2; subst e1
    have k1 := (k.to t1).setv hl b1
    refine ⟨tp, _, rfl, SqT.mono fz_sub hq, rfl, v1, _, rfl, v2, _, rfl, ho _ H1 _ k1 fun H2 w t2 ⟨e5, _⟩ => ?_⟩
    have hi' : (Γ.set j (some B))[i]? = some (some (isSelf a fs fl)) := by rw [List.getElem?_set_ne fun z => hij z.symm]; exact hi
    exact ⟨a, C, dx, fs, e5, t2.inv, c, n, hz, rfl, hr v2 _ _ (self_put (k1.to t2) hi' (A.mono t2.fz a1) hn)⟩))
/-! ### making, methods, properties, calls -/
/-- what an __init__ promises -/
def spI {ι : Type} (C : Addr) (dom : ι → List Asr) (ok : ι → Prop) (fl : ι → List (Str × Asr)) : Sp := fun vs H Q _ => ∃ (U : Addr → Prop) (i : ι) (x dx : Addr) (vs' : List V), vs = .ref x :: vs' ∧ (∀ a, U a → H a ≠ none) ∧ ¬ U x ∧ ok i ∧ H x = some (.ins C dx []) ∧ AllA (dom i) (fz (fun a => U a ∨ a = x) H) vs' ∧
  ∀ H' fs, (∀ a o, a ≠ x → H a = some o → H' a = some o) → H' x = some (.ins C dx fs) → Flds (fl i) fs (fz (fun a => U a ∨ a = x) H') → Only (fl i) fs → Q .non H'
structure HasI (Pr : Program) (w : World) (K : PySem.W.Frag) (mg : Str → Option Value) (base : Heap) (C : Addr) (x : Str) (ps : List Str) (sp : Sp) (k : Nat) : Prop where
  ex : ∃ (f : Addr) (fd : FuncData), FnOk Pr w K mg base CX0 k f fd ps sp ∧ Mk K C f ∧ mg x = some (.ref C) ∧ Binds K fd ps []
theorem ex_makeI {Pr : Program} {w : World} {K0 : PySem.W.Frag} {mg : Str → Option Value} {base : Heap} {ι : Type} {dom : ι → List Asr} {ok : ι → Prop} {fl : ι → List (Str × Asr)} {ps : List Str} {k : Nat} (Z : HasI Pr w K0 mg base C x ps (spI C dom ok fl) k) (hr : Room (k + 1) X.A) (i : ι) (ha : AX X G I Γ (e :: es) (dom i) J) (hok : ok i) (hg : Gl X x := by rfl) (e1 : X.prog = Pr := by rfl) (e2 : X.w = w := by rfl) (e3 : X.K = K0 := by rfl) (e4 : X.mg = mg := by rfl) (e5 : X.base = base := by rfl) (hdb : (x == ("__debug__" : Str)) = false := by decide)
    (he : starEach (e :: es) X.env = (false, eval e X.env) :: starEach es X.env := by rfl) (hpl : (backTo pos (starEach es X.env)).any (·.1) = false := by rfl) : EX X G I Γ (.Call (.Name x p) (e :: es) [] pos) (isIns C (fl i)) J := by
  subst e1 e2 e3 e4 e5
  obtain ⟨f, fd, F, M, hm, hb⟩ := Z.ex
  exact fun σ H Q kk q => PE.w (pe_make (E := fun _ _ _ => False) M F hr hg hm hb .nil pass0 pa_wA hdb he hpl) (ha σ H _ kk fun H1 vs t1 r a dx na nd ne => by
    rw [List.append_nil]
    have nU : ¬ G.U a := fun z => t1.live a z na
    have nUd : ¬ G.U dx := fun z => t1.live dx z nd
    have up : ∀ b o, H1 b = some o → upd (upd H1 dx (.own a)) a (.ins C dx []) b = some o := fun b o eb => by
      rw [upd_ne (fun z => by rw [z, na] at eb; cases eb), upd_ne (fun z => by rw [z, nd] at eb; cases eb)]; exact eb
    have s1 : Sm (fz G.U H1) (fz (fun b => G.U b ∨ b = a) (upd (upd H1 dx (.own a)) a (.ins C dx []))) := fun b o eb => by
      obtain ⟨nb, eb⟩ := fz_some eb
      rw [fz_neg fun z => z.elim nb fun z => by rw [z, na] at eb; cases eb]
      exact up b o eb
    refine ⟨G.U, i, a, dx, vs, rfl, fun b u => ?_, nU, hok, upd_same, r.mono s1, fun H' fs kp eo fd' on => ⟨rfl, q H' (.ref a) (t1.trans ⟨fun b o _ eb => ?_, fun b u => ?_, ?_⟩) ⟨a, dx, fs, rfl, by rw [fz_neg nU]; exact eo, fd'.mono (fz_less fun b z => .inl z), on⟩⟩⟩
    · cases z : H1 b with
      | none => exact absurd z (t1.live b u)
      | some o => rw [up b o z]; exact fun w => nomatch w
    · exact kp b o (fun z => by rw [z, na] at eb; cases eb) (up b o eb)
    · cases z : H1 b with
      | none => exact absurd z (t1.live b u)
      | some o => rw [kp b o (fun z' => by rw [z', na] at z; cases z) (up b o z)]; exact fun w => nomatch w
    · refine J.dep H1 H' (fun b m => ?_) t1.inv
      cases z : H1 b with
      | none => exact absurd z (t1.live b (.inl m))
      | some o => exact kp b o (fun z' => by rw [z', na] at z; cases z) (up b o z))
/-- a method -/
structure HasM (Pr : Program) (w : World) (K : PySem.W.Frag) (mg : Str → Option Value) (base : Heap) (C : Addr) (m : Str) (ps : List Str) (sp : Sp) (k : Nat) : Prop where
  ex : ∃ (f : Addr) (fd : FuncData), FnOk Pr w K mg base CX0 k f fd ps sp ∧ Meth K C m f ∧ Binds K fd ps []
theorem ex_methI {Pr : Program} {w : World} {K0 : PySem.W.Frag} {mg : Str → Option Value} {base : Heap} {ι : Type} {dom : ι → List Asr} {ok : ι → Prop} {cod : ι → Asr} {ps : List Str} {k : Nat} {m : Str} {apos : Pos} {pl : Sem Bool} (Z : HasM Pr w K0 mg base C m ps (spF (fun i => isIns C fl :: dom i) ok cod) k) (c : Cls K0 C) (hn : ∀ p ∈ fl, p.1 ≠ m) (hr : Room k X.A) (ho : EX X G I Γ o (isIns C fl) J) (i : ι) (ha : AX X G J Γ (e :: es) (dom i) K) (hok : ok i) (e1 : X.prog = Pr := by rfl) (e2 : X.w = w := by rfl) (e3 : X.K = K0 := by rfl) (e4 : X.mg = mg := by rfl) (e5 : X.base = base := by rfl)
    (hst : starEach (e :: es) X.env = (false, eval e X.env) :: starEach es X.env := by rfl) (hpl : (backTo pos (starEach es X.env)).any (·.1) = false := by rfl)
    (ht : eval (.Call (.Attribute o m apos) (e :: es) [] pos) X.env = (do
      let ov ← eval o X.env
      standAt apos.atName
      let (f, first) ← holding [ov] (getMethod ov m pl)
      callWith pos f first (backTo pos (starEach (e :: es) X.env)) (backToKw pos (keywordEach [] X.env))) := by rfl) : EX X G I Γ (.Call (.Attribute o m apos) (e :: es) [] pos) (cod i) K := by
  subst e1 e2 e3 e4 e5
  obtain ⟨f, fd, F, hm, hb⟩ := Z.ex
  exact fun σ H Q kk q => PE.w (pe_meth (pl := pl) (E := fun _ _ _ => False) pe_wE c hm F hr hb .nil pass0 pa_wA hst hpl ht) (ho σ H _ kk fun H1 v t1 ⟨a, dx, fs, e1, h, fd', on⟩ => ⟨a, dx, fs, e1, fz_sub _ _ h, on m hn, ha σ H1 _ (kk.to t1) fun H2 vs t2 r => by
    rw [List.append_nil]
    exact ⟨G.U, i, t2.live, hok, ⟨v, vs, rfl, (isIns C fl).mono t2.fz ⟨a, dx, fs, e1, h, fd', on⟩, r⟩, fun H' u s cd => q H' u ((t1.trans t2).trans (To.sm t2.live t2.inv s)) cd⟩⟩)
/-- a property -/
structure HasP (Pr : Program) (w : World) (K : PySem.W.Frag) (mg : Str → Option Value) (base : Heap) (C : Addr) (f : Str) (ps : List Str) (sp : Sp) (k : Nat) : Prop where
  ex : ∃ (p g : Addr) (fd : FuncData), FnOk Pr w K mg base CX0 k g fd ps sp ∧ PropOf K C f p g ∧ Binds K fd ps []
theorem ex_propI {Pr : Program} {w : World} {K0 : PySem.W.Frag} {mg : Str → Option Value} {base : Heap} {ι : Type} {fl : ι → List (Str × Asr)} {ok : ι → Prop} {cod : ι → Asr} {ps : List Str} {k : Nat} (Z : HasP Pr w K0 mg base C f ps (spF (fun i => [isIns C (fl i)]) ok cod) k) (c : Cls K0 C) (hr : Room (k + 1) X.A) (i : ι) (ho : EX X G I Γ o (isIns C (fl i)) J) (hok : ok i) {A : Asr} (hA : cod i = A := by exact rfl) (e1 : X.prog = Pr := by rfl) (e2 : X.w = w := by rfl) (e3 : X.K = K0 := by rfl) (e4 : X.mg = mg := by rfl) (e5 : X.base = base := by rfl)
    (hab : attributeBase o f X.env (eval o X.env) = eval o X.env := by rfl) : EX X G I Γ (.Attribute o f pos) A J := by
  subst hA e1 e2 e3 e4 e5
  obtain ⟨p, g, fd, F, hp, hb⟩ := Z.ex
  exact fun σ H Q kk q => PE.w (pe_prop (E := fun _ _ _ => False) pe_wE c hp F hr hb .nil (fun _ _ _ _ _ _ _ z => z) hab) (ho σ H _ kk fun H1 v t1 ⟨a, dx, fs, e1, h, fd', on⟩ => ⟨a, dx, fs, e1, fz_sub _ _ h, by
    subst e1
    exact ⟨G.U, i, t1.live, hok, ⟨_, [], rfl, ⟨a, dx, fs, rfl, h, fd', on⟩, rfl⟩, fun H' u s cd => q H' u (t1.trans (To.sm t1.live t1.inv s)) cd⟩⟩)
end
/-! ### an object is called -/
section
variable {X : Cx} {G : Gx} {I J K : Iv G.M} {Γ : Slots} {e : Expr} {es : List Expr} {kws : List Keyword} {As : List Asr} {pos p : Pos} {C : Addr} {fl : List (Str × Asr)} {x : Str}
/-- from the arguments to the call, whatever object stands there -/
theorem called_ins {M : Model} {A : Around} {E : Value → Shared → Prop} {s : Shared} {a C : Addr} {args : List (Bool × Sem Value)} {kw : List (Option Str × Sem Value)} {Q : Value → Shared → Prop} (hpl : (args.any (·.1) || kw.any (·.1.isNone)) = false)
    (h : wpAny M A (evalArgs (.ref a) true args kw) (fun z s1 => (∃ ox od, PySem.W.InstAt s1.heap a ox C od ∧ ox.data = .plain) ∧ wpAny M A (call (.ref a) z.pos z.kw) Q E s1) E s) : wpAny M A (callWith pos (.ref a) [] args kw) Q E s := by
  unfold callWith
  refine wpAny_bind (wpAny_holding (wpAny_mono h (fun z s1 ⟨⟨ox, od, i1, i2⟩, h1⟩ => wpAny_bind (wpAny_standAt ?_)) fun _ _ y => y))
  simp only [hpl]
  refine wpAny_bind ((PySem.W.kco_keeper (M := M) i1 i2).here (wpAny_bind (wpAny_mono (wpAny_operateT (Q := Q) h1) (fun r s2 hr => wpAny_bind (wpAny_holding (wpAny_point (wpAny_pure hr)))) fun _ _ y => y)))
structure HasC (Pr : Program) (w : World) (K : PySem.W.Frag) (mg : Str → Option Value) (base : Heap) (C : Addr) (ps ks : List Str) (g : List Value → List Value) (gV : List V → List V) (sp : Sp) (k : Nat) : Prop where
  ex : ∃ (f : Addr) (fd : FuncData), FnOk Pr w K mg base CX0 k f fd ps sp ∧ PySem.W.findIn K (.ref C) "__call__" = some (some (.ref f)) ∧ PySem.W.isFn K (.ref f) = true ∧ PySem.W.fnIn K f = true ∧ Binds K fd ps [] ∧ KBn K fd ps 1 ks (fun us ws => us ++ g ws) (fun us zs => us ++ gV zs)
theorem run_callI {f : Addr} {fd : FuncData} {ps : List Str} {sp : Sp} {k : Nat} {pins : List (Addr × Obj)} {σ : St} {H : Hp} {s : Shared} {Q : VK} {us us' : List Value} {kw : List (Str × Value)} {vs : List V} {a dx : Addr} {fs : List (Str × V)} (F : FnOk X.prog X.w X.K X.mg X.base CX0 k f fd ps sp) (hs : PySem.W.findIn X.K (.ref C) "__call__" = some (some (.ref f))) (hf : PySem.W.isFn X.K (.ref f) = true) (hfn : PySem.W.fnIn X.K f = true) (hr : Room k X.A)
    (I : Inv X pins σ H s) (e : H a = some (.ins C dx fs)) (r : Vals vs us') (hb : BindsTo s fd ⟨.ref a :: us, kw⟩ (ps.zip (.ref a :: us'))) (h : sp (.ref a :: vs) H Q fun _ _ _ => False) : wpAny (model X.prog X.w) X.A (call (.ref a) us kw) (EP X pins σ Q) X.xe s := by
  obtain ⟨mA, O, _, _, _, _⟩ := ins_get I.hok e
  obtain ⟨od, J, _⟩ := O.look
  refine wpAny_call (PySem.W.kco_code I.kIn J rfl hs hf hfn (codeAny_mono (F.run X.A X.stack s H ⟨.ref a :: us, kw⟩ (.ref a :: us') (.ref a :: vs) Q (fun _ _ _ => False) hr I.env0 hb (.cons rfl r) h) fun r s' hq => ?_))
  match r, hq with
  | .error z, hq => exact hq.elim
  | .ok (.ret u), hq => exact I.after hq
  | .ok .next, hq => exact hq.elim
  | .ok .brk, hq => exact hq.elim
  | .ok .cont, hq => exact hq.elim
theorem ex_callI {Pr : Program} {w : World} {K0 : PySem.W.Frag} {mg : Str → Option Value} {base : Heap} {ι : Type} {dom : ι → List Asr} {ok : ι → Prop} {cod : ι → Asr} {ps ks : List Str} {k : Nat} {g : List Value → List Value} {gV : List V → List V} (Z : HasC Pr w K0 mg base C ps ks g gV (spF (fun i => isIns C fl :: dom i) ok cod) k) (hr : Room k X.A) (ho : EX X G I Γ (.Name x p) (isIns C fl) J) (i : ι) (ha : AX X G J Γ (e :: es) (dom i) K) (hok : ok i) {A : Asr} (hA : cod i = A := by exact rfl) (e1 : X.prog = Pr := by rfl) (e2 : X.w = w := by rfl) (e3 : X.K = K0 := by rfl) (e4 : X.mg = mg := by rfl) (e5 : X.base = base := by rfl)
    (hst : starEach (e :: es) X.env = (false, eval e X.env) :: starEach es X.env := by rfl) (hpl : (backTo pos (starEach es X.env)).any (·.1) = false := by rfl) : EX X G I Γ (.Call (.Name x p) (e :: es) [] pos) A K := by
  subst hA e1 e2 e3 e4 e5
  obtain ⟨f, fd, F, hs, hf, hfn, hb, _⟩ := Z.ex
  refine fun σ H Q kk q pins s Iv => wpAny_Call_Name_kw (thn (ho σ H (fun v H1 => G.To J H H1 ∧ (isIns C fl).p (fz G.U H1) v) kk (fun H1 v t a => ⟨t, a⟩) pins s Iv) fun u s1 ⟨v, H1, I1, r1, t1, a, dx, fs, e1, h, fd', on⟩ => ?_)
  subst e1
  cases r1
  have ev := ha σ H1 (fun vs H2 => G.To K H1 H2 ∧ AllA (dom i) (fz G.U H2) vs) (kk.to t1) (fun H2 vs t r => ⟨t, r⟩) pos pins s1 I1
  rw [hst] at ev
  refine called_ins (C := C) (by rw [hst]; show ((false || (backTo pos (starEach es X.env)).any (·.1)) || false) = false; rw [hpl]; rfl) ?_
  rw [hst]
  refine Calls.evalArgs_plain (thn ev fun us s2 ⟨vs, H2, I2, r2, t2, ra⟩ => ?_)
  have hI := (isIns C fl).mono t2.fz ⟨a, dx, fs, rfl, h, fd', on⟩
  have ea : H2 a = some (.ins C dx fs) := by
    obtain ⟨_, ea⟩ := fz_some (t2.fz _ _ h)
    exact ea
  obtain ⟨mA, O, _, _, _, _⟩ := ins_get I2.hok ea
  obtain ⟨od, Jt, _⟩ := O.look
  refine ⟨⟨_, _, Jt, rfl⟩, run_callI (vs := vs) (us := us) (us' := us) F hs hf hfn hr I2 ea r2 ?_ ⟨G.U, i, t2.live, hok, ⟨_, vs, rfl, hI, ra⟩, fun H' u s cd => q H' u ((t1.trans t2).trans (To.sm t2.live t2.inv s)) cd⟩⟩
  have hb2 := hb s2 (.ref a :: us) I2.kIn (by
    rw [List.append_nil]
    have e1 := F.len (V.ref a :: vs) H2 (fun _ _ => True) (fun _ _ _ => False) ⟨G.U, i, t2.live, hok, ⟨_, vs, rfl, hI, ra⟩, fun _ _ _ _ => trivial⟩
    rw [← e1, List.length_cons, List.length_cons, r2.length])
  rw [List.append_nil] at hb2
  exact hb2
theorem ex_callIK {Pr : Program} {w : World} {K0 : PySem.W.Frag} {mg : Str → Option Value} {base : Heap} {ι : Type} {dom : ι → List Asr} {ok : ι → Prop} {cod : ι → Asr} {ps ks : List Str} {k : Nat} {g : List Value → List Value} {gV : List V → List V} {gA : List Asr → List Asr} (Z : HasC Pr w K0 mg base C ps ks g gV (spF (fun i => isIns C fl :: dom i) ok cod) k) (hr : Room k X.A) (ho : EX X G I Γ (.Name x p) (isIns C fl) J) (i : ι) (ha : KX X G J Γ kws As K) (hA' : gA As = dom i) (hl : As.length = ks.length) (hgA : ∀ F vs, AllA As F vs → AllA (gA As) F (gV vs)) (hok : ok i) {A : Asr} (hA : cod i = A := by exact rfl) (e1 : X.prog = Pr := by rfl) (e2 : X.w = w := by rfl) (e3 : X.K = K0 := by rfl) (e4 : X.mg = mg := by rfl) (e5 : X.base = base := by rfl)
    (hall : (backToKw pos (keywordEach kws X.env)).all (·.1.isSome) = true := by rfl) (hks : (backToKw pos (keywordEach kws X.env)).filterMap (·.1) = ks := by rfl)
    (hpl : ((backTo pos (starEach [] X.env)).any (·.1) || (backToKw pos (keywordEach kws X.env)).any (·.1.isNone)) = false := by rfl) : EX X G I Γ (.Call (.Name x p) [] kws pos) A K := by
  subst hA e1 e2 e3 e4 e5
  obtain ⟨f, fd, F, hs, hf, hfn, _, hb⟩ := Z.ex
  refine fun σ H Q kk q pins s Iv => wpAny_Call_Name_kw (thn (ho σ H (fun v H1 => G.To J H H1 ∧ (isIns C fl).p (fz G.U H1) v) kk (fun H1 v t a => ⟨t, a⟩) pins s Iv) fun u s1 ⟨v, H1, I1, r1, t1, a, dx, fs, e1, h, fd', on⟩ => ?_)
  subst e1
  cases r1
  have ev := ha σ H1 (fun vs H2 => G.To K H1 H2 ∧ AllA As (fz G.U H2) vs) (kk.to t1) (fun H2 vs t r => ⟨t, r⟩) pos pins s1 I1
  refine called_ins (C := C) hpl (evalArgs_kw2_nil hall (thn ev fun us s2 ⟨vs, H2, I2, r2, t2, ra⟩ => ?_))
  have hI := (isIns C fl).mono t2.fz ⟨a, dx, fs, rfl, h, fd', on⟩
  have ea : H2 a = some (.ins C dx fs) := by
    obtain ⟨_, ea⟩ := fz_some (t2.fz _ _ h)
    exact ea
  obtain ⟨mA, O, _, _, _, _⟩ := ins_get I2.hok ea
  obtain ⟨od, Jt, _⟩ := O.look
  rw [hks]
  have rel := hb.rel (us := [Value.ref a]) (vs := [V.ref a]) (.cons rfl .nil) r2
  have rel2 : Vals (gV vs) (g us) := by cases rel with | cons _ z => exact z
  refine ⟨⟨_, _, Jt, rfl⟩, run_callI (vs := gV vs) (us := []) (us' := g us) F hs hf hfn hr I2 ea rel2 ?_ ⟨G.U, i, t2.live, hok, ⟨_, gV vs, rfl, hI, hA' ▸ hgA _ _ ra⟩, fun H' u s cd => q H' u ((t1.trans t2).trans (To.sm t2.live t2.inv s)) cd⟩⟩
  exact hb.to s2 [.ref a] us I2.kIn rfl (by rw [← r2.length, ra.len, hl])
end
end L2.PL
namespace L2.PL
open PySem PySem.Spec PyProof.Rows
/-! ### what an __init__ does -/
section
variable {Pr : Program} {w : World} {K : PySem.W.Frag} {mg : Str → Option Value} {base : Heap} {x qual : Str} {st : Stmt} {f : Addr} {fd : FuncData} {N ps : List Str} {k : Nat}
theorem fn_init {ι : Type} {C : Addr} {dom : ι → List Asr} {ok : ι → Prop} {fl : ι → List (Str × Asr)} (F : Fun K x qual st f fd) (S : FnScope N ps (defScope st)) (hl : ∀ i, (dom i).length + 1 = ps.length)
    (h : ∀ (cdv : Value) (A : Around) (outer : List Env) (s : Shared) (H : Hp) (E : XK) (U : Addr → Prop) (x0 dx : Addr) (i : ι) (Q : VK), Room k (A.deeper (envOfC qual (defScope st) s.heap.objs.size f cdv)) → ok i →
      (∀ Γ σ H' fs, (gS U x0 H).Ok (ivS (gS U x0 H).M x0 rfl C dx fs) Γ σ H' → Γ[0]? = some (some (isSelf x0 fs (fl i))) → Q .non H') →
      SX (cxF Pr w K mg base N qual (defScope st) f cdv A outer s H E) (gS U x0 H) (ivS (gS U x0 H).M x0 rfl C dx []) ((isSelf x0 [] [] :: dom i).map some ++ List.replicate (N.length - ps.length) none) (defBody st) (retE Q)) :
    FnOk Pr w K mg base CX0 (k + 1) f fd ps (spI C dom ok fl) := by
  have hpl : ps.length ≤ N.length := by have := congrArg List.length S.pre; rw [List.length_take] at this; omega
  refine F.ok S (fun vs H Q E ⟨U, i, x0, dx, vs', e, _, _, _, _, r, _⟩ => by rw [e, List.length_cons, r.len, hl]) fun cdv A outer s H vs Q E hr ⟨U, i, x0, dx, vs', e, l, nU, o, ex, r, q⟩ => ⟨_, pss_wB, ?_⟩
  subst e
  have sw : ∀ {H : Hp}, Sm (fz (fun a => U a ∨ a = x0) H) (fz (gS U x0 H).U H) := fun {H} => fz_less fun a z => z.elim .inr .inl
  have sw2 : ∀ {H H' : Hp}, Sm (fz (gS U x0 H).U H') (fz (fun a => U a ∨ a = x0) H') := fun {H H'} => fz_less fun a z => z.elim .inr .inl
  refine h cdv A outer s H E U x0 dx i _ hr o ?_ _ _ ⟨fun a o _ e => e, fun a u => ?_, ex, ?_, ?_⟩
  · intro Γ σ H' fs kk e0
    obtain ⟨v, _, e1, e2, e3⟩ := kk.sat 0 _ e0
    exact q H' fs (fun a o n e => kk.frame a o n e) kk.inv (e2.mono sw2) e3
  · rcases u with u | u
    · rw [u, ex]; exact fun w => nomatch w
    · exact l a u
  · have r2 : AllA (isSelf x0 [] [] :: dom i) (fz (gS U x0 H).U H) (.ref x0 :: vs') := ⟨_, _, rfl, ⟨rfl, True.intro, fun _ _ => rfl⟩, r.mono sw⟩
    have := start_sat (N := N) r2
    rw [List.length_cons, hl i] at this
    exact this
  · show (start N (.ref x0 :: vs')).length = _
    unfold start
    rw [List.length_append, List.length_append, List.length_map, List.length_map, List.length_replicate, List.length_replicate, List.length_cons, List.length_cons, r.len, hl]
end
section
variable {X : Cx} {G : Gx} {I J K L : Iv G.M} {Γ : Slots} {e lo hi : Expr} {As : List Asr} {pos p2 : Pos}
theorem AllA.cut {F : Hp} {vs : List V} (h : AllA As F vs) (a b : Nat) (hab : a ≤ b) (hb : b ≤ As.length) : AllA ((As.drop a).take (b - a)) F (cutV vs (some (a : Int)) (some (b : Int))) := by
  unfold cutV
  rw [HT.sIx_nat, HT.sIx_nat, h.len, Nat.min_eq_left hb, Nat.min_eq_left (Nat.le_trans hab hb)]
  exact (h.drop a).take _
/-- e[lo:hi] of a list -/
theorem ex_slice {a b : Nat} (he : EX X G I Γ e (isLst X.K As) J) (hl : EX X G J Γ lo (aInt (a : Int)) K) (hu : EX X G K Γ hi (aInt (b : Int)) L) (hab : a ≤ b) (hb : b ≤ As.length) : EX X G I Γ (.Subscript e (.Slice (some lo) (some hi) none p2) pos) (isNew ((As.drop a).take (b - a))) L := fun σ H Q k q =>
  PE.w (pe_slice sl_list pe_wE (po_some pe_wE) (po_some pe_wE)) (he σ H _ k fun H1 v t1 a1 => hl σ H1 _ (k.to t1) fun H2 vl t2 al => by
    cases al
    refine ⟨_, rfl, hu σ H2 _ ((k.to t1).to t2) fun H3 vu t3 au => ?_⟩
    cases au
    obtain ⟨p, xs, e1, h, r⟩ := (isLst X.K As).mono (t2.trans t3).fz a1
    subst e1
    refine ⟨_, rfl, p, xs, rfl, SqL.mono fz_sub h, fun z hz => q _ _ (((t1.trans t2).trans t3).new' hz) ⟨z, _, rfl, fz_new t3.live hz, ?_⟩⟩
    exact (r.mono (Gx.To.new t3.live t3.inv hz).fz).cut a b hab hb)
end
end L2.PL
namespace L2.PL
open PySem PySem.Spec PyProof.Rows
section
variable {X : Cx} {G G' : Gx} {I J K : Iv G.M} {Γ : Slots} {c a b : Expr} {rest : List Expr} {pos : Pos} {body orelse sts : List Stmt} {P : Bool → Prop} {D : Ends}
/-- both branches come to the same, and from there on -/
theorem sx_ifK {ι : Type} (Px : ι → Prop) (Jx : ι → Iv G'.M) (Γx : ι → Slots) (hc : TX X G I Γ c P J)
    (h : ∀ N : St → Hp → Prop, (∀ x, Px x → ∀ σ H, G'.Ok (Jx x) (Γx x) σ H → N σ H) → (P true → SX X G J Γ body { D with nx := N }) ∧ (P false → SX X G J Γ orelse { D with nx := N }))
    (hr : ∀ x, Px x → SX X G' (Jx x) (Γx x) sts D) : SX X G I Γ (.If c body orelse pos :: sts) D :=
  sx_if hc (fun p => (h _ fun x px σ H k => hr x px σ H k).1 p) (fun p => (h _ fun x px σ H k => hr x px σ H k).2 p)
theorem own_more {M : Addr → Prop} {I J : Iv M} {D : Addr} {vs : List V} (h : ∀ H, I.p H → J.p H) : ∀ H, (I.own D vs).p H → (J.own D vs).p H := fun H x => ⟨h H x.1, x.2⟩
end
end L2.PL
namespace L2.PL
open PySem PySem.Spec PyProof.Rows
/-! ### a class's properties and methods, at the end -/
structure PropD where
  cls : Str
  m : Str
  d : He.DefD
def ppA (K : PySem.W.Frag) (p : PropD) : Addr := He.ma K (He.ga K p.cls) p.m
def pgA (K : PySem.W.Frag) (p : PropD) : Addr := match PySem.W.recIn K (ppA K p) "property" with
  | some (.ref g :: _) => g
  | _ => 0
def pfW (K : PySem.W.Frag) (p : PropD) : He.FnW := match K.lookup (pgA K p) with
  | some ⟨_, _, .func fd, _⟩ => some (fd.name, fd.qualname, fd.params, fd.body, fd.scope, fd.globals, fd.closure, fd.builtins)
  | _ => none
def noneB : Value → Bool
  | .none => true
  | _ => false
def propB (K : PySem.W.Frag) (p : PropD) : Bool :=
  He.eqO (PySem.W.findIn K (.ref (He.ga K p.cls)) p.m) (some (some (.ref (ppA K p)))) && (He.eqO (PySem.W.specialIn K (.ref (ppA K p)) "__get__") (some (some (.builtin "property.__get__"))) && (decide (PySem.W.takesIn K (.ref (ppA K p)) = some true) &&
    ((match PySem.W.recIn K (ppA K p) "property" with
      | some (.ref _ :: _) => true
      | _ => false) && (PySem.W.keepIn K (.ref (pgA K p)) && (match K.lookup (pgA K p) with
      | some ⟨_, _, .func fd, _⟩ => PySem.W.codeIn K fd.code p.d.qual && noneB fd.defaults
      | _ => false)))))
abbrev AlP : Type := He.AlX × List He.FnW
def obsP (n : Nat) (fa : List He.Fa) (fn : List He.DefD) (ex : PySem.W.Frag → Bool) (ps : List PropD) (g : Addr → Option Obj) : AlP := (He.obsX n fa fn [] [] ex g, ps.map fun p => pfW (He.frT g (He.asD g n)) p)
def valP (fn : List He.DefD) (ps : List PropD) (w : World) : AlP := (He.valX fn [] w, ps.map fun p => p.d.val)
def hookP (n : Nat) (fa : List He.Fa) (fn : List He.DefD) (ex : PySem.W.Frag → Bool) (ps : List PropD) : PySem.W.Hook where
  α := AlP
  obs := fun s => obsP n fa fn ex ps s.heap.get?
  val := fun w => valP fn ps w
  says := fun w h => ∃ K : PySem.W.Frag, K.In h ∧ He.SaysX fa fn [] [] ex w h K ∧ (ps.map fun p => pfW K p) = ps.map fun p => p.d.val
  of := fun _ _ e => ⟨_, He.frT_in, He.saysX_of (congrArg (fun z : AlP => z.1) e), congrArg (fun z : AlP => z.2) e⟩
  keeps := fun _ _ _ ⟨K, hK, c, e⟩ k => ⟨K, PySem.W.Frag.In.keeps hK k, ⟨c.t, c.more, c.hd, c.out, fun p hp => k _ _ (c.empty p hp)⟩, e⟩
theorem obsP_eq {n : Nat} {fa : List He.Fa} {fn : List He.DefD} {ex : PySem.W.Frag → Bool} {ps : List PropD} {g : Addr → Option Obj} {s : Shared} (h : ∀ a, g a = s.heap.get? a) : obsP n fa fn ex ps g = (hookP n fa fn ex ps).obs s := by
  have e : g = s.heap.get? := funext h
  rw [e] <;> rfl
def mkM (c m qual : Str) (st : Stmt) : He.DefD := ⟨(c, some m), m, qual, defArgs st, defBody st, defScope st, [], []⟩
section
variable {K : PySem.W.Frag} {fa : List He.Fa} {fn : List He.DefD} {ps : List PropD} {c m qual : Str} {st : Stmt}
theorem prop_of {i : Nat} (e : (ps.map fun p => pfW K p) = ps.map fun p => p.d.val) (hi : ps[i]? = some ⟨c, m, mkM c m qual st⟩) (b : ps.all (propB K) = true) : ∃ p g fd, Fun K m qual st g fd ∧ PropOf K (He.ga K c) m p g := by
  have e2 : pfW K ⟨c, m, mkM c m qual st⟩ = (mkM c m qual st).val := by
    have e2 : (ps.map fun p => pfW K p)[i]? = (ps.map fun p => p.d.val)[i]? := by rw [e]
    rw [List.getElem?_map, List.getElem?_map, hi] at e2
    exact Option.some.inj e2
  have b2 := List.all_eq_true.mp b _ (List.mem_of_getElem? hi)
  generalize hp : (⟨c, m, mkM c m qual st⟩ : PropD) = p at e2 b2
  unfold propB at b2
  obtain ⟨b1, b2⟩ := He.ba b2
  obtain ⟨b3, b2⟩ := He.ba b2
  obtain ⟨b4, b2⟩ := He.ba b2
  obtain ⟨b5, b2⟩ := He.ba b2
  obtain ⟨b6, b2⟩ := He.ba b2
  have hr : ∃ rest, PySem.W.recIn K (ppA K p) "property" = some (.ref (pgA K p) :: rest) := by
    unfold pgA
    revert b5
    cases q : PySem.W.recIn K (ppA K p) "property" with
    | none => exact fun h => nomatch h
    | some l =>
      cases l with
      | nil => exact fun h => nomatch h
      | cons v r =>
        cases v with
        | ref g => exact fun _ => ⟨r, rfl⟩
        | _ => exact fun h => nomatch h
  have hc : p.cls = c := by rw [← hp]
  have hm : p.m = m := by rw [← hp]
  have hq : p.d.qual = qual := by rw [← hp]; rfl
  unfold pfW at e2
  cases q : K.lookup (pgA K p) with
  | none => rw [q] at b2; cases b2
  | some o =>
    obtain ⟨oc, od, dt, osl⟩ := o
    rw [q] at b2 e2
    cases dt with
    | func fd =>
      obtain ⟨n1, n2, n3, n4, n5, n6, n7, n8, n9, n10, n11, n12, n13, n14, n15⟩ := fd
      have e3 : (some (n1, n2, n3, n4, n5, n6, n7, n15) : He.FnW) = some (m, qual, defArgs st, .stmts (defBody st), defScope st, mainGlobals, [], builtinsNs) := e2
      simp only [Option.some.injEq, Prod.mk.injEq] at e3
      obtain ⟨h1, h2, h3, h4, h5, h6, h7, h8⟩ := e3
      obtain ⟨b7, b8⟩ := He.ba (show (PySem.W.codeIn K n13 p.d.qual && noneB n8) = true from b2)
      have hn8 : n8 = .none := by
        cases n8 with
        | none => rfl
        | _ => cases b8
      subst h1 h2 h3 h4 h5 h6 h7 h8 hn8
      rw [hq] at b7
      refine ⟨ppA K p, pgA K p, _, ⟨⟨oc, od, n9, n10, n11, n12, n13, n14, osl, rfl, q, b7⟩, b6⟩, ?_⟩
      rw [← hc]
      have z := He.eqO_ok b1
      rw [hm] at z
      exact ⟨z, He.eqO_ok b3, of_decide_eq_true b4, hr⟩
    | _ => cases b2
theorem fun_of (d : He.SaysD fa fn K) {i : Nat} (hfn : fn[i]? = some (mkM c m qual st)) : ∃ fd, Fun K m qual st (He.ma K (He.ga K c) m) fd ∧ PySem.W.fnIn K (He.ma K (He.ga K c) m) = true := by
  obtain ⟨fd, FD⟩ := d.def_ i hfn
  obtain ⟨oc, od, dV, kV, doc, pm, an, cdv, ct, osl, e, lk, cd, dv, kw⟩ := FD.ex
  have e0 : dV = .none := by
    rcases dv with ⟨_, e⟩ | ⟨ne, _⟩
    · exact e
    · exact absurd rfl ne
  subst e0
  refine ⟨fd, ⟨⟨oc, od, kV, doc, pm, an, cdv, ct, osl, e, lk, cd⟩, FD.kp⟩, ?_⟩
  have lk2 : K.lookup (He.ma K (He.ga K c) m) = some ⟨oc, od, .func fd, osl⟩ := lk
  unfold PySem.W.fnIn
  rw [lk2]
theorem meth_of (d : He.SaysD fa fn K) {i j : Nat} (hfn : fn[i]? = some (mkM c m qual st)) (hfa : fa[j]? = some (.meth c m)) : ∃ f fd, Fun K m qual st f fd ∧ Meth K (He.ga K c) m f := by
  obtain ⟨fd, F, _⟩ := fun_of d hfn
  exact ⟨_, fd, F, He.meth_ok (d.fact j hfa)⟩
theorem call_of (d : He.SaysD fa fn K) {i j : Nat} (hfn : fn[i]? = some (mkM c m qual st)) (hfa : fa[j]? = some (.meth c m)) : ∃ f fd, Fun K m qual st f fd ∧ PySem.W.findIn K (.ref (He.ga K c)) m = some (some (.ref f)) ∧ PySem.W.isFn K (.ref f) = true ∧ PySem.W.fnIn K f = true := by
  obtain ⟨fd, F, n⟩ := fun_of d hfn
  have M := He.meth_ok (d.fact j hfa)
  exact ⟨_, fd, F, M.at_, M.fn, n⟩
theorem init_of (d : He.SaysD fa fn K) {i j : Nat} (hfn : fn[i]? = some (mkM c "__init__" qual st)) (hfa : fa[j]? = some (.mkr c)) : ∃ f fd, Fun K "__init__" qual st f fd ∧ Mk K (He.ga K c) f := by
  obtain ⟨fd, F, _⟩ := fun_of d hfn
  exact ⟨_, fd, F, He.mkr_ok (d.fact j hfa)⟩
end
end L2.PL
namespace L2.PL
open PySem PySem.Spec PyProof.Rows
/-! ### == by a class's own __eq__ -/
structure HasQ (Pr : Program) (w : World) (K : PySem.W.Frag) (mg : Str → Option Value) (base : Heap) (C : Addr) (ps : List Str) (sp : Sp) (k : Nat) : Prop where
  ex : ∃ (f : Addr) (fd : FuncData), FnOk Pr w K mg base CX0 k f fd ps sp ∧ PySem.W.findIn K (.ref C) "__eq__" = some (some (.ref f)) ∧ PySem.W.isFn K (.ref f) = true ∧ Binds K fd ps []
def rOwnQ (C : Addr) (sp : Sp) : R2 := fun x y H Q => ∃ a b dx dy fs gs, x = .ref a ∧ y = .ref b ∧ H a = some (.ins C dx fs) ∧ H b = some (.ins C dy gs) ∧ sp [.ref a, .ref b] H (fun v H' => ∃ r, v = .bl r ∧ Q (.bl r) H') fun _ _ _ => False
theorem op_ownQ {X : Cx} {C : Addr} {ps : List Str} {sp : Sp} {k : Nat} (Z : HasQ X.prog X.w X.K X.mg X.base C ps sp k) (hr : Room k X.A) : OpR X (compareOp .Eq) (rOwnQ C sp) := by
  obtain ⟨f, fd, F, hs, hf, hb⟩ := Z.ex
  intro pins s σ H x y v u Q I rx ry ⟨a, b, dx, dy, fs, gs, e1, e2, e3, e4, h⟩
  subst e1 e2
  cases rx
  cases ry
  obtain ⟨mA, O, _⟩ := ins_get I.hok e3
  obtain ⟨mB, O2, _⟩ := ins_get I.hok e4
  obtain ⟨od, J, _⟩ := O.look
  obtain ⟨od2, J2, _⟩ := O2.look
  obtain ⟨m, hF⟩ := I.fr
  have r2 : Vals [V.ref a, V.ref b] [Value.ref a, Value.ref b] := .cons rfl (.cons rfl .nil)
  have hl := F.len _ _ _ _ h
  show wpAny (model X.prog X.w) X.A (richCompare .Eq (.ref a) (.ref b)) (EP X pins σ Q) X.xe s
  refine PySem.W.cmp_K (op := .Eq) (tb := .ref C) hr.units0 hF I.ok.mod.kin J J2.type (by simp [PySem.W.notFirst]) hs hf ?_
  have hbind := hb s [.ref a, .ref b] I.kIn (by simpa using hl)
  rw [List.append_nil] at hbind
  refine wpAny_call (codeAny_mono (F.run X.A X.stack s H ⟨[.ref a, .ref b], []⟩ [.ref a, .ref b] [.ref a, .ref b] _ (fun _ _ _ => False) hr I.env0 hbind r2 h) fun r s' hq => ?_)
  match r, hq with
  | .error z, hq => exact hq.elim
  | .ok (.ret u), hq =>
    obtain ⟨z, H', I', rz, r, ez, q⟩ := I.after hq
    subst ez
    cases rz
    exact ⟨.bl r, H', I', rfl, q⟩
  | .ok .next, hq => exact hq.elim
  | .ok .brk, hq => exact hq.elim
  | .ok .cont, hq => exact hq.elim
structure IsiC (K : PySem.W.Frag) (C : Addr) : Prop where
  cl : Cls K C
  ha : PySem.W.findIn K (.ref C) "__class__" = some (some (.builtin "object.__class__"))
  hn : PySem.W.specialIn K (.builtin "object.__class__") "__get__" = some (some (.builtin "getset_descriptor.__get__"))
  ht : PySem.W.takesIn K (.builtin "object.__class__") = some true
  hmr : PySem.W.mroIn K C (.type "object") = some true
section
variable {X : Cx} {G : Gx} {I J L : Iv G.M} {Γ : Slots} {a b : Expr} {pos : Pos} {C : Addr}
/-- a == b, both of one class, by its __eq__ -/
theorem ex_eqOwn {Pr : Program} {w : World} {K0 : PySem.W.Frag} {mg : Str → Option Value} {base : Heap} {ι : Type} {fl1 fl2 : ι → List (Str × Asr)} {ok : ι → Prop} {cod : ι → Bool} {ps : List Str} {k : Nat} (Z : HasQ Pr w K0 mg base C ps (spF (fun i => [isIns C (fl1 i), isIns C (fl2 i)]) ok fun i => isBl (cod i)) k) (hr : Room k X.A) (i : ι) (hok : ok i) (ha : EX X G I Γ a (isIns C (fl1 i)) J) (hb : EX X G J Γ b (isIns C (fl2 i)) L) (e1 : X.prog = Pr := by rfl) (e2 : X.w = w := by rfl) (e3 : X.K = K0 := by rfl) (e4 : X.mg = mg := by rfl) (e5 : X.base = base := by rfl) (hm : behindInMarks CmpOp.Eq b = false := by rfl) : EX X G I Γ (.Compare a [.Eq] [b] pos) (isBl (cod i)) L := by
  subst e1 e2 e3 e4 e5
  exact fun σ H Q kk q => PE.w (pe_cmpR (op_ownQ Z hr) pe_wE pe_wE hm) (ha σ H _ kk fun H1 x t1 a1 => hb σ H1 _ (kk.to t1) fun H2 y t2 b2 => by
    obtain ⟨p, dx, fs, ex, hx, f1, o1⟩ := (isIns C (fl1 i)).mono t2.fz a1
    obtain ⟨q', dy, gs, ey, hy, f2, o2⟩ := b2
    subst ex ey
    refine ⟨p, q', dx, dy, fs, gs, rfl, rfl, fz_sub _ _ hx, fz_sub _ _ hy, G.U, i, t2.live, hok, ⟨_, _, rfl, ⟨p, dx, fs, rfl, hx, f1, o1⟩, _, _, rfl, ⟨q', dy, gs, rfl, hy, f2, o2⟩, rfl⟩, fun H' u s cd => ?_⟩
    cases cd
    exact ⟨cod i, rfl, q H' _ ((t1.trans t2).trans (To.sm t2.live t2.inv s)) rfl⟩)
/-- isinstance(e, C), C the object's own class -/
theorem ex_isiC {e : Expr} {c : Expr} {p : Pos} {fl : List (Str × Asr)} (hg : Gl X "isinstance") (hm : X.mg "isinstance" = none) (ci : IsiC X.K C) (ha : EX X G I Γ e (isIns C fl) J) (hc : EX X G J Γ c (isV (.ref C)) L)
    (hs : starEach [e, c] X.env = (false, eval e X.env) :: starEach [c] X.env := by rfl) (hs2 : starEach [c] X.env = (false, eval c X.env) :: starEach [] X.env := by rfl) (hpl : (backTo pos (starEach [c] X.env)).any (·.1) = false := by rfl) :
    EX X G I Γ (.Call (.Name "isinstance" p) [e, c] [] pos) (isBl true) L :=
  ex_B call_isi hg hm (by decide +kernel) (ax_cons ha (ax_cons hc ax_nil hs2) hs) (fun H1 vs ⟨v, r, e1, ⟨a, dx, fs, e4, h, _⟩, v2, r2, e2, a2, e3⟩ Q w => by
    cases a2; cases e3; subst e2; subst e1; subst e4
    exact ⟨_, .ref C, .ref C, .ref C, true, rfl, .own C, .base (.ins (fz_sub _ _ h) ci.cl ci.ha ci.hn ci.ht ci.hmr), by unfold PySem.W.kitOne; rw [if_pos (by simp)], w _ rfl⟩) (by decide) (by decide) hs hpl
end
end L2.PL
namespace L2.PL
open PySem PySem.Spec PyProof.Rows
section
variable {X : Cx} {G : Gx} {I J : Iv G.M} {Γ : Slots} {e : Expr} {A B : Asr} {sts : List Stmt} {D : Ends} {i j : Nat} {x y : Str} {px py pt pos : Pos} {kt : Nat}
/-- x, y = e, e a list of two -/
theorem sx_lst2 (hl : i < Γ.length) (hl2 : j < Γ.length) (hg : PG X (.Tuple [.Name x px, .Name y py] kt pt) (gLst X.K 2 (gCons (gName i) (gCons (gName j) gNil)))) (he : EX X G I Γ e (isLst X.K [A, B]) J) (hr : SX X G J ((Γ.set i (some A)).set j (some B)) sts D)
    (hs : swapsWithSole [.Tuple [.Name x px, .Name y py] kt pt] e pos.line X.env = pure false := by rfl) (hw : swappedStores [.Tuple [.Name x px, .Name y py] kt pt] e X.env = pure none := by rfl)
    (h1 : (assignEach [.Tuple [.Name x px, .Name y py] kt pt] X.env).map (·.2) = [assign (.Tuple [.Name x px, .Name y py] kt pt) X.env] := by rfl) :
    SX X G I Γ (.Assign [.Tuple [.Name x px, .Name y py] kt pt] e pos :: sts) D := fun σ H k =>
  wB_cons (PS.w (ps_asg pe_wE hg hs hw h1) (he σ H _ k fun H1 v t1 ⟨a, vs, e1, h, v1, r1, e2, a1, v2, r2, e3, b1, e4⟩ => by
    subst e4; subst e3; subst e2; subst e1
    exact ⟨a, _, rfl, SqL.mono fz_sub h, rfl, v1, _, rfl, v2, _, rfl, rfl, hr _ _ (((k.to t1).setv hl a1).setv (by rw [List.length_set]; exact hl2) b1)⟩))
end
section
variable {X : Cx} {G : Gx} {I J L : Iv G.M} {Γ : Slots} {a b : Expr} {pos : Pos} {C : Addr}
/-- .. as a condition -/
theorem tx_eqOwn {Pr : Program} {w : World} {K0 : PySem.W.Frag} {mg : Str → Option Value} {base : Heap} {ι : Type} {fl1 fl2 : ι → List (Str × Asr)} {ok : ι → Prop} {cod : ι → Bool} {ps : List Str} {k : Nat} (Z : HasQ Pr w K0 mg base C ps (spF (fun i => [isIns C (fl1 i), isIns C (fl2 i)]) ok fun i => isBl (cod i)) k) (hr : Room k X.A) (i : ι) (hok : ok i) (ha : EX X G I Γ a (isIns C (fl1 i)) J) (hb : EX X G J Γ b (isIns C (fl2 i)) L) (e1 : X.prog = Pr := by rfl) (e2 : X.w = w := by rfl) (e3 : X.K = K0 := by rfl) (e4 : X.mg = mg := by rfl) (e5 : X.base = base := by rfl) (hm : behindInMarks CmpOp.Eq b = false := by rfl) : TX X G I Γ (.Compare a [.Eq] [b] pos) (· = cod i) L := by
  subst e1 e2 e3 e4 e5
  exact fun σ H Q kk q => PT.w (pt_cmpR (op_ownQ Z hr) pe_wE pe_wE hm) (ha σ H _ kk fun H1 x t1 a1 => hb σ H1 _ (kk.to t1) fun H2 y t2 b2 => by
    obtain ⟨p, dx, fs, ex, hx, f1, o1⟩ := (isIns C (fl1 i)).mono t2.fz a1
    obtain ⟨q', dy, gs, ey, hy, f2, o2⟩ := b2
    subst ex ey
    refine ⟨p, q', dx, dy, fs, gs, rfl, rfl, fz_sub _ _ hx, fz_sub _ _ hy, G.U, i, t2.live, hok, ⟨_, _, rfl, ⟨p, dx, fs, rfl, hx, f1, o1⟩, _, _, rfl, ⟨q', dy, gs, rfl, hy, f2, o2⟩, rfl⟩, fun H' u s cd => ?_⟩
    cases cd
    exact ⟨cod i, rfl, cod i, rfl, q H' _ ((t1.trans t2).trans (To.sm t2.live t2.inv s)) rfl⟩)
end
end L2.PL
namespace L2.PL
open PySem PySem.Spec PyProof.Rows
def isiB (K : PySem.W.Frag) (C : Addr) : Bool := He.eqO (PySem.W.findIn K (.ref C) "__class__") (some (some (.builtin "object.__class__"))) && (He.eqO (PySem.W.specialIn K (.builtin "object.__class__") "__get__") (some (some (.builtin "getset_descriptor.__get__"))) &&
  (decide (PySem.W.takesIn K (.builtin "object.__class__") = some true) && decide (PySem.W.mroIn K C (.type "object") = some true)))
theorem isi_of {K : PySem.W.Frag} {C : Addr} (c : Cls K C) (h : isiB K C = true) : IsiC K C := by
  obtain ⟨h1, h2⟩ := He.ba h
  obtain ⟨h3, h4⟩ := He.ba h2
  obtain ⟨h5, h6⟩ := He.ba h4
  exact ⟨c, He.eqO_ok h1, He.eqO_ok h3, of_decide_eq_true h5, of_decide_eq_true h6⟩
theorem eq_of {K : PySem.W.Frag} {fa : List He.Fa} {fn : List He.DefD} {c m qual : Str} {st : Stmt} (d : He.SaysD fa fn K) {i j : Nat} (hfn : fn[i]? = some (mkM c m qual st)) (hfa : fa[j]? = some (.meth c m)) : ∃ f fd, Fun K m qual st f fd ∧ PySem.W.findIn K (.ref (He.ga K c)) m = some (some (.ref f)) ∧ PySem.W.isFn K (.ref f) = true := by
  obtain ⟨f, fd, F, a, b, _⟩ := call_of d hfn hfa
  exact ⟨f, fd, F, a, b⟩
end L2.PL
namespace L2.PL
open PySem PySem.Spec PyProof.Rows
section
variable {X : Cx} {G : Gx} {I J K : Iv G.M} {Γ : Slots} {e : Expr} {es : List Expr} {As Bs : List Asr} {p : Pos}
/-- *e among arguments, e a list -/
theorem ax_star (ha : EX X G I Γ e (isLst X.K As) J) (hr : AX X G J Γ es Bs K) (hs : starEach (.Starred e p :: es) X.env = (true, eval e X.env) :: starEach es X.env := by rfl) : AX X G I Γ (.Starred e p :: es) (As ++ Bs) K := fun σ H Q k q =>
  PA.w (StX.pa_star pe_wE pa_wA hs) (ha σ H _ k fun H1 x t1 ⟨a, xs, e1, h, r⟩ => by
    subst e1
    exact ⟨a, xs, rfl, .inr (SqL.mono fz_sub h), hr σ H1 _ (k.to t1) fun H2 ys t2 r2 => q H2 _ (t1.trans t2) ((r.mono t2.fz).app r2)⟩)
end
end L2.PL
namespace L2.PL
open PySem PySem.Spec PyProof.Rows
/-! ### != by a class's own __eq__ -/
section
variable {M : Model} {prog : Program} {w : World} {A : Around} {E : Value → Shared → Prop} {s : Shared} {K : PySem.W.Frag} {x C f : Addr} {ox : Obj} {od : Option Obj} {b : Value}
theorem ifBound_objNe {args : List Value} {Q : Option Value → Shared → Prop} (X : K.In s.heap) (I : PySem.W.InstAt s.heap x ox C od) (hs : PySem.W.findIn K (.ref C) "__ne__" = some (some (.builtin "object.__ne__")))
    (h : wpAny M A (call (.builtin "object.__ne__") (.ref x :: args)) (fun v => Q (some v)) E s) : wpAny M A (callSpecialIfBound? (.ref x) "__ne__" args) Q E s := by
  simp only [callSpecialIfBound?, bindSpecialIfBound?]
  refine wpAny_holding (wpAny_bind (wpAny_bind (wpAny_bind (I.type.here ((PySem.W.looks_findIn X hs).here ?_)))))
  refine wpAny_bind (wpAny_askSetting (wpAny_ite ?_))
  have fin : wpAny M A (call (.builtin "object.__ne__") ([.ref x] ++ args) >>= fun v => pure (some v)) Q E s := wpAny_bind (wpAny_mono h (fun v s' h' => wpAny_pure h') fun _ _ h' => h')
  split
  · exact wpAny_bind (wpAny_of_eq (F.cmp_object.ne.bind _) (wpAny_pure (by exact fin)))
  · exact wpAny_tryCatch (wpAny_bind (wpAny_of_eq (F.cmp_object.ne.bind _) (wpAny_pure (by exact fin))))
theorem entry_objNe {Q : Fin → Shared → Prop} (X : K.In s.heap) (I : PySem.W.InstAt s.heap x ox C od) (hu : A.units < cLine) (hs : PySem.W.findIn K (.ref C) "__eq__" = some (some (.ref f))) (hf : PySem.W.isFn K (.ref f) = true)
    (h : wpAny (model prog w) A (call (.ref f) [.ref x, b]) (fun v s' => ∃ r, v = .bool r ∧ Q (.done (.ret (.bool (!r)))) s') E s) : wpAny (model prog w) A (Builtin.«object.__ne__» ⟨[.ref x, b], []⟩) Q E s := by
  unfold Builtin.«object.__ne__»
  repeat (first
    | with_reducible refine wpAny_cRoomFor hu ?_
    | (refine wpAny_bind (m := callSpecialIfBound? (.ref x) (Str.ofString "__eq__") [b])
        (PySem.W.ifBound_K X I hs hf (wpAny_mono h (fun r s' hr => by
          obtain ⟨b, rfl, hq⟩ := hr
          repeat (first | exact hq | exact wpAny_pure hq | exact wpAny_truthy_bool hq | (refine wpAny_bind (m := truthy (.bool _)) (wpAny_truthy_bool ?_)) | wp_step)) fun _ _ e => e)))
    | wp_step)
theorem ne_K {Q : Value → Shared → Prop} (hu : A.units + 1 < cLine) (X : K.In s.heap) (I : PySem.W.InstAt s.heap x ox C od) (hb : PySem.W.Looks (model prog w) s.heap (typeOf b) (.ref C)) (hm : PySem.W.mroIn K C (.type "object") = some true)
    (hn : PySem.W.findIn K (.ref C) "__ne__" = some (some (.builtin "object.__ne__"))) (hs : PySem.W.findIn K (.ref C) "__eq__" = some (some (.ref f))) (hf : PySem.W.isFn K (.ref f) = true)
    (h : wpAny (model prog w) A.in1 (call (.ref f) [.ref x, b]) (fun v s' => ∃ r, v = .bool r ∧ Q (.bool (!r)) s') E s) : wpAny (model prog w) A (richCompare .NotEq (.ref x) b) Q E s := by
  have one : wpAny (model prog w) A (tryCompare (.ref x) "__ne__" b) (fun r s' => ∃ v, r = some v ∧ Q v s') E s := by
    unfold tryCompare
    refine wpAny_bind (ifBound_objNe X I hn (wpAny_call (codeAny_call_builtin F.cmp_object.ne.plain F.cmpEntry_ne (PySem.W.check_slot F.cmpKind_ne F.cmpSplit_ne (I.type.andThen (PySem.W.looks_mroIn X hm)) (F.cmpArgs_ne _ _) (entry_objNe (A := A.in1) X I hu hs hf (wpAny_mono h (fun v s' hv => ?_) fun _ _ e => e))))))
    obtain ⟨r, rfl, hq⟩ := hv
    first | exact ⟨r, rfl, wpAny_pure ⟨_, rfl, hq⟩⟩ | exact ⟨r, rfl, wpAny_pure (wpAny_pure ⟨_, rfl, hq⟩)⟩
  unfold richCompare
  simp only [oneThing_ref]
  refine wpAny_holding (wpAny_bind (wpAny_cRoomFor (Nat.lt_of_succ_lt hu) ?_))
  rw [cmpInfo_NotEq]
  dsimp only
  refine wpAny_bind (I.type.here (wpAny_bind (hb.here ?_)))
  rw [show (Value.ref C != Value.ref C) = false from by simp]
  simp only [Bool.false_eq_true, if_false]
  refine wpAny_bind (wpAny_pure ?_)
  simp only [Bool.false_eq_true, if_false]
  refine wpAny_bind (wpAny_mono one (fun r s' z => ?_) fun _ _ e => e)
  obtain ⟨v, rfl, hq⟩ := z
  exact wpAny_pure hq
end
def rOwnN (C : Addr) (sp : Sp) : R2 := fun x y H Q => ∃ a b dx dy fs gs, x = .ref a ∧ y = .ref b ∧ H a = some (.ins C dx fs) ∧ H b = some (.ins C dy gs) ∧ sp [.ref a, .ref b] H (fun v H' => ∃ r, v = .bl r ∧ Q (.bl (!r)) H') fun _ _ _ => False
structure NeC (K : PySem.W.Frag) (C : Addr) : Prop where
  ne : PySem.W.findIn K (.ref C) "__ne__" = some (some (.builtin "object.__ne__"))
  hmr : PySem.W.mroIn K C (.type "object") = some true
theorem op_ownNe {X : Cx} {C : Addr} {ps : List Str} {sp : Sp} {k : Nat} (Z : HasQ X.prog X.w X.K X.mg X.base C ps sp k) (n : NeC X.K C) (hr : Room (k + 1) X.A) : OpR X (compareOp .NotEq) (rOwnN C sp) := by
  obtain ⟨f, fd, F, hs, hf, hb⟩ := Z.ex
  intro pins s σ H x y v u Q I rx ry ⟨a, b, dx, dy, fs, gs, e1, e2, e3, e4, h⟩
  subst e1 e2
  cases rx
  cases ry
  obtain ⟨mA, O, _⟩ := ins_get I.hok e3
  obtain ⟨mB, O2, _⟩ := ins_get I.hok e4
  obtain ⟨od, J, _⟩ := O.look
  obtain ⟨od2, J2, _⟩ := O2.look
  obtain ⟨m, hF⟩ := I.fr
  have r2 : Vals [V.ref a, V.ref b] [Value.ref a, Value.ref b] := .cons rfl (.cons rfl .nil)
  have hl := F.len _ _ _ _ h
  show wpAny (model X.prog X.w) X.A (richCompare .NotEq (.ref a) (.ref b)) (EP X pins σ Q) X.xe s
  refine ne_K (hr.in1.units0) I.kIn J J2.type n.hmr n.ne hs hf ?_
  have hbind := hb s [.ref a, .ref b] I.kIn (by simpa using hl)
  rw [List.append_nil] at hbind
  refine wpAny_call (codeAny_mono (F.run X.A.in1 X.stack s H ⟨[.ref a, .ref b], []⟩ [.ref a, .ref b] [.ref a, .ref b] _ (fun _ _ _ => False) hr.in1 I.env0.in1 hbind r2 h) fun r s' hq => ?_)
  match r, hq with
  | .error z, hq => exact hq.elim
  | .ok (.ret u), hq =>
    obtain ⟨z, H', I', rz, r, ez, q⟩ := I.after hq
    subst ez
    cases rz
    exact ⟨r, rfl, .bl (!r), H', I', rfl, q⟩
  | .ok .next, hq => exact hq.elim
  | .ok .brk, hq => exact hq.elim
  | .ok .cont, hq => exact hq.elim
section
variable {X : Cx} {G : Gx} {I J L : Iv G.M} {Γ : Slots} {a b : Expr} {pos : Pos} {C : Addr}
/-- a != b, both of one class, by its __eq__ -/
theorem ex_neOwn {Pr : Program} {w : World} {K0 : PySem.W.Frag} {mg : Str → Option Value} {base : Heap} {ι : Type} {fl1 fl2 : ι → List (Str × Asr)} {ok : ι → Prop} {cod : ι → Bool} {ps : List Str} {k : Nat} (Z : HasQ Pr w K0 mg base C ps (spF (fun i => [isIns C (fl1 i), isIns C (fl2 i)]) ok fun i => isBl (cod i)) k) (n : NeC K0 C) (hr : Room (k + 1) X.A) (i : ι) (hok : ok i) (ha : EX X G I Γ a (isIns C (fl1 i)) J) (hb : EX X G J Γ b (isIns C (fl2 i)) L) (e1 : X.prog = Pr := by rfl) (e2 : X.w = w := by rfl) (e3 : X.K = K0 := by rfl) (e4 : X.mg = mg := by rfl) (e5 : X.base = base := by rfl) (hm : behindInMarks CmpOp.NotEq b = false := by rfl) : EX X G I Γ (.Compare a [.NotEq] [b] pos) (isBl (!cod i)) L := by
  subst e1 e2 e3 e4 e5
  exact fun σ H Q kk q => PE.w (pe_cmpR (op_ownNe Z n hr) pe_wE pe_wE hm) (ha σ H _ kk fun H1 x t1 a1 => hb σ H1 _ (kk.to t1) fun H2 y t2 b2 => by
    obtain ⟨p, dx, fs, ex, hx, f1, o1⟩ := (isIns C (fl1 i)).mono t2.fz a1
    obtain ⟨q', dy, gs, ey, hy, f2, o2⟩ := b2
    subst ex ey
    refine ⟨p, q', dx, dy, fs, gs, rfl, rfl, fz_sub _ _ hx, fz_sub _ _ hy, G.U, i, t2.live, hok, ⟨_, _, rfl, ⟨p, dx, fs, rfl, hx, f1, o1⟩, _, _, rfl, ⟨q', dy, gs, rfl, hy, f2, o2⟩, rfl⟩, fun H' u s cd => ?_⟩
    cases cd
    exact ⟨cod i, rfl, q H' _ ((t1.trans t2).trans (To.sm t2.live t2.inv s)) rfl⟩)
end
def neB (K : PySem.W.Frag) (C : Addr) : Bool := He.eqO (PySem.W.findIn K (.ref C) "__ne__") (some (some (.builtin "object.__ne__")))
theorem ne_of {K : PySem.W.Frag} {C : Addr} (c : IsiC K C) (h : neB K C = true) : NeC K C := ⟨He.eqO_ok h, c.hmr⟩
/-- arguments the other way about -/
def rvL {α : Type} (l : List α) : List α := l.reverse
theorem rvL_rel : ∀ {zs : List V} {ws : List Value}, Vals zs ws → Vals (rvL zs) (rvL ws) := fun {zs ws} h => by
  unfold rvL
  have key : ∀ {zs : List V} {ws : List Value}, Vals zs ws → Vals zs.reverse ws.reverse := fun {zs ws} h => by
    induction h with
    | nil => exact .nil
    | cons a _ ih => rw [List.reverse_cons, List.reverse_cons]; exact ih.append (.cons a .nil)
  exact key h
theorem rvL_all : ∀ {As : List Asr} (F : Hp) (vs : List V), AllA As F vs → AllA (rvL As) F (rvL vs) := fun {As} F => by
  unfold rvL
  induction As with
  | nil => intro vs h; have : vs = [] := h; subst this; rfl
  | cons A As ih =>
    intro vs ⟨v, r, e, a, h⟩
    subst e
    rw [List.reverse_cons, List.reverse_cons]
    exact (ih r h).app ⟨v, [], rfl, a, rfl⟩
theorem rgV_all (F : Hp) (n : Nat) : AllA (rangeA n) F (rgV 0 (n : Int)) := by
  have key : ∀ (l : List Nat), AllA (l.map fun i => aInt ((i : Nat) : Int)) F (l.map fun i => V.int ((i : Nat) : Int)) := fun l => by
    induction l with
    | nil => rfl
    | cons i l ih => exact ⟨_, _, rfl, rfl, ih⟩
  have e : rgV 0 (n : Int) = (List.range n).map fun i => V.int ((i : Nat) : Int) := by
    unfold rgV
    simp
  rw [e]
  exact key _
section
variable {X : Cx} {G : Gx} {I J K : Iv G.M} {Γ : Slots} {e a b : Expr} {rest : List Expr} {p p2 pos2 pos : Pos}
/-- list(range(e)) -/
theorem ex_listRg {n : Nat} (hc : X.calm = true) (hg : Gl X "list") (hm : X.mg "list" = none) (hg2 : Gl X "range") (hm2 : X.mg "range" = none) (he : EX X G I Γ e (aInt (n : Int)) J) (hn : n ≤ 100000)
    (h1 : starEach [e] X.env = (false, eval e X.env) :: starEach [] X.env := by rfl) (h2 : starEach [.Call (.Name "range" p2) [e] [] pos2] X.env = (false, eval (.Call (.Name "range" p2) [e] [] pos2) X.env) :: starEach [] X.env := by rfl) : EX X G I Γ (.Call (.Name "list" p) [.Call (.Name "range" p2) [e] [] pos2] [] pos) (isNew (rangeA n)) J := fun σ H Q k q =>
  PE.w (pe_listRg hc hg hm (prg_1 hg2 hm2 pe_wE h1) h2) (he σ H _ k fun H1 v t1 a1 => ⟨(n : Int), a1, RgOk.of_le (by omega) (by omega) (by omega) (by omega), fun z hz => q _ _ (t1.new' hz) ⟨z, _, rfl, fz_new t1.live hz, rgV_all _ n⟩⟩)
theorem ex_orD {p : Bool} (ha : EX X G I Γ a (isBl p) J) (hb : p = false → EX X G J Γ (.BoolOp .Or (b :: rest) pos) (exA (fun _ : Bool => True) isBl) K) (jk : ∀ H, J.p H → K.p H) : EX X G I Γ (.BoolOp .Or (a :: b :: rest) pos) (exA (fun _ : Bool => True) isBl) K := fun σ H Q k w =>
  PE.w (pe_or pe_wE pe_wE) (ha σ H _ k fun H1 v t1 e => ⟨p, e, by
    cases p with
    | true => rw [if_pos rfl]; exact w H1 _ (t1.post jk) ⟨true, True.intro, rfl⟩
    | false => rw [if_neg Bool.false_ne_true]; exact hb rfl σ H1 Q (k.to t1) fun H2 c2 t2 e2 => w H2 c2 (t1.trans t2) e2⟩)
end
end L2.PL
namespace PySem
open Builtin AutoSeq1
theorem list_add_any (l : Addr) (items : Array Value) (n : Nat) (sl : Array (Option Value)) (b : Addr) (items2 : Array Value) (n2 : Nat) (sl2 : Array (Option Value)) (hc0 : items.size + items2.size ≤ sizeLine) :
    Meets (Builtin.«list.__add__» ⟨[.ref l, .ref b], []⟩) (fun _ R s => s.heap.get? l = some { cls := .type "list", dict := none, data := .seq items n, slots := sl } ∧ s.heap.get? b = some { cls := .type "list", dict := none, data := .seq items2 n2, slots := sl2 } ∧ R (.ok (.ret (Value.ref s.heap.objs.size))) { s with heap := s.heap.push { cls := Value.type "list", data := Data.seq (items ++ items2) }, toks := s.toks }) :=
  .of_wp fun prog w A R s h => by obtain ⟨hp, g, d, tk, os⟩ := s; obtain ⟨hl, hb, h⟩ := h; have f1 := idx_int; have f2 := sub_tuple_tuple; have f3 := sub_list_list; have f4 := sub_tuple_list; have f5 := sub_list_tuple; wp_walk using wpAny_loadPart' hl, wpAny_loadPart' hb; exact ⟨_, rfl, h⟩
end PySem
namespace L2.PL
open PySem PySem.Spec PyProof.Rows
def rCatL (K : PySem.W.Frag) : R2 := fun x y H Q => ∃ l b xs zs, x = .ref l ∧ y = .ref b ∧ SqL K H l xs ∧ SqL K H b zs ∧ xs.length + zs.length ≤ sizeLine ∧ ∀ p, H p = none → Q (.ref p) (upd H p (.lst (xs ++ zs)))
theorem op_catL {X : Cx} : OpR X (binaryOp .Add) (rCatL X.K) := by
  intro pins s σ H x y v u Q I rx ry h
  obtain ⟨l, b, xs, zs, rfl, rfl, hH, hB, hz, q⟩ := h
  cases rx
  cases ry
  obtain ⟨its, r, ⟨o, n, e, c1, c2, c3⟩, hl⟩ := I.list hH
  obtain ⟨its2, r2, ⟨o2, n2, e2, d1, d2, d3⟩, hl2⟩ := I.list hB
  cases o with
  | mk cls dict data slots =>
  cases o2 with
  | mk cls2 dict2 data2 slots2 =>
  cases c1; cases c2; cases c3; cases d1; cases d2; cases d3
  have k1 := r.length
  have k2 := r2.length
  refine PySem.concat_meets ⟨_, e, rfl⟩ ⟨_, e2, rfl⟩ PySem.noFill_list_add PySem.seq_list_add PySem.F.slot_list_add PySem.F.entry_list_add (PySem.F.args_list_add_2 _ _) (PySem.list_add_any l its.toArray n slots b its2.toArray n2 slots2 (by rw [List.size_toArray, List.size_toArray]; omega)) ⟨e, e2, ?_⟩
  have ea : its.toArray ++ its2.toArray = (its ++ its2).toArray := by simp
  rw [ea]
  exact ⟨.ref _, _, I.lnew (t' := s.toks) (r.append r2) (by rw [List.length_append]; omega), rfl, q _ I.fresh⟩
section
variable {X : Cx} {G : Gx} {I J K : Iv G.M} {Γ : Slots} {a b : Expr} {pos : Pos}
/-- a + b of lists -/
theorem ex_catL {As Bs : List Asr} (ha : EX X G I Γ a (isLst X.K As) J) (hb : EX X G J Γ b (isLst X.K Bs) K) (hz : As.length + Bs.length ≤ 100000) : EX X G I Γ (.BinOp a .Add b pos) (isNew (As ++ Bs)) K := fun σ H Q k q =>
  PE.w (pe_op op_catL pe_wE pe_wE) (ha σ H _ k fun H1 x t1 a1 => hb σ H1 _ (k.to t1) fun H2 y t2 b2 => by
    obtain ⟨p, vs, rfl, h, r⟩ := (isLst X.K As).mono t2.fz a1
    obtain ⟨p2, vs2, rfl, h2, r2⟩ := b2
    refine ⟨p, p2, vs, vs2, rfl, rfl, SqL.mono fz_sub h, SqL.mono fz_sub h2, ?_, fun z hz' => ?_⟩
    · rw [r.len, r2.len]; exact small_sz hz
    · exact q _ _ ((t1.trans t2).new' hz') ⟨z, _, rfl, fz_new t2.live hz', (r.app r2).mono (Gx.To.new t2.live t2.inv hz').fz⟩)
end
end L2.PL
namespace L2.PL
open PySem PySem.Spec PyProof.Rows
section
variable {X : Cx} {G : Gx} {I J K L : Iv G.M} {Γ : Slots} {e elt iter hi : Expr} {scope : Scope} {α : Type} {l : List α} {fA : α → Asr} {x : Str} {px pos p2 : Pos} {As : List Asr}
/-- drawn one by one, each of a kind of its own -/
theorem lx_DK (A : Nat → Asr) (j d n0 : Nat) (Iz : Nat → Iv G.M) (hi : IX X G I Γ (.Name x px) iter (l.map fA) (Iz n0)) (blk : blkC X.N X.env.scope scope [(x, j)] = true) (hz : l.length ≤ 100000) (hw : Γ[j]? = some none)
    (hpg : ∀ (s : Shared) (H : Hp) (C : Addr) (cl : List (Str × Addr)) (fp : List Addr), PG (X.blk s H scope (compEnvC scope cl C X.env) fp) (.Name x px) (gName j))
    (he : ∀ D (s : Shared) (H : Hp) (C : Addr) (cl : List (Str × Addr)) (fp : List Addr) k a, l[k]? = some a → k < l.length → EX (X.blk s H scope (compEnvC scope cl C X.env) fp) (G.lk D) (Iz (n0 + k * d)) (Γ.set j (some (fA a))) elt (A k) (Iz (n0 + (k + 1) * d))) :
    LX X G I Γ elt (.Name x px) iter [] scope ((List.range l.length).map A) (Iz (n0 + l.length * d)) := by
  have hl : j < Γ.length := by
    rcases Nat.lt_or_ge j Γ.length with z | z
    · exact z
    · rw [List.getElem?_eq_none z] at hw; cases hw
  have hi' : IX X G I Γ (.Name x px) iter (l.map fA) (Iz (n0 + 0 * d)) := by rw [Nat.zero_mul]; exact hi
  have r := lx_all (Cs := (List.range l.length).map A) (own := [(x, j)]) (fun _ A => Γ.set j (some A)) (fun k => Iz (n0 + k * d)) hi' blk (by rw [List.length_map]; exact hz) (by rw [List.length_map, List.length_map, List.length_range]) (fun k hk => by
    have : k = j := by simpa using hk
    subst this
    exact not_some hw) (fun k A _ => by rw [List.length_set]) hpg (fun U k A _ => gs_name hl) fun D s H C cl fp k A' B eA eB => by
      obtain ⟨a, e1, m, rfl⟩ := map_get eA
      have hk : k < l.length := by
        rcases Nat.lt_or_ge k l.length with z | z
        · exact z
        · rw [List.getElem?_eq_none z] at e1; cases e1
      rw [List.getElem?_map, List.getElem?_range hk] at eB
      cases eB
      exact he D s H C cl fp k a e1 hk
  rw [List.length_map] at r
  exact r
theorem AllA.cut0 {F : Hp} {vs : List V} (h : AllA As F vs) (b : Nat) (hb : b ≤ As.length) : AllA (As.take b) F (cutV vs none (some (b : Int))) := by
  have := h.cut 0 b (Nat.zero_le _) hb
  rw [List.drop_zero, Nat.sub_zero] at this
  have e : cutV vs (some ((0 : Nat) : Int)) (some (b : Int)) = cutV vs none (some (b : Int)) := by
    unfold cutV
    have z : HT.sIx vs.length 0 (some ((0 : Nat) : Int)) = HT.sIx vs.length 0 none := by rw [HT.sIx_nat, HT.sIx_none, Nat.zero_min]
    rw [z]
  rw [← e]
  exact this
/-- e[:hi] of a list -/
theorem ex_slice0 {b : Nat} (he : EX X G I Γ e (isLst X.K As) J) (hu : EX X G J Γ hi (aInt (b : Int)) L) (hb : b ≤ As.length) : EX X G I Γ (.Subscript e (.Slice none (some hi) none p2) pos) (isNew (As.take b)) L := fun σ H Q k q =>
  PE.w (pe_slice sl_list pe_wE po_none (po_some pe_wE)) (he σ H _ k fun H1 v t1 a1 => hu σ H1 _ (k.to t1) fun H3 vu t3 au => by
    cases au
    obtain ⟨p, xs, e1, h, r⟩ := (isLst X.K As).mono t3.fz a1
    subst e1
    refine ⟨_, rfl, p, xs, rfl, SqL.mono fz_sub h, fun z hz => q _ _ ((t1.trans t3).new' hz) ⟨z, _, rfl, fz_new t3.live hz, ?_⟩⟩
    exact (r.mono (Gx.To.new t3.live t3.inv hz).fz).cut0 b hb)
end
/-- four of one's own kinds -/
theorem fourX {α : Type} {K : PySem.W.Frag} {P1 P2 P3 P4 : α → Prop} {f : α → Asr} (F : Hp) (v : V) (h : (isLst K [exA P1 f, exA P2 f, exA P3 f, exA P4 f]).p F v) : (exA (fun q : α × α × α × α => P1 q.1 ∧ P2 q.2.1 ∧ P3 q.2.2.1 ∧ P4 q.2.2.2) (fun q => isLst K [f q.1, f q.2.1, f q.2.2.1, f q.2.2.2])).p F v := by
  obtain ⟨a, vs, e, hs, v1, r1, e1, ⟨x1, p1, h1⟩, v2, r2, e2, ⟨x2, p2, h2⟩, v3, r3, e3, ⟨x3, p3, h3⟩, v4, r4, e4, ⟨x4, p4, h4⟩, e5⟩ := h
  exact ⟨(x1, x2, x3, x4), ⟨p1, p2, p3, p4⟩, a, vs, e, hs, v1, r1, e1, h1, v2, r2, e2, h2, v3, r3, e3, h3, v4, r4, e4, h4, e5⟩
end L2.PL
namespace K11
open PySem PySem.Spec PyProof.Rows L2 L2.PL
variable {Pr : Program} {w : World} {K : PySem.W.Frag} {mg : Str → Option Value} {base : Heap}
def topS (i : Nat) : Stmt := PySem.Challenge.pw_toldproducts_k11_whole_beside_and_crosse.main.body.getD i (.Pass ⟨0, 0, 0, 0⟩)
abbrev isR (K : PySem.W.Frag) (r : Rat) : Asr := isTup K [aInt r.num, aInt (r.den : Int)]
abbrev isRow (K : PySem.W.Frag) (l : List Rat) : Asr := isLst K (l.map (isR K))
abbrev isP (K : PySem.W.Frag) (q : Int × Int) : Asr := isTup K [aInt q.1, aInt q.2]
abbrev isInts (K : PySem.W.Frag) (l : List Int) : Asr := isLst K (l.map fun i => aInt i)
abbrev isRows (K : PySem.W.Frag) (l : List (List Rat)) : Asr := isLst K (l.map (isRow K))
structure Bl (K : PySem.W.Frag) (mg : Str → Option Value) : Prop where
  len : mg "len" = none
  int : mg "int" = none
  abs : mg "abs" = none
  sum : mg "sum" = none
  all : mg "all" = none
  list : mg "list" = none
  tuple : mg "tuple" = none
  bool : mg "bool" = none
  range : mg "range" = none
  zip : mg "zip" = none
  enumerate : mg "enumerate" = none
  isinstance : mg "isinstance" = none
  gcd : mg "gcd" = some (.builtin "math.gcd")
  lcm : mg "lcm" = some (.builtin "math.lcm")
  nought : ∃ a, mg "NOUGHT" = some (.ref a) ∧ ∀ F, (isR K 0).p F (.ref a)
theorem ex_T0 {X : Cx} {G : Gx} {I J : Iv G.M} {Γ : Slots} {a : Expr} {pos p : Pos} {j} {A : Asr} {As : List Asr} (ha : EX X G I Γ a (isTup X.K (A :: As)) J) : EX X G I Γ (.Subscript a (.Constant (.int 0) j p) pos) A J :=
  ex_ixT (k := 0) (fun _ _ => rfl) ha ex_int rfl rfl
theorem ex_T1 {X : Cx} {G : Gx} {I J : Iv G.M} {Γ : Slots} {a : Expr} {pos p : Pos} {j} {A B : Asr} {As : List Asr} (ha : EX X G I Γ a (isTup X.K (B :: A :: As)) J) : EX X G I Γ (.Subscript a (.Constant (.int 1) j p) pos) A J :=
  ex_ixT (k := 1) (fun _ _ => rfl) ha ex_int rfl rfl
abbrev S_TableError : Stmt := topS 2
abbrev S_TableError_init : Stmt := inClass S_TableError 0
abbrev n_TableError_init : List Str := ["self", "value"]
theorem sc_TableError_init : FnScope n_TableError_init ["self", "value"] (defScope S_TableError_init) := ⟨rfl, rfl, rfl, by decide +kernel, rfl, by decide +kernel, by decide +kernel⟩
-- TableError_init: 0:self 1:value | kinds self:l value:l | comps 
abbrev S_InvalidNumber : Stmt := topS 3
abbrev S_InvalidRow : Stmt := topS 4
abbrev S_InvalidTable : Stmt := topS 5
abbrev S_is_lowest : Stmt := topS 8
abbrev n_is_lowest : List Str := ["pair", "above", "below"]
theorem sc_is_lowest : FnScope n_is_lowest ["pair"] (defScope S_is_lowest) := ⟨rfl, rfl, rfl, by decide +kernel, rfl, by decide +kernel, by decide +kernel⟩
-- is_lowest: 0:pair 1:above 2:below | kinds pair:l above:l below:l | comps 
abbrev S_lowest : Stmt := topS 9
abbrev n_lowest : List Str := ["above", "below", "shared"]
theorem sc_lowest : FnScope n_lowest ["above", "below"] (defScope S_lowest) := ⟨rfl, rfl, rfl, by decide +kernel, rfl, by decide +kernel, by decide +kernel⟩
-- lowest: 0:above 1:below 2:shared | kinds above:l below:l shared:l | comps 
abbrev S_multiplied : Stmt := topS 10
abbrev n_multiplied : List Str := ["one", "other"]
theorem sc_multiplied : FnScope n_multiplied ["one", "other"] (defScope S_multiplied) := ⟨rfl, rfl, rfl, by decide +kernel, rfl, by decide +kernel, by decide +kernel⟩
-- multiplied: 0:one 1:other | kinds one:l other:l | comps 
abbrev S_whole : Stmt := topS 11
abbrev n_whole : List Str := ["row", "below", "pair"]
theorem sc_whole : FnScope n_whole ["row"] (defScope S_whole) := ⟨rfl, rfl, rfl, by decide +kernel, rfl, by decide +kernel, by decide +kernel⟩
-- whole: 0:row 1:below 2:pair | kinds row:l below:c pair:l | comps .0:l pair:l below:f
abbrev S_copied : Stmt := topS 13
abbrev n_copied : List Str := ["rows", "row"]
theorem sc_copied : FnScope n_copied ["rows"] (defScope S_copied) := ⟨rfl, rfl, rfl, by decide +kernel, rfl, by decide +kernel, by decide +kernel⟩
-- copied: 0:rows 1:row | kinds rows:l | comps .0:l row:l list:g
abbrev S_check_number : Stmt := topS 14
abbrev n_check_number : List Str := ["pair"]
theorem sc_check_number : FnScope n_check_number ["pair"] (defScope S_check_number) := ⟨rfl, rfl, rfl, by decide +kernel, rfl, by decide +kernel, by decide +kernel⟩
-- check_number: 0:pair | kinds pair:l | comps 
abbrev S_check_numbers : Stmt := topS 15
abbrev n_check_numbers : List Str := ["row", "pair"]
theorem sc_check_numbers : FnScope n_check_numbers ["row"] (defScope S_check_numbers) := ⟨rfl, rfl, rfl, by decide +kernel, rfl, by decide +kernel, by decide +kernel⟩
-- check_numbers: 0:row 1:pair | kinds row:l pair:l | comps 
abbrev S_check_rows : Stmt := topS 16
abbrev n_check_rows : List Str := ["rows", "row"]
theorem sc_check_rows : FnScope n_check_rows ["rows"] (defScope S_check_rows) := ⟨rfl, rfl, rfl, by decide +kernel, rfl, by decide +kernel, by decide +kernel⟩
-- check_rows: 0:rows 1:row | kinds rows:l row:l | comps 
abbrev S_check_sizes : Stmt := topS 17
abbrev n_check_sizes : List Str := ["rows", "size", "row"]
theorem sc_check_sizes : FnScope n_check_sizes ["rows", "size"] (defScope S_check_sizes) := ⟨rfl, rfl, rfl, by decide +kernel, rfl, by decide +kernel, by decide +kernel⟩
-- check_sizes: 0:rows 1:size 2:row | kinds rows:l size:l row:l | comps 
abbrev S_check_rows_of : Stmt := topS 18
abbrev n_check_rows_of : List Str := ["rows", "size"]
theorem sc_check_rows_of : FnScope n_check_rows_of ["rows", "size"] (defScope S_check_rows_of) := ⟨rfl, rfl, rfl, by decide +kernel, rfl, by decide +kernel, by decide +kernel⟩
-- check_rows_of: 0:rows 1:size | kinds rows:l size:l | comps 
abbrev S_has_sizes : Stmt := topS 19
abbrev n_has_sizes : List Str := ["rows", "size", "row"]
theorem sc_has_sizes : FnScope n_has_sizes ["rows", "size"] (defScope S_has_sizes) := ⟨rfl, rfl, rfl, by decide +kernel, rfl, by decide +kernel, by decide +kernel⟩
-- has_sizes: 0:rows 1:size 2:row | kinds rows:l size:c | comps .0:l row:l len:g size:f
abbrev S_is_cube : Stmt := topS 20
abbrev n_is_cube : List Str := ["products", "size", "rows"]
theorem sc_is_cube : FnScope n_is_cube ["products"] (defScope S_is_cube) := ⟨rfl, rfl, rfl, by decide +kernel, rfl, by decide +kernel, by decide +kernel⟩
-- is_cube: 0:products 1:size 2:rows | kinds products:l size:c | comps .0:l rows:l len:g has_sizes:g size:f
abbrev S_Table : Stmt := topS 22
abbrev S_Table_init : Stmt := inClass S_Table 0
abbrev n_Table_init : List Str := ["self", "products", "lists", "size", "entries", "rows", "row", "pair", "at"]
theorem sc_Table_init : FnScope n_Table_init ["self", "products"] (defScope S_Table_init) := ⟨rfl, rfl, rfl, by decide +kernel, rfl, by decide +kernel, by decide +kernel⟩
-- Table_init: 0:self 1:products 2:lists 3:size 4:entries 5:rows 6:row 7:pair 8:at | kinds self:l products:l lists:l size:c entries:c | comps .0:l rows:l copied:g ; .0:l rows:l copied:g ; .0:l rows:l row:l pair:l ; .0:l at:l entries:f size:f
abbrev S_Table_size : Stmt := inClass S_Table 1
abbrev n_Table_size : List Str := ["self"]
theorem sc_Table_size : FnScope n_Table_size ["self"] (defScope S_Table_size) := ⟨rfl, rfl, rfl, by decide +kernel, rfl, by decide +kernel, by decide +kernel⟩
-- Table_size: 0:self | kinds self:l | comps 
abbrev S_Table_products : Stmt := inClass S_Table 2
abbrev n_Table_products : List Str := ["self", "rows"]
theorem sc_Table_products : FnScope n_Table_products ["self"] (defScope S_Table_products) := ⟨rfl, rfl, rfl, by decide +kernel, rfl, by decide +kernel, by decide +kernel⟩
-- Table_products: 0:self 1:rows | kinds self:l | comps .0:l rows:l copied:g
abbrev S_Table_call : Stmt := inClass S_Table 3
abbrev n_Table_call : List Str := ["self", "one", "other"]
theorem sc_Table_call : FnScope n_Table_call ["self", "one", "other"] (defScope S_Table_call) := ⟨rfl, rfl, rfl, by decide +kernel, rfl, by decide +kernel, by decide +kernel⟩
-- Table_call: 0:self 1:one 2:other | kinds self:l one:l other:l | comps 
abbrev S_Table_eq : Stmt := inClass S_Table 4
abbrev n_Table_eq : List Str := ["self", "other"]
theorem sc_Table_eq : FnScope n_Table_eq ["self", "other"] (defScope S_Table_eq) := ⟨rfl, rfl, rfl, by decide +kernel, rfl, by decide +kernel, by decide +kernel⟩
-- Table_eq: 0:self 1:other | kinds self:l other:l | comps 
abbrev S_Table_product_of : Stmt := inClass S_Table 5
abbrev n_Table_product_of : List Str := ["self", "one", "other", "entries", "below", "entry"]
theorem sc_Table_product_of : FnScope n_Table_product_of ["self", "one", "other"] (defScope S_Table_product_of) := ⟨rfl, rfl, rfl, by decide +kernel, rfl, by decide +kernel, by decide +kernel⟩
-- Table_product_of: 0:self 1:one 2:other 3:entries 4:below 5:entry | kinds self:l one:l other:l entries:l below:c | comps .0:l entry:l lowest:g below:f
abbrev S_Table_product_over : Stmt := inClass S_Table 6
abbrev n_Table_product_over : List Str := ["self", "one", "other", "lefts", "left_below", "rights", "right_below", "shares", "sums", "share", "row", "left", "right", "entry", "more"]
theorem sc_Table_product_over : FnScope n_Table_product_over ["self", "one", "other"] (defScope S_Table_product_over) := ⟨rfl, rfl, rfl, by decide +kernel, rfl, by decide +kernel, by decide +kernel⟩
-- Table_product_over: 0:self 1:one 2:other 3:lefts 4:left_below 5:rights 6:right_below 7:shares 8:sums 9:share 10:row 11:left 12:right 13:entry 14:more | kinds self:l one:l other:l lefts:l left_below:l rights:c right_below:l shares:l sums:l share:c row:l | comps .0:l left:l right:l rights:f ; .0:l entry:l more:l share:f
abbrev S_beside : Stmt := topS 23
abbrev n_beside : List Str := ["one", "other", "ahead", "behind", "ends", "firsts", "lasts", "row", "_", "rows"]
theorem sc_beside : FnScope n_beside ["one", "other"] (defScope S_beside) := ⟨rfl, rfl, rfl, by decide +kernel, rfl, by decide +kernel, by decide +kernel⟩
-- beside: 0:one 1:other 2:ahead 3:behind 4:ends 5:firsts 6:lasts 7:row 8:_ 9:rows | kinds one:l other:l ahead:c behind:c ends:c firsts:l lasts:l | comps .0:l row:l behind:f ; .0:l _:l ends:f ; .0:l rows:l behind:f ends:f ; .0:l _:l ends:f ; .0:l row:l ahead:f ; .0:l rows:l ahead:f ends:f
abbrev S_crossed : Stmt := topS 24
abbrev n_crossed : List Str := ["one", "other", "rights", "left", "right", "lefts", "others"]
theorem sc_crossed : FnScope n_crossed ["one", "other"] (defScope S_crossed) := ⟨rfl, rfl, rfl, by decide +kernel, rfl, by decide +kernel, by decide +kernel⟩
-- crossed: 0:one 1:other 2:rights 3:left 4:right 5:lefts 6:others | kinds one:l other:l rights:c | comps .0:l left:l right:l _all_by_all:g others:f ; .0:l lefts:l others:c rights:f
abbrev S__all_by_all : Stmt := topS 25
abbrev n__all_by_all : List Str := ["left", "right", "one", "other"]
theorem sc__all_by_all : FnScope n__all_by_all ["left", "right"] (defScope S__all_by_all) := ⟨rfl, rfl, rfl, by decide +kernel, rfl, by decide +kernel, by decide +kernel⟩
-- _all_by_all: 0:left 1:right 2:one 3:other | kinds left:l right:c | comps .0:l one:l other:l multiplied:g right:f
abbrev S__law_pool : Stmt := topS 27
abbrev n__law_pool : List Str := ["_law_script", "_law_mark", "_law_great", "_law_spot", "_law_cell"]
theorem sc__law_pool : FnScope n__law_pool ["_law_script"] (defScope S__law_pool) := ⟨rfl, rfl, rfl, by decide +kernel, rfl, by decide +kernel, by decide +kernel⟩
-- _law_pool: 0:_law_script 1:_law_mark 2:_law_great 3:_law_spot 4:_law_cell | kinds _law_script:l _law_mark:l _law_great:l _law_spot:l _law_cell:l | comps 
abbrev S__law_pick : Stmt := topS 28
abbrev n__law_pick : List Str := ["_law_pool_here", "_law_many", "_law_found", "_law_stir"]
theorem sc__law_pick : FnScope n__law_pick ["_law_pool_here", "_law_many"] (defScope S__law_pick) := ⟨rfl, rfl, rfl, by decide +kernel, rfl, by decide +kernel, by decide +kernel⟩
-- _law_pick: 0:_law_pool_here 1:_law_many 2:_law_found 3:_law_stir | kinds _law_pool_here:l _law_many:l _law_found:l _law_stir:l | comps 
abbrev S__law_low : Stmt := topS 29
abbrev n__law_low : List Str := ["_law_above", "_law_below", "_law_one", "_law_two"]
theorem sc__law_low : FnScope n__law_low ["_law_above", "_law_below"] (defScope S__law_low) := ⟨rfl, rfl, rfl, by decide +kernel, rfl, by decide +kernel, by decide +kernel⟩
-- _law_low: 0:_law_above 1:_law_below 2:_law_one 3:_law_two | kinds _law_above:l _law_below:l _law_one:l _law_two:l | comps 
abbrev S__law_add : Stmt := topS 30
abbrev n__law_add : List Str := ["_law_one", "_law_two"]
theorem sc__law_add : FnScope n__law_add ["_law_one", "_law_two"] (defScope S__law_add) := ⟨rfl, rfl, rfl, by decide +kernel, rfl, by decide +kernel, by decide +kernel⟩
-- _law_add: 0:_law_one 1:_law_two | kinds _law_one:l _law_two:l | comps 
abbrev S__law_mul : Stmt := topS 31
abbrev n__law_mul : List Str := ["_law_one", "_law_two"]
theorem sc__law_mul : FnScope n__law_mul ["_law_one", "_law_two"] (defScope S__law_mul) := ⟨rfl, rfl, rfl, by decide +kernel, rfl, by decide +kernel, by decide +kernel⟩
-- _law_mul: 0:_law_one 1:_law_two | kinds _law_one:l _law_two:l | comps 
abbrev S__law_number : Stmt := topS 32
abbrev n__law_number : List Str := ["_law_pool_here", "_law_great", "_law_kind", "_law_most", "_law_above", "_law_below"]
theorem sc__law_number : FnScope n__law_number ["_law_pool_here", "_law_great"] (defScope S__law_number) := ⟨rfl, rfl, rfl, by decide +kernel, rfl, by decide +kernel, by decide +kernel⟩
-- _law_number: 0:_law_pool_here 1:_law_great 2:_law_kind 3:_law_most 4:_law_above 5:_law_below | kinds _law_pool_here:l _law_great:l _law_kind:l _law_most:l _law_above:l _law_below:l | comps 
abbrev S__law_alike : Stmt := topS 33
abbrev n__law_alike : List Str := ["_law_told", "_law_due", "_law_kind", "_law_k"]
theorem sc__law_alike : FnScope n__law_alike ["_law_told", "_law_due"] (defScope S__law_alike) := ⟨rfl, rfl, rfl, by decide +kernel, rfl, by decide +kernel, by decide +kernel⟩
-- _law_alike: 0:_law_told 1:_law_due 2:_law_kind 3:_law_k | kinds _law_told:l _law_due:l _law_kind:l _law_k:l | comps 
abbrev S__law_products : Stmt := topS 34
abbrev n__law_products : List Str := ["_law_pool_here", "_law_size", "_law_great", "_law_kind", "_law_found", "_law_i", "_law_lines", "_law_j", "_law_line", "_law_k"]
theorem sc__law_products : FnScope n__law_products ["_law_pool_here", "_law_size", "_law_great"] (defScope S__law_products) := ⟨rfl, rfl, rfl, by decide +kernel, rfl, by decide +kernel, by decide +kernel⟩
-- _law_products: 0:_law_pool_here 1:_law_size 2:_law_great 3:_law_kind 4:_law_found 5:_law_i 6:_law_lines 7:_law_j 8:_law_line 9:_law_k | kinds _law_pool_here:c _law_size:l _law_great:c _law_kind:l _law_found:l _law_i:l _law_lines:l _law_j:l _law_line:l | comps .0:l _law_k:l _law_number:g _law_great:f _law_pool_here:f
abbrev S__law_times : Stmt := topS 35
abbrev n__law_times : List Str := ["_law_products_here", "_law_one", "_law_other", "_law_found", "_law_i", "_law_j", "_law_share", "_law_a", "_law_b"]
theorem sc__law_times : FnScope n__law_times ["_law_products_here", "_law_one", "_law_other"] (defScope S__law_times) := ⟨rfl, rfl, rfl, by decide +kernel, rfl, by decide +kernel, by decide +kernel⟩
-- _law_times: 0:_law_products_here 1:_law_one 2:_law_other 3:_law_found 4:_law_i 5:_law_j 6:_law_share 7:_law_a 8:_law_b | kinds _law_products_here:l _law_one:l _law_other:l _law_found:l _law_i:l _law_j:l _law_share:c | comps .0:l _law_a:l _law_b:l _law_add:g _law_mul:g _law_share:f
abbrev S__law_copied : Stmt := topS 36
abbrev n__law_copied : List Str := ["_law_thing", "_law_part"]
theorem sc__law_copied : FnScope n__law_copied ["_law_thing"] (defScope S__law_copied) := ⟨rfl, rfl, rfl, by decide +kernel, rfl, by decide +kernel, by decide +kernel⟩
-- _law_copied: 0:_law_thing 1:_law_part | kinds _law_thing:l | comps .0:l _law_part:l _law_copied:g
abbrev S__law_crossed : Stmt := topS 37
abbrev n__law_crossed : List Str := ["_law_one", "_law_other", "_law_found", "_law_a", "_law_b"]
theorem sc__law_crossed : FnScope n__law_crossed ["_law_one", "_law_other"] (defScope S__law_crossed) := ⟨rfl, rfl, rfl, by decide +kernel, rfl, by decide +kernel, by decide +kernel⟩
-- _law_crossed: 0:_law_one 1:_law_other 2:_law_found 3:_law_a 4:_law_b | kinds _law_one:l _law_other:l _law_found:l _law_a:c | comps .0:l _law_b:l _law_mul:g _law_a:f
abbrev S__law_beside_due : Stmt := topS 38
abbrev n__law_beside_due : List Str := ["_law_one", "_law_other", "_law_behind", "_law_ahead", "_law_found", "_law_lines", "_law_line", "_law_k"]
theorem sc__law_beside_due : FnScope n__law_beside_due ["_law_one", "_law_other"] (defScope S__law_beside_due) := ⟨rfl, rfl, rfl, by decide +kernel, rfl, by decide +kernel, by decide +kernel⟩
-- _law_beside_due: 0:_law_one 1:_law_other 2:_law_behind 3:_law_ahead 4:_law_found 5:_law_lines 6:_law_line 7:_law_k | kinds _law_one:l _law_other:l _law_behind:c _law_ahead:c _law_found:l _law_lines:l | comps .0:l _law_line:l _law_behind:f ; .0:l _law_k:l _law_ahead:f _law_behind:f ; .0:l _law_k:l _law_ahead:f _law_behind:f ; .0:l _law_line:l _law_ahead:f
abbrev S__law_crossed_due : Stmt := topS 39
abbrev n__law_crossed_due : List Str := ["_law_one", "_law_other", "_law_many", "_law_found", "_law_spot", "_law_lines", "_law_place", "_law_first", "_law_second"]
theorem sc__law_crossed_due : FnScope n__law_crossed_due ["_law_one", "_law_other"] (defScope S__law_crossed_due) := ⟨rfl, rfl, rfl, by decide +kernel, rfl, by decide +kernel, by decide +kernel⟩
-- _law_crossed_due: 0:_law_one 1:_law_other 2:_law_many 3:_law_found 4:_law_spot 5:_law_lines 6:_law_place 7:_law_first 8:_law_second | kinds _law_one:l _law_other:l _law_many:l _law_found:l _law_spot:l _law_lines:l _law_place:l _law_first:l _law_second:l | comps 
abbrev S__law_row : Stmt := topS 40
abbrev n__law_row : List Str := ["_law_pool_here", "_law_size", "_law_k"]
theorem sc__law_row : FnScope n__law_row ["_law_pool_here", "_law_size"] (defScope S__law_row) := ⟨rfl, rfl, rfl, by decide +kernel, rfl, by decide +kernel, by decide +kernel⟩
-- _law_row: 0:_law_pool_here 1:_law_size 2:_law_k | kinds _law_pool_here:c _law_size:l | comps .0:l _law_k:l _law_number:g _law_pool_here:f
abbrev S__law_is : Stmt := topS 41
abbrev n__law_is : List Str := ["_law_told", "_law_due"]
theorem sc__law_is : FnScope n__law_is ["_law_told", "_law_due"] (defScope S__law_is) := ⟨rfl, rfl, rfl, by decide +kernel, rfl, by decide +kernel, by decide +kernel⟩
-- _law_is: 0:_law_told 1:_law_due | kinds _law_told:l _law_due:l | comps 
abbrev S__law_beside_right : Stmt := topS 42
abbrev n__law_beside_right : List Str := ["_law_pool_here", "_law_one", "_law_other", "_law_first", "_law_second", "_law_due", "_law_told", "_law_third", "_law_lots", "_law_parts"]
theorem sc__law_beside_right : FnScope n__law_beside_right ["_law_pool_here", "_law_one", "_law_other", "_law_first", "_law_second"] (defScope S__law_beside_right) := ⟨rfl, rfl, rfl, by decide +kernel, rfl, by decide +kernel, by decide +kernel⟩
-- _law_beside_right: 0:_law_pool_here 1:_law_one 2:_law_other 3:_law_first 4:_law_second 5:_law_due 6:_law_told 7:_law_third 8:_law_lots 9:_law_parts | kinds _law_pool_here:l _law_one:l _law_other:l _law_first:l _law_second:l _law_due:l _law_told:l _law_third:l _law_lots:l _law_parts:l | comps 
abbrev S__law_crossed_right : Stmt := topS 43
abbrev n__law_crossed_right : List Str := ["_law_pool_here", "_law_one", "_law_other", "_law_first", "_law_second", "_law_due", "_law_told", "_law_third", "_law_lots", "_law_parts"]
theorem sc__law_crossed_right : FnScope n__law_crossed_right ["_law_pool_here", "_law_one", "_law_other", "_law_first", "_law_second"] (defScope S__law_crossed_right) := ⟨rfl, rfl, rfl, by decide +kernel, rfl, by decide +kernel, by decide +kernel⟩
-- _law_crossed_right: 0:_law_pool_here 1:_law_one 2:_law_other 3:_law_first 4:_law_second 5:_law_due 6:_law_told 7:_law_third 8:_law_lots 9:_law_parts | kinds _law_pool_here:l _law_one:l _law_other:l _law_first:l _law_second:l _law_due:l _law_told:l _law_third:l _law_lots:l _law_parts:l | comps 
abbrev S__law_pair : Stmt := topS 44
abbrev n__law_pair : List Str := ["_law_pool_here", "_law_sizes", "_law_lots", "_law_made", "_law_first", "_law_size"]
theorem sc__law_pair : FnScope n__law_pair ["_law_pool_here", "_law_sizes"] (defScope S__law_pair) := ⟨rfl, rfl, rfl, by decide +kernel, rfl, by decide +kernel, by decide +kernel⟩
-- _law_pair: 0:_law_pool_here 1:_law_sizes 2:_law_lots 3:_law_made 4:_law_first 5:_law_size | kinds _law_pool_here:c _law_sizes:l _law_lots:l _law_made:l _law_first:l | comps .0:l _law_size:l _law_products:g _law_pool_here:f
abbrev S__law_right : Stmt := topS 45
abbrev n__law_right : List Str := ["_law_pool_here", "_law_size", "_law_parts"]
theorem sc__law_right : FnScope n__law_right ["_law_pool_here"] (defScope S__law_right) := ⟨rfl, rfl, rfl, by decide +kernel, rfl, by decide +kernel, by decide +kernel⟩
-- _law_right: 0:_law_pool_here 1:_law_size 2:_law_parts | kinds _law_pool_here:l _law_size:l _law_parts:l | comps 
abbrev S_law : Stmt := topS 46
abbrev n_law : List Str := ["_law_script", "_law_pool_here"]
theorem sc_law : FnScope n_law ["_law_script"] (defScope S_law) := ⟨rfl, rfl, rfl, by decide +kernel, rfl, by decide +kernel, by decide +kernel⟩
-- law: 0:_law_script 1:_law_pool_here | kinds _law_script:l _law_pool_here:l | comps 
set_option hygiene false
local macro_rules | `(tactic| wtm_at "p_vis") => `(tactic| first | exact Or.inl rfl | exact Or.inr (Or.inl rfl) | exact Or.inr (Or.inr rfl))
local macro_rules | `(tactic| wtm_at "p_lt") => `(tactic| exact Nat.le_of_ble_eq_true rfl)
local macro_rules | `(tactic| wtm_at "p_s") => `(tactic| first
  | ((with_reducible show EX _ _ _ _ _ _ _); wtm_at "p_ex")
  | ((with_reducible show AX _ _ _ _ _ _ _); wtm_at "p_ax")
  | ((with_reducible show TX _ _ _ _ _ _ _); wtm_at "p_tx")
  | ((with_reducible show Gl _ _); exact rfl)
  | ((with_reducible show _ ≤ 100000); wtm_at "p_lt")
  | skip)
local macro_rules | `(tactic| wtm_at "p_glo") => `(tactic| first
  | (obtain ⟨an, hn1, hn2⟩ := B.nought; exact ex_glob (x := "NOUGHT") (v := .ref an) (by rfl) hn1 rfl hn2)
  | (obtain ⟨an, hn1, hn2⟩ := B.one; exact ex_glob (x := "ONE") (v := .ref an) (by rfl) hn1 rfl hn2))
local macro_rules | `(tactic| wtm_at "p_ex") => `(tactic| first
  | ((with_reducible show EX _ _ _ _ (Expr.Name _ _) _ _); first | wtm_at "p_var" | wtm_at "p_glo")
  | ((with_reducible show EX _ _ _ _ (Expr.Constant _ _ _) _ _); first | exact ex_int | exact ex_bl | exact ex_non | exact ex_str)
  | ((with_reducible show EX _ _ _ _ (Expr.Subscript _ (Expr.Constant (.int 0) _ _) _) _ _); refine' ex_T0 ?_ <;> wtm_at "p_s")
  | ((with_reducible show EX _ _ _ _ (Expr.Subscript _ (Expr.Constant (.int 1) _ _) _) _ _); refine' ex_T1 ?_ <;> wtm_at "p_s")
  | ((with_reducible show EX _ _ _ _ (Expr.BinOp _ .Add _ _) _ _); refine' ex_add ?_ ?_ <;> wtm_at "p_s")
  | ((with_reducible show EX _ _ _ _ (Expr.BinOp _ .Sub _ _) _ _); refine' ex_sub ?_ ?_ <;> wtm_at "p_s")
  | ((with_reducible show EX _ _ _ _ (Expr.BinOp _ .Mult _ _) _ _); refine' ex_mul ?_ ?_ ?_ <;> wtm_at "p_s")
  | ((with_reducible show EX _ _ _ _ (Expr.BinOp _ .FloorDiv _ _) _ _); refine' ex_fdiv ?_ ?_ ?_ ?_ <;> wtm_at "p_s")
  | ((with_reducible show EX _ _ _ _ (Expr.BinOp _ .Mod _ _) _ _); refine' ex_mod ?_ ?_ ?_ <;> wtm_at "p_s")
  | ((with_reducible show EX _ _ _ _ (Expr.UnaryOp .USub _ _) _ _); refine' ex_neg ?_ <;> wtm_at "p_s")
  | ((with_reducible show EX _ _ _ _ (Expr.Compare _ [.Lt] [_] _) _ _); refine' ex_lt ?_ ?_ <;> wtm_at "p_s")
  | ((with_reducible show EX _ _ _ _ (Expr.Compare _ [.LtE] [_] _) _ _); refine' ex_le ?_ ?_ <;> wtm_at "p_s")
  | ((with_reducible show EX _ _ _ _ (Expr.Compare _ [.Gt] [_] _) _ _); refine' ex_gt ?_ ?_ <;> wtm_at "p_s")
  | ((with_reducible show EX _ _ _ _ (Expr.Compare _ [.GtE] [_] _) _ _); refine' ex_ge ?_ ?_ <;> wtm_at "p_s")
  | ((with_reducible show EX _ _ _ _ (Expr.Compare _ [.Eq] [_] _) _ _); refine' ex_eqI ?_ ?_ <;> wtm_at "p_s")
  | ((with_reducible show EX _ _ _ _ (Expr.Compare _ [.NotEq] [_] _) _ _); refine' ex_neI ?_ ?_ <;> wtm_at "p_s")
  | ((with_reducible show EX _ _ _ _ (Expr.Tuple _ _ _) _ _); refine' ex_tup ?_ ?_ <;> wtm_at "p_s")
  | ((with_reducible show EX _ _ _ _ (Expr.List _ _) _ _); refine' ex_lst ?_ ?_ <;> wtm_at "p_s")
  | ((with_reducible show EX _ _ _ _ (Expr.Call (.Name "gcd" _) [_, _] [] _) _ _); refine' ex_gcd (x := "gcd") ?_ B.gcd ?_ ?_ <;> wtm_at "p_s")
  | ((with_reducible show EX _ _ _ _ (Expr.Call (.Name "lcm" _) [_, _] [] _) _ _); refine' ex_lcm (x := "lcm") ?_ B.lcm ?_ ?_ ?_ ?_ <;> wtm_at "p_s")
  | ((with_reducible show EX _ _ _ _ (Expr.Call (.Name "len" _) [_] [] _) _ _); refine' ex_len ?_ B.len ?_ <;> wtm_at "p_s")
  | ((with_reducible show EX _ _ _ _ (Expr.Call (.Name "int" _) [_] [] _) _ _); refine' ex_intI ?_ B.int ?_ <;> wtm_at "p_s")
  | ((with_reducible show EX _ _ _ _ (Expr.Call (.Name "abs" _) [_] [] _) _ _); refine' ex_abs ?_ B.abs ?_ <;> wtm_at "p_s")
  | ((with_reducible show EX _ _ _ _ (Expr.Call (.Name "sum" _) [_] [] _) _ _); refine' ex_sum rfl ?_ B.sum ?_ <;> wtm_at "p_s")
  | ((with_reducible show EX _ _ _ _ (Expr.Call (.Name "list" _) [_] [] _) _ _); refine' ex_listL ?_ B.list ?_ <;> wtm_at "p_s"))
local macro_rules | `(tactic| wtm_at "p_ax") => `(tactic| first | exact ax_nil | (refine' ax_cons ?_ ?_ <;> wtm_at "p_s"))
local macro_rules | `(tactic| wtm_at "p_tx") => `(tactic| first
  | ((with_reducible show TX _ _ _ _ (Expr.Compare _ [.Lt] [_] _) _ _); refine' tx_lt ?_ ?_ <;> wtm_at "p_s")
  | ((with_reducible show TX _ _ _ _ (Expr.Compare _ [.LtE] [_] _) _ _); refine' tx_le ?_ ?_ <;> wtm_at "p_s")
  | ((with_reducible show TX _ _ _ _ (Expr.Compare _ [.Gt] [_] _) _ _); refine' tx_gt ?_ ?_ <;> wtm_at "p_s")
  | ((with_reducible show TX _ _ _ _ (Expr.Compare _ [.GtE] [_] _) _ _); refine' tx_ge ?_ ?_ <;> wtm_at "p_s")
  | ((with_reducible show TX _ _ _ _ (Expr.Compare _ [.Eq] [_] _) _ _); refine' tx_eqI ?_ ?_ <;> wtm_at "p_s")
  | ((with_reducible show TX _ _ _ _ (Expr.Compare _ [.NotEq] [_] _) _ _); refine' tx_neI ?_ ?_ <;> wtm_at "p_s")
  | ((with_reducible show TX _ _ _ _ (Expr.UnaryOp .Not _ _) _ _); refine' tx_not ?_ <;> wtm_at "p_s")
  | (refine' tx_val ?_ <;> wtm_at "p_s"))
local macro_rules | `(tactic| wtm_at "p_ex") => `(tactic| first
  | ((with_reducible show EX _ _ _ _ (Expr.Call (.Name "is_lowest" _) [_] [] _) _ _); refine' ex_callH Cis_lowest (hr.mono (by decide)) (_, _) ?_ ?_ <;> wtm_at "p_s")
  | ((with_reducible show EX _ _ _ _ (Expr.Call (.Name "lowest" _) [_, _] [] _) _ _); refine' ex_callH Clowest (hr.mono (by decide)) (_, _) ?_ ?_ <;> wtm_at "p_s")
  | ((with_reducible show EX _ _ _ _ (Expr.Call (.Name "multiplied" _) [_, _] [] _) _ _); refine' ex_callH Cmultiplied (hr.mono (by decide)) (_, _) ?_ ?_ <;> wtm_at "p_s")
  | ((with_reducible show EX _ _ _ _ (Expr.Call (.Name "total" _) [_] [] _) _ _); refine' ex_callH Ctotal (hr.mono (by decide)) _ ?_ ?_ <;> wtm_at "p_s")
  | ((with_reducible show EX _ _ _ _ (Expr.Call (.Name "check_number" _) [_] [] _) _ _); refine' ex_callH Ccheck_number (hr.mono (by decide)) _ ?_ ?_ <;> wtm_at "p_s")
  | ((with_reducible show EX _ _ _ _ (Expr.Call (.Name "check_numbers" _) [_] [] _) _ _); refine' ex_callH Ccheck_numbers (hr.mono (by decide)) _ ?_ ?_ <;> wtm_at "p_s")
  | ((with_reducible show EX _ _ _ _ (Expr.Call (.Name "check_rows" _) [_] [] _) _ _); refine' ex_callH Ccheck_rows (hr.mono (by decide)) _ ?_ ?_ <;> wtm_at "p_s")
  | ((with_reducible show EX _ _ _ _ (Expr.Call (.Name "check_sizes" _) [_, _] [] _) _ _); refine' ex_callH Ccheck_sizes (hr.mono (by decide)) (_, _) ?_ ?_ <;> wtm_at "p_s")
  | ((with_reducible show EX _ _ _ _ (Expr.Call (.Name "unit_row" _) [_, _] [] _) _ _); refine' ex_callH Cunit_row (hr.mono (by decide)) (_, _) ?_ ?_ <;> wtm_at "p_s")
  | ((with_reducible show EX _ _ _ _ (Expr.Call (.Name "_law_low" _) [_, _] [] _) _ _); refine' ex_callH C_law_low (hr.mono (by decide)) (_, _) ?_ ?_ <;> wtm_at "p_s")
  | ((with_reducible show EX _ _ _ _ (Expr.Call (.Name "_law_mul" _) [_, _] [] _) _ _); refine' ex_callH C_law_mul (hr.mono (by decide)) (_, _) ?_ ?_ <;> wtm_at "p_s")
  | ((with_reducible show EX _ _ _ _ (Expr.Call (.Name "_law_add" _) [_, _] [] _) _ _); refine' ex_callH C_law_add (hr.mono (by decide)) (_, _) ?_ ?_ <;> wtm_at "p_s"))
section
set_option hygiene false
local macro_rules | `(tactic| wtm_at "p_var") => `(tactic| first
  | ((with_reducible show EX _ _ _ _ (Expr.Name "_law_pool_here" _) _ _); first | exact ex_var (i := 0) rfl (by wtm_at "p_vis") rfl | exact isNew.lst (ex_var (i := 0) rfl (by wtm_at "p_vis") rfl))
  | ((with_reducible show EX _ _ _ _ (Expr.Name "_law_many" _) _ _); first | exact ex_var (i := 1) rfl (by wtm_at "p_vis") rfl | exact isNew.lst (ex_var (i := 1) rfl (by wtm_at "p_vis") rfl))
  | ((with_reducible show EX _ _ _ _ (Expr.Name "_law_found" _) _ _); first | exact ex_var (i := 2) rfl (by wtm_at "p_vis") rfl | exact isNew.lst (ex_var (i := 2) rfl (by wtm_at "p_vis") rfl))
  | ((with_reducible show EX _ _ _ _ (Expr.Name "_law_stir" _) _ _); first | exact ex_var (i := 3) rfl (by wtm_at "p_vis") rfl | exact isNew.lst (ex_var (i := 3) rfl (by wtm_at "p_vis") rfl)))
abbrev sp__law_pick (K : PySem.W.Frag) : Sp := spD (ι := Int) 1 (fun m => [aInt m]) (fun m => 1 ≤ m ∧ m < 2 ^ 64) (fun m => exA (fun r => 0 ≤ r ∧ r < m) aInt)
theorem has__law_pick (B : Bl K mg) (D : DefAt K mg "_law_pick" S__law_pick) : Has Pr w K mg base "_law_pick" ["_law_pool_here", "_law_many"] (sp__law_pick K) 1 := by
  obtain ⟨f, fd, F, hm⟩ := D.ex
  refine ⟨f, fd, ⟨_, F⟩, fn_draw F sc__law_pick (fun _ => rfl) fun cdv A outer s H E U ap ag n m Q hr ho hn hR => ?_, hm, F.kp, F.binds fun _ _ _ _ _ _ us hl => match us, hl with | [_, _], _ => rfl⟩
  obtain ⟨h1, h2⟩ := ho
  have hmb := pick_bits h2 h1
  have hm0 : m ≠ 0 := by omega
  show SX _ _ _ [some (isV (.ref ap)), some (aInt m), none, none] _ _
  refine sx_ex (fun H h => pool_open h) fun p ⟨ok, ne⟩ => ?_
  have rdp : ∀ {X : Cx} {Γ : Slots} {ws ys : List V} {x : Expr} {p1 p2 : Pos} {i : Int} {j} {k : Nat} {w : V}, EX X (gD U ap ag H) (ivY U ap ag H ws ys) Γ x (isV (.ref ap)) (ivY U ap ag H ws ys) → i = (k : Int) → ws[k]? = some w → EX X (gD U ap ag H) (ivY U ap ag H ws ys) Γ (.Subscript x (.Constant (.int i) j p1) p2) (isV w) (ivY U ap ag H ws ys) :=
    fun hx e e2 => ex_ixV (owns_ap ne) (fun _ _ => rfl) hx ex_int e e2
  refine sx_while (ι := PoolW) (fun p => ivY U ap ag H (p.ws ag) (p.gs.map V.int)) (fun _ => [some (isV (.ref ap)), some (aInt m), none, none]) (fun p => p.gs.length) (fun p => p.Ok n) (fun p b => b = (decide (p.fig = 0) && !p.gs.isEmpty)) p PassesOwn.never ok (fun _ _ h => h) (fun p ok => ?_) (fun p ok hp => ?_) (fun p ok hp => ?_)
  · refine WX.tx (wx_and (J := ivY U ap ag H (p.ws ag) (p.gs.map V.int)) (tx_eqI (J := ivY U ap ag H (p.ws ag) (p.gs.map V.int)) (rdp (by wtm_at "p_var") (k := 1) rfl rfl) ex_int) fun _ => wx_and1 (tx_neNil hr (owns_ag ne) (rdp (by wtm_at "p_var") (k := 0) rfl rfl)))
  · obtain ⟨gs, fig, mark, cnt⟩ := p
    cases gs with
    | nil => simp at hp
    | cons g gs =>
      refine sx_storeV (k := 1) (K := ivY U ap ag H ([.ref ag, .int fig, .int mark, .int cnt]) (gs.map V.int)) (owns_ap ne) (ex_pop0 (w := .int g) (vs := gs.map V.int) (J := ivY U ap ag H ([.ref ag, .int fig, .int mark, .int cnt]) (V.int g :: gs.map V.int)) (K := ivY U ap ag H ([.ref ag, .int fig, .int mark, .int cnt]) (V.int g :: gs.map V.int)) (owns_ag ne) (rdp (by wtm_at "p_var") (k := 0) rfl rfl) ex_int ⟨_, owns_ag ne⟩) (by wtm_at "p_var") ex_int rfl (by wtm_at "p_lt") ?_
      refine sx_nil fun σ H k => ⟨⟨gs, g, mark, cnt⟩, Nat.lt_succ_self _, ⟨fun x hx => ok.gs x (List.mem_cons_of_mem _ hx), ok.gs g List.mem_cons_self, ok.m0, ok.m1, ok.c0, ok.c1⟩, k⟩
  obtain ⟨gs, fig, mark, cnt⟩ := p
  have hw := hmb
  have hcnt := ok.c1
  have hc0 := ok.c0
  have hm1 := ok.m1
  have hmm := ok.m0
  change cnt ≤ n at hcnt
  change 0 ≤ cnt at hc0
  change mark < 2 ^ 100 at hm1
  change 0 ≤ mark at hmm
  refine sx_if (P := (· = decide (0 < fig))) (J := ivY U ap ag H ([.ref ag, .int fig, .int mark, .int cnt]) (gs.map V.int)) (tx_gt (rdp (by wtm_at "p_var") (k := 1) rfl rfl) ex_int) (fun e => ?_) (fun e => sx_fall ?_ rfl)
  · refine sx_set (i := 2) (J := ivY U ap ag H ([.ref ag, .int fig, .int mark, .int cnt]) (gs.map V.int)) sc__law_pick.nd rfl (.inl rfl) (by wtm_at "p_lt") (ex_mod (J := ivY U ap ag H ([.ref ag, .int fig, .int mark, .int cnt]) (gs.map V.int)) (ex_intI (by rfl) B.int (rdp (by wtm_at "p_var") (k := 1) rfl rfl)) (by wtm_at "p_var") hm0) ?_
    show SX _ _ _ [some (isV (.ref ap)), some (aInt m), some (aInt (fig.fmod m)), none] _ _
    refine sx_storeV (k := 1) (K := ivY U ap ag H ([.ref ag, .int fig, .int mark, .int cnt]) (gs.map V.int)) (owns_ap ne) (ex_fdiv (J := ivY U ap ag H ([.ref ag, .int fig, .int mark, .int cnt]) (gs.map V.int)) (rdp (by wtm_at "p_var") (k := 1) rfl rfl) (by wtm_at "p_var") hm0 hmb) (by wtm_at "p_var") ex_int rfl (by wtm_at "p_lt") ?_
    refine sx_ret (J := ivY U ap ag H ([.ref ag, .int (fig.fdiv m), .int mark, .int cnt]) (gs.map V.int)) (EX.ex (fig.fmod m) (by wtm_at "p_var") (fmod_in h1)) (hR.post (pool_shut ⟨gs, fig.fdiv m, mark, cnt⟩ ⟨ok.gs, fdiv_nn h1 ok.fig, ok.m0, ok.m1, ok.c0, by show cnt ≤ ((n + 1 : Nat) : Int); omega⟩ ne))
  · refine sx_storeV (k := 3) (K := ivY U ap ag H ([.ref ag, .int fig, .int mark, .int cnt]) (gs.map V.int)) (owns_ap ne) (ex_add (J := ivY U ap ag H ([.ref ag, .int fig, .int mark, .int cnt]) (gs.map V.int)) (rdp (by wtm_at "p_var") (k := 3) rfl rfl) ex_int) (by wtm_at "p_var") ex_int rfl (by wtm_at "p_lt") ?_
    have p1 : (2 : Int) ^ 100 = 1267650600228229401496703205376 := by decide
    have b0 : ∀ n : Nat, (2 : Int) ^ n > 0 := fun n => Int.pow_pos (by decide)
    have hcc : cnt + 1 ≤ 2 ^ 61 := by omega
    have z1 : ∃ m n, Bits m (900001 : Int) ∧ Bits n (cnt + 1) ∧ m + n ≤ 134217728 := ⟨20, 64, by decide, bits_of (by omega) (by omega), by decide⟩
    have z2 : Bits 101 (mark + 900001 * (cnt + 1)) := bits_of (by have := b0 101; omega) (by have : (2 : Int) ^ 101 = 2535301200456458802993406410752 := (by decide); omega)
    refine sx_set (i := 3) (J := ivY U ap ag H ([.ref ag, .int fig, .int mark, .int (cnt + 1)]) (gs.map V.int)) sc__law_pick.nd rfl (.inl rfl) (by wtm_at "p_lt") (A := aInt (((mark + 900001 * (cnt + 1)) ^ 3).fmod (10 ^ 33 + 87)))
      (ex_mod (J := ivY U ap ag H ([.ref ag, .int fig, .int mark, .int (cnt + 1)]) (gs.map V.int)) (ex_intI (by rfl) B.int (ex_powC (J := ivY U ap ag H ([.ref ag, .int fig, .int mark, .int (cnt + 1)]) (gs.map V.int)) (k := 3) (ex_add (J := ivY U ap ag H ([.ref ag, .int fig, .int mark, .int (cnt + 1)]) (gs.map V.int)) (rdp (by wtm_at "p_var") (k := 2) rfl rfl) (ex_mul (J := ivY U ap ag H ([.ref ag, .int fig, .int mark, .int (cnt + 1)]) (gs.map V.int)) ex_int (rdp (by wtm_at "p_var") (k := 3) rfl rfl) z1)) ex_int rfl ⟨101, by decide, z2, by decide⟩))
        (ex_add (J := ivY U ap ag H ([.ref ag, .int fig, .int mark, .int (cnt + 1)]) (gs.map V.int)) (ex_powC (J := ivY U ap ag H ([.ref ag, .int fig, .int mark, .int (cnt + 1)]) (gs.map V.int)) (k := 33) ex_int ex_int rfl ⟨4, by decide, by decide, by decide⟩) ex_int) (by decide)) ?_
    generalize hst : ((mark + 900001 * (cnt + 1)) ^ 3).fmod (10 ^ 33 + 87) = st
    have hs1 : 0 ≤ st ∧ st < 10 ^ 33 + 87 := by rw [← hst]; exact fmod_in (by decide)
    have hs2 : (10 : Int) ^ 33 + 87 < 2 ^ 120 := by decide
    have z3 : ∃ m n, Bits m (7919 : Int) ∧ Bits n (cnt + 1) ∧ m + n ≤ 134217728 := ⟨20, 64, by decide, bits_of (by omega) (by omega), by decide⟩
    have z4 : Bits 121 (st + 7919 * (cnt + 1)) := bits_of (by have := b0 121; omega) (by have : (2 : Int) ^ 120 + 2 ^ 100 < 2 ^ 121 := (by decide); omega)
    show SX _ _ _ [some (isV (.ref ap)), some (aInt m), none, some (aInt st)] _ _
    refine sx_set (i := 3) (J := ivY U ap ag H ([.ref ag, .int fig, .int mark, .int (cnt + 1)]) (gs.map V.int)) sc__law_pick.nd rfl (.inl rfl) (by wtm_at "p_lt") (A := aInt (((st + 7919 * (cnt + 1)) ^ 2).fmod (10 ^ 31 + 99)))
      (ex_mod (J := ivY U ap ag H ([.ref ag, .int fig, .int mark, .int (cnt + 1)]) (gs.map V.int)) (ex_intI (by rfl) B.int (ex_powC (J := ivY U ap ag H ([.ref ag, .int fig, .int mark, .int (cnt + 1)]) (gs.map V.int)) (k := 2) (ex_add (J := ivY U ap ag H ([.ref ag, .int fig, .int mark, .int (cnt + 1)]) (gs.map V.int)) (by wtm_at "p_var") (ex_mul (J := ivY U ap ag H ([.ref ag, .int fig, .int mark, .int (cnt + 1)]) (gs.map V.int)) ex_int (rdp (by wtm_at "p_var") (k := 3) rfl rfl) z3)) ex_int rfl ⟨121, by decide, z4, by decide⟩))
        (ex_add (J := ivY U ap ag H ([.ref ag, .int fig, .int mark, .int (cnt + 1)]) (gs.map V.int)) (ex_powC (J := ivY U ap ag H ([.ref ag, .int fig, .int mark, .int (cnt + 1)]) (gs.map V.int)) (k := 31) ex_int ex_int rfl ⟨4, by decide, by decide, by decide⟩) ex_int) (by decide)) ?_
    generalize ((st + 7919 * (cnt + 1)) ^ 2).fmod (10 ^ 31 + 99) = s2
    show SX _ _ _ [some (isV (.ref ap)), some (aInt m), none, some (aInt s2)] _ _
    refine sx_ret (J := ivY U ap ag H ([.ref ag, .int fig, .int mark, .int (cnt + 1)]) (gs.map V.int)) (EX.ex ((s2.fdiv (10 ^ 7)).fmod m)
      (ex_mod (J := ivY U ap ag H ([.ref ag, .int fig, .int mark, .int (cnt + 1)]) (gs.map V.int)) (ex_intI (by rfl) B.int (ex_fdiv (J := ivY U ap ag H ([.ref ag, .int fig, .int mark, .int (cnt + 1)]) (gs.map V.int)) (by wtm_at "p_var") (ex_powC (J := ivY U ap ag H ([.ref ag, .int fig, .int mark, .int (cnt + 1)]) (gs.map V.int)) (k := 7) ex_int ex_int rfl ⟨4, by decide, by decide, by decide⟩) (by decide) (Nat.lt_of_lt_of_le (m := 2 ^ 24) (by decide) (Nat.pow_le_pow_right (by decide) (by decide))))) (by wtm_at "p_var") hm0) (fmod_in h1))
      (hR.post (pool_shut ⟨gs, fig, mark, cnt + 1⟩ ⟨ok.gs, ok.fig, ok.m0, ok.m1, by show 0 ≤ cnt + 1; omega, by show cnt + 1 ≤ ((n + 1 : Nat) : Int); omega⟩ ne))
theorem ex_pick {X : Cx} {G : Gx} {I : Iv G.M} {Γ : Slots} {a e : Expr} {pos p : Pos} {R : Int → Prop} {Bd : Int} {n : Nat} {ap ag : Addr} {Iz : Nat → Iv G.M} {Pr : Program} {w : World} {K0 : PySem.W.Frag} {mg : Str → Option Value} {base : Heap} (C : Has Pr w K0 mg base "_law_pick" ["_law_pool_here", "_law_many"] (sp__law_pick K0) 1) (hr : Room 1 X.A) (W : Drw G.M ap ag Iz)
    (h0 : EX X G I Γ e (isV (.ref ap)) I) (ha : EX X G I Γ a (exA R aInt) (Iz n)) (hR : ∀ m, R m → 1 ≤ m ∧ m ≤ Bd) (hB : Bd < 2 ^ 64) (hn : n + 1 ≤ 2 ^ 60) (hg : Gl X "_law_pick" := by rfl) (e1 : X.prog = Pr := by rfl) (e2 : X.w = w := by rfl) (e3 : X.K = K0 := by rfl) (e4 : X.mg = mg := by rfl) (e5 : X.base = base := by rfl)
    (hs1 : starEach [e, a] X.env = (false, eval e X.env) :: starEach [a] X.env := by rfl) (hs2 : starEach [a] X.env = (false, eval a X.env) :: starEach [] X.env := by rfl) (hpl : (backTo pos (starEach [a] X.env)).any (·.1) = false := by rfl) :
    EX X G I Γ (.Call (.Name "_law_pick" p) [e, a] [] pos) (exA (fun r => 0 ≤ r ∧ r < Bd) aInt) (Iz (n + 1)) :=
  ex_drawX C hr W h0 (ax_cons ha ax_nil hs2) hn (fun F vs h => by
    obtain ⟨v, r, rfl, ⟨m, rm, hv⟩, hr'⟩ := h
    have hm := hR m rm
    exact ⟨m, ⟨hm.1, Int.lt_of_le_of_lt hm.2 hB⟩, ⟨v, r, rfl, hv, hr'⟩, fun F v ⟨x, hx, e⟩ => ⟨x, ⟨hx.1, Int.lt_of_lt_of_le hx.2 hm.2⟩, e⟩⟩) hg e1 e2 e3 e4 e5 (by decide) hs1 hpl
/-- a number that is told, of these -/
theorem ex_pickK {X : Cx} {G : Gx} {I : Iv G.M} {Γ : Slots} {a e : Expr} {pos p : Pos} {m : Int} {n : Nat} {ap ag : Addr} {Iz : Nat → Iv G.M} {Pr : Program} {w : World} {K0 : PySem.W.Frag} {mg : Str → Option Value} {base : Heap} (C : Has Pr w K0 mg base "_law_pick" ["_law_pool_here", "_law_many"] (sp__law_pick K0) 1) (hr : Room 1 X.A) (W : Drw G.M ap ag Iz)
    (h0 : EX X G I Γ e (isV (.ref ap)) I) (ha : EX X G I Γ a (aInt m) (Iz n)) (hR : 1 ≤ m) (hB : m < 2 ^ 64) (hn : n + 1 ≤ 2 ^ 60) (hg : Gl X "_law_pick" := by rfl) (e1 : X.prog = Pr := by rfl) (e2 : X.w = w := by rfl) (e3 : X.K = K0 := by rfl) (e4 : X.mg = mg := by rfl) (e5 : X.base = base := by rfl)
    (hs1 : starEach [e, a] X.env = (false, eval e X.env) :: starEach [a] X.env := by rfl) (hs2 : starEach [a] X.env = (false, eval a X.env) :: starEach [] X.env := by rfl) (hpl : (backTo pos (starEach [a] X.env)).any (·.1) = false := by rfl) :
    EX X G I Γ (.Call (.Name "_law_pick" p) [e, a] [] pos) (exA (fun r => 0 ≤ r ∧ r < m) aInt) (Iz (n + 1)) :=
  ex_pick (R := (· = m)) C hr W h0 (EX.dr ha) (fun _ z => by rw [z]; exact ⟨hR, Int.le_refl _⟩) hB hn hg e1 e2 e3 e4 e5 hs1 hs2 hpl
/-- one of some ints, by a draw -/
theorem ex_ixI {X : Cx} {G : Gx} {I J K : Iv G.M} {Γ : Slots} {a b : Expr} {pos : Pos} {P R : Int → Prop} {l : List Int} (hs : PlainIx b) (ha : EX X G I Γ a (isLst X.K (l.map aInt)) J) (hb : EX X G J Γ b (exA P aInt) K) (hP : ∀ i, P i → 0 ≤ i ∧ i < (l.length : Int)) (hA : ∀ x ∈ l, R x) : EX X G I Γ (.Subscript a b pos) (exA R aInt) K :=
  ex_ixD (R := R) hs ha hb (fun i p => by rw [List.length_map]; exact hP i p) fun k A F v p e h => by
    obtain ⟨x, _, m, rfl⟩ := map_get e
    exact ⟨x, hA x m, h⟩
end
section
set_option hygiene false
local macro_rules | `(tactic| wtm_at "p_var") => `(tactic| first
  | ((with_reducible show EX _ _ _ _ (Expr.Name "_law_script" _) _ _); first | exact ex_var (i := 0) rfl (by wtm_at "p_vis") rfl | exact isNew.lst (ex_var (i := 0) rfl (by wtm_at "p_vis") rfl))
  | ((with_reducible show EX _ _ _ _ (Expr.Name "_law_mark" _) _ _); first | exact ex_var (i := 1) rfl (by wtm_at "p_vis") rfl | exact isNew.lst (ex_var (i := 1) rfl (by wtm_at "p_vis") rfl))
  | ((with_reducible show EX _ _ _ _ (Expr.Name "_law_great" _) _ _); first | exact ex_var (i := 2) rfl (by wtm_at "p_vis") rfl | exact isNew.lst (ex_var (i := 2) rfl (by wtm_at "p_vis") rfl))
  | ((with_reducible show EX _ _ _ _ (Expr.Name "_law_spot" _) _ _); first | exact ex_var (i := 3) rfl (by wtm_at "p_vis") rfl | exact isNew.lst (ex_var (i := 3) rfl (by wtm_at "p_vis") rfl))
  | ((with_reducible show EX _ _ _ _ (Expr.Name "_law_cell" _) _ _); first | exact ex_var (i := 4) rfl (by wtm_at "p_vis") rfl | exact isNew.lst (ex_var (i := 4) rfl (by wtm_at "p_vis") rfl)))
-- needs _law_pick
theorem has__law_pool (B : Bl K mg) (D : DefAt K mg "_law_pool" S__law_pool) : Has Pr w K mg base "_law_pool" ["_law_script"] (spPool K) 1 := by
  obtain ⟨f, fd, F, hm⟩ := D.ex
  refine ⟨f, fd, ⟨_, F⟩, F.ok sc__law_pool (fun vs H Q E ⟨a, ns, e, _⟩ => by rw [e]; rfl) (fun cdv A outer s H vs Q E hr ⟨a, ns, e, hS, hn, q⟩ => ⟨_, pss_wB, ?_⟩), hm, F.kp, F.binds fun _ _ _ _ _ _ us hl => match us, hl with | [_], _ => rfl⟩
  subst e
  have hsx : SX (cxF Pr w K mg base n__law_pool "_law_pool" (defScope S__law_pool) f cdv A outer s H E) (gP (fun _ => False) H) (ivT _) [some (isLst K (ns.map aInt)), none, none, none, none] (defBody S__law_pool) (retE Q) := by
    refine sx_parOwn (i := 1) (j := 2) (P := (· = (60013 : Int))) (A' := aInt) (J := ivT _) (K := ivT _) (Bs := []) rfl sc__law_pool.nd rfl rfl (by decide) rfl rfl (by wtm_at "p_lt") (by wtm_at "p_lt") (EX.dr ex_int) (nx_lst ax_nil (by decide)) (fun u D vs h0 pu hM hlen => ?_) (by rfl)
    subst pu
    have e0 : vs = [] := by cases vs with
      | nil => rfl
      | cons _ _ => simp at hlen
    subst e0
    show SX _ _ _ [some (isLst K (ns.map aInt)), some (aInt 60013), some (isOwn D [] []), none, none] _ _
    refine sx_forTX (ι := List Int × Int) (l := (List.range ns.length).zip ns) (f1 := fun p => aInt ((p.1 : Nat) : Int)) (f2 := fun p => aInt p.2) 3 4 (fun k y => (ivT _).own D (y.1.map V.int)) (fun _ y => [some (isLst K (ns.map aInt)), some (aInt y.2), some (isV (.ref D)), none, none]) (fun k y => (∀ g ∈ y.1, 0 ≤ g) ∧ 0 ≤ y.2 ∧ y.2 < 2 ^ 100 ∧ y.1.length ≤ k) ([], 60013) PassesOwn.never rfl
      (pg_tup rfl (pgs_cons (pg_name (i := 3) sc__law_pool.nd rfl (.inl rfl)) (pgs_cons (pg_name (i := 4) sc__law_pool.nd rfl (.inl rfl)) pgs_nil)))
      ((ix_enum (by rfl) B.enumerate (by wtm_at "p_var")).cast enumA_map) ⟨by simp, by decide, by decide, Nat.le_refl _⟩ ⟨fun _ _ h => h, fun _ _ h => h, fun _ _ h => h.1, True.intro⟩ (fun _ _ => by wtm_at "p_lt") (fun _ _ => by wtm_at "p_lt") (fun H1 Γ1 σ1 k y p e m hk py k1 => ?_) fun y py => ?_
    · obtain ⟨gs, mark⟩ := y
      obtain ⟨i, c⟩ := p
      obtain ⟨py1, py2, py3, py4⟩ := py
      change ∀ g ∈ gs, 0 ≤ g at py1
      change 0 ≤ mark at py2
      change mark < 2 ^ 100 at py3
      change gs.length ≤ k at py4
      have hkk : k < 63 := by
        have := hk
        rw [List.length_zip, List.length_range] at this
        omega
      have hi : i < 63 := by
        have := List.of_mem_zip m
        have := List.mem_range.mp this.1
        omega
      show SX _ _ _ [some (isLst K (ns.map aInt)), some (aInt mark), some (isV (.ref D)), some (aInt ((i : Nat) : Int)), some (aInt c)] _ _
      refine sx_if (P := (· = decide ((10 : Int) ^ 18 ≤ c))) (J := (ivT _).own D (gs.map V.int)) (tx_ge (J := (ivT _).own D (gs.map V.int)) (by wtm_at "p_var") (ex_powC (J := (ivT _).own D (gs.map V.int)) (k := 18) ex_int ex_int rfl ⟨4, by decide, by decide, by decide⟩)) (fun e => ?_) (fun e => ?_)
      · have hc := of_decide_eq_true e.symm
        refine sx_appendV (D := D) (vs := gs.map V.int) (w := .int (c - 10 ^ 18)) (I' := fun us => (ivT _).own D us) (K := (ivT _).own D (gs.map V.int)) (owns_top fun z => z) (by wtm_at "p_var") (ex_sub (J := (ivT _).own D (gs.map V.int)) (by wtm_at "p_var") (ex_powC (J := (ivT _).own D (gs.map V.int)) (k := 18) ex_int ex_int rfl ⟨4, by decide, by decide, by decide⟩)) (by rw [List.length_map]; omega) ⟨_, _, owns_top fun z => z⟩ ?_
        refine sx_nil fun σ H k => wB_nil ⟨(gs ++ [c - 10 ^ 18], mark), ⟨fun g hg => ?_, py2, py3, by rw [List.length_append]; show gs.length + 1 ≤ _; omega⟩, ?_⟩
        · rcases List.mem_append.mp hg with hg | hg
          · exact py1 g hg
          · have : g = c - 10 ^ 18 := by simpa using hg
            omega
        · have e9 : (gs ++ [c - 10 ^ 18]).map V.int = gs.map V.int ++ [V.int (c - 10 ^ 18)] := by rw [List.map_append]; rfl
          rw [e9]
          exact k.low ⟨fun _ _ h => h, fun _ _ h => h, fun _ _ h => h, True.intro⟩
      · have b0 : ∀ n : Nat, (2 : Int) ^ n > 0 := fun n => Int.pow_pos (by decide)
        have hm1 : 0 ≤ c.fmod (10 ^ 21 + 117) ∧ c.fmod (10 ^ 21 + 117) < 10 ^ 21 + 117 := fmod_in (by decide)
        have hm2 : (10 : Int) ^ 21 + 117 < 2 ^ 100 := by decide
        have z1 : ∃ m n, Bits m (31 : Int) ∧ Bits n (i : Int) ∧ m + n ≤ 134217728 := ⟨5, 6, by decide, bits_of (by omega) (by omega), by decide⟩
        have z2 : Bits 102 (mark + 31 * (i : Int) + c.fmod (10 ^ 21 + 117)) := bits_of (by have := b0 102; omega) (by have h : (2 : Int) ^ 100 + 2 ^ 100 + 2 ^ 100 < 2 ^ 102 := (by decide); have h2 : (1953 : Int) < 2 ^ 100 := (by decide); omega)
        show SX _ _ _ [some (isLst K (ns.map aInt)), some (aInt mark), some (isV (.ref D)), some (aInt ((i : Nat) : Int)), some (aInt c)] _ _
        refine sx_set (i := 1) (J := (ivT _).own D (gs.map V.int)) sc__law_pool.nd rfl (.inl rfl) (by wtm_at "p_lt") (A := aInt (((mark + 31 * (i : Int) + c.fmod (10 ^ 21 + 117)) ^ 3).fmod (10 ^ 28 + 331) + 1))
          ?_ ?_
        · refine ex_add (J := (ivT _).own D (gs.map V.int)) (ex_mod (J := (ivT _).own D (gs.map V.int)) (ex_intI rfl B.int ?_) (ex_add (J := (ivT _).own D (gs.map V.int)) (ex_powC (J := (ivT _).own D (gs.map V.int)) (k := 28) ex_int ex_int rfl ⟨4, by decide, by decide, by decide⟩) ex_int) (by decide)) ex_int
          refine ex_powC (J := (ivT _).own D (gs.map V.int)) (k := 3) ?_ ex_int rfl ⟨102, by decide, z2, by decide⟩
          refine ex_add (J := (ivT _).own D (gs.map V.int)) (ex_add (J := (ivT _).own D (gs.map V.int)) (by wtm_at "p_var") (ex_mul (J := (ivT _).own D (gs.map V.int)) ex_int (by wtm_at "p_var") z1)) ?_
          refine ex_mod (J := (ivT _).own D (gs.map V.int)) (ex_intI rfl B.int (by wtm_at "p_var")) (ex_add (J := (ivT _).own D (gs.map V.int)) (ex_powC (J := (ivT _).own D (gs.map V.int)) (k := 21) ex_int ex_int rfl ⟨4, by decide, by decide, by decide⟩) ex_int) (by decide)
        generalize hst : ((mark + 31 * (i : Int) + c.fmod (10 ^ 21 + 117)) ^ 3).fmod (10 ^ 28 + 331) = st
        have hs1 : 0 ≤ st ∧ st < 10 ^ 28 + 331 := by rw [← hst]; exact fmod_in (by decide)
        have hs2 : (10 : Int) ^ 28 + 331 + 1 < 2 ^ 100 := by decide
        refine sx_nil fun σ H k => wB_nil ⟨(gs, st + 1), ⟨py1, by show 0 ≤ st + 1; omega, by show st + 1 < 2 ^ 100; omega, by show gs.length ≤ _; omega⟩, ?_⟩
        exact k.low ⟨fun _ _ h => h, fun _ _ h => h, fun _ _ h => h, True.intro⟩
    · obtain ⟨gs, mark⟩ := y
      obtain ⟨py1, py2, py3, py4⟩ := py
      refine sx_retN (J := (ivT _).own D (gs.map V.int)) (As := [isV (.ref D), aInt 0, aInt mark, aInt 0]) (nx_lst (by wtm_at "p_ax") (by wtm_at "p_lt")) fun Γ σ H1 H' ap vs k t n e a => ?_
      obtain ⟨v1, r1, rfl, e1, v2, r2, rfl, e2, v3, r3, rfl, e3, v4, r4, rfl, e4, e5⟩ := a
      cases e1; cases e2; cases e3; cases e4; cases e5
      change H D = none at h0
      have sm1 : ∀ a o, H a = some o → H1 a = some o := fun a o e => k.frame a o (fun z => z) e
      have sm : ∀ a o, H a = some o → H' a = some o := fun a o e => t.keep a o (fun z => z.elim (fun z => z) fun z => by rw [z, h0] at e; cases e) (sm1 a o e)
      refine q H' ap D sm ?_ h0 ⟨fun z => ?_, gs, 0, mark, 0, e, t.inv.2, py1, by decide, ⟨py2, py3⟩, by decide, by decide⟩
      · cases z : H ap with
        | none => rfl
        | some o => rw [sm1 ap o z] at n; cases n
      · rw [z, k.inv.2] at n; cases n
  have mn : Sm H (fz (gP (fun _ => False) H).U H) := fun a o e => by rw [fz_neg fun z => z.elim (fun z => z) fun z => z]; exact e
  refine hsx _ _ ⟨fun a o _ e => e, fun a u => u.elim (fun z => z.elim) (fun z => z.elim), True.intro, ?_, rfl⟩
  refine start_sat (N := n__law_pool) (As := [isLst K (ns.map aInt)]) (AllA.one ⟨a, ns.map V.int, rfl, SqL.mono mn hS, ?_⟩)
  clear hS hn q hsx
  induction ns with
  | nil => rfl
  | cons i l ih => exact ⟨_, _, rfl, rfl, ih⟩
end
section
set_option hygiene false
local macro_rules | `(tactic| wtm_at "p_var") => `(tactic| first
  | ((with_reducible show EX _ _ _ _ (Expr.Name "rows" _) _ _); first | exact ex_var (i := 0) rfl (by wtm_at "p_vis") rfl | exact isNew.lst (ex_var (i := 0) rfl (by wtm_at "p_vis") rfl))
  | ((with_reducible show EX _ _ _ _ (Expr.Name "size" _) _ _); first | exact ex_var (i := 1) rfl (by wtm_at "p_vis") rfl | exact isNew.lst (ex_var (i := 1) rfl (by wtm_at "p_vis") rfl))
  | ((with_reducible show EX _ _ _ _ (Expr.Name "row" _) _ _); first | exact ex_var (i := 2) rfl (by wtm_at "p_vis") rfl | exact isNew.lst (ex_var (i := 2) rfl (by wtm_at "p_vis") rfl)))
theorem all_true {α : Type} {l : List α} {p : α → Bool} (h : ∀ a ∈ l, p a = true) : (l.map p).all id = true := by
  rw [List.all_eq_true]
  intro b hb
  obtain ⟨a, m, rfl⟩ := List.mem_map.mp hb
  exact h a m
abbrev sp_has_sizes (K : PySem.W.Frag) : Sp := spF (ι := List (List Rat) × Nat) (fun q => [isRows K q.1, aInt (q.2 : Int)]) (fun q => (∀ r ∈ q.1, r.length = q.2) ∧ q.1.length ≤ 100000) (fun _ => isBl true)
theorem has_has_sizes (B : Bl K mg) (D : DefAt K mg "has_sizes" S_has_sizes) : Has Pr w K mg base "has_sizes" ["rows", "size"] (sp_has_sizes K) 1 := by
  obtain ⟨f, fd, F, hm⟩ := D.ex
  refine ⟨f, fd, ⟨_, F⟩, fn_pure F sc_has_sizes (fun _ => rfl) fun cdv A outer s H E U q Q hr ho hR => ?_, hm, F.kp, F.binds fun _ _ _ _ _ _ us hl => match us, hl with | [_, _], _ => rfl⟩
  obtain ⟨l, n⟩ := q
  change (∀ r ∈ l, r.length = n) ∧ l.length ≤ 100000 at ho
  change Ret _ _ (isBl true) _ at hR
  show SX _ _ _ [some (isRows K l), some (aInt (n : Int)), none] _ _
  refine sx_retEq (J := ivT _) (A := isBl ((l.map fun r => decide (((r.map (isR K)).length : Int) = n)).all id)) ?_ hR ?_
  · refine ex_all (J := ivT _) rfl rfl B.all (isNew.lst (ex_lc rfl sc_has_sizes.nd ?_))
    rw [List.map_map]
    refine lx_N (J := ivT _) 2 (ix_list' (by wtm_at "p_ex")) sc_has_sizes.nd rfl (show blkC n_has_sizes (defScope S_has_sizes) _ _ = true from by decide +kernel) ho.2 rfl (.inl rfl) (fun _ _ _ _ _ => pg_name (i := 2) sc_has_sizes.nd rfl (.inl rfl)) fun D s H C cl fp r hr' => ?_
    show EX _ _ _ [some (isRows K l), some (aInt (n : Int)), some (isRow K r)] _ (isBl (decide (((r.map (isR K)).length : Int) = n))) _
    wtm_at "p_ex"
  · rw [all_true fun r m => decide_eq_true (by rw [List.length_map, ho.1 r m])]
end
section
set_option hygiene false
local macro_rules | `(tactic| wtm_at "p_var") => `(tactic| first
  | ((with_reducible show EX _ _ _ _ (Expr.Name "products" _) _ _); first | exact ex_var (i := 0) rfl (by wtm_at "p_vis") rfl | exact isNew.lst (ex_var (i := 0) rfl (by wtm_at "p_vis") rfl))
  | ((with_reducible show EX _ _ _ _ (Expr.Name "size" _) _ _); first | exact ex_var (i := 1) rfl (by wtm_at "p_vis") rfl | exact isNew.lst (ex_var (i := 1) rfl (by wtm_at "p_vis") rfl))
  | ((with_reducible show EX _ _ _ _ (Expr.Name "rows" _) _ _); first | exact ex_var (i := 2) rfl (by wtm_at "p_vis") rfl | exact isNew.lst (ex_var (i := 2) rfl (by wtm_at "p_vis") rfl)))
abbrev isCb (K : PySem.W.Frag) (l : List (List (List Rat))) : Asr := isLst K (l.map (isRows K))
abbrev okCube (q : List (List (List Rat))) : Prop := 1 ≤ q.length ∧ q.length ≤ 100 ∧ ∀ r ∈ q, r.length = q.length ∧ ∀ x ∈ r, x.length = q.length
abbrev sp_is_cube (K : PySem.W.Frag) : Sp := spF (ι := List (List (List Rat))) (fun q => [isCb K q]) okCube (fun _ => isBl true)
theorem has_is_cube (B : Bl K mg) (D : DefAt K mg "is_cube" S_is_cube) (Chas_sizes : Has Pr w K mg base "has_sizes" ["rows", "size"] (sp_has_sizes K) 1) : Has Pr w K mg base "is_cube" ["products"] (sp_is_cube K) 2 := by
  obtain ⟨f, fd, F, hm⟩ := D.ex
  refine ⟨f, fd, ⟨_, F⟩, fn_pure F sc_is_cube (fun _ => rfl) fun cdv A outer s H E U q Q hr ho hR => ?_, hm, F.kp, F.binds fun _ _ _ _ _ _ us hl => match us, hl with | [_], _ => rfl⟩
  change 1 ≤ q.length ∧ q.length ≤ 100 ∧ ∀ r ∈ q, r.length = q.length ∧ ∀ x ∈ r, x.length = q.length at ho
  change Ret _ _ (isBl true) _ at hR
  show SX _ _ _ [some (isCb K q), none, none] _ _
  refine sx_set (i := 1) (J := ivT _) (A := aInt (q.length : Int)) sc_is_cube.nd rfl (.inr rfl) (by wtm_at "p_lt") ?_ ?_
  · have e : (q.length : Int) = ((q.map (isRows K)).length : Int) := by rw [List.length_map]
    rw [e]
    wtm_at "p_ex"
  show SX _ _ _ [some (isCb K q), some (aInt (q.length : Int)), none] _ _
  refine sx_retEq (J := ivT _) (A := isBl (decide (1 ≤ (q.length : Int)) && ((q.map fun _ => true).all id))) (ex_and (J := ivT _) (by wtm_at "p_ex") (fun _ => ex_one ?_)) hR ?_
  · refine ex_all (J := ivT _) rfl rfl B.all (isNew.lst (ex_lc rfl sc_is_cube.nd ?_))
    rw [List.map_map]
    refine lx_N (J := ivT _) 2 (ix_list' (by wtm_at "p_ex")) sc_is_cube.nd rfl (show blkC n_is_cube (defScope S_is_cube) _ _ = true from by decide +kernel) (by omega) rfl (.inl rfl) (fun _ _ _ _ _ => pg_name (i := 2) sc_is_cube.nd rfl (.inl rfl)) fun D s H C cl fp r hr' => ?_
    show EX _ _ _ [some (isCb K q), some (aInt (q.length : Int)), some (isRows K r)] _ (isBl true) _
    have e : isBl true = isBl (decide (((r.map (isRow K)).length : Int) = (q.length : Int)) && true) := by rw [decide_eq_true (by rw [List.length_map, (ho.2.2 r hr').1])]; rfl
    rw [e]
    exact ex_and (G := (gP U _).lk D) (J := ivT _) (by wtm_at "p_ex") fun _ => ex_one (ex_callH Chas_sizes (hr.mono (by decide)) (r, q.length) (by wtm_at "p_ax") ⟨(ho.2.2 r hr').2, by show r.length ≤ _; rw [(ho.2.2 r hr').1]; omega⟩)
  · rw [all_true fun r m => rfl, decide_eq_true (by omega)]
    rfl
end
section
set_option hygiene false
local macro_rules | `(tactic| wtm_at "p_var") => `(tactic| first
  | ((with_reducible show EX _ _ _ _ (Expr.Name "_law_above" _) _ _); first | exact ex_var (i := 0) rfl (by wtm_at "p_vis") rfl | exact isNew.lst (ex_var (i := 0) rfl (by wtm_at "p_vis") rfl))
  | ((with_reducible show EX _ _ _ _ (Expr.Name "_law_below" _) _ _); first | exact ex_var (i := 1) rfl (by wtm_at "p_vis") rfl | exact isNew.lst (ex_var (i := 1) rfl (by wtm_at "p_vis") rfl))
  | ((with_reducible show EX _ _ _ _ (Expr.Name "_law_one" _) _ _); first | exact ex_var (i := 2) rfl (by wtm_at "p_vis") rfl | exact isNew.lst (ex_var (i := 2) rfl (by wtm_at "p_vis") rfl))
  | ((with_reducible show EX _ _ _ _ (Expr.Name "_law_two" _) _ _); first | exact ex_var (i := 3) rfl (by wtm_at "p_vis") rfl | exact isNew.lst (ex_var (i := 3) rfl (by wtm_at "p_vis") rfl)))
abbrev sp__law_low (K : PySem.W.Frag) : Sp := spF (ι := Int × Int) (fun q => [aInt q.1, aInt q.2]) (fun q => q.2 ≠ 0 ∧ Bits 9000 q.2) (fun q => isR K (Rat.divInt q.1 q.2))
theorem has__law_low (B : Bl K mg) (D : DefAt K mg "_law_low" S__law_low) : Has Pr w K mg base "_law_low" ["_law_above", "_law_below"] (sp__law_low K) 1 := by
  obtain ⟨f, fd, F, hm⟩ := D.ex
  refine ⟨f, fd, ⟨_, F⟩, fn_pure F sc__law_low (fun _ => rfl) fun cdv A outer s H E U q Q hr ho hR => ?_, hm, F.kp, F.binds fun _ _ _ _ _ _ us hl => match us, hl with | [_, _], _ => rfl⟩
  obtain ⟨a, b⟩ := q
  change b ≠ 0 ∧ Bits 9000 b at ho
  change Ret _ _ (isR K (Rat.divInt a b)) _ at hR
  obtain ⟨h0, hb⟩ := ho
  show SX _ _ _ [some (aInt a), some (aInt b), none, none] _ _
  refine sx_par (i := 2) (j := 3) (J := ivT _) (K := ivT _) (A := aInt (a.natAbs : Int)) (B := aInt (b.natAbs : Int)) rfl sc__law_low.nd rfl rfl (by decide) rfl rfl (by wtm_at "p_lt") (by wtm_at "p_lt") (by wtm_at "p_ex") (by wtm_at "p_ex") ?_ (by rfl)
  show SX _ _ _ [some (aInt a), some (aInt b), some (aInt (a.natAbs : Int)), some (aInt (b.natAbs : Int))] _ _
  refine sx_while (ι := Nat × Nat) (fun _ => ivT _) (fun x => [some (aInt a), some (aInt b), some (aInt (x.1 : Int)), some (aInt (x.2 : Int))]) (fun x => x.2) (fun x => Nat.gcd x.1 x.2 = Nat.gcd a.natAbs b.natAbs) (fun x c => c = !decide ((x.2 : Int) = 0)) (a.natAbs, b.natAbs) PassesOwn.never rfl (fun _ _ h => h) (fun x hx => ?_) (fun x hx hp => ?_) (fun x hx hp => ?_)
  · obtain ⟨x, y⟩ := x
    show TX _ _ _ [some (aInt a), some (aInt b), some (aInt (x : Int)), some (aInt (y : Int))] _ _ _
    wtm_at "p_tx"
  · obtain ⟨x, y⟩ := x
    have hy : (y : Int) ≠ 0 := fun e => by simp [e] at hp
    show SX _ _ _ [some (aInt a), some (aInt b), some (aInt (x : Int)), some (aInt (y : Int))] _ _
    refine sx_par (i := 2) (j := 3) (J := ivT _) (K := ivT _) (A := aInt (y : Int)) (B := aInt ((x : Int).fmod (y : Int))) rfl sc__law_low.nd rfl rfl (by decide) rfl rfl (by wtm_at "p_lt") (by wtm_at "p_lt") (by wtm_at "p_ex") (ex_mod (J := ivT _) (by wtm_at "p_ex") (by wtm_at "p_ex") hy) ?_ (by rfl)
    refine sx_nil fun σ H k => ⟨(y, x % y), Nat.mod_lt _ (by omega), ?_, k.low ⟨fun _ _ h => h, fun _ _ h => h, fun _ _ h => h, fun F v h => ?_, True.intro⟩⟩
    · rw [← hx, Nat.gcd_comm x y]
      show Nat.gcd y (x % y) = Nat.gcd y x
      rw [Nat.gcd_comm y (x % y), ← Nat.gcd_rec]
    · have e : (x : Int).fmod (y : Int) = ((x % y : Nat) : Int) := by rw [Int.fmod_eq_emod_of_nonneg _ (by omega)]; rfl
      rw [← e]; exact h
  · obtain ⟨x, y⟩ := x
    have hy : y = 0 := by
      have : (y : Int) = 0 := by
        rcases Decidable.em ((y : Int) = 0) with h | h
        · exact h
        · simp at hp; omega
      omega
    subst hy
    have hx' : x = Nat.gcd a.natAbs b.natAbs := by rw [← hx]; exact (Nat.gcd_zero_right x).symm
    subst hx'
    have hg := gcd_posR (a := a) h0
    have hg0 : ((Nat.gcd a.natAbs b.natAbs : Nat) : Int) ≠ 0 := by omega
    have hgb : Bits 9000 ((Nat.gcd a.natAbs b.natAbs : Nat) : Int) := by
      show (_ : Int).natAbs < _
      rw [Int.natAbs_natCast]
      exact Nat.lt_of_le_of_lt (Nat.gcd_le_right _ (by omega)) hb
    obtain ⟨e1, e2⟩ := low_eq2 (a := a) h0
    show SX _ _ _ [some (aInt a), some (aInt b), some (aInt ((Nat.gcd a.natAbs b.natAbs : Nat) : Int)), some (aInt ((0 : Nat) : Int))] _ _
    refine sx_ret (J := ivT _) (A := isR K (Rat.divInt a b)) (ex_if (P := (· = decide (0 < b))) (by wtm_at "p_tx") (fun p => ?_) (fun p => ?_)) hR
    · have p := of_decide_eq_true p.symm
      rw [if_pos p] at e1 e2
      show EX _ _ _ _ _ (isTup K [aInt (Rat.divInt a b).num, aInt ((Rat.divInt a b).den : Int)]) _
      rw [← e1, ← e2]
      wtm_at "p_ex" <;> assumption
    · have p := of_decide_eq_false p.symm
      rw [if_neg p] at e1 e2
      show EX _ _ _ _ _ (isTup K [aInt (Rat.divInt a b).num, aInt ((Rat.divInt a b).den : Int)]) _
      rw [← e1, ← e2]
      wtm_at "p_ex" <;> assumption
end
section
set_option hygiene false
local macro_rules | `(tactic| wtm_at "p_var") => `(tactic| first
  | ((with_reducible show EX _ _ _ _ (Expr.Name "_law_pool_here" _) _ _); first | exact ex_var (i := 0) rfl (by wtm_at "p_vis") rfl | exact isNew.lst (ex_var (i := 0) rfl (by wtm_at "p_vis") rfl))
  | ((with_reducible show EX _ _ _ _ (Expr.Name "_law_great" _) _ _); first | exact ex_var (i := 1) rfl (by wtm_at "p_vis") rfl | exact isNew.lst (ex_var (i := 1) rfl (by wtm_at "p_vis") rfl))
  | ((with_reducible show EX _ _ _ _ (Expr.Name "_law_kind" _) _ _); first | exact ex_var (i := 2) rfl (by wtm_at "p_vis") rfl | exact isNew.lst (ex_var (i := 2) rfl (by wtm_at "p_vis") rfl))
  | ((with_reducible show EX _ _ _ _ (Expr.Name "_law_most" _) _ _); first | exact ex_var (i := 3) rfl (by wtm_at "p_vis") rfl | exact isNew.lst (ex_var (i := 3) rfl (by wtm_at "p_vis") rfl))
  | ((with_reducible show EX _ _ _ _ (Expr.Name "_law_above" _) _ _); first | exact ex_var (i := 4) rfl (by wtm_at "p_vis") rfl | exact isNew.lst (ex_var (i := 4) rfl (by wtm_at "p_vis") rfl))
  | ((with_reducible show EX _ _ _ _ (Expr.Name "_law_below" _) _ _); first | exact ex_var (i := 5) rfl (by wtm_at "p_vis") rfl | exact isNew.lst (ex_var (i := 5) rfl (by wtm_at "p_vis") rfl)))
abbrev nb (g : Bool) : Nat := if g = true then 14 else 4
abbrev mb (g : Bool) : Int := if g = true then 9999 else 9
theorem nb_lt {g : Bool} {i : Int} (h : i ≤ mb g) (h2 : -mb g ≤ i) : i.natAbs < 2 ^ nb g := by
  cases g
  · have a : i ≤ 9 := h
    have b : -9 ≤ i := h2
    show i.natAbs < 2 ^ 4
    omega
  · have a : i ≤ 9999 := h
    have b : -9999 ≤ i := h2
    show i.natAbs < 2 ^ 14
    omega
theorem mb_le (g : Bool) : 9 ≤ mb g ∧ mb g ≤ 9999 ∧ 4 ≤ nb g ∧ nb g ≤ 14 := by cases g <;> decide
theorem numX {K : PySem.W.Frag} {g : Bool} (F : Hp) (v : V) : (exA (RB (nb g)) (isR K)).p F v → (exA (RB 14) (isR K)).p F v := fun ⟨r, h, e⟩ => ⟨r, h.mono (mb_le g).2.2.2, e⟩
abbrev sp__law_number (K : PySem.W.Frag) : Sp := spD (ι := Bool) 5 (fun g => [isBl g]) (fun _ => True) (fun g => exA (RB (nb g)) (isR K))
theorem has__law_number (B : Bl K mg) (D : DefAt K mg "_law_number" S__law_number) (C_law_pick : Has Pr w K mg base "_law_pick" ["_law_pool_here", "_law_many"] (sp__law_pick K) 1) (C_law_low : Has Pr w K mg base "_law_low" ["_law_above", "_law_below"] (sp__law_low K) 1) : Has Pr w K mg base "_law_number" ["_law_pool_here", "_law_great"] (sp__law_number K) 2 := by
  obtain ⟨f, fd, F, hm⟩ := D.ex
  refine ⟨f, fd, ⟨_, F⟩, fn_draw F sc__law_number (fun _ => rfl) fun cdv A outer s H E U ap ag n g Q hr ho hn hR => ?_, hm, F.kp, F.binds fun _ _ _ _ _ _ us hl => match us, hl with | [_, _], _ => rfl⟩
  have hn1 : n + 1 ≤ 2 ^ 60 := by omega
  have hn2 : n + 1 + 1 ≤ 2 ^ 60 := by omega
  have hn3 : n + 1 + 1 + 1 ≤ 2 ^ 60 := by omega
  have hn4 : n + 1 + 1 + 1 + 1 ≤ 2 ^ 60 := by omega
  have hn5 : n + 1 + 1 + 1 + 1 + 1 ≤ 2 ^ 60 := by omega
  show SX _ _ _ [some (isV (.ref ap)), some (isBl g), none, none, none, none] _ _
  refine sx_setE (i := 2) (P := fun r : Int => 0 ≤ r ∧ r < 7) (B := aInt) (J := ivD U ap ag H (n + 1)) sc__law_number.nd rfl (.inl rfl) (by wtm_at "p_lt") (ex_pickK (m := 7) C_law_pick (hr.mono (by decide)) drw_gD (by wtm_at "p_var") ex_int (by decide) (by decide) hn1) fun kind hk => ?_
  show SX _ _ _ [some (isV (.ref ap)), some (isBl g), some (aInt kind), none, none, none] _ _
  refine sx_ifR (P := (· = decide (kind < 2))) (J := ivD U ap ag H (n + 1)) (by wtm_at "p_tx") (fun p => ?_) (fun p => ?_)
  · have p := of_decide_eq_true p.symm
    refine sx_ret (J := ivD U ap ag H (n + 1)) (A := exA (RB (nb g)) (isR K)) (EX.ex (kind : Rat) (by show EX _ _ _ _ _ (isTup K [aInt kind, aInt 1]) _; wtm_at "p_ex") (RB_int (n := nb g) (nb_lt (by show kind ≤ _; have := (mb_le g).1; omega) (by show _ ≤ kind; have := (mb_le g).1; omega)) (by have := (mb_le g).2.2.1; omega))) (hR.post (ivD_more (by omega)))
  · have p := of_decide_eq_false p.symm
    refine sx_setE (i := 3) (P := fun r : Int => 1 ≤ r ∧ r ≤ mb g) (B := aInt) (J := ivD U ap ag H (n + 1)) sc__law_number.nd rfl (.inl rfl) (by wtm_at "p_lt") ?_ fun most hm => ?_
    · refine ex_if (P := (· = g)) (J := ivD U ap ag H (n + 1)) (tx_val (by wtm_at "p_var")) (fun eg => ?_) (fun _ => EX.ex 9 ex_int ⟨by decide, (mb_le g).1⟩)
      refine ex_ixI (l := [9, 9, 9, 99, 9999]) (P := (· = kind - 2)) (J := ivD U ap ag H (n + 1)) (fun _ _ => rfl) ?_ (EX.dr (by wtm_at "p_ex")) (fun i e => by subst e; show 0 ≤ kind - 2 ∧ kind - 2 < 5; omega) (by rw [← eg]; simp; exact ⟨by decide, by decide, by decide⟩)
      show EX _ _ _ _ _ (isLst K [aInt 9, aInt 9, aInt 9, aInt 99, aInt 9999]) _
      wtm_at "p_ex"
    show SX _ _ _ [some (isV (.ref ap)), some (isBl g), some (aInt kind), some (aInt most), none, none] _ _
    refine sx_parE (i := 4) (j := 5) (P := fun r : Int => 1 ≤ r ∧ r ≤ mb g) (R := fun r : Int => 1 ≤ r ∧ r ≤ mb g) (A' := aInt) (B' := aInt) (J := ivD U ap ag H (n + 1 + 1)) (K := ivD U ap ag H (n + 1 + 1 + 1 + 1)) rfl sc__law_number.nd rfl rfl (by decide) rfl rfl (by wtm_at "p_lt") (by wtm_at "p_lt") ?_ ?_ (fun above below ha hb => ?_) (by rfl)
    · refine ex_addD (J := ivD U ap ag H (n + 1)) (P := (· = 1)) (Q := fun r => 0 ≤ r ∧ r < most) (EX.dr ex_int) (ex_pickK C_law_pick (hr.mono (by decide)) drw_gD (by wtm_at "p_var") (by wtm_at "p_var") hm.1 (by have := (mb_le g).2.1; omega) hn2) (fun i j e h => by subst e; omega)
    · refine ex_addD (J := ivD U ap ag H (n + 1 + 1)) (P := (· = 1)) (Q := fun r => 0 ≤ r ∧ r < mb g) (EX.dr ex_int) (ex_pick (R := fun m => 1 ≤ m ∧ m ≤ mb g) (n := n + 1 + 1 + 1) C_law_pick (hr.mono (by decide)) drw_gD (by wtm_at "p_var") ?_ (fun _ h => h) (by have := (mb_le g).2.1; omega) hn4) (fun i j e h => by subst e; omega)
      refine ex_ixI (l := [1, most]) (P := fun r => 0 ≤ r ∧ r < 2) (J := ivD U ap ag H (n + 1 + 1)) (fun _ _ => rfl) ?_ (ex_pickK C_law_pick (hr.mono (by decide)) drw_gD (by wtm_at "p_var") ex_int (by decide) (by decide) hn3) (fun i e => e) (by
        intro x hx
        have : x = 1 ∨ x = most := by simpa using hx
        have := (mb_le g).1
        omega)
      show EX _ _ _ _ _ (isLst K [aInt 1, aInt most]) _
      wtm_at "p_ex"
    show SX _ _ _ [some (isV (.ref ap)), some (isBl g), some (aInt kind), some (aInt most), some (aInt above), some (aInt below)] _ _
    refine sx_ret (J := ivD U ap ag H (n + 1 + 1 + 1 + 1 + 1)) (A := exA (RB (nb g)) (isR K)) ?_ hR
    refine ex_callX (As := [exA (fun i => i = above ∨ i = -above) aInt, aInt below]) C_law_low (hr.mono (by decide)) (ax_cons (J := ivD U ap ag H (n + 1 + 1 + 1 + 1 + 1)) ?_ (by wtm_at "p_ax")) fun F vs h => ?_
    · refine ex_ixI (l := [above, -above]) (P := fun r => 0 ≤ r ∧ r < 2) (J := ivD U ap ag H (n + 1 + 1 + 1 + 1)) (fun _ _ => rfl) ?_ (ex_pickK C_law_pick (hr.mono (by decide)) drw_gD (by wtm_at "p_var") ex_int (by decide) (by decide) hn5) (fun i e => e) (by simp)
      show EX _ _ _ _ _ (isLst K [aInt above, aInt (-above)]) _
      wtm_at "p_ex"
    · obtain ⟨v, r, rfl, ⟨i, hi, e1⟩, v2, r2, rfl, e2, rfl⟩ := h
      have hb0 : below ≠ 0 := by omega
      have hbb : below.natAbs < 2 ^ nb g := nb_lt hb.2 (by have := (mb_le g).1; omega)
      exact ⟨(i, below), ⟨hb0, Nat.lt_of_lt_of_le hbb (Nat.pow_le_pow_right (by decide) (by have := (mb_le g).2.2.2; omega))⟩, ⟨v, _, rfl, e1, v2, _, rfl, e2, rfl⟩, fun F v h => ⟨_, divInt_RB hb0 (nb_lt (by rcases hi with e | e <;> omega) (by rcases hi with e | e <;> omega)) hbb, h⟩⟩
end
section
set_option hygiene false
local macro_rules | `(tactic| wtm_at "p_var") => `(tactic| first
  | ((with_reducible show EX _ _ _ _ (Expr.Name "_law_pool_here" _) _ _); first | exact ex_var (i := 0) rfl (by wtm_at "p_vis") rfl | exact isNew.lst (ex_var (i := 0) rfl (by wtm_at "p_vis") rfl))
  | ((with_reducible show EX _ _ _ _ (Expr.Name "_law_size" _) _ _); first | exact ex_var (i := 1) rfl (by wtm_at "p_vis") rfl | exact isNew.lst (ex_var (i := 1) rfl (by wtm_at "p_vis") rfl))
  | ((with_reducible show EX _ _ _ _ (Expr.Name "_law_great" _) _ _); first | exact ex_var (i := 2) rfl (by wtm_at "p_vis") rfl | exact isNew.lst (ex_var (i := 2) rfl (by wtm_at "p_vis") rfl))
  | ((with_reducible show EX _ _ _ _ (Expr.Name "_law_kind" _) _ _); first | exact ex_var (i := 3) rfl (by wtm_at "p_vis") rfl | exact isNew.lst (ex_var (i := 3) rfl (by wtm_at "p_vis") rfl))
  | ((with_reducible show EX _ _ _ _ (Expr.Name "_law_found" _) _ _); first | exact ex_var (i := 4) rfl (by wtm_at "p_vis") rfl | exact isNew.lst (ex_var (i := 4) rfl (by wtm_at "p_vis") rfl))
  | ((with_reducible show EX _ _ _ _ (Expr.Name "_law_i" _) _ _); first | exact ex_var (i := 5) rfl (by wtm_at "p_vis") rfl | exact isNew.lst (ex_var (i := 5) rfl (by wtm_at "p_vis") rfl))
  | ((with_reducible show EX _ _ _ _ (Expr.Name "_law_lines" _) _ _); first | exact ex_var (i := 6) rfl (by wtm_at "p_vis") rfl | exact isNew.lst (ex_var (i := 6) rfl (by wtm_at "p_vis") rfl))
  | ((with_reducible show EX _ _ _ _ (Expr.Name "_law_j" _) _ _); first | exact ex_var (i := 7) rfl (by wtm_at "p_vis") rfl | exact isNew.lst (ex_var (i := 7) rfl (by wtm_at "p_vis") rfl))
  | ((with_reducible show EX _ _ _ _ (Expr.Name "_law_line" _) _ _); first | exact ex_var (i := 8) rfl (by wtm_at "p_vis") rfl | exact isNew.lst (ex_var (i := 8) rfl (by wtm_at "p_vis") rfl))
  | ((with_reducible show EX _ _ _ _ (Expr.Name "_law_k" _) _ _); first | exact ex_var (i := 9) rfl (by wtm_at "p_vis") rfl | exact isNew.lst (ex_var (i := 9) rfl (by wtm_at "p_vis") rfl)))
-- needs is_cube
-- needs _law_pick
-- needs _law_number
theorem rowX {K : PySem.W.Frag} {n : Nat} {P : Rat → Prop} (F : Hp) (v : V) (h : (isNew (List.replicate n (exA P (isR K)))).p F v) : (exA (fun xs : List Rat => xs.length = n ∧ ∀ x ∈ xs, P x) (isRow K)).p F v := by
  obtain ⟨xs, h1, a, vs, e, h2, h3⟩ := isNew_ex F v h
  exact ⟨xs, h1, a, vs, e, .inl (.inl h2), h3⟩
theorem repX {K : PySem.W.Frag} {F : Hp} : ∀ (m : Nat) (us : List V), AllA (List.replicate m (isTup K [aInt 0, aInt 1])) F us → AllA (List.replicate m (exA (RB 14) (isR K))) F us := fun m => by
  induction m with
  | zero => exact fun us h => h
  | succ m ih => exact fun us ⟨x, r, e, h1, h2⟩ => ⟨x, r, e, ⟨(0 : Rat), RB.zero.mono (by decide), h1⟩, ih r h2⟩
abbrev okRow (n : Nat) (x : List Rat) : Prop := x.length = n ∧ ∀ a ∈ x, RB 14 a
abbrev okRows (n : Nat) (R : List (List Rat)) : Prop := R.length = n ∧ ∀ x ∈ R, okRow n x
abbrev okLP (n : Nat) (P : List (List (List Rat))) : Prop := P.length = n ∧ ∀ R ∈ P, okRows n R
abbrev sp__law_products (K : PySem.W.Frag) : Sp := spD (ι := Nat × Bool) 2000 (fun q => [aInt (q.1 : Int), isBl q.2]) (fun q => 1 ≤ q.1 ∧ q.1 ≤ 6) (fun q => exA (okLP q.1) (isCb K))
theorem has__law_products (B : Bl K mg) (D : DefAt K mg "_law_products" S__law_products) (C_law_pick : Has Pr w K mg base "_law_pick" ["_law_pool_here", "_law_many"] (sp__law_pick K) 1) (C_law_number : Has Pr w K mg base "_law_number" ["_law_pool_here", "_law_great"] (sp__law_number K) 2) : Has Pr w K mg base "_law_products" ["_law_pool_here", "_law_size", "_law_great"] (sp__law_products K) 3 := by
  obtain ⟨f, fd, F, hm⟩ := D.ex
  refine ⟨f, fd, ⟨_, F⟩, fn_draw F sc__law_products (fun _ => rfl) fun cdv A outer s H E U ap ag n0 q Q hr ho hn hR => ?_, hm, F.kp, F.binds fun _ _ _ _ _ _ us hl => match us, hl with | [_, _, _], _ => rfl⟩
  obtain ⟨n, g⟩ := q
  obtain ⟨o1, o6⟩ := ho
  change 1 ≤ n at o1
  change n ≤ 6 at o6
  change Ret _ _ (exA (okLP n) (isCb K)) _ at hR
  show SX _ _ _ [some (isV (.ref ap)), some (aInt (n : Int)), some (isBl g), none, none, none, none, none, none, none] _ _
  refine sx_parOwn (i := 3) (j := 4) (P := fun r : Int => 0 ≤ r ∧ r < 4) (A' := aInt) (J := ivD U ap ag H (n0 + 1)) (K := ivD U ap ag H (n0 + 1)) (Bs := []) rfl sc__law_products.nd rfl rfl (by decide) rfl rfl (by wtm_at "p_lt") (by wtm_at "p_lt") (ex_pickK (m := 4) C_law_pick (hr.mono (by decide)) drw_gD (by wtm_at "p_var") ex_int (by decide) (by decide) (by omega)) (nx_lst ax_nil (by decide)) (fun kind FA vs0 hF pk hUF hlen => ?_) (by rfl)
  have e0 : vs0 = [] := by cases vs0 with
    | nil => rfl
    | cons _ _ => simp at hlen
  subst e0
  have hMF : ¬ (gD U ap ag H).M FA := fun m => hUF (.inl m)
  generalize hN0 : n0 + 1 = N0
  show SX _ _ _ [some (isV (.ref ap)), some (aInt (n : Int)), some (isBl g), some (aInt kind), some (isOwn FA [] []), none, none, none, none, none] _ _
  refine sx_forNX (ι := List V × List (List (List Rat))) (G := (gD U ap ag H).own FA hF) (l := List.range n) (fA := fun i => aInt ((i : Nat) : Int)) 5 (fun k y => (ivD U ap ag H (N0 + k * 300)).own FA y.1) (fun k y => [some (isV (.ref ap)), some (aInt (n : Int)), some (isBl g), some (aInt kind), some (isOwn FA y.1 (y.2.map (isRows K))), none, none, none, none, none]) (fun k y => y.2.length = k ∧ ∀ R ∈ y.2, okRows n R) ([], []) PassesOwn.never rfl sc__law_products.nd rfl (.inl rfl) (.inr rfl) ((ix_range (n := n) (by rfl) B.range (by wtm_at "p_var") (by omega)).cast rfl) ⟨rfl, fun R hR => by cases hR⟩ ?_ (fun _ _ => by wtm_at "p_lt") (fun H1 Γ1 σ1 k y i' ei mi hk py k1 => ?_) fun y py => ?_
  · exact ⟨fun _ _ h => h, fun _ _ h => h, fun _ _ h => h, fun _ _ h => h, fun _ _ h => h, True.intro⟩
  · rw [List.length_range] at hk
    have ei' : i' = k := by rw [List.getElem?_range hk] at ei; exact (Option.some.inj ei).symm
    subst ei'
    obtain ⟨ys, Fs⟩ := y
    obtain ⟨py1, py2⟩ := py
    change Fs.length = i' at py1
    change ∀ R ∈ Fs, okRows n R at py2
    show SX _ _ _ [some (isV (.ref ap)), some (aInt (n : Int)), some (isBl g), some (aInt kind), some (isOwn FA ys (Fs.map (isRows K))), some (aInt ((i' : Nat) : Int)), none, none, none, none] _ _
    generalize hNi : N0 + i' * 300 = N1
    have hNi2 : N0 + (i' + 1) * 300 = N1 + 300 := by omega
    rw [hNi2]
    refine sx_own (G := ((gD U ap ag H).own FA hF).re H1) (i := 6) (J := (ivD U ap ag H N1).own FA ys) (As := []) sc__law_products.nd rfl (.inl rfl) (by wtm_at "p_lt") (nx_lst ax_nil (by decide)) fun LA vs1 hL hUL hlen1 => ?_
    have e1 : vs1 = [] := by cases vs1 with
      | nil => rfl
      | cons _ _ => simp at hlen1
    subst e1
    have hML : ¬ (((gD U ap ag H).own FA hF).re H1).M LA := fun m => hUL (.inl m)
    show SX _ _ _ [some (isV (.ref ap)), some (aInt (n : Int)), some (isBl g), some (aInt kind), some (isOwn FA ys (Fs.map (isRows K))), some (aInt ((i' : Nat) : Int)), some (isOwn LA [] []), none, none, none] _ _
    refine sx_forNX (ι := List V × List (List Rat)) (G := (((gD U ap ag H).own FA hF).re H1).own LA hL) (l := List.range n) (fA := fun i => aInt ((i : Nat) : Int)) 7 (fun k y => ((ivD U ap ag H (N1 + k * 40)).own FA ys).own LA y.1) (fun k y => [some (isV (.ref ap)), some (aInt (n : Int)), some (isBl g), some (aInt kind), some (isOwn FA ys (Fs.map (isRows K))), some (aInt ((i' : Nat) : Int)), some (isOwn LA y.1 (y.2.map (isRow K))), none, none, none]) (fun k y => y.2.length = k ∧ ∀ x ∈ y.2, okRow n x) ([], []) PassesOwn.never rfl sc__law_products.nd rfl (.inl rfl) (.inr rfl) ((ix_range (n := n) (by rfl) B.range (by wtm_at "p_var") (by omega)).cast rfl) ⟨rfl, fun R hR => by cases hR⟩ ?_ (fun _ _ => by wtm_at "p_lt") (fun H2 Γ2 σ2 k y j' ej mj hj py k2 => ?_) fun y py => ?_
    · exact ⟨fun _ _ h => h, fun _ _ h => h, fun _ _ h => h, fun _ _ h => h, fun _ _ h => h, fun _ _ h => h, fun _ _ h => h, True.intro⟩
    · rw [List.length_range] at hj
      have ej' : j' = k := by rw [List.getElem?_range hj] at ej; exact (Option.some.inj ej).symm
      subst ej'
      obtain ⟨zs, Ls⟩ := y
      obtain ⟨pz1, pz2⟩ := py
      change Ls.length = j' at pz1
      change ∀ x ∈ Ls, okRow n x at pz2
      show SX _ _ _ [some (isV (.ref ap)), some (aInt (n : Int)), some (isBl g), some (aInt kind), some (isOwn FA ys (Fs.map (isRows K))), some (aInt ((i' : Nat) : Int)), some (isOwn LA zs (Ls.map (isRow K))), some (aInt ((j' : Nat) : Int)), none, none] _ _
      have hb2 : N1 + j' * 40 + 40 ≤ 2 ^ 60 := by omega
      generalize hNj : N1 + j' * 40 = N2 at hb2
      have hNj2 : N1 + (j' + 1) * 40 = N2 + 40 := by omega
      rw [hNj2]
      refine sx_own (G := ((((gD U ap ag H).own FA hF).re H1).own LA hL).re H2) (i := 8) (J := ((ivD U ap ag H N2).own FA ys).own LA zs) (As := (List.replicate n [isTup K [aInt 0, aInt 1]]).flatten) sc__law_products.nd rfl (.inl rfl) (by wtm_at "p_lt") (nx_rep (G := ((((gD U ap ag H).own FA hF).re H1).own LA hL).re H2) (J := ((ivD U ap ag H N2).own FA ys).own LA zs) (ex_lstN (by wtm_at "p_ax") (by wtm_at "p_lt")) (by wtm_at "p_var") (by show 1 * n ≤ _; omega) (by omega)) fun DA vs2 hD hUD hlen2 => ?_
      rw [flat_rep]
      have hMD : ¬ (((((gD U ap ag H).own FA hF).re H1).own LA hL).re H2).M DA := fun m => hUD (.inl m)
      have hlw : vs2.length = n := by rw [hlen2, flat_rep, List.length_replicate]
      have eA : ∀ F v, (isOwn DA vs2 (List.replicate n (isTup K [aInt 0, aInt 1]))).p F v → (isOwn DA vs2 (List.replicate n (exA (RB 14) (isR K)))).p F v := fun F v h => ⟨h.1, repX _ _ h.2⟩
      refine SX.low (Γ' := [some (isV (.ref ap)), some (aInt (n : Int)), some (isBl g), some (aInt kind), some (isOwn FA ys (Fs.map (isRows K))), some (aInt ((i' : Nat) : Int)), some (isOwn LA zs (Ls.map (isRow K))), some (aInt ((j' : Nat) : Int)), some (isOwn DA vs2 (List.replicate n (exA (RB 14) (isR K)))), none]) ?_ ⟨fun _ _ h => h, fun _ _ h => h, fun _ _ h => h, fun _ _ h => h, fun _ _ h => h, fun _ _ h => h, fun _ _ h => h, fun _ _ h => h, eA, True.intro⟩
      have W3 : Drw ((((((gD U ap ag H).own FA hF).re H1).own LA hL).re H2).own DA hD).M ap ag (fun m => (((ivD U ap ag H m).own FA ys).own LA zs).own DA vs2) := drw_own hMD (drw_own hML (drw_own hMF drw_gD))
      have W2 : Drw (((((gD U ap ag H).own FA hF).re H1).own LA hL).re H2).M ap ag (fun m => ((ivD U ap ag H m).own FA ys).own LA zs) := drw_own hML (drw_own hMF drw_gD)
      refine sx_ifK (G := (((((gD U ap ag H).own FA hF).re H1).own LA hL).re H2).own DA hD) (G' := ((((gD U ap ag H).own FA hF).re H1).own LA hL).re H2) (ι := List Rat) (okRow n) (fun _ => ((ivD U ap ag H (N2 + 32)).own FA ys).own LA zs) (fun x => [some (isV (.ref ap)), some (aInt (n : Int)), some (isBl g), some (aInt kind), some (isOwn FA ys (Fs.map (isRows K))), some (aInt ((i' : Nat) : Int)), some (isOwn LA zs (Ls.map (isRow K))), some (aInt ((j' : Nat) : Int)), some (isRow K x), none]) (P := (· = decide (kind = 3))) (J := (((ivD U ap ag H N2).own FA ys).own LA zs).own DA vs2) (by wtm_at "p_tx") (fun N hN => ⟨fun p => ?_, fun p => ?_⟩) fun x hx => ?_
      · refine sx_store (G := (((((gD U ap ag H).own FA hF).re H1).own LA hL).re H2).own DA hD) (J := (((ivD U ap ag H (N2 + 5)).own FA ys).own LA zs).own DA vs2) (K := (((ivD U ap ag H (N2 + 5 + 1)).own FA ys).own LA zs).own DA vs2) (I' := fun us => (((ivD U ap ag H (N2 + 5 + 1)).own FA ys).own LA zs).own DA us) (As := List.replicate n (exA (RB 14) (isR K))) (A := exA (RB 14) (isR K)) (P := fun i => 0 ≤ i ∧ i < (n : Int)) 8 (by wtm_at "p_lt") (owns_top hMD) ?_ ?_ ?_ (fun i h => by rw [List.length_replicate]; exact h) rfl fun j v pj hj => ?_
        · exact ex_drawX (G := (((((gD U ap ag H).own FA hF).re H1).own LA hL).re H2).own DA hD) (As := [isBl g]) (Iz := fun m => (((ivD U ap ag H m).own FA ys).own LA zs).own DA vs2) C_law_number (hr.mono (by decide)) W3 (by wtm_at "p_var") (by wtm_at "p_ax") (by omega) fun F vs h => ⟨g, True.intro, h, numX⟩
        · wtm_at "p_var"
        · exact ex_pickK (G := (((((gD U ap ag H).own FA hF).re H1).own LA hL).re H2).own DA hD) (Iz := fun m => (((ivD U ap ag H m).own FA ys).own LA zs).own DA vs2) C_law_pick (hr.mono (by decide)) W3 (by wtm_at "p_var") (by wtm_at "p_var") (by omega) (by omega) (by omega)
        rw [rep_set]
        refine sx_free 8 hUD rfl ?_
        refine sx_opn 8 rfl rowX fun x hx => sx_nil fun σ H k => hN x hx σ H (k.post (own_more (own_more (ivD_more (by omega)))))
      · refine sx_if (P := fun _ => True) (G := (((((gD U ap ag H).own FA hF).re H1).own LA hL).re H2).own DA hD) (J := (((ivD U ap ag H (N2 + 1)).own FA ys).own LA zs).own DA vs2) ?_ (fun _ => ?_) (fun _ => ?_)
        · refine WX.tx (wx_orP (G := (((((gD U ap ag H).own FA hF).re H1).own LA hL).re H2).own DA hD) (J := (((ivD U ap ag H N2).own FA ys).own LA zs).own DA vs2) (P := (· = decide (kind = 0))) (by wtm_at "p_tx") (fun _ => True.intro) (fun _ => wx_or1 (TX.imp (tx_drEq (G := (((((gD U ap ag H).own FA hF).re H1).own LA hL).re H2).own DA hD) (J := (((ivD U ap ag H (N2 + 1)).own FA ys).own LA zs).own DA vs2) (R := fun r => 0 ≤ r ∧ r < 2) (S := (· = 0)) ?_ (EX.dr ex_int)) fun _ _ => True.intro)) (own_more (own_more (own_more (ivD_more (by omega))))))
          exact ex_pickK (G := (((((gD U ap ag H).own FA hF).re H1).own LA hL).re H2).own DA hD) (m := 2) (Iz := fun m => (((ivD U ap ag H m).own FA ys).own LA zs).own DA vs2) C_law_pick (hr.mono (by decide)) W3 (by wtm_at "p_var") ex_int (by decide) (by decide) (by omega)
        · refine sx_free 8 hUD rfl ?_
          show SX _ _ _ [some (isV (.ref ap)), some (aInt (n : Int)), some (isBl g), some (aInt kind), some (isOwn FA ys (Fs.map (isRows K))), some (aInt ((i' : Nat) : Int)), some (isOwn LA zs (Ls.map (isRow K))), some (aInt ((j' : Nat) : Int)), some (isNew (List.replicate n (exA (RB 14) (isR K)))), none] _ _
          have hl : (List.range n).length = n := List.length_range
          refine sx_setLc (i := 8) (G := ((((gD U ap ag H).own FA hF).re H1).own LA hL).re H2) (J := ((ivD U ap ag H (N2 + 1 + (List.range n).length * 5)).own FA ys).own LA zs) (As := List.replicate (List.range n).length (exA (RB 14) (isR K))) rfl sc__law_products.nd rfl rfl (by wtm_at "p_lt") ?_ ?_ (sw_true rfl rfl rfl (by decide +kernel))
          · refine lx_D (G := ((((gD U ap ag H).own FA hF).re H1).own LA hL).re H2) 9 5 (N2 + 1) (fun m => ((ivD U ap ag H m).own FA ys).own LA zs) (ix_range rfl B.range (by wtm_at "p_var") (by omega)) (show blkC n__law_products (defScope S__law_products) _ _ = true from by decide +kernel) (by rw [hl]; omega) rfl (fun _ _ _ _ _ => pg_name (i := 9) sc__law_products.nd rfl (.inl rfl)) fun D s H' C cl fp k a e hk => ?_
            rw [hl] at hk
            have e5 : N2 + 1 + (k + 1) * 5 = N2 + 1 + k * 5 + 5 := by omega
            rw [e5]
            show EX _ _ _ [some (isV (.ref ap)), some (aInt (n : Int)), some (isBl g), some (aInt kind), some (isOwn FA ys (Fs.map (isRows K))), some (aInt ((i' : Nat) : Int)), some (isOwn LA zs (Ls.map (isRow K))), some (aInt ((j' : Nat) : Int)), some (isNew (List.replicate n (exA (RB 14) (isR K)))), some (aInt ((a : Nat) : Int))] _ _ _
            exact ex_drawX (G := (((((gD U ap ag H).own FA hF).re H1).own LA hL).re H2).lk D) (As := [isBl g]) (Iz := fun m => ((ivD U ap ag H m).own FA ys).own LA zs) C_law_number (hr.mono (by decide)) W2 (by wtm_at "p_var") (by wtm_at "p_ax") (by omega) fun F vs h => ⟨g, True.intro, h, numX⟩
          rw [hl]
          refine sx_opn 8 rfl rowX fun x hx => sx_nil fun σ H k => wB_nil (hN x hx σ H (k.post (own_more (own_more (ivD_more (by omega))))))
        · refine sx_free 8 hUD rfl ?_
          refine sx_opn 8 rfl rowX fun x hx => sx_nil fun σ H k => wB_nil (hN x hx σ H (k.post (own_more (own_more (ivD_more (by omega))))))
      show SX _ _ _ [some (isV (.ref ap)), some (aInt (n : Int)), some (isBl g), some (aInt kind), some (isOwn FA ys (Fs.map (isRows K))), some (aInt ((i' : Nat) : Int)), some (isOwn LA zs (Ls.map (isRow K))), some (aInt ((j' : Nat) : Int)), some (isRow K x), none] _ _
      refine sx_ifK (G := ((((gD U ap ag H).own FA hF).re H1).own LA hL).re H2) (G' := ((((gD U ap ag H).own FA hF).re H1).own LA hL).re H2) (ι := List Rat) (okRow n) (fun _ => ((ivD U ap ag H (N2 + 32)).own FA ys).own LA zs) (fun x => [some (isV (.ref ap)), some (aInt (n : Int)), some (isBl g), some (aInt kind), some (isOwn FA ys (Fs.map (isRows K))), some (aInt ((i' : Nat) : Int)), some (isOwn LA zs (Ls.map (isRow K))), some (aInt ((j' : Nat) : Int)), some (isRow K x), none]) (P := (· = (decide (kind = 2) && decide ((j' : Int) < (i' : Int))))) (J := ((ivD U ap ag H (N2 + 32)).own FA ys).own LA zs) (WX.tx (wx_and (J := ((ivD U ap ag H (N2 + 32)).own FA ys).own LA zs) (by wtm_at "p_tx") fun _ => wx_and1 (by wtm_at "p_tx"))) (fun N hN => ⟨fun p => ?_, fun p => sx_nil fun σ H k => hN x hx σ H k⟩) fun x hx => ?_
      · have pj : (j' : Int) < (i' : Int) := of_decide_eq_true (by
          rcases Bool.and_eq_true_iff.mp p.symm with ⟨_, z⟩
          exact z)
        have hjF : j' < Fs.length := by omega
        have eF : Fs[j']? = some Fs[j'] := List.getElem?_eq_getElem hjF
        have mF := List.getElem_mem hjF
        generalize hRR : Fs[j'] = R at eF mF
        have hRok := py2 R mF
        have hiR : i' < R.length := by rw [hRok.1]; omega
        have eR : R[i']? = some R[i'] := List.getElem?_eq_getElem hiR
        have mR := List.getElem_mem hiR
        generalize hxx : R[i'] = x2 at eR mR
        refine sx_set (G := ((((gD U ap ag H).own FA hF).re H1).own LA hL).re H2) (i := 8) (J := ((ivD U ap ag H (N2 + 32)).own FA ys).own LA zs) (A := isRow K x2) sc__law_products.nd rfl (.inl rfl) (by wtm_at "p_lt") ?_ (sx_nil fun σ H k => hN x2 (hRok.2 x2 mR) σ H k)
        refine ex_listL (by rfl) B.list ?_
        refine ex_ixL (G := ((((gD U ap ag H).own FA hF).re H1).own LA hL).re H2) (J := ((ivD U ap ag H (N2 + 32)).own FA ys).own LA zs) (k := i') (As := R.map (isRow K)) (fun _ _ => rfl) ?_ (by wtm_at "p_var") rfl (by rw [List.getElem?_map, eR]; rfl)
        exact ex_ixO (G := ((((gD U ap ag H).own FA hF).re H1).own LA hL).re H2) (J := ((ivD U ap ag H (N2 + 32)).own FA ys).own LA zs) (k := j') (As := Fs.map (isRows K)) (owns_up hML (owns_top hMF)) (fun _ _ => rfl) (by wtm_at "p_var") (by wtm_at "p_var") rfl (by rw [List.getElem?_map, eF]; rfl)
      show SX _ _ _ [some (isV (.ref ap)), some (aInt (n : Int)), some (isBl g), some (aInt kind), some (isOwn FA ys (Fs.map (isRows K))), some (aInt ((i' : Nat) : Int)), some (isOwn LA zs (Ls.map (isRow K))), some (aInt ((j' : Nat) : Int)), some (isRow K x), none] _ _
      refine sx_append (G := ((((gD U ap ag H).own FA hF).re H1).own LA hL).re H2) (K := ((ivD U ap ag H (N2 + 32)).own FA ys).own LA zs) (I' := fun us => ((ivD U ap ag H (N2 + 32)).own FA ys).own LA us) (A := isRow K x) 6 (by wtm_at "p_lt") (owns_top hML) (by wtm_at "p_var") (by wtm_at "p_var") rfl (by rw [List.length_map]; omega) (owns_top hML) fun v => sx_nil fun σ H k => ⟨(zs ++ [v], Ls ++ [x]), ⟨by rw [List.length_append, pz1]; rfl, fun z hz => ?_⟩, (k.post (own_more (own_more (ivD_more (by omega))))).low ?_⟩
      · rcases List.mem_append.mp hz with h | h
        · exact pz2 z h
        · have : z = x := by simpa using h
          rw [this]; exact hx
      · refine ⟨fun _ _ h => h, fun _ _ h => h, fun _ _ h => h, fun _ _ h => h, fun _ _ h => h, fun _ _ h => h, fun F v h => ?_, True.intro⟩
        rw [List.map_append]
        exact h
    · obtain ⟨zs, Ls⟩ := y
      obtain ⟨pz1, pz2⟩ := py
      rw [List.length_range] at pz1 ⊢
      change Ls.length = n at pz1
      change ∀ x ∈ Ls, okRow n x at pz2
      refine sx_free (G := ((gD U ap ag H).own FA hF).re H1) (J := (ivD U ap ag H (N1 + n * 40)).own FA ys) 6 hUL rfl ?_
      show SX _ _ _ [some (isV (.ref ap)), some (aInt (n : Int)), some (isBl g), some (aInt kind), some (isOwn FA ys (Fs.map (isRows K))), some (aInt ((i' : Nat) : Int)), some (isNew (Ls.map (isRow K))), none, none, none] _ _
      refine sx_append (G := ((gD U ap ag H).own FA hF).re H1) (K := (ivD U ap ag H (N1 + n * 40)).own FA ys) (I' := fun us => (ivD U ap ag H (N1 + n * 40)).own FA us) (A := isRows K Ls) 4 (by wtm_at "p_lt") (owns_top hMF) (by wtm_at "p_var") (isNew.lst (by wtm_at "p_var")) rfl (by rw [List.length_map]; omega) (owns_top hMF) fun v => sx_nil fun σ H k => ⟨(ys ++ [v], Fs ++ [Ls]), ⟨by rw [List.length_append, py1]; rfl, fun z hz => ?_⟩, (k.post (own_more (ivD_more (by omega)))).low ?_⟩
      · rcases List.mem_append.mp hz with h | h
        · exact py2 z h
        · have : z = Ls := by simpa using h
          rw [this]; exact ⟨pz1, pz2⟩
      · refine ⟨fun _ _ h => h, fun _ _ h => h, fun _ _ h => h, fun _ _ h => h, fun F v h => ?_, True.intro⟩
        rw [List.map_append]
        exact h
  · obtain ⟨ys, Fs⟩ := y
    obtain ⟨py1, py2⟩ := py
    rw [List.length_range] at py1 ⊢
    change Fs.length = n at py1
    change ∀ R ∈ Fs, okRows n R at py2
    refine sx_free 4 hUF rfl ?_
    show SX _ _ _ [some (isV (.ref ap)), some (aInt (n : Int)), some (isBl g), some (aInt kind), some (isNew (Fs.map (isRows K))), none, none, none, none, none] _ _
    exact sx_ret (J := ivD U ap ag H (N0 + n * 300)) (A := exA (okLP n) (isCb K)) (EX.ex Fs (isNew.lst (by wtm_at "p_var")) ⟨py1, py2⟩) (hR.post (ivD_more (by omega)))
end
section
set_option hygiene false
local macro_rules | `(tactic| wtm_at "p_var") => `(tactic| first
  | ((with_reducible show EX _ _ _ _ (Expr.Name "_law_told" _) _ _); first | exact ex_var (i := 0) rfl (by wtm_at "p_vis") rfl | exact isNew.lst (ex_var (i := 0) rfl (by wtm_at "p_vis") rfl))
  | ((with_reducible show EX _ _ _ _ (Expr.Name "_law_due" _) _ _); first | exact ex_var (i := 1) rfl (by wtm_at "p_vis") rfl | exact isNew.lst (ex_var (i := 1) rfl (by wtm_at "p_vis") rfl))
  | ((with_reducible show EX _ _ _ _ (Expr.Name "_law_kind" _) _ _); first | exact ex_var (i := 2) rfl (by wtm_at "p_vis") rfl | exact isNew.lst (ex_var (i := 2) rfl (by wtm_at "p_vis") rfl))
  | ((with_reducible show EX _ _ _ _ (Expr.Name "_law_k" _) _ _); first | exact ex_var (i := 3) rfl (by wtm_at "p_vis") rfl | exact isNew.lst (ex_var (i := 3) rfl (by wtm_at "p_vis") rfl)))
def okD : Nat → PyData → Prop
  | _, .none => True
  | _, .int _ => True
  | _, .bool _ => True
  | _, .str _ => False
  | _, .dict _ => False
  | 0, .list _ => False
  | 0, .tuple _ => False
  | n + 1, .list ds => ds.length ≤ 100000 ∧ ∀ d ∈ ds, okD n d
  | n + 1, .tuple ds => ds.length ≤ 100000 ∧ ∀ d ∈ ds, okD n d
abbrev sp__law_alike (K : PySem.W.Frag) (n : Nat) : Sp := spF (ι := PyData) (fun d => [isD K d, isD K d]) (okD n) (fun _ => isBl true)
theorem ex_bltT {X : Cx} {G : Gx} {I : Iv G.M} {Γ : Slots} {x : Str} {T : String} {pos : Pos} (hg : Gl X x) (hm : X.mg x = none) (hv : bootBuiltins x = some (.type T)) (hn : x ≠ "__name__" := by decide) (hd : (x == ("__debug__" : Str)) = false := by decide) : EX X G I Γ (.Name x pos) (isV (.ty T)) I := ex_blt hg hm hv rfl hn hd
theorem tx_isNone {X : Cx} {G : Gx} {I J : Iv G.M} {Γ : Slots} {a : Expr} {pos : Pos} {A : Asr} {b : Bool} (ha : EX X G I Γ a A J) (hA : ∀ F v, A.p F v → decide (v = .non) = b) {j p} : TX X G I Γ (.Compare a [.Is] [.Constant .none j p] pos) (· = b) J :=
  tx_cmp2 op_isN (nomark _) ha ex_non fun F x' y' ex ey H Q _ q => by cases ey; exact ⟨rfl, q _ (hA F x' ex)⟩
theorem body__law_alike (B : Bl K mg) (D : DefAt K mg "_law_alike" S__law_alike) (n : Nat) (IH : ∀ m, n = m + 1 → Has Pr w K mg base "_law_alike" ["_law_told", "_law_due"] (sp__law_alike K m) n) : Has Pr w K mg base "_law_alike" ["_law_told", "_law_due"] (sp__law_alike K n) (n + 1) := by
  obtain ⟨f, fd, F, hm⟩ := D.ex
  refine ⟨f, fd, ⟨_, F⟩, fn_pure F sc__law_alike (fun _ => rfl) fun cdv A outer s H E U d Q hr ho hR => ?_, hm, F.kp, F.binds fun _ _ _ _ _ _ us hl => match us, hl with | [_, _], _ => rfl⟩
  change Ret _ _ (isBl true) _ at hR
  cases d with
  | none =>
    show SX _ _ _ [some isNon, some isNon, none, none] _ _
    refine sx_ifR (J := ivT _) (P := (· = true)) (tx_isNone (by wtm_at "p_var") fun F v h => by cases h; rfl) (fun _ => ?_) (fun p => by cases p)
    refine sx_retEq (J := ivT _) (A := isBl (decide ((.non : V) = .non))) (ex_isN (x := .non) (by wtm_at "p_var")) hR (by rw [decide_eq_true rfl])
  | str x => exact (by cases n <;> simp [okD] at ho)
  | dict x => exact (by cases n <;> simp [okD] at ho)
  | int x =>
    have tya : TyA K (isD K (.int x)) "int" := ty_int
    show SX _ _ _ [some (isD K (.int x)), some (isD K (.int x)), none, none] _ _
    refine sx_ifR (J := ivT _) (P := (· = false)) (tx_isNone (by wtm_at "p_var") fun F v h => by cases h; rfl) (fun p => by cases p) fun _ => ?_
    refine sx_if (J := ivT _) (P := (· = false)) (tx_val (ex_isi2 (J := ivT _) (T := "int") (U := "list") (U2 := "tuple") (b1 := false) (b2 := false) (by rfl) B.isinstance tya (by wtm_at "p_var") (ex_bltT (by rfl) B.list (by decide +kernel)) (ex_bltT (by rfl) B.tuple (by decide +kernel)) (by decide) (by decide))) (fun p => by cases p) (fun _ => sx_fall ?_ rfl)
    show SX _ _ _ [some (aInt x), some (aInt x), none, none] _ _
    refine sx_retEq (J := ivT _) (A := isBl (true && (decide (V.bl false = V.bl false) && decide (x = x)))) (ex_and (J := ivT _) (ex_isi (J := ivT _) (T := "int") (U := "int") (by rfl) B.isinstance ty_int (by wtm_at "p_var") (ex_bltT (by rfl) B.int (by decide +kernel)) (by decide)) fun _ => ex_and (J := ivT _) (ex_eq (J := ivT _) rfl (ex_isi (J := ivT _) (T := "int") (U := "bool") (by rfl) B.isinstance ty_int (by wtm_at "p_var") (ex_bltT (by rfl) B.bool (by decide +kernel)) (by decide)) (ex_isi (J := ivT _) (T := "int") (U := "bool") (by rfl) B.isinstance ty_int (by wtm_at "p_var") (ex_bltT (by rfl) B.bool (by decide +kernel)) (by decide))) fun _ => ex_one (ex_eqI (J := ivT _) (by wtm_at "p_var") (by wtm_at "p_var"))) hR (by rw [decide_eq_true rfl, decide_eq_true rfl]; rfl)
  | bool x =>
    have tya : TyA K (isD K (.bool x)) "bool" := ty_bl
    show SX _ _ _ [some (isD K (.bool x)), some (isD K (.bool x)), none, none] _ _
    refine sx_ifR (J := ivT _) (P := (· = false)) (tx_isNone (by wtm_at "p_var") fun F v h => by cases h; rfl) (fun p => by cases p) fun _ => ?_
    refine sx_if (J := ivT _) (P := (· = false)) (tx_val (ex_isi2 (J := ivT _) (T := "bool") (U := "list") (U2 := "tuple") (b1 := false) (b2 := false) (by rfl) B.isinstance tya (by wtm_at "p_var") (ex_bltT (by rfl) B.list (by decide +kernel)) (ex_bltT (by rfl) B.tuple (by decide +kernel)) (by decide) (by decide))) (fun p => by cases p) (fun _ => sx_fall ?_ rfl)
    show SX _ _ _ [some (isBl x), some (isBl x), none, none] _ _
    refine sx_retEq (J := ivT _) (A := isBl (true && (decide (V.bl true = V.bl true) && decide (x = x)))) (ex_and (J := ivT _) (ex_isi (J := ivT _) (T := "bool") (U := "int") (by rfl) B.isinstance ty_bl (by wtm_at "p_var") (ex_bltT (by rfl) B.int (by decide +kernel)) (by decide)) fun _ => ex_and (J := ivT _) (ex_eq (J := ivT _) rfl (ex_isi (J := ivT _) (T := "bool") (U := "bool") (by rfl) B.isinstance ty_bl (by wtm_at "p_var") (ex_bltT (by rfl) B.bool (by decide +kernel)) (by decide)) (ex_isi (J := ivT _) (T := "bool") (U := "bool") (by rfl) B.isinstance ty_bl (by wtm_at "p_var") (ex_bltT (by rfl) B.bool (by decide +kernel)) (by decide))) fun _ => ex_one (by have e : decide (x = x) = decide (V.bl x = V.bl x) := by { rw [decide_eq_true rfl, decide_eq_true rfl] }; rw [e]; exact ex_eq (J := ivT _) rfl (by wtm_at "p_var") (by wtm_at "p_var"))) hR (by rw [decide_eq_true rfl, decide_eq_true rfl]; rfl)
  | list ds =>
    cases n with
    | zero => exact (by simp [okD] at ho)
    | succ n =>
      have IH := IH n rfl
      unfold okD at ho
      obtain ⟨hz, hall⟩ := ho
      have hlen : (isDs K ds).length = ds.length := by rw [isDs_map, List.length_map]
      have ea : isD K (.list ds) = isLst K (isDs K ds) := by rw [isD]
      have tya : TyA K (isD K (.list ds)) "list" := by rw [ea]; exact ty_lst
      show SX _ _ _ [some (isD K (.list ds)), some (isD K (.list ds)), none, none] _ _
      refine sx_ifR (J := ivT _) (P := (· = false)) (tx_isNone (by wtm_at "p_var") fun F v h => by rw [ea] at h; obtain ⟨a, _, e, _⟩ := h; rw [e]; rfl) (fun p => by cases p) fun _ => ?_
      refine sx_if (J := ivT _) (P := (· = true)) (tx_val (ex_isi2 (J := ivT _) (T := "list") (U := "list") (U2 := "tuple") (b1 := true) (b2 := false) (by rfl) B.isinstance tya (by wtm_at "p_var") (ex_bltT (by rfl) B.list (by decide +kernel)) (ex_bltT (by rfl) B.tuple (by decide +kernel)) (by decide) (by decide))) (fun _ => ?_) (fun p => by cases p)
      refine sx_set (i := 2) (J := ivT _) (A := isBl true) sc__law_alike.nd rfl (.inl rfl) (by wtm_at "p_lt") (ex_if (J := ivT _) (P := (· = true)) (tx_val (ex_isi (J := ivT _) (T := "list") (U := "list") (by rfl) B.isinstance tya (by wtm_at "p_var") (ex_bltT (by rfl) B.list (by decide +kernel)) (by decide)))
        (fun p => ex_isi (J := ivT _) (T := "list") (U := "list") (by rfl) B.isinstance tya (by wtm_at "p_var") (ex_bltT (by rfl) B.list (by decide +kernel)) (by decide)) (fun p => by cases p)) ?_
      rw [ea]
      show SX _ _ _ [some (isLst K (isDs K ds)), some (isLst K (isDs K ds)), some (isBl true), none] _ _
      refine sx_ifR (J := ivT _) (P := (· = false)) ?_ (fun p => by cases p) fun _ => ?_
      · refine TX.imp (P := (· = (false || false))) (WX.tx (wx_or (J := ivT _) (p := false) (q := false) (TX.imp (tx_not (tx_val (by wtm_at "p_var"))) fun c h => by cases c <;> simp_all) fun _ => wx_or1 (TX.imp (tx_neI (J := ivT _) (ex_len (by rfl) B.len (by wtm_at "p_var")) (ex_len (by rfl) B.len (by wtm_at "p_var"))) fun c h => by rw [h]; simp))) fun c h => h
      refine sx_forN 3 (fun _ => ivT _) (fun _ => [some (isLst K (isDs K ds)), some (isLst K (isDs K ds)), some (isBl true), none]) PassesOwn.never rfl sc__law_alike.nd rfl (.inl rfl) (.inr rfl) (ix_range (by rfl) B.range (by rw [← hlen]; exact ex_len (by rfl) B.len (by wtm_at "p_var")) hz) (low_refl _) (fun _ => by wtm_at "p_lt") (fun H1 Γ1 σ1 k r e m hk k1 => ?_) ?_
      · have hr' : r < ds.length := List.mem_range.mp m
        show SX _ _ _ [some (isLst K (isDs K ds)), some (isLst K (isDs K ds)), some (isBl true), some (aInt ((r : Nat) : Int))] _ _
        have hd : (isDs K ds)[r]? = some (isD K ds[r]) := by rw [isDs_map, List.getElem?_map, List.getElem?_eq_getElem hr']; rfl
        refine sx_ifR (J := ivT _) (P := (· = false)) (TX.imp (tx_not (P := (· = true)) (tx_val ?_)) fun c h => by cases c <;> simp_all) (fun p => by cases p) fun _ => sx_nil fun σ H k => k.low ⟨fun _ _ h => h, fun _ _ h => h, fun _ _ h => h, True.intro⟩
        exact ex_callH IH (hr.mono (Nat.le_refl _)) ds[r] (ax_cons (J := ivT _) (ex_ixL (k := r) (fun _ _ => rfl) (by wtm_at "p_var") (by wtm_at "p_var") rfl hd) (ax_cons (J := ivT _) (ex_ixL (k := r) (fun _ _ => rfl) (by wtm_at "p_var") (by wtm_at "p_var") rfl hd) ax_nil)) (hall _ (List.getElem_mem hr'))
      · exact sx_ret (J := ivT _) (A := isBl true) ex_bl hR
  | tuple ds =>
    cases n with
    | zero => exact (by simp [okD] at ho)
    | succ n =>
      have IH := IH n rfl
      unfold okD at ho
      obtain ⟨hz, hall⟩ := ho
      have hlen : (isDs K ds).length = ds.length := by rw [isDs_map, List.length_map]
      have ea : isD K (.tuple ds) = isTup K (isDs K ds) := by rw [isD]
      have tya : TyA K (isD K (.tuple ds)) "tuple" := by rw [ea]; exact ty_tup
      show SX _ _ _ [some (isD K (.tuple ds)), some (isD K (.tuple ds)), none, none] _ _
      refine sx_ifR (J := ivT _) (P := (· = false)) (tx_isNone (by wtm_at "p_var") fun F v h => by rw [ea] at h; obtain ⟨a, _, e, _⟩ := h; rw [e]; rfl) (fun p => by cases p) fun _ => ?_
      refine sx_if (J := ivT _) (P := (· = true)) (tx_val (ex_isi2 (J := ivT _) (T := "tuple") (U := "list") (U2 := "tuple") (b1 := false) (b2 := true) (by rfl) B.isinstance tya (by wtm_at "p_var") (ex_bltT (by rfl) B.list (by decide +kernel)) (ex_bltT (by rfl) B.tuple (by decide +kernel)) (by decide) (by decide))) (fun _ => ?_) (fun p => by cases p)
      refine sx_set (i := 2) (J := ivT _) (A := isBl true) sc__law_alike.nd rfl (.inl rfl) (by wtm_at "p_lt") (ex_if (J := ivT _) (P := (· = false)) (tx_val (ex_isi (J := ivT _) (T := "tuple") (U := "list") (by rfl) B.isinstance tya (by wtm_at "p_var") (ex_bltT (by rfl) B.list (by decide +kernel)) (by decide)))
        (fun p => by cases p) (fun p => ex_isi (J := ivT _) (T := "tuple") (U := "tuple") (by rfl) B.isinstance tya (by wtm_at "p_var") (ex_bltT (by rfl) B.tuple (by decide +kernel)) (by decide))) ?_
      rw [ea]
      show SX _ _ _ [some (isTup K (isDs K ds)), some (isTup K (isDs K ds)), some (isBl true), none] _ _
      refine sx_ifR (J := ivT _) (P := (· = false)) ?_ (fun p => by cases p) fun _ => ?_
      · refine TX.imp (P := (· = (false || false))) (WX.tx (wx_or (J := ivT _) (p := false) (q := false) (TX.imp (tx_not (tx_val (by wtm_at "p_var"))) fun c h => by cases c <;> simp_all) fun _ => wx_or1 (TX.imp (tx_neI (J := ivT _) (ex_lenT (by rfl) B.len (by wtm_at "p_var")) (ex_lenT (by rfl) B.len (by wtm_at "p_var"))) fun c h => by rw [h]; simp))) fun c h => h
      refine sx_forN 3 (fun _ => ivT _) (fun _ => [some (isTup K (isDs K ds)), some (isTup K (isDs K ds)), some (isBl true), none]) PassesOwn.never rfl sc__law_alike.nd rfl (.inl rfl) (.inr rfl) (ix_range (by rfl) B.range (by rw [← hlen]; exact ex_lenT (by rfl) B.len (by wtm_at "p_var")) hz) (low_refl _) (fun _ => by wtm_at "p_lt") (fun H1 Γ1 σ1 k r e m hk k1 => ?_) ?_
      · have hr' : r < ds.length := List.mem_range.mp m
        show SX _ _ _ [some (isTup K (isDs K ds)), some (isTup K (isDs K ds)), some (isBl true), some (aInt ((r : Nat) : Int))] _ _
        have hd : (isDs K ds)[r]? = some (isD K ds[r]) := by rw [isDs_map, List.getElem?_map, List.getElem?_eq_getElem hr']; rfl
        refine sx_ifR (J := ivT _) (P := (· = false)) (TX.imp (tx_not (P := (· = true)) (tx_val ?_)) fun c h => by cases c <;> simp_all) (fun p => by cases p) fun _ => sx_nil fun σ H k => k.low ⟨fun _ _ h => h, fun _ _ h => h, fun _ _ h => h, True.intro⟩
        exact ex_callH IH (hr.mono (Nat.le_refl _)) ds[r] (ax_cons (J := ivT _) (ex_ixT (k := r) (fun _ _ => rfl) (by wtm_at "p_var") (by wtm_at "p_var") rfl hd) (ax_cons (J := ivT _) (ex_ixT (k := r) (fun _ _ => rfl) (by wtm_at "p_var") (by wtm_at "p_var") rfl hd) ax_nil)) (hall _ (List.getElem_mem hr'))
      · exact sx_ret (J := ivT _) (A := isBl true) ex_bl hR
theorem has__law_alike (B : Bl K mg) (D : DefAt K mg "_law_alike" S__law_alike) : ∀ n : Nat, Has Pr w K mg base "_law_alike" ["_law_told", "_law_due"] (sp__law_alike K n) (n + 1)
  | 0 => body__law_alike B D 0 fun m e => by omega
  | n + 1 => body__law_alike B D (n + 1) fun m e => by
    have : m = n := by omega
    subst this
    exact has__law_alike B D m
end
section
-- needs _law_alike
abbrev dR (r : Rat) : PyData := .tuple [.int r.num, .int (r.den : Int)]
abbrev dRow (l : List Rat) : PyData := .list (l.map dR)
abbrev dRows (l : List (List Rat)) : PyData := .list (l.map dRow)
abbrev dCube (l : List (List (List Rat))) : PyData := .list (l.map dRows)
abbrev isCube (K : PySem.W.Frag) (l : List (List (List Rat))) : Asr := isLst K (l.map (isRows K))
theorem isD_R {r : Rat} : isD K (dR r) = isR K r := by rw [isD, isDs, isDs, isDs, isD, isD]
theorem isD_row {l : List Rat} : isD K (dRow l) = isRow K l := by
  rw [isD, isDs_map, List.map_map]
  have : (isD K ∘ dR) = isR K := funext fun r => isD_R
  rw [this]
theorem isD_rows {l : List (List Rat)} : isD K (dRows l) = isRows K l := by
  rw [isD, isDs_map, List.map_map]
  have : (isD K ∘ dRow) = isRow K := funext fun r => isD_row
  rw [this]
theorem isD_cube {l : List (List (List Rat))} : isD K (dCube l) = isCube K l := by
  rw [isD, isDs_map, List.map_map]
  have : (isD K ∘ dRows) = isRows K := funext fun r => isD_rows
  rw [this]
theorem isD_int {i : Int} : isD K (.int i) = aInt i := by rw [isD]
theorem okD_int {n : Nat} {i : Int} : okD n (.int i) := by cases n <;> simp [okD]
theorem okD_R {n : Nat} {r : Rat} : okD (n + 1) (dR r) := by
  unfold okD
  exact ⟨by show 2 ≤ _; decide, fun d hd => by
    have : d = .int r.num ∨ d = .int (r.den : Int) := by simpa using hd
    rcases this with rfl | rfl <;> exact okD_int⟩
theorem okD_row {n : Nat} {l : List Rat} (h : l.length ≤ 100000) : okD (n + 2) (dRow l) := by
  unfold okD
  refine ⟨by rw [List.length_map]; exact h, fun d hd => ?_⟩
  obtain ⟨r, _, rfl⟩ := List.mem_map.mp hd
  exact okD_R
theorem okD_rows {n : Nat} {l : List (List Rat)} (h : l.length ≤ 100000) (h2 : ∀ r ∈ l, r.length ≤ 100000) : okD (n + 3) (dRows l) := by
  unfold okD
  refine ⟨by rw [List.length_map]; exact h, fun d hd => ?_⟩
  obtain ⟨r, m, rfl⟩ := List.mem_map.mp hd
  exact okD_row (h2 r m)
theorem okD_cube {n : Nat} {l : List (List (List Rat))} (h : l.length ≤ 100000) (h2 : ∀ r ∈ l, r.length ≤ 100000 ∧ ∀ q ∈ r, q.length ≤ 100000) : okD (n + 4) (dCube l) := by
  unfold okD
  refine ⟨by rw [List.length_map]; exact h, fun d hd => ?_⟩
  obtain ⟨r, m, rfl⟩ := List.mem_map.mp hd
  exact okD_rows (h2 r m).1 (h2 r m).2
theorem okD_shape : ∀ (n : Nat) (d : PyData), okD n d → PyData.canLay0 d = true ∧ PyData.depth d ≤ n := by
  intro n
  induction n with
  | zero =>
    intro d h
    cases d <;> simp [okD] at h <;> exact ⟨rfl, Nat.le_refl _⟩
  | succ n ih =>
    have all : ∀ ds : List PyData, (∀ d ∈ ds, okD n d) → PyData.canLayAll0 ds = true ∧ PyData.depthAll ds ≤ n := fun ds => by
      induction ds with
      | nil => exact fun _ => ⟨rfl, Nat.zero_le _⟩
      | cons d ds ih2 =>
        intro h
        obtain ⟨a1, a2⟩ := ih d (h d List.mem_cons_self)
        obtain ⟨b1, b2⟩ := ih2 fun x hx => h x (List.mem_cons_of_mem _ hx)
        rw [PyData.canLayAll0, PyData.depthAll, a1, b1]
        exact ⟨rfl, Nat.max_le.mpr ⟨a2, b2⟩⟩
    intro d h
    cases d with
    | list ds =>
      unfold okD at h
      obtain ⟨a, b⟩ := all ds h.2
      rw [PyData.canLay0, PyData.depth]
      exact ⟨a, by omega⟩
    | tuple ds =>
      unfold okD at h
      obtain ⟨a, b⟩ := all ds h.2
      rw [PyData.canLay0, PyData.depth]
      exact ⟨a, by omega⟩
    | none => exact ⟨rfl, Nat.zero_le _⟩
    | int i => exact ⟨rfl, Nat.zero_le _⟩
    | bool b => exact ⟨rfl, Nat.zero_le _⟩
    | str s => simp [okD] at h
    | dict s => simp [okD] at h
theorem okD_shaped {n : Nat} {d : PyData} (h : okD n d) (hn : n ≤ 64) : SeqAt.shaped d = true := by
  obtain ⟨a, b⟩ := okD_shape n d h
  unfold SeqAt.shaped
  rw [a, Bool.true_and]
  exact decide_eq_true (by omega)
theorem okD_self {n : Nat} {d : PyData} (h : okD n d) : PyData.eqv d d = true := PySem.SeqAt.eqv_refl d (okD_shape n d h).1
section
variable {X : Cx} {G : Gx} {I J J2 : Iv G.M} {Γ : Slots} {a b : Expr} {pos p : Pos} {A : Asr}
/-- the law's own look at what is told and what is due -/
theorem ex_alike {n : Nat} {Pr : Program} {w : World} {K0 : PySem.W.Frag} {mg : Str → Option Value} {base : Heap} (d : PyData) (C : Has Pr w K0 mg base "_law_alike" ["_law_told", "_law_due"] (sp__law_alike K0 n) (n + 1)) (hr : Room (n + 1) X.A) (hok : okD n d) (e : isD K0 d = A) (ha : EX X G I Γ a A J) (hb : EX X G J Γ b A J2)
    (hg : Gl X "_law_alike" := by rfl) (e1 : X.prog = Pr := by rfl) (e2 : X.w = w := by rfl) (e3 : X.K = K0 := by rfl) (e4 : X.mg = mg := by rfl) (e5 : X.base = base := by rfl)
    (hs1 : starEach [a, b] X.env = (false, eval a X.env) :: starEach [b] X.env := by rfl) (hs2 : starEach [b] X.env = (false, eval b X.env) :: starEach [] X.env := by rfl) (hpl : (backTo pos (starEach [b] X.env)).any (·.1) = false := by rfl) :
    EX X G I Γ (.Call (.Name "_law_alike" p) [a, b] [] pos) (isBl true) J2 := by
  subst e
  exact ex_callH C hr d (ax_cons ha (ax_cons hb ax_nil hs2) hs1) hok rfl hg e1 e2 e3 e4 e5 (by decide) hs1 hpl
end
section
variable {X : Cx} {G : Gx} {I J J2 : Iv G.M} {Γ : Slots} {a b : Expr} {pos p : Pos} {A : Asr}
theorem ex_eqSelf {n k : Nat} {K0 : PySem.W.Frag} (d : PyData) (hr : Room k X.A) (hok : okD n d) (hn : n ≤ 64) (e : isD K0 d = A) (ha : EX X G I Γ a A J) (hb : EX X G J Γ b A J2) (e3 : X.K = K0 := by rfl) : EX X G I Γ (.Compare a [.Eq] [b] pos) (isBl true) J2 := by
  subst e3; subst e
  rw [← okD_self hok]
  exact ex_eqD hr (okD_shaped hok hn) (okD_shaped hok hn) ha hb
theorem ex_drEqB {R S : Int → Prop} (ha : EX X G I Γ a (exA R aInt) J) (hb : EX X G J Γ b (exA S aInt) J2) : EX X G I Γ (.Compare a [.Eq] [b] pos) (exA (fun _ : Bool => True) isBl) J2 :=
  ex_cmp2 op_eq (nomark _) ha hb fun F x y ⟨i, r, ex⟩ ⟨j, s, ey⟩ H Q _ q => by cases ex; cases ey; exact ⟨rfl, q _ ⟨_, True.intro, rfl⟩⟩
end
theorem addRow_zip {x y : List Rat} : (addRow x y).map (isR K) = (x.zip y).map fun p => isR K (p.1 + p.2) := by
  unfold addRow
  rw [← List.map_uncurry_zip_eq_zipWith, List.map_map]
  rfl
theorem addRow_comm {x y : List Rat} : addRow x y = addRow y x := by
  unfold addRow
  rw [List.zipWith_comm]
  congr 1
  funext a b
  exact Rat.add_comm b a
theorem addRow_len {x y : List Rat} (h : x.length = y.length) : (addRow x y).length = x.length := by unfold addRow; rw [List.length_zipWith]; omega
theorem addRow_self {x : List Rat} : addRow x x = x.map fun a => 2 * a := by
  unfold addRow
  rw [List.zipWith_self]
  apply List.map_congr_left
  intro a _
  have : (2 : Rat) = 1 + 1 := by decide +kernel
  rw [this, Rat.add_mul, Rat.one_mul]
end
section
set_option hygiene false
local macro_rules | `(tactic| wtm_at "p_var") => `(tactic| first
  | ((with_reducible show EX _ _ _ _ (Expr.Name "_law_thing" _) _ _); first | exact ex_var (i := 0) rfl (by wtm_at "p_vis") rfl | exact isNew.lst (ex_var (i := 0) rfl (by wtm_at "p_vis") rfl))
  | ((with_reducible show EX _ _ _ _ (Expr.Name "_law_part" _) _ _); first | exact ex_var (i := 1) rfl (by wtm_at "p_vis") rfl | exact isNew.lst (ex_var (i := 1) rfl (by wtm_at "p_vis") rfl)))
-- needs data
abbrev sp__law_copied (K : PySem.W.Frag) (n : Nat) : Sp := spF (ι := PyData) (fun d => [isD K d]) (okD n) (fun d => isD K d)
theorem body__law_copied (B : Bl K mg) (D : DefAt K mg "_law_copied" S__law_copied) (n : Nat) (IH : ∀ m, n = m + 1 → Has Pr w K mg base "_law_copied" ["_law_thing"] (sp__law_copied K m) n) : Has Pr w K mg base "_law_copied" ["_law_thing"] (sp__law_copied K n) (n + 1) := by
  obtain ⟨f, fd, F, hm⟩ := D.ex
  refine ⟨f, fd, ⟨_, F⟩, fn_pure F sc__law_copied (fun _ => rfl) fun cdv A outer s H E U d Q hr ho hR => ?_, hm, F.kp, F.binds fun _ _ _ _ _ _ us hl => match us, hl with | [_], _ => rfl⟩
  change Ret _ _ (isD K d) _ at hR
  have other : ∀ (T : String) (tya : TyA K (isD K d) T), kitB T "list" = some false → SX (cxF Pr w K mg base n__law_copied "_law_copied" (defScope S__law_copied) f cdv A outer s H E) (gP U H) (ivT _) [some (isD K d), none] (defBody S__law_copied) (retE Q) := fun T tya hk => by
    refine sx_ret (J := ivT _) (A := isD K d) (ex_if (J := ivT _) (P := (· = false)) (tx_val (ex_isi (J := ivT _) (T := T) (U := "list") (by rfl) B.isinstance tya (by wtm_at "p_var") (ex_bltT (by rfl) B.list (by decide +kernel)) hk)) (fun p => by cases p) fun _ => ?_) hR
    wtm_at "p_var"
  cases d with
  | none => exact other "NoneType" (by rw [isD]; exact ty_non) (by decide)
  | str x => exact (by cases n <;> simp [okD] at ho)
  | dict x => exact (by cases n <;> simp [okD] at ho)
  | int x => exact other "int" (by rw [isD]; exact ty_int) (by decide)
  | bool x => exact other "bool" (by rw [isD]; exact ty_bl) (by decide)
  | tuple ds => exact other "tuple" (by rw [isD]; exact ty_tup) (by decide)
  | list ds =>
    cases n with
    | zero => exact (by simp [okD] at ho)
    | succ n =>
      have IH := IH n rfl
      unfold okD at ho
      obtain ⟨hz, hall⟩ := ho
      have ea : isD K (.list ds) = isLst K (ds.map (isD K)) := by rw [isD, isDs_map]
      have tya : TyA K (isD K (.list ds)) "list" := by rw [ea]; exact ty_lst
      show SX _ _ _ [some (isD K (.list ds)), none] _ _
      refine sx_ret (J := ivT _) (A := isD K (.list ds)) (ex_if (J := ivT _) (P := (· = true)) (tx_val (ex_isi (J := ivT _) (T := "list") (U := "list") (by rfl) B.isinstance tya (by wtm_at "p_var") (ex_bltT (by rfl) B.list (by decide +kernel)) (by decide))) (fun _ => ?_) (fun p => by cases p)) hR
      rw [ea]
      refine isNew.lst (ex_lc rfl sc__law_copied.nd ?_)
      refine lx_N (J := ivT _) 1 (ix_list' (by wtm_at "p_var")) sc__law_copied.nd rfl (show blkC n__law_copied (defScope S__law_copied) _ _ = true from by decide +kernel) hz rfl (.inl rfl) (fun _ _ _ _ _ => pg_name (i := 1) sc__law_copied.nd rfl (.inl rfl)) fun D s H C cl fp d hd => ?_
      show EX _ _ _ [some (isLst K (ds.map (isD K))), some (isD K d)] _ _ _
      exact ex_callH IH (hr.mono (Nat.le_refl _)) d (by wtm_at "p_ax") (hall d hd)
theorem has__law_copied (B : Bl K mg) (D : DefAt K mg "_law_copied" S__law_copied) : ∀ n : Nat, Has Pr w K mg base "_law_copied" ["_law_thing"] (sp__law_copied K n) (n + 1)
  | 0 => body__law_copied B D 0 fun m e => by cases e
  | n + 1 => body__law_copied B D (n + 1) fun m e => by cases e; exact has__law_copied B D n
end
section
set_option hygiene false
local macro_rules | `(tactic| wtm_at "p_var") => `(tactic| first
  | ((with_reducible show EX _ _ _ _ (Expr.Name "row" _) _ _); first | exact ex_var (i := 0) rfl (by wtm_at "p_vis") rfl | exact isNew.lst (ex_var (i := 0) rfl (by wtm_at "p_vis") rfl))
  | ((with_reducible show EX _ _ _ _ (Expr.Name "below" _) _ _); first | exact ex_var (i := 1) rfl (by wtm_at "p_vis") rfl | exact isNew.lst (ex_var (i := 1) rfl (by wtm_at "p_vis") rfl))
  | ((with_reducible show EX _ _ _ _ (Expr.Name "pair" _) _ _); first | exact ex_var (i := 2) rfl (by wtm_at "p_vis") rfl | exact isNew.lst (ex_var (i := 2) rfl (by wtm_at "p_vis") rfl)))
abbrev okW (l : List (Int × Int)) : Prop := (∀ q ∈ l, 1 ≤ q.2 ∧ q.1.natAbs < 2 ^ 1000000) ∧ lcmL l < 2 ^ 9000 ∧ l.length ≤ 100000
abbrev sp_whole (K : PySem.W.Frag) : Sp := spF (ι := List (Int × Int)) (fun l => [isLst K (l.map (isP K))]) okW (fun l => isTup K [isInts K (wholes l), aInt (lcmL l)])
theorem has_whole (B : Bl K mg) (D : DefAt K mg "whole" S_whole) : Has Pr w K mg base "whole" ["row"] (sp_whole K) 1 := by
  obtain ⟨f, fd, F, hm⟩ := D.ex
  refine ⟨f, fd, ⟨_, F⟩, fn_pure F sc_whole (fun _ => rfl) fun cdv A outer s H E U l Q hr ho hR => ?_, hm, F.kp, F.binds fun _ _ _ _ _ _ us hl => match us, hl with | [_], _ => rfl⟩
  obtain ⟨h1, h2, h3⟩ := ho
  show SX _ _ _ [some (isLst K (l.map (isP K))), none, none] _ _
  refine sx_set (i := 1) sc_whole.nd rfl (.inr rfl) (by wtm_at "p_lt") (by wtm_at "p_ex") ?_
  show SX _ _ _ [some (isLst K (l.map (isP K))), some (aInt 1), none] _ _
  have bitq : ∀ q ∈ l, Bits 9000 q.2 := fun q hq => by
    have a := Nat.le_of_dvd (lcmL_pos fun q hq => (h1 q hq).1) (lcmL_dvd hq)
    exact Nat.lt_of_le_of_lt a h2
  have bitk : ∀ k, Bits 9000 (lcmL (l.take k) : Int) := fun k => by
    show (_ : Int).natAbs < _
    rw [Int.natAbs_natCast]
    exact Nat.lt_of_le_of_lt (lcmL_le (fun q hq => List.mem_of_mem_take hq) fun q hq => (h1 q hq).1) h2
  refine sx_forN 2 (fun _ => ivT _) (fun k => [some (isLst K (l.map (isP K))), some (aInt (lcmL (l.take k) : Int)), none]) PassesOwn.never rfl sc_whole.nd rfl (.inl rfl) (.inr rfl) (ix_list' (by wtm_at "p_ex")) ?_ (fun _ => by wtm_at "p_lt") (fun H1 Γ1 σ1 k q e m hk k1 => ?_) ?_
  · exact ⟨fun _ _ h => h, fun _ _ h => h, True.intro⟩
  · show SX _ _ _ [some (isLst K (l.map (isP K))), some (aInt (lcmL (l.take k) : Int)), some (isP K q)] _ _
    have z1 := bitk k
    have z2 := bitq q m
    refine sx_set (i := 1) sc_whole.nd rfl (.inr rfl) (by wtm_at "p_lt") (by wtm_at "p_ex" <;> assumption) ?_
    refine sx_nil fun σ H k => k.low ?_
    refine ⟨fun _ _ h => h, fun F v h => ?_, True.intro⟩
    rw [take_succ_get e, lcmL_app]
    exact h
  · show SX _ _ _ [some (isLst K (l.map (isP K))), some (aInt (lcmL (l.take l.length) : Int)), none] _ _
    rw [List.take_length]
    refine sx_ret (A := isTup K [isInts K (wholes l), aInt (lcmL l)]) (ex_tup (ax_cons (J := ivT _) (isNew.lst (ex_lc rfl sc_whole.nd ?_)) (by wtm_at "p_ax")) (by wtm_at "p_lt")) hR
    have e : (wholes l).map (fun i => aInt i) = l.map fun q => aInt (q.1 * ((lcmL l : Int).fdiv q.2)) := by unfold wholes; rw [List.map_map]; rfl
    rw [e]
    refine lx_N 2 (ix_list' (by wtm_at "p_ex")) sc_whole.nd rfl (show blkC n_whole (defScope S_whole) _ _ = true from by decide +kernel) h3 rfl (.inl rfl) (fun _ _ _ _ _ => pg_name (i := 2) sc_whole.nd rfl (.inl rfl)) fun D s H C cl fp q hq => ?_
    show EX _ _ _ [some (isLst K (l.map (isP K))), some (aInt (lcmL l : Int)), some (isP K q)] _ _ _
    have z0 : q.2 ≠ 0 := by have := (h1 q hq).1; omega
    have z2 := bitq q hq
    have z3 : ∃ m n, Bits m q.1 ∧ Bits n ((lcmL l : Int).fdiv q.2) ∧ m + n ≤ 134217728 := by
      refine bmul (m := 1000000) (n := 9000) (h1 q hq).2 ?_ (by decide)
      have d : q.2 ∣ (lcmL l : Int) := Int.natAbs_dvd_natAbs.mp (by rw [Int.natAbs_natCast]; exact lcmL_dvd hq)
      refine Nat.lt_of_le_of_lt (natAbs_fdiv_le d) ?_
      rw [Int.natAbs_natCast]; exact h2
    wtm_at "p_ex" <;> assumption
end
section
-- needs is_cube
-- needs whole
theorem small_mul {i j : Int} (hi : i.natAbs < 2 ^ 40) (hj : j.natAbs < 2 ^ 40) : ∃ m n, Bits m i ∧ Bits n j ∧ m + n ≤ 134217728 := bmul hi hj (by decide)
abbrev prs (l : List Rat) : List (Int × Int) := l.map fun r => (r.num, (r.den : Int))
abbrev flatP (P : List (List (List Rat))) : List Rat := P.flatMap fun a => a.flatMap fun b => b.map fun c => c
def wrows (P : List (List (List Rat))) : List (List Int) := (List.range (P.length * P.length)).map fun i => ((wholes (prs (flatP P))).drop (i * P.length)).take P.length
abbrev flT (K : PySem.W.Frag) (P : List (List (List Rat))) : List (Str × Asr) := [("_wholes", isLst K ((wrows P).map fun l => isInts K l)), ("_below", aInt (lcmL (prs (flatP P)) : Int)), ("_products", isCb K P)]
abbrev isTab (K : PySem.W.Frag) (C : Addr) (P : List (List (List Rat))) : Asr := isIns C (flT K P)
abbrev okT (P : List (List (List Rat))) : Prop := okCube P ∧ okW (prs (flatP P))
structure TabAt (K : PySem.W.Frag) (mg : Str → Option Value) (C : Addr) : Prop where
  cls : Cls K C
  glo : mg "Table" = some (.ref C)
  nP : NoAttr K C "_products"
  nB : NoAttr K C "_below"
  nW : NoAttr K C "_wholes"
  init : ∃ f fd, Fun K "__init__" "Table.__init__" S_Table_init f fd ∧ Mk K C f
  size : ∃ p g fd, Fun K "size" "Table.size" S_Table_size g fd ∧ PropOf K C "size" p g
  products : ∃ p g fd, Fun K "products" "Table.products" S_Table_products g fd ∧ PropOf K C "products" p g
  call : ∃ f fd, Fun K "__call__" "Table.__call__" S_Table_call f fd ∧ PySem.W.findIn K (.ref C) "__call__" = some (some (.ref f)) ∧ PySem.W.isFn K (.ref f) = true ∧ PySem.W.fnIn K f = true
  pof : ∃ f fd, Fun K "product_of" "Table.product_of" S_Table_product_of f fd ∧ Meth K C "product_of" f
  pov : ∃ f fd, Fun K "product_over" "Table.product_over" S_Table_product_over f fd ∧ Meth K C "product_over" f
end
section
set_option hygiene false
local macro_rules | `(tactic| wtm_at "p_var") => `(tactic| first
  | ((with_reducible show EX _ _ _ _ (Expr.Name "self" _) _ _); first | exact ex_var (i := 0) rfl (by wtm_at "p_vis") rfl | exact isNew.lst (ex_var (i := 0) rfl (by wtm_at "p_vis") rfl)))
-- needs tabat
theorem has_Table_size {C : Addr} (B : Bl K mg) (T : TabAt K mg C) : HasP Pr w K mg base C "size" ["self"] (spF (fun P : List (List (List Rat)) => [isTab K C P]) (fun _ => True) (fun P => aInt (P.length : Int))) 1 := by
  obtain ⟨p, g, fd, F, hp⟩ := T.size
  refine ⟨p, g, fd, fn_pure F sc_Table_size (fun _ => rfl) fun cdv A outer s H E U P Q hr ho hR => ?_, hp, F.binds fun _ _ _ _ _ _ us hl => match us, hl with | [_], _ => rfl⟩
  change Ret _ _ (aInt (P.length : Int)) _ at hR
  show SX _ _ _ [some (isTab K C P)] _ _
  refine sx_retEq (J := ivT _) (A := aInt (((P.map (isRows K)).length : Nat) : Int)) (ex_len (by rfl) B.len (ex_fldI T.cls T.nP (by wtm_at "p_var") rfl)) hR ?_
  rw [List.length_map]
end
section
set_option hygiene false
local macro_rules | `(tactic| wtm_at "p_var") => `(tactic| first
  | ((with_reducible show EX _ _ _ _ (Expr.Name "rows" _) _ _); first | exact ex_var (i := 0) rfl (by wtm_at "p_vis") rfl | exact isNew.lst (ex_var (i := 0) rfl (by wtm_at "p_vis") rfl))
  | ((with_reducible show EX _ _ _ _ (Expr.Name "row" _) _ _); first | exact ex_var (i := 1) rfl (by wtm_at "p_vis") rfl | exact isNew.lst (ex_var (i := 1) rfl (by wtm_at "p_vis") rfl)))
abbrev sp_copied (K : PySem.W.Frag) : Sp := spF (ι := List (List Rat)) (fun q => [isRows K q]) (fun q => q.length ≤ 100000) (fun q => isRows K q)
theorem has_copied (B : Bl K mg) (D : DefAt K mg "copied" S_copied) : Has Pr w K mg base "copied" ["rows"] (sp_copied K) 1 := by
  obtain ⟨f, fd, F, hm⟩ := D.ex
  refine ⟨f, fd, ⟨_, F⟩, fn_pure F sc_copied (fun _ => rfl) fun cdv A outer s H E U q Q hr ho hR => ?_, hm, F.kp, F.binds fun _ _ _ _ _ _ us hl => match us, hl with | [_], _ => rfl⟩
  change q.length ≤ 100000 at ho
  change Ret _ _ (isRows K q) _ at hR
  show SX _ _ _ [some (isRows K q), none] _ _
  refine sx_ret (J := ivT _) (A := isRows K q) (isNew.lst (ex_lc rfl sc_copied.nd ?_)) hR
  refine lx_N (J := ivT _) 1 (ix_list' (by wtm_at "p_ex")) sc_copied.nd rfl (show blkC n_copied (defScope S_copied) _ _ = true from by decide +kernel) ho rfl (.inl rfl) (fun _ _ _ _ _ => pg_name (i := 1) sc_copied.nd rfl (.inl rfl)) fun D s H C cl fp r hr' => ?_
  show EX _ _ _ [some (isRows K q), some (isRow K r)] _ _ _
  wtm_at "p_ex"
end
section
set_option hygiene false
local macro_rules | `(tactic| wtm_at "p_var") => `(tactic| first
  | ((with_reducible show EX _ _ _ _ (Expr.Name "self" _) _ _); first | exact ex_var (i := 0) rfl (by wtm_at "p_vis") rfl | exact isNew.lst (ex_var (i := 0) rfl (by wtm_at "p_vis") rfl))
  | ((with_reducible show EX _ _ _ _ (Expr.Name "rows" _) _ _); first | exact ex_var (i := 1) rfl (by wtm_at "p_vis") rfl | exact isNew.lst (ex_var (i := 1) rfl (by wtm_at "p_vis") rfl)))
-- needs tabat
theorem has_Table_products {C : Addr} (B : Bl K mg) (T : TabAt K mg C) (Ccopied : Has Pr w K mg base "copied" ["rows"] (sp_copied K) 1) : HasP Pr w K mg base C "products" ["self"] (spF (fun P : List (List (List Rat)) => [isTab K C P]) okCube (fun P => isCb K P)) 2 := by
  obtain ⟨p, g, fd, F, hp⟩ := T.products
  refine ⟨p, g, fd, fn_pure F sc_Table_products (fun _ => rfl) fun cdv A outer s H E U P Q hr ho hR => ?_, hp, F.binds fun _ _ _ _ _ _ us hl => match us, hl with | [_], _ => rfl⟩
  change okCube P at ho
  change Ret _ _ (isCb K P) _ at hR
  show SX _ _ _ [some (isTab K C P), none] _ _
  refine sx_ret (J := ivT _) (A := isCb K P) (isNew.lst (ex_lc rfl sc_Table_products.nd ?_)) hR
  refine lx_N (J := ivT _) 1 (ix_list' (ex_fldI T.cls T.nP (by wtm_at "p_var") rfl)) sc_Table_products.nd rfl (show blkC n_Table_products (defScope S_Table_products) _ _ = true from by decide +kernel) (by have := ho.2.1; omega) rfl (.inl rfl) (fun _ _ _ _ _ => pg_name (i := 1) sc_Table_products.nd rfl (.inl rfl)) fun D s H C' cl fp r hr' => ?_
  show EX _ _ _ [some (isTab K C P), some (isRows K r)] _ _ _
  have h1 := (ho.2.2 r hr').1
  have h2 := ho.2.1
  exact ex_callH Ccopied (hr.mono (by decide)) r (by wtm_at "p_ax") (by show r.length ≤ _; omega)
end
section
set_option hygiene false
local macro_rules | `(tactic| wtm_at "p_var") => `(tactic| first
  | ((with_reducible show EX _ _ _ _ (Expr.Name "self" _) _ _); first | exact ex_var (i := 0) rfl (by wtm_at "p_vis") rfl | exact isNew.lst (ex_var (i := 0) rfl (by wtm_at "p_vis") rfl))
  | ((with_reducible show EX _ _ _ _ (Expr.Name "other" _) _ _); first | exact ex_var (i := 1) rfl (by wtm_at "p_vis") rfl | exact isNew.lst (ex_var (i := 1) rfl (by wtm_at "p_vis") rfl)))
-- needs tabat
-- needs data
structure TabEq (K : PySem.W.Frag) (mg : Str → Option Value) (C : Addr) : Prop where
  isi : IsiC K C
  eq : ∃ f fd, Fun K "__eq__" "Table.__eq__" S_Table_eq f fd ∧ PySem.W.findIn K (.ref C) "__eq__" = some (some (.ref f)) ∧ PySem.W.isFn K (.ref f) = true
abbrev spTabEq (K : PySem.W.Frag) (C : Addr) : Sp := spF (ι := List (List (List Rat)) × List (List (List Rat))) (fun q => [isIns C (flT K q.1), isIns C (flT K q.2)]) (fun q => okD 4 (dCube q.1) ∧ okD 4 (dCube q.2)) (fun q => isBl (PyData.eqv (dCube q.1) (dCube q.2)))
theorem has_Table_eq {C : Addr} (B : Bl K mg) (T : TabAt K mg C) (TE : TabEq K mg C) : HasQ Pr w K mg base C ["self", "other"] (spTabEq K C) 1 := by
  obtain ⟨f, fd, F, hs, hf⟩ := TE.eq
  refine ⟨f, fd, fn_pure F sc_Table_eq (fun _ => rfl) fun cdv A outer s H E U q Q hr ho hR => ?_, hs, hf, F.binds fun _ _ _ _ _ _ us hl => match us, hl with | [_, _], _ => rfl⟩
  obtain ⟨P, Q'⟩ := q
  obtain ⟨o1, o2⟩ := ho
  change okD 4 (dCube P) at o1
  change okD 4 (dCube Q') at o2
  change Ret _ _ (isBl (PyData.eqv (dCube P) (dCube Q'))) _ at hR
  have eP : isD K (dCube P) = isCb K P := isD_cube
  have eQ : isD K (dCube Q') = isCb K Q' := isD_cube
  show SX _ _ _ [some (isTab K C P), some (isTab K C Q')] _ _
  refine sx_retEq (J := ivT _) (A := isBl (true && PyData.eqv (dCube P) (dCube Q'))) (ex_and (J := ivT _) ?_ fun _ => ex_one ?_) hR (by rw [Bool.true_and])
  · exact ex_isiC (J := ivT _) (by rfl) B.isinstance TE.isi (by wtm_at "p_var") (ex_glob (x := "Table") (v := .ref C) (by rfl) T.glo rfl fun _ => rfl)
  · refine ex_eqD (J := ivT _) hr (okD_shaped o1 (by decide)) (okD_shaped o2 (by decide)) ?_ ?_
    · show EX _ _ _ _ _ (isD K (dCube P)) _
      rw [eP]; exact ex_fldI T.cls T.nP (by wtm_at "p_var") rfl
    · show EX _ _ _ _ _ (isD K (dCube Q')) _
      rw [eQ]; exact ex_fldI T.cls T.nP (by wtm_at "p_var") rfl
end
section
set_option hygiene false
local macro_rules | `(tactic| wtm_at "p_var") => `(tactic| first
  | ((with_reducible show EX _ _ _ _ (Expr.Name "_law_told" _) _ _); first | exact ex_var (i := 0) rfl (by wtm_at "p_vis") rfl | exact isNew.lst (ex_var (i := 0) rfl (by wtm_at "p_vis") rfl))
  | ((with_reducible show EX _ _ _ _ (Expr.Name "_law_due" _) _ _); first | exact ex_var (i := 1) rfl (by wtm_at "p_vis") rfl | exact isNew.lst (ex_var (i := 1) rfl (by wtm_at "p_vis") rfl)))
-- needs Table_size
-- needs Table_products
-- needs Table_eq
-- needs data
abbrev sp__law_is (K : PySem.W.Frag) (C : Addr) : Sp := spF (ι := List (List (List Rat))) (fun q => [isTab K C q, isCb K q]) (fun q => okCube q) (fun _ => isBl true)
theorem okD_cb {P : List (List (List Rat))} (h : okCube P) : okD 4 (dCube P) := okD_cube (n := 0) (by have := h.2.1; omega) fun r hr => ⟨by rw [(h.2.2 r hr).1]; have := h.2.1; omega, fun x hx => by rw [(h.2.2 r hr).2 x hx]; have := h.2.1; omega⟩
theorem has__law_is {C : Addr} (B : Bl K mg) (T : TabAt K mg C) (TE : TabEq K mg C) (D : DefAt K mg "_law_is" S__law_is) (C_law_alike : ∀ n : Nat, Has Pr w K mg base "_law_alike" ["_law_told", "_law_due"] (sp__law_alike K n) (n + 1)) (CTable_size : HasP Pr w K mg base C "size" ["self"] (spF (fun P : List (List (List Rat)) => [isTab K C P]) (fun _ => True) (fun P => aInt (P.length : Int))) 1) (CTable_products : HasP Pr w K mg base C "products" ["self"] (spF (fun P : List (List (List Rat)) => [isTab K C P]) okCube (fun P => isCb K P)) 2) : Has Pr w K mg base "_law_is" ["_law_told", "_law_due"] (sp__law_is K C) 7 := by
  obtain ⟨f, fd, F, hm⟩ := D.ex
  refine ⟨f, fd, ⟨_, F⟩, fn_pure F sc__law_is (fun _ => rfl) fun cdv A outer s H E U P Q hr ho hR => ?_, hm, F.kp, F.binds fun _ _ _ _ _ _ us hl => match us, hl with | [_, _], _ => rfl⟩
  have hc : okCube P := ho
  change Ret _ _ (isBl true) _ at hR
  have eQ : isD K (dCube P) = isCb K P := isD_cube
  have eSP : isD K (.list [.int (P.length : Int), dCube P]) = isLst K [aInt (P.length : Int), isCb K P] := by rw [isD, isDs, isDs, isDs, isD, eQ]
  have okSP : okD 5 (.list [.int (P.length : Int), dCube P]) := by
    unfold okD
    refine ⟨by show 2 ≤ _; decide, fun d hd => ?_⟩
    have : d = .int (P.length : Int) ∨ d = dCube P := by simpa using hd
    rcases this with rfl | rfl
    · exact okD_int
    · exact okD_cb hc
  show SX _ _ _ [some (isTab K C P), some (isCb K P)] _ _
  refine sx_ret (J := ivT _) (A := isBl (true && true)) (ex_and (J := ivT _) ?_ fun _ => ex_one ?_) hR
  · exact ex_isiC (J := ivT _) (by rfl) B.isinstance TE.isi (by wtm_at "p_var") (ex_glob (x := "Table") (v := .ref C) (by rfl) T.glo rfl fun _ => rfl)
  · refine ex_alike (.list [.int (P.length : Int), dCube P]) (C_law_alike 5) (hr.mono (by decide)) okSP eSP (J := ivT _) (ex_lst (ax_cons (J := ivT _) ?_ (ax_cons (J := ivT _) ?_ ax_nil)) (by wtm_at "p_lt")) (ex_lst (ax_cons (J := ivT _) (by have e : (P.length : Int) = ((P.map (isRows K)).length : Int) := (by rw [List.length_map]); rw [e]; wtm_at "p_ex") (ax_cons (J := ivT _) (by wtm_at "p_var") ax_nil)) (by wtm_at "p_lt"))
    · exact ex_propI CTable_size T.cls (hr.mono (by decide)) P (by wtm_at "p_var") True.intro 
    · exact ex_propI CTable_products T.cls (hr.mono (by decide)) P (by wtm_at "p_var") hc
end
section
-- needs _law_is
abbrev isC2 (K : PySem.W.Frag) (P Q : List (List (List Rat))) : Asr := isLst K [isCb K P, isCb K Q]
theorem isD_c2 {P Q : List (List (List Rat))} : isD K (.list [dCube P, dCube Q]) = isC2 K P Q := by rw [isD, isDs, isDs, isDs, isD_cube, isD_cube]
theorem okD_c2 {P Q : List (List (List Rat))} (h1 : okCube P) (h2 : okCube Q) : okD 5 (.list [dCube P, dCube Q]) := by
  unfold okD
  refine ⟨by show 2 ≤ _; decide, fun d hd => ?_⟩
  have : d = dCube P ∨ d = dCube Q := by simpa using hd
  rcases this with rfl | rfl
  · exact okD_cb h1
  · exact okD_cb h2
theorem twoX {α : Type} {K : PySem.W.Frag} {P1 P2 : α → Prop} {f : α → Asr} (F : Hp) (v : V) (h : (isNew [exA P1 f, exA P2 f]).p F v) : (exA (fun q : α × α => P1 q.1 ∧ P2 q.2) (fun q => isLst K [f q.1, f q.2])).p F v := by
  obtain ⟨a, vs, e, hs, v1, r1, e1, ⟨x1, p1, h1⟩, v2, r2, e2, ⟨x2, p2, h2⟩, e5⟩ := h
  exact ⟨(x1, x2), ⟨p1, p2⟩, a, vs, e, .inl (.inl hs), v1, r1, e1, h1, v2, r2, e2, h2, e5⟩
section
variable {X : Cx} {G : Gx} {I : Iv G.M} {Γ : Slots} {e : Expr} {p0 : Pos} {A0 A1 A2 A3 : Asr}
theorem ex_q0 {j pp} (he : EX X G I Γ e (isLst X.K [A0, A1, A2, A3]) I) : EX X G I Γ (.Subscript e (.Constant (.int 0) j pp) p0) A0 I := ex_ixL (k := 0) (fun _ _ => rfl) he ex_int rfl rfl
theorem ex_q1 {j pp} (he : EX X G I Γ e (isLst X.K [A0, A1, A2, A3]) I) : EX X G I Γ (.Subscript e (.Constant (.int 1) j pp) p0) A1 I := ex_ixL (k := 1) (fun _ _ => rfl) he ex_int rfl rfl
theorem ex_q2 {j pp} (he : EX X G I Γ e (isLst X.K [A0, A1, A2, A3]) I) : EX X G I Γ (.Subscript e (.Constant (.int 2) j pp) p0) A2 I := ex_ixL (k := 2) (fun _ _ => rfl) he ex_int rfl rfl
theorem ex_q3 {j pp} (he : EX X G I Γ e (isLst X.K [A0, A1, A2, A3]) I) : EX X G I Γ (.Subscript e (.Constant (.int 3) j pp) p0) A3 I := ex_ixL (k := 3) (fun _ _ => rfl) he ex_int rfl rfl
theorem ex_p0 {j pp} (he : EX X G I Γ e (isLst X.K [A0, A1]) I) : EX X G I Γ (.Subscript e (.Constant (.int 0) j pp) p0) A0 I := ex_ixL (k := 0) (fun _ _ => rfl) he ex_int rfl rfl
theorem ex_p1 {j pp} (he : EX X G I Γ e (isLst X.K [A0, A1]) I) : EX X G I Γ (.Subscript e (.Constant (.int 1) j pp) p0) A1 I := ex_ixL (k := 1) (fun _ _ => rfl) he ex_int rfl rfl
end
end
section
set_option hygiene false
local macro_rules | `(tactic| wtm_at "p_var") => `(tactic| first
  | ((with_reducible show EX _ _ _ _ (Expr.Name "pair" _) _ _); first | exact ex_var (i := 0) rfl (by wtm_at "p_vis") rfl | exact isNew.lst (ex_var (i := 0) rfl (by wtm_at "p_vis") rfl))
  | ((with_reducible show EX _ _ _ _ (Expr.Name "above" _) _ _); first | exact ex_var (i := 1) rfl (by wtm_at "p_vis") rfl | exact isNew.lst (ex_var (i := 1) rfl (by wtm_at "p_vis") rfl))
  | ((with_reducible show EX _ _ _ _ (Expr.Name "below" _) _ _); first | exact ex_var (i := 2) rfl (by wtm_at "p_vis") rfl | exact isNew.lst (ex_var (i := 2) rfl (by wtm_at "p_vis") rfl)))
abbrev sp_is_lowest (K : PySem.W.Frag) : Sp := spF (ι := Int × Int) (fun q => [isTup K [aInt q.1, aInt q.2]]) (fun _ => True) (fun q => isBl (decide (1 ≤ q.2) && decide (((Nat.gcd q.1.natAbs q.2.natAbs : Nat) : Int) = 1)))
theorem has_is_lowest (B : Bl K mg) (D : DefAt K mg "is_lowest" S_is_lowest) : Has Pr w K mg base "is_lowest" ["pair"] (sp_is_lowest K) 1 := by
  obtain ⟨f, fd, F, hm⟩ := D.ex
  refine ⟨f, fd, ⟨_, F⟩, fn_pure F sc_is_lowest (fun _ => rfl) fun cdv A outer s H E U q Q hr ho hR => ?_, hm, F.kp, F.binds fun _ _ _ _ _ _ us hl => match us, hl with | [_], _ => rfl⟩
  show SX _ _ _ [some (isTup K [aInt q.1, aInt q.2]), none, none] _ _
  refine sx_tup2 (i := 1) (j := 2) rfl sc_is_lowest.nd rfl rfl (.inl rfl) (.inl rfl) (by wtm_at "p_lt") (by wtm_at "p_lt") (pg_tup rfl (pgs_cons (pg_name (i := 1) sc_is_lowest.nd rfl (.inl rfl)) (pgs_cons (pg_name (i := 2) sc_is_lowest.nd rfl (.inl rfl)) pgs_nil))) (by wtm_at "p_ex") ?_
  show SX _ _ _ [some (isTup K [aInt q.1, aInt q.2]), some (aInt q.1), some (aInt q.2)] _ _
  exact sx_ret (ex_and (by wtm_at "p_ex") (fun _ => ex_one (by wtm_at "p_ex"))) hR
end
section
set_option hygiene false
local macro_rules | `(tactic| wtm_at "p_var") => `(tactic| first
  | ((with_reducible show EX _ _ _ _ (Expr.Name "pair" _) _ _); first | exact ex_var (i := 0) rfl (by wtm_at "p_vis") rfl | exact isNew.lst (ex_var (i := 0) rfl (by wtm_at "p_vis") rfl)))
abbrev sp_check_number (K : PySem.W.Frag) : Sp := spF (ι := Rat) (fun r => [isR K r]) (fun _ => True) (fun _ => isNon)
theorem has_check_number (B : Bl K mg) (D : DefAt K mg "check_number" S_check_number) (Cis_lowest : Has Pr w K mg base "is_lowest" ["pair"] (sp_is_lowest K) 1) : Has Pr w K mg base "check_number" ["pair"] (sp_check_number K) 2 := by
  obtain ⟨f, fd, F, hm⟩ := D.ex
  refine ⟨f, fd, ⟨_, F⟩, fn_pure F sc_check_number (fun _ => rfl) fun cdv A outer s H E U r Q hr ho hR => ?_, hm, F.kp, F.binds fun _ _ _ _ _ _ us hl => match us, hl with | [_], _ => rfl⟩
  show SX _ _ _ [some (isR K r)] _ _
  refine sx_ifR (J := ivT _) (P := fun c => (!c) = true) ?_ (fun p => ?_) (fun p => sx_end hR fun _ => rfl)
  · refine tx_not (P := (· = true)) ?_
    refine tx_val ?_
    exact ex_callH Cis_lowest (hr.mono (by decide)) (r.num, (r.den : Int)) (by wtm_at "p_ax") True.intro (by show isBl (_ && _) = _; rw [rat_lowB])
  · cases p
end
section
set_option hygiene false
local macro_rules | `(tactic| wtm_at "p_var") => `(tactic| first
  | ((with_reducible show EX _ _ _ _ (Expr.Name "row" _) _ _); first | exact ex_var (i := 0) rfl (by wtm_at "p_vis") rfl | exact isNew.lst (ex_var (i := 0) rfl (by wtm_at "p_vis") rfl))
  | ((with_reducible show EX _ _ _ _ (Expr.Name "pair" _) _ _); first | exact ex_var (i := 1) rfl (by wtm_at "p_vis") rfl | exact isNew.lst (ex_var (i := 1) rfl (by wtm_at "p_vis") rfl)))
abbrev sp_check_numbers (K : PySem.W.Frag) : Sp := spF (ι := List Rat) (fun r => [isRow K r]) (fun _ => True) (fun _ => isNon)
theorem has_check_numbers (B : Bl K mg) (D : DefAt K mg "check_numbers" S_check_numbers) (Ccheck_number : Has Pr w K mg base "check_number" ["pair"] (sp_check_number K) 2) : Has Pr w K mg base "check_numbers" ["row"] (sp_check_numbers K) 3 := by
  obtain ⟨f, fd, F, hm⟩ := D.ex
  refine ⟨f, fd, ⟨_, F⟩, fn_pure F sc_check_numbers (fun _ => rfl) fun cdv A outer s H E U l Q hr ho hR => ?_, hm, F.kp, F.binds fun _ _ _ _ _ _ us hl => match us, hl with | [_], _ => rfl⟩
  show SX _ _ _ [some (isRow K l), none] _ _
  refine sx_forN 1 (fun _ => ivT _) (fun _ => [some (isRow K l), none]) PassesOwn.never rfl sc_check_numbers.nd rfl (.inl rfl) (.inr rfl) (ix_list' (by wtm_at "p_ex")) (low_refl _) (fun _ => by wtm_at "p_lt") (fun H1 Γ1 σ1 k r e m hk k1 => ?_) (sx_end hR fun _ => rfl)
  show SX _ _ _ [some (isRow K l), some (isR K r)] _ _
  refine sx_expr (J := ivT _) (A := isNon) ?_ (sx_nil fun σ H k => k.low ⟨fun _ _ h => h, True.intro⟩)
  exact ex_callH Ccheck_number (hr.mono (by decide)) r (by wtm_at "p_ax") True.intro
end
section
set_option hygiene false
local macro_rules | `(tactic| wtm_at "p_var") => `(tactic| first
  | ((with_reducible show EX _ _ _ _ (Expr.Name "rows" _) _ _); first | exact ex_var (i := 0) rfl (by wtm_at "p_vis") rfl | exact isNew.lst (ex_var (i := 0) rfl (by wtm_at "p_vis") rfl))
  | ((with_reducible show EX _ _ _ _ (Expr.Name "row" _) _ _); first | exact ex_var (i := 1) rfl (by wtm_at "p_vis") rfl | exact isNew.lst (ex_var (i := 1) rfl (by wtm_at "p_vis") rfl)))
abbrev sp_check_rows (K : PySem.W.Frag) : Sp := spF (ι := List (List Rat)) (fun r => [isRows K r]) (fun _ => True) (fun _ => isNon)
theorem has_check_rows (B : Bl K mg) (D : DefAt K mg "check_rows" S_check_rows) (Ccheck_numbers : Has Pr w K mg base "check_numbers" ["row"] (sp_check_numbers K) 3) : Has Pr w K mg base "check_rows" ["rows"] (sp_check_rows K) 4 := by
  obtain ⟨f, fd, F, hm⟩ := D.ex
  refine ⟨f, fd, ⟨_, F⟩, fn_pure F sc_check_rows (fun _ => rfl) fun cdv A outer s H E U l Q hr ho hR => ?_, hm, F.kp, F.binds fun _ _ _ _ _ _ us hl => match us, hl with | [_], _ => rfl⟩
  show SX _ _ _ [some (isRows K l), none] _ _
  refine sx_forN 1 (fun _ => ivT _) (fun _ => [some (isRows K l), none]) PassesOwn.never rfl sc_check_rows.nd rfl (.inl rfl) (.inr rfl) (ix_list' (by wtm_at "p_ex")) (low_refl _) (fun _ => by wtm_at "p_lt") (fun H1 Γ1 σ1 k r e m hk k1 => ?_) (sx_end hR fun _ => rfl)
  show SX _ _ _ [some (isRows K l), some (isRow K r)] _ _
  refine sx_expr (J := ivT _) (A := isNon) ?_ (sx_nil fun σ H k => k.low ⟨fun _ _ h => h, True.intro⟩)
  exact ex_callH Ccheck_numbers (hr.mono (by decide)) r (by wtm_at "p_ax") True.intro
end
section
set_option hygiene false
local macro_rules | `(tactic| wtm_at "p_var") => `(tactic| first
  | ((with_reducible show EX _ _ _ _ (Expr.Name "self" _) _ _); first | exact ex_var (i := 0) rfl (by wtm_at "p_vis") rfl | exact isNew.lst (ex_var (i := 0) rfl (by wtm_at "p_vis") rfl))
  | ((with_reducible show EX _ _ _ _ (Expr.Name "products" _) _ _); first | exact ex_var (i := 1) rfl (by wtm_at "p_vis") rfl | exact isNew.lst (ex_var (i := 1) rfl (by wtm_at "p_vis") rfl))
  | ((with_reducible show EX _ _ _ _ (Expr.Name "lists" _) _ _); first | exact ex_var (i := 2) rfl (by wtm_at "p_vis") rfl | exact isNew.lst (ex_var (i := 2) rfl (by wtm_at "p_vis") rfl))
  | ((with_reducible show EX _ _ _ _ (Expr.Name "size" _) _ _); first | exact ex_var (i := 3) rfl (by wtm_at "p_vis") rfl | exact isNew.lst (ex_var (i := 3) rfl (by wtm_at "p_vis") rfl))
  | ((with_reducible show EX _ _ _ _ (Expr.Name "entries" _) _ _); first | exact ex_var (i := 4) rfl (by wtm_at "p_vis") rfl | exact isNew.lst (ex_var (i := 4) rfl (by wtm_at "p_vis") rfl))
  | ((with_reducible show EX _ _ _ _ (Expr.Name "rows" _) _ _); first | exact ex_var (i := 5) rfl (by wtm_at "p_vis") rfl | exact isNew.lst (ex_var (i := 5) rfl (by wtm_at "p_vis") rfl))
  | ((with_reducible show EX _ _ _ _ (Expr.Name "row" _) _ _); first | exact ex_var (i := 6) rfl (by wtm_at "p_vis") rfl | exact isNew.lst (ex_var (i := 6) rfl (by wtm_at "p_vis") rfl))
  | ((with_reducible show EX _ _ _ _ (Expr.Name "pair" _) _ _); first | exact ex_var (i := 7) rfl (by wtm_at "p_vis") rfl | exact isNew.lst (ex_var (i := 7) rfl (by wtm_at "p_vis") rfl))
  | ((with_reducible show EX _ _ _ _ (Expr.Name "at" _) _ _); first | exact ex_var (i := 8) rfl (by wtm_at "p_vis") rfl | exact isNew.lst (ex_var (i := 8) rfl (by wtm_at "p_vis") rfl)))
-- needs tabat
-- import P14
theorem flat_cube {n : Nat} {P : List (List (List Rat))} (h : ∀ r ∈ P, r.length = n ∧ ∀ x ∈ r, x.length = n) : (flatP P).length = P.length * (n * n) := by
  have h1 : ∀ r : List (List Rat), (∀ x ∈ r, x.length = n) → (r.flatMap fun b => b.map fun c => c).length = r.length * n := fun r => by
    induction r with
    | nil => intro _; simp
    | cons x r ih =>
      intro h
      rw [List.flatMap_cons, List.length_append, ih fun y hy => h y (List.mem_cons_of_mem _ hy), List.length_map, h x List.mem_cons_self, List.length_cons, Nat.succ_mul, Nat.add_comm]
  show (P.flatMap fun a => a.flatMap fun b => b.map fun c => c).length = _
  induction P with
  | nil => simp
  | cons r P ih =>
    rw [List.flatMap_cons, List.length_append, ih fun y hy => h y (List.mem_cons_of_mem _ hy), h1 r (h r List.mem_cons_self).2, (h r List.mem_cons_self).1, List.length_cons, Nat.succ_mul, Nat.add_comm]
theorem has_Table_init {C : Addr} (B : Bl K mg) (T : TabAt K mg C) (Ccheck_rows : Has Pr w K mg base "check_rows" ["rows"] (sp_check_rows K) 4) (Cis_cube : Has Pr w K mg base "is_cube" ["products"] (sp_is_cube K) 2) (Ccopied : Has Pr w K mg base "copied" ["rows"] (sp_copied K) 1) (Cwhole : Has Pr w K mg base "whole" ["row"] (sp_whole K) 1) :
    HasI Pr w K mg base C "Table" ["self", "products"] (spI C (fun P : List (List (List Rat)) => [isCb K P]) okT (flT K)) 5 := by
  obtain ⟨f, fd, F, hk⟩ := T.init
  refine ⟨f, fd, fn_init F sc_Table_init (fun _ => rfl) fun cdv A outer s H E U x0 dx P Q hr ho hR => ?_, hk, T.glo, F.binds fun _ _ _ _ _ _ us hl => match us, hl with | [_, _], _ => rfl⟩
  obtain ⟨⟨h1, h2, h3⟩, h4⟩ := ho
  have hfl : (flatP P).length = P.length * (P.length * P.length) := flat_cube h3
  have hsq : P.length * P.length ≤ 100000 := Nat.le_trans (Nat.mul_le_mul h2 h2) (by decide)
  show SX _ _ _ [some (isSelf x0 [] []), some (isCb K P), none, none, none, none, none, none, none] _ _
  refine sx_forN 2 (fun _ => ivS (gS U x0 H).M x0 rfl C dx []) (fun _ => [some (isSelf x0 [] []), some (isCb K P), none, none, none, none, none, none, none]) PassesOwn.never rfl sc_Table_init.nd rfl (.inl rfl) (.inr rfl) (ix_list' (by wtm_at "p_ex")) (low_refl _) (fun _ => by wtm_at "p_lt") (fun H1 Γ1 σ1 k r e m hk k1 => ?_) ?_
  · show SX _ _ _ [some (isSelf x0 [] []), some (isCb K P), some (isRows K r), none, none, none, none, none, none] _ _
    refine sx_expr (G := (gS U x0 H).re H1) (J := ivS (gS U x0 H).M x0 rfl C dx []) (A := isNon) ?_ ?_
    · exact ex_callH Ccheck_rows (hr.mono (by decide)) r (by wtm_at "p_ax") True.intro
    · exact sx_nil fun σ H k => k.low ⟨fun _ _ h => h, fun _ _ h => h, True.intro⟩
  refine sx_ifR (J := ivS (gS U x0 H).M x0 rfl C dx []) (P := fun c => (!c) = true) (tx_not (P := (· = true)) (tx_val (ex_callH Cis_cube (hr.mono (by decide)) P (by wtm_at "p_ax") ⟨h1, h2, h3⟩))) (fun p => by cases p) fun _ => ?_
  refine sx_fldS 0 (A := isCb K P) (fl := []) T.cls T.nP (isNew.lst (ex_lc rfl sc_Table_init.nd ?_)) (by wtm_at "p_var") rfl (by decide) (fun p hp => by cases hp) fun v1 => ?_
  · refine lx_N (J := ivS (gS U x0 H).M x0 rfl C dx []) 5 (ix_list' (by wtm_at "p_ex")) sc_Table_init.nd rfl (show blkC n_Table_init (defScope S_Table_init) _ _ = true from by decide +kernel) (by omega) rfl (.inl rfl) (fun _ _ _ _ _ => pg_name (i := 5) sc_Table_init.nd rfl (.inl rfl)) fun D s H' C' cl fp r hr' => ?_
    show EX _ _ _ [some (isSelf x0 [] []), some (isCb K P), none, none, none, some (isRows K r), none, none, none] _ _ _
    exact ex_callH Ccopied (hr.mono (by decide)) r (by wtm_at "p_ax") (by show r.length ≤ _; rw [(h3 r hr').1]; omega)
  generalize hf1 : putF "_products" v1 [] = fs1
  have z1 : fs1.length < 900 := by rw [← hf1]; exact Nat.lt_of_le_of_lt (length_putF _ _ _) (by decide)
  show SX _ _ _ [some (isSelf x0 fs1 [("_products", isCb K P)]), some (isCb K P), none, none, none, none, none, none, none] _ _
  refine sx_set (i := 3) (J := ivS (gS U x0 H).M x0 rfl C dx fs1) (A := aInt (P.length : Int)) sc_Table_init.nd rfl (.inr rfl) (by wtm_at "p_lt") ?_ ?_
  · have e : (P.length : Int) = ((P.map (isRows K)).length : Int) := by rw [List.length_map]
    rw [e]
    wtm_at "p_ex"
  show SX _ _ _ [some (isSelf x0 fs1 [("_products", isCb K P)]), some (isCb K P), none, some (aInt (P.length : Int)), none, none, none, none, none] _ _
  refine sx_tupF (i := 0) (j := 4) (B := isInts K (wholes (prs (flatP P)))) (A := aInt (lcmL (prs (flatP P)) : Int)) (fl := [("_products", isCb K P)]) rfl sc_Table_init.nd rfl (.inr rfl) (.inl rfl) (by wtm_at "p_lt") (by decide) T.cls T.nB ?_ ?_ rfl (by omega) (fun p hp => by
      have : p = (("_products" : Str), isCb K P) := by simpa using hp
      rw [this]; show ("_products" : Str) ≠ "_below"; decide) fun v2 => ?_
  · refine ex_callH Cwhole (hr.mono (by decide)) (prs (flatP P)) (ax_cons (J := ivS (gS U x0 H).M x0 rfl C dx fs1) (isNew.lst (NX.ex ?_)) ax_nil) h4
    have e : (prs (flatP P)).map (isP K) = P.flatMap fun a => a.flatMap fun b => b.map fun c => isR K c := by
      rw [List.map_map, List.map_flatMap]
      congr 1
      funext a
      rw [List.map_flatMap]
      congr 1
      funext b
      rw [List.map_map]
      rfl
    rw [e]
    refine nx_lc3 (j0 := 5) (j1 := 6) (j2 := 7) (J := ivS (gS U x0 H).M x0 rfl C dx fs1) (fA := isRows K) (fB := fun _ b => isRow K b) (fC := fun _ _ c => isR K c) (m := fun a => a) (n := fun _ b => b) rfl sc_Table_init.nd (ix_list' (by wtm_at "p_ex")) (show blkC n_Table_init (defScope S_Table_init) _ _ = true from by decide +kernel) (by decide) rfl rfl rfl
      (fun _ _ _ _ _ => pg_name (i := 5) sc_Table_init.nd rfl (.inl rfl)) (fun _ _ _ _ _ => pg_name (i := 6) sc_Table_init.nd rfl (.inl rfl)) (fun _ _ _ _ _ => pg_name (i := 7) sc_Table_init.nd rfl (.inl rfl)) ?_ (fun D a ha s H' C' cl fp => ?_) (fun D a b ha hb s H' C' cl fp => ?_) fun D a b c ha hb hc s H' C' cl fp => ?_
    · rw [← e, List.length_map]; exact h4.2.2
    · show IX _ _ _ [some (isSelf x0 fs1 [("_products", isCb K P)]), some (isCb K P), none, some (aInt (P.length : Int)), none, some (isRows K a), none, none, none] _ _ _ _
      exact ix_list' (by wtm_at "p_ex")
    · show IX _ _ _ [some (isSelf x0 fs1 [("_products", isCb K P)]), some (isCb K P), none, some (aInt (P.length : Int)), none, some (isRows K a), some (isRow K b), none, none] _ _ _ _
      exact ix_list' (by wtm_at "p_ex")
    · show EX _ _ _ [some (isSelf x0 fs1 [("_products", isCb K P)]), some (isCb K P), none, some (aInt (P.length : Int)), none, some (isRows K a), some (isRow K b), some (isR K c), none] _ _ _
      wtm_at "p_ex"
  · show EX _ _ _ [some (isSelf x0 fs1 [("_products", isCb K P)]), some (isCb K P), none, some (aInt (P.length : Int)), some (isInts K (wholes (prs (flatP P)))), none, none, none, none] _ _ _
    wtm_at "p_var"
  generalize hf2 : putF "_below" v2 fs1 = fs2
  have z2 : fs2.length < 1000 := by rw [← hf2]; exact Nat.lt_of_le_of_lt (length_putF _ _ _) (by omega)
  show SX _ _ _ [some (isSelf x0 fs2 [("_below", aInt (lcmL (prs (flatP P)) : Int)), ("_products", isCb K P)]), some (isCb K P), none, some (aInt (P.length : Int)), some (isInts K (wholes (prs (flatP P)))), none, none, none, none] _ _
  refine sx_fldS 0 (A := isLst K ((wrows P).map fun l => isInts K l)) (fl := [("_below", aInt (lcmL (prs (flatP P)) : Int)), ("_products", isCb K P)]) T.cls T.nW (isNew.lst (ex_lc rfl sc_Table_init.nd ?_)) (by wtm_at "p_var") rfl z2 (fun p hp => by
      have : p = (("_below" : Str), aInt (lcmL (prs (flatP P)) : Int)) ∨ p = (("_products" : Str), isCb K P) := by simpa using hp
      rcases this with e | e
      · rw [e]; show ("_below" : Str) ≠ "_wholes"; decide
      · rw [e]; show ("_products" : Str) ≠ "_wholes"; decide) fun v3 => sx_nil fun σ H' k => hR _ σ H' _ k rfl
  unfold wrows
  rw [List.map_map]
  refine lx_N (J := ivS (gS U x0 H).M x0 rfl C dx fs2) 8 (ix_range (n := P.length * P.length) (by rfl) B.range ?_ hsq) sc_Table_init.nd rfl (show blkC n_Table_init (defScope S_Table_init) _ _ = true from by decide +kernel) (by rw [List.length_range]; exact hsq) rfl (.inl rfl) (fun _ _ _ _ _ => pg_name (i := 8) sc_Table_init.nd rfl (.inl rfl)) fun D s H' C' cl fp k hk' => ?_
  · show EX _ _ _ [some (isSelf x0 fs2 [("_below", aInt (lcmL (prs (flatP P)) : Int)), ("_products", isCb K P)]), some (isCb K P), none, some (aInt (P.length : Int)), some (isInts K (wholes (prs (flatP P)))), none, none, none, none] _ _ _
    rw [Int.natCast_mul]
    refine ex_mul (J := ivS (gS U x0 H).M x0 rfl C dx fs2) (by wtm_at "p_var") (by wtm_at "p_var") ?_
    exact small_mul (by omega) (by omega)
  · have hk2 : k < P.length * P.length := List.mem_range.mp hk'
    have hle : (k + 1) * P.length ≤ P.length * (P.length * P.length) := by rw [Nat.mul_comm P.length (P.length * P.length)]; exact Nat.mul_le_mul_right _ hk2
    have hwl : ((wholes (prs (flatP P))).map fun i => aInt i).length = P.length * (P.length * P.length) := by unfold wholes; rw [List.length_map, List.length_map, List.length_map, hfl]
    show EX _ _ _ [some (isSelf x0 fs2 [("_below", aInt (lcmL (prs (flatP P)) : Int)), ("_products", isCb K P)]), some (isCb K P), none, some (aInt (P.length : Int)), some (isInts K (wholes (prs (flatP P)))), none, none, none, some (aInt ((k : Nat) : Int))] _ (isInts K (((wholes (prs (flatP P))).drop (k * P.length)).take P.length)) _
    have e : isInts K (((wholes (prs (flatP P))).drop (k * P.length)).take P.length) = isLst K ((((wholes (prs (flatP P))).map fun i => aInt i).drop (k * P.length)).take ((k + 1) * P.length - k * P.length)) := by
      show isLst K _ = isLst K _
      rw [List.map_take, List.map_drop, Nat.succ_mul, Nat.add_sub_cancel_left]
    rw [e]
    refine isNew.lst (ex_slice (G := (gS U x0 H).lk D) (a := k * P.length) (b := (k + 1) * P.length) (J := ivS (gS U x0 H).M x0 rfl C dx fs2) (K := ivS (gS U x0 H).M x0 rfl C dx fs2) ?_ ?_ ?_ (Nat.mul_le_mul_right _ (Nat.le_succ _)) (by rw [hwl]; exact hle))
    · wtm_at "p_var"
    · rw [Int.natCast_mul]
      exact ex_mul (G := (gS U x0 H).lk D) (J := ivS (gS U x0 H).M x0 rfl C dx fs2) (by wtm_at "p_var") (by wtm_at "p_var") (small_mul (by omega) (by omega))
    · rw [Int.natCast_mul]
      refine ex_mul (G := (gS U x0 H).lk D) (J := ivS (gS U x0 H).M x0 rfl C dx fs2) ?_ (by wtm_at "p_var") (small_mul (by omega) (by omega))
      rw [Int.natCast_succ]
      exact ex_add (G := (gS U x0 H).lk D) (J := ivS (gS U x0 H).M x0 rfl C dx fs2) (by wtm_at "p_var") ex_int
end
section
set_option hygiene false
local macro_rules | `(tactic| wtm_at "p_var") => `(tactic| first
  | ((with_reducible show EX _ _ _ _ (Expr.Name "self" _) _ _); first | exact ex_var (i := 0) rfl (by wtm_at "p_vis") rfl | exact isNew.lst (ex_var (i := 0) rfl (by wtm_at "p_vis") rfl))
  | ((with_reducible show EX _ _ _ _ (Expr.Name "one" _) _ _); first | exact ex_var (i := 1) rfl (by wtm_at "p_vis") rfl | exact isNew.lst (ex_var (i := 1) rfl (by wtm_at "p_vis") rfl))
  | ((with_reducible show EX _ _ _ _ (Expr.Name "other" _) _ _); first | exact ex_var (i := 2) rfl (by wtm_at "p_vis") rfl | exact isNew.lst (ex_var (i := 2) rfl (by wtm_at "p_vis") rfl))
  | ((with_reducible show EX _ _ _ _ (Expr.Name "lefts" _) _ _); first | exact ex_var (i := 3) rfl (by wtm_at "p_vis") rfl | exact isNew.lst (ex_var (i := 3) rfl (by wtm_at "p_vis") rfl))
  | ((with_reducible show EX _ _ _ _ (Expr.Name "left_below" _) _ _); first | exact ex_var (i := 4) rfl (by wtm_at "p_vis") rfl | exact isNew.lst (ex_var (i := 4) rfl (by wtm_at "p_vis") rfl))
  | ((with_reducible show EX _ _ _ _ (Expr.Name "rights" _) _ _); first | exact ex_var (i := 5) rfl (by wtm_at "p_vis") rfl | exact isNew.lst (ex_var (i := 5) rfl (by wtm_at "p_vis") rfl))
  | ((with_reducible show EX _ _ _ _ (Expr.Name "right_below" _) _ _); first | exact ex_var (i := 6) rfl (by wtm_at "p_vis") rfl | exact isNew.lst (ex_var (i := 6) rfl (by wtm_at "p_vis") rfl))
  | ((with_reducible show EX _ _ _ _ (Expr.Name "shares" _) _ _); first | exact ex_var (i := 7) rfl (by wtm_at "p_vis") rfl | exact isNew.lst (ex_var (i := 7) rfl (by wtm_at "p_vis") rfl))
  | ((with_reducible show EX _ _ _ _ (Expr.Name "sums" _) _ _); first | exact ex_var (i := 8) rfl (by wtm_at "p_vis") rfl | exact isNew.lst (ex_var (i := 8) rfl (by wtm_at "p_vis") rfl))
  | ((with_reducible show EX _ _ _ _ (Expr.Name "share" _) _ _); first | exact ex_var (i := 9) rfl (by wtm_at "p_vis") rfl | exact isNew.lst (ex_var (i := 9) rfl (by wtm_at "p_vis") rfl))
  | ((with_reducible show EX _ _ _ _ (Expr.Name "row" _) _ _); first | exact ex_var (i := 10) rfl (by wtm_at "p_vis") rfl | exact isNew.lst (ex_var (i := 10) rfl (by wtm_at "p_vis") rfl))
  | ((with_reducible show EX _ _ _ _ (Expr.Name "left" _) _ _); first | exact ex_var (i := 11) rfl (by wtm_at "p_vis") rfl | exact isNew.lst (ex_var (i := 11) rfl (by wtm_at "p_vis") rfl))
  | ((with_reducible show EX _ _ _ _ (Expr.Name "right" _) _ _); first | exact ex_var (i := 12) rfl (by wtm_at "p_vis") rfl | exact isNew.lst (ex_var (i := 12) rfl (by wtm_at "p_vis") rfl))
  | ((with_reducible show EX _ _ _ _ (Expr.Name "entry" _) _ _); first | exact ex_var (i := 13) rfl (by wtm_at "p_vis") rfl | exact isNew.lst (ex_var (i := 13) rfl (by wtm_at "p_vis") rfl))
  | ((with_reducible show EX _ _ _ _ (Expr.Name "more" _) _ _); first | exact ex_var (i := 14) rfl (by wtm_at "p_vis") rfl | exact isNew.lst (ex_var (i := 14) rfl (by wtm_at "p_vis") rfl)))
-- needs tabat
-- needs Table_init
theorem wholes_bits {l : List (Int × Int)} (h : okW l) : ∀ z ∈ wholes l, z.natAbs < 2 ^ (1000000 + 9000) := fun z hz => by
  unfold wholes at hz
  obtain ⟨q, hq, rfl⟩ := List.mem_map.mp hz
  have d : q.2 ∣ (lcmL l : Int) := Int.natAbs_dvd_natAbs.mp (by rw [Int.natAbs_natCast]; exact lcmL_dvd hq)
  rw [Int.natAbs_mul]
  exact pow_mul_lt (h.1 q hq).2 (Nat.lt_of_le_of_lt (natAbs_fdiv_le d) (by rw [Int.natAbs_natCast]; exact h.2.1))
theorem flatP_eq (P : List (List (List Rat))) : flatP P = P.flatten.flatten := by
  show (P.flatMap fun a => a.flatMap fun b => b.map fun c => c) = _
  have h1 : ∀ r : List (List Rat), (r.flatMap fun b => b.map fun c => c) = r.flatten := fun r => by
    induction r with
    | nil => rfl
    | cons x r ih => rw [List.flatMap_cons, List.flatten_cons, ih, List.map_id']
  induction P with
  | nil => rfl
  | cons r P ih => rw [List.flatMap_cons, List.flatten_cons, List.flatten_append, ih, h1]
theorem rows_len {P : List (List (List Rat))} (h : okCube P) : P.flatten.length = P.length * P.length ∧ ∀ r ∈ P.flatten, r.length = P.length := by
  refine ⟨?_, fun r hr => ?_⟩
  · have key : ∀ (n : Nat) (L : List (List (List Rat))), (∀ r ∈ L, r.length = n) → L.flatten.length = L.length * n := fun n L => by
      induction L with
      | nil => intro _; simp
      | cons x L ih => intro h; rw [List.flatten_cons, List.length_append, ih fun y hy => h y (List.mem_cons_of_mem _ hy), h x List.mem_cons_self, List.length_cons, Nat.succ_mul, Nat.add_comm]
    exact key _ P fun r hr => (h.2.2 r hr).1
  · obtain ⟨a, ha, hb⟩ := List.mem_flatten.mp hr
    exact (h.2.2 a ha).2 r hb
theorem over_wrows {P : List (List (List Rat))} (h : okCube P) : OverLL (((lcmL (prs (flatP P)) : Nat) : Int) : Rat) (wrows P) P.flatten := by
  obtain ⟨r1, r2⟩ := rows_len h
  have c := chunk P.flatten r2
  rw [r1, ← flatP_eq] at c
  have e := OverLL.of_map (c := (((lcmL (prs (flatP P)) : Nat) : Int) : Rat)) (f := fun i => ((wholes (prs (flatP P))).drop (i * P.length)).take P.length) (g := fun i => ((flatP P).drop (i * P.length)).take P.length) (fun i => ((over_wholes (flatP P)).drop _).take _) (List.range (P.length * P.length))
  rw [c] at e
  exact e
def shI (ls rs : List Int) : List Int := ls.flatMap fun a => rs.map fun b => a * b
def sumsI (P : List (List (List Rat))) (ls rs : List Int) (k : Nat) : List Int := (((shI ls rs).zip (wrows P)).take k).foldl stepZ (List.replicate ls.length 0)
theorem stepZ_le {acc : List Int} {p : Int × List Int} : (stepZ acc p).length ≤ acc.length := by
  unfold stepZ
  split
  · exact Nat.le_refl _
  · rw [List.length_map, List.length_zip]; exact Nat.min_le_left _ _
theorem sumsI_le {P : List (List (List Rat))} {ls rs : List Int} (k : Nat) : (sumsI P ls rs k).length ≤ ls.length := by
  unfold sumsI
  have key : ∀ (l : List (Int × List Int)) (acc : List Int), (l.foldl stepZ acc).length ≤ acc.length := fun l => by
    induction l with
    | nil => exact fun _ => Nat.le_refl _
    | cons p l ih => exact fun acc => Nat.le_trans (ih _) stepZ_le
  exact Nat.le_trans (key _ _) (by rw [List.length_replicate]; exact Nat.le_refl _)
def sumsV (P : List (List (List Rat))) (ls rs : List Int) : List Int := sumsI P ls rs ((shI ls rs).zip (wrows P)).length
abbrev isW (K : PySem.W.Frag) (q : List Int × Int) : Asr := isTup K [isInts K q.1, aInt q.2]
abbrev okPV (P : List (List (List Rat))) (q : (List Int × Int) × (List Int × Int)) : Prop := okCube P ∧ okW (prs (flatP P)) ∧ q.1.1.length = P.length ∧ q.2.1.length = P.length ∧ (∀ z ∈ q.1.1, z.natAbs < 2 ^ (1000000 + 9000)) ∧ (∀ z ∈ q.2.1, z.natAbs < 2 ^ (1000000 + 9000)) ∧ q.1.2.natAbs < 2 ^ 9000 ∧ q.2.2.natAbs < 2 ^ 9000
abbrev spPV (K : PySem.W.Frag) (C : Addr) (P : List (List (List Rat))) : Sp := spF (fun q : (List Int × Int) × (List Int × Int) => isIns C (flT K P) :: [isW K q.1, isW K q.2]) (okPV P) (fun q => isW K (sumsV P q.1.1 q.2.1, q.1.2 * q.2.2 * (lcmL (prs (flatP P)) : Int)))
theorem has_Table_product_over {C : Addr} (B : Bl K mg) (T : TabAt K mg C) (P : List (List (List Rat))) : HasM Pr w K mg base C "product_over" ["self", "one", "other"] (spPV K C P) 1 := by
  obtain ⟨f, fd, F, hk⟩ := T.pov
  refine ⟨f, fd, fn_pure F sc_Table_product_over (fun _ => rfl) fun cdv A outer s H E U q Q hr ho hR => ?_, hk, F.binds fun _ _ _ _ _ _ us hl => match us, hl with | [_, _, _], _ => rfl⟩
  obtain ⟨x, y⟩ := q
  obtain ⟨h0, h1, lx, ly, wx, wy, h2, h3⟩ := ho
  change x.1.length = P.length at lx
  change y.1.length = P.length at ly
  change ∀ z ∈ x.1, z.natAbs < 2 ^ (1000000 + 9000) at wx
  change ∀ z ∈ y.1, z.natAbs < 2 ^ (1000000 + 9000) at wy
  change x.2.natAbs < 2 ^ 9000 at h2
  change y.2.natAbs < 2 ^ 9000 at h3
  change Ret _ _ (isW K (sumsV P x.1 y.1, x.2 * y.2 * (lcmL (prs (flatP P)) : Int))) _ at hR
  have hz := h0.2.1
  have wp := wholes_bits h1
  show SX _ _ _ [some (isTab K C P), some (isW K x), some (isW K y), none, none, none, none, none, none, none, none, none, none, none, none] _ _
  refine sx_tup2 (i := 3) (j := 4) (J := ivT _) (A := isInts K x.1) (B := aInt x.2) rfl sc_Table_product_over.nd rfl rfl (.inl rfl) (.inl rfl) (by wtm_at "p_lt") (by wtm_at "p_lt") (pg_tup rfl (pgs_cons (pg_name (i := 3) sc_Table_product_over.nd rfl (.inl rfl)) (pgs_cons (pg_name (i := 4) sc_Table_product_over.nd rfl (.inl rfl)) pgs_nil))) (by wtm_at "p_var") ?_
  show SX _ _ _ [some (isTab K C P), some (isW K x), some (isW K y), some (isInts K x.1), some (aInt x.2), none, none, none, none, none, none, none, none, none, none] _ _
  refine sx_tup2 (i := 5) (j := 6) (J := ivT _) (A := isInts K y.1) (B := aInt y.2) rfl sc_Table_product_over.nd rfl rfl (.inr rfl) (.inl rfl) (by wtm_at "p_lt") (by wtm_at "p_lt") (pg_tup rfl (pgs_cons (pg_name (i := 5) sc_Table_product_over.nd rfl (.inr rfl)) (pgs_cons (pg_name (i := 6) sc_Table_product_over.nd rfl (.inl rfl)) pgs_nil))) (by wtm_at "p_var") ?_
  show SX _ _ _ [some (isTab K C P), some (isW K x), some (isW K y), some (isInts K x.1), some (aInt x.2), some (isInts K y.1), some (aInt y.2), none, none, none, none, none, none, none, none] _ _
  have eS : (shI x.1 y.1).map (fun i => aInt i) = x.1.flatMap fun a => y.1.map fun b => aInt (a * b) := by
    unfold shI
    rw [List.map_flatMap]
    congr 1
    funext a
    rw [List.map_map]
    rfl
  have lS : (shI x.1 y.1).length ≤ 10000 := by
    have key : ∀ (l : List Int), (l.flatMap fun a => y.1.map fun b => a * b).length = l.length * P.length := fun l => by
      induction l with
      | nil => simp
      | cons a l ih => rw [List.flatMap_cons, List.length_append, ih, List.length_map, ly, List.length_cons, Nat.succ_mul, Nat.add_comm]
    unfold shI
    rw [key, lx]
    exact Nat.mul_le_mul hz hz
  refine sx_setLc2 (i := 7) (j0 := 11) (j1 := 12) (J := ivT _) (l := x.1) (m := fun _ => y.1) (fA := fun a => aInt a) (fB := fun _ b => aInt b) (fE := fun a b => aInt (a * b)) rfl sc_Table_product_over.nd rfl rfl (by wtm_at "p_lt") (ix_list' (by wtm_at "p_ex")) (show blkC n_Table_product_over (defScope S_Table_product_over) _ _ = true from by decide +kernel) (by decide) rfl rfl
    (fun _ _ _ _ _ => pg_name (i := 11) sc_Table_product_over.nd rfl (.inl rfl)) (fun _ _ _ _ _ => pg_name (i := 12) sc_Table_product_over.nd rfl (.inl rfl)) (by rw [← eS, List.length_map]; omega) (fun D a ha s H' C' cl fp => ?_) (fun D a b ha hb s H' C' cl fp => ?_) ?_ (sw_true rfl rfl rfl (by decide +kernel))
  · show IX _ _ _ [some (isTab K C P), some (isW K x), some (isW K y), some (isInts K x.1), some (aInt x.2), some (isInts K y.1), some (aInt y.2), none, none, none, none, some (aInt a), none, none, none] _ _ _ _
    exact ix_list' (by wtm_at "p_ex")
  · show EX _ _ _ [some (isTab K C P), some (isW K x), some (isW K y), some (isInts K x.1), some (aInt x.2), some (isInts K y.1), some (aInt y.2), none, none, none, none, some (aInt a), some (aInt b), none, none] _ _ _
    have z := bmul (wx a ha) (wy b hb) (by decide)
    wtm_at "p_ex" <;> assumption
  rw [← eS]
  show SX _ _ _ [some (isTab K C P), some (isW K x), some (isW K y), some (isInts K x.1), some (aInt x.2), some (isInts K y.1), some (aInt y.2), some (isNew ((shI x.1 y.1).map fun i => aInt i)), none, none, none, none, none, none, none] _ _
  refine sx_set (i := 8) (J := ivT _) (A := isInts K (List.replicate x.1.length 0)) sc_Table_product_over.nd rfl (.inl rfl) (by wtm_at "p_lt") (isNew.lst ?_) ?_
  · have e : (List.replicate x.1.length (0 : Int)).map (fun i => aInt i) = (List.replicate (x.1.map fun i => aInt i).length [aInt 0]).flatten := by rw [flat_rep, List.map_replicate, List.length_map]
    rw [e]
    exact ex_rep (J := ivT _) (ex_lstN (by wtm_at "p_ax") (by wtm_at "p_lt")) (by wtm_at "p_ex") (by show 1 * _ ≤ _; rw [List.length_map]; omega) (by rw [List.length_map]; omega)
  show SX _ _ _ [some (isTab K C P), some (isW K x), some (isW K y), some (isInts K x.1), some (aInt x.2), some (isInts K y.1), some (aInt y.2), some (isNew ((shI x.1 y.1).map fun i => aInt i)), some (isInts K (List.replicate x.1.length 0)), none, none, none, none, none, none] _ _
  refine sx_forT (l := (shI x.1 y.1).zip (wrows P)) (f1 := fun p => aInt p.1) (f2 := fun p => isInts K p.2) 9 10 (fun _ => ivT _) (fun k => [some (isTab K C P), some (isW K x), some (isW K y), some (isInts K x.1), some (aInt x.2), some (isInts K y.1), some (aInt y.2), some (isNew ((shI x.1 y.1).map fun i => aInt i)), some (isInts K (sumsI P x.1 y.1 k)), none, none, none, none, none, none]) PassesOwn.never rfl
    (pg_tup rfl (pgs_cons (pg_name (i := 9) sc_Table_product_over.nd rfl (.inr rfl)) (pgs_cons (pg_name (i := 10) sc_Table_product_over.nd rfl (.inl rfl)) pgs_nil))) ((ix_zip (by rfl) B.zip (by wtm_at "p_ex") (ex_fldI (J := ivT _) T.cls T.nW (by wtm_at "p_var") rfl)).cast zipA_map) ⟨fun _ _ h => h, fun _ _ h => h, fun _ _ h => h, fun _ _ h => h, fun _ _ h => h, fun _ _ h => h, fun _ _ h => h, fun _ _ h => h, fun _ _ h => h, True.intro⟩ (fun _ => by wtm_at "p_lt") (fun _ => by wtm_at "p_lt") (fun H1 Γ1 σ1 k p e mm hk k1 => ?_) ?_
  · obtain ⟨c, r⟩ := p
    have hstep : sumsI P x.1 y.1 (k + 1) = stepZ (sumsI P x.1 y.1 k) (c, r) := by
      unfold sumsI
      rw [take_succ_get e, List.foldl_append]
      rfl
    have hm := List.of_mem_zip mm
    have bc : c.natAbs < 2 ^ ((1000000 + 9000) + (1000000 + 9000)) := by
      obtain ⟨a, ha, hb⟩ := List.mem_flatMap.mp hm.1
      obtain ⟨b, hb2, rfl⟩ := List.mem_map.mp hb
      rw [Int.natAbs_mul]
      exact pow_mul_lt (wx a ha) (wy b hb2)
    have br : ∀ z ∈ r, z.natAbs < 2 ^ (1000000 + 9000) := by
      have h := hm.2
      unfold wrows at h
      obtain ⟨i, _, rfl⟩ := List.mem_map.mp h
      exact fun z hz => wp z (List.mem_of_mem_drop (List.mem_of_mem_take hz))
    have hle := sumsI_le (P := P) (ls := x.1) (rs := y.1) k
    generalize hd : sumsI P x.1 y.1 k = d at hstep hle
    show SX _ _ _ [some (isTab K C P), some (isW K x), some (isW K y), some (isInts K x.1), some (aInt x.2), some (isInts K y.1), some (aInt y.2), some (isNew ((shI x.1 y.1).map fun i => aInt i)), some (isInts K d), some (aInt c), some (isInts K r), none, none, none, none] _ _
    refine sx_if (P := (· = !decide (c = 0))) (G := (gP U H).re H1) (J := ivT _) (by wtm_at "p_tx") (fun p => ?_) (fun p => ?_)
    · have c0 : c ≠ 0 := fun z => by rw [z] at p; cases p
      refine sx_setLc (i := 8) (G := (gP U H).re H1) (J := ivT _) (As := (sumsI P x.1 y.1 (k + 1)).map fun i => aInt i) rfl sc_Table_product_over.nd rfl rfl (by wtm_at "p_lt") ?_ (sx_nil fun σ H k => wB_nil (k.low ⟨fun _ _ h => h, fun _ _ h => h, fun _ _ h => h, fun _ _ h => h, fun _ _ h => h, fun _ _ h => h, fun _ _ h => h, fun _ _ h => h, fun F v ⟨a, vs, e, h1, h2⟩ => ⟨a, vs, e, .inl (.inl h1), h2⟩, True.intro⟩)) (sw_true rfl rfl rfl (by decide +kernel))
      have e3 : (sumsI P x.1 y.1 (k + 1)).map (fun i => aInt i) = (d.zip r).map fun p => aInt (p.1 + c * p.2) := by rw [hstep]; unfold stepZ; rw [if_neg c0, List.map_map]; rfl
      rw [e3]
      refine lx_T (G := (gP U H).re H1) (J := ivT _) (l := d.zip r) (f1 := fun p => aInt p.1) (f2 := fun p => aInt p.2) 13 14 ((ix_zip (by rfl) B.zip (by wtm_at "p_ex") (by wtm_at "p_ex")).cast zipA_map) (show blkC n_Table_product_over (defScope S_Table_product_over) _ _ = true from by decide +kernel) (by rw [List.length_zip]; omega) rfl rfl
        (fun _ _ _ _ _ => (pg_tup rfl (pgs_cons (pg_name (i := 13) sc_Table_product_over.nd rfl (.inl rfl)) (pgs_cons (pg_name (i := 14) sc_Table_product_over.nd rfl (.inl rfl)) pgs_nil)))) fun D s H' C' cl fp p hp => ?_
      have mp := List.of_mem_zip (a := p.1) (b := p.2) (by simpa using hp)
      have b3 := bmul bc (br _ mp.2) (by decide)
      show EX _ _ _ [some (isTab K C P), some (isW K x), some (isW K y), some (isInts K x.1), some (aInt x.2), some (isInts K y.1), some (aInt y.2), some (isNew ((shI x.1 y.1).map fun i => aInt i)), some (isInts K d), some (aInt c), some (isInts K r), none, none, some (aInt p.1), some (aInt p.2)] _ _ _
      wtm_at "p_ex" <;> assumption
    · have c0 : c = 0 := by
        rcases Classical.em (c = 0) with z | z
        · exact z
        · rw [decide_eq_false z] at p; cases p
      refine sx_nil fun σ H k => wB_nil (k.low ⟨fun _ _ h => h, fun _ _ h => h, fun _ _ h => h, fun _ _ h => h, fun _ _ h => h, fun _ _ h => h, fun _ _ h => h, fun _ _ h => h, fun F v h => ?_, True.intro⟩)
      rw [hstep]
      unfold stepZ
      rw [if_pos c0]
      exact h
  show SX _ _ _ [some (isTab K C P), some (isW K x), some (isW K y), some (isInts K x.1), some (aInt x.2), some (isInts K y.1), some (aInt y.2), some (isNew ((shI x.1 y.1).map fun i => aInt i)), some (isInts K (sumsV P x.1 y.1)), none, none, none, none, none, none] _ _
  refine sx_ret (J := ivT _) (A := isW K (sumsV P x.1 y.1, x.2 * y.2 * (lcmL (prs (flatP P)) : Int))) (ex_tup (ax_cons (J := ivT _) (by wtm_at "p_var") (ax_cons (J := ivT _) ?_ ax_nil)) (by wtm_at "p_lt")) hR
  have b9 : ∀ {z : Nat}, z < 2 ^ 9000 → (z : Int).natAbs < 2 ^ 9000 := fun {z} h => by rw [Int.natAbs_natCast]; exact h
  refine ex_mul (J := ivT _) (ex_mul (J := ivT _) (by wtm_at "p_var") (by wtm_at "p_var") (bmul h2 h3 (by decide))) (ex_fldI (J := ivT _) T.cls T.nB (by wtm_at "p_var") rfl) (bmul (m := 18000) ?_ (b9 h1.2.1) (by decide))
  rw [Int.natAbs_mul]
  exact pow_mul_lt (m := 9000) (n := 9000) h2 h3
end
section
set_option hygiene false
local macro_rules | `(tactic| wtm_at "p_var") => `(tactic| first
  | ((with_reducible show EX _ _ _ _ (Expr.Name "above" _) _ _); first | exact ex_var (i := 0) rfl (by wtm_at "p_vis") rfl | exact isNew.lst (ex_var (i := 0) rfl (by wtm_at "p_vis") rfl))
  | ((with_reducible show EX _ _ _ _ (Expr.Name "below" _) _ _); first | exact ex_var (i := 1) rfl (by wtm_at "p_vis") rfl | exact isNew.lst (ex_var (i := 1) rfl (by wtm_at "p_vis") rfl))
  | ((with_reducible show EX _ _ _ _ (Expr.Name "shared" _) _ _); first | exact ex_var (i := 2) rfl (by wtm_at "p_vis") rfl | exact isNew.lst (ex_var (i := 2) rfl (by wtm_at "p_vis") rfl)))
abbrev sp_lowest (K : PySem.W.Frag) : Sp := spF (ι := Int × Int) (fun q => [aInt q.1, aInt q.2]) (fun q => q.2 ≠ 0 ∧ Bits 9000 q.2) (fun q => isR K (Rat.divInt q.1 q.2))
theorem has_lowest (B : Bl K mg) (D : DefAt K mg "lowest" S_lowest) : Has Pr w K mg base "lowest" ["above", "below"] (sp_lowest K) 1 := by
  obtain ⟨f, fd, F, hm⟩ := D.ex
  refine ⟨f, fd, ⟨_, F⟩, fn_pure F sc_lowest (fun _ => rfl) fun cdv A outer s H E U q Q hr ho hR => ?_, hm, F.kp, F.binds fun _ _ _ _ _ _ us hl => match us, hl with | [_, _], _ => rfl⟩
  obtain ⟨a, b⟩ := q
  change b ≠ 0 ∧ Bits 9000 b at ho
  change Ret _ _ (isR K (Rat.divInt a b)) _ at hR
  obtain ⟨h0, hb⟩ := ho
  have rest : ∀ c : Int, c = shr a b → ∀ D : Ends, D = retE Q → SX (cxF Pr w K mg base n_lowest "lowest" (defScope S_lowest) f cdv A outer s H E) (gP U H) (ivT _) [some (aInt a), some (aInt b), some (aInt c)] ((defBody S_lowest).drop 2) D := by
    intro c hc D hD
    subst hc hD
    have hs : Bits 9000 (shr a b) := by
      show (shr a b).natAbs < 2 ^ 9000
      rw [shr_natAbs]
      exact Nat.lt_of_le_of_lt (Nat.gcd_le_right _ (by have : b ≠ 0 := h0; omega)) hb
    have hn : shr a b ≠ 0 := shr_ne h0
    refine sx_retEq (by wtm_at "p_ex" <;> assumption) hR ?_
    obtain ⟨e1, e2⟩ := low_eq (a := a) h0
    show isTup K [aInt (a.fdiv (shr a b)), aInt (b.fdiv (shr a b))] = _
    rw [e1, e2]
  show SX _ _ _ [some (aInt a), some (aInt b), none] _ _
  refine sx_set (i := 2) sc_lowest.nd rfl (.inl rfl) (by wtm_at "p_lt") (by wtm_at "p_ex") ?_
  show SX _ _ _ [some (aInt a), some (aInt b), some (aInt _)] _ _
  refine sx_if (by wtm_at "p_tx") (fun p => ?_) (fun p => ?_)
  · refine sx_set (i := 2) sc_lowest.nd rfl (.inl rfl) (by wtm_at "p_lt") (by wtm_at "p_ex") ?_
    refine sx_fall (rest _ ?_ _ rfl) rfl
    have := of_decide_eq_true p.symm
    unfold shr
    rw [if_pos this]
  · refine sx_fall (rest _ ?_ _ rfl) rfl
    have := of_decide_eq_false p.symm
    unfold shr
    rw [if_neg this]
end
section
set_option hygiene false
local macro_rules | `(tactic| wtm_at "p_var") => `(tactic| first
  | ((with_reducible show EX _ _ _ _ (Expr.Name "self" _) _ _); first | exact ex_var (i := 0) rfl (by wtm_at "p_vis") rfl | exact isNew.lst (ex_var (i := 0) rfl (by wtm_at "p_vis") rfl))
  | ((with_reducible show EX _ _ _ _ (Expr.Name "one" _) _ _); first | exact ex_var (i := 1) rfl (by wtm_at "p_vis") rfl | exact isNew.lst (ex_var (i := 1) rfl (by wtm_at "p_vis") rfl))
  | ((with_reducible show EX _ _ _ _ (Expr.Name "other" _) _ _); first | exact ex_var (i := 2) rfl (by wtm_at "p_vis") rfl | exact isNew.lst (ex_var (i := 2) rfl (by wtm_at "p_vis") rfl))
  | ((with_reducible show EX _ _ _ _ (Expr.Name "entries" _) _ _); first | exact ex_var (i := 3) rfl (by wtm_at "p_vis") rfl | exact isNew.lst (ex_var (i := 3) rfl (by wtm_at "p_vis") rfl))
  | ((with_reducible show EX _ _ _ _ (Expr.Name "below" _) _ _); first | exact ex_var (i := 4) rfl (by wtm_at "p_vis") rfl | exact isNew.lst (ex_var (i := 4) rfl (by wtm_at "p_vis") rfl))
  | ((with_reducible show EX _ _ _ _ (Expr.Name "entry" _) _ _); first | exact ex_var (i := 5) rfl (by wtm_at "p_vis") rfl | exact isNew.lst (ex_var (i := 5) rfl (by wtm_at "p_vis") rfl)))
-- needs tabat
-- needs Table_init
-- needs Table_product_over
abbrev isPO (P : List (List (List Rat))) (q : List Rat × List Rat) : Prop := okCube P ∧ okW (prs (flatP P)) ∧ q.1.length = P.length ∧ q.2.length = P.length ∧ okW (prs q.1) ∧ okW (prs q.2) ∧ lcmL (prs q.1) * lcmL (prs q.2) * lcmL (prs (flatP P)) < 2 ^ 9000
theorem sumsZ_end {P : List (List (List Rat))} {x y : List Rat} (h : okCube P) (hx : x.length = P.length) : OverL ((((lcmL (prs x) : Int) * (lcmL (prs y) : Int) * (lcmL (prs (flatP P)) : Int) : Int)) : Rat) (sumsV P (wholes (prs x)) (wholes (prs y))) (tmul P x y) := by
  unfold sumsV sumsI tmul foldQ pairsQ
  rw [List.take_length, Rat.intCast_mul, Rat.intCast_mul]
  have px : 0 < lcmL (prs x) := lcmL_pos fun q hq => by
    obtain ⟨r, _, rfl⟩ := List.mem_map.mp hq
    have := rat_den_pos r
    show 1 ≤ (r.den : Int)
    omega
  have py : 0 < lcmL (prs y) := lcmL_pos fun q hq => by
    obtain ⟨r, _, rfl⟩ := List.mem_map.mp hq
    have := rat_den_pos r
    show 1 ≤ (r.den : Int)
    omega
  refine over_fold (n := P.length) ?_ (OverP.zip (OverL.shares (over_wholes x) (over_wholes y)) (over_wrows h) (rows_len h).2) (by rw [List.length_replicate, hx]) (by unfold wholes; rw [List.length_map, List.length_map]; exact OverL.rep _)
  intro e
  rw [← Rat.intCast_mul] at e
  have e2 : ((lcmL (prs x) : Int) * (lcmL (prs y) : Int)) = 0 := by exact_mod_cast e
  rcases Int.mul_eq_zero.mp e2 with e | e <;> omega
theorem has_Table_product_of {C : Addr} (B : Bl K mg) (T : TabAt K mg C) (P : List (List (List Rat))) (Cwhole : Has Pr w K mg base "whole" ["row"] (sp_whole K) 1) (Clowest : Has Pr w K mg base "lowest" ["above", "below"] (sp_lowest K) 1) (CTable_product_over : ∀ P : List (List (List Rat)), HasM Pr w K mg base C "product_over" ["self", "one", "other"] (spPV K C P) 1) : HasM Pr w K mg base C "product_of" ["self", "one", "other"] (spF (fun q : List Rat × List Rat => isIns C (flT K P) :: [isRow K q.1, isRow K q.2]) (isPO P) (fun q => isRow K (tmul P q.1 q.2))) 2 := by
  obtain ⟨f, fd, F, hk⟩ := T.pof
  refine ⟨f, fd, fn_pure F sc_Table_product_of (fun _ => rfl) fun cdv A outer s H E U q Q hr ho hR => ?_, hk, F.binds fun _ _ _ _ _ _ us hl => match us, hl with | [_, _, _], _ => rfl⟩
  obtain ⟨x, y⟩ := q
  obtain ⟨h0, h1, hx, hy, h2, h3, h4⟩ := ho
  change x.length = P.length at hx
  change y.length = P.length at hy
  change okW (prs x) at h2
  change okW (prs y) at h3
  change lcmL (prs x) * lcmL (prs y) * lcmL (prs (flatP P)) < 2 ^ 9000 at h4
  change Ret _ _ (isRow K (tmul P x y)) _ at hR
  have hz := h0.2.1
  have lx : (wholes (prs x)).length = P.length := by unfold wholes; rw [List.length_map, List.length_map, hx]
  have ly : (wholes (prs y)).length = P.length := by unfold wholes; rw [List.length_map, List.length_map, hy]
  have hend := sumsZ_end (y := y) h0 hx
  have hle : (sumsV P (wholes (prs x)) (wholes (prs y))).length ≤ P.length := by rw [← lx]; exact sumsI_le _
  have px : 0 < lcmL (prs x) := lcmL_pos fun q hq => (h2.1 q hq).1
  have py : 0 < lcmL (prs y) := lcmL_pos fun q hq => (h3.1 q hq).1
  have pp : 0 < lcmL (prs (flatP P)) := lcmL_pos fun q hq => (h1.1 q hq).1
  have b9 : ∀ {z : Nat}, z < 2 ^ 9000 → (z : Int).natAbs < 2 ^ 9000 := fun {z} h => by rw [Int.natAbs_natCast]; exact h
  have hb0 : (lcmL (prs x) : Int) * (lcmL (prs y) : Int) * (lcmL (prs (flatP P)) : Int) ≠ 0 := by
    intro e
    rcases Int.mul_eq_zero.mp e with e | e
    · rcases Int.mul_eq_zero.mp e with e | e <;> omega
    · omega
  have hb1 : Bits 9000 ((lcmL (prs x) : Int) * (lcmL (prs y) : Int) * (lcmL (prs (flatP P)) : Int)) := by
    show (_ : Int).natAbs < _
    rw [Int.natAbs_mul, Int.natAbs_mul, Int.natAbs_natCast, Int.natAbs_natCast, Int.natAbs_natCast]
    exact h4
  have cW : ∀ {l : List Rat}, isLst K ((prs l).map (isP K)) = isRow K l := fun {l} => by rw [List.map_map]; rfl
  show SX _ _ _ [some (isTab K C P), some (isRow K x), some (isRow K y), none, none, none] _ _
  refine sx_tup2 (i := 3) (j := 4) (J := ivT _) (A := isInts K (sumsV P (wholes (prs x)) (wholes (prs y)))) (B := aInt ((lcmL (prs x) : Int) * (lcmL (prs y) : Int) * (lcmL (prs (flatP P)) : Int))) rfl sc_Table_product_of.nd rfl rfl (.inl rfl) (.inr rfl) (by wtm_at "p_lt") (by wtm_at "p_lt") (pg_tup rfl (pgs_cons (pg_name (i := 3) sc_Table_product_of.nd rfl (.inl rfl)) (pgs_cons (pg_name (i := 4) sc_Table_product_of.nd rfl (.inr rfl)) pgs_nil))) ?_ ?_
  · refine ex_methI (J := ivT _) (CTable_product_over P) T.cls (fun p hp => by
      have : p = (("_wholes" : Str), isLst K ((wrows P).map fun l => isInts K l)) ∨ p = (("_below" : Str), aInt (lcmL (prs (flatP P)) : Int)) ∨ p = (("_products" : Str), isCb K P) := by simpa using hp
      rcases this with e | e | e
      · rw [e]; show ("_wholes" : Str) ≠ "product_over"; decide
      · rw [e]; show ("_below" : Str) ≠ "product_over"; decide
      · rw [e]; show ("_products" : Str) ≠ "product_over"; decide) (hr.mono (by decide)) (by wtm_at "p_var") ((wholes (prs x), (lcmL (prs x) : Int)), (wholes (prs y), (lcmL (prs y) : Int))) (ax_cons (J := ivT _) ?_ (ax_cons (J := ivT _) ?_ ax_nil)) ⟨h0, h1, lx, ly, wholes_bits h2, wholes_bits h3, b9 h2.2.1, b9 h3.2.1⟩
    · exact ex_callH Cwhole (hr.mono (by decide)) (prs x) (ax_cons (J := ivT _) (by rw [cW]; wtm_at "p_var") ax_nil) h2
    · exact ex_callH Cwhole (hr.mono (by decide)) (prs y) (ax_cons (J := ivT _) (by rw [cW]; wtm_at "p_var") ax_nil) h3
  generalize hd : sumsV P (wholes (prs x)) (wholes (prs y)) = d at hend hle
  generalize hbe : (lcmL (prs x) : Int) * (lcmL (prs y) : Int) * (lcmL (prs (flatP P)) : Int) = be at hb0 hb1 hend
  show SX _ _ _ [some (isTab K C P), some (isRow K x), some (isRow K y), some (isInts K d), some (aInt be), none] _ _
  refine sx_ret (J := ivT _) (A := isRow K (tmul P x y)) (isNew.lst (ex_lc rfl sc_Table_product_of.nd ?_)) hR
  rw [← over_div hb0 hend, List.map_map]
  refine lx_N (J := ivT _) 5 (ix_list' (by wtm_at "p_ex")) sc_Table_product_of.nd rfl (show blkC n_Table_product_of (defScope S_Table_product_of) _ _ = true from by decide +kernel) (by omega) rfl (.inl rfl) (fun _ _ _ _ _ => pg_name (i := 5) sc_Table_product_of.nd rfl (.inl rfl)) fun D s H' C' cl fp z hz' => ?_
  show EX _ _ _ [some (isTab K C P), some (isRow K x), some (isRow K y), some (isInts K d), some (aInt be), some (aInt z)] _ (isR K (Rat.divInt z be)) _
  exact ex_callH Clowest (hr.mono (by decide)) (z, be) (by wtm_at "p_ax") ⟨hb0, hb1⟩
end
section
set_option hygiene false
local macro_rules | `(tactic| wtm_at "p_var") => `(tactic| first
  | ((with_reducible show EX _ _ _ _ (Expr.Name "_law_one" _) _ _); first | exact ex_var (i := 0) rfl (by wtm_at "p_vis") rfl | exact isNew.lst (ex_var (i := 0) rfl (by wtm_at "p_vis") rfl))
  | ((with_reducible show EX _ _ _ _ (Expr.Name "_law_two" _) _ _); first | exact ex_var (i := 1) rfl (by wtm_at "p_vis") rfl | exact isNew.lst (ex_var (i := 1) rfl (by wtm_at "p_vis") rfl)))
-- import M8
abbrev sp__law_mul (K : PySem.W.Frag) : Sp := spF (ι := Rat × Rat) (fun q => [isR K q.1, isR K q.2]) (fun q => RD 500000 4490 q.1 ∧ RD 500000 4490 q.2) (fun q => isR K (q.1 * q.2))
theorem two_bits {a b : Rat} (ha : RD 500000 4490 a) (hb : RD 500000 4490 b) : (∃ m n, Bits m a.num ∧ Bits n b.num ∧ m + n ≤ 134217728) ∧ (∃ m n, Bits m (a.den : Int) ∧ Bits n (b.den : Int) ∧ m + n ≤ 134217728) ∧ ((a.den : Int) * (b.den : Int) ≠ 0 ∧ Bits 9000 ((a.den : Int) * (b.den : Int))) ∧
    (∃ m n, Bits m a.num ∧ Bits n (b.den : Int) ∧ m + n ≤ 134217728) ∧ (∃ m n, Bits m b.num ∧ Bits n (a.den : Int) ∧ m + n ≤ 134217728) := by
  have da : (a.den : Int).natAbs < 2 ^ 4490 := by simpa using ha.2
  have db : (b.den : Int).natAbs < 2 ^ 4490 := by simpa using hb.2
  refine ⟨⟨_, _, ha.1, hb.1, by decide⟩, ⟨_, _, da, db, by decide⟩, ⟨fun e => ?_, ?_⟩, ⟨_, _, ha.1, db, by decide⟩, ⟨_, _, hb.1, da, by decide⟩⟩
  · have := rat_den_pos a
    have := rat_den_pos b
    rcases Int.mul_eq_zero.mp e with e | e <;> omega
  · show (_ : Int).natAbs < _
    rw [Int.natAbs_mul]
    exact Nat.lt_of_lt_of_le (pow_mul_lt da db) (Nat.pow_le_pow_right (by decide) (by decide))
theorem has__law_mul (B : Bl K mg) (D : DefAt K mg "_law_mul" S__law_mul) (C_law_low : Has Pr w K mg base "_law_low" ["_law_above", "_law_below"] (sp__law_low K) 1) : Has Pr w K mg base "_law_mul" ["_law_one", "_law_two"] (sp__law_mul K) 2 := by
  obtain ⟨f, fd, F, hm⟩ := D.ex
  refine ⟨f, fd, ⟨_, F⟩, fn_pure F sc__law_mul (fun _ => rfl) fun cdv A outer s H E U q Q hr ho hR => ?_, hm, F.kp, F.binds fun _ _ _ _ _ _ us hl => match us, hl with | [_, _], _ => rfl⟩
  obtain ⟨a, b⟩ := q
  obtain ⟨h1, h2, h3, h4, h5⟩ := two_bits ho.1 ho.2
  show SX _ _ _ [some (isR K a), some (isR K b)] _ _
  exact sx_retEq (by wtm_at "p_ex" <;> assumption) hR (by show isR K (Rat.divInt (a.num * b.num) (a.den * b.den)) = _; rw [rat_mul])
end
section
set_option hygiene false
local macro_rules | `(tactic| wtm_at "p_var") => `(tactic| first
  | ((with_reducible show EX _ _ _ _ (Expr.Name "_law_one" _) _ _); first | exact ex_var (i := 0) rfl (by wtm_at "p_vis") rfl | exact isNew.lst (ex_var (i := 0) rfl (by wtm_at "p_vis") rfl))
  | ((with_reducible show EX _ _ _ _ (Expr.Name "_law_two" _) _ _); first | exact ex_var (i := 1) rfl (by wtm_at "p_vis") rfl | exact isNew.lst (ex_var (i := 1) rfl (by wtm_at "p_vis") rfl)))
-- needs _law_mul
abbrev sp__law_add (K : PySem.W.Frag) : Sp := spF (ι := Rat × Rat) (fun q => [isR K q.1, isR K q.2]) (fun q => RD 500000 4490 q.1 ∧ RD 500000 4490 q.2) (fun q => isR K (q.1 + q.2))
theorem has__law_add (B : Bl K mg) (D : DefAt K mg "_law_add" S__law_add) (C_law_low : Has Pr w K mg base "_law_low" ["_law_above", "_law_below"] (sp__law_low K) 1) : Has Pr w K mg base "_law_add" ["_law_one", "_law_two"] (sp__law_add K) 2 := by
  obtain ⟨f, fd, F, hm⟩ := D.ex
  refine ⟨f, fd, ⟨_, F⟩, fn_pure F sc__law_add (fun _ => rfl) fun cdv A outer s H E U q Q hr ho hR => ?_, hm, F.kp, F.binds fun _ _ _ _ _ _ us hl => match us, hl with | [_, _], _ => rfl⟩
  obtain ⟨a, b⟩ := q
  obtain ⟨h1, h2, h3, h4, h5⟩ := two_bits ho.1 ho.2
  show SX _ _ _ [some (isR K a), some (isR K b)] _ _
  exact sx_retEq (by wtm_at "p_ex" <;> assumption) hR (by show isR K (Rat.divInt (a.num * b.den + b.num * a.den) (a.den * b.den)) = _; rw [rat_add])
end
section
set_option hygiene false
local macro_rules | `(tactic| wtm_at "p_var") => `(tactic| first
  | ((with_reducible show EX _ _ _ _ (Expr.Name "_law_products_here" _) _ _); first | exact ex_var (i := 0) rfl (by wtm_at "p_vis") rfl | exact isNew.lst (ex_var (i := 0) rfl (by wtm_at "p_vis") rfl))
  | ((with_reducible show EX _ _ _ _ (Expr.Name "_law_one" _) _ _); first | exact ex_var (i := 1) rfl (by wtm_at "p_vis") rfl | exact isNew.lst (ex_var (i := 1) rfl (by wtm_at "p_vis") rfl))
  | ((with_reducible show EX _ _ _ _ (Expr.Name "_law_other" _) _ _); first | exact ex_var (i := 2) rfl (by wtm_at "p_vis") rfl | exact isNew.lst (ex_var (i := 2) rfl (by wtm_at "p_vis") rfl))
  | ((with_reducible show EX _ _ _ _ (Expr.Name "_law_found" _) _ _); first | exact ex_var (i := 3) rfl (by wtm_at "p_vis") rfl | exact isNew.lst (ex_var (i := 3) rfl (by wtm_at "p_vis") rfl))
  | ((with_reducible show EX _ _ _ _ (Expr.Name "_law_i" _) _ _); first | exact ex_var (i := 4) rfl (by wtm_at "p_vis") rfl | exact isNew.lst (ex_var (i := 4) rfl (by wtm_at "p_vis") rfl))
  | ((with_reducible show EX _ _ _ _ (Expr.Name "_law_j" _) _ _); first | exact ex_var (i := 5) rfl (by wtm_at "p_vis") rfl | exact isNew.lst (ex_var (i := 5) rfl (by wtm_at "p_vis") rfl))
  | ((with_reducible show EX _ _ _ _ (Expr.Name "_law_share" _) _ _); first | exact ex_var (i := 6) rfl (by wtm_at "p_vis") rfl | exact isNew.lst (ex_var (i := 6) rfl (by wtm_at "p_vis") rfl))
  | ((with_reducible show EX _ _ _ _ (Expr.Name "_law_a" _) _ _); first | exact ex_var (i := 7) rfl (by wtm_at "p_vis") rfl | exact isNew.lst (ex_var (i := 7) rfl (by wtm_at "p_vis") rfl))
  | ((with_reducible show EX _ _ _ _ (Expr.Name "_law_b" _) _ _); first | exact ex_var (i := 8) rfl (by wtm_at "p_vis") rfl | exact isNew.lst (ex_var (i := 8) rfl (by wtm_at "p_vis") rfl)))
-- needs Table_product_of
abbrev isLT (q : List (List (List Rat)) × List Rat × List Rat) : Prop := okCube q.1 ∧ q.1.length ≤ 6 ∧ (∀ r ∈ q.1, ∀ x ∈ r, ∀ a ∈ x, RB 14 a) ∧ q.2.1.length = q.1.length ∧ q.2.2.length = q.1.length ∧ (∀ a ∈ q.2.1, RD 2000 49 a) ∧ (∀ a ∈ q.2.2, RD 2000 49 a)
abbrev sp__law_times (K : PySem.W.Frag) : Sp := spF (ι := List (List (List Rat)) × List Rat × List Rat) (fun q => [isCb K q.1, isRow K q.2.1, isRow K q.2.2]) isLT (fun q => isRow K (tmul q.1 q.2.1 q.2.2))
def tmulK (P : List (List (List Rat))) (x y : List Rat) (k : Nat) : List Rat := ((pairsQ P x y).take k).foldl stepQ (List.replicate x.length 0)
theorem stepQ_RD {p d p1 d1 p2 d2 : Nat} {acc q : List Rat} {t : Rat} (h : ∀ a ∈ acc, RD p d a) (ht : RD p1 d1 t) (hq : ∀ a ∈ q, RD p2 d2 a) : ∀ a ∈ stepQ acc (t, q), RD (p + (d1 + d2) + (p1 + p2 + d) + 1) (d + (d1 + d2)) a := fun a ha => by
  unfold stepQ addRow at ha
  rw [← List.map_uncurry_zip_eq_zipWith] at ha
  obtain ⟨p, hp, rfl⟩ := List.mem_map.mp ha
  have m := List.of_mem_zip (a := p.1) (b := p.2) (by simpa using hp)
  obtain ⟨z, hz, e⟩ := List.mem_map.mp m.2
  show RD _ _ (p.1 + p.2)
  rw [← e]
  exact (h _ m.1).add (ht.mul (hq z hz))
theorem cell {α : Type} {n : Nat} : ∀ {L : List (List α)} {i j : Nat} {r : List α} {a : α}, (∀ r ∈ L, r.length = n) → L[i]? = some r → r[j]? = some a → L.flatten[i * n + j]? = some a
  | [], _, _, _, _, _, e, _ => by simp at e
  | r0 :: L, 0, j, r, a, h, e, e2 => by
    have : r0 = r := by simpa using e
    subst this
    rw [List.flatten_cons, Nat.zero_mul, Nat.zero_add, List.getElem?_append_left (by
      rcases Nat.lt_or_ge j r0.length with z | z
      · exact z
      · rw [List.getElem?_eq_none z] at e2; cases e2)]
    exact e2
  | r0 :: L, i + 1, j, r, a, h, e, e2 => by
    have h0 := h r0 List.mem_cons_self
    rw [List.flatten_cons, Nat.succ_mul, List.getElem?_append_right (by omega), show i * n + n + j - r0.length = i * n + j by omega]
    exact cell (fun x hx => h x (List.mem_cons_of_mem _ hx)) (by simpa using e) e2
theorem flatMap_flat {α β : Type} (f : α → List β) (l : List α) : l.flatMap f = (l.map f).flatten := rfl
theorem pairs_get {P : List (List (List Rat))} {x y : List Rat} (h : okCube P) (hx : x.length = P.length) (hy : y.length = P.length) {i j : Nat} {a b : Rat} {R : List (List Rat)} {r : List Rat} (ea : x[i]? = some a) (eb : y[j]? = some b) (eR : P[i]? = some R) (er : R[j]? = some r) : (pairsQ P x y)[i * P.length + j]? = some (a * b, r) := by
  unfold pairsQ
  rw [List.getElem?_zip_eq_some]
  refine ⟨?_, cell (fun r hr => (h.2.2 r hr).1) eR er⟩
  rw [flatMap_flat]
  refine cell (n := P.length) (r := y.map fun b => a * b) (fun r hr => ?_) ?_ ?_
  · obtain ⟨z, _, rfl⟩ := List.mem_map.mp hr
    rw [List.length_map, hy]
  · rw [List.getElem?_map, ea]; rfl
  · rw [List.getElem?_map, eb]; rfl
theorem tmulK_RB {P : List (List (List Rat))} {x y : List Rat} (h : isLT (P, x, y)) : ∀ k, k ≤ 36 → ∀ a ∈ tmulK P x y k, RD (1 + 8200 * k) (1 + 112 * k) a := by
  intro k
  induction k with
  | zero =>
    intro _ a ha
    have : a = 0 := (List.mem_replicate.mp ha).2
    rw [this]
    exact RB.zero.rd (by omega) (by omega)
  | succ k ih =>
    intro hk
    have ih := ih (by omega)
    cases e : (pairsQ P x y)[k]? with
    | none =>
      have hl : (pairsQ P x y).length ≤ k := by
        rcases Nat.lt_or_ge k (pairsQ P x y).length with z | z
        · rw [List.getElem?_eq_getElem z] at e; cases e
        · exact z
      intro a ha
      have : tmulK P x y (k + 1) = tmulK P x y k := by unfold tmulK; rw [List.take_of_length_le hl, List.take_of_length_le (by omega)]
      rw [this] at ha
      exact (ih a ha).mono (by omega) (by omega)
    | some p =>
      obtain ⟨t, r⟩ := p
      have : tmulK P x y (k + 1) = stepQ (tmulK P x y k) (t, r) := by unfold tmulK; rw [take_succ_get e, List.foldl_append]; rfl
      rw [this]
      have m := List.of_mem_zip (List.mem_of_getElem? e)
      have bt : RD 4000 98 t := by
        obtain ⟨a, ha, hb⟩ := List.mem_flatMap.mp m.1
        obtain ⟨b, hb2, rfl⟩ := List.mem_map.mp hb
        exact (h.2.2.2.2.2.1 a ha).mul (h.2.2.2.2.2.2 b hb2)
      have br : ∀ a ∈ r, RB 14 a := by
        obtain ⟨R, hR, hr⟩ := List.mem_flatten.mp m.2
        exact h.2.2.1 R hR r hr
      intro a ha
      exact (stepQ_RD ih bt (fun a ha => (br a ha).rd (Nat.le_refl 14) (Nat.le_refl 14)) a ha).mono (by omega) (by omega)
theorem tmulK_len {P : List (List (List Rat))} {x y : List Rat} (h : okCube P) (hx : x.length = P.length) (k : Nat) : (tmulK P x y k).length = P.length := by
  unfold tmulK
  have key : ∀ (l : List (Rat × List Rat)), (∀ p ∈ l, p.2.length = P.length) → ∀ acc : List Rat, acc.length = P.length → (l.foldl stepQ acc).length = P.length := fun l => by
    induction l with
    | nil => exact fun _ _ h => h
    | cons p l ih => exact fun hl acc ha => ih (fun q hq => hl q (List.mem_cons_of_mem _ hq)) _ (stepQ_len (t := p.1) ha (hl p List.mem_cons_self))
  refine key _ (fun p hp => ?_) _ (by rw [List.length_replicate, hx])
  have m := List.of_mem_zip (a := p.1) (b := p.2) (List.mem_of_mem_take hp)
  exact (rows_len h).2 _ m.2
theorem tmulK_end {P : List (List (List Rat))} {x y : List Rat} (h : okCube P) : tmulK P x y (P.length * P.length) = tmul P x y := by
  unfold tmulK tmul foldQ
  rw [List.take_of_length_le]
  unfold pairsQ
  rw [List.length_zip, (rows_len h).1]
  exact Nat.min_le_right _ _
theorem addRow_mapf {α : Type} {f : Rat → α} {d r : List Rat} {c : Rat} : (addRow d (r.map (c * ·))).map f = (d.zip r).map fun p => f (p.1 + c * p.2) := by
  unfold addRow
  rw [← List.map_uncurry_zip_eq_zipWith, List.map_map, List.zip_map_right, List.map_map]
  rfl
theorem has__law_times (B : Bl K mg) (D : DefAt K mg "_law_times" S__law_times) (C_law_mul : Has Pr w K mg base "_law_mul" ["_law_one", "_law_two"] (sp__law_mul K) 2) (C_law_add : Has Pr w K mg base "_law_add" ["_law_one", "_law_two"] (sp__law_add K) 2) : Has Pr w K mg base "_law_times" ["_law_products_here", "_law_one", "_law_other"] (sp__law_times K) 3 := by
  obtain ⟨f, fd, F, hm⟩ := D.ex
  refine ⟨f, fd, ⟨_, F⟩, fn_pure F sc__law_times (fun _ => rfl) fun cdv A outer s H E U q Q hr ho hR => ?_, hm, F.kp, F.binds fun _ _ _ _ _ _ us hl => match us, hl with | [_, _, _], _ => rfl⟩
  obtain ⟨P, x, y⟩ := q
  have hbd := tmulK_RB ho
  obtain ⟨h0, h6, hP, hx, hy, bx, b_y⟩ := ho
  change okCube P at h0
  change P.length ≤ 6 at h6
  change x.length = P.length at hx
  change y.length = P.length at hy
  change ∀ a ∈ x, RD 2000 49 a at bx
  change ∀ a ∈ y, RD 2000 49 a at b_y
  change Ret _ _ (isRow K (tmul P x y)) _ at hR
  have hl : ((P.map (isRows K)).length : Int) = (P.length : Int) := by rw [List.length_map]
  show SX _ _ _ [some (isCb K P), some (isRow K x), some (isRow K y), none, none, none, none, none, none] _ _
  refine sx_set (i := 3) (J := ivT _) (A := isRow K (tmulK P x y 0)) sc__law_times.nd rfl (.inl rfl) (by wtm_at "p_lt") (isNew.lst ?_) ?_
  · have e : (tmulK P x y 0).map (isR K) = (List.replicate (P.map (isRows K)).length [isTup K [aInt 0, aInt 1]]).flatten := by
      unfold tmulK
      rw [flat_rep, List.take_zero, List.foldl_nil, List.map_replicate, List.length_map, hx]
      rfl
    rw [e]
    exact ex_rep (J := ivT _) (ex_lstN (by wtm_at "p_ax") (by wtm_at "p_lt")) (by wtm_at "p_ex") (by show 1 * _ ≤ _; rw [List.length_map]; omega) (by rw [List.length_map]; omega)
  show SX _ _ _ [some (isCb K P), some (isRow K x), some (isRow K y), some (isRow K (tmulK P x y 0)), none, none, none, none, none] _ _
  refine sx_forN (l := List.range P.length) (fA := fun i => aInt ((i : Nat) : Int)) 4 (fun _ => ivT _) (fun k => [some (isCb K P), some (isRow K x), some (isRow K y), some (isRow K (tmulK P x y (k * P.length))), none, none, none, none, none]) PassesOwn.never rfl sc__law_times.nd rfl (.inl rfl) (.inr rfl) ((ix_range (n := P.length) (by rfl) B.range (by rw [← hl]; wtm_at "p_ex") (by omega)).cast rfl) ?_ (fun _ => by wtm_at "p_lt") (fun H1 Γ1 σ1 i i' ei mi hi k1 => ?_) ?_
  · exact ⟨fun _ _ h => h, fun _ _ h => h, fun _ _ h => h, fun F v h => by rw [Nat.zero_mul]; exact h, True.intro⟩
  · rw [List.length_range] at hi
    have ei' : i' = i := by rw [List.getElem?_range hi] at ei; exact (Option.some.inj ei).symm
    subst ei'
    have hix : i' < x.length := by omega
    have eP : P[i']? = some P[i'] := List.getElem?_eq_getElem hi
    have ea : x[i']? = some x[i'] := List.getElem?_eq_getElem hix
    have mP : P[i'] ∈ P := List.getElem_mem hi
    have ma : x[i'] ∈ x := List.getElem_mem hix
    generalize hRr : P[i'] = R at eP mP
    generalize haa : x[i'] = a at ea ma
    have hRl : R.length = P.length := (h0.2.2 R mP).1
    show SX _ _ _ [some (isCb K P), some (isRow K x), some (isRow K y), some (isRow K (tmulK P x y (i' * P.length))), some (aInt ((i' : Nat) : Int)), none, none, none, none] _ _
    refine sx_forN (G := (gP U H).re H1) (l := List.range P.length) (fA := fun i => aInt ((i : Nat) : Int)) 5 (fun _ => ivT _) (fun k => [some (isCb K P), some (isRow K x), some (isRow K y), some (isRow K (tmulK P x y (i' * P.length + k))), some (aInt ((i' : Nat) : Int)), none, none, none, none]) PassesOwn.never rfl sc__law_times.nd rfl (.inl rfl) (.inr rfl) ((ix_range (n := P.length) (by rfl) B.range (by rw [← hl]; wtm_at "p_ex") (by omega)).cast rfl) (low_refl _) (fun _ => by wtm_at "p_lt") (fun H2 Γ2 σ2 j j' ej mj hj k2 => ?_) ?_
    · rw [List.length_range] at hj
      have ej' : j' = j := by rw [List.getElem?_range hj] at ej; exact (Option.some.inj ej).symm
      subst ej'
      have hjy : j' < y.length := by omega
      have hjR : j' < R.length := by omega
      have eb : y[j']? = some y[j'] := List.getElem?_eq_getElem hjy
      have er : R[j']? = some R[j'] := List.getElem?_eq_getElem hjR
      have mb : y[j'] ∈ y := List.getElem_mem hjy
      have mr : R[j'] ∈ R := List.getElem_mem hjR
      generalize hbb : y[j'] = b at eb mb
      generalize hrr : R[j'] = r at er mr
      have hpg := pairs_get h0 hx hy ea eb eP er
      have hk36 : i' * P.length + j' < 36 := by
        have h1 : i' * P.length ≤ 5 * 6 := Nat.mul_le_mul (by omega) h6
        omega
      have hrl : r.length = P.length := (h0.2.2 R mP).2 r mr
      have hstep : tmulK P x y (i' * P.length + (j' + 1)) = stepQ (tmulK P x y (i' * P.length + j')) (a * b, r) := by
        rw [← Nat.add_assoc]
        unfold tmulK
        rw [take_succ_get hpg, List.foldl_append]
        rfl
      have bd := hbd (i' * P.length + j') (by omega)
      have hdl := tmulK_len (y := y) h0 hx (i' * P.length + j')
      generalize hd : tmulK P x y (i' * P.length + j') = d at hstep bd hdl
      have ba := bx a ma
      have bb := b_y b mb
      show SX _ _ _ [some (isCb K P), some (isRow K x), some (isRow K y), some (isRow K d), some (aInt ((i' : Nat) : Int)), some (aInt ((j' : Nat) : Int)), none, none, none] _ _
      refine sx_set (i := 6) (G := ((gP U H).re H1).re H2) (J := ivT _) (A := isR K (a * b)) sc__law_times.nd rfl (.inr rfl) (by wtm_at "p_lt") ?_ ?_
      · refine ex_callH C_law_mul (hr.mono (by decide)) (a, b) (ax_cons (J := ivT _) ?_ (ax_cons (J := ivT _) ?_ ax_nil)) ⟨ba.mono (by decide) (by decide), bb.mono (by decide) (by decide)⟩
        · exact ex_ixL (J := ivT _) (k := i') (fun _ _ => rfl) (by wtm_at "p_var") (by wtm_at "p_var") rfl (by rw [List.getElem?_map, ea]; rfl)
        · exact ex_ixL (J := ivT _) (k := j') (fun _ _ => rfl) (by wtm_at "p_var") (by wtm_at "p_var") rfl (by rw [List.getElem?_map, eb]; rfl)
      have bc : RD 4000 98 (a * b) := ba.mul bb
      generalize hcc : a * b = c at hstep bc
      show SX _ _ _ [some (isCb K P), some (isRow K x), some (isRow K y), some (isRow K d), some (aInt ((i' : Nat) : Int)), some (aInt ((j' : Nat) : Int)), some (isR K c), none, none] _ _
      refine sx_if (P := (· = !decide (c.num = 0))) (G := ((gP U H).re H1).re H2) (J := ivT _) (by wtm_at "p_tx") (fun p => ?_) (fun p => ?_)
      · refine sx_setLc (i := 3) (G := ((gP U H).re H1).re H2) (J := ivT _) (As := (tmulK P x y (i' * P.length + (j' + 1))).map (isR K)) rfl sc__law_times.nd rfl rfl (by wtm_at "p_lt") ?_ (sx_nil fun σ H k => wB_nil (k.low ⟨fun _ _ h => h, fun _ _ h => h, fun _ _ h => h, fun F v ⟨a, vs, e, h1, h2⟩ => ⟨a, vs, e, .inl (.inl h1), h2⟩, fun _ _ h => h, True.intro⟩)) (sw_true rfl rfl rfl (by decide +kernel))
        have e3 : (tmulK P x y (i' * P.length + (j' + 1))).map (isR K) = (d.zip r).map fun p => isR K (p.1 + c * p.2) := by rw [hstep]; unfold stepQ; exact addRow_mapf
        rw [e3]
        refine lx_T (G := ((gP U H).re H1).re H2) (J := ivT _) (l := d.zip r) (f1 := fun p => isR K p.1) (f2 := fun p => isR K p.2) 7 8 ((ix_zip (by rfl) B.zip (by wtm_at "p_ex") (ex_ixL (J := ivT _) (k := j') (As := R.map (isRow K)) (fun _ _ => rfl) (ex_ixL (J := ivT _) (k := i') (fun _ _ => rfl) (by wtm_at "p_var") (by wtm_at "p_var") rfl (by rw [List.getElem?_map, eP]; rfl)) (by wtm_at "p_var") rfl (by rw [List.getElem?_map, er]; rfl))).cast zipA_map) (show blkC n__law_times (defScope S__law_times) _ _ = true from by decide +kernel) (by rw [List.length_zip]; omega) rfl rfl
          (fun _ _ _ _ _ => pg_tup rfl (pgs_cons (pg_name (i := 7) sc__law_times.nd rfl (.inl rfl)) (pgs_cons (pg_name (i := 8) sc__law_times.nd rfl (.inl rfl)) pgs_nil))) fun D s H' C cl fp p hp => ?_
        have mp := List.of_mem_zip (a := p.1) (b := p.2) (by simpa using hp)
        have b1 := bd _ mp.1
        have b2 := hP R mP r mr _ mp.2
        show EX _ _ _ [some (isCb K P), some (isRow K x), some (isRow K y), some (isRow K d), some (aInt ((i' : Nat) : Int)), some (aInt ((j' : Nat) : Int)), some (isR K c), some (isR K p.1), some (isR K p.2)] _ _ _
        refine ex_if (G := (((gP U H).re H1).re H2).lk D) (J := ivT _) (P := (· = decide (p.2.num = 0))) (by wtm_at "p_tx") (fun z => ?_) (fun z => ?_)
        · have z0 : p.2 = 0 := Rat.num_eq_zero.mp (of_decide_eq_true z.symm)
          rw [z0, Rat.mul_zero, Rat.add_zero]
          wtm_at "p_var"
        · refine ex_callH C_law_add (hr.mono (by decide)) (p.1, c * p.2) (ax_cons (J := ivT _) (by wtm_at "p_var") (ax_cons (J := ivT _) (ex_callH C_law_mul (hr.mono (by decide)) (c, p.2) (by wtm_at "p_ax") ⟨bc.mono (by decide) (by decide), b2.rd (by decide) (by decide)⟩) ax_nil)) ⟨b1.mono (by omega) (by omega), (bc.mul (b2.rd (Nat.le_refl 14) (Nat.le_refl 14))).mono (by decide) (by decide)⟩
      · have c0 : c = 0 := by
          rcases Classical.em (c.num = 0) with z | z
          · exact Rat.num_eq_zero.mp z
          · rw [decide_eq_false z] at p; cases p
        refine sx_nil fun σ H k => wB_nil (k.low ⟨fun _ _ h => h, fun _ _ h => h, fun _ _ h => h, fun F v h => ?_, fun _ _ h => h, True.intro⟩)
        rw [hstep]
        unfold stepQ
        rw [c0, addRow_zero (by show d.length = r.length; omega)]
        exact h
    · rw [List.length_range]
      refine sx_nil fun σ H k => k.low ⟨fun _ _ h => h, fun _ _ h => h, fun _ _ h => h, fun F v h => ?_, True.intro⟩
      rw [Nat.succ_mul]
      exact h
  · rw [List.length_range, tmulK_end h0]
    exact sx_ret (J := ivT _) (A := isRow K (tmul P x y)) (by wtm_at "p_var") hR
end
section
-- needs _law_products
theorem okLP_cube {n : Nat} {P : List (List (List Rat))} (h : okLP n P) (h1 : 1 ≤ n) (h6 : n ≤ 6) : okCube P := by
  refine ⟨by rw [h.1]; exact h1, by rw [h.1]; omega, fun r hr => ?_⟩
  rw [h.1]
  exact ⟨(h.2 r hr).1, fun x hx => ((h.2 r hr).2 x hx).1⟩
end
section
-- needs _law_times
-- needs okcube
theorem addRow4 (s t : Rat) : ∀ a b r : List Rat, addRow (addRow a b) (r.map ((s + t) * ·)) = addRow (addRow a (r.map (s * ·))) (addRow b (r.map (t * ·)))
  | [], _, _ => by simp [addRow]
  | _ :: _, [], _ => by simp [addRow]
  | _ :: _, _ :: _, [] => by simp [addRow]
  | x :: a, y :: b, z :: r => by
    show (x + y + (s + t) * z) :: addRow (addRow a b) (r.map ((s + t) * ·)) = (x + s * z + (y + t * z)) :: addRow (addRow a (r.map (s * ·))) (addRow b (r.map (t * ·)))
    rw [addRow4 s t a b r, Rat.add_mul]
    congr 1
    rw [Rat.add_assoc, Rat.add_assoc]
    congr 1
    rw [← Rat.add_assoc, Rat.add_comm y, Rat.add_assoc]
theorem fold_add : ∀ (S T : List Rat) (R : List (List Rat)) (a b : List Rat), S.length = T.length → ((List.zipWith (· + ·) S T).zip R).foldl stepQ (addRow a b) = addRow ((S.zip R).foldl stepQ a) ((T.zip R).foldl stepQ b)
  | [], [], _, _, _, _ => by simp
  | [], _ :: _, _, _, _, h => by cases h
  | _ :: _, [], _, _, _, h => by cases h
  | s :: S, t :: T, [], _, _, _ => by simp
  | s :: S, t :: T, r :: R, a, b, h => by
    show ((List.zipWith (· + ·) S T).zip R).foldl stepQ (addRow (addRow a b) (r.map ((s + t) * ·))) = addRow ((S.zip R).foldl stepQ (addRow a (r.map (s * ·)))) ((T.zip R).foldl stepQ (addRow b (r.map (t * ·))))
    rw [addRow4]
    exact fold_add S T R _ _ (by simpa using h)
theorem shares_add {x y : List Rat} (h : x.length = y.length) : ∀ z : List Rat, (z.flatMap fun a => (addRow x y).map fun b => a * b) = List.zipWith (· + ·) (z.flatMap fun a => x.map fun b => a * b) (z.flatMap fun a => y.map fun b => a * b) ∧ (z.flatMap fun a => x.map fun b => a * b).length = (z.flatMap fun a => y.map fun b => a * b).length
  | [] => ⟨rfl, rfl⟩
  | a :: z => by
    obtain ⟨h1, h2⟩ := shares_add h z
    have h3 : (x.map fun b => a * b).length = (y.map fun b => a * b).length := by rw [List.length_map, List.length_map, h]
    constructor
    · rw [List.flatMap_cons, List.flatMap_cons, List.flatMap_cons, List.zipWith_append h3, h1]
      congr 1
      unfold addRow
      rw [List.zipWith_map, List.map_zipWith]
      congr 1
      funext p q
      exact Rat.mul_add a p q
    · rw [List.flatMap_cons, List.flatMap_cons, List.length_append, List.length_append, h2, h3]
theorem rep0_add (n : Nat) : List.replicate n (0 : Rat) = addRow (List.replicate n 0) (List.replicate n 0) := by
  unfold addRow
  rw [List.zipWith_replicate, Nat.min_self, Rat.add_zero]
theorem tmul_add {P : List (List (List Rat))} {x y z : List Rat} (h : x.length = y.length) : tmul P z (addRow x y) = addRow (tmul P z x) (tmul P z y) := by
  unfold tmul foldQ pairsQ
  obtain ⟨h1, h2⟩ := shares_add h z
  rw [h1, rep0_add, fold_add _ _ _ _ _ h2, ← rep0_add]
theorem unitR_get {n i k : Nat} (h : k < n) : (unitR n (i : Int))[k]? = some (if k = i then 1 else 0) := by
  unfold unitR
  rw [List.getElem?_map, List.getElem?_range h]
  show some (if ((k : Nat) : Int) = (i : Int) then (1 : Rat) else 0) = _
  congr 1
  by_cases z : k = i
  · rw [if_pos z, if_pos (by rw [z])]
  · rw [if_neg z, if_neg (by omega)]
theorem addRow_one {n : Nat} : ∀ {r : List Rat}, r.length = n → addRow (List.replicate n 0) (r.map ((1 : Rat) * ·)) = r := by
  induction n with
  | zero => intro r h; cases r with
    | nil => rfl
    | cons _ _ => cases h
  | succ n ih => intro r h; cases r with
    | nil => cases h
    | cons x r =>
      show (0 + 1 * x) :: addRow (List.replicate n 0) (r.map ((1 : Rat) * ·)) = x :: r
      rw [ih (by simpa using h), Rat.one_mul, Rat.zero_add]
theorem tmul_units {P : List (List (List Rat))} (h : okCube P) {i j : Nat} {R : List (List Rat)} {r : List Rat} (hi : i < P.length) (hj : j < P.length) (eR : P[i]? = some R) (er : R[j]? = some r) : tmul P (unitR P.length i) (unitR P.length j) = r := by
  have ul : ∀ k : Int, (unitR P.length k).length = P.length := fun k => by unfold unitR; rw [List.length_map, List.length_range]
  have hm : i * P.length + j < P.length * P.length := by
    have : (i + 1) * P.length ≤ P.length * P.length := Nat.mul_le_mul_right _ hi
    rw [Nat.succ_mul] at this
    omega
  have hrl : r.length = P.length := (h.2.2 R (List.mem_of_getElem? eR)).2 r (List.mem_of_getElem? er)
  have key : ∀ k, k ≤ P.length * P.length → tmulK P (unitR P.length i) (unitR P.length j) k = if k ≤ i * P.length + j then List.replicate P.length 0 else r := by
    intro k
    induction k with
    | zero => intro _; rw [if_pos (Nat.zero_le _)]; unfold tmulK; rw [ul]; rfl
    | succ k ih =>
      intro hk
      have ih := ih (by omega)
      have hn : 0 < P.length := h.1
      have hk1 : k / P.length < P.length := (Nat.div_lt_iff_lt_mul hn).mpr (by omega)
      have hk2 : k % P.length < P.length := Nat.mod_lt _ hn
      have eP' : P[k / P.length]? = some P[k / P.length] := List.getElem?_eq_getElem hk1
      have mP' := List.getElem_mem hk1
      generalize hRR : P[k / P.length] = R' at eP' mP'
      have hRl : R'.length = P.length := (h.2.2 R' mP').1
      have hk2' : k % P.length < R'.length := by omega
      have er' : R'[k % P.length]? = some R'[k % P.length] := List.getElem?_eq_getElem hk2'
      have mr' := List.getElem_mem hk2'
      generalize hrr : R'[k % P.length] = r' at er' mr'
      have hrl' : r'.length = P.length := (h.2.2 R' mP').2 r' mr'
      have hpg := pairs_get h (ul (i : Int)) (ul (j : Int)) (unitR_get hk1) (unitR_get hk2) eP' er'
      have hdm : k / P.length * P.length + k % P.length = k := by rw [Nat.mul_comm]; exact Nat.div_add_mod k P.length
      rw [hdm] at hpg
      have hstep : tmulK P (unitR P.length i) (unitR P.length j) (k + 1) = stepQ (tmulK P (unitR P.length i) (unitR P.length j) k) ((if k / P.length = i then 1 else 0) * (if k % P.length = j then 1 else 0), r') := by
        unfold tmulK
        rw [take_succ_get hpg, List.foldl_append]
        rfl
      rw [hstep, ih]
      by_cases z : k = i * P.length + j
      · have e1 : k / P.length = i := by rw [z, Nat.mul_comm, Nat.mul_add_div hn, Nat.div_eq_of_lt hj, Nat.add_zero]
        have e2 : k % P.length = j := by rw [z, Nat.mul_comm, Nat.mul_add_mod, Nat.mod_eq_of_lt hj]
        have e0 : ((if k / P.length = i then 1 else 0) * (if k % P.length = j then 1 else 0) : Rat) = 1 := by rw [if_pos e1, if_pos e2, Rat.one_mul]
        rw [e0, if_pos (show k ≤ i * P.length + j by omega), if_neg (show ¬ k + 1 ≤ i * P.length + j by omega)]
        have er2 : r' = r := by
          rw [e1, eR] at eP'
          have := Option.some.inj eP'
          rw [← this, e2, er] at er'
          exact (Option.some.inj er').symm
        rw [er2]
        unfold stepQ
        exact addRow_one hrl
      · have e0 : ((if k / P.length = i then 1 else 0) * (if k % P.length = j then 1 else 0) : Rat) = 0 := by
          by_cases z1 : k / P.length = i
          · by_cases z2 : k % P.length = j
            · exact absurd (by rw [← hdm, z1, z2]) z
            · rw [if_neg z2, Rat.mul_zero]
          · rw [if_neg z1, Rat.zero_mul]
        rw [e0]
        unfold stepQ
        have eif : (if k ≤ i * P.length + j then List.replicate P.length (0 : Rat) else r) = if k + 1 ≤ i * P.length + j then List.replicate P.length 0 else r := by
          by_cases z3 : k ≤ i * P.length + j
          · rw [if_pos z3, if_pos (by omega)]
          · rw [if_neg z3, if_neg (by omega)]
        rw [eif, addRow_zero]
        split
        · rw [List.length_replicate]; exact hrl'.symm
        · show r.length = r'.length
          rw [hrl, hrl']
  rw [← tmulK_end h, key _ (Nat.le_refl _), if_neg (by omega)]
theorem flatP_RB {n b : Nat} {P : List (List (List Rat))} (h : ∀ R ∈ P, ∀ x ∈ R, ∀ a ∈ x, RB b a) : ∀ a ∈ flatP P, RB b a := fun a ha => by
  rw [flatP_eq] at ha
  obtain ⟨x, hx, ha⟩ := List.mem_flatten.mp ha
  obtain ⟨R, hR, hx⟩ := List.mem_flatten.mp hx
  exact h R hR x hx a ha
theorem okW_prs {l : List Rat} {b m : Nat} (h : ∀ a ∈ l, RB b a) (hb : b ≤ 1000000) (hm : b * l.length < m) (h9 : m ≤ 9000) (hl : l.length ≤ 100000) : okW (prs l) ∧ lcmL (prs l) < 2 ^ m := by
  have k : lcmL (prs l) < 2 ^ m := lcmL_bits (b := b) (fun q hq => by
    obtain ⟨r, hr, rfl⟩ := List.mem_map.mp hq
    have := (h r hr).2
    show ((r.den : Int)).natAbs ≤ _
    rw [Int.natAbs_natCast]
    exact Nat.le_of_lt this) (by rw [List.length_map]; exact hm)
  refine ⟨⟨fun q hq => ?_, Nat.lt_of_lt_of_le k (Nat.pow_le_pow_right (by decide) h9), by rw [List.length_map]; exact hl⟩, k⟩
  obtain ⟨r, hr, rfl⟩ := List.mem_map.mp hq
  have := rat_den_pos r
  exact ⟨by show 1 ≤ (r.den : Int); omega, Nat.lt_of_lt_of_le (h r hr).1 (Nat.pow_le_pow_right (by decide) hb)⟩
theorem okT_of {n : Nat} {P : List (List (List Rat))} (h : okLP n P) (h1 : 1 ≤ n) (h6 : n ≤ 6) : okT P ∧ lcmL (prs (flatP P)) < 2 ^ 3025 := by
  have c := okLP_cube h h1 h6
  have l : (flatP P).length ≤ 216 := by
    rw [flat_cube c.2.2, h.1]
    exact Nat.mul_le_mul h6 (Nat.mul_le_mul h6 h6)
  obtain ⟨a, b⟩ := okW_prs (b := 14) (m := 3025) (flatP_RB (n := n) fun R hR x hx => ((h.2 R hR).2 x hx).2) (by decide) (by omega) (by decide) (by omega)
  exact ⟨⟨c, a⟩, b⟩
theorem okPO_of {n : Nat} {P : List (List (List Rat))} {x y : List Rat} (h : okLP n P) (h1 : 1 ≤ n) (h6 : n ≤ 6) (hx : x.length = n) (hy : y.length = n) (bx : ∀ a ∈ x, RB 30 a) (b_y : ∀ a ∈ y, RB 30 a) : isPO P (x, y) := by
  obtain ⟨⟨c, a⟩, b⟩ := okT_of h h1 h6
  obtain ⟨ax, cx⟩ := okW_prs (b := 30) (m := 200) bx (by decide) (by omega) (by decide) (by omega)
  obtain ⟨ay, cy⟩ := okW_prs (b := 30) (m := 200) b_y (by decide) (by omega) (by decide) (by omega)
  refine ⟨c, a, by rw [h.1]; exact hx, by rw [h.1]; exact hy, ax, ay, ?_⟩
  exact Nat.lt_of_lt_of_le (pow_mul_lt (pow_mul_lt cx cy) b) (Nat.pow_le_pow_right (by decide) (by decide))
theorem isLT_of {n : Nat} {P : List (List (List Rat))} {x y : List Rat} (h : okLP n P) (h1 : 1 ≤ n) (h6 : n ≤ 6) (hx : x.length = n) (hy : y.length = n) (bx : ∀ a ∈ x, RB 30 a) (b_y : ∀ a ∈ y, RB 30 a) : isLT (P, x, y) :=
  ⟨okLP_cube h h1 h6, by show P.length ≤ 6; rw [h.1]; exact h6, fun R hR x hx => ((h.2 R hR).2 x hx).2, by show x.length = P.length; rw [h.1]; exact hx, by show y.length = P.length; rw [h.1]; exact hy, fun a ha => (bx a ha).rd (by decide) (by decide), fun a ha => (b_y a ha).rd (by decide) (by decide)⟩
end
section
-- needs tmath
-- import M8
theorem tmul_lenT {P : List (List (List Rat))} {x y : List Rat} (h : okCube P) (hx : x.length = P.length) : (tmul P x y).length = P.length := by rw [← tmulK_end h]; exact tmulK_len h hx _
theorem fold_smulS (c : Rat) : ∀ (S : List Rat) (R : List (List Rat)) (a : List Rat), ((S.map (c * ·)).zip R).foldl stepQ (a.map (c * ·)) = ((S.zip R).foldl stepQ a).map (c * ·)
  | [], _, _ => rfl
  | _ :: _, [], _ => rfl
  | s :: S, r :: R, a => by
    show ((S.map (c * ·)).zip R).foldl stepQ (stepQ (a.map (c * ·)) (c * s, r)) = ((S.zip R).foldl stepQ (stepQ a (s, r))).map (c * ·)
    rw [← fold_smulS c S R (stepQ a (s, r))]
    congr 1
    unfold stepQ
    show addRow (a.map (c * ·)) (r.map ((c * s) * ·)) = _
    rw [smul_add, smul_smul]
theorem shares_smul {c : Rat} {y : List Rat} : ∀ z : List Rat, (z.flatMap fun a => (y.map (c * ·)).map fun b => a * b) = (z.flatMap fun a => y.map fun b => a * b).map (c * ·)
  | [] => rfl
  | a :: z => by
    rw [List.flatMap_cons, List.flatMap_cons, List.map_append, shares_smul z]
    congr 1
    rw [List.map_map, List.map_map]
    apply List.map_congr_left
    intro b _
    show a * (c * b) = c * (a * b)
    rw [← Rat.mul_assoc, ← Rat.mul_assoc, Rat.mul_comm a c]
theorem tmul_smul {P : List (List (List Rat))} {z y : List Rat} {c : Rat} : tmul P z (y.map (c * ·)) = (tmul P z y).map (c * ·) := by
  unfold tmul foldQ pairsQ
  rw [shares_smul, ← fold_smulS, rep0_smul]
theorem tmul_rep0 {P : List (List (List Rat))} {z : List Rat} (h : okCube P) (hz : z.length = P.length) : tmul P z (List.replicate P.length 0) = List.replicate P.length 0 := by
  have e : List.replicate P.length (0 : Rat) = (List.replicate P.length (0 : Rat)).map ((0 : Rat) * ·) := (rep0_smul 0 _).symm
  rw [e, tmul_smul]
  have hl : (tmul P z (List.replicate P.length 0)).length = P.length := tmul_lenT h hz
  generalize tmul P z (List.replicate P.length 0) = t at hl
  rw [rep0_smul, ← hl]
  exact ih' t
where ih' : ∀ t : List Rat, t.map ((0 : Rat) * ·) = List.replicate t.length 0
  | [] => rfl
  | a :: t => by rw [List.map_cons, List.length_cons, List.replicate_succ, Rat.zero_mul, ih' t]
theorem oppP_LPt {n : Nat} {P : List (List (List Rat))} (h : okLP n P) : okLP n (oppP P) := by
  refine ⟨by unfold oppP; rw [List.length_map, List.length_range, h.1], fun R hR => ?_⟩
  obtain ⟨i, hi, rfl⟩ := List.mem_map.mp hR
  have hi := List.mem_range.mp hi
  refine ⟨by rw [List.length_map, h.1], fun x hx => ?_⟩
  obtain ⟨r, hr, rfl⟩ := List.mem_map.mp hx
  have hl : i < r.length := by rw [(h.2 r hr).1, ← h.1]; exact hi
  have e : r.getD i [] = r[i] := by rw [List.getD_eq_getElem?_getD, List.getElem?_eq_getElem hl]; rfl
  rw [e]
  exact (h.2 r hr).2 _ (List.getElem_mem hl)
/-- the product by a sum of multiples, on the right -/
theorem tmul_foldR {P : List (List (List Rat))} {z : List Rat} : ∀ (l : List (Rat × List Rat)) (acc : List Rat), acc.length = P.length → (∀ p ∈ l, p.2.length = P.length) → tmul P z (l.foldl stepQ acc) = (l.map fun p => (p.1, tmul P z p.2)).foldl stepQ (tmul P z acc)
  | [], _, _, _ => rfl
  | p :: l, acc, h, hl => by
    have hp := hl p List.mem_cons_self
    rw [List.foldl_cons, List.map_cons, List.foldl_cons, tmul_foldR l _ (stepQ_len (t := p.1) h hp) fun q hq => hl q (List.mem_cons_of_mem _ hq)]
    congr 1
    unfold stepQ
    rw [tmul_add (by rw [List.length_map, hp]; exact h), tmul_smul]
theorem tmul_imgR {P : List (List (List Rat))} {z y : List Rat} {R : List (List Rat)} (h : okCube P) (hz : z.length = P.length) (hy : y.length = P.length) (hR : ∀ r ∈ R, r.length = P.length) : tmul P z (imgQ R y) = foldQ P.length (y.zip (R.map fun r => tmul P z r)) := by
  unfold imgQ foldQ
  rw [hy, tmul_foldR _ _ List.length_replicate fun p hp => hR _ (List.of_mem_zip (a := p.1) (b := p.2) hp).2, tmul_rep0 h hz, List.zip_map_right]
  rfl
theorem imgQ_len {n : Nat} {R : List (List Rat)} {y : List Rat} (hy : y.length = n) (hR : ∀ r ∈ R, r.length = n) : (imgQ R y).length = n := by
  unfold imgQ foldQ
  refine foldQ_len _ (fun p hp => hR _ (List.of_mem_zip (a := p.1) (b := p.2) hp).2) _ (by rw [List.length_replicate, hy])
theorem tmul_img {n : Nat} {P : List (List (List Rat))} {L R : List (List Rat)} {x y : List Rat} (hP : okLP n P) (h1 : 1 ≤ n) (h6 : n ≤ 6) (hx : x.length = n) (hy : y.length = n) (hL : ∀ r ∈ L, r.length = n) (hR : ∀ r ∈ R, r.length = n) (hRl : R.length = n) (hLl : L.length = n) : tmul (chP P L R) x y = tmul P (imgQ L x) (imgQ R y) := by
  have hc := okLP_cube hP h1 h6
  have hcQ := okLP_cube (oppP_LPt hP) h1 h6
  have hPl := hP.1
  have ho : (oppP P).length = n := (oppP_LPt hP).1
  have li : (imgQ L x).length = n := imgQ_len hx hL
  have ri : (imgQ R y).length = n := imgQ_len hy hR
  have hr : ∀ R ∈ P, R.length = n := fun R hR => (hP.2 R hR).1
  rw [← tmul_opp hPl hr ri li, tmul_imgR hcQ (by rw [ri, ho]) (by rw [hx, ho]) (fun r q => by rw [hL r q, ho]), ho]
  have e1 : (L.map fun l => tmul (oppP P) (imgQ R y) l) = L.map fun l => foldQ n (y.zip (R.map fun r => tmul P l r)) := by
    apply List.map_congr_left
    intro l hl
    rw [tmul_opp hPl hr ri (hL l hl), tmul_imgR hc (by rw [hL l hl, hPl]) (by rw [hy, hPl]) (fun r q => by rw [hR r q, hPl]), hPl]
  rw [e1]
  unfold tmul
  rw [hx]
  unfold foldQ
  have hch : ∀ S ∈ chP P L R, S.length = y.length := fun S hS => by
    obtain ⟨l, _, rfl⟩ := List.mem_map.mp hS
    rw [List.length_map, hRl, hy]
  have e2 : pairsQ (chP P L R) x y = (x.zip (L.map fun l => y.zip (R.map fun r => tmul P l r))).flatMap fun p => p.2.map fun q => (p.1 * q.1, q.2) := by
    unfold pairsQ
    rw [pairs_go x _ hch]
    unfold chP
    rw [List.zip_map_right, List.zip_map_right, List.flatMap_map, List.flatMap_map]
    rfl
  rw [e2, fold_flat (n := n) _ _ List.length_replicate fun p hp q hq => ?_]
  · rw [List.zip_map_right, List.zip_map_right, List.map_map]
    rfl
  · have m := (List.of_mem_zip (a := p.1) (b := p.2) hp).2
    obtain ⟨l, hl, e⟩ := List.mem_map.mp m
    rw [← e] at hq
    have m2 := (List.of_mem_zip (a := q.1) (b := q.2) hq).2
    obtain ⟨r, _, e2⟩ := List.mem_map.mp m2
    rw [← e2, tmul_lenT hc (by rw [hL l hl, hPl]), hPl]
end
section
-- needs tlin
theorem mem_flatP {P : List (List (List Rat))} {a : Rat} (h : a ∈ flatP P) : ∃ R ∈ P, ∃ x ∈ R, a ∈ x := by
  rw [flatP_eq] at h
  obtain ⟨x, hx, ha⟩ := List.mem_flatten.mp h
  obtain ⟨R, hR, hx⟩ := List.mem_flatten.mp hx
  exact ⟨R, hR, x, hx, ha⟩
theorem flatP_mem {P : List (List (List Rat))} {a : Rat} {x : List Rat} {R : List (List Rat)} (hR : R ∈ P) (hx : x ∈ R) (ha : a ∈ x) : a ∈ flatP P := by
  rw [flatP_eq]
  exact List.mem_flatten.mpr ⟨x, List.mem_flatten.mpr ⟨R, hR, hx⟩, ha⟩
theorem okT_gen {P : List (List (List Rat))} {D b m : Nat} (hc : okCube P) (h6 : P.length ≤ 6) (hb : ∀ R ∈ P, ∀ x ∈ R, ∀ a ∈ x, a.num.natAbs < 2 ^ 1000000 ∧ a.den ∣ D) (h0 : 0 < D) (hD : D < 2 ^ m) (hm : m ≤ 9000) : okT P ∧ lcmL (prs (flatP P)) ∣ D := by
  have dv : lcmL (prs (flatP P)) ∣ D := DV.lcm fun a ha => by
    obtain ⟨R, hR, x, hx, ha⟩ := mem_flatP ha
    exact (hb R hR x hx a ha).2
  have l : (flatP P).length ≤ 216 := by
    rw [flat_cube hc.2.2]
    exact Nat.mul_le_mul h6 (Nat.mul_le_mul h6 h6)
  refine ⟨⟨hc, fun q hq => ?_, ?_, by rw [List.length_map]; omega⟩, dv⟩
  · obtain ⟨r, hr, rfl⟩ := List.mem_map.mp hq
    obtain ⟨R, hR, x, hx, ha⟩ := mem_flatP hr
    have := rat_den_pos r
    exact ⟨by show 1 ≤ (r.den : Int); omega, (hb R hR x hx r ha).1⟩
  · exact Nat.lt_of_le_of_lt (Nat.le_of_dvd h0 dv) (Nat.lt_of_lt_of_le hD (Nat.pow_le_pow_right (by decide) hm))
theorem prs_pos (l : List Rat) : 0 < lcmL (prs l) := lcmL_pos fun q hq => by
  obtain ⟨r, _, rfl⟩ := List.mem_map.mp hq
  have := rat_den_pos r
  show 1 ≤ (r.den : Int)
  omega
/-- the sums of two tables -/
theorem mixQ_ok {n b : Nat} {P Q : List (List (List Rat))} {c : Rat} (hP : okLP n P) (hQ : okLP n Q) : (mixQ P c Q).length = n ∧ ∀ S ∈ mixQ P c Q, S.length = n ∧ ∀ x ∈ S, x.length = n ∧ ∀ a ∈ x, ∃ p q : Rat, (∃ R ∈ P, ∃ y ∈ R, p ∈ y) ∧ (∃ R ∈ Q, ∃ y ∈ R, q ∈ y) ∧ a = p + c * q := by
  refine ⟨by unfold mixQ; rw [List.length_map, List.length_zip, hP.1, hQ.1, Nat.min_self], fun S hS => ?_⟩
  obtain ⟨p, hp, rfl⟩ := List.mem_map.mp hS
  have m := List.of_mem_zip (a := p.1) (b := p.2) hp
  have l1 := hP.2 _ m.1
  have l2 := hQ.2 _ m.2
  refine ⟨by rw [List.length_map, List.length_zip, l1.1, l2.1, Nat.min_self], fun x hx => ?_⟩
  obtain ⟨q, hq, rfl⟩ := List.mem_map.mp hx
  have m2 := List.of_mem_zip (a := q.1) (b := q.2) hq
  have k1 := l1.2 _ m2.1
  have k2 := l2.2 _ m2.2
  refine ⟨by unfold plusQ addRow; rw [List.length_zipWith, List.length_map, k1.1, k2.1, Nat.min_self], fun a ha => ?_⟩
  unfold plusQ addRow at ha
  rw [← List.map_uncurry_zip_eq_zipWith] at ha
  obtain ⟨z, hz, rfl⟩ := List.mem_map.mp ha
  have m3 := List.of_mem_zip (a := z.1) (b := z.2) (by simpa using hz)
  obtain ⟨w, hw, e⟩ := List.mem_map.mp m3.2
  exact ⟨z.1, w, ⟨_, m.1, _, m2.1, m3.1⟩, ⟨_, m.2, _, m2.2, hw⟩, by show z.1 + z.2 = _; rw [← e]⟩
theorem mixQ_cube {n : Nat} {P Q : List (List (List Rat))} {c : Rat} (hP : okLP n P) (hQ : okLP n Q) (h1 : 1 ≤ n) (h6 : n ≤ 6) : okCube (mixQ P c Q) := by
  obtain ⟨a, b⟩ := mixQ_ok (b := 0) (c := c) hP hQ
  refine ⟨by omega, by omega, fun r hr => ?_⟩
  rw [a]
  exact ⟨(b r hr).1, fun x hx => ((b r hr).2 x hx).1⟩
theorem mixQ_T {n : Nat} {P Q : List (List (List Rat))} {c : Rat} (hP : okLP n P) (hQ : okLP n Q) (h1 : 1 ≤ n) (h6 : n ≤ 6) (hc : RB 14 c) : okT (mixQ P c Q) := by
  obtain ⟨a, b⟩ := mixQ_ok (b := 0) (c := c) hP hQ
  obtain ⟨_, bP⟩ := okT_of hP h1 h6
  obtain ⟨_, bQ⟩ := okT_of hQ h1 h6
  have c0 := rat_den_pos c
  have pP := prs_pos (flatP P)
  have pQ := prs_pos (flatP Q)
  refine (okT_gen (D := lcmL (prs (flatP P)) * (c.den * lcmL (prs (flatP Q)))) (b := 0) (m := 3025 + (14 + 3025)) (mixQ_cube hP hQ h1 h6) (by omega) (fun R hR x hx a ha => ?_) (Nat.mul_pos pP (Nat.mul_pos c0 pQ)) (pow_mul_lt bP (pow_mul_lt hc.2 bQ)) (by decide)).1
  obtain ⟨p, q, ⟨R1, hR1, y1, hy1, hp⟩, ⟨R2, hR2, y2, hy2, hq⟩, rfl⟩ := ((b R hR).2 x hx).2 a ha
  have rp := ((hP.2 R1 hR1).2 y1 hy1).2 p hp
  have rq := ((hQ.2 R2 hR2).2 y2 hy2).2 q hq
  refine ⟨((rp.add (hc.mul rq)).mono (by decide)).1, den_add (Nat.mul_pos pP (Nat.mul_pos c0 pQ)) ?_ ?_⟩
  · exact Nat.dvd_trans (DV.of_lcm _ p (flatP_mem hR1 hy1 hp)) (Nat.dvd_mul_right _ _)
  · exact Nat.dvd_trans (den_mul (Nat.dvd_refl _) (DV.of_lcm _ q (flatP_mem hR2 hy2 hq))) (Nat.dvd_mul_left _ _)
end
section
set_option hygiene false
local macro_rules | `(tactic| wtm_at "p_var") => `(tactic| first
  | ((with_reducible show EX _ _ _ _ (Expr.Name "_law_pool_here" _) _ _); first | exact ex_var (i := 0) rfl (by wtm_at "p_vis") rfl | exact isNew.lst (ex_var (i := 0) rfl (by wtm_at "p_vis") rfl))
  | ((with_reducible show EX _ _ _ _ (Expr.Name "_law_sizes" _) _ _); first | exact ex_var (i := 1) rfl (by wtm_at "p_vis") rfl | exact isNew.lst (ex_var (i := 1) rfl (by wtm_at "p_vis") rfl))
  | ((with_reducible show EX _ _ _ _ (Expr.Name "_law_lots" _) _ _); first | exact ex_var (i := 2) rfl (by wtm_at "p_vis") rfl | exact isNew.lst (ex_var (i := 2) rfl (by wtm_at "p_vis") rfl))
  | ((with_reducible show EX _ _ _ _ (Expr.Name "_law_made" _) _ _); first | exact ex_var (i := 3) rfl (by wtm_at "p_vis") rfl | exact isNew.lst (ex_var (i := 3) rfl (by wtm_at "p_vis") rfl))
  | ((with_reducible show EX _ _ _ _ (Expr.Name "_law_first" _) _ _); first | exact ex_var (i := 4) rfl (by wtm_at "p_vis") rfl | exact isNew.lst (ex_var (i := 4) rfl (by wtm_at "p_vis") rfl))
  | ((with_reducible show EX _ _ _ _ (Expr.Name "_law_size" _) _ _); first | exact ex_var (i := 5) rfl (by wtm_at "p_vis") rfl | exact isNew.lst (ex_var (i := 5) rfl (by wtm_at "p_vis") rfl)))
-- needs _law_products
-- needs _law_copied
-- needs cubes2
-- needs Table_init
-- needs mixmath
-- import P25
abbrev isPr (K : PySem.W.Frag) (C : Addr) (q : List (List (List Rat)) × List (List (List Rat))) : Asr := isLst K [isCb K q.1, isCb K q.2, isTab K C q.1, isTab K C q.2]
abbrev sp__law_pair (K : PySem.W.Frag) (C : Addr) : Sp := spD (ι := Nat × Nat) 4001 (fun q => [isLst K [aInt (q.1 : Int), aInt (q.2 : Int)]]) (fun q => (1 ≤ q.1 ∧ q.1 ≤ 6) ∧ 1 ≤ q.2 ∧ q.2 ≤ 6) (fun q => exA (fun p : List (List (List Rat)) × List (List (List Rat)) => okLP q.1 p.1 ∧ okLP q.2 p.2) (isPr K C))
theorem has__law_pair {C : Addr} (B : Bl K mg) (T : TabAt K mg C) (D : DefAt K mg "_law_pair" S__law_pair) (C_law_pick : Has Pr w K mg base "_law_pick" ["_law_pool_here", "_law_many"] (sp__law_pick K) 1) (C_law_products : Has Pr w K mg base "_law_products" ["_law_pool_here", "_law_size", "_law_great"] (sp__law_products K) 3)
    (C_law_copied : ∀ n : Nat, Has Pr w K mg base "_law_copied" ["_law_thing"] (sp__law_copied K n) (n + 1)) (CTable_init : HasI Pr w K mg base C "Table" ["self", "products"] (spI C (fun P : List (List (List Rat)) => [isCb K P]) okT (flT K)) 5) : Has Pr w K mg base "_law_pair" ["_law_pool_here", "_law_sizes"] (sp__law_pair K C) 7 := by
  obtain ⟨f, fd, F, hm⟩ := D.ex
  refine ⟨f, fd, ⟨_, F⟩, fn_draw F sc__law_pair (fun _ => rfl) fun cdv A outer s H E U ap ag n0 q Q hr ho hn hR => ?_, hm, F.kp, F.binds fun _ _ _ _ _ _ us hl => match us, hl with | [_, _], _ => rfl⟩
  obtain ⟨n, m⟩ := q
  obtain ⟨⟨h1, h6⟩, h2, h7⟩ := ho
  change 1 ≤ n at h1
  change n ≤ 6 at h6
  change 1 ≤ m at h2
  change m ≤ 6 at h7
  change Ret _ _ (exA (fun p : List (List (List Rat)) × List (List (List Rat)) => okLP n p.1 ∧ okLP m p.2) (isPr K C)) _ at hR
  show SX _ _ _ [some (isV (.ref ap)), some (isLst K [aInt (n : Int), aInt (m : Int)]), none, none, none, none] _ _
  refine sx_setLc (i := 2) (J := ivD U ap ag H (n0 + 2 * 2000)) (As := (List.range 2).map fun k => exA (okLP (if k = 0 then n else m)) (isCb K)) rfl sc__law_pair.nd rfl rfl (by wtm_at "p_lt") ?_ ?_ (sw_true rfl rfl rfl (by decide +kernel))
  · refine lx_DK (l := [n, m]) (fA := fun i => aInt ((i : Nat) : Int)) (fun k => exA (okLP (if k = 0 then n else m)) (isCb K)) 5 2000 n0 (ivD U ap ag H) (ix_list' (by show EX _ _ _ _ _ (isLst K [aInt (n : Int), aInt (m : Int)]) _; wtm_at "p_var")) (show blkC n__law_pair (defScope S__law_pair) _ _ = true from by decide +kernel) (by show 2 ≤ 100000; decide) rfl (fun _ _ _ _ _ => pg_name (i := 5) sc__law_pair.nd rfl (.inl rfl)) fun D s H' C' cl fp k a e hk => ?_
    have hk2 : k < 2 := hk
    have e5 : n0 + (k + 1) * 2000 = n0 + k * 2000 + 2000 := by omega
    rw [e5]
    show EX _ _ _ [some (isV (.ref ap)), some (isLst K [aInt (n : Int), aInt (m : Int)]), none, none, none, some (aInt ((a : Nat) : Int))] _ _ _
    have ea : a = if k = 0 then n else m := by
      rcases Nat.eq_zero_or_pos k with z | z
      · subst z; rw [if_pos rfl]; exact (Option.some.inj e).symm
      · have : k = 1 := by omega
        subst this; rw [if_neg (by decide)]; exact (Option.some.inj e).symm
    have ha : 1 ≤ a ∧ a ≤ 6 := by rw [ea]; split <;> omega
    rw [← ea]
    exact ex_drawX (G := (gD U ap ag H).lk D) (As := [aInt (a : Int), isBl (decide ((a : Int) = 1))]) (Iz := ivD U ap ag H) C_law_products (hr.mono (by decide)) drw_gD (by wtm_at "p_var") (by wtm_at "p_ax") (by omega) fun F vs h => ⟨(a, decide ((a : Int) = 1)), ha, h, fun _ _ h => h⟩
  refine sx_opn 2 rfl (fun F v h => twoX (K := K) (P1 := okLP n) (P2 := okLP m) (f := isCb K) F v h) fun q hq => ?_
  obtain ⟨P, P2⟩ := q
  obtain ⟨hP, hQ⟩ := hq
  change okLP n P at hP
  change okLP m P2 at hQ
  have hN1 : n0 + 2 * 2000 + 1 ≤ 2 ^ 60 := by omega
  have hN2 : n0 + 2 * 2000 + 1 ≤ n0 + 4001 := by omega
  generalize hN : n0 + 2 * 2000 = N at hN1 hN2
  have eC : ∀ {S : List (List (List Rat))}, isD K (dCube S) = isCb K S := isD_cube
  have cP := okLP_cube hP h1 h6
  have cQ := okLP_cube hQ h2 h7
  have out := hR.post (J := ivD U ap ag H (N + 1)) (ivD_more (by omega))
  show SX _ _ _ [some (isV (.ref ap)), some (isLst K [aInt (n : Int), aInt (m : Int)]), some (isC2 K P P2), none, none, none] _ _
  refine sx_ifR (J := ivD U ap ag H (N + 1)) (P := fun c => c = true → n = m) ?_ (fun p => ?_) fun _ => ?_
  · refine WX.tx (wx_andP (J := ivD U ap ag H N) (P' := fun _ => True) (P := (· = decide ((n : Int) = (m : Int)))) (tx_eqI (J := ivD U ap ag H N) (ex_p0 (I := ivD U ap ag H N) (by wtm_at "p_var")) (ex_p1 (I := ivD U ap ag H N) (by wtm_at "p_var"))) (fun _ z => by cases z) (fun z => wx_and1 (TX.imp (tx_drEq (J := ivD U ap ag H (N + 1)) (ex_pickK (m := 2) C_law_pick (hr.mono (by decide)) drw_gD (by wtm_at "p_var") ex_int (by decide) (by decide) (by omega)) (EX.dr ex_int)) fun _ _ _ => by have := of_decide_eq_true z.symm; omega)) (ivD_more (by omega)))
  · have hnm := p rfl
    subst hnm
    refine sx_set (i := 3) (J := ivD U ap ag H (N + 1)) (A := isTab K C P) sc__law_pair.nd rfl (.inl rfl) (by wtm_at "p_lt") ?_ ?_
    · refine ex_makeI (J := ivD U ap ag H (N + 1)) CTable_init (hr.mono (by decide)) P (ax_cons (J := ivD U ap ag H (N + 1)) ?_ ax_nil) (okT_of hP h1 h6).1
      exact ex_callH (J := ivD U ap ag H (N + 1)) (C_law_copied 4) (hr.mono (by decide)) (dCube P) (ax_cons (J := ivD U ap ag H (N + 1)) (by rw [eC]; exact ex_p0 (I := ivD U ap ag H (N + 1)) (by wtm_at "p_var")) ax_nil) (okD_cb cP) eC
    show SX _ _ _ [some (isV (.ref ap)), some (isLst K [aInt (n : Int), aInt (n : Int)]), some (isC2 K P P2), some (isTab K C P), none, none] _ _
    refine sx_ret (J := ivD U ap ag H (N + 1)) (A := exA (fun p : List (List (List Rat)) × List (List (List Rat)) => okLP n p.1 ∧ okLP n p.2) (isPr K C)) (EX.ex (P, P) (ex_lst (ax_cons (J := ivD U ap ag H (N + 1)) ?_ (ax_cons (J := ivD U ap ag H (N + 1)) ?_ (by wtm_at "p_ax"))) (by wtm_at "p_lt")) ⟨hP, hP⟩) out
    · exact ex_p0 (I := ivD U ap ag H (N + 1)) (by wtm_at "p_var")
    · exact ex_p0 (I := ivD U ap ag H (N + 1)) (by wtm_at "p_var")
  refine sx_set (i := 4) (J := ivD U ap ag H (N + 1)) (A := isTab K C P) sc__law_pair.nd rfl (.inl rfl) (by wtm_at "p_lt") ?_ ?_
  · refine ex_makeI (J := ivD U ap ag H (N + 1)) CTable_init (hr.mono (by decide)) P (ax_cons (J := ivD U ap ag H (N + 1)) ?_ ax_nil) (okT_of hP h1 h6).1
    exact ex_callH (J := ivD U ap ag H (N + 1)) (C_law_copied 4) (hr.mono (by decide)) (dCube P) (ax_cons (J := ivD U ap ag H (N + 1)) (by rw [eC]; exact ex_p0 (I := ivD U ap ag H (N + 1)) (by wtm_at "p_var")) ax_nil) (okD_cb cP) eC
  show SX _ _ _ [some (isV (.ref ap)), some (isLst K [aInt (n : Int), aInt (m : Int)]), some (isC2 K P P2), none, some (isTab K C P), none] _ _
  refine sx_ret (J := ivD U ap ag H (N + 1)) (A := exA (fun p : List (List (List Rat)) × List (List (List Rat)) => okLP n p.1 ∧ okLP m p.2) (isPr K C)) (EX.ex (P, P2) (ex_lst (ax_cons (J := ivD U ap ag H (N + 1)) ?_ (ax_cons (J := ivD U ap ag H (N + 1)) ?_ (ax_cons (J := ivD U ap ag H (N + 1)) (by wtm_at "p_var") (ax_cons (J := ivD U ap ag H (N + 1)) ?_ ax_nil)))) (by wtm_at "p_lt")) ⟨hP, hQ⟩) out
  · exact ex_p0 (I := ivD U ap ag H (N + 1)) (by wtm_at "p_var")
  · exact ex_p1 (I := ivD U ap ag H (N + 1)) (by wtm_at "p_var")
  · refine ex_makeI (J := ivD U ap ag H (N + 1)) CTable_init (hr.mono (by decide)) P2 (ax_cons (J := ivD U ap ag H (N + 1)) ?_ ax_nil) (okT_of hQ h2 h7).1
    exact ex_callH (J := ivD U ap ag H (N + 1)) (C_law_copied 4) (hr.mono (by decide)) (dCube P2) (ax_cons (J := ivD U ap ag H (N + 1)) (by rw [eC]; exact ex_p1 (I := ivD U ap ag H (N + 1)) (by wtm_at "p_var")) ax_nil) (okD_cb cQ) eC
end
section
-- needs mixmath
-- import M9
theorem okLP_C {n : Nat} {P : List (List (List Rat))} (h : okLP n P) : okC n P := ⟨h.1, fun R hR => ⟨(h.2 R hR).1, fun x hx => ((h.2 R hR).2 x hx).1⟩⟩
theorem okC_cube {n : Nat} {P : List (List (List Rat))} (h : okC n P) (h1 : 1 ≤ n) (h6 : n ≤ 6) : okCube P := ⟨by rw [h.1]; exact h1, by rw [h.1]; omega, fun r hr => by rw [h.1]; exact h.2 r hr⟩
theorem besP_LP {n m : Nat} {A B : List (List (List Rat))} (hA : okLP n A) (hB : okLP m B) : okLP (n + m) (besP A B) := by
  obtain ⟨l, hc⟩ := besP_C (okLP_C hA) (okLP_C hB)
  refine ⟨l, fun R hR => ⟨(hc R hR).1, fun x hx => ⟨(hc R hR).2 x hx, fun a ha => ?_⟩⟩⟩
  have z : ∀ k, ∀ b ∈ zr k, RB 14 b := fun k b hb => by rw [(List.mem_replicate.mp hb).2]; exact RB.zero.mono (by decide)
  have z2 : ∀ i j, ∀ b ∈ zr i ++ zr j, RB 14 b := fun i j b hb => by
    rcases List.mem_append.mp hb with h | h
    · exact z _ b h
    · exact z _ b h
  unfold besP at hR
  rcases List.mem_append.mp hR with h | h
  · obtain ⟨S, hS, rfl⟩ := List.mem_map.mp h
    rcases List.mem_append.mp hx with h | h
    · obtain ⟨t, ht, rfl⟩ := List.mem_map.mp h
      rcases List.mem_append.mp ha with h | h
      · exact ((hA.2 S hS).2 t ht).2 a h
      · exact z _ a h
    · rw [(List.mem_replicate.mp h).2] at ha
      exact z2 _ _ a ha
  · obtain ⟨S, hS, rfl⟩ := List.mem_map.mp h
    rcases List.mem_append.mp hx with h | h
    · rw [(List.mem_replicate.mp h).2] at ha
      exact z2 _ _ a ha
    · obtain ⟨t, ht, rfl⟩ := List.mem_map.mp h
      rcases List.mem_append.mp ha with h | h
      · exact z _ a h
      · exact ((hB.2 S hS).2 t ht).2 a h
theorem cro_RB {b c : Nat} {l r : List Rat} (hl : ∀ a ∈ l, RB b a) (hr : ∀ a ∈ r, RB c a) : ∀ a ∈ cro l r, RB (b + c) a := fun a ha => by
  obtain ⟨x, hx, h⟩ := List.mem_flatMap.mp ha
  obtain ⟨y, hy, rfl⟩ := List.mem_map.mp h
  exact (hl x hx).mul (hr y hy)
theorem croP_RB {n m : Nat} {A B : List (List (List Rat))} (hA : okLP n A) (hB : okLP m B) : ∀ R ∈ croP A B, ∀ x ∈ R, ∀ a ∈ x, RB 28 a := fun R hR x hx a ha => by
  unfold croP at hR
  obtain ⟨L, hL, h⟩ := List.mem_flatMap.mp hR
  obtain ⟨O, hO, rfl⟩ := List.mem_map.mp h
  obtain ⟨l, hl, h⟩ := List.mem_flatMap.mp hx
  obtain ⟨o, ho, rfl⟩ := List.mem_map.mp h
  exact cro_RB ((hA.2 L hL).2 l hl).2 ((hB.2 O hO).2 o ho).2 a ha
theorem croP_T {n m : Nat} {A B : List (List (List Rat))} (hA : okLP n A) (hB : okLP m B) (h1 : 1 ≤ n * m) (h6 : n * m ≤ 6) : okT (croP A B) ∧ lcmL (prs (flatP (croP A B))) < 2 ^ 6049 := by
  have hC := croP_C (okLP_C hA) (okLP_C hB)
  have hcu := okC_cube hC h1 h6
  have l : (flatP (croP A B)).length ≤ 216 := by
    rw [flat_cube hcu.2.2, hC.1]
    exact Nat.mul_le_mul h6 (Nat.mul_le_mul h6 h6)
  obtain ⟨a, b⟩ := okW_prs (b := 28) (m := 6049) (flatP_RB (n := 0) (croP_RB hA hB)) (by decide) (by omega) (by decide) (by omega)
  exact ⟨⟨hcu, a⟩, b⟩
theorem croP_PO {n m : Nat} {A B : List (List (List Rat))} {x y : List Rat} (hA : okLP n A) (hB : okLP m B) (h1 : 1 ≤ n * m) (h6 : n * m ≤ 6) (hx : x.length = n * m) (hy : y.length = n * m) (bx : ∀ a ∈ x, RB 30 a) (b_y : ∀ a ∈ y, RB 30 a) : isPO (croP A B) (x, y) := by
  obtain ⟨⟨c, a⟩, b⟩ := croP_T hA hB h1 h6
  have hC := croP_C (okLP_C hA) (okLP_C hB)
  obtain ⟨ax, cx⟩ := okW_prs (b := 30) (m := 200) bx (by decide) (by omega) (by decide) (by omega)
  obtain ⟨ay, cy⟩ := okW_prs (b := 30) (m := 200) b_y (by decide) (by omega) (by decide) (by omega)
  refine ⟨c, a, by rw [hC.1]; exact hx, by rw [hC.1]; exact hy, ax, ay, ?_⟩
  exact Nat.lt_of_lt_of_le (pow_mul_lt (pow_mul_lt cx cy) b) (Nat.pow_le_pow_right (by decide) (by decide))
end
section
set_option hygiene false
local macro_rules | `(tactic| wtm_at "p_var") => `(tactic| first
  | ((with_reducible show EX _ _ _ _ (Expr.Name "one" _) _ _); first | exact ex_var (i := 0) rfl (by wtm_at "p_vis") rfl | exact isNew.lst (ex_var (i := 0) rfl (by wtm_at "p_vis") rfl))
  | ((with_reducible show EX _ _ _ _ (Expr.Name "other" _) _ _); first | exact ex_var (i := 1) rfl (by wtm_at "p_vis") rfl | exact isNew.lst (ex_var (i := 1) rfl (by wtm_at "p_vis") rfl))
  | ((with_reducible show EX _ _ _ _ (Expr.Name "ahead" _) _ _); first | exact ex_var (i := 2) rfl (by wtm_at "p_vis") rfl | exact isNew.lst (ex_var (i := 2) rfl (by wtm_at "p_vis") rfl))
  | ((with_reducible show EX _ _ _ _ (Expr.Name "behind" _) _ _); first | exact ex_var (i := 3) rfl (by wtm_at "p_vis") rfl | exact isNew.lst (ex_var (i := 3) rfl (by wtm_at "p_vis") rfl))
  | ((with_reducible show EX _ _ _ _ (Expr.Name "ends" _) _ _); first | exact ex_var (i := 4) rfl (by wtm_at "p_vis") rfl | exact isNew.lst (ex_var (i := 4) rfl (by wtm_at "p_vis") rfl))
  | ((with_reducible show EX _ _ _ _ (Expr.Name "firsts" _) _ _); first | exact ex_var (i := 5) rfl (by wtm_at "p_vis") rfl | exact isNew.lst (ex_var (i := 5) rfl (by wtm_at "p_vis") rfl))
  | ((with_reducible show EX _ _ _ _ (Expr.Name "lasts" _) _ _); first | exact ex_var (i := 6) rfl (by wtm_at "p_vis") rfl | exact isNew.lst (ex_var (i := 6) rfl (by wtm_at "p_vis") rfl))
  | ((with_reducible show EX _ _ _ _ (Expr.Name "row" _) _ _); first | exact ex_var (i := 7) rfl (by wtm_at "p_vis") rfl | exact isNew.lst (ex_var (i := 7) rfl (by wtm_at "p_vis") rfl))
  | ((with_reducible show EX _ _ _ _ (Expr.Name "_" _) _ _); first | exact ex_var (i := 8) rfl (by wtm_at "p_vis") rfl | exact isNew.lst (ex_var (i := 8) rfl (by wtm_at "p_vis") rfl))
  | ((with_reducible show EX _ _ _ _ (Expr.Name "rows" _) _ _); first | exact ex_var (i := 9) rfl (by wtm_at "p_vis") rfl | exact isNew.lst (ex_var (i := 9) rfl (by wtm_at "p_vis") rfl)))
-- needs okc
-- needs Table_products
-- needs Table_size
abbrev okBs (q : List (List (List Rat)) × List (List (List Rat))) : Prop := ∃ n m, 1 ≤ n ∧ 1 ≤ m ∧ n + m ≤ 6 ∧ okLP n q.1 ∧ okLP m q.2
abbrev sp_beside (K : PySem.W.Frag) (C : Addr) : Sp := spF (ι := List (List (List Rat)) × List (List (List Rat))) (fun q => [isTab K C q.1, isTab K C q.2]) okBs (fun q => isTab K C (besP q.1 q.2))
theorem zr_rep {K : PySem.W.Frag} (n : Nat) : (zr n).map (isR K) = (List.replicate n [isR K 0]).flatten := by rw [flat_rep, List.map_replicate]
theorem has_beside {C : Addr} (B : Bl K mg) (T : TabAt K mg C) (D : DefAt K mg "beside" S_beside) (CTable_init : HasI Pr w K mg base C "Table" ["self", "products"] (spI C (fun P : List (List (List Rat)) => [isCb K P]) okT (flT K)) 5)
    (CTable_size : HasP Pr w K mg base C "size" ["self"] (spF (fun P : List (List (List Rat)) => [isTab K C P]) (fun _ => True) (fun P => aInt (P.length : Int))) 1) (CTable_products : HasP Pr w K mg base C "products" ["self"] (spF (fun P : List (List (List Rat)) => [isTab K C P]) okCube (fun P => isCb K P)) 2) : Has Pr w K mg base "beside" ["one", "other"] (sp_beside K C) 7 := by
  obtain ⟨f, fd, F, hm⟩ := D.ex
  refine ⟨f, fd, ⟨_, F⟩, fn_pure F sc_beside (fun _ => rfl) fun cdv A outer s H E U q Q hr ho hR => ?_, hm, F.kp, F.binds fun _ _ _ _ _ _ us hl => match us, hl with | [_, _], _ => rfl⟩
  obtain ⟨P, P2⟩ := q
  obtain ⟨n, m, h1, h2, h6, hP, hQ⟩ := ho
  change okLP n P at hP
  change okLP m P2 at hQ
  change Ret _ _ (isTab K C (besP P P2)) _ at hR
  have cP := okLP_cube hP h1 (by omega)
  have cQ := okLP_cube hQ h2 (by omega)
  have hPl := hP.1
  have hQl := hQ.1
  have okB := okT_of (besP_LP hP hQ) (by omega) h6
  unfold besP at hR okB
  rw [hPl, hQl] at hR okB
  have zl : ∀ k, ((zr k).map (isR K)).length = k := fun k => by rw [List.length_map, List.length_replicate]
  have zap : (zr n ++ zr m).map (isR K) = (zr n).map (isR K) ++ (zr m).map (isR K) := List.map_append
  show SX _ _ _ [some (isTab K C P), some (isTab K C P2), none, none, none, none, none, none, none, none] _ _
  refine sx_tup2 (i := 2) (j := 3) (J := ivT _) (A := isRow K (zr n)) (B := isRow K (zr m)) rfl sc_beside.nd rfl rfl (.inr rfl) (.inr rfl) (by wtm_at "p_lt") (by wtm_at "p_lt") (pg_tup rfl (pgs_cons (pg_name (i := 2) sc_beside.nd rfl (.inr rfl)) (pgs_cons (pg_name (i := 3) sc_beside.nd rfl (.inr rfl)) pgs_nil))) (ex_tup (ax_cons (J := ivT _) ?_ (ax_cons (J := ivT _) ?_ ax_nil)) (by wtm_at "p_lt")) ?_
  · refine isNew.lst ?_
    rw [zr_rep]
    exact ex_rep (J := ivT _) (ex_lstN (by wtm_at "p_ax") (by wtm_at "p_lt")) (ex_propI CTable_size T.cls (hr.mono (by decide)) P (by wtm_at "p_var") True.intro (by show aInt (P.length : Int) = _; rw [hPl])) (by show 1 * n ≤ _; omega) (by omega)
  · refine isNew.lst ?_
    rw [zr_rep]
    exact ex_rep (J := ivT _) (ex_lstN (by wtm_at "p_ax") (by wtm_at "p_lt")) (ex_propI CTable_size T.cls (hr.mono (by decide)) P2 (by wtm_at "p_var") True.intro (by show aInt (P2.length : Int) = _; rw [hQl])) (by show 1 * m ≤ _; omega) (by omega)
  show SX _ _ _ [some (isTab K C P), some (isTab K C P2), some (isRow K (zr n)), some (isRow K (zr m)), none, none, none, none, none, none] _ _
  refine sx_set (i := 4) (J := ivT _) (A := isRow K (zr n ++ zr m)) sc_beside.nd rfl (.inr rfl) (by wtm_at "p_lt") (isNew.lst ?_) ?_
  · rw [zap]
    exact ex_catL (J := ivT _) (by wtm_at "p_var") (by wtm_at "p_var") (by rw [zl, zl]; omega)
  show SX _ _ _ [some (isTab K C P), some (isTab K C P2), some (isRow K (zr n)), some (isRow K (zr m)), some (isRow K (zr n ++ zr m)), none, none, none, none, none] _ _
  refine sx_setLc (i := 5) (J := ivT _) (As := P.map fun R => isLst K ((R.map fun r => isRow K (r ++ zr m)) ++ (zr m).map fun _ => isRow K (zr n ++ zr m))) rfl sc_beside.nd rfl rfl (by wtm_at "p_lt") ?_ ?_ (sw_true rfl rfl rfl (by decide +kernel))
  · refine lx_N (J := ivT _) (fA := isRows K) 9 (ix_list' (ex_propI CTable_products T.cls (hr.mono (by decide)) P (by wtm_at "p_var") cP)) sc_beside.nd rfl (show blkC n_beside (defScope S_beside) _ _ = true from by decide +kernel) (by omega) rfl (.inl rfl) (fun _ _ _ _ _ => pg_name (i := 9) sc_beside.nd rfl (.inl rfl)) fun D s H' C' cl fp R hRR => ?_
    have rr := hP.2 R hRR
    show EX _ _ _ [some (isTab K C P), some (isTab K C P2), some (isRow K (zr n)), some (isRow K (zr m)), some (isRow K (zr n ++ zr m)), none, none, none, none, some (isRows K R)] _ _ _
    refine isNew.lst (ex_catL (G := (gP U H).lk D) (J := ivT _) (isNew.lst (ex_lc rfl sc_beside.nd ?_)) (isNew.lst (ex_lc rfl sc_beside.nd ?_)) (by rw [List.length_map, List.length_map, List.length_replicate, rr.1]; omega))
    · refine lx_N (G := (gP U H).lk D) (J := ivT _) (fA := isRow K) 7 (ix_list' (by wtm_at "p_ex")) sc_beside.nd rfl (show blkC n_beside (relS _ (defScope S_beside)) _ _ = true from by decide +kernel) (by rw [rr.1]; omega) rfl (.inl rfl) (fun _ _ _ _ _ => pg_name (i := 7) sc_beside.nd rfl (.inl rfl)) fun D2 s H' C' cl fp r hrr => ?_
      show EX _ _ _ [some (isTab K C P), some (isTab K C P2), some (isRow K (zr n)), some (isRow K (zr m)), some (isRow K (zr n ++ zr m)), none, none, some (isRow K r), none, some (isRows K R)] _ (isLst K ((r ++ zr m).map (isR K))) _
      rw [List.map_append]
      exact isNew.lst (ex_catL (G := ((gP U H).lk D).lk D2) (J := ivT _) (by wtm_at "p_var") (by wtm_at "p_var") (by rw [zl, List.length_map, (rr.2 r hrr).1]; omega))
    · refine lx_N (G := (gP U H).lk D) (J := ivT _) (fA := isR K) 8 (ix_list' (by wtm_at "p_ex")) sc_beside.nd rfl (show blkC n_beside (relS _ (defScope S_beside)) _ _ = true from by decide +kernel) (by rw [List.length_replicate]; omega) rfl (.inl rfl) (fun _ _ _ _ _ => pg_name (i := 8) sc_beside.nd rfl (.inl rfl)) fun D2 s H' C' cl fp r hrr => ?_
      show EX _ _ _ [some (isTab K C P), some (isTab K C P2), some (isRow K (zr n)), some (isRow K (zr m)), some (isRow K (zr n ++ zr m)), none, none, none, some (isR K r), some (isRows K R)] _ _ _
      wtm_at "p_var"
  show SX _ _ _ [some (isTab K C P), some (isTab K C P2), some (isRow K (zr n)), some (isRow K (zr m)), some (isRow K (zr n ++ zr m)), some (isNew (P.map fun R => isLst K ((R.map fun r => isRow K (r ++ zr m)) ++ (zr m).map fun _ => isRow K (zr n ++ zr m)))), none, none, none, none] _ _
  refine sx_setLc (i := 6) (J := ivT _) (As := P2.map fun R => isLst K (((zr n).map fun _ => isRow K (zr n ++ zr m)) ++ R.map fun r => isRow K (zr n ++ r))) rfl sc_beside.nd rfl rfl (by wtm_at "p_lt") ?_ ?_ (sw_true rfl rfl rfl (by decide +kernel))
  · refine lx_N (J := ivT _) (fA := isRows K) 9 (ix_list' (ex_propI CTable_products T.cls (hr.mono (by decide)) P2 (by wtm_at "p_var") cQ)) sc_beside.nd rfl (show blkC n_beside (defScope S_beside) _ _ = true from by decide +kernel) (by omega) rfl (.inl rfl) (fun _ _ _ _ _ => pg_name (i := 9) sc_beside.nd rfl (.inl rfl)) fun D s H' C' cl fp R hRR => ?_
    have rr := hQ.2 R hRR
    show EX _ _ _ [some (isTab K C P), some (isTab K C P2), some (isRow K (zr n)), some (isRow K (zr m)), some (isRow K (zr n ++ zr m)), some (isNew _), none, none, none, some (isRows K R)] _ _ _
    refine isNew.lst (ex_catL (G := (gP U H).lk D) (J := ivT _) (isNew.lst (ex_lc rfl sc_beside.nd ?_)) (isNew.lst (ex_lc rfl sc_beside.nd ?_)) (by rw [List.length_map, List.length_map, List.length_replicate, rr.1]; omega))
    · refine lx_N (G := (gP U H).lk D) (J := ivT _) (fA := isR K) 8 (ix_list' (by wtm_at "p_ex")) sc_beside.nd rfl (show blkC n_beside (relS _ (defScope S_beside)) _ _ = true from by decide +kernel) (by rw [List.length_replicate]; omega) rfl (.inl rfl) (fun _ _ _ _ _ => pg_name (i := 8) sc_beside.nd rfl (.inl rfl)) fun D2 s H' C' cl fp r hrr => ?_
      show EX _ _ _ [some (isTab K C P), some (isTab K C P2), some (isRow K (zr n)), some (isRow K (zr m)), some (isRow K (zr n ++ zr m)), some (isNew _), none, none, some (isR K r), some (isRows K R)] _ _ _
      wtm_at "p_var"
    · refine lx_N (G := (gP U H).lk D) (J := ivT _) (fA := isRow K) 7 (ix_list' (by wtm_at "p_ex")) sc_beside.nd rfl (show blkC n_beside (relS _ (defScope S_beside)) _ _ = true from by decide +kernel) (by rw [rr.1]; omega) rfl (.inl rfl) (fun _ _ _ _ _ => pg_name (i := 7) sc_beside.nd rfl (.inl rfl)) fun D2 s H' C' cl fp r hrr => ?_
      show EX _ _ _ [some (isTab K C P), some (isTab K C P2), some (isRow K (zr n)), some (isRow K (zr m)), some (isRow K (zr n ++ zr m)), some (isNew _), none, some (isRow K r), none, some (isRows K R)] _ (isLst K ((zr n ++ r).map (isR K))) _
      rw [List.map_append]
      exact isNew.lst (ex_catL (G := ((gP U H).lk D).lk D2) (J := ivT _) (by wtm_at "p_var") (by wtm_at "p_var") (by rw [zl, List.length_map, (rr.2 r hrr).1]; omega))
  generalize hT1 : (P.map fun R => isLst K ((R.map fun r => isRow K (r ++ zr m)) ++ (zr m).map fun _ => isRow K (zr n ++ zr m))) = T1
  generalize hT2 : (P2.map fun R => isLst K (((zr n).map fun _ => isRow K (zr n ++ zr m)) ++ R.map fun r => isRow K (zr n ++ r))) = T2
  show SX _ _ _ [some (isTab K C P), some (isTab K C P2), some (isRow K (zr n)), some (isRow K (zr m)), some (isRow K (zr n ++ zr m)), some (isNew T1), some (isNew T2), none, none, none] _ _
  refine sx_ret (J := ivT _) (ex_makeI (J := ivT _) CTable_init (hr.mono (by decide)) _ (ax_cons (J := ivT _) (isNew.lst ?_) ax_nil) okB.1) hR
  have e : (((P.map fun R => (R.map fun r => r ++ zr m) ++ List.replicate m (zr n ++ zr m)) ++ (P2.map fun R => List.replicate n (zr n ++ zr m) ++ R.map fun r => zr n ++ r)).map (isRows K)) = T1 ++ T2 := by
    rw [← hT1, ← hT2, List.map_append, List.map_map, List.map_map]
    congr 1
    · apply List.map_congr_left
      intro R _
      show isLst K (((R.map fun r => r ++ zr m) ++ List.replicate m (zr n ++ zr m)).map (isRow K)) = _
      rw [List.map_append, List.map_map, List.map_replicate, List.map_replicate]
      rfl
    · apply List.map_congr_left
      intro R _
      show isLst K ((List.replicate n (zr n ++ zr m) ++ R.map fun r => zr n ++ r).map (isRow K)) = _
      rw [List.map_append, List.map_map, List.map_replicate, List.map_replicate]
      rfl
  rw [e]
  exact ex_catL (J := ivT _) (isNew.lst (by wtm_at "p_var")) (isNew.lst (by wtm_at "p_var")) (by rw [← hT1, ← hT2, List.length_map, List.length_map]; omega)
end
section
set_option hygiene false
local macro_rules | `(tactic| wtm_at "p_var") => `(tactic| first
  | ((with_reducible show EX _ _ _ _ (Expr.Name "_law_one" _) _ _); first | exact ex_var (i := 0) rfl (by wtm_at "p_vis") rfl | exact isNew.lst (ex_var (i := 0) rfl (by wtm_at "p_vis") rfl))
  | ((with_reducible show EX _ _ _ _ (Expr.Name "_law_other" _) _ _); first | exact ex_var (i := 1) rfl (by wtm_at "p_vis") rfl | exact isNew.lst (ex_var (i := 1) rfl (by wtm_at "p_vis") rfl))
  | ((with_reducible show EX _ _ _ _ (Expr.Name "_law_behind" _) _ _); first | exact ex_var (i := 2) rfl (by wtm_at "p_vis") rfl | exact isNew.lst (ex_var (i := 2) rfl (by wtm_at "p_vis") rfl))
  | ((with_reducible show EX _ _ _ _ (Expr.Name "_law_ahead" _) _ _); first | exact ex_var (i := 3) rfl (by wtm_at "p_vis") rfl | exact isNew.lst (ex_var (i := 3) rfl (by wtm_at "p_vis") rfl))
  | ((with_reducible show EX _ _ _ _ (Expr.Name "_law_found" _) _ _); first | exact ex_var (i := 4) rfl (by wtm_at "p_vis") rfl | exact isNew.lst (ex_var (i := 4) rfl (by wtm_at "p_vis") rfl))
  | ((with_reducible show EX _ _ _ _ (Expr.Name "_law_lines" _) _ _); first | exact ex_var (i := 5) rfl (by wtm_at "p_vis") rfl | exact isNew.lst (ex_var (i := 5) rfl (by wtm_at "p_vis") rfl))
  | ((with_reducible show EX _ _ _ _ (Expr.Name "_law_line" _) _ _); first | exact ex_var (i := 6) rfl (by wtm_at "p_vis") rfl | exact isNew.lst (ex_var (i := 6) rfl (by wtm_at "p_vis") rfl))
  | ((with_reducible show EX _ _ _ _ (Expr.Name "_law_k" _) _ _); first | exact ex_var (i := 7) rfl (by wtm_at "p_vis") rfl | exact isNew.lst (ex_var (i := 7) rfl (by wtm_at "p_vis") rfl)))
-- needs beside
-- import P25
abbrev sp__law_beside_due (K : PySem.W.Frag) : Sp := spF (ι := List (List (List Rat)) × List (List (List Rat))) (fun q => [isCb K q.1, isCb K q.2]) okBs (fun q => isCb K (besP q.1 q.2))
theorem zr_repT {K : PySem.W.Frag} (n : Nat) : (zr n).map (isR K) = (List.replicate n [isTup K [aInt 0, aInt 1]]).flatten := by rw [flat_rep, List.map_replicate]; rfl
theorem has__law_beside_due (B : Bl K mg) (D : DefAt K mg "_law_beside_due" S__law_beside_due) : Has Pr w K mg base "_law_beside_due" ["_law_one", "_law_other"] (sp__law_beside_due K) 1 := by
  obtain ⟨f, fd, F, hm⟩ := D.ex
  refine ⟨f, fd, ⟨_, F⟩, fn_pure F sc__law_beside_due (fun _ => rfl) fun cdv A outer s H E U q Q hr ho hR => ?_, hm, F.kp, F.binds fun _ _ _ _ _ _ us hl => match us, hl with | [_, _], _ => rfl⟩
  obtain ⟨P, P2⟩ := q
  obtain ⟨n, m, h1, h2, h6, hP, hQ⟩ := ho
  change okLP n P at hP
  change okLP m P2 at hQ
  change Ret _ _ (isCb K (besP P P2)) _ at hR
  have hPl := hP.1
  have hQl := hQ.1
  have zl : ∀ k, ((zr k).map (isR K)).length = k := fun k => by rw [List.length_map, List.length_replicate]
  have zap : isRow K (zr n ++ zr m) = isLst K ((zr n).map (isR K) ++ (zr m).map (isR K)) := by show isLst K _ = _; rw [List.map_append]
  have lm : ((P.map (isRows K)).length : Int) = (n : Int) := by rw [List.length_map, hPl]
  have lm2 : ((P2.map (isRows K)).length : Int) = (m : Int) := by rw [List.length_map, hQl]
  show SX _ _ _ [some (isCb K P), some (isCb K P2), none, none, none, none, none, none] _ _
  refine sx_tup2 (i := 2) (j := 3) (J := ivT _) (A := isRow K (zr m)) (B := isRow K (zr n)) rfl sc__law_beside_due.nd rfl rfl (.inr rfl) (.inr rfl) (by wtm_at "p_lt") (by wtm_at "p_lt") (pg_tup rfl (pgs_cons (pg_name (i := 2) sc__law_beside_due.nd rfl (.inr rfl)) (pgs_cons (pg_name (i := 3) sc__law_beside_due.nd rfl (.inr rfl)) pgs_nil))) (ex_tup (ax_cons (J := ivT _) ?_ (ax_cons (J := ivT _) ?_ ax_nil)) (by wtm_at "p_lt")) ?_
  · refine isNew.lst ?_
    rw [zr_repT]
    exact ex_rep (J := ivT _) (ex_lstN (by wtm_at "p_ax") (by wtm_at "p_lt")) (by rw [← lm2]; wtm_at "p_ex") (by show 1 * m ≤ _; omega) (by omega)
  · refine isNew.lst ?_
    rw [zr_repT]
    exact ex_rep (J := ivT _) (ex_lstN (by wtm_at "p_ax") (by wtm_at "p_lt")) (by rw [← lm]; wtm_at "p_ex") (by show 1 * n ≤ _; omega) (by omega)
  show SX _ _ _ [some (isCb K P), some (isCb K P2), some (isRow K (zr m)), some (isRow K (zr n)), none, none, none, none] _ _
  refine sx_own (i := 4) (J := ivT _) (As := []) sc__law_beside_due.nd rfl (.inl rfl) (by wtm_at "p_lt") (nx_lst ax_nil (by decide)) fun FA vs0 hF hUF hlen => ?_
  have e0 : vs0 = [] := by cases vs0 with
    | nil => rfl
    | cons _ _ => simp at hlen
  subst e0
  have hMF : ¬ (gP U H).M FA := fun h => hUF (.inl h)
  let T1 : List (List (List Rat)) := P.map fun R => (R.map fun r => r ++ zr m) ++ List.replicate m (zr n ++ zr m)
  let T2 : List (List (List Rat)) := P2.map fun R => List.replicate n (zr n ++ zr m) ++ R.map fun r => zr n ++ r
  have hb : besP P P2 = T1 ++ T2 := by show _ ++ _ = _ ++ _; rw [hPl, hQl]
  have lT1 : T1.length = n := by show (P.map _).length = n; rw [List.length_map, hPl]
  have lT2 : T2.length = m := by show (P2.map _).length = m; rw [List.length_map, hQl]
  show SX _ _ _ [some (isCb K P), some (isCb K P2), some (isRow K (zr m)), some (isRow K (zr n)), some (isOwn FA [] []), none, none, none] _ _
  refine sx_forNX (ι := List V) (G := (gP U H).own FA hF) (l := P) (fA := isRows K) 5 (fun k y => (ivT _).own FA y) (fun k y => [some (isCb K P), some (isCb K P2), some (isRow K (zr m)), some (isRow K (zr n)), some (isOwn FA y ((T1.take k).map (isRows K))), none, none, none]) (fun k y => True) [] PassesOwn.never rfl sc__law_beside_due.nd rfl (.inl rfl) (.inr rfl) (ix_list' (by wtm_at "p_var")) True.intro ?_ (fun _ _ => by wtm_at "p_lt") (fun H1 Γ1 σ1 k y R e mR hk py k1 => ?_) fun y py => ?_
  · exact ⟨fun _ _ h => h, fun _ _ h => h, fun _ _ h => h, fun _ _ h => h, fun _ _ h => h, True.intro⟩
  · have rr := hP.2 R mR
    have hkn : k < n := by rw [← hPl]; exact hk
    show SX _ _ _ [some (isCb K P), some (isCb K P2), some (isRow K (zr m)), some (isRow K (zr n)), some (isOwn FA y ((T1.take k).map (isRows K))), some (isRows K R), none, none] _ _
    have eT : (T1.take (k + 1)).map (isRows K) = (T1.take k).map (isRows K) ++ [isLst K ((R.map fun r => isRow K (r ++ zr m)) ++ (List.range m).map fun _ => isRow K (zr n ++ zr m))] := by
      have e1 : T1[k]? = some ((R.map fun r => r ++ zr m) ++ List.replicate m (zr n ++ zr m)) := by show (P.map _)[k]? = _; rw [List.getElem?_map, e]; rfl
      rw [take_succ_get e1, List.map_append]
      congr 1
      show [isLst K (((R.map fun r => r ++ zr m) ++ List.replicate m (zr n ++ zr m)).map (isRow K))] = _
      rw [List.map_append, List.map_map, List.map_replicate, List.map_const']
      rw [List.length_range]
      rfl
    rw [eT]
    refine sx_append (G := ((gP U H).own FA hF).re H1) (I := (ivT _).own FA y) (K := (ivT _).own FA y) (I' := fun us => (ivT _).own FA us) (A := isLst K ((R.map fun r => isRow K (r ++ zr m)) ++ (List.range m).map fun _ => isRow K (zr n ++ zr m))) 4 (by wtm_at "p_lt") (owns_top hMF) (by wtm_at "p_var") ?_ rfl (by rw [List.length_map, List.length_take]; omega) (owns_top hMF) fun v => sx_nil fun σ H k => ⟨y ++ [v], True.intro, k.low ⟨fun _ _ h => h, fun _ _ h => h, fun _ _ h => h, fun _ _ h => h, fun _ _ h => h, True.intro⟩⟩
    refine isNew.lst (ex_catL (G := ((gP U H).own FA hF).re H1) (J := (ivT _).own FA y) (isNew.lst (ex_lc rfl sc__law_beside_due.nd ?_)) (isNew.lst (ex_lc rfl sc__law_beside_due.nd ?_)) (by rw [List.length_map, List.length_map, List.length_range, rr.1]; omega))
    · refine lx_N (G := ((gP U H).own FA hF).re H1) (J := (ivT _).own FA y) (fA := isRow K) 6 (ix_list' (by wtm_at "p_ex")) sc__law_beside_due.nd rfl (show blkC n__law_beside_due (defScope S__law_beside_due) _ _ = true from by decide +kernel) (by rw [rr.1]; omega) rfl (.inl rfl) (fun _ _ _ _ _ => pg_name (i := 6) sc__law_beside_due.nd rfl (.inl rfl)) fun D2 s H' C' cl fp r hrr => ?_
      show EX _ _ _ [some (isCb K P), some (isCb K P2), some (isRow K (zr m)), some (isRow K (zr n)), some (isOwn FA y _), some (isRows K R), some (isRow K r), none] _ (isLst K ((r ++ zr m).map (isR K))) _
      rw [List.map_append]
      exact isNew.lst (ex_catL (G := (((gP U H).own FA hF).re H1).lk D2) (J := (ivT _).own FA y) (by wtm_at "p_var") (by wtm_at "p_var") (by rw [zl, List.length_map, (rr.2 r hrr).1]; omega))
    · refine lx_N (G := ((gP U H).own FA hF).re H1) (J := (ivT _).own FA y) 7 (ix_range (n := m) (by rfl) B.range (by rw [← lm2]; wtm_at "p_ex") (by omega)) sc__law_beside_due.nd rfl (show blkC n__law_beside_due (defScope S__law_beside_due) _ _ = true from by decide +kernel) (by rw [List.length_range]; omega) rfl (.inl rfl) (fun _ _ _ _ _ => pg_name (i := 7) sc__law_beside_due.nd rfl (.inl rfl)) fun D2 s H' C' cl fp r hrr => ?_
      show EX _ _ _ [some (isCb K P), some (isCb K P2), some (isRow K (zr m)), some (isRow K (zr n)), some (isOwn FA y _), some (isRows K R), none, some (aInt ((r : Nat) : Int))] _ _ _
      rw [zap]
      exact isNew.lst (ex_catL (G := (((gP U H).own FA hF).re H1).lk D2) (J := (ivT _).own FA y) (by wtm_at "p_var") (by wtm_at "p_var") (by rw [zl, zl]; omega))
  rw [hPl, List.take_of_length_le (by omega)]
  show SX _ _ _ [some (isCb K P), some (isCb K P2), some (isRow K (zr m)), some (isRow K (zr n)), some (isOwn FA y (T1.map (isRows K))), none, none, none] _ _
  refine sx_forNX (ι := List V) (G := (gP U H).own FA hF) (l := P2) (fA := isRows K) 5 (fun k y => (ivT _).own FA y) (fun k y => [some (isCb K P), some (isCb K P2), some (isRow K (zr m)), some (isRow K (zr n)), some (isOwn FA y (T1.map (isRows K) ++ (T2.take k).map (isRows K))), none, none, none]) (fun k y => True) y PassesOwn.never rfl sc__law_beside_due.nd rfl (.inl rfl) (.inr rfl) (ix_list' (by wtm_at "p_var")) True.intro ?_ (fun _ _ => by wtm_at "p_lt") (fun H1 Γ1 σ1 k y R e mR hk py k1 => ?_) fun y py => ?_
  · exact ⟨fun _ _ h => h, fun _ _ h => h, fun _ _ h => h, fun _ _ h => h, fun F v h => by rw [List.take_zero, List.map_nil, List.append_nil]; exact h, True.intro⟩
  · have rr := hQ.2 R mR
    have hkn : k < m := by rw [← hQl]; exact hk
    show SX _ _ _ [some (isCb K P), some (isCb K P2), some (isRow K (zr m)), some (isRow K (zr n)), some (isOwn FA y (T1.map (isRows K) ++ (T2.take k).map (isRows K))), some (isRows K R), none, none] _ _
    have eT : T1.map (isRows K) ++ (T2.take (k + 1)).map (isRows K) = (T1.map (isRows K) ++ (T2.take k).map (isRows K)) ++ [isLst K (((List.range n).map fun _ => isRow K (zr n ++ zr m)) ++ R.map fun r => isRow K (zr n ++ r))] := by
      have e1 : T2[k]? = some (List.replicate n (zr n ++ zr m) ++ R.map fun r => zr n ++ r) := by show (P2.map _)[k]? = _; rw [List.getElem?_map, e]; rfl
      rw [take_succ_get e1, List.map_append, List.append_assoc]
      congr 2
      show [isLst K ((List.replicate n (zr n ++ zr m) ++ R.map fun r => zr n ++ r).map (isRow K))] = _
      rw [List.map_append, List.map_map, List.map_replicate, List.map_const']
      rw [List.length_range]
      rfl
    rw [eT]
    refine sx_append (G := ((gP U H).own FA hF).re H1) (I := (ivT _).own FA y) (K := (ivT _).own FA y) (I' := fun us => (ivT _).own FA us) (A := isLst K (((List.range n).map fun _ => isRow K (zr n ++ zr m)) ++ R.map fun r => isRow K (zr n ++ r))) 4 (by wtm_at "p_lt") (owns_top hMF) (by wtm_at "p_var") ?_ rfl (by rw [List.length_append, List.length_map, List.length_map, List.length_map, List.length_take]; omega) (owns_top hMF) fun v => sx_nil fun σ H k => ⟨y ++ [v], True.intro, k.low ⟨fun _ _ h => h, fun _ _ h => h, fun _ _ h => h, fun _ _ h => h, fun _ _ h => h, True.intro⟩⟩
    refine isNew.lst (ex_catL (G := ((gP U H).own FA hF).re H1) (J := (ivT _).own FA y) (isNew.lst (ex_lc rfl sc__law_beside_due.nd ?_)) (isNew.lst (ex_lc rfl sc__law_beside_due.nd ?_)) (by rw [List.length_map, List.length_map, List.length_range, rr.1]; omega))
    · refine lx_N (G := ((gP U H).own FA hF).re H1) (J := (ivT _).own FA y) 7 (ix_range (n := n) (by rfl) B.range (by rw [← lm]; wtm_at "p_ex") (by omega)) sc__law_beside_due.nd rfl (show blkC n__law_beside_due (defScope S__law_beside_due) _ _ = true from by decide +kernel) (by rw [List.length_range]; omega) rfl (.inl rfl) (fun _ _ _ _ _ => pg_name (i := 7) sc__law_beside_due.nd rfl (.inl rfl)) fun D2 s H' C' cl fp r hrr => ?_
      show EX _ _ _ [some (isCb K P), some (isCb K P2), some (isRow K (zr m)), some (isRow K (zr n)), some (isOwn FA y _), some (isRows K R), none, some (aInt ((r : Nat) : Int))] _ _ _
      rw [zap]
      exact isNew.lst (ex_catL (G := (((gP U H).own FA hF).re H1).lk D2) (J := (ivT _).own FA y) (by wtm_at "p_var") (by wtm_at "p_var") (by rw [zl, zl]; omega))
    · refine lx_N (G := ((gP U H).own FA hF).re H1) (J := (ivT _).own FA y) (fA := isRow K) 6 (ix_list' (by wtm_at "p_ex")) sc__law_beside_due.nd rfl (show blkC n__law_beside_due (defScope S__law_beside_due) _ _ = true from by decide +kernel) (by rw [rr.1]; omega) rfl (.inl rfl) (fun _ _ _ _ _ => pg_name (i := 6) sc__law_beside_due.nd rfl (.inl rfl)) fun D2 s H' C' cl fp r hrr => ?_
      show EX _ _ _ [some (isCb K P), some (isCb K P2), some (isRow K (zr m)), some (isRow K (zr n)), some (isOwn FA y _), some (isRows K R), some (isRow K r), none] _ (isLst K ((zr n ++ r).map (isR K))) _
      rw [List.map_append]
      exact isNew.lst (ex_catL (G := (((gP U H).own FA hF).re H1).lk D2) (J := (ivT _).own FA y) (by wtm_at "p_var") (by wtm_at "p_var") (by rw [zl, List.length_map, (rr.2 r hrr).1]; omega))
  rw [hQl, List.take_of_length_le (by omega), ← List.map_append, ← hb]
  refine sx_free 4 hUF rfl ?_
  show SX _ _ _ [some (isCb K P), some (isCb K P2), some (isRow K (zr m)), some (isRow K (zr n)), some (isNew ((besP P P2).map (isRows K))), none, none, none] _ _
  exact sx_ret (J := ivT _) (A := isCb K (besP P P2)) (isNew.lst (by wtm_at "p_var")) hR
end
section
set_option hygiene false
local macro_rules | `(tactic| wtm_at "p_var") => `(tactic| first
  | ((with_reducible show EX _ _ _ _ (Expr.Name "_law_pool_here" _) _ _); first | exact ex_var (i := 0) rfl (by wtm_at "p_vis") rfl | exact isNew.lst (ex_var (i := 0) rfl (by wtm_at "p_vis") rfl))
  | ((with_reducible show EX _ _ _ _ (Expr.Name "_law_size" _) _ _); first | exact ex_var (i := 1) rfl (by wtm_at "p_vis") rfl | exact isNew.lst (ex_var (i := 1) rfl (by wtm_at "p_vis") rfl))
  | ((with_reducible show EX _ _ _ _ (Expr.Name "_law_k" _) _ _); first | exact ex_var (i := 2) rfl (by wtm_at "p_vis") rfl | exact isNew.lst (ex_var (i := 2) rfl (by wtm_at "p_vis") rfl)))
-- needs _law_products
abbrev okRow4 (n : Nat) (x : List Rat) : Prop := x.length = n ∧ ∀ a ∈ x, RB 4 a
abbrev sp__law_row (K : PySem.W.Frag) : Sp := spD (ι := Nat) 30 (fun n => [aInt (n : Int)]) (fun n => n ≤ 6) (fun n => exA (okRow4 n) (isRow K))
theorem has__law_row (B : Bl K mg) (D : DefAt K mg "_law_row" S__law_row) (C_law_number : Has Pr w K mg base "_law_number" ["_law_pool_here", "_law_great"] (sp__law_number K) 2) : Has Pr w K mg base "_law_row" ["_law_pool_here", "_law_size"] (sp__law_row K) 3 := by
  obtain ⟨f, fd, F, hm⟩ := D.ex
  refine ⟨f, fd, ⟨_, F⟩, fn_draw F sc__law_row (fun _ => rfl) fun cdv A outer s H E U ap ag n0 n Q hr ho hn hR => ?_, hm, F.kp, F.binds fun _ _ _ _ _ _ us hl => match us, hl with | [_, _], _ => rfl⟩
  change n ≤ 6 at ho
  change Ret _ _ (exA (okRow4 n) (isRow K)) _ at hR
  have hl : (List.range n).length = n := List.length_range
  show SX _ _ _ [some (isV (.ref ap)), some (aInt (n : Int)), none] _ _
  refine sx_ret (J := ivD U ap ag H (n0 + (List.range n).length * 5)) (A := exA (okRow4 n) (isRow K)) ((ex_lc (As := List.replicate (List.range n).length (exA (RB 4) (isR K))) rfl sc__law_row.nd ?_).imp fun F v h => by rw [hl] at h; exact rowX F v h) (hR.post (ivD_more (by rw [hl]; omega)))
  refine lx_D 2 5 n0 (ivD U ap ag H) (ix_range (by rfl) B.range (by wtm_at "p_var") (by omega)) (show blkC n__law_row (defScope S__law_row) _ _ = true from by decide +kernel) (by rw [hl]; omega) rfl (fun _ _ _ _ _ => pg_name (i := 2) sc__law_row.nd rfl (.inl rfl)) fun D s H' C cl fp k a e hk => ?_
  rw [hl] at hk
  have e5 : n0 + (k + 1) * 5 = n0 + k * 5 + 5 := by omega
  rw [e5]
  show EX _ _ _ [some (isV (.ref ap)), some (aInt (n : Int)), some (aInt ((a : Nat) : Int))] _ _ _
  exact ex_drawX (G := (gD U ap ag H).lk D) (As := [isBl false]) (Iz := ivD U ap ag H) C_law_number (hr.mono (by decide)) drw_gD (by wtm_at "p_var") (by wtm_at "p_ax") (by omega) fun F vs h => ⟨false, True.intro, h, fun _ _ h => h⟩
end
section
set_option hygiene false
local macro_rules | `(tactic| wtm_at "p_var") => `(tactic| first
  | ((with_reducible show EX _ _ _ _ (Expr.Name "rows" _) _ _); first | exact ex_var (i := 0) rfl (by wtm_at "p_vis") rfl | exact isNew.lst (ex_var (i := 0) rfl (by wtm_at "p_vis") rfl))
  | ((with_reducible show EX _ _ _ _ (Expr.Name "size" _) _ _); first | exact ex_var (i := 1) rfl (by wtm_at "p_vis") rfl | exact isNew.lst (ex_var (i := 1) rfl (by wtm_at "p_vis") rfl))
  | ((with_reducible show EX _ _ _ _ (Expr.Name "row" _) _ _); first | exact ex_var (i := 2) rfl (by wtm_at "p_vis") rfl | exact isNew.lst (ex_var (i := 2) rfl (by wtm_at "p_vis") rfl)))
abbrev sp_check_sizes (K : PySem.W.Frag) : Sp := spF (ι := List (List Rat) × Nat) (fun q => [isRows K q.1, aInt (q.2 : Int)]) (fun q => ∀ r ∈ q.1, r.length = q.2) (fun _ => isNon)
theorem has_check_sizes (B : Bl K mg) (D : DefAt K mg "check_sizes" S_check_sizes) : Has Pr w K mg base "check_sizes" ["rows", "size"] (sp_check_sizes K) 1 := by
  obtain ⟨f, fd, F, hm⟩ := D.ex
  refine ⟨f, fd, ⟨_, F⟩, fn_pure F sc_check_sizes (fun _ => rfl) fun cdv A outer s H E U q Q hr ho hR => ?_, hm, F.kp, F.binds fun _ _ _ _ _ _ us hl => match us, hl with | [_, _], _ => rfl⟩
  obtain ⟨l, n⟩ := q
  change ∀ r ∈ l, r.length = n at ho
  show SX _ _ _ [some (isRows K l), some (aInt (n : Int)), none] _ _
  refine sx_forN 2 (fun _ => ivT _) (fun _ => [some (isRows K l), some (aInt (n : Int)), none]) PassesOwn.never rfl sc_check_sizes.nd rfl (.inl rfl) (.inr rfl) (ix_list' (by wtm_at "p_ex")) (low_refl _) (fun _ => by wtm_at "p_lt") (fun H1 Γ1 σ1 k r e m hk k1 => ?_) (sx_end hR fun _ => rfl)
  show SX _ _ _ [some (isRows K l), some (aInt (n : Int)), some (isRow K r)] _ _
  refine sx_ifR (by wtm_at "p_tx") (fun p => ?_) (fun p => sx_nil fun σ H k => k.low ⟨fun _ _ h => h, fun _ _ h => h, True.intro⟩)
  rw [List.length_map, ho r m] at p
  simp at p
end
section
set_option hygiene false
local macro_rules | `(tactic| wtm_at "p_var") => `(tactic| first
  | ((with_reducible show EX _ _ _ _ (Expr.Name "rows" _) _ _); first | exact ex_var (i := 0) rfl (by wtm_at "p_vis") rfl | exact isNew.lst (ex_var (i := 0) rfl (by wtm_at "p_vis") rfl))
  | ((with_reducible show EX _ _ _ _ (Expr.Name "size" _) _ _); first | exact ex_var (i := 1) rfl (by wtm_at "p_vis") rfl | exact isNew.lst (ex_var (i := 1) rfl (by wtm_at "p_vis") rfl)))
abbrev sp_check_rows_of (K : PySem.W.Frag) : Sp := spF (ι := List (List Rat) × Nat) (fun q => [isRows K q.1, aInt (q.2 : Int)]) (fun q => ∀ r ∈ q.1, r.length = q.2) (fun _ => isNon)
theorem has_check_rows_of (B : Bl K mg) (D : DefAt K mg "check_rows_of" S_check_rows_of) (Ccheck_rows : Has Pr w K mg base "check_rows" ["rows"] (sp_check_rows K) 4) (Ccheck_sizes : Has Pr w K mg base "check_sizes" ["rows", "size"] (sp_check_sizes K) 1) : Has Pr w K mg base "check_rows_of" ["rows", "size"] (sp_check_rows_of K) 5 := by
  obtain ⟨f, fd, F, hm⟩ := D.ex
  refine ⟨f, fd, ⟨_, F⟩, fn_pure F sc_check_rows_of (fun _ => rfl) fun cdv A outer s H E U q Q hr ho hR => ?_, hm, F.kp, F.binds fun _ _ _ _ _ _ us hl => match us, hl with | [_, _], _ => rfl⟩
  obtain ⟨l, n⟩ := q
  change ∀ r ∈ l, r.length = n at ho
  show SX _ _ _ [some (isRows K l), some (aInt (n : Int))] _ _
  refine sx_expr (J := ivT _) (A := isNon) (ex_callH Ccheck_rows (hr.mono (by decide)) l (by wtm_at "p_ax") True.intro) ?_
  exact sx_expr (J := ivT _) (A := isNon) (ex_callH Ccheck_sizes (hr.mono (by decide)) (l, n) (by wtm_at "p_ax") ho) (sx_end hR fun _ => rfl)
end
section
set_option hygiene false
local macro_rules | `(tactic| wtm_at "p_var") => `(tactic| first
  | ((with_reducible show EX _ _ _ _ (Expr.Name "self" _) _ _); first | exact ex_var (i := 0) rfl (by wtm_at "p_vis") rfl | exact isNew.lst (ex_var (i := 0) rfl (by wtm_at "p_vis") rfl))
  | ((with_reducible show EX _ _ _ _ (Expr.Name "one" _) _ _); first | exact ex_var (i := 1) rfl (by wtm_at "p_vis") rfl | exact isNew.lst (ex_var (i := 1) rfl (by wtm_at "p_vis") rfl))
  | ((with_reducible show EX _ _ _ _ (Expr.Name "other" _) _ _); first | exact ex_var (i := 2) rfl (by wtm_at "p_vis") rfl | exact isNew.lst (ex_var (i := 2) rfl (by wtm_at "p_vis") rfl)))
-- needs Table_product_of
theorem kbn1_of {K : PySem.W.Frag} {x qual : Str} {st : Stmt} {f : Addr} {fd : FuncData} {ps ks : List Str} {g : List Value → List Value} {gV : List V → List V} (F : Fun K x qual st f fd) (hr : ∀ {zs : List V} {ws : List Value}, Vals zs ws → Vals (gV zs) (g ws))
    (h : ∀ (kV doc pm : Value) (an : Option Addr) (cdv ct : Value) (u : Value) (ws : List Value), ws.length = ks.length → bindArgs (PySem.W.fnOf x qual (defArgs st) (defBody st) (defScope st) .none kV doc pm an cdv ct) ⟨[u], ks.zip ws⟩ = pure (ps.zip (u :: g ws))) : KBn K fd ps 1 ks (fun us ws => us ++ g ws) (fun us zs => us ++ gV zs) := by
  obtain ⟨oc, od, kV, doc, pm, an, cdv, ct, osl, rfl, lk, hcd⟩ := F.ex
  refine ⟨fun s us ws _ l1 l2 => ?_, fun r1 r2 => ?_⟩
  · match us, l1 with
    | [u], _ => exact .of_eq (h kV doc pm an cdv ct u ws l2)
  · exact r1.append (hr r2)
theorem has_Table_call {C : Addr} (B : Bl K mg) (T : TabAt K mg C) (P : List (List (List Rat))) (Ccheck_rows_of : Has Pr w K mg base "check_rows_of" ["rows", "size"] (sp_check_rows_of K) 5) (CTable_size : HasP Pr w K mg base C "size" ["self"] (spF (fun P : List (List (List Rat)) => [isTab K C P]) (fun _ => True) (fun P => aInt (P.length : Int))) 1)
    (CTable_product_of : ∀ P : List (List (List Rat)), HasM Pr w K mg base C "product_of" ["self", "one", "other"] (spF (fun q : List Rat × List Rat => isIns C (flT K P) :: [isRow K q.1, isRow K q.2]) (isPO P) (fun q => isRow K (tmul P q.1 q.2))) 2) :
    HasC Pr w K mg base C ["self", "one", "other"] ["other", "one"] swp swp (spF (fun q : List Rat × List Rat => isIns C (flT K P) :: [isRow K q.1, isRow K q.2]) (isPO P) (fun q => isRow K (tmul P q.1 q.2))) 6 := by
  obtain ⟨f, fd, F, hs, hf, hfn⟩ := T.call
  refine ⟨f, fd, fn_pure F sc_Table_call (fun _ => rfl) fun cdv A outer s H E U q Q hr ho hR => ?_, hs, hf, hfn, F.binds fun _ _ _ _ _ _ us hl => match us, hl with | [_, _, _], _ => rfl, kbn1_of F (fun r => swp_rel r) fun _ _ _ _ _ _ u ws hl => match ws, hl with | [_, _], _ => rfl⟩
  obtain ⟨x, y⟩ := q
  have ho' := ho
  obtain ⟨h0, h1, hx, hy, h2, h3, h4⟩ := ho
  change x.length = P.length at hx
  change y.length = P.length at hy
  change Ret _ _ (isRow K (tmul P x y)) _ at hR
  show SX _ _ _ [some (isTab K C P), some (isRow K x), some (isRow K y)] _ _
  refine sx_expr (J := ivT _) (A := isNon) ?_ ?_
  · refine ex_callH Ccheck_rows_of (hr.mono (by decide)) ([x, y], P.length) (ax_cons (J := ivT _) (by show EX _ _ _ _ _ (isLst K [isRow K x, isRow K y]) _; wtm_at "p_ex") (ax_cons (J := ivT _) (ex_propI CTable_size T.cls (hr.mono (by decide)) P (by wtm_at "p_var") True.intro) ax_nil)) ?_
    intro r hr'
    have : r = x ∨ r = y := by simpa using hr'
    rcases this with rfl | rfl
    · exact hx
    · exact hy
  refine sx_ret (J := ivT _) (A := isRow K (tmul P x y)) ?_ hR
  exact ex_methI (J := ivT _) (CTable_product_of P) T.cls (fun p hp => by
    have : p = (("_wholes" : Str), isLst K ((wrows P).map fun l => isInts K l)) ∨ p = (("_below" : Str), aInt (lcmL (prs (flatP P)) : Int)) ∨ p = (("_products" : Str), isCb K P) := by simpa using hp
    rcases this with e | e | e
    · rw [e]; show ("_wholes" : Str) ≠ "product_of"; decide
    · rw [e]; show ("_below" : Str) ≠ "product_of"; decide
    · rw [e]; show ("_products" : Str) ≠ "product_of"; decide) (hr.mono (by decide)) (by wtm_at "p_var") (x, y) (by wtm_at "p_ax") ho'
end
section
-- needs mixmath
theorem tmul_RB1 {P : List (List (List Rat))} {x y : List Rat} (h : isLT (P, x, y)) : ∀ a ∈ tmul P x y, RD 300000 4100 a := fun a ha => by
  rw [← tmulK_end h.1] at ha
  have h6 : P.length ≤ 6 := h.2.1
  exact (tmulK_RB h (P.length * P.length) (Nat.mul_le_mul h6 h6) a ha).mono (by have := Nat.mul_le_mul h6 h6; omega) (by have := Nat.mul_le_mul h6 h6; omega)
theorem tmul_den {P : List (List (List Rat))} {x y : List Rat} (h : okCube P) (hx : x.length = P.length) : ∀ a ∈ tmul P x y, a.den ∣ lcmL (prs x) * lcmL (prs y) * lcmL (prs (flatP P)) := fun a ha => by
  have hend := sumsZ_end (y := y) h hx
  have px := prs_pos x
  have py := prs_pos y
  have pp := prs_pos (flatP P)
  have hb0 : (lcmL (prs x) : Int) * (lcmL (prs y) : Int) * (lcmL (prs (flatP P)) : Int) ≠ 0 := by
    intro e
    rcases Int.mul_eq_zero.mp e with e | e
    · rcases Int.mul_eq_zero.mp e with e | e <;> omega
    · omega
  rw [← over_div hb0 hend] at ha
  obtain ⟨z, _, rfl⟩ := List.mem_map.mp ha
  have := divInt_den_dvd (a := z) hb0
  rwa [Int.natAbs_mul, Int.natAbs_mul, Int.natAbs_natCast, Int.natAbs_natCast, Int.natAbs_natCast] at this
theorem okRows_lcm {n : Nat} {L : List (List Rat)} (h : okRows n L) (h6 : n ≤ 6) : lcmL (prs L.flatten) < 2 ^ 505 ∧ ∀ x ∈ L, lcmL (prs x) ∣ lcmL (prs L.flatten) := by
  have hl : L.flatten.length ≤ 36 := by
    have key : ∀ (L : List (List Rat)), (∀ r ∈ L, r.length = n) → L.flatten.length = L.length * n := fun L => by
      induction L with
      | nil => intro _; simp
      | cons x L ih => intro h; rw [List.flatten_cons, List.length_append, ih fun y hy => h y (List.mem_cons_of_mem _ hy), h x List.mem_cons_self, List.length_cons, Nat.succ_mul, Nat.add_comm]
    rw [key L fun r hr => (h.2 r hr).1, h.1]
    exact Nat.mul_le_mul h6 h6
  refine ⟨(okW_prs (b := 14) (m := 505) (fun a ha => ?_) (by decide) (by omega) (by decide) (by omega)).2, fun x hx => ?_⟩
  · obtain ⟨x, hx, ha⟩ := List.mem_flatten.mp ha
    exact (h.2 x hx).2 a ha
  · exact DV.lcm ((DV.of_lcm L.flatten).sub fun a ha => List.mem_flatten.mpr ⟨x, hx, ha⟩)
theorem chP_cube {n : Nat} {P : List (List (List Rat))} {L R : List (List Rat)} (hP : okLP n P) (hL : okRows n L) (hR : okRows n R) (h1 : 1 ≤ n) (h6 : n ≤ 6) : (chP P L R).length = n ∧ okCube (chP P L R) := by
  have hc := okLP_cube hP h1 h6
  have l : (chP P L R).length = n := by unfold chP; rw [List.length_map, hL.1]
  refine ⟨l, by omega, by omega, fun S hS => ?_⟩
  rw [l]
  obtain ⟨x, hx, rfl⟩ := List.mem_map.mp hS
  refine ⟨by rw [List.length_map, hR.1], fun t ht => ?_⟩
  obtain ⟨y, hy, rfl⟩ := List.mem_map.mp ht
  rw [tmul_lenT hc (by rw [(hL.2 x hx).1, hP.1]), hP.1]
theorem chP_T {n : Nat} {P : List (List (List Rat))} {L R : List (List Rat)} (hP : okLP n P) (hL : okRows n L) (hR : okRows n R) (h1 : 1 ≤ n) (h6 : n ≤ 6) : okT (chP P L R) ∧ lcmL (prs (flatP (chP P L R))) < 2 ^ 4036 := by
  obtain ⟨l, hcu⟩ := chP_cube hP hL hR h1 h6
  have hc := okLP_cube hP h1 h6
  obtain ⟨_, bP⟩ := okT_of hP h1 h6
  obtain ⟨bL, dL⟩ := okRows_lcm hL h6
  obtain ⟨bR, dR⟩ := okRows_lcm hR h6
  have pL := prs_pos L.flatten
  have pR := prs_pos R.flatten
  have pP := prs_pos (flatP P)
  have p0 := Nat.mul_pos (Nat.mul_pos pL pR) pP
  have hD : lcmL (prs L.flatten) * lcmL (prs R.flatten) * lcmL (prs (flatP P)) < 2 ^ (505 + 505 + 3025) := pow_mul_lt (pow_mul_lt bL bR) bP
  obtain ⟨t, d⟩ := okT_gen (D := lcmL (prs L.flatten) * lcmL (prs R.flatten) * lcmL (prs (flatP P))) (b := 0) (m := 505 + 505 + 3025) hcu (by omega) (fun S hS s hs a ha => by
    obtain ⟨x, hx, rfl⟩ := List.mem_map.mp hS
    obtain ⟨y, hy, rfl⟩ := List.mem_map.mp hs
    have rx := hL.2 x hx
    have ry := hR.2 y hy
    refine ⟨((tmul_RB1 (isLT_of hP h1 h6 rx.1 ry.1 (fun a ha => (rx.2 a ha).mono (by decide)) (fun a ha => (ry.2 a ha).mono (by decide))) a ha).mono (by decide) (Nat.le_refl _)).1, ?_⟩
    refine Nat.dvd_trans (tmul_den hc (by rw [rx.1, hP.1]) a ha) ?_
    exact Nat.mul_dvd_mul (Nat.mul_dvd_mul (dL x hx) (dR y hy)) (Nat.dvd_refl _)) p0 hD (by decide)
  exact ⟨t, Nat.lt_of_le_of_lt (Nat.le_of_dvd p0 d) (Nat.lt_of_lt_of_le hD (Nat.pow_le_pow_right (by decide) (by decide)))⟩
theorem chP_PO {n : Nat} {P : List (List (List Rat))} {L R : List (List Rat)} {x y : List Rat} (hP : okLP n P) (hL : okRows n L) (hR : okRows n R) (h1 : 1 ≤ n) (h6 : n ≤ 6) (hx : x.length = n) (hy : y.length = n) (bx : ∀ a ∈ x, RB 30 a) (b_y : ∀ a ∈ y, RB 30 a) : isPO (chP P L R) (x, y) := by
  obtain ⟨⟨c, a⟩, b⟩ := chP_T hP hL hR h1 h6
  obtain ⟨l, _⟩ := chP_cube hP hL hR h1 h6
  obtain ⟨ax, cx⟩ := okW_prs (b := 30) (m := 200) bx (by decide) (by omega) (by decide) (by omega)
  obtain ⟨ay, cy⟩ := okW_prs (b := 30) (m := 200) b_y (by decide) (by omega) (by decide) (by omega)
  refine ⟨c, a, by rw [l]; exact hx, by rw [l]; exact hy, ax, ay, ?_⟩
  exact Nat.lt_of_lt_of_le (pow_mul_lt (pow_mul_lt cx cy) b) (Nat.pow_le_pow_right (by decide) (by decide))
end
section
set_option hygiene false
local macro_rules | `(tactic| wtm_at "p_var") => `(tactic| first
  | ((with_reducible show EX _ _ _ _ (Expr.Name "_law_one" _) _ _); first | exact ex_var (i := 0) rfl (by wtm_at "p_vis") rfl | exact isNew.lst (ex_var (i := 0) rfl (by wtm_at "p_vis") rfl))
  | ((with_reducible show EX _ _ _ _ (Expr.Name "_law_other" _) _ _); first | exact ex_var (i := 1) rfl (by wtm_at "p_vis") rfl | exact isNew.lst (ex_var (i := 1) rfl (by wtm_at "p_vis") rfl))
  | ((with_reducible show EX _ _ _ _ (Expr.Name "_law_found" _) _ _); first | exact ex_var (i := 2) rfl (by wtm_at "p_vis") rfl | exact isNew.lst (ex_var (i := 2) rfl (by wtm_at "p_vis") rfl))
  | ((with_reducible show EX _ _ _ _ (Expr.Name "_law_a" _) _ _); first | exact ex_var (i := 3) rfl (by wtm_at "p_vis") rfl | exact isNew.lst (ex_var (i := 3) rfl (by wtm_at "p_vis") rfl))
  | ((with_reducible show EX _ _ _ _ (Expr.Name "_law_b" _) _ _); first | exact ex_var (i := 4) rfl (by wtm_at "p_vis") rfl | exact isNew.lst (ex_var (i := 4) rfl (by wtm_at "p_vis") rfl)))
-- needs _law_mul
-- import M9
abbrev okLC (q : List Rat × List Rat) : Prop := (∀ a ∈ q.1, RD 300000 4100 a) ∧ (∀ a ∈ q.2, RD 300000 4100 a) ∧ q.1.length ≤ 100 ∧ q.2.length ≤ 100
abbrev sp__law_crossed (K : PySem.W.Frag) : Sp := spF (ι := List Rat × List Rat) (fun q => [isRow K q.1, isRow K q.2]) okLC (fun q => isRow K (cro q.1 q.2))
theorem has__law_crossed (B : Bl K mg) (D : DefAt K mg "_law_crossed" S__law_crossed) (C_law_mul : Has Pr w K mg base "_law_mul" ["_law_one", "_law_two"] (sp__law_mul K) 2) : Has Pr w K mg base "_law_crossed" ["_law_one", "_law_other"] (sp__law_crossed K) 3 := by
  obtain ⟨f, fd, F, hm⟩ := D.ex
  refine ⟨f, fd, ⟨_, F⟩, fn_pure F sc__law_crossed (fun _ => rfl) fun cdv A outer s H E U q Q hr ho hR => ?_, hm, F.kp, F.binds fun _ _ _ _ _ _ us hl => match us, hl with | [_, _], _ => rfl⟩
  obtain ⟨x, y⟩ := q
  obtain ⟨hx, hy, lx, ly⟩ := ho
  change ∀ a ∈ x, RD 300000 4100 a at hx
  change ∀ a ∈ y, RD 300000 4100 a at hy
  change x.length ≤ 100 at lx
  change y.length ≤ 100 at ly
  change Ret _ _ (isRow K (cro x y)) _ at hR
  show SX _ _ _ [some (isRow K x), some (isRow K y), none, none, none] _ _
  refine sx_set (i := 2) (J := ivT _) (A := isRow K (cro (x.take 0) y)) sc__law_crossed.nd rfl (.inl rfl) (by wtm_at "p_lt") ?_ ?_
  · show EX _ _ _ _ _ (isLst K []) _
    exact ex_lst ax_nil (by decide)
  show SX _ _ _ [some (isRow K x), some (isRow K y), some (isRow K (cro (x.take 0) y)), none, none] _ _
  refine sx_forN (l := x) (fA := isR K) 3 (fun _ => ivT _) (fun k => [some (isRow K x), some (isRow K y), some (isRow K (cro (x.take k) y)), none, none]) PassesOwn.never rfl sc__law_crossed.nd rfl (.inr rfl) (.inl rfl) (ix_list' (by wtm_at "p_ex")) (low_refl _) (fun _ => by wtm_at "p_lt") (fun H1 Γ1 σ1 k a e m hk k1 => ?_) ?_
  · have hstep : cro (x.take (k + 1)) y = cro (x.take k) y ++ y.map fun b => a * b := by
      rw [take_succ_get e]
      unfold cro
      rw [List.flatMap_append]
      simp
    have hlen : (cro (x.take k) y).length ≤ 10000 := by
      rw [cro_len, List.length_take]
      exact Nat.mul_le_mul (show min k x.length ≤ 100 by omega) ly
    generalize hd : cro (x.take k) y = d at hstep hlen
    show SX _ _ _ [some (isRow K x), some (isRow K y), some (isRow K d), some (isR K a), none] _ _
    refine sx_set (i := 2) (G := (gP U H).re H1) (J := ivT _) (A := isRow K (cro (x.take (k + 1)) y)) sc__law_crossed.nd rfl (.inl rfl) (by wtm_at "p_lt") ?_ (sx_nil fun σ H k => k.low ⟨fun _ _ h => h, fun _ _ h => h, fun _ _ h => h, True.intro⟩)
    rw [hstep]
    show EX _ _ _ _ _ (isLst K ((d ++ y.map fun b => a * b).map (isR K))) _
    rw [List.map_append]
    refine isNew.lst (ex_catL (G := (gP U H).re H1) (J := ivT _) (by wtm_at "p_var") (isNew.lst (ex_lc rfl sc__law_crossed.nd ?_)) (by rw [List.length_map, List.length_map, List.length_map]; omega))
    rw [List.map_map]
    refine lx_N (G := (gP U H).re H1) (J := ivT _) (fA := isR K) 4 (ix_list' (by wtm_at "p_ex")) sc__law_crossed.nd rfl (show blkC n__law_crossed (defScope S__law_crossed) _ _ = true from by decide +kernel) (by omega) rfl (.inl rfl) (fun _ _ _ _ _ => pg_name (i := 4) sc__law_crossed.nd rfl (.inl rfl)) fun D2 s H' C' cl fp b hb => ?_
    show EX _ _ _ [some (isRow K x), some (isRow K y), some (isRow K d), some (isR K a), some (isR K b)] _ (isR K (a * b)) _
    exact ex_callH C_law_mul (hr.mono (by decide)) (a, b) (by wtm_at "p_ax") ⟨(hx a m).mono (by decide) (by decide), (hy b hb).mono (by decide) (by decide)⟩
  · show SX _ _ _ [some (isRow K x), some (isRow K y), some (isRow K (cro (x.take x.length) y)), none, none] _ _
    rw [List.take_length]
    exact sx_ret (J := ivT _) (A := isRow K (cro x y)) (by wtm_at "p_var") hR
end
section
set_option hygiene false
local macro_rules | `(tactic| wtm_at "p_var") => `(tactic| first
  | ((with_reducible show EX _ _ _ _ (Expr.Name "_law_pool_here" _) _ _); first | exact ex_var (i := 0) rfl (by wtm_at "p_vis") rfl | exact isNew.lst (ex_var (i := 0) rfl (by wtm_at "p_vis") rfl))
  | ((with_reducible show EX _ _ _ _ (Expr.Name "_law_one" _) _ _); first | exact ex_var (i := 1) rfl (by wtm_at "p_vis") rfl | exact isNew.lst (ex_var (i := 1) rfl (by wtm_at "p_vis") rfl))
  | ((with_reducible show EX _ _ _ _ (Expr.Name "_law_other" _) _ _); first | exact ex_var (i := 2) rfl (by wtm_at "p_vis") rfl | exact isNew.lst (ex_var (i := 2) rfl (by wtm_at "p_vis") rfl))
  | ((with_reducible show EX _ _ _ _ (Expr.Name "_law_first" _) _ _); first | exact ex_var (i := 3) rfl (by wtm_at "p_vis") rfl | exact isNew.lst (ex_var (i := 3) rfl (by wtm_at "p_vis") rfl))
  | ((with_reducible show EX _ _ _ _ (Expr.Name "_law_second" _) _ _); first | exact ex_var (i := 4) rfl (by wtm_at "p_vis") rfl | exact isNew.lst (ex_var (i := 4) rfl (by wtm_at "p_vis") rfl))
  | ((with_reducible show EX _ _ _ _ (Expr.Name "_law_due" _) _ _); first | exact ex_var (i := 5) rfl (by wtm_at "p_vis") rfl | exact isNew.lst (ex_var (i := 5) rfl (by wtm_at "p_vis") rfl))
  | ((with_reducible show EX _ _ _ _ (Expr.Name "_law_told" _) _ _); first | exact ex_var (i := 6) rfl (by wtm_at "p_vis") rfl | exact isNew.lst (ex_var (i := 6) rfl (by wtm_at "p_vis") rfl))
  | ((with_reducible show EX _ _ _ _ (Expr.Name "_law_third" _) _ _); first | exact ex_var (i := 7) rfl (by wtm_at "p_vis") rfl | exact isNew.lst (ex_var (i := 7) rfl (by wtm_at "p_vis") rfl))
  | ((with_reducible show EX _ _ _ _ (Expr.Name "_law_lots" _) _ _); first | exact ex_var (i := 8) rfl (by wtm_at "p_vis") rfl | exact isNew.lst (ex_var (i := 8) rfl (by wtm_at "p_vis") rfl))
  | ((with_reducible show EX _ _ _ _ (Expr.Name "_law_parts" _) _ _); first | exact ex_var (i := 9) rfl (by wtm_at "p_vis") rfl | exact isNew.lst (ex_var (i := 9) rfl (by wtm_at "p_vis") rfl)))
-- needs beside
-- needs _law_beside_due
-- needs cubes2
-- needs _law_row
-- needs _law_times
-- needs _law_copied
-- needs Table_call
-- needs chmath
-- needs _law_crossed
abbrev ok_law_beside_right (q : List (List (List Rat)) × List (List (List Rat)) × Nat × Nat) : Prop := 1 ≤ q.2.2.1 ∧ 1 ≤ q.2.2.2 ∧ q.2.2.1 + q.2.2.2 ≤ 6 ∧ okLP q.2.2.1 q.1 ∧ okLP q.2.2.2 q.2.1
abbrev sp__law_beside_right (K : PySem.W.Frag) (C : Addr) : Sp := spD (ι := List (List (List Rat)) × List (List (List Rat)) × Nat × Nat) 2200 (fun q => [isCb K q.1, isCb K q.2.1, isTab K C q.1, isTab K C q.2.1]) ok_law_beside_right (fun _ => isBl true)
theorem has__law_beside_right {C : Addr} (B : Bl K mg) (T : TabAt K mg C) (D : DefAt K mg "_law_beside_right" S__law_beside_right) (C_law_pick : Has Pr w K mg base "_law_pick" ["_law_pool_here", "_law_many"] (sp__law_pick K) 1) (C_law_products : Has Pr w K mg base "_law_products" ["_law_pool_here", "_law_size", "_law_great"] (sp__law_products K) 3) (C_law_row : Has Pr w K mg base "_law_row" ["_law_pool_here", "_law_size"] (sp__law_row K) 3)
    (C_law_times : Has Pr w K mg base "_law_times" ["_law_products_here", "_law_one", "_law_other"] (sp__law_times K) 3) (C_law_is : Has Pr w K mg base "_law_is" ["_law_told", "_law_due"] (sp__law_is K C) 7) (Cbeside : Has Pr w K mg base "beside" ["one", "other"] (sp_beside K C) 7) (Dbeside : DefAt K mg "beside" S_beside) (C_law_beside_due : Has Pr w K mg base "_law_beside_due" ["_law_one", "_law_other"] (sp__law_beside_due K) 1) (C_law_crossed : Has Pr w K mg base "_law_crossed" ["_law_one", "_law_other"] (sp__law_crossed K) 3)
    (C_law_copied : ∀ n : Nat, Has Pr w K mg base "_law_copied" ["_law_thing"] (sp__law_copied K n) (n + 1)) (C_law_alike : ∀ n : Nat, Has Pr w K mg base "_law_alike" ["_law_told", "_law_due"] (sp__law_alike K n) (n + 1))
    (CTable_init : HasI Pr w K mg base C "Table" ["self", "products"] (spI C (fun P : List (List (List Rat)) => [isCb K P]) okT (flT K)) 5) (CTable_call : ∀ P : List (List (List Rat)), HasC Pr w K mg base C ["self", "one", "other"] ["other", "one"] swp swp (spF (fun q : List Rat × List Rat => isIns C (flT K P) :: [isRow K q.1, isRow K q.2]) (isPO P) (fun q => isRow K (tmul P q.1 q.2))) 6) : Has Pr w K mg base "_law_beside_right" ["_law_pool_here", "_law_one", "_law_other", "_law_first", "_law_second"] (sp__law_beside_right K C) 8 := by
  obtain ⟨f, fd, F, hm⟩ := D.ex
  refine ⟨f, fd, ⟨_, F⟩, fn_draw F sc__law_beside_right (fun _ => rfl) fun cdv A outer s H E U ap ag n0 q Q hr ho hn hR => ?_, hm, F.kp, F.binds fun _ _ _ _ _ _ us hl => match us, hl with | [_, _, _, _, _], _ => rfl⟩
  obtain ⟨P, P2, n, m⟩ := q
  obtain ⟨h1, h2, h6, hP, hQ⟩ := ho
  change 1 ≤ n at h1
  change 1 ≤ m at h2
  change n + m ≤ 6 at h6
  change okLP n P at hP
  change okLP m P2 at hQ
  change Ret _ _ (isBl true) _ at hR
  have _z := h6
  have hPl := hP.1
  have hQl := hQ.1
  have lm : ((P.map (isRows K)).length : Int) = (n : Int) := by rw [List.length_map, hPl]
  have lm2 : ((P2.map (isRows K)).length : Int) = (m : Int) := by rw [List.length_map, hQl]
  have okx : okBs (P, P2) := ⟨n, m, h1, h2, h6, hP, hQ⟩
  have okx2 : okBs (P2, P) := ⟨m, n, h2, h1, by omega, hQ, hP⟩
  have cu : ∀ {A B : List (List (List Rat))}, okBs (A, B) → okCube (besP A B) := fun {A B} ⟨n, m, h1, h2, h6, hA, hB⟩ => okC_cube (besP_C (okLP_C hA) (okLP_C hB)) (by omega) h6
  show SX _ _ _ [some (isV (.ref ap)), some (isCb K P), some (isCb K P2), some (isTab K C P), some (isTab K C P2), none, none, none, none, none] _ _
  refine sx_set (i := 5) (J := ivD U ap ag H n0) (A := isCb K (besP P P2)) sc__law_beside_right.nd rfl (.inl rfl) (by wtm_at "p_lt") (ex_callH C_law_beside_due (hr.mono (by decide)) (P, P2) (by wtm_at "p_ax") okx) ?_
  show SX _ _ _ [some (isV (.ref ap)), some (isCb K P), some (isCb K P2), some (isTab K C P), some (isTab K C P2), some (isCb K (besP P P2)), none, none, none, none] _ _
  refine sx_set (i := 6) (J := ivD U ap ag H n0) (A := isTab K C (besP P P2)) sc__law_beside_right.nd rfl (.inl rfl) (by wtm_at "p_lt") (ex_callH Cbeside (hr.mono (by decide)) (P, P2) (by wtm_at "p_ax") okx) ?_
  show SX _ _ _ [some (isV (.ref ap)), some (isCb K P), some (isCb K P2), some (isTab K C P), some (isTab K C P2), some (isCb K (besP P P2)), some (isTab K C (besP P P2)), none, none, none] _ _
  refine sx_ifR (J := ivD U ap ag H n0) (P := (· = (false || false))) (WX.tx (wx_or (J := ivD U ap ag H n0) (p := false) (q := false) (TX.imp (tx_not (P := (· = true)) (tx_val ?_)) fun k h => nt h) fun _ => wx_or1 (TX.imp (tx_not (P := (· = true)) (tx_val ?_)) fun k h => nt h))) (fun p => by cases p) fun _ => ?_
  · exact ex_callH C_law_is (hr.mono (by decide)) (besP P P2) (by wtm_at "p_ax") (cu okx)
  · refine ex_callH C_law_is (hr.mono (by decide)) (besP P P2) (ax_cons (J := ivD U ap ag H n0) ?_ (by wtm_at "p_ax")) (cu okx)
    exact ex_callKH (ks := ["other", "one"]) (g := swp) (gV := swp) (gA := swp) Cbeside Dbeside (hr.mono (by decide)) (fun r => swp_rel r) (fun _ _ _ _ _ _ ws hl => match ws, hl with | [_, _], _ => rfl) (As := [isTab K C P2, isTab K C P]) (P, P2) (kx_cons (J := ivD U ap ag H n0) (by wtm_at "p_var") (kx_cons (J := ivD U ap ag H n0) (by wtm_at "p_var") kx_nil)) rfl rfl swp_all okx
  refine sx_ifR (J := ivD U ap ag H n0) (P := (· = false)) (TX.imp (tx_not (P := (· = true)) (tx_val ?_)) fun k h => nt h) (fun p => by cases p) fun _ => ?_
  · exact ex_callH C_law_is (hr.mono (by decide)) (besP P2 P) (ax_cons (J := ivD U ap ag H n0) (ex_callH Cbeside (hr.mono (by decide)) (P2, P) (by wtm_at "p_ax") okx2) (ax_cons (J := ivD U ap ag H n0) (ex_callH C_law_beside_due (hr.mono (by decide)) (P2, P) (by wtm_at "p_ax") okx2) ax_nil)) (cu okx2)
  refine sx_setE (i := 7) (P := fun P3 : List (List (List Rat)) => ∃ k, 1 ≤ k ∧ n + k ≤ 6 ∧ okLP k P3) (B := isCb K) (J := ivD U ap ag H (n0 + 1 + 2000)) sc__law_beside_right.nd rfl (.inl rfl) (by wtm_at "p_lt") ?_ fun P3 hP3 => ?_
  · refine ex_drawX (As := [exA (fun r : Int => 1 ≤ r ∧ r ≤ (6 - (n : Int))) aInt, isBl false]) C_law_products (hr.mono (by decide)) drw_gD (by wtm_at "p_var") (ax_cons (J := ivD U ap ag H (n0 + 1)) ?_ (by wtm_at "p_ax")) (by omega) fun F vs h => ?_
    · refine ex_addD (J := ivD U ap ag H n0) (P := (· = 1)) (Q := fun r => 0 ≤ r ∧ r < (6 - (n : Int))) (EX.dr ex_int) (ex_pickK (m := (6 - (n : Int))) C_law_pick (hr.mono (by decide)) drw_gD (by wtm_at "p_var") ?_ (by omega) (by omega) (by omega)) (fun i j e h => by subst e; omega)
      refine ex_sub (J := ivD U ap ag H n0) ex_int ?_
      rw [← lm]
      wtm_at "p_ex"
    · obtain ⟨v, r, e1, ⟨z, hz, hv⟩, hrest⟩ := h
      obtain ⟨k, rfl⟩ : ∃ k : Nat, z = (k : Int) := ⟨z.toNat, by omega⟩
      have hk1 : 1 ≤ k := by omega
      have hk6 : n + k ≤ 6 := by omega
      have hkk : k ≤ 6 := by omega
      exact ⟨(k, false), ⟨hk1, hkk⟩, ⟨v, r, e1, hv, hrest⟩, fun F v ⟨Y, hY, eY⟩ => ⟨Y, ⟨k, hk1, hk6, hY⟩, eY⟩⟩
  obtain ⟨k, hk1, hk6, hP3⟩ := hP3
  have okx3 : okBs (P, P3) := ⟨n, k, h1, hk1, hk6, hP, hP3⟩
  have k6 : k ≤ 6 := by omega
  have c3 := okLP_cube hP3 hk1 k6
  have hN1 : n0 + 1 + 2000 + 130 ≤ 2 ^ 60 := by omega
  have hN2 : n0 + 1 + 2000 + 130 ≤ n0 + 2200 := by omega
  generalize hN : n0 + 1 + 2000 = N at hN1 hN2
  have eC : isD K (dCube P3) = isCb K P3 := isD_cube
  show SX _ _ _ [some (isV (.ref ap)), some (isCb K P), some (isCb K P2), some (isTab K C P), some (isTab K C P2), some (isCb K (besP P P2)), some (isTab K C (besP P P2)), some (isCb K P3), none, none] _ _
  refine sx_ifR (J := ivD U ap ag H N) (P := (· = false)) (TX.imp (tx_not (P := (· = true)) (tx_val ?_)) fun k h => nt h) (fun p => by cases p) fun _ => ?_
  · refine ex_callH C_law_is (hr.mono (by decide)) (besP P P3) (ax_cons (J := ivD U ap ag H N) (ex_callH Cbeside (hr.mono (by decide)) (P, P3) (ax_cons (J := ivD U ap ag H N) (by wtm_at "p_var") (ax_cons (J := ivD U ap ag H N) ?_ ax_nil)) okx3) (ax_cons (J := ivD U ap ag H N) (ex_callH C_law_beside_due (hr.mono (by decide)) (P, P3) (by wtm_at "p_ax") okx3) ax_nil)) (cu okx3)
    refine ex_makeI (J := ivD U ap ag H N) CTable_init (hr.mono (by decide)) P3 (ax_cons (J := ivD U ap ag H N) ?_ ax_nil) (okT_of hP3 hk1 k6).1
    exact ex_callH (J := ivD U ap ag H N) (C_law_copied 4) (hr.mono (by decide)) (dCube P3) (ax_cons (J := ivD U ap ag H N) (by rw [eC]; wtm_at "p_var") ax_nil) (okD_cb c3) eC
  refine sx_ifR (J := ivD U ap ag H N) (P := (· = false)) (TX.imp (tx_not (P := (· = true)) (tx_val ?_)) fun k h => nt h) (fun p => by cases p) fun _ => ?_
  · exact ex_callH C_law_is (hr.mono (by decide)) (besP P P2) (ax_cons (J := ivD U ap ag H N) (ex_callH Cbeside (hr.mono (by decide)) (P, P2) (by wtm_at "p_ax") okx) (by wtm_at "p_ax")) (cu okx)
  refine sx_set (i := 8) (J := ivD U ap ag H (N + 30 + 30 + 30 + 30)) (A := isLst K [exA (okRow4 n) (isRow K), exA (okRow4 m) (isRow K), exA (okRow4 n) (isRow K), exA (okRow4 m) (isRow K)]) sc__law_beside_right.nd rfl (.inl rfl) (by wtm_at "p_lt") (ex_lst (ax_cons (J := ivD U ap ag H (N + 30)) ?_ (ax_cons (J := ivD U ap ag H (N + 30 + 30)) ?_ (ax_cons (J := ivD U ap ag H (N + 30 + 30 + 30)) ?_ (ax_cons (J := ivD U ap ag H (N + 30 + 30 + 30 + 30)) ?_ ax_nil)))) (by wtm_at "p_lt")) ?_
  · exact ex_drawX (As := [aInt (n : Int)]) C_law_row (hr.mono (by decide)) drw_gD (by wtm_at "p_var") (ax_cons (J := ivD U ap ag H N) (by rw [← lm]; wtm_at "p_ex") ax_nil) (by omega) fun F vs h => ⟨n, by omega, h, fun _ _ h => h⟩
  · exact ex_drawX (As := [aInt (m : Int)]) C_law_row (hr.mono (by decide)) drw_gD (by wtm_at "p_var") (ax_cons (J := ivD U ap ag H (N + 30)) (by rw [← lm2]; wtm_at "p_ex") ax_nil) (by omega) fun F vs h => ⟨m, by omega, h, fun _ _ h => h⟩
  · exact ex_drawX (As := [aInt (n : Int)]) C_law_row (hr.mono (by decide)) drw_gD (by wtm_at "p_var") (ax_cons (J := ivD U ap ag H (N + 30 + 30)) (by rw [← lm]; wtm_at "p_ex") ax_nil) (by omega) fun F vs h => ⟨n, by omega, h, fun _ _ h => h⟩
  · exact ex_drawX (As := [aInt (m : Int)]) C_law_row (hr.mono (by decide)) drw_gD (by wtm_at "p_var") (ax_cons (J := ivD U ap ag H (N + 30 + 30 + 30)) (by rw [← lm2]; wtm_at "p_ex") ax_nil) (by omega) fun F vs h => ⟨m, by omega, h, fun _ _ h => h⟩
  refine sx_opn 8 rfl (fun F v h => fourX F v h) fun q hq => ?_
  obtain ⟨x1, y1, x2, y2⟩ := q
  obtain ⟨hx1, hy1, hx2, hy2⟩ := hq
  change okRow4 n x1 at hx1
  change okRow4 m y1 at hy1
  change okRow4 n x2 at hx2
  change okRow4 m y2 at hy2
  generalize hM : N + 30 + 30 + 30 + 30 = M
  have out := hR.post (J := ivD U ap ag H M) (ivD_more (by omega))
  have r30 : ∀ {k : Nat} {x : List Rat}, okRow4 k x → ∀ a ∈ x, RB 30 a := fun h a ha => (h.2 a ha).mono (by decide)
  have t1 := isLT_of hP h1 (by omega) hx1.1 hx2.1 (r30 hx1) (r30 hx2)
  have t2 := isLT_of hQ h2 (by omega) hy1.1 hy2.1 (r30 hy1) (r30 hy2)
  have cP := okLP_cube hP h1 (by omega)
  have cQ := okLP_cube hQ h2 (by omega)
  have l1 := tmul_lenT (y := x2) cP (by rw [hx1.1, hPl])
  have l2 := tmul_lenT (y := y2) cQ (by rw [hy1.1, hQl])
  rw [hPl] at l1
  rw [hQl] at l2
  show SX _ _ _ [some (isV (.ref ap)), some (isCb K P), some (isCb K P2), some (isTab K C P), some (isTab K C P2), some (isCb K (besP P P2)), some (isTab K C (besP P P2)), some (isCb K P3), some (isLst K [isRow K x1, isRow K y1, isRow K x2, isRow K y2]), none] _ _
  have ap1 : ∀ {a b : List Rat}, isRow K (a ++ b) = isLst K (a.map (isR K) ++ b.map (isR K)) := fun {a b} => by show isLst K _ = _; rw [List.map_append]
  refine sx_set (i := 9) (J := ivD U ap ag H M) (A := isRow K (tmul P x1 x2 ++ tmul P2 y1 y2)) sc__law_beside_right.nd rfl (.inl rfl) (by wtm_at "p_lt") ?_ ?_
  · rw [ap1]
    exact isNew.lst (ex_catL (J := ivD U ap ag H M) (ex_callH C_law_times (hr.mono (by decide)) (P, x1, x2) (ax_cons (J := ivD U ap ag H M) (by wtm_at "p_var") (ax_cons (J := ivD U ap ag H M) (ex_q0 (I := ivD U ap ag H M) (by wtm_at "p_var")) (ax_cons (J := ivD U ap ag H M) (ex_q2 (I := ivD U ap ag H M) (by wtm_at "p_var")) ax_nil))) t1) (ex_callH C_law_times (hr.mono (by decide)) (P2, y1, y2) (ax_cons (J := ivD U ap ag H M) (by wtm_at "p_var") (ax_cons (J := ivD U ap ag H M) (ex_q1 (I := ivD U ap ag H M) (by wtm_at "p_var")) (ax_cons (J := ivD U ap ag H M) (ex_q3 (I := ivD U ap ag H M) (by wtm_at "p_var")) ax_nil))) t2) (by rw [List.length_map, List.length_map, l1, l2]; omega))
  show SX _ _ _ [some (isV (.ref ap)), some (isCb K P), some (isCb K P2), some (isTab K C P), some (isTab K C P2), some (isCb K (besP P P2)), some (isTab K C (besP P P2)), some (isCb K P3), some (isLst K [isRow K x1, isRow K y1, isRow K x2, isRow K y2]), some (isRow K (tmul P x1 x2 ++ tmul P2 y1 y2))] _ _
  refine sx_ret (J := ivD U ap ag H M) (A := isBl true) ?_ out
  have etm := tmul_bes (okLP_C hP) (okLP_C hQ) hx1.1 hy1.1 hx2.1 hy2.1
  have b30 : ∀ {x y : List Rat}, okRow4 n x → okRow4 m y → ∀ a ∈ x ++ y, RB 30 a := fun hx hy a ha => by
    rcases List.mem_append.mp ha with h | h
    · exact r30 hx a h
    · exact r30 hy a h
  refine ex_alike (dRow (tmul P x1 x2 ++ tmul P2 y1 y2)) (C_law_alike 2) (hr.mono (by decide)) (okD_row (by rw [List.length_append, l1, l2]; omega)) isD_row (J := ivD U ap ag H M) (ex_callI (J := ivD U ap ag H M) (CTable_call (besP P P2)) (hr.mono (by decide)) (by wtm_at "p_var") (x1 ++ y1, x2 ++ y2) (ax_cons (J := ivD U ap ag H M) ?_ (ax_cons (J := ivD U ap ag H M) ?_ ax_nil)) (okPO_of (besP_LP hP hQ) (by omega) h6 (by rw [List.length_append, hx1.1, hy1.1]) (by rw [List.length_append, hx2.1, hy2.1]) (b30 hx1 hy1) (b30 hx2 hy2)) (by show isRow K (tmul (besP P P2) (x1 ++ y1) (x2 ++ y2)) = _; rw [etm])) (by wtm_at "p_var")
  · rw [ap1 (a := x1) (b := y1)]
    refine isNew.lst (ex_catL (J := ivD U ap ag H M) (As := x1.map (isR K)) (Bs := y1.map (isR K)) ?_ ?_ (by rw [List.length_map, List.length_map, hx1.1, hy1.1]; omega))
    · exact (ex_q0 (I := ivD U ap ag H M) (by wtm_at "p_var"))
    · exact (ex_q1 (I := ivD U ap ag H M) (by wtm_at "p_var"))
  · rw [ap1 (a := x2) (b := y2)]
    refine isNew.lst (ex_catL (J := ivD U ap ag H M) (As := x2.map (isR K)) (Bs := y2.map (isR K)) ?_ ?_ (by rw [List.length_map, List.length_map, hx2.1, hy2.1]; omega))
    · exact (ex_q2 (I := ivD U ap ag H M) (by wtm_at "p_var"))
    · exact (ex_q3 (I := ivD U ap ag H M) (by wtm_at "p_var"))
end
section
set_option hygiene false
local macro_rules | `(tactic| wtm_at "p_var") => `(tactic| first
  | ((with_reducible show EX _ _ _ _ (Expr.Name "one" _) _ _); first | exact ex_var (i := 0) rfl (by wtm_at "p_vis") rfl | exact isNew.lst (ex_var (i := 0) rfl (by wtm_at "p_vis") rfl))
  | ((with_reducible show EX _ _ _ _ (Expr.Name "other" _) _ _); first | exact ex_var (i := 1) rfl (by wtm_at "p_vis") rfl | exact isNew.lst (ex_var (i := 1) rfl (by wtm_at "p_vis") rfl)))
abbrev sp_multiplied (K : PySem.W.Frag) : Sp := spF (ι := Rat × Rat) (fun q => [isR K q.1, isR K q.2]) (fun q => RB 4000 q.1 ∧ RB 4000 q.2) (fun q => isR K (q.1 * q.2))
theorem has_multiplied (B : Bl K mg) (D : DefAt K mg "multiplied" S_multiplied) (Clowest : Has Pr w K mg base "lowest" ["above", "below"] (sp_lowest K) 1) : Has Pr w K mg base "multiplied" ["one", "other"] (sp_multiplied K) 2 := by
  obtain ⟨f, fd, F, hm⟩ := D.ex
  refine ⟨f, fd, ⟨_, F⟩, fn_pure F sc_multiplied (fun _ => rfl) fun cdv A outer s H E U q Q hr ho hR => ?_, hm, F.kp, F.binds fun _ _ _ _ _ _ us hl => match us, hl with | [_, _], _ => rfl⟩
  obtain ⟨a, b⟩ := q
  obtain ⟨ha, hb⟩ := ho
  have h1 : ∃ m n, Bits m a.num ∧ Bits n b.num ∧ m + n ≤ 134217728 := bmul ha.1 hb.1 (by decide)
  have da : (a.den : Int).natAbs < 2 ^ 4000 := by simpa using ha.2
  have db : (b.den : Int).natAbs < 2 ^ 4000 := by simpa using hb.2
  have h2 : ∃ m n, Bits m (a.den : Int) ∧ Bits n (b.den : Int) ∧ m + n ≤ 134217728 := bmul da db (by decide)
  have h3 : (a.den : Int) * (b.den : Int) ≠ 0 ∧ Bits 9000 ((a.den : Int) * (b.den : Int)) := by
    refine ⟨fun e => ?_, ?_⟩
    · have := rat_den_pos a
      have := rat_den_pos b
      rcases Int.mul_eq_zero.mp e with e | e <;> omega
    · show (_ : Int).natAbs < _
      rw [Int.natAbs_mul]
      exact Nat.lt_of_lt_of_le (pow_mul_lt da db) (Nat.pow_le_pow_right (by decide) (by decide))
  show SX _ _ _ [some (isR K a), some (isR K b)] _ _
  exact sx_retEq (by wtm_at "p_ex" <;> assumption) hR (by show isR K (Rat.divInt (a.num * b.num) (a.den * b.den)) = _; rw [rat_mul])
end
section
set_option hygiene false
local macro_rules | `(tactic| wtm_at "p_var") => `(tactic| first
  | ((with_reducible show EX _ _ _ _ (Expr.Name "left" _) _ _); first | exact ex_var (i := 0) rfl (by wtm_at "p_vis") rfl | exact isNew.lst (ex_var (i := 0) rfl (by wtm_at "p_vis") rfl))
  | ((with_reducible show EX _ _ _ _ (Expr.Name "right" _) _ _); first | exact ex_var (i := 1) rfl (by wtm_at "p_vis") rfl | exact isNew.lst (ex_var (i := 1) rfl (by wtm_at "p_vis") rfl))
  | ((with_reducible show EX _ _ _ _ (Expr.Name "one" _) _ _); first | exact ex_var (i := 2) rfl (by wtm_at "p_vis") rfl | exact isNew.lst (ex_var (i := 2) rfl (by wtm_at "p_vis") rfl))
  | ((with_reducible show EX _ _ _ _ (Expr.Name "other" _) _ _); first | exact ex_var (i := 3) rfl (by wtm_at "p_vis") rfl | exact isNew.lst (ex_var (i := 3) rfl (by wtm_at "p_vis") rfl)))
-- needs multiplied
-- import M9
abbrev sp__all_by_all (K : PySem.W.Frag) : Sp := spF (ι := List Rat × List Rat) (fun q => [isRow K q.1, isRow K q.2]) (fun q => (∀ a ∈ q.1, RB 4000 a) ∧ (∀ a ∈ q.2, RB 4000 a) ∧ q.1.length * q.2.length ≤ 100000) (fun q => isRow K (cro q.1 q.2))
theorem cro_map {K : PySem.W.Frag} {l r : List Rat} : (cro l r).map (isR K) = l.flatMap fun a => r.map fun b => isR K (a * b) := by
  unfold cro
  rw [List.map_flatMap]
  congr 1
  funext a
  rw [List.map_map]
  rfl
theorem has__all_by_all (B : Bl K mg) (D : DefAt K mg "_all_by_all" S__all_by_all) (Cmultiplied : Has Pr w K mg base "multiplied" ["one", "other"] (sp_multiplied K) 2) : Has Pr w K mg base "_all_by_all" ["left", "right"] (sp__all_by_all K) 3 := by
  obtain ⟨f, fd, F, hm⟩ := D.ex
  refine ⟨f, fd, ⟨_, F⟩, fn_pure F sc__all_by_all (fun _ => rfl) fun cdv A outer s H E U q Q hr ho hR => ?_, hm, F.kp, F.binds fun _ _ _ _ _ _ us hl => match us, hl with | [_, _], _ => rfl⟩
  obtain ⟨l, r⟩ := q
  obtain ⟨hl, hr2, hz⟩ := ho
  change ∀ a ∈ l, RB 4000 a at hl
  change ∀ a ∈ r, RB 4000 a at hr2
  change l.length * r.length ≤ 100000 at hz
  change Ret _ _ (isRow K (cro l r)) _ at hR
  show SX _ _ _ [some (isRow K l), some (isRow K r), none, none] _ _
  refine sx_ret (J := ivT _) (A := isRow K (cro l r)) (isNew.lst (NX.ex ?_)) hR
  rw [cro_map]
  refine nx_lc2 (j0 := 2) (j1 := 3) (J := ivT _) (fA := isR K) (fB := fun _ b => isR K b) (fE := fun a b => isR K (a * b)) (m := fun _ => r) rfl sc__all_by_all.nd (ix_list' (by wtm_at "p_ex")) (show blkC n__all_by_all (defScope S__all_by_all) _ _ = true from by decide +kernel) (by decide) rfl rfl
    (fun _ _ _ _ _ => pg_name (i := 2) sc__all_by_all.nd rfl (.inl rfl)) (fun _ _ _ _ _ => pg_name (i := 3) sc__all_by_all.nd rfl (.inl rfl)) (by rw [flat_len (m := r.length) l fun a _ => List.length_map _]; exact hz) (fun D a ha s H' C' cl fp => ?_) fun D a b ha hb s H' C' cl fp => ?_
  · show IX _ _ _ [some (isRow K l), some (isRow K r), some (isR K a), none] _ _ _ _
    exact ix_list' (by wtm_at "p_ex")
  · show EX _ _ _ [some (isRow K l), some (isRow K r), some (isR K a), some (isR K b)] _ _ _
    exact ex_callH Cmultiplied (hr.mono (by decide)) (a, b) (by wtm_at "p_ax") ⟨hl a ha, hr2 b hb⟩
end
section
set_option hygiene false
local macro_rules | `(tactic| wtm_at "p_var") => `(tactic| first
  | ((with_reducible show EX _ _ _ _ (Expr.Name "one" _) _ _); first | exact ex_var (i := 0) rfl (by wtm_at "p_vis") rfl | exact isNew.lst (ex_var (i := 0) rfl (by wtm_at "p_vis") rfl))
  | ((with_reducible show EX _ _ _ _ (Expr.Name "other" _) _ _); first | exact ex_var (i := 1) rfl (by wtm_at "p_vis") rfl | exact isNew.lst (ex_var (i := 1) rfl (by wtm_at "p_vis") rfl))
  | ((with_reducible show EX _ _ _ _ (Expr.Name "rights" _) _ _); first | exact ex_var (i := 2) rfl (by wtm_at "p_vis") rfl | exact isNew.lst (ex_var (i := 2) rfl (by wtm_at "p_vis") rfl))
  | ((with_reducible show EX _ _ _ _ (Expr.Name "left" _) _ _); first | exact ex_var (i := 3) rfl (by wtm_at "p_vis") rfl | exact isNew.lst (ex_var (i := 3) rfl (by wtm_at "p_vis") rfl))
  | ((with_reducible show EX _ _ _ _ (Expr.Name "right" _) _ _); first | exact ex_var (i := 4) rfl (by wtm_at "p_vis") rfl | exact isNew.lst (ex_var (i := 4) rfl (by wtm_at "p_vis") rfl))
  | ((with_reducible show EX _ _ _ _ (Expr.Name "lefts" _) _ _); first | exact ex_var (i := 5) rfl (by wtm_at "p_vis") rfl | exact isNew.lst (ex_var (i := 5) rfl (by wtm_at "p_vis") rfl))
  | ((with_reducible show EX _ _ _ _ (Expr.Name "others" _) _ _); first | exact ex_var (i := 6) rfl (by wtm_at "p_vis") rfl | exact isNew.lst (ex_var (i := 6) rfl (by wtm_at "p_vis") rfl)))
-- needs okc
-- needs _all_by_all
-- needs Table_products
abbrev okCrX (q : List (List (List Rat)) × List (List (List Rat))) : Prop := ∃ n m, 1 ≤ n ∧ 1 ≤ m ∧ n * m ≤ 6 ∧ okLP n q.1 ∧ okLP m q.2
abbrev sp_crossed (K : PySem.W.Frag) (C : Addr) : Sp := spF (ι := List (List (List Rat)) × List (List (List Rat))) (fun q => [isTab K C q.1, isTab K C q.2]) okCrX (fun q => isTab K C (croP q.1 q.2))
theorem le6 {n m : Nat} (h1 : 1 ≤ n) (h2 : 1 ≤ m) (h : n * m ≤ 6) : 1 ≤ n * m ∧ n ≤ 6 ∧ m ≤ 6 := ⟨Nat.mul_pos h1 h2, Nat.le_trans (Nat.le_mul_of_pos_right n h2) h, Nat.le_trans (Nat.le_mul_of_pos_left m h1) h⟩
theorem has_crossed {C : Addr} (B : Bl K mg) (T : TabAt K mg C) (D : DefAt K mg "crossed" S_crossed) (C_all_by_all : Has Pr w K mg base "_all_by_all" ["left", "right"] (sp__all_by_all K) 3) (CTable_init : HasI Pr w K mg base C "Table" ["self", "products"] (spI C (fun P : List (List (List Rat)) => [isCb K P]) okT (flT K)) 5)
    (CTable_products : HasP Pr w K mg base C "products" ["self"] (spF (fun P : List (List (List Rat)) => [isTab K C P]) okCube (fun P => isCb K P)) 2) : Has Pr w K mg base "crossed" ["one", "other"] (sp_crossed K C) 7 := by
  obtain ⟨f, fd, F, hm⟩ := D.ex
  refine ⟨f, fd, ⟨_, F⟩, fn_pure F sc_crossed (fun _ => rfl) fun cdv A outer s H E U q Q hr ho hR => ?_, hm, F.kp, F.binds fun _ _ _ _ _ _ us hl => match us, hl with | [_, _], _ => rfl⟩
  obtain ⟨P, P2⟩ := q
  obtain ⟨n, m, h1, h2, h6, hP, hQ⟩ := ho
  change okLP n P at hP
  change okLP m P2 at hQ
  change Ret _ _ (isTab K C (croP P P2)) _ at hR
  obtain ⟨k1, k2, k3⟩ := le6 h1 h2 h6
  have cP := okLP_cube hP h1 k2
  have cQ := okLP_cube hQ h2 k3
  have hPl := hP.1
  have hQl := hQ.1
  show SX _ _ _ [some (isTab K C P), some (isTab K C P2), none, none, none, none, none] _ _
  refine sx_set (i := 2) (J := ivT _) (A := isCb K P2) sc_crossed.nd rfl (.inr rfl) (by wtm_at "p_lt") (ex_propI CTable_products T.cls (hr.mono (by decide)) P2 (by wtm_at "p_var") cQ) ?_
  show SX _ _ _ [some (isTab K C P), some (isTab K C P2), some (isCb K P2), none, none, none, none] _ _
  refine sx_ret (J := ivT _) (A := isTab K C (croP P P2)) (ex_makeI (J := ivT _) CTable_init (hr.mono (by decide)) (croP P P2) (ax_cons (J := ivT _) (isNew.lst (NX.ex ?_)) ax_nil) (croP_T hP hQ k1 h6).1) hR
  have e : (croP P P2).map (isRows K) = P.flatMap fun L => P2.map fun O => isLst K (L.flatMap fun l => O.map fun r => isRow K (cro l r)) := by
    unfold croP
    rw [List.map_flatMap]
    congr 1
    funext L
    rw [List.map_map]
    apply List.map_congr_left
    intro O _
    show isLst K _ = isLst K _
    rw [List.map_flatMap]
    congr 1
    apply congrArg (fun g => L.flatMap g)
    funext l
    rw [List.map_map]
    rfl
  rw [e]
  refine nx_lc2 (j0 := 5) (j1 := 6) (J := ivT _) (fA := isRows K) (fB := fun _ b => isRows K b) (fE := fun L O => isLst K (L.flatMap fun l => O.map fun r => isRow K (cro l r))) (m := fun _ => P2) rfl sc_crossed.nd (ix_list' (ex_propI CTable_products T.cls (hr.mono (by decide)) P (by wtm_at "p_var") cP)) (show blkC n_crossed (defScope S_crossed) _ _ = true from by decide +kernel) (by decide) rfl rfl
    (fun _ _ _ _ _ => pg_name (i := 5) sc_crossed.nd rfl (.inl rfl)) (fun _ _ _ _ _ => pg_name (i := 6) sc_crossed.nd rfl (.inr rfl)) (by rw [flat_len (m := P2.length) P fun a _ => List.length_map _, hPl, hQl]; omega) (fun D a ha s H' C' cl fp => ?_) fun D a b ha hb s H' C' cl fp => ?_
  · show IX _ _ _ [some (isTab K C P), some (isTab K C P2), some (isCb K P2), none, none, some (isRows K a), none] _ _ _ _
    exact ix_list' (by wtm_at "p_ex")
  · have ra := hP.2 a ha
    have rb := hQ.2 b hb
    show EX _ _ _ [some (isTab K C P), some (isTab K C P2), some (isCb K P2), none, none, some (isRows K a), some (isRows K b)] _ (isLst K (a.flatMap fun l => b.map fun r => isRow K (cro l r))) _
    refine isNew.lst (NX.ex ?_)
    refine nx_lc2 (G := (gP U H).lk D) (j0 := 3) (j1 := 4) (J := ivT _) (fA := isRow K) (fB := fun _ b => isRow K b) (fE := fun l r => isRow K (cro l r)) (m := fun _ => b) rfl sc_crossed.nd (ix_list' (by wtm_at "p_ex")) (show blkC n_crossed (relS _ (defScope S_crossed)) _ _ = true from by decide +kernel) (by decide) rfl rfl
      (fun _ _ _ _ _ => pg_name (i := 3) sc_crossed.nd rfl (.inl rfl)) (fun _ _ _ _ _ => pg_name (i := 4) sc_crossed.nd rfl (.inl rfl)) (by rw [flat_len (m := b.length) a fun a _ => List.length_map _, ra.1, rb.1]; omega) (fun D2 l hl s H' C' cl fp => ?_) fun D2 l r hl hr2 s H' C' cl fp => ?_
    · show IX _ _ _ [some (isTab K C P), some (isTab K C P2), some (isCb K P2), some (isRow K l), none, some (isRows K a), some (isRows K b)] _ _ _ _
      exact ix_list' (by wtm_at "p_ex")
    · show EX _ _ _ [some (isTab K C P), some (isTab K C P2), some (isCb K P2), some (isRow K l), some (isRow K r), some (isRows K a), some (isRows K b)] _ _ _
      exact ex_callH C_all_by_all (hr.mono (by decide)) (l, r) (by wtm_at "p_ax") ⟨fun x hx => ((ra.2 l hl).2 x hx).mono (by decide), fun x hx => ((rb.2 r hr2).2 x hx).mono (by decide), by show l.length * r.length ≤ _; rw [(ra.2 l hl).1, (rb.2 r hr2).1]; omega⟩
end
section
-- needs mixmath
theorem getIJ {n : Nat} {P : List (List (List Rat))} (hP : okLP n P) {i j : Nat} (hi : i < n) (hj : j < n) : P[i]? = some (P.getD i []) ∧ (P.getD i [])[j]? = some ((P.getD i []).getD j []) ∧ okRow n ((P.getD i []).getD j []) := by
  have hP1 := hP.1
  have e1 : P[i]? = some (P.getD i []) := by rw [List.getD_eq_getElem?_getD, List.getElem?_eq_getElem (by omega)]; rfl
  have r := hP.2 _ (List.mem_of_getElem? e1)
  have r1 := r.1
  have e2 : (P.getD i [])[j]? = some ((P.getD i []).getD j []) := by rw [List.getD_eq_getElem?_getD (l := P.getD i []), List.getElem?_eq_getElem (by omega)]; rfl
  exact ⟨e1, e2, r.2 _ (List.mem_of_getElem? e2)⟩
section
variable {X : Cx} {G : Gx} {I J L : Iv G.M} {Γ : Slots} {e a b : Expr} {p1 p2 : Pos}
/-- e[i][j] of a list of lists of rows -/
theorem ex_ij {n : Nat} {P : List (List (List Rat))} (hP : okLP n P) {i j : Nat} (hi : i < n) (hj : j < n) (he : EX X G I Γ e (isLst X.K (P.map (isRows X.K))) I) (ha : EX X G I Γ a (aInt ((i : Nat) : Int)) I) (hb : EX X G I Γ b (aInt ((j : Nat) : Int)) I) (h1 : PlainIx a := by exact fun _ _ => rfl) (h2 : PlainIx b := by exact fun _ _ => rfl) :
    EX X G I Γ (.Subscript (.Subscript e a p1) b p2) (isRow X.K ((P.getD i []).getD j [])) I := by
  obtain ⟨e1, e2, _⟩ := getIJ hP hi hj
  exact ex_ixL (J := I) (k := j) (As := (P.getD i []).map (isRow X.K)) h2 (ex_ixL (J := I) (k := i) (As := P.map (isRows X.K)) h1 he ha rfl (by rw [List.getElem?_map, e1]; rfl)) hb rfl (by rw [List.getElem?_map, e2]; rfl)
end
end
section
set_option hygiene false
local macro_rules | `(tactic| wtm_at "p_var") => `(tactic| first
  | ((with_reducible show EX _ _ _ _ (Expr.Name "_law_one" _) _ _); first | exact ex_var (i := 0) rfl (by wtm_at "p_vis") rfl | exact isNew.lst (ex_var (i := 0) rfl (by wtm_at "p_vis") rfl))
  | ((with_reducible show EX _ _ _ _ (Expr.Name "_law_other" _) _ _); first | exact ex_var (i := 1) rfl (by wtm_at "p_vis") rfl | exact isNew.lst (ex_var (i := 1) rfl (by wtm_at "p_vis") rfl))
  | ((with_reducible show EX _ _ _ _ (Expr.Name "_law_many" _) _ _); first | exact ex_var (i := 2) rfl (by wtm_at "p_vis") rfl | exact isNew.lst (ex_var (i := 2) rfl (by wtm_at "p_vis") rfl))
  | ((with_reducible show EX _ _ _ _ (Expr.Name "_law_found" _) _ _); first | exact ex_var (i := 3) rfl (by wtm_at "p_vis") rfl | exact isNew.lst (ex_var (i := 3) rfl (by wtm_at "p_vis") rfl))
  | ((with_reducible show EX _ _ _ _ (Expr.Name "_law_spot" _) _ _); first | exact ex_var (i := 4) rfl (by wtm_at "p_vis") rfl | exact isNew.lst (ex_var (i := 4) rfl (by wtm_at "p_vis") rfl))
  | ((with_reducible show EX _ _ _ _ (Expr.Name "_law_lines" _) _ _); first | exact ex_var (i := 5) rfl (by wtm_at "p_vis") rfl | exact isNew.lst (ex_var (i := 5) rfl (by wtm_at "p_vis") rfl))
  | ((with_reducible show EX _ _ _ _ (Expr.Name "_law_place" _) _ _); first | exact ex_var (i := 6) rfl (by wtm_at "p_vis") rfl | exact isNew.lst (ex_var (i := 6) rfl (by wtm_at "p_vis") rfl))
  | ((with_reducible show EX _ _ _ _ (Expr.Name "_law_first" _) _ _); first | exact ex_var (i := 7) rfl (by wtm_at "p_vis") rfl | exact isNew.lst (ex_var (i := 7) rfl (by wtm_at "p_vis") rfl))
  | ((with_reducible show EX _ _ _ _ (Expr.Name "_law_second" _) _ _); first | exact ex_var (i := 8) rfl (by wtm_at "p_vis") rfl | exact isNew.lst (ex_var (i := 8) rfl (by wtm_at "p_vis") rfl)))
-- needs crossed
-- needs _law_crossed
-- needs getij
-- import P25
theorem int_mod {X : Cx} {a b : Nat} (h : 0 < b) : (((a : Nat) : Int).fmod ((b : Nat) : Int)) = ((a % b : Nat) : Int) ∧ (((a : Nat) : Int).fdiv ((b : Nat) : Int)) = ((a / b : Nat) : Int) := by
  constructor
  · rw [Int.fmod_eq_emod_of_nonneg _ (by omega)]; rfl
  · rw [Int.fdiv_eq_ediv_of_nonneg _ (by omega)]; rfl
theorem croP_get {n m : Nat} {P Q : List (List (List Rat))} (hP : okLP n P) (hQ : okLP m Q) {i j : Nat} (hi : i < n * m) (hj : j < n * m) : ((croP P Q).getD i []).getD j [] = cro ((P.getD (i / m) []).getD (j / m) []) ((Q.getD (i % m) []).getD (j % m) []) := by
  have hm : 0 < m := by
    rcases Nat.eq_zero_or_pos m with h | h
    · rw [h] at hi; omega
    · exact h
  have i1 : i / m < n := (Nat.div_lt_iff_lt_mul hm).mpr hi
  have i2 : i % m < m := Nat.mod_lt _ hm
  have j1 : j / m < n := (Nat.div_lt_iff_lt_mul hm).mpr hj
  have j2 : j % m < m := Nat.mod_lt _ hm
  have ei : i / m * m + i % m = i := by rw [Nat.mul_comm]; exact Nat.div_add_mod i m
  have ej : j / m * m + j % m = j := by rw [Nat.mul_comm]; exact Nat.div_add_mod j m
  have hPl := hP.1
  have hQl := hQ.1
  have a1 : P[i / m]? = some (P.getD (i / m) []) := by rw [List.getD_eq_getElem?_getD, List.getElem?_eq_getElem (by omega)]; rfl
  have a2 : Q[i % m]? = some (Q.getD (i % m) []) := by rw [List.getD_eq_getElem?_getD, List.getElem?_eq_getElem (by omega)]; rfl
  have rP := hP.2 _ (List.mem_of_getElem? a1)
  have rQ := hQ.2 _ (List.mem_of_getElem? a2)
  have rP1 := rP.1
  have rQ1 := rQ.1
  have b1 : (P.getD (i / m) [])[j / m]? = some ((P.getD (i / m) []).getD (j / m) []) := by rw [List.getD_eq_getElem?_getD (l := P.getD (i / m) []), List.getElem?_eq_getElem (by omega)]; rfl
  have b2 : (Q.getD (i % m) [])[j % m]? = some ((Q.getD (i % m) []).getD (j % m) []) := by rw [List.getD_eq_getElem?_getD (l := Q.getD (i % m) []), List.getElem?_eq_getElem (by omega)]; rfl
  have e1 : (croP P Q)[i]? = some ((P.getD (i / m) []).flatMap fun l => (Q.getD (i % m) []).map fun r => cro l r) := by
    unfold croP
    rw [flatMap_flat]
    have := cell (n := m) (L := P.map fun L => Q.map fun O => L.flatMap fun l => O.map fun r => cro l r) (i := i / m) (j := i % m) (fun r hr => by obtain ⟨L, _, rfl⟩ := List.mem_map.mp hr; rw [List.length_map, hQl]) (by rw [List.getElem?_map, a1]; rfl) (by rw [List.getElem?_map, a2]; rfl)
    rw [ei] at this
    exact this
  have e2 : ((P.getD (i / m) []).flatMap fun l => (Q.getD (i % m) []).map fun r => cro l r)[j]? = some (cro ((P.getD (i / m) []).getD (j / m) []) ((Q.getD (i % m) []).getD (j % m) [])) := by
    rw [flatMap_flat]
    have := cell (n := m) (L := (P.getD (i / m) []).map fun l => (Q.getD (i % m) []).map fun r => cro l r) (i := j / m) (j := j % m) (fun r hr => by obtain ⟨L, _, rfl⟩ := List.mem_map.mp hr; rw [List.length_map, rQ1]) (by rw [List.getElem?_map, b1]; rfl) (by rw [List.getElem?_map, b2]; rfl)
    rw [ej] at this
    exact this
  rw [List.getD_eq_getElem?_getD (l := croP P Q), e1]
  show List.getD ((P.getD (i / m) []).flatMap fun l => (Q.getD (i % m) []).map fun r => cro l r) j [] = _
  rw [List.getD_eq_getElem?_getD, e2]
  rfl
abbrev sp__law_crossed_due (K : PySem.W.Frag) : Sp := spF (ι := List (List (List Rat)) × List (List (List Rat))) (fun q => [isCb K q.1, isCb K q.2]) okCrX (fun q => isCb K (croP q.1 q.2))
theorem has__law_crossed_due (B : Bl K mg) (D : DefAt K mg "_law_crossed_due" S__law_crossed_due) (C_law_crossed : Has Pr w K mg base "_law_crossed" ["_law_one", "_law_other"] (sp__law_crossed K) 3) : Has Pr w K mg base "_law_crossed_due" ["_law_one", "_law_other"] (sp__law_crossed_due K) 4 := by
  obtain ⟨f, fd, F, hm⟩ := D.ex
  refine ⟨f, fd, ⟨_, F⟩, fn_pure F sc__law_crossed_due (fun _ => rfl) fun cdv A outer s H E U q Q hr ho hR => ?_, hm, F.kp, F.binds fun _ _ _ _ _ _ us hl => match us, hl with | [_, _], _ => rfl⟩
  obtain ⟨P, P2⟩ := q
  obtain ⟨n, m, h1, h2, h6, hP, hQ⟩ := ho
  change okLP n P at hP
  change okLP m P2 at hQ
  change Ret _ _ (isCb K (croP P P2)) _ at hR
  obtain ⟨k1, k2, k3⟩ := le6 h1 h2 h6
  have hPl := hP.1
  have hQl := hQ.1
  have hC := croP_C (okLP_C hP) (okLP_C hQ)
  have lC := hC.1
  have lm : ((P.map (isRows K)).length : Int) = (n : Int) := by rw [List.length_map, hPl]
  have lm2 : ((P2.map (isRows K)).length : Int) = (m : Int) := by rw [List.length_map, hQl]
  have hm0 : (m : Int) ≠ 0 := by omega
  have hmb : Bits 9000 (m : Int) := Nat.lt_of_lt_of_le (m := 2 ^ 3) (by rw [Int.natAbs_natCast]; omega) (Nat.pow_le_pow_right (by decide) (by decide))
  show SX _ _ _ [some (isCb K P), some (isCb K P2), none, none, none, none, none, none, none] _ _
  refine sx_parOwn (i := 2) (j := 3) (P := fun r : Int => r = (m : Int)) (A' := aInt) (J := ivT _) (K := ivT _) (Bs := []) rfl sc__law_crossed_due.nd rfl rfl (by decide) rfl rfl (by wtm_at "p_lt") (by wtm_at "p_lt") (by refine EX.dr ?_; rw [← lm2]; wtm_at "p_ex") (nx_lst ax_nil (by decide)) (fun mz FA vs0 hF pk hUF hlen => ?_) (by rfl)
  subst pk
  have e0 : vs0 = [] := by cases vs0 with
    | nil => rfl
    | cons _ _ => simp at hlen
  subst e0
  have hMF : ¬ (gP U H).M FA := fun h => hUF (.inl h)
  show SX _ _ _ [some (isCb K P), some (isCb K P2), some (aInt (m : Int)), some (isOwn FA [] []), none, none, none, none, none] _ _
  refine sx_forNX (ι := List V) (G := (gP U H).own FA hF) (l := List.range (n * m)) (fA := fun i => aInt ((i : Nat) : Int)) 4 (fun k y => (ivT _).own FA y) (fun k y => [some (isCb K P), some (isCb K P2), some (aInt (m : Int)), some (isOwn FA y (((croP P P2).take k).map (isRows K))), none, none, none, none, none]) (fun k y => True) [] PassesOwn.never rfl sc__law_crossed_due.nd rfl (.inl rfl) (.inr rfl) ((ix_range (n := n * m) (by rfl) B.range (by
    rw [Int.natCast_mul]
    exact ex_mul (G := (gP U H).own FA hF) (J := (ivT _).own FA []) (by rw [← lm]; wtm_at "p_ex") (by wtm_at "p_var") (bmul (m := 10) (n := 10) (by rw [Int.natAbs_natCast]; omega) (by rw [Int.natAbs_natCast]; omega) (by decide))) (by omega)).cast rfl) True.intro ?_ (fun _ _ => by wtm_at "p_lt") (fun H1 Γ1 σ1 i y i' ei mi hi py k1 => ?_) fun y py => ?_
  · exact ⟨fun _ _ h => h, fun _ _ h => h, fun _ _ h => h, fun _ _ h => h, True.intro⟩
  · rw [List.length_range] at hi
    have ei' : i' = i := by rw [List.getElem?_range hi] at ei; exact (Option.some.inj ei).symm
    subst ei'
    obtain ⟨mi1, mi2⟩ := int_mod (X := cxF Pr w K mg base n__law_crossed_due "_law_crossed_due" (defScope S__law_crossed_due) f cdv A outer s H E) (a := i') (b := m) h2
    have d1 : i' / m < n := (Nat.div_lt_iff_lt_mul h2).mpr hi
    have d2 : i' % m < m := Nat.mod_lt _ h2
    have eC : (croP P P2)[i']? = some ((croP P P2).getD i' []) := by rw [List.getD_eq_getElem?_getD, List.getElem?_eq_getElem (by omega)]; rfl
    have rC := hC.2 _ (List.mem_of_getElem? eC)
    have rC1 := rC.1
    generalize hRo : (croP P P2).getD i' [] = Ro at eC rC rC1
    show SX _ _ _ [some (isCb K P), some (isCb K P2), some (aInt (m : Int)), some (isOwn FA y (((croP P P2).take i').map (isRows K))), some (aInt ((i' : Nat) : Int)), none, none, none, none] _ _
    refine sx_own (G := ((gP U H).own FA hF).re H1) (i := 5) (J := (ivT _).own FA y) (As := []) sc__law_crossed_due.nd rfl (.inl rfl) (by wtm_at "p_lt") (nx_lst ax_nil (by decide)) fun LA vs1 hL hUL hlen1 => ?_
    have e1 : vs1 = [] := by cases vs1 with
      | nil => rfl
      | cons _ _ => simp at hlen1
    subst e1
    have hML : ¬ (((gP U H).own FA hF).re H1).M LA := fun h => hUL (.inl h)
    show SX _ _ _ [some (isCb K P), some (isCb K P2), some (aInt (m : Int)), some (isOwn FA y (((croP P P2).take i').map (isRows K))), some (aInt ((i' : Nat) : Int)), some (isOwn LA [] []), none, none, none] _ _
    refine sx_forNX (ι := List V) (G := (((gP U H).own FA hF).re H1).own LA hL) (l := List.range (n * m)) (fA := fun i => aInt ((i : Nat) : Int)) 6 (fun k z => ((ivT _).own FA y).own LA z) (fun k z => [some (isCb K P), some (isCb K P2), some (aInt (m : Int)), some (isOwn FA y (((croP P P2).take i').map (isRows K))), some (aInt ((i' : Nat) : Int)), some (isOwn LA z ((Ro.take k).map (isRow K))), none, none, none]) (fun k z => True) [] PassesOwn.never rfl sc__law_crossed_due.nd rfl (.inl rfl) (.inr rfl) ((ix_range (n := n * m) (by rfl) B.range (by
      rw [Int.natCast_mul]
      exact ex_mul (G := (((gP U H).own FA hF).re H1).own LA hL) (J := ((ivT _).own FA y).own LA []) (by rw [← lm]; wtm_at "p_ex") (by wtm_at "p_var") (bmul (m := 10) (n := 10) (by rw [Int.natAbs_natCast]; omega) (by rw [Int.natAbs_natCast]; omega) (by decide))) (by omega)).cast rfl) True.intro ?_ (fun _ _ => by wtm_at "p_lt") (fun H2 Γ2 σ2 j z j' ej mj hj pz k2 => ?_) fun z pz => ?_
    · exact ⟨fun _ _ h => h, fun _ _ h => h, fun _ _ h => h, fun _ _ h => h, fun _ _ h => h, fun _ _ h => h, True.intro⟩
    · rw [List.length_range] at hj
      have ej' : j' = j := by rw [List.getElem?_range hj] at ej; exact (Option.some.inj ej).symm
      subst ej'
      obtain ⟨mj1, mj2⟩ := int_mod (X := cxF Pr w K mg base n__law_crossed_due "_law_crossed_due" (defScope S__law_crossed_due) f cdv A outer s H E) (a := j') (b := m) h2
      have c1 : j' / m < n := (Nat.div_lt_iff_lt_mul h2).mpr hj
      have c2 : j' % m < m := Nat.mod_lt _ h2
      have eg := croP_get hP hQ hi hj
      rw [hRo] at eg
      have er : Ro[j']? = some (cro ((P.getD (i' / m) []).getD (j' / m) []) ((P2.getD (i' % m) []).getD (j' % m) [])) := by rw [← eg, List.getD_eq_getElem?_getD, List.getElem?_eq_getElem (by omega)]; rfl
      have g1 := getIJ hP d1 c1
      have g2 := getIJ hQ d2 c2
      obtain ⟨g11, g12, g13⟩ := g1
      obtain ⟨g21, g22, g23⟩ := g2
      generalize hl1 : (P.getD (i' / m) []).getD (j' / m) [] = l1 at er g12 g13
      generalize hl2 : (P2.getD (i' % m) []).getD (j' % m) [] = l2 at er g22 g23
      generalize hp1 : P.getD (i' / m) [] = p1 at g11 g12
      generalize hp2 : P2.getD (i' % m) [] = p2 at g21 g22
      show SX _ _ _ [some (isCb K P), some (isCb K P2), some (aInt (m : Int)), some (isOwn FA y (((croP P P2).take i').map (isRows K))), some (aInt ((i' : Nat) : Int)), some (isOwn LA z ((Ro.take j').map (isRow K))), some (aInt ((j' : Nat) : Int)), none, none] _ _
      refine sx_par (G := ((((gP U H).own FA hF).re H1).own LA hL).re H2) (i := 7) (j := 8) (J := ((ivT _).own FA y).own LA z) (K := ((ivT _).own FA y).own LA z) (A := isRow K l1) (B := isRow K l2) rfl sc__law_crossed_due.nd rfl rfl (by decide) rfl rfl (by wtm_at "p_lt") (by wtm_at "p_lt") ?_ ?_ ?_ (by rfl)
      · refine ex_ixL (G := ((((gP U H).own FA hF).re H1).own LA hL).re H2) (J := ((ivT _).own FA y).own LA z) (k := j' / m) (As := p1.map (isRow K)) (fun _ _ => rfl) (ex_ixL (G := ((((gP U H).own FA hF).re H1).own LA hL).re H2) (J := ((ivT _).own FA y).own LA z) (k := i' / m) (As := P.map (isRows K)) (fun _ _ => rfl) (by wtm_at "p_var") ?_ mi2 (by rw [List.getElem?_map, g11]; rfl)) ?_ mj2 (by rw [List.getElem?_map, g12]; rfl)
        · exact ex_fdiv (G := ((((gP U H).own FA hF).re H1).own LA hL).re H2) (J := ((ivT _).own FA y).own LA z) (by wtm_at "p_var") (by wtm_at "p_var") hm0 hmb
        · exact ex_fdiv (G := ((((gP U H).own FA hF).re H1).own LA hL).re H2) (J := ((ivT _).own FA y).own LA z) (by wtm_at "p_var") (by wtm_at "p_var") hm0 hmb
      · refine ex_ixL (G := ((((gP U H).own FA hF).re H1).own LA hL).re H2) (J := ((ivT _).own FA y).own LA z) (k := j' % m) (As := p2.map (isRow K)) (fun _ _ => rfl) (ex_ixL (G := ((((gP U H).own FA hF).re H1).own LA hL).re H2) (J := ((ivT _).own FA y).own LA z) (k := i' % m) (As := P2.map (isRows K)) (fun _ _ => rfl) (by wtm_at "p_var") ?_ mi1 (by rw [List.getElem?_map, g21]; rfl)) ?_ mj1 (by rw [List.getElem?_map, g22]; rfl)
        · exact ex_mod (G := ((((gP U H).own FA hF).re H1).own LA hL).re H2) (J := ((ivT _).own FA y).own LA z) (ex_intI (by rfl) B.int (by wtm_at "p_var")) (by wtm_at "p_var") hm0
        · exact ex_mod (G := ((((gP U H).own FA hF).re H1).own LA hL).re H2) (J := ((ivT _).own FA y).own LA z) (ex_intI (by rfl) B.int (by wtm_at "p_var")) (by wtm_at "p_var") hm0
      show SX _ _ _ [some (isCb K P), some (isCb K P2), some (aInt (m : Int)), some (isOwn FA y (((croP P P2).take i').map (isRows K))), some (aInt ((i' : Nat) : Int)), some (isOwn LA z ((Ro.take j').map (isRow K))), some (aInt ((j' : Nat) : Int)), some (isRow K l1), some (isRow K l2)] _ _
      have eT : (Ro.take (j' + 1)).map (isRow K) = (Ro.take j').map (isRow K) ++ [isRow K (cro l1 l2)] := by rw [take_succ_get er, List.map_append]; rfl
      rw [eT]
      refine sx_append (G := ((((gP U H).own FA hF).re H1).own LA hL).re H2) (I := ((ivT _).own FA y).own LA z) (K := ((ivT _).own FA y).own LA z) (I' := fun us => ((ivT _).own FA y).own LA us) (A := isRow K (cro l1 l2)) 5 (by wtm_at "p_lt") (owns_top hML) (by wtm_at "p_var") ?_ rfl (by rw [List.length_map, List.length_take]; omega) (owns_top hML) fun v => sx_nil fun σ H k => ⟨z ++ [v], True.intro, k.low ⟨fun _ _ h => h, fun _ _ h => h, fun _ _ h => h, fun _ _ h => h, fun _ _ h => h, fun _ _ h => h, True.intro⟩⟩
      exact ex_callH C_law_crossed (hr.mono (by decide)) (l1, l2) (by wtm_at "p_ax") ⟨fun a ha => (g13.2 a ha).rd (by decide) (by decide), fun a ha => (g23.2 a ha).rd (by decide) (by decide), by show l1.length ≤ 100; rw [g13.1]; omega, by show l2.length ≤ 100; rw [g23.1]; omega⟩
    · rw [List.length_range, List.take_of_length_le (l := Ro) (by omega)]
      refine sx_free 5 hUL rfl ?_
      show SX _ _ _ [some (isCb K P), some (isCb K P2), some (aInt (m : Int)), some (isOwn FA y (((croP P P2).take i').map (isRows K))), some (aInt ((i' : Nat) : Int)), some (isNew (Ro.map (isRow K))), none, none, none] _ _
      have eT : ((croP P P2).take (i' + 1)).map (isRows K) = ((croP P P2).take i').map (isRows K) ++ [isRows K Ro] := by rw [take_succ_get eC, List.map_append]; rfl
      rw [eT]
      refine sx_append (G := ((gP U H).own FA hF).re H1) (I := (ivT _).own FA y) (K := (ivT _).own FA y) (I' := fun us => (ivT _).own FA us) (A := isRows K Ro) 3 (by wtm_at "p_lt") (owns_top hMF) (by wtm_at "p_var") (isNew.lst (by wtm_at "p_var")) rfl (by rw [List.length_map, List.length_take]; omega) (owns_top hMF) fun v => sx_nil fun σ H k => ⟨y ++ [v], True.intro, k.low ⟨fun _ _ h => h, fun _ _ h => h, fun _ _ h => h, fun _ _ h => h, True.intro⟩⟩
  · rw [List.length_range, List.take_of_length_le (l := croP P P2) (by omega)]
    refine sx_free 3 hUF rfl ?_
    show SX _ _ _ [some (isCb K P), some (isCb K P2), some (aInt (m : Int)), some (isNew ((croP P P2).map (isRows K))), none, none, none, none, none] _ _
    exact sx_ret (J := ivT _) (A := isCb K (croP P P2)) (isNew.lst (by wtm_at "p_var")) hR
end
section
set_option hygiene false
local macro_rules | `(tactic| wtm_at "p_var") => `(tactic| first
  | ((with_reducible show EX _ _ _ _ (Expr.Name "_law_pool_here" _) _ _); first | exact ex_var (i := 0) rfl (by wtm_at "p_vis") rfl | exact isNew.lst (ex_var (i := 0) rfl (by wtm_at "p_vis") rfl))
  | ((with_reducible show EX _ _ _ _ (Expr.Name "_law_one" _) _ _); first | exact ex_var (i := 1) rfl (by wtm_at "p_vis") rfl | exact isNew.lst (ex_var (i := 1) rfl (by wtm_at "p_vis") rfl))
  | ((with_reducible show EX _ _ _ _ (Expr.Name "_law_other" _) _ _); first | exact ex_var (i := 2) rfl (by wtm_at "p_vis") rfl | exact isNew.lst (ex_var (i := 2) rfl (by wtm_at "p_vis") rfl))
  | ((with_reducible show EX _ _ _ _ (Expr.Name "_law_first" _) _ _); first | exact ex_var (i := 3) rfl (by wtm_at "p_vis") rfl | exact isNew.lst (ex_var (i := 3) rfl (by wtm_at "p_vis") rfl))
  | ((with_reducible show EX _ _ _ _ (Expr.Name "_law_second" _) _ _); first | exact ex_var (i := 4) rfl (by wtm_at "p_vis") rfl | exact isNew.lst (ex_var (i := 4) rfl (by wtm_at "p_vis") rfl))
  | ((with_reducible show EX _ _ _ _ (Expr.Name "_law_due" _) _ _); first | exact ex_var (i := 5) rfl (by wtm_at "p_vis") rfl | exact isNew.lst (ex_var (i := 5) rfl (by wtm_at "p_vis") rfl))
  | ((with_reducible show EX _ _ _ _ (Expr.Name "_law_told" _) _ _); first | exact ex_var (i := 6) rfl (by wtm_at "p_vis") rfl | exact isNew.lst (ex_var (i := 6) rfl (by wtm_at "p_vis") rfl))
  | ((with_reducible show EX _ _ _ _ (Expr.Name "_law_third" _) _ _); first | exact ex_var (i := 7) rfl (by wtm_at "p_vis") rfl | exact isNew.lst (ex_var (i := 7) rfl (by wtm_at "p_vis") rfl))
  | ((with_reducible show EX _ _ _ _ (Expr.Name "_law_lots" _) _ _); first | exact ex_var (i := 8) rfl (by wtm_at "p_vis") rfl | exact isNew.lst (ex_var (i := 8) rfl (by wtm_at "p_vis") rfl))
  | ((with_reducible show EX _ _ _ _ (Expr.Name "_law_parts" _) _ _); first | exact ex_var (i := 9) rfl (by wtm_at "p_vis") rfl | exact isNew.lst (ex_var (i := 9) rfl (by wtm_at "p_vis") rfl)))
-- needs crossed
-- needs _law_crossed_due
-- needs cubes2
-- needs _law_row
-- needs _law_times
-- needs _law_copied
-- needs Table_call
-- needs chmath
-- needs _law_crossed
abbrev ok_law_crossed_right (q : List (List (List Rat)) × List (List (List Rat)) × Nat × Nat) : Prop := 1 ≤ q.2.2.1 ∧ 1 ≤ q.2.2.2 ∧ q.2.2.1 * q.2.2.2 ≤ 6 ∧ okLP q.2.2.1 q.1 ∧ okLP q.2.2.2 q.2.1
abbrev sp__law_crossed_right (K : PySem.W.Frag) (C : Addr) : Sp := spD (ι := List (List (List Rat)) × List (List (List Rat)) × Nat × Nat) 2200 (fun q => [isCb K q.1, isCb K q.2.1, isTab K C q.1, isTab K C q.2.1]) ok_law_crossed_right (fun _ => isBl true)
theorem has__law_crossed_right {C : Addr} (B : Bl K mg) (T : TabAt K mg C) (D : DefAt K mg "_law_crossed_right" S__law_crossed_right) (C_law_pick : Has Pr w K mg base "_law_pick" ["_law_pool_here", "_law_many"] (sp__law_pick K) 1) (C_law_products : Has Pr w K mg base "_law_products" ["_law_pool_here", "_law_size", "_law_great"] (sp__law_products K) 3) (C_law_row : Has Pr w K mg base "_law_row" ["_law_pool_here", "_law_size"] (sp__law_row K) 3)
    (C_law_times : Has Pr w K mg base "_law_times" ["_law_products_here", "_law_one", "_law_other"] (sp__law_times K) 3) (C_law_is : Has Pr w K mg base "_law_is" ["_law_told", "_law_due"] (sp__law_is K C) 7) (Ccrossed : Has Pr w K mg base "crossed" ["one", "other"] (sp_crossed K C) 7) (Dcrossed : DefAt K mg "crossed" S_crossed) (C_law_crossed_due : Has Pr w K mg base "_law_crossed_due" ["_law_one", "_law_other"] (sp__law_crossed_due K) 4) (C_law_crossed : Has Pr w K mg base "_law_crossed" ["_law_one", "_law_other"] (sp__law_crossed K) 3)
    (C_law_copied : ∀ n : Nat, Has Pr w K mg base "_law_copied" ["_law_thing"] (sp__law_copied K n) (n + 1)) (C_law_alike : ∀ n : Nat, Has Pr w K mg base "_law_alike" ["_law_told", "_law_due"] (sp__law_alike K n) (n + 1))
    (CTable_init : HasI Pr w K mg base C "Table" ["self", "products"] (spI C (fun P : List (List (List Rat)) => [isCb K P]) okT (flT K)) 5) (CTable_call : ∀ P : List (List (List Rat)), HasC Pr w K mg base C ["self", "one", "other"] ["other", "one"] swp swp (spF (fun q : List Rat × List Rat => isIns C (flT K P) :: [isRow K q.1, isRow K q.2]) (isPO P) (fun q => isRow K (tmul P q.1 q.2))) 6) : Has Pr w K mg base "_law_crossed_right" ["_law_pool_here", "_law_one", "_law_other", "_law_first", "_law_second"] (sp__law_crossed_right K C) 8 := by
  obtain ⟨f, fd, F, hm⟩ := D.ex
  refine ⟨f, fd, ⟨_, F⟩, fn_draw F sc__law_crossed_right (fun _ => rfl) fun cdv A outer s H E U ap ag n0 q Q hr ho hn hR => ?_, hm, F.kp, F.binds fun _ _ _ _ _ _ us hl => match us, hl with | [_, _, _, _, _], _ => rfl⟩
  obtain ⟨P, P2, n, m⟩ := q
  obtain ⟨h1, h2, h6, hP, hQ⟩ := ho
  change 1 ≤ n at h1
  change 1 ≤ m at h2
  change n * m ≤ 6 at h6
  change okLP n P at hP
  change okLP m P2 at hQ
  change Ret _ _ (isBl true) _ at hR
  obtain ⟨k1, k2, k3⟩ := le6 h1 h2 h6
  have hPl := hP.1
  have hQl := hQ.1
  have lm : ((P.map (isRows K)).length : Int) = (n : Int) := by rw [List.length_map, hPl]
  have lm2 : ((P2.map (isRows K)).length : Int) = (m : Int) := by rw [List.length_map, hQl]
  have okx : okCrX (P, P2) := ⟨n, m, h1, h2, h6, hP, hQ⟩
  have okx2 : okCrX (P2, P) := ⟨m, n, h2, h1, by rw [Nat.mul_comm]; exact h6, hQ, hP⟩
  have cu : ∀ {A B : List (List (List Rat))}, okCrX (A, B) → okCube (croP A B) := fun {A B} ⟨n, m, h1, h2, h6, hA, hB⟩ => okC_cube (croP_C (okLP_C hA) (okLP_C hB)) (Nat.mul_pos h1 h2) h6
  show SX _ _ _ [some (isV (.ref ap)), some (isCb K P), some (isCb K P2), some (isTab K C P), some (isTab K C P2), none, none, none, none, none] _ _
  refine sx_set (i := 5) (J := ivD U ap ag H n0) (A := isCb K (croP P P2)) sc__law_crossed_right.nd rfl (.inl rfl) (by wtm_at "p_lt") (ex_callH C_law_crossed_due (hr.mono (by decide)) (P, P2) (by wtm_at "p_ax") okx) ?_
  show SX _ _ _ [some (isV (.ref ap)), some (isCb K P), some (isCb K P2), some (isTab K C P), some (isTab K C P2), some (isCb K (croP P P2)), none, none, none, none] _ _
  refine sx_set (i := 6) (J := ivD U ap ag H n0) (A := isTab K C (croP P P2)) sc__law_crossed_right.nd rfl (.inl rfl) (by wtm_at "p_lt") (ex_callH Ccrossed (hr.mono (by decide)) (P, P2) (by wtm_at "p_ax") okx) ?_
  show SX _ _ _ [some (isV (.ref ap)), some (isCb K P), some (isCb K P2), some (isTab K C P), some (isTab K C P2), some (isCb K (croP P P2)), some (isTab K C (croP P P2)), none, none, none] _ _
  refine sx_ifR (J := ivD U ap ag H n0) (P := (· = (false || false))) (WX.tx (wx_or (J := ivD U ap ag H n0) (p := false) (q := false) (TX.imp (tx_not (P := (· = true)) (tx_val ?_)) fun k h => nt h) fun _ => wx_or1 (TX.imp (tx_not (P := (· = true)) (tx_val ?_)) fun k h => nt h))) (fun p => by cases p) fun _ => ?_
  · exact ex_callH C_law_is (hr.mono (by decide)) (croP P P2) (by wtm_at "p_ax") (cu okx)
  · refine ex_callH C_law_is (hr.mono (by decide)) (croP P P2) (ax_cons (J := ivD U ap ag H n0) ?_ (by wtm_at "p_ax")) (cu okx)
    exact ex_callKH (ks := ["other", "one"]) (g := swp) (gV := swp) (gA := swp) Ccrossed Dcrossed (hr.mono (by decide)) (fun r => swp_rel r) (fun _ _ _ _ _ _ ws hl => match ws, hl with | [_, _], _ => rfl) (As := [isTab K C P2, isTab K C P]) (P, P2) (kx_cons (J := ivD U ap ag H n0) (by wtm_at "p_var") (kx_cons (J := ivD U ap ag H n0) (by wtm_at "p_var") kx_nil)) rfl rfl swp_all okx
  refine sx_ifR (J := ivD U ap ag H n0) (P := (· = false)) (TX.imp (tx_not (P := (· = true)) (tx_val ?_)) fun k h => nt h) (fun p => by cases p) fun _ => ?_
  · exact ex_callH C_law_is (hr.mono (by decide)) (croP P2 P) (ax_cons (J := ivD U ap ag H n0) (ex_callH Ccrossed (hr.mono (by decide)) (P2, P) (by wtm_at "p_ax") okx2) (ax_cons (J := ivD U ap ag H n0) (ex_callH C_law_crossed_due (hr.mono (by decide)) (P2, P) (by wtm_at "p_ax") okx2) ax_nil)) (cu okx2)
  refine sx_setE (i := 7) (P := fun P3 : List (List (List Rat)) => ∃ k, 1 ≤ k ∧ n * k ≤ 6 ∧ okLP k P3) (B := isCb K) (J := ivD U ap ag H (n0 + 1 + 2000)) sc__law_crossed_right.nd rfl (.inl rfl) (by wtm_at "p_lt") ?_ fun P3 hP3 => ?_
  · refine ex_drawX (As := [exA (fun r : Int => 1 ≤ r ∧ r ≤ ((6 / n : Nat) : Int)) aInt, isBl false]) C_law_products (hr.mono (by decide)) drw_gD (by wtm_at "p_var") (ax_cons (J := ivD U ap ag H (n0 + 1)) ?_ (by wtm_at "p_ax")) (by omega) fun F vs h => ?_
    · refine ex_addD (J := ivD U ap ag H n0) (P := (· = 1)) (Q := fun r => 0 ≤ r ∧ r < ((6 / n : Nat) : Int)) (EX.dr ex_int) (ex_pickK (m := ((6 / n : Nat) : Int)) C_law_pick (hr.mono (by decide)) drw_gD (by wtm_at "p_var") ?_ (by have := Nat.div_pos (a := 6) (b := n) k2 h1; omega) (by have := Nat.div_le_self 6 n; omega) (by omega)) (fun i j e h => by subst e; omega)
      have ed : ((6 : Int).fdiv (n : Int)) = ((6 / n : Nat) : Int) := by rw [Int.fdiv_eq_ediv_of_nonneg _ (by omega)]; rfl
      rw [← ed]
      exact ex_fdiv (J := ivD U ap ag H n0) ex_int (by rw [← lm]; wtm_at "p_ex") (by omega) (Nat.lt_of_lt_of_le (m := 2 ^ 3) (by rw [Int.natAbs_natCast]; omega) (Nat.pow_le_pow_right (by decide) (by decide)))
    · obtain ⟨v, r, e1, ⟨z, hz, hv⟩, hrest⟩ := h
      obtain ⟨k, rfl⟩ : ∃ k : Nat, z = (k : Int) := ⟨z.toNat, by omega⟩
      have hk1 : 1 ≤ k := by omega
      have hk6 : n * k ≤ 6 := by 
        have hz2 : k ≤ 6 / n := by omega
        exact Nat.le_trans (Nat.mul_le_mul_left n hz2) (Nat.mul_div_le 6 n)
      have hkk : k ≤ 6 := Nat.le_trans (Nat.le_mul_of_pos_left k h1) hk6
      exact ⟨(k, false), ⟨hk1, hkk⟩, ⟨v, r, e1, hv, hrest⟩, fun F v ⟨Y, hY, eY⟩ => ⟨Y, ⟨k, hk1, hk6, hY⟩, eY⟩⟩
  obtain ⟨k, hk1, hk6, hP3⟩ := hP3
  have okx3 : okCrX (P, P3) := ⟨n, k, h1, hk1, hk6, hP, hP3⟩
  have k6 : k ≤ 6 := by exact Nat.le_trans (Nat.le_mul_of_pos_left k h1) hk6
  have c3 := okLP_cube hP3 hk1 k6
  have hN1 : n0 + 1 + 2000 + 130 ≤ 2 ^ 60 := by omega
  have hN2 : n0 + 1 + 2000 + 130 ≤ n0 + 2200 := by omega
  generalize hN : n0 + 1 + 2000 = N at hN1 hN2
  have eC : isD K (dCube P3) = isCb K P3 := isD_cube
  show SX _ _ _ [some (isV (.ref ap)), some (isCb K P), some (isCb K P2), some (isTab K C P), some (isTab K C P2), some (isCb K (croP P P2)), some (isTab K C (croP P P2)), some (isCb K P3), none, none] _ _
  refine sx_ifR (J := ivD U ap ag H N) (P := (· = false)) (TX.imp (tx_not (P := (· = true)) (tx_val ?_)) fun k h => nt h) (fun p => by cases p) fun _ => ?_
  · refine ex_callH C_law_is (hr.mono (by decide)) (croP P P3) (ax_cons (J := ivD U ap ag H N) (ex_callH Ccrossed (hr.mono (by decide)) (P, P3) (ax_cons (J := ivD U ap ag H N) (by wtm_at "p_var") (ax_cons (J := ivD U ap ag H N) ?_ ax_nil)) okx3) (ax_cons (J := ivD U ap ag H N) (ex_callH C_law_crossed_due (hr.mono (by decide)) (P, P3) (by wtm_at "p_ax") okx3) ax_nil)) (cu okx3)
    refine ex_makeI (J := ivD U ap ag H N) CTable_init (hr.mono (by decide)) P3 (ax_cons (J := ivD U ap ag H N) ?_ ax_nil) (okT_of hP3 hk1 k6).1
    exact ex_callH (J := ivD U ap ag H N) (C_law_copied 4) (hr.mono (by decide)) (dCube P3) (ax_cons (J := ivD U ap ag H N) (by rw [eC]; wtm_at "p_var") ax_nil) (okD_cb c3) eC
  refine sx_ifR (J := ivD U ap ag H N) (P := (· = false)) (TX.imp (tx_not (P := (· = true)) (tx_val ?_)) fun k h => nt h) (fun p => by cases p) fun _ => ?_
  · exact ex_callH C_law_is (hr.mono (by decide)) (croP P P2) (ax_cons (J := ivD U ap ag H N) (ex_callH Ccrossed (hr.mono (by decide)) (P, P2) (by wtm_at "p_ax") okx) (by wtm_at "p_ax")) (cu okx)
  refine sx_set (i := 8) (J := ivD U ap ag H (N + 30 + 30 + 30 + 30)) (A := isLst K [exA (okRow4 n) (isRow K), exA (okRow4 m) (isRow K), exA (okRow4 n) (isRow K), exA (okRow4 m) (isRow K)]) sc__law_crossed_right.nd rfl (.inl rfl) (by wtm_at "p_lt") (ex_lst (ax_cons (J := ivD U ap ag H (N + 30)) ?_ (ax_cons (J := ivD U ap ag H (N + 30 + 30)) ?_ (ax_cons (J := ivD U ap ag H (N + 30 + 30 + 30)) ?_ (ax_cons (J := ivD U ap ag H (N + 30 + 30 + 30 + 30)) ?_ ax_nil)))) (by wtm_at "p_lt")) ?_
  · exact ex_drawX (As := [aInt (n : Int)]) C_law_row (hr.mono (by decide)) drw_gD (by wtm_at "p_var") (ax_cons (J := ivD U ap ag H N) (by rw [← lm]; wtm_at "p_ex") ax_nil) (by omega) fun F vs h => ⟨n, by omega, h, fun _ _ h => h⟩
  · exact ex_drawX (As := [aInt (m : Int)]) C_law_row (hr.mono (by decide)) drw_gD (by wtm_at "p_var") (ax_cons (J := ivD U ap ag H (N + 30)) (by rw [← lm2]; wtm_at "p_ex") ax_nil) (by omega) fun F vs h => ⟨m, by omega, h, fun _ _ h => h⟩
  · exact ex_drawX (As := [aInt (n : Int)]) C_law_row (hr.mono (by decide)) drw_gD (by wtm_at "p_var") (ax_cons (J := ivD U ap ag H (N + 30 + 30)) (by rw [← lm]; wtm_at "p_ex") ax_nil) (by omega) fun F vs h => ⟨n, by omega, h, fun _ _ h => h⟩
  · exact ex_drawX (As := [aInt (m : Int)]) C_law_row (hr.mono (by decide)) drw_gD (by wtm_at "p_var") (ax_cons (J := ivD U ap ag H (N + 30 + 30 + 30)) (by rw [← lm2]; wtm_at "p_ex") ax_nil) (by omega) fun F vs h => ⟨m, by omega, h, fun _ _ h => h⟩
  refine sx_opn 8 rfl (fun F v h => fourX F v h) fun q hq => ?_
  obtain ⟨x1, y1, x2, y2⟩ := q
  obtain ⟨hx1, hy1, hx2, hy2⟩ := hq
  change okRow4 n x1 at hx1
  change okRow4 m y1 at hy1
  change okRow4 n x2 at hx2
  change okRow4 m y2 at hy2
  generalize hM : N + 30 + 30 + 30 + 30 = M
  have out := hR.post (J := ivD U ap ag H M) (ivD_more (by omega))
  have r30 : ∀ {k : Nat} {x : List Rat}, okRow4 k x → ∀ a ∈ x, RB 30 a := fun h a ha => (h.2 a ha).mono (by decide)
  have t1 := isLT_of hP h1 (by omega) hx1.1 hx2.1 (r30 hx1) (r30 hx2)
  have t2 := isLT_of hQ h2 (by omega) hy1.1 hy2.1 (r30 hy1) (r30 hy2)
  have cP := okLP_cube hP h1 (by omega)
  have cQ := okLP_cube hQ h2 (by omega)
  have l1 := tmul_lenT (y := x2) cP (by rw [hx1.1, hPl])
  have l2 := tmul_lenT (y := y2) cQ (by rw [hy1.1, hQl])
  rw [hPl] at l1
  rw [hQl] at l2
  show SX _ _ _ [some (isV (.ref ap)), some (isCb K P), some (isCb K P2), some (isTab K C P), some (isTab K C P2), some (isCb K (croP P P2)), some (isTab K C (croP P P2)), some (isCb K P3), some (isLst K [isRow K x1, isRow K y1, isRow K x2, isRow K y2]), none] _ _
  have dx : ∀ {k : Nat} {x : List Rat}, okRow4 k x → ∀ a ∈ x, RD 300000 4100 a := fun h a ha => (h.2 a ha).rd (by decide) (by decide)
  refine sx_set (i := 9) (J := ivD U ap ag H M) (A := isRow K (cro (tmul P x1 x2) (tmul P2 y1 y2))) sc__law_crossed_right.nd rfl (.inl rfl) (by wtm_at "p_lt") ?_ ?_
  · exact ex_callH C_law_crossed (hr.mono (by decide)) (tmul P x1 x2, tmul P2 y1 y2) (ax_cons (J := ivD U ap ag H M) (ex_callH C_law_times (hr.mono (by decide)) (P, x1, x2) (ax_cons (J := ivD U ap ag H M) (by wtm_at "p_var") (ax_cons (J := ivD U ap ag H M) (ex_q0 (I := ivD U ap ag H M) (by wtm_at "p_var")) (ax_cons (J := ivD U ap ag H M) (ex_q2 (I := ivD U ap ag H M) (by wtm_at "p_var")) ax_nil))) t1) (ax_cons (J := ivD U ap ag H M) (ex_callH C_law_times (hr.mono (by decide)) (P2, y1, y2) (ax_cons (J := ivD U ap ag H M) (by wtm_at "p_var") (ax_cons (J := ivD U ap ag H M) (ex_q1 (I := ivD U ap ag H M) (by wtm_at "p_var")) (ax_cons (J := ivD U ap ag H M) (ex_q3 (I := ivD U ap ag H M) (by wtm_at "p_var")) ax_nil))) t2) ax_nil)) ⟨tmul_RB1 t1, tmul_RB1 t2, by show (tmul P x1 x2).length ≤ 100; omega, by show (tmul P2 y1 y2).length ≤ 100; omega⟩
  show SX _ _ _ [some (isV (.ref ap)), some (isCb K P), some (isCb K P2), some (isTab K C P), some (isTab K C P2), some (isCb K (croP P P2)), some (isTab K C (croP P P2)), some (isCb K P3), some (isLst K [isRow K x1, isRow K y1, isRow K x2, isRow K y2]), some (isRow K (cro (tmul P x1 x2) (tmul P2 y1 y2)))] _ _
  refine sx_ret (J := ivD U ap ag H M) (A := isBl true) ?_ out
  have etm := tmul_cro (okLP_C hP) (okLP_C hQ) hx1.1 hy1.1 hx2.1 hy2.1
  have b30 : ∀ {x y : List Rat}, okRow4 n x → okRow4 m y → ∀ a ∈ cro x y, RB 30 a := fun hx hy a ha => (cro_RB hx.2 hy.2 a ha).mono (by decide)
  refine ex_alike (dRow (cro (tmul P x1 x2) (tmul P2 y1 y2))) (C_law_alike 2) (hr.mono (by decide)) (okD_row (by rw [cro_len, l1, l2]; omega)) isD_row (J := ivD U ap ag H M) (ex_callI (J := ivD U ap ag H M) (CTable_call (croP P P2)) (hr.mono (by decide)) (by wtm_at "p_var") (cro x1 y1, cro x2 y2) (ax_cons (J := ivD U ap ag H M) ?_ (ax_cons (J := ivD U ap ag H M) ?_ ax_nil)) (croP_PO hP hQ k1 h6 (by rw [cro_len, hx1.1, hy1.1]) (by rw [cro_len, hx2.1, hy2.1]) (b30 hx1 hy1) (b30 hx2 hy2)) (by show isRow K (tmul (croP P P2) (cro x1 y1) (cro x2 y2)) = _; rw [etm])) (by wtm_at "p_var")
  · exact ex_callH C_law_crossed (hr.mono (by decide)) (x1, y1) (ax_cons (J := ivD U ap ag H M) (ex_q0 (I := ivD U ap ag H M) (by wtm_at "p_var")) (ax_cons (J := ivD U ap ag H M) (ex_q1 (I := ivD U ap ag H M) (by wtm_at "p_var")) ax_nil)) ⟨dx hx1, dx hy1, by show x1.length ≤ 100; rw [hx1.1]; omega, by show y1.length ≤ 100; rw [hy1.1]; omega⟩
  · exact ex_callH C_law_crossed (hr.mono (by decide)) (x2, y2) (ax_cons (J := ivD U ap ag H M) (ex_q2 (I := ivD U ap ag H M) (by wtm_at "p_var")) (ax_cons (J := ivD U ap ag H M) (ex_q3 (I := ivD U ap ag H M) (by wtm_at "p_var")) ax_nil)) ⟨dx hx2, dx hy2, by show x2.length ≤ 100; rw [hx2.1]; omega, by show y2.length ≤ 100; rw [hy2.1]; omega⟩
end
section
set_option hygiene false
local macro_rules | `(tactic| wtm_at "p_var") => `(tactic| first
  | ((with_reducible show EX _ _ _ _ (Expr.Name "_law_pool_here" _) _ _); first | exact ex_var (i := 0) rfl (by wtm_at "p_vis") rfl | exact isNew.lst (ex_var (i := 0) rfl (by wtm_at "p_vis") rfl))
  | ((with_reducible show EX _ _ _ _ (Expr.Name "_law_size" _) _ _); first | exact ex_var (i := 1) rfl (by wtm_at "p_vis") rfl | exact isNew.lst (ex_var (i := 1) rfl (by wtm_at "p_vis") rfl))
  | ((with_reducible show EX _ _ _ _ (Expr.Name "_law_parts" _) _ _); first | exact ex_var (i := 2) rfl (by wtm_at "p_vis") rfl | exact isNew.lst (ex_var (i := 2) rfl (by wtm_at "p_vis") rfl)))
-- needs _law_pair
-- needs _law_beside_right
-- needs _law_crossed_right
-- needs Table_products
abbrev sp__law_right (K : PySem.W.Frag) : Sp := spD (ι := Unit) 13000 (fun _ => []) (fun _ => True) (fun _ => isBl true)
theorem has__law_right {C : Addr} (B : Bl K mg) (T : TabAt K mg C) (D : DefAt K mg "_law_right" S__law_right) (C_law_pick : Has Pr w K mg base "_law_pick" ["_law_pool_here", "_law_many"] (sp__law_pick K) 1) (C_law_pair : Has Pr w K mg base "_law_pair" ["_law_pool_here", "_law_sizes"] (sp__law_pair K C) 7) (C_law_beside_right : Has Pr w K mg base "_law_beside_right" ["_law_pool_here", "_law_one", "_law_other", "_law_first", "_law_second"] (sp__law_beside_right K C) 8) (C_law_crossed_right : Has Pr w K mg base "_law_crossed_right" ["_law_pool_here", "_law_one", "_law_other", "_law_first", "_law_second"] (sp__law_crossed_right K C) 8)
    (C_law_alike : ∀ n : Nat, Has Pr w K mg base "_law_alike" ["_law_told", "_law_due"] (sp__law_alike K n) (n + 1)) (CTable_products : HasP Pr w K mg base C "products" ["self"] (spF (fun P : List (List (List Rat)) => [isTab K C P]) okCube (fun P => isCb K P)) 2) : Has Pr w K mg base "_law_right" ["_law_pool_here"] (sp__law_right K) 9 := by
  obtain ⟨f, fd, F, hm⟩ := D.ex
  refine ⟨f, fd, ⟨_, F⟩, fn_draw F sc__law_right (fun _ => rfl) fun cdv A outer s H E U ap ag n0 q Q hr ho hn hR => ?_, hm, F.kp, F.binds fun _ _ _ _ _ _ us hl => match us, hl with | [_], _ => rfl⟩
  change Ret _ _ (isBl true) _ at hR
  show SX _ _ _ [some (isV (.ref ap)), none, none] _ _
  refine sx_setE (i := 1) (P := fun r : Int => 1 ≤ r ∧ r ≤ 5) (B := aInt) (J := ivD U ap ag H (n0 + 1)) sc__law_right.nd rfl (.inl rfl) (by wtm_at "p_lt") ?_ fun nz hnz => ?_
  · exact ex_addD (J := ivD U ap ag H n0) (P := (· = 1)) (Q := fun r => 0 ≤ r ∧ r < 5) (EX.dr ex_int) (ex_pickK (m := 5) C_law_pick (hr.mono (by decide)) drw_gD (by wtm_at "p_var") ex_int (by decide) (by decide) (by omega)) (fun i j e h => by subst e; omega)
  obtain ⟨n, rfl⟩ : ∃ m : Nat, nz = (m : Int) := ⟨nz.toNat, by omega⟩
  have h1 : 1 ≤ n := by omega
  have h5 : n ≤ 5 := by omega
  show SX _ _ _ [some (isV (.ref ap)), some (aInt (n : Int)), none] _ _
  refine sx_setE (i := 2) (P := fun q : List (List (List Rat)) × List (List (List Rat)) => ∃ m, 1 ≤ m ∧ n + m ≤ 6 ∧ okLP n q.1 ∧ okLP m q.2) (B := isPr K C) (J := ivD U ap ag H (n0 + 1 + 1 + 4001)) sc__law_right.nd rfl (.inl rfl) (by wtm_at "p_lt") ?_ fun q hq => ?_
  · refine ex_drawX (As := [isLst K [aInt (n : Int), exA (fun r : Int => 1 ≤ r ∧ r ≤ 6 - (n : Int)) aInt]]) C_law_pair (hr.mono (by decide)) drw_gD (by wtm_at "p_var") (ax_cons (J := ivD U ap ag H (n0 + 1 + 1)) (ex_lst (ax_cons (J := ivD U ap ag H (n0 + 1)) (by wtm_at "p_var") (ax_cons (J := ivD U ap ag H (n0 + 1 + 1)) ?_ ax_nil)) (by wtm_at "p_lt")) ax_nil) (by omega) fun F vs h => ?_
    · exact ex_addD (J := ivD U ap ag H (n0 + 1)) (P := (· = 1)) (Q := fun r => 0 ≤ r ∧ r < 6 - (n : Int)) (EX.dr ex_int) (ex_pickK (m := 6 - (n : Int)) C_law_pick (hr.mono (by decide)) drw_gD (by wtm_at "p_var") (by wtm_at "p_ex") (by omega) (by omega) (by omega)) (fun i j e h => by subst e; omega)
    · obtain ⟨v, r, e1, ⟨a, ws, ea, hs, v1, r1, e2, hv1, v2, r2, e3, ⟨z, hz, hv2⟩, e4⟩, hrest⟩ := h
      obtain ⟨m, rfl⟩ : ∃ k : Nat, z = (k : Int) := ⟨z.toNat, by omega⟩
      exact ⟨(n, m), ⟨⟨h1, by omega⟩, by omega, by omega⟩, ⟨v, r, e1, ⟨a, ws, ea, hs, v1, r1, e2, hv1, v2, r2, e3, hv2, e4⟩, hrest⟩, fun F v ⟨Y, hY, eY⟩ => ⟨Y, ⟨m, by omega, by omega, hY.1, hY.2⟩, eY⟩⟩
  obtain ⟨P, P2⟩ := q
  obtain ⟨m, h2, h6, hP, hQ⟩ := hq
  change okLP n P at hP
  change okLP m P2 at hQ
  have cP := okLP_cube hP h1 (by omega)
  have cQ := okLP_cube hQ h2 (by omega)
  have hN1 : n0 + 1 + 1 + 4001 + 2200 + 6300 ≤ 2 ^ 60 := by omega
  have hN2 : n0 + 1 + 1 + 4001 + 2200 + 6300 ≤ n0 + 13000 := by omega
  generalize hN : n0 + 1 + 1 + 4001 = N at hN1 hN2
  show SX _ _ _ [some (isV (.ref ap)), some (aInt (n : Int)), some (isPr K C (P, P2))] _ _
  refine sx_ifR (J := ivD U ap ag H (N + 2200)) (P := (· = false)) (TX.imp (tx_not (P := (· = true)) (tx_val ?_)) fun k h => nt h) (fun p => by cases p) fun _ => ?_
  · exact ex_drawX (As := [isCb K P, isCb K P2, isTab K C P, isTab K C P2]) C_law_beside_right (hr.mono (by decide)) drw_gD (by wtm_at "p_var") (ax_cons (J := ivD U ap ag H N) (ex_q0 (I := ivD U ap ag H N) (by wtm_at "p_var")) (ax_cons (J := ivD U ap ag H N) (ex_q1 (I := ivD U ap ag H N) (by wtm_at "p_var")) (ax_cons (J := ivD U ap ag H N) (ex_q2 (I := ivD U ap ag H N) (by wtm_at "p_var")) (ax_cons (J := ivD U ap ag H N) (ex_q3 (I := ivD U ap ag H N) (by wtm_at "p_var")) ax_nil)))) (by omega) fun F vs h => ⟨(P, P2, n, m), ⟨h1, h2, h6, hP, hQ⟩, h, fun _ _ h => h⟩
  refine sx_ifR (J := ivD U ap ag H (N + 2200)) (P := (· = false)) (TX.imp (tx_not (P := (· = true)) (tx_val ?_)) fun k h => nt h) (fun p => by cases p) fun _ => ?_
  · refine ex_alike (.list [dCube P, dCube P2]) (C_law_alike 5) (hr.mono (by decide)) (okD_c2 cP cQ) isD_c2 (J := ivD U ap ag H (N + 2200)) ?_ ?_
    · show EX _ _ _ _ _ (isLst K [isCb K P, isCb K P2]) _
      refine ex_lst (ax_cons (J := ivD U ap ag H (N + 2200)) (ex_propI CTable_products T.cls (hr.mono (by decide)) P ?_ cP) (ax_cons (J := ivD U ap ag H (N + 2200)) (ex_propI CTable_products T.cls (hr.mono (by decide)) P2 ?_ cQ) ax_nil)) (by wtm_at "p_lt")
      · exact ex_q2 (I := ivD U ap ag H (N + 2200)) (by wtm_at "p_var")
      · exact ex_q3 (I := ivD U ap ag H (N + 2200)) (by wtm_at "p_var")
    · refine isNew.lst (ex_slice0 (J := ivD U ap ag H (N + 2200)) (b := 2) (As := [isCb K P, isCb K P2, isTab K C P, isTab K C P2]) (by wtm_at "p_var") ex_int (by show 2 ≤ 4; decide))
  generalize hM : N + 2200 = M at hN1 hN2
  refine sx_setE (i := 1) (P := fun r : Int => 1 ≤ r ∧ r ≤ 6) (B := aInt) (J := ivD U ap ag H (M + 1)) sc__law_right.nd rfl (.inl rfl) (by wtm_at "p_lt") ?_ fun nz hnz => ?_
  · exact ex_addD (J := ivD U ap ag H M) (P := (· = 1)) (Q := fun r => 0 ≤ r ∧ r < 6) (EX.dr ex_int) (ex_pickK (m := 6) C_law_pick (hr.mono (by decide)) drw_gD (by wtm_at "p_var") ex_int (by decide) (by decide) (by omega)) (fun i j e h => by subst e; omega)
  obtain ⟨u, rfl⟩ : ∃ m : Nat, nz = (m : Int) := ⟨nz.toNat, by omega⟩
  have u1 : 1 ≤ u := by omega
  have u6 : u ≤ 6 := by omega
  have ud := Nat.div_pos (a := 6) (b := u) u6 u1
  have ul := Nat.div_le_self 6 u
  show SX _ _ _ [some (isV (.ref ap)), some (aInt (u : Int)), some (isPr K C (P, P2))] _ _
  refine sx_setE (i := 2) (P := fun q : List (List (List Rat)) × List (List (List Rat)) => ∃ m, 1 ≤ m ∧ u * m ≤ 6 ∧ okLP u q.1 ∧ okLP m q.2) (B := isPr K C) (J := ivD U ap ag H (M + 1 + 1 + 4001)) sc__law_right.nd rfl (.inl rfl) (by wtm_at "p_lt") ?_ fun q hq => ?_
  · refine ex_drawX (As := [isLst K [aInt (u : Int), exA (fun r : Int => 1 ≤ r ∧ r ≤ ((6 / u : Nat) : Int)) aInt]]) C_law_pair (hr.mono (by decide)) drw_gD (by wtm_at "p_var") (ax_cons (J := ivD U ap ag H (M + 1 + 1)) (ex_lst (ax_cons (J := ivD U ap ag H (M + 1)) (by wtm_at "p_var") (ax_cons (J := ivD U ap ag H (M + 1 + 1)) ?_ ax_nil)) (by wtm_at "p_lt")) ax_nil) (by omega) fun F vs h => ?_
    · refine ex_addD (J := ivD U ap ag H (M + 1)) (P := (· = 1)) (Q := fun r => 0 ≤ r ∧ r < ((6 / u : Nat) : Int)) (EX.dr ex_int) (ex_pickK (m := ((6 / u : Nat) : Int)) C_law_pick (hr.mono (by decide)) drw_gD (by wtm_at "p_var") ?_ (by omega) (by omega) (by omega)) (fun i j e h => by subst e; omega)
      have ed : ((6 : Int).fdiv (u : Int)) = ((6 / u : Nat) : Int) := by rw [Int.fdiv_eq_ediv_of_nonneg _ (by omega)]; rfl
      rw [← ed]
      exact ex_fdiv (J := ivD U ap ag H (M + 1)) ex_int (by wtm_at "p_var") (by omega) (Nat.lt_of_lt_of_le (m := 2 ^ 3) (by rw [Int.natAbs_natCast]; omega) (Nat.pow_le_pow_right (by decide) (by decide)))
    · obtain ⟨v, r, e1, ⟨a, ws, ea, hs, v1, r1, e2, hv1, v2, r2, e3, ⟨z, hz, hv2⟩, e4⟩, hrest⟩ := h
      obtain ⟨k, rfl⟩ : ∃ k : Nat, z = (k : Int) := ⟨z.toNat, by omega⟩
      have hk2 : k ≤ 6 / u := by omega
      have hk6 : u * k ≤ 6 := Nat.le_trans (Nat.mul_le_mul_left u hk2) (Nat.mul_div_le 6 u)
      exact ⟨(u, k), ⟨⟨u1, u6⟩, by omega, by omega⟩, ⟨v, r, e1, ⟨a, ws, ea, hs, v1, r1, e2, hv1, v2, r2, e3, hv2, e4⟩, hrest⟩, fun F v ⟨Y, hY, eY⟩ => ⟨Y, ⟨k, by omega, hk6, hY.1, hY.2⟩, eY⟩⟩
  obtain ⟨P3, P4⟩ := q
  obtain ⟨k, hk1, hk6, hP3, hP4⟩ := hq
  change okLP u P3 at hP3
  change okLP k P4 at hP4
  have k6 : k ≤ 6 := Nat.le_trans (Nat.le_mul_of_pos_left k u1) hk6
  have c3 := okLP_cube hP3 u1 u6
  have c4 := okLP_cube hP4 hk1 k6
  have hN3 : M + 1 + 1 + 4001 + 2200 ≤ 2 ^ 60 := by omega
  have hN4 : M + 1 + 1 + 4001 + 2200 ≤ n0 + 13000 := by omega
  generalize hL : M + 1 + 1 + 4001 = L at hN3 hN4
  show SX _ _ _ [some (isV (.ref ap)), some (aInt (u : Int)), some (isPr K C (P3, P4))] _ _
  refine sx_ifR (J := ivD U ap ag H (L + 2200)) (P := (· = false)) (TX.imp (tx_not (P := (· = true)) (tx_val ?_)) fun k h => nt h) (fun p => by cases p) fun _ => ?_
  · exact ex_drawX (As := [isCb K P3, isCb K P4, isTab K C P3, isTab K C P4]) C_law_crossed_right (hr.mono (by decide)) drw_gD (by wtm_at "p_var") (ax_cons (J := ivD U ap ag H L) (ex_q0 (I := ivD U ap ag H L) (by wtm_at "p_var")) (ax_cons (J := ivD U ap ag H L) (ex_q1 (I := ivD U ap ag H L) (by wtm_at "p_var")) (ax_cons (J := ivD U ap ag H L) (ex_q2 (I := ivD U ap ag H L) (by wtm_at "p_var")) (ax_cons (J := ivD U ap ag H L) (ex_q3 (I := ivD U ap ag H L) (by wtm_at "p_var")) ax_nil)))) (by omega) fun F vs h => ⟨(P3, P4, u, k), ⟨u1, hk1, hk6, hP3, hP4⟩, h, fun _ _ h => h⟩
  refine sx_ret (J := ivD U ap ag H (L + 2200)) (A := isBl true) ?_ (hR.post (ivD_more (by omega)))
  refine ex_alike (.list [dCube P3, dCube P4]) (C_law_alike 5) (hr.mono (by decide)) (okD_c2 c3 c4) isD_c2 (J := ivD U ap ag H (L + 2200)) ?_ ?_
  · show EX _ _ _ _ _ (isLst K [isCb K P3, isCb K P4]) _
    refine ex_lst (ax_cons (J := ivD U ap ag H (L + 2200)) (ex_propI CTable_products T.cls (hr.mono (by decide)) P3 ?_ c3) (ax_cons (J := ivD U ap ag H (L + 2200)) (ex_propI CTable_products T.cls (hr.mono (by decide)) P4 ?_ c4) ax_nil)) (by wtm_at "p_lt")
    · exact ex_q2 (I := ivD U ap ag H (L + 2200)) (by wtm_at "p_var")
    · exact ex_q3 (I := ivD U ap ag H (L + 2200)) (by wtm_at "p_var")
  · refine isNew.lst (ex_slice0 (J := ivD U ap ag H (L + 2200)) (b := 2) (As := [isCb K P3, isCb K P4, isTab K C P3, isTab K C P4]) (by wtm_at "p_var") ex_int (by show 2 ≤ 4; decide))
end
section
set_option hygiene false
local macro_rules | `(tactic| wtm_at "p_var") => `(tactic| first
  | ((with_reducible show EX _ _ _ _ (Expr.Name "_law_script" _) _ _); first | exact ex_var (i := 0) rfl (by wtm_at "p_vis") rfl | exact isNew.lst (ex_var (i := 0) rfl (by wtm_at "p_vis") rfl))
  | ((with_reducible show EX _ _ _ _ (Expr.Name "_law_pool_here" _) _ _); first | exact ex_var (i := 1) rfl (by wtm_at "p_vis") rfl | exact isNew.lst (ex_var (i := 1) rfl (by wtm_at "p_vis") rfl)))
theorem has_law (B : Bl K mg) (D : DefAt K mg "law" S_law) (C_law_pool : Has Pr w K mg base "_law_pool" ["_law_script"] (spPool K) 1) (C_law_right : Has Pr w K mg base "_law_right" ["_law_pool_here"] (sp__law_right K) 9) : Has Pr w K mg base "law" ["_law_script"] (spLaw K) 10 := by
  obtain ⟨f, fd, F, hm⟩ := D.ex
  refine ⟨f, fd, ⟨_, F⟩, fn_law F sc_law rfl fun cdv A outer s H E ns Q hr hn hR => ?_, hm, F.kp, F.binds fun _ _ _ _ _ _ us hl => match us, hl with | [_], _ => rfl⟩
  show SX _ _ _ [some (isLst K (ns.map aInt)), none] _ _
  refine sx_pool (i := 1) C_law_pool (hr.mono (by decide)) sc_law.nd rfl (.inl rfl) (by wtm_at "p_lt") hn (by wtm_at "p_var") fun ap ag h1 h2 => ?_
  show SX _ _ _ [some (isLst K (ns.map aInt)), some (isV (.ref ap))] _ _
  refine sx_ret (J := ivL H ap ag h1 h2 (0 + 13000 + 13000)) (A := isBl (true && true)) (ex_and (G := gL H ap ag h1 h2) (J := ivL H ap ag h1 h2 (0 + 13000)) ?_ (fun _ => ex_one ?_) (ivL_more (by omega))) fun Γ σ H' v k e => ?_
  · exact ex_drawX (G := gL H ap ag h1 h2) (Iz := ivL H ap ag h1 h2) (As := []) C_law_right (hr.mono (by decide)) drw_gL (by wtm_at "p_var") ax_nil (by omega) fun F vs h => ⟨(), True.intro, h, fun _ _ h => h⟩
  · exact ex_drawX (G := gL H ap ag h1 h2) (Iz := ivL H ap ag h1 h2) (As := []) C_law_right (hr.mono (by decide)) drw_gL (by wtm_at "p_var") ax_nil (by omega) fun F vs h => ⟨(), True.intro, h, fun _ _ h => h⟩
  · cases e
    exact hR H'
end
def ffn : List He.DefD := [mkD "_law_pick" S__law_pick, mkD "_law_pool" S__law_pool, mkD "has_sizes" S_has_sizes, mkD "is_cube" S_is_cube, mkD "_law_low" S__law_low, mkD "_law_number" S__law_number, mkD "_law_products" S__law_products, mkD "_law_alike" S__law_alike, mkD "_law_copied" S__law_copied, mkD "whole" S_whole, mkD "copied" S_copied, mkD "_law_is" S__law_is, mkD "is_lowest" S_is_lowest, mkD "check_number" S_check_number, mkD "check_numbers" S_check_numbers, mkD "check_rows" S_check_rows, mkD "lowest" S_lowest, mkD "_law_mul" S__law_mul, mkD "_law_add" S__law_add, mkD "_law_times" S__law_times, mkD "_law_pair" S__law_pair, mkD "beside" S_beside, mkD "_law_beside_due" S__law_beside_due, mkD "_law_row" S__law_row, mkD "check_sizes" S_check_sizes, mkD "check_rows_of" S_check_rows_of, mkD "_law_crossed" S__law_crossed, mkD "_law_beside_right" S__law_beside_right, mkD "multiplied" S_multiplied, mkD "_all_by_all" S__all_by_all, mkD "crossed" S_crossed, mkD "_law_crossed_due" S__law_crossed_due, mkD "_law_crossed_right" S__law_crossed_right, mkD "_law_right" S__law_right, mkD "law" S_law, mkM "Table" "__init__" "Table.__init__" S_Table_init, mkM "Table" "__call__" "Table.__call__" S_Table_call, mkM "Table" "product_of" "Table.product_of" S_Table_product_of, mkM "Table" "product_over" "Table.product_over" S_Table_product_over, mkM "Table" "__eq__" "Table.__eq__" S_Table_eq]
def fps : List PropD := [⟨"Table", "size", mkM "Table" "size" "Table.size" S_Table_size⟩, ⟨"Table", "products", mkM "Table" "products" "Table.products" S_Table_products⟩]
def ffa : List He.Fa := [.free "len", .free "int", .free "abs", .free "sum", .free "all", .free "list", .free "tuple", .free "bool", .free "range", .free "zip", .free "enumerate", .free "isinstance", .glo "_law_pick", .glo "_law_pool", .glo "has_sizes", .glo "is_cube", .glo "_law_low", .glo "_law_number", .glo "_law_products", .glo "_law_alike", .glo "_law_copied", .glo "whole", .glo "copied", .glo "_law_is", .glo "is_lowest", .glo "check_number", .glo "check_numbers", .glo "check_rows", .glo "lowest", .glo "_law_mul", .glo "_law_add", .glo "_law_times", .glo "_law_pair", .glo "beside", .glo "_law_beside_due", .glo "_law_row", .glo "check_sizes", .glo "check_rows_of", .glo "_law_crossed", .glo "_law_beside_right", .glo "multiplied", .glo "_all_by_all", .glo "crossed", .glo "_law_crossed_due", .glo "_law_crossed_right", .glo "_law_right", .glo "law", .glo "NOUGHT", .glo "Table", .cls "Table", .noat "Table" "_products", .noat "Table" "_below", .noat "Table" "_wholes", .mkr "Table", .meth "Table" "__call__", .meth "Table" "product_of", .meth "Table" "product_over", .meth "Table" "__eq__"]
def fex (K : PySem.W.Frag) : Bool := He.eqO (PySem.W.nsIn K mainGlobals "gcd") (some (some (.builtin "math.gcd"))) && (He.eqO (PySem.W.nsIn K mainGlobals "lcm") (some (some (.builtin "math.lcm"))) && (He.tupB K "NOUGHT" [.int 0, .int 1] && (fps.all (propB K) && isiB K (He.ga K "Table"))))
abbrev R : PySem.W.OpenRow := PySem.W.OpenLaw.row PySem.Challenge.rw_toldproducts_k11_whole_beside_and_crosse
abbrev hk : PySem.W.Hook := hookP 6 ffa ffn fex fps
def ob (s : PySem.W.SharedT) : AlP := obsP 6 ffa ffn fex fps (HandSHeadRun.getT s)
theorem ob_eq (s : PySem.W.SharedT) : ob s = hk.obs s.abs := obsP_eq (HandSHeadRun.getT_eq s)
def names0 : List Str := ["__name__", "TableError", "ValueError", "InvalidNumber", "InvalidRow", "InvalidTable", "NOUGHT", "is_lowest", "lowest", "multiplied", "whole", "copied", "check_number", "check_numbers", "check_rows"]
def names1 : List Str := ["check_sizes", "check_rows_of", "has_sizes", "is_cube", "Table", "beside", "crossed", "_all_by_all", "_law_pool", "_law_pick", "_law_low", "_law_add", "_law_mul", "_law_number", "_law_alike"]
def names2 : List Str := ["_law_products", "_law_times", "_law_copied", "_law_crossed", "_law_beside_due", "_law_crossed_due", "_law_row", "_law_is", "_law_beside_right", "_law_crossed_right", "_law_pair", "_law_right"]
def names : List Str := names0 ++ names1 ++ names2
theorem run (w : World) : HandSHeadRun.RunEqI R (PySem.W.view R.prog [0, 46]) hk ob 6000 names w := by
  unfold HandSHeadRun.RunEqI
  kernel_rfl
theorem facts {Pr : Program} {w : World} {K : PySem.W.Frag} {h : Heap} {mg : Str → Option Value} {fa : Addr} (X : K.In h) (G : h.Ns mainGlobals mg) (hfa : mg "law" = some (.ref fa)) (c : He.SaysX ffa ffn [] [] fex w h K ∧ (fps.map fun p => pfW K p) = fps.map fun p => p.d.val) :
    ∃ fd : FuncData, (∀ (s : Shared) (v : Value), BindsTo s fd ⟨[v], []⟩ [("_law_script", v)]) ∧ ∀ base : Heap, K.In base → base.Ns mainGlobals mg → FnOk Pr w K mg base CX0 10 fa fd ["_law_script"] (spLaw K) := by
  obtain ⟨c, cp⟩ := c
  have d := c.t.d
  obtain ⟨x1, y1⟩ := He.ba c.more
  obtain ⟨x2, y2⟩ := He.ba y1
  obtain ⟨xn0, z0⟩ := He.ba y2
  obtain ⟨xp, z1⟩ := He.ba z0
  have xi := z1
  have B : Bl K mg := {
    len := free_of X G d 0 rfl
    int := free_of X G d 1 rfl
    abs := free_of X G d 2 rfl
    sum := free_of X G d 3 rfl
    all := free_of X G d 4 rfl
    list := free_of X G d 5 rfl
    tuple := free_of X G d 6 rfl
    bool := free_of X G d 7 rfl
    range := free_of X G d 8 rfl
    zip := free_of X G d 9 rfl
    enumerate := free_of X G d 10 rfl
    isinstance := free_of X G d 11 rfl
    gcd := PySem.W.mg_of X G (He.eqO_ok x1)
    lcm := PySem.W.mg_of X G (He.eqO_ok x2)
    nought := ⟨_, He.glo_ok X G (d.fact 47 rfl), fun F => ⟨_, _, rfl, He.tupB_ok xn0 F, _, _, rfl, rfl, _, _, rfl, rfl, rfl⟩⟩ }
  have D__law_pick : DefAt K mg "_law_pick" S__law_pick := defAt_of X G d 0 12 rfl rfl
  have D__law_pool : DefAt K mg "_law_pool" S__law_pool := defAt_of X G d 1 13 rfl rfl
  have D_has_sizes : DefAt K mg "has_sizes" S_has_sizes := defAt_of X G d 2 14 rfl rfl
  have D_is_cube : DefAt K mg "is_cube" S_is_cube := defAt_of X G d 3 15 rfl rfl
  have D__law_low : DefAt K mg "_law_low" S__law_low := defAt_of X G d 4 16 rfl rfl
  have D__law_number : DefAt K mg "_law_number" S__law_number := defAt_of X G d 5 17 rfl rfl
  have D__law_products : DefAt K mg "_law_products" S__law_products := defAt_of X G d 6 18 rfl rfl
  have D__law_alike : DefAt K mg "_law_alike" S__law_alike := defAt_of X G d 7 19 rfl rfl
  have D__law_copied : DefAt K mg "_law_copied" S__law_copied := defAt_of X G d 8 20 rfl rfl
  have D_whole : DefAt K mg "whole" S_whole := defAt_of X G d 9 21 rfl rfl
  have D_copied : DefAt K mg "copied" S_copied := defAt_of X G d 10 22 rfl rfl
  have D__law_is : DefAt K mg "_law_is" S__law_is := defAt_of X G d 11 23 rfl rfl
  have D_is_lowest : DefAt K mg "is_lowest" S_is_lowest := defAt_of X G d 12 24 rfl rfl
  have D_check_number : DefAt K mg "check_number" S_check_number := defAt_of X G d 13 25 rfl rfl
  have D_check_numbers : DefAt K mg "check_numbers" S_check_numbers := defAt_of X G d 14 26 rfl rfl
  have D_check_rows : DefAt K mg "check_rows" S_check_rows := defAt_of X G d 15 27 rfl rfl
  have D_lowest : DefAt K mg "lowest" S_lowest := defAt_of X G d 16 28 rfl rfl
  have D__law_mul : DefAt K mg "_law_mul" S__law_mul := defAt_of X G d 17 29 rfl rfl
  have D__law_add : DefAt K mg "_law_add" S__law_add := defAt_of X G d 18 30 rfl rfl
  have D__law_times : DefAt K mg "_law_times" S__law_times := defAt_of X G d 19 31 rfl rfl
  have D__law_pair : DefAt K mg "_law_pair" S__law_pair := defAt_of X G d 20 32 rfl rfl
  have D_beside : DefAt K mg "beside" S_beside := defAt_of X G d 21 33 rfl rfl
  have D__law_beside_due : DefAt K mg "_law_beside_due" S__law_beside_due := defAt_of X G d 22 34 rfl rfl
  have D__law_row : DefAt K mg "_law_row" S__law_row := defAt_of X G d 23 35 rfl rfl
  have D_check_sizes : DefAt K mg "check_sizes" S_check_sizes := defAt_of X G d 24 36 rfl rfl
  have D_check_rows_of : DefAt K mg "check_rows_of" S_check_rows_of := defAt_of X G d 25 37 rfl rfl
  have D__law_crossed : DefAt K mg "_law_crossed" S__law_crossed := defAt_of X G d 26 38 rfl rfl
  have D__law_beside_right : DefAt K mg "_law_beside_right" S__law_beside_right := defAt_of X G d 27 39 rfl rfl
  have D_multiplied : DefAt K mg "multiplied" S_multiplied := defAt_of X G d 28 40 rfl rfl
  have D__all_by_all : DefAt K mg "_all_by_all" S__all_by_all := defAt_of X G d 29 41 rfl rfl
  have D_crossed : DefAt K mg "crossed" S_crossed := defAt_of X G d 30 42 rfl rfl
  have D__law_crossed_due : DefAt K mg "_law_crossed_due" S__law_crossed_due := defAt_of X G d 31 43 rfl rfl
  have D__law_crossed_right : DefAt K mg "_law_crossed_right" S__law_crossed_right := defAt_of X G d 32 44 rfl rfl
  have D__law_right : DefAt K mg "_law_right" S__law_right := defAt_of X G d 33 45 rfl rfl
  have D_law : DefAt K mg "law" S_law := defAt_of X G d 34 46 rfl rfl
  have T : TabAt K mg (He.ga K "Table") := ⟨He.cls_ok (d.fact 49 rfl), He.glo_ok X G (d.fact 48 rfl), He.noat_ok (d.fact 50 rfl), He.noat_ok (d.fact 51 rfl), He.noat_ok (d.fact 52 rfl), init_of d (i := 35) (j := 53) rfl rfl, prop_of (i := 0) cp rfl xp, prop_of (i := 1) cp rfl xp, call_of d (i := 36) (j := 54) rfl rfl, meth_of d (i := 37) (j := 55) rfl rfl, meth_of d (i := 38) (j := 56) rfl rfl⟩
  have TE : TabEq K mg (He.ga K "Table") := ⟨isi_of T.cls xi, eq_of d (i := 39) (j := 57) rfl rfl⟩
  obtain ⟨f, fd, F, hm⟩ := D_law.ex
  have e := hfa.symm.trans hm
  cases e
  obtain ⟨oc, od, kV, doc, pm, an, cdv, ct, osl, efd, lk, hcd⟩ := F.ex
  refine ⟨fd, fun s v => by rw [efd]; exact .of_eq rfl, fun base _ _ => ?_⟩
  have Z__law_pick := has__law_pick (Pr := Pr) (w := w) (base := base) (B := B) (D := D__law_pick)
  have Z__law_pool := has__law_pool (Pr := Pr) (w := w) (base := base) (B := B) (D := D__law_pool)
  have Z_has_sizes := has_has_sizes (Pr := Pr) (w := w) (base := base) (B := B) (D := D_has_sizes)
  have Z_is_cube := has_is_cube (Pr := Pr) (w := w) (base := base) (B := B) (D := D_is_cube) (Chas_sizes := Z_has_sizes)
  have Z__law_low := has__law_low (Pr := Pr) (w := w) (base := base) (B := B) (D := D__law_low)
  have Z__law_number := has__law_number (Pr := Pr) (w := w) (base := base) (B := B) (D := D__law_number) (C_law_pick := Z__law_pick) (C_law_low := Z__law_low)
  have Z__law_products := has__law_products (Pr := Pr) (w := w) (base := base) (B := B) (D := D__law_products) (C_law_pick := Z__law_pick) (C_law_number := Z__law_number)
  have Z__law_alike := has__law_alike (Pr := Pr) (w := w) (base := base) (B := B) (D := D__law_alike)
  have Z__law_copied := has__law_copied (Pr := Pr) (w := w) (base := base) (B := B) (D := D__law_copied)
  have Z_whole := has_whole (Pr := Pr) (w := w) (base := base) (B := B) (D := D_whole)
  have Z_Table_size := has_Table_size (Pr := Pr) (w := w) (base := base) (B := B) (T := T)
  have Z_copied := has_copied (Pr := Pr) (w := w) (base := base) (B := B) (D := D_copied)
  have Z_Table_products := has_Table_products (Pr := Pr) (w := w) (base := base) (B := B) (T := T) (Ccopied := Z_copied)
  have Z_Table_eq := has_Table_eq (Pr := Pr) (w := w) (base := base) (B := B) (T := T) (TE := TE)
  have Z__law_is := has__law_is (Pr := Pr) (w := w) (base := base) (B := B) (T := T) (TE := TE) (D := D__law_is) (C_law_alike := Z__law_alike) (CTable_size := Z_Table_size) (CTable_products := Z_Table_products)
  have Z_is_lowest := has_is_lowest (Pr := Pr) (w := w) (base := base) (B := B) (D := D_is_lowest)
  have Z_check_number := has_check_number (Pr := Pr) (w := w) (base := base) (B := B) (D := D_check_number) (Cis_lowest := Z_is_lowest)
  have Z_check_numbers := has_check_numbers (Pr := Pr) (w := w) (base := base) (B := B) (D := D_check_numbers) (Ccheck_number := Z_check_number)
  have Z_check_rows := has_check_rows (Pr := Pr) (w := w) (base := base) (B := B) (D := D_check_rows) (Ccheck_numbers := Z_check_numbers)
  have Z_Table_init := has_Table_init (Pr := Pr) (w := w) (base := base) (B := B) (T := T) (Ccheck_rows := Z_check_rows) (Cis_cube := Z_is_cube) (Ccopied := Z_copied) (Cwhole := Z_whole)
  have Z_Table_product_over := fun P => has_Table_product_over (Pr := Pr) (w := w) (base := base) (P := P) (B := B) (T := T)
  have Z_lowest := has_lowest (Pr := Pr) (w := w) (base := base) (B := B) (D := D_lowest)
  have Z_Table_product_of := fun P => has_Table_product_of (Pr := Pr) (w := w) (base := base) (P := P) (B := B) (T := T) (Cwhole := Z_whole) (Clowest := Z_lowest) (CTable_product_over := Z_Table_product_over)
  have Z__law_mul := has__law_mul (Pr := Pr) (w := w) (base := base) (B := B) (D := D__law_mul) (C_law_low := Z__law_low)
  have Z__law_add := has__law_add (Pr := Pr) (w := w) (base := base) (B := B) (D := D__law_add) (C_law_low := Z__law_low)
  have Z__law_times := has__law_times (Pr := Pr) (w := w) (base := base) (B := B) (D := D__law_times) (C_law_mul := Z__law_mul) (C_law_add := Z__law_add)
  have Z__law_pair := has__law_pair (Pr := Pr) (w := w) (base := base) (B := B) (T := T) (D := D__law_pair) (C_law_pick := Z__law_pick) (C_law_products := Z__law_products) (C_law_copied := Z__law_copied) (CTable_init := Z_Table_init)
  have Z_beside := has_beside (Pr := Pr) (w := w) (base := base) (B := B) (T := T) (D := D_beside) (CTable_init := Z_Table_init) (CTable_size := Z_Table_size) (CTable_products := Z_Table_products)
  have Z__law_beside_due := has__law_beside_due (Pr := Pr) (w := w) (base := base) (B := B) (D := D__law_beside_due)
  have Z__law_row := has__law_row (Pr := Pr) (w := w) (base := base) (B := B) (D := D__law_row) (C_law_number := Z__law_number)
  have Z_check_sizes := has_check_sizes (Pr := Pr) (w := w) (base := base) (B := B) (D := D_check_sizes)
  have Z_check_rows_of := has_check_rows_of (Pr := Pr) (w := w) (base := base) (B := B) (D := D_check_rows_of) (Ccheck_rows := Z_check_rows) (Ccheck_sizes := Z_check_sizes)
  have Z_Table_call := fun P => has_Table_call (Pr := Pr) (w := w) (base := base) (P := P) (B := B) (T := T) (Ccheck_rows_of := Z_check_rows_of) (CTable_size := Z_Table_size) (CTable_product_of := Z_Table_product_of)
  have Z__law_crossed := has__law_crossed (Pr := Pr) (w := w) (base := base) (B := B) (D := D__law_crossed) (C_law_mul := Z__law_mul)
  have Z__law_beside_right := has__law_beside_right (Pr := Pr) (w := w) (base := base) (B := B) (T := T) (D := D__law_beside_right) (C_law_pick := Z__law_pick) (C_law_products := Z__law_products) (C_law_row := Z__law_row) (C_law_times := Z__law_times) (C_law_is := Z__law_is) (Cbeside := Z_beside) (Dbeside := D_beside) (C_law_beside_due := Z__law_beside_due) (C_law_crossed := Z__law_crossed) (C_law_copied := Z__law_copied) (C_law_alike := Z__law_alike) (CTable_init := Z_Table_init) (CTable_call := Z_Table_call)
  have Z_multiplied := has_multiplied (Pr := Pr) (w := w) (base := base) (B := B) (D := D_multiplied) (Clowest := Z_lowest)
  have Z__all_by_all := has__all_by_all (Pr := Pr) (w := w) (base := base) (B := B) (D := D__all_by_all) (Cmultiplied := Z_multiplied)
  have Z_crossed := has_crossed (Pr := Pr) (w := w) (base := base) (B := B) (T := T) (D := D_crossed) (C_all_by_all := Z__all_by_all) (CTable_init := Z_Table_init) (CTable_products := Z_Table_products)
  have Z__law_crossed_due := has__law_crossed_due (Pr := Pr) (w := w) (base := base) (B := B) (D := D__law_crossed_due) (C_law_crossed := Z__law_crossed)
  have Z__law_crossed_right := has__law_crossed_right (Pr := Pr) (w := w) (base := base) (B := B) (T := T) (D := D__law_crossed_right) (C_law_pick := Z__law_pick) (C_law_products := Z__law_products) (C_law_row := Z__law_row) (C_law_times := Z__law_times) (C_law_is := Z__law_is) (Ccrossed := Z_crossed) (Dcrossed := D_crossed) (C_law_crossed_due := Z__law_crossed_due) (C_law_crossed := Z__law_crossed) (C_law_copied := Z__law_copied) (C_law_alike := Z__law_alike) (CTable_init := Z_Table_init) (CTable_call := Z_Table_call)
  have Z__law_right := has__law_right (Pr := Pr) (w := w) (base := base) (B := B) (T := T) (D := D__law_right) (C_law_pick := Z__law_pick) (C_law_pair := Z__law_pair) (C_law_beside_right := Z__law_beside_right) (C_law_crossed_right := Z__law_crossed_right) (C_law_alike := Z__law_alike) (CTable_products := Z_Table_products)
  have Z_law := has_law (Pr := Pr) (w := w) (base := base) (B := B) (D := D_law) (C_law_pool := Z__law_pool) (C_law_right := Z__law_right)
  exact has_fix Z_law F hm
end K11
open PySem PySem.W PySem.Calls PyProof.Rows
set_option maxHeartbeats 0 in
theorem PySem.Challenge.cw_toldproducts_k11_whole_beside_and_crosse_holds : PySem.Challenge.rw_toldproducts_k11_whole_beside_and_crosse.Holds := by
  w_on; o_law
  refine HandSHeadRun.head_imp (r := OpenLaw.row PySem.Challenge.rw_toldproducts_k11_whole_beside_and_crosse) (q := view (OpenLaw.row PySem.Challenge.rw_toldproducts_k11_whole_beside_and_crosse).prog [0, 46]) (H := K11.hk) (ob := K11.ob) (M := 6000) (loose := K11.names) (d := HandSHeadRun.topDef (OpenLaw.row PySem.Challenge.rw_toldproducts_k11_whole_beside_and_crosse).prog 46) (kwd := []) K11.ob_eq
    K11.run (by kernel_rfl) (by kernel_rfl) (by kernel_rfl) (by rfl) (by first | assumption | decide +kernel) (by decide +kernel) ⟨rfl, rfl, rfl, rfl, rfl, by decide +kernel⟩ ?hw ?hc
  case hw => w_witness2
  case hc =>
    refine L2.walk_ofE (l := PySem.Challenge.rw_toldproducts_k11_whole_beside_and_crosse) (n := 63) (k := 10) (x := "_law_script") (CX := L2.CX0) rfl (by decide) (by kernel_rfl) ⟨rfl, by decide, by decide⟩ ?F (fun _ _ _ _ z => z)
    intro w mg fa h Y G hmg0
    obtain ⟨K, KX, c⟩ := Y
    have hmg : mg ("law" : PySem.Str) = some (.ref fa) := by
      have e : (HandSHeadRun.topDef (OpenLaw.row PySem.Challenge.rw_toldproducts_k11_whole_beside_and_crosse).prog 46).name = ("law" : PySem.Str) := by kernel_rfl
      rw [← e]
      exact hmg0
    obtain ⟨fd, hb, hF⟩ := K11.facts (Pr := (PySem.Challenge.rw_toldproducts_k11_whole_beside_and_crosse).prog) (w := w) KX G hmg c
    exact ⟨K, fd, L2.PL.spLaw K, KX, hb, fun H a ns hl _ hS => ⟨a, ns, rfl, hS, hl, fun _ => rfl⟩, hF⟩
