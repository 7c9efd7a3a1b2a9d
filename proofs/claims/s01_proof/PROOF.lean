import PyProof.Rows.All
import KrdoSpec
import KrdnSpec
import KrdmSpec
import Wide.All
import OpenK.AllK
import Wide.FinOn
import PyProof.EqAt
import PyProof.EqKinds
import PyProof.TupleCall
import KE.KTupSum
import KE.GoesEnum
import HandS.ForSpec
import HandS.Comp
import HandS.Dict
import HandS.Iter
import HandS.Walk
import HandS.More
import HandS.Wide
import HandS.NoneIn
import HandS.Defaults
import HandS.Text
import HandS.Evl
import HandS.HeadHook1
import HandS.HeadHook2
import HandS.HeadHook3
import KE.OsGo
import HandS.Head0
import HandS.Head1
import HandS.Head2
import HandS.Head4
import KrdoNeutral
import HandS.HeadEnd
import PySem.Challenge.RW_swaybits_s01_answers
set_option linter.all false
set_option maxRecDepth 10000
namespace Mt
open Krdk (Answer words bits flip meet of fr frac)
/-! ### sums of rationals -/
theorem foldl_addQ : ∀ (l : List Rat) (a : Rat), l.foldl (· + ·) a = a + l.foldl (· + ·) 0
  | [], a => by show a = a + 0; grind
  | x :: l, a => by
    show l.foldl (· + ·) (a + x) = a + l.foldl (· + ·) (0 + x)
    rw [foldl_addQ l (a + x), foldl_addQ l (0 + x)]
    grind
theorem ks_nil : Krdk.sum [] = 0 := rfl
theorem ks_cons (x : Rat) (l : List Rat) : Krdk.sum (x :: l) = x + Krdk.sum l := by
  show l.foldl (· + ·) (0 + x) = x + l.foldl (· + ·) 0
  rw [foldl_addQ l (0 + x)]
  grind
theorem foldl_addI : ∀ (l : List Int) (a : Int), l.foldl (· + ·) a = a + l.sum
  | [], a => by simp
  | x :: l, a => by
    show l.foldl (· + ·) (a + x) = a + (x :: l).sum
    rw [foldl_addI l (a + x), List.sum_cons]
    omega
theorem foldl_addN : ∀ (l : List Nat) (a : Nat), l.foldl (· + ·) a = a + l.sum
  | [], a => by simp
  | x :: l, a => by
    show l.foldl (· + ·) (a + x) = a + (x :: l).sum
    rw [foldl_addN l (a + x), List.sum_cons]
    omega
theorem ks_div {α : Type} (c : α → Int) (d : Rat) : ∀ l : List α, Krdk.sum (l.map fun i => (c i : Rat) / d) = (((l.map c).sum : Int) : Rat) / d
  | [] => by
    show (0 : Rat) = ((0 : Int) : Rat) / d
    grind
  | x :: l => by
    rw [List.map_cons, ks_cons, ks_div c d l, List.map_cons, List.sum_cons, Rat.intCast_add]
    grind
theorem ks_map {α : Type} {f g : α → Rat} {l : List α} (h : ∀ x ∈ l, f x = g x) : Krdk.sum (l.map f) = Krdk.sum (l.map g) := by
  rw [List.map_congr_left h]
theorem sum_nat {α : Type} (c : α → Nat) : ∀ l : List α, (((l.map c).sum : Nat) : Int) = (l.map fun x => (c x : Int)).sum
  | [] => rfl
  | x :: l => by
    rw [List.map_cons, List.map_cons, List.sum_cons, List.sum_cons, ← sum_nat c l]
    omega
theorem sum_filter {α : Type} (p : α → Bool) (g : α → Int) : ∀ l : List α, ((l.filter p).map g).sum = (l.map fun x => if p x then g x else 0).sum
  | [] => rfl
  | x :: l => by
    rw [List.filter_cons, List.map_cons, List.sum_cons, ← sum_filter p g l]
    cases h : p x
    · simp
    · simp
theorem len_filter {α : Type} (p : α → Bool) : ∀ l : List α, ((l.filter p).length : Int) = (l.map fun x => if p x then (1 : Int) else 0).sum
  | [] => rfl
  | x :: l => by
    rw [List.filter_cons, List.map_cons, List.sum_cons, ← len_filter p l]
    cases h : p x
    · simp
    · simp; omega
theorem p2 (n : Nat) : ((2 ^ n : Nat) : Rat) ≠ 0 := by
  have h : (2 ^ n : Nat) ≠ 0 := Nat.ne_of_gt (Nat.pow_pos (by decide))
  intro e
  exact h (by exact_mod_cast e)
/-! ### fractions in lowest numbers -/
def low (u l : Int) : List Int := fr ((u : Rat) / (l : Rat))
/-! ### answers -/
structure W (f : Answer) : Prop where
  n1 : 1 ≤ f.n
  n5 : f.n ≤ 5
  len : f.t.length = 2 ^ f.n
def b2i (b : Bool) : Int := if b then 1 else 0
/-- what the program holds of an answer -/
def S (f : Answer) : List Int := f.t.map b2i
theorem S_len {f : Answer} (w : W f) : (S f).length = 2 ^ f.n := by unfold S; rw [List.length_map, w.len]
theorem S_at {f : Answer} (w : W f) {x : Nat} (h : x < 2 ^ f.n) : (S f)[x]? = some (b2i (f.at_ x)) := by
  unfold S Krdk.Answer.at_
  rw [List.getElem?_map, List.getD_eq_getElem?_getD]
  have : x < f.t.length := by rw [w.len]; exact h
  rw [List.getElem?_eq_getElem this]
  rfl
theorem t_words {f : Answer} (w : W f) : f.t = (words f.n).map f.at_ := by
  apply List.ext_getElem?
  intro i
  unfold words Krdk.Answer.at_
  rw [List.getElem?_map]
  by_cases h : i < 2 ^ f.n
  · have h2 : i < f.t.length := by rw [w.len]; exact h
    rw [List.getElem?_range h, List.getElem?_eq_getElem h2]
    simp [List.getD_eq_getElem?_getD, List.getElem?_eq_getElem h2]
  · have h2 : f.t.length ≤ i := by rw [w.len]; omega
    rw [List.getElem?_eq_none h2, List.getElem?_eq_none (by simp; omega)]
    rfl
theorem S_words {f : Answer} (w : W f) : S f = (words f.n).map fun x => b2i (f.at_ x) := by
  unfold S
  rw [t_words w, List.map_map]
  apply List.map_congr_left
  intro x hx
  show b2i (f.at_ x) = b2i (Krdk.Answer.at_ f x)
  rfl
theorem of_W {n : Nat} (h1 : 1 ≤ n) (h5 : n ≤ 5) (p : Nat → Bool) : W (of n p) := ⟨h1, h5, by simp [of, words]⟩
theorem of_at {n x : Nat} (p : Nat → Bool) (h : x < 2 ^ n) : (of n p).at_ x = p x := by
  simp [of, words, Krdk.Answer.at_, List.getD_eq_getElem?_getD, List.getElem?_range h]
theorem S_of {n : Nat} (p : Nat → Bool) : S (of n p) = (words n).map fun x => b2i (p x) := by
  unfold S of
  rw [List.map_map]
  rfl
theorem S_sum {f : Answer} (w : W f) : (S f).sum = (f.yes : Int) := by
  rw [S_words w]
  unfold Krdk.Answer.yes
  rw [len_filter]
  rfl
theorem yes_le {f : Answer} (w : W f) : f.yes ≤ 2 ^ f.n := by
  unfold Krdk.Answer.yes
  have h := List.length_filter_le f.at_ (words f.n)
  simpa [words] using h
/-- two answers with the same list are the same -/
theorem S_inj {f g : Answer} (hn : f.n = g.n) (h : S f = S g) : f = g := by
  have key : ∀ (a b : List Bool), a.map b2i = b.map b2i → a = b := by
    intro a
    induction a with
    | nil => intro b h; cases b with
      | nil => rfl
      | cons => simp at h
    | cons x a ih =>
      intro b h
      cases b with
      | nil => simp at h
      | cons y b =>
        simp only [List.map_cons, List.cons.injEq] at h
        have e : x = y := by
          cases x <;> cases y <;> first | rfl | (have := h.1; simp [b2i] at this)
        rw [e, ih b h.2]
  obtain ⟨n, t⟩ := f
  obtain ⟨m, u⟩ := g
  have hn : n = m := hn
  subst hn
  rw [key t u h]
/-! ### simple measures -/
theorem low_mean {f : Answer} (w : W f) : low (f.yes : Int) ((2 ^ f.n : Nat) : Int) = fr f.mean := by
  unfold low Krdk.Answer.mean
  rfl
/-- at how many words a bit sways -/
def swc (f : Answer) (i : Nat) : Nat := ((words f.n).filter (f.sways i)).length
theorem low_sway (f : Answer) (i : Nat) : low (swc f i : Int) ((2 ^ f.n : Nat) : Int) = fr (f.sway i) := rfl
theorem low_all (f : Answer) : low (((List.range f.n).map (swc f)).sum : Nat) ((2 ^ f.n : Nat) : Int) = fr f.all := by
  unfold low Krdk.Answer.all
  have e : (List.range f.n).map f.sway = (List.range f.n).map fun i => (((swc f i : Nat) : Int) : Rat) / ((2 ^ f.n : Nat) : Rat) := rfl
  rw [e, ks_div, ← sum_nat]
  rfl
theorem low_even (f : Answer) : low (4 * (f.yes : Int) * (((2 ^ f.n : Nat) : Int) - (f.yes : Int))) (((2 ^ f.n : Nat) : Int) * ((2 ^ f.n : Nat) : Int)) = fr f.even_ := by
  unfold low Krdk.Answer.even_ Krdk.Answer.mean
  congr 1
  have h := p2 f.n
  rw [Rat.intCast_mul, Rat.intCast_mul, Rat.intCast_mul, Rat.intCast_sub]
  have e1 : (((f.yes : Nat) : Int) : Rat) = (f.yes : Rat) := rfl
  have e2 : (((2 ^ f.n : Nat) : Int) : Rat) = ((2 ^ f.n : Nat) : Rat) := rfl
  rw [e1, e2]
  generalize ((2 ^ f.n : Nat) : Rat) = N at *
  generalize (f.yes : Rat) = c
  have e4 : ((4 : Int) : Rat) = 4 := rfl
  rw [e4]
  grind
/-- a part, in numbers -/
def pt (f : Answer) (s : Nat) : Int := ((words f.n).map fun x => if meet f.n s x % 2 = 0 then f.sign x else -f.sign x).sum
theorem part_pt (f : Answer) (s : Nat) : f.part s = (pt f s : Rat) / ((2 ^ f.n : Nat) : Rat) := by
  unfold Krdk.Answer.part pt
  rw [foldl_addI]
  simp
theorem low_part (f : Answer) (s : Nat) : low (pt f s) ((2 ^ f.n : Nat) : Int) = fr (f.part s) := by
  rw [part_pt]; rfl
theorem pt_eq (f : Answer) (s x : Nat) : (if meet f.n s x % 2 = 0 then f.sign x else -f.sign x) = if b2i (f.at_ x) = ((meet f.n s x % 2 : Nat) : Int) then 1 else -1 := by
  unfold Krdk.Answer.sign b2i
  have h : meet f.n s x % 2 = 0 ∨ meet f.n s x % 2 = 1 := by omega
  rcases h with h | h <;> rw [h] <;> cases f.at_ x <;> decide
theorem part_zero (f : Answer) (s : Nat) : (f.part s != 0) = (pt f s != 0) := by
  rw [part_pt]
  have h := p2 f.n
  by_cases e : pt f s = 0
  · rw [e]
    have : ((0 : Int) : Rat) / ((2 ^ f.n : Nat) : Rat) = 0 := by grind
    rw [this]; rfl
  · have h2 : ((pt f s : Int) : Rat) ≠ 0 := by
      intro z; exact e (by exact_mod_cast z)
    have h3 : ((pt f s : Int) : Rat) / ((2 ^ f.n : Nat) : Rat) ≠ 0 := by grind
    rw [bne_iff_ne.mpr h3, bne_iff_ne.mpr e]
/-- a level, in numbers -/
def lev (f : Answer) (k : Nat) : Int := (((words f.n).filter fun s => bits f.n s == k).map fun s => pt f s * pt f s).sum
theorem low_lev (f : Answer) (k : Nat) : low (lev f k) (((2 ^ f.n : Nat) : Int) * ((2 ^ f.n : Nat) : Int)) = fr (f.level k) := by
  unfold low Krdk.Answer.level lev
  have h := p2 f.n
  have e : ∀ s, f.part s * f.part s = ((pt f s * pt f s : Int) : Rat) / (((2 ^ f.n : Nat) : Rat) * ((2 ^ f.n : Nat) : Rat)) := by
    intro s
    rw [part_pt, Rat.intCast_mul]
    grind
  rw [ks_map (fun s _ => e s), ks_div, Rat.intCast_mul]
  rfl
end Mt
set_option linter.all false
set_option maxRecDepth 100000
namespace Mt
open Krdk (Answer words bits flip meet of fr frac)
/-! ### bits -/
abbrev bc (x : Nat) : Nat := bits 5 x
theorem bits_bc : ∀ n, n ≤ 5 → ∀ x, x < 2 ^ n → bits n x = bc x := by decide +kernel
theorem meet_bc : ∀ n, n ≤ 5 → ∀ s, s < 2 ^ n → ∀ x, x < 2 ^ n → meet n s x = bc (x &&& s) := by decide +kernel
theorem flip_xor : ∀ x, x < 32 → ∀ i, i < 5 → x ^^^ 2 ^ i = flip x i := by decide +kernel
theorem flip_lt : ∀ n, n ≤ 5 → ∀ x, x < 2 ^ n → ∀ i, i < n → flip x i < 2 ^ n := by decide +kernel
theorem or_lt : ∀ n, n ≤ 5 → ∀ x, x < 2 ^ n → ∀ i, i < n → x ||| 2 ^ i < 2 ^ n := by decide +kernel
theorem or_flip : ∀ x, x < 32 → ∀ i, i < 5 → x ||| 2 ^ i = if x.testBit i then x else flip x i := by decide +kernel
theorem and_lt : ∀ n, n ≤ 5 → ∀ x, x < 2 ^ n → ∀ s, s < 2 ^ n → x &&& s < 2 ^ n := by decide +kernel
theorem xor_lt : ∀ n, n ≤ 5 → ∀ x, x < 2 ^ n → ∀ s, s < 2 ^ n → x ^^^ s < 2 ^ n := by decide +kernel
theorem bc_le : ∀ n, n ≤ 5 → ∀ x, x < 2 ^ n → bc x ≤ n := by decide +kernel
theorem shr_and : ∀ x, x < 32 → ∀ i, i < 5 → (x >>> i) &&& 1 = if x.testBit i then 1 else 0 := by decide +kernel
theorem p32 {n x : Nat} (h : n ≤ 5) (hx : x < 2 ^ n) : x < 32 := Nat.lt_of_lt_of_le hx (Nat.pow_le_pow_right (by decide) h)
theorem mem_words {n x : Nat} : x ∈ words n ↔ x < 2 ^ n := by unfold words; exact List.mem_range
/-! ### the first of the greatest -/
def amax (g : Nat → Rat) (n : Nat) : Nat := (List.range n).foldl (fun (b : Nat) i => if g b < g i then i else b) 0
theorem amax_inv (g : Nat → Rat) : ∀ n, 0 < n → amax g n < n ∧ (∀ i, i < n → g i ≤ g (amax g n)) ∧ ∀ j, j < amax g n → g j < g (amax g n)
  | 0, h => absurd h (by decide)
  | n + 1, _ => by
    have e : amax g (n + 1) = if g (amax g n) < g n then n else amax g n := by
      unfold amax
      rw [List.range_succ, List.foldl_append]
      rfl
    by_cases hn : n = 0
    · subst hn
      have e0 : amax g 0 = 0 := rfl
      rw [e, e0]
      have : ¬ g 0 < g 0 := by grind
      rw [if_neg this]
      refine ⟨by decide, fun i hi => ?_, fun j hj => absurd hj (by omega)⟩
      have : i = 0 := by omega
      subst this
      grind
    · obtain ⟨h1, h2, h3⟩ := amax_inv g n (by omega)
      rw [e]
      by_cases c : g (amax g n) < g n
      · rw [if_pos c]
        refine ⟨by omega, fun i hi => ?_, fun j hj => ?_⟩
        · by_cases hin : i = n
          · subst hin; grind
          · have := h2 i (by omega); grind
        · have := h2 j hj; grind
      · rw [if_neg c]
        refine ⟨by omega, fun i hi => ?_, h3⟩
        by_cases hin : i = n
        · subst hin; grind
        · exact h2 i (by omega)
theorem amax_is {g : Nat → Rat} {n j : Nat} (hj : j < n) (hm : ∀ i, i < n → g i ≤ g j) (hf : ∀ i, i < j → g i < g j) : amax g n = j := by
  obtain ⟨h1, h2, h3⟩ := amax_inv g n (by omega)
  rcases Nat.lt_trichotomy (amax g n) j with h | h | h
  · have a := hf _ h
    have b := h2 j hj
    grind
  · exact h
  · have a := h3 _ h
    have b := hm _ h1
    grind
/-- the first of the least, with its value -/
def amin (v : Nat → Rat) (n : Nat) : Nat × Rat := (List.range n).foldl (fun (b : Nat × Rat) x => if v x < b.2 then (x, v x) else b) (0, v 0)
theorem amin_inv (v : Nat → Rat) : ∀ n, 0 < n → (amin v n).1 < n ∧ (amin v n).2 = v (amin v n).1 ∧ (∀ i, i < n → (amin v n).2 ≤ v i) ∧ ∀ j, j < (amin v n).1 → (amin v n).2 < v j
  | 0, h => absurd h (by decide)
  | n + 1, _ => by
    have e : amin v (n + 1) = if v n < (amin v n).2 then (n, v n) else amin v n := by
      unfold amin
      rw [List.range_succ, List.foldl_append]
      rfl
    by_cases hn : n = 0
    · subst hn
      have e0 : amin v 0 = (0, v 0) := rfl
      rw [e, e0]
      have : ¬ v 0 < ((0, v 0) : Nat × Rat).2 := by show ¬ v 0 < v 0; grind
      rw [if_neg this]
      refine ⟨Nat.one_pos, rfl, fun i hi => ?_, fun j hj => absurd hj (Nat.not_lt_zero j)⟩
      have : i = 0 := by omega
      subst this
      show v 0 ≤ v 0
      grind
    · obtain ⟨h1, h0, h2, h3⟩ := amin_inv v n (by omega)
      rw [e]
      by_cases c : v n < (amin v n).2
      · rw [if_pos c]
        refine ⟨by omega, rfl, fun i hi => ?_, fun j hj => ?_⟩
        · show v n ≤ v i
          by_cases hin : i = n
          · subst hin; grind
          · have := h2 i (by omega); grind
        · show v n < v j
          have := h2 j hj; grind
      · rw [if_neg c]
        refine ⟨by omega, h0, fun i hi => ?_, h3⟩
        by_cases hin : i = n
        · subst hin; grind
        · exact h2 i (by omega)
theorem amin_is {v : Nat → Rat} {n j : Nat} (hj : j < n) (hm : ∀ i, i < n → v j ≤ v i) (hf : ∀ i, i < j → v j < v i) : amin v n = (j, v j) := by
  obtain ⟨h1, h0, h2, h3⟩ := amin_inv v n (by omega)
  have e : (amin v n).1 = j := by
    rcases Nat.lt_trichotomy (amin v n).1 j with h | h | h
    · have a := hf _ h
      have b := h2 j hj
      grind
    · exact h
    · have a := h3 _ h
      have b := hm _ h1
      grind
  exact Prod.ext e (h0.trans (by rw [e]))
theorem div_lt {a b : Int} {d : Rat} (hd : 0 < d) : ((a : Rat) / d < (b : Rat) / d) ↔ a < b := by
  rw [Rat.div_lt_iff hd]
  have e : (b : Rat) / d * d = b := by grind
  rw [e]
  exact Rat.intCast_lt_intCast
theorem div_le {a b : Int} {d : Rat} (hd : 0 < d) : ((a : Rat) / d ≤ (b : Rat) / d) ↔ a ≤ b := by
  have h := @div_lt b a d hd
  constructor
  · intro z
    apply Int.not_lt.mp
    intro y
    have := h.mpr y
    grind
  · intro z
    apply Rat.not_lt.mp
    intro y
    have := h.mp y
    omega
theorem p2pos (n : Nat) : (0 : Rat) < ((2 ^ n : Nat) : Rat) := by
  have h : 0 < 2 ^ n := Nat.pow_pos (by decide)
  exact_mod_cast h
/-- the first of the greatest of a list of numbers, all by one number -/
theorem amax_list {c : Nat → Int} {d : Rat} (hd : 0 < d) {n j : Nat} {m : Int} (hj : ((List.range n).map c)[j]? = some m) (hm : ∀ z ∈ (List.range n).map c, z ≤ m) (hf : ∀ k z, k < j → ((List.range n).map c)[k]? = some z → z ≠ m) : amax (fun i => (c i : Rat) / d) n = j ∧ m = c j ∧ j < n := by
  have hjn : j < n := by
    have := (List.getElem?_eq_some_iff.mp hj).1
    simpa using this
  have hmj : m = c j := by
    rw [List.getElem?_map, List.getElem?_range hjn] at hj
    exact (Option.some.inj hj).symm
  refine ⟨amax_is hjn (fun i hi => (div_le hd).mpr ?_) (fun i hi => (div_lt hd).mpr ?_), hmj, hjn⟩
  · rw [← hmj]
    exact hm _ (List.mem_map.mpr ⟨i, List.mem_range.mpr hi, rfl⟩)
  · have h1 : c i ≤ m := hm _ (List.mem_map.mpr ⟨i, List.mem_range.mpr (by omega), rfl⟩)
    have h2 : c i ≠ m := hf i _ hi (by rw [List.getElem?_map, List.getElem?_range (by omega)]; rfl)
    rw [← hmj]
    omega
theorem amin_list {c : Nat → Int} {d : Rat} (hd : 0 < d) {n j : Nat} {m : Int} (hj : ((List.range n).map c)[j]? = some m) (hm : ∀ z ∈ (List.range n).map c, m ≤ z) (hf : ∀ k z, k < j → ((List.range n).map c)[k]? = some z → z ≠ m) : amin (fun i => (c i : Rat) / d) n = (j, (c j : Rat) / d) ∧ m = c j ∧ j < n := by
  have hjn : j < n := by
    have := (List.getElem?_eq_some_iff.mp hj).1
    simpa using this
  have hmj : m = c j := by
    rw [List.getElem?_map, List.getElem?_range hjn] at hj
    exact (Option.some.inj hj).symm
  refine ⟨amin_is hjn (fun i hi => (div_le hd).mpr ?_) (fun i hi => (div_lt hd).mpr ?_), hmj, hjn⟩
  · rw [← hmj]
    exact hm _ (List.mem_map.mpr ⟨i, List.mem_range.mpr hi, rfl⟩)
  · have h1 : m ≤ c i := hm _ (List.mem_map.mpr ⟨i, List.mem_range.mpr (by omega), rfl⟩)
    have h2 : c i ≠ m := hf i _ hi (by rw [List.getElem?_map, List.getElem?_range (by omega)]; rfl)
    rw [← hmj]
    omega
/-! ### sways -/
theorem sway_eq (f : Answer) : f.sway = fun i => ((swc f i : Nat) : Rat) / ((2 ^ f.n : Nat) : Rat) := rfl
theorem sway_zero (f : Answer) (i : Nat) : (f.sway i == 0) = (((swc f i : Nat) : Int) == 0) := by
  show (((swc f i : Nat) : Rat) / ((2 ^ f.n : Nat) : Rat) == 0) = _
  have h := p2 f.n
  by_cases e : swc f i = 0
  · rw [e]
    have : ((0 : Nat) : Rat) / ((2 ^ f.n : Nat) : Rat) = 0 := by
      have : ((0 : Nat) : Rat) = 0 := rfl
      grind
    rw [this]; rfl
  · have h2 : ((swc f i : Nat) : Rat) ≠ 0 := by
      intro z; exact e (by exact_mod_cast z)
    have h3 : ((swc f i : Nat) : Rat) / ((2 ^ f.n : Nat) : Rat) ≠ 0 := by grind
    rw [beq_eq_false_iff_ne.mpr h3, beq_eq_false_iff_ne.mpr (by omega)]
theorem idle_eq (f : Answer) : (List.range f.n).filter (fun i => f.sway i == 0) = (List.range f.n).filter (fun i => ((swc f i : Nat) : Int) == 0) := by
  congr 1
  funext i
  exact sway_zero f i
theorem sides_eq (f : Answer) : f.sides = ((List.range f.n).map (swc f)).sum / 2 := by
  unfold Krdk.Answer.sides
  rw [foldl_addN, Nat.zero_add]
  rfl
theorem rising_eq {f : Answer} (w : W f) : f.rising = !((List.range f.n).any fun i => (words f.n).any fun x => decide (b2i (f.at_ (x ||| 2 ^ i)) < b2i (f.at_ x))) := by
  unfold Krdk.Answer.rising
  have hn := w.n5
  have one : ∀ i, i < f.n → ∀ x, x < 2 ^ f.n → ((x.testBit i || !f.at_ x || f.at_ (flip x i)) = true ↔ ¬ b2i (f.at_ (x ||| 2 ^ i)) < b2i (f.at_ x)) := by
    intro i hi x hx
    rw [or_flip x (p32 hn hx) i (by omega)]
    cases x.testBit i
    · simp only [Bool.false_or, Bool.false_eq_true, if_false]
      cases f.at_ x <;> cases f.at_ (flip x i) <;> decide
    · simp only [Bool.true_or, if_true]
      simp
  rw [Bool.eq_iff_iff, Bool.not_eq_true', List.all_eq_true, List.any_eq_false]
  constructor
  · intro h i hi
    rw [List.any_eq_true]
    rintro ⟨x, hx, hd⟩
    have h2 := List.all_eq_true.mp (h x hx) i hi
    exact (one i (List.mem_range.mp hi) x (mem_words.mp hx)).mp h2 (of_decide_eq_true hd)
  · intro h x hx
    rw [List.all_eq_true]
    intro i hi
    rw [one i (List.mem_range.mp hi) x (mem_words.mp hx)]
    intro hd
    exact h i hi (List.any_eq_true.mpr ⟨x, hx, decide_eq_true hd⟩)
/-! ### weights -/
theorem weigh_eq (n : Nat) (l : List Nat) (x : Nat) : Krdk.weigh n l x = (((List.range n).filter fun i => x.testBit i).map fun i => l.getD i 0).sum := by
  unfold Krdk.weigh
  have : ∀ (r : List Nat) (a : Nat), r.foldl (fun t i => t + l.getD i 0) a = a + (r.map fun i => l.getD i 0).sum := by
    intro r
    induction r with
    | nil => intro a; simp
    | cons y r ih => intro a; rw [List.foldl_cons, ih, List.map_cons, List.sum_cons]; omega
  rw [this, Nat.zero_add]
end Mt
set_option linter.all false
set_option maxRecDepth 100000
namespace Mt
open Krdk (Answer words bits flip meet of fr frac)
/-! ### powers -/
theorem ipow (a : Int) : ∀ n : Nat, ((a ^ n : Int) : Rat) = (a : Rat) ^ n := fun n => by push_cast; rfl
theorem pow_s (r : Rat) (n : Nat) : r ^ (n + 1) = r ^ n * r := by grind
theorem div_pow (p q : Rat) (h : q ≠ 0) : ∀ n : Nat, (p / q) ^ n = p ^ n / q ^ n ∧ q ^ n ≠ 0
  | 0 => by
    have e1 : (p / q) ^ 0 = 1 := by grind
    have e2 : p ^ 0 = 1 := by grind
    have e3 : q ^ 0 = 1 := by grind
    rw [e1, e2, e3]
    constructor <;> grind
  | n + 1 => by
    obtain ⟨h1, h2⟩ := div_pow p q h n
    rw [pow_s, pow_s, pow_s, h1]
    generalize q ^ n = Q at *
    generalize p ^ n = R at *
    have h3 : Q * q ≠ 0 := by
      intro z
      rcases Rat.mul_eq_zero.mp z with z | z
      · exact h2 z
      · exact h z
    refine ⟨?_, h3⟩
    grind
theorem pow_add_ (r : Rat) (a : Nat) : ∀ b : Nat, r ^ (a + b) = r ^ a * r ^ b
  | 0 => by grind
  | b + 1 => by
    show r ^ ((a + b) + 1) = _
    rw [pow_s, pow_s, pow_add_ r a b]
    grind
/-- p ^ d * (1 - p) ^ (n - d), p = u / l, by l ^ n -/
def cnt (n : Nat) (u l : Int) (d : Nat) : Int := u ^ d * (l - u) ^ (n - d)
theorem cnt_eq {u l : Int} (h : (l : Rat) ≠ 0) {n d : Nat} (hd : d ≤ n) : ((u : Rat) / l) ^ d * (1 - (u : Rat) / l) ^ (n - d) = (cnt n u l d : Rat) / (l : Rat) ^ n := by
  have e1 : 1 - (u : Rat) / l = ((l - u : Int) : Rat) / l := by
    rw [Rat.intCast_sub]
    grind
  rw [e1, (div_pow _ _ h d).1, (div_pow _ _ h (n - d)).1]
  have e2 : (l : Rat) ^ n = (l : Rat) ^ d * (l : Rat) ^ (n - d) := by
    rw [← pow_add_]
    congr 1
    omega
  rw [e2]
  unfold cnt
  rw [Rat.intCast_mul, ipow, ipow]
  have h1 := (div_pow (u : Rat) _ h d).2
  have h2 := (div_pow (u : Rat) _ h (n - d)).2
  generalize (l : Rat) ^ d = A at *
  generalize (l : Rat) ^ (n - d) = B at *
  generalize (u : Rat) ^ d = C
  generalize ((l - u : Int) : Rat) ^ (n - d) = D
  have h3 : A * B ≠ 0 := by
    intro z
    rcases Rat.mul_eq_zero.mp z with z | z
    · exact h1 z
    · exact h2 z
  grind
theorem kl_power (r : Rat) : ∀ k : Nat, Krdl.power r k = r ^ k
  | 0 => by show (1 : Rat) = r ^ 0; grind
  | k + 1 => by show r * Krdl.power r k = r ^ (k + 1); rw [kl_power r k]; grind
theorem km_power (r : Rat) : ∀ k : Nat, Krdm.power r k = r ^ k
  | 0 => by show (1 : Rat) = r ^ 0; grind
  | k + 1 => by show r * Krdm.power r k = r ^ (k + 1); rw [km_power r k]; grind
theorem kn_power (r : Rat) : ∀ k : Nat, Krdn.power r k = r ^ k
  | 0 => by show (1 : Rat) = r ^ 0; grind
  | k + 1 => by show r * Krdn.power r k = r ^ (k + 1); rw [kn_power r k]; grind
theorem bits_succ (n z : Nat) : bits (n + 1) z = bits n z + if z.testBit n then 1 else 0 := by
  unfold Krdk.bits
  rw [List.range_succ, List.filter_append, List.length_append]
  congr 1
  rw [List.filter_cons]
  cases z.testBit n <;> rfl
theorem bits_le (n z : Nat) : bits n z ≤ n := by
  unfold Krdk.bits
  have h := List.length_filter_le (fun i => z.testBit i) (List.range n)
  simpa using h
/-! ### heard -/
theorem heard_pow (e : Rat) (x y : Nat) : ∀ n : Nat, Krdl.heard n e x y = e ^ bits n (x ^^^ y) * (1 - e) ^ (n - bits n (x ^^^ y))
  | 0 => by
    show (1 : Rat) = e ^ 0 * (1 - e) ^ (0 - 0)
    grind
  | n + 1 => by
    have h : Krdl.heard (n + 1) e x y = Krdl.heard n e x y * (if x.testBit n == y.testBit n then 1 - e else e) := by
      unfold Krdl.heard
      rw [List.range_succ, List.foldl_append]
      rfl
    rw [h, heard_pow e x y n, bits_succ, Nat.testBit_xor]
    have hl := bits_le n (x ^^^ y)
    cases x.testBit n <;> cases y.testBit n
    · have e1 : n + 1 - (bits n (x ^^^ y) + if (false ^^ false) = true then 1 else 0) = (n - bits n (x ^^^ y)) + 1 := by simp; omega
      rw [e1, pow_s]
      simp
      grind
    · have e1 : n + 1 - (bits n (x ^^^ y) + if (false ^^ true) = true then 1 else 0) = (n - bits n (x ^^^ y)) := by simp
      rw [e1]
      simp
      grind
    · have e1 : n + 1 - (bits n (x ^^^ y) + if (true ^^ false) = true then 1 else 0) = (n - bits n (x ^^^ y)) := by simp
      rw [e1]
      simp
      grind
    · have e1 : n + 1 - (bits n (x ^^^ y) + if (true ^^ true) = true then 1 else 0) = (n - bits n (x ^^^ y)) + 1 := by simp; omega
      rw [e1, pow_s]
      simp
      grind
/-- the chance in its numbers -/
structure Ch (e : Rat) (a b : Int) : Prop where
  eq : e = (a : Rat) / (b : Rat)
  a0 : 0 ≤ a
  b1 : 1 ≤ b
  b20 : b ≤ 20
  half : 2 * a ≤ b
theorem Ch.ne {e : Rat} {a b : Int} (h : Ch e a b) : (b : Rat) ≠ 0 := by
  intro z
  have : b = 0 := by exact_mod_cast z
  have := h.b1
  omega
theorem low_heard {e : Rat} {a b : Int} (h : Ch e a b) (n x y : Nat) : low (cnt n a b (bits n (x ^^^ y))) (b ^ n) = fr (Krdl.heard n e x y) := by
  unfold low
  rw [heard_pow, h.eq, cnt_eq h.ne (bits_le _ _), ipow]
/-- how likely yes is said to x, by b ^ n -/
def ys (f : Answer) (a b : Int) (x : Nat) : Int := (((words f.n).filter f.at_).map fun y => cnt f.n a b (bits f.n (x ^^^ y))).sum
theorem soft_eq {e : Rat} {a b : Int} (h : Ch e a b) (f : Answer) (x : Nat) : Krdl.soft f e x = (ys f a b x : Rat) / (b : Rat) ^ f.n := by
  unfold Krdl.soft ys
  rw [sum_filter, ← ks_div]
  apply ks_map
  intro y _
  cases f.at_ y
  · simp only [Bool.false_eq_true, if_false]
    have e0 : ((0 : Int) : Rat) = 0 := rfl
    rw [e0]
    grind
  · simp only [if_true]
    rw [heard_pow, h.eq, cnt_eq h.ne (bits_le _ _)]
theorem low_soft {e : Rat} {a b : Int} (h : Ch e a b) (f : Answer) (x : Nat) : low (ys f a b x) (b ^ f.n) = fr (Krdl.soft f e x) := by
  unfold low
  rw [soft_eq h, ipow]
/-- how likely what's said is as it is -/
def ry (f : Answer) (a b : Int) (x : Nat) : Int := if f.at_ x then ys f a b x else b ^ f.n - ys f a b x
theorem bn_ne {b : Rat} (h : b ≠ 0) (n : Nat) : b ^ n ≠ 0 := (div_pow 1 b h n).2
theorem ry_eq {e : Rat} {a b : Int} (h : Ch e a b) (f : Answer) (x : Nat) : (if f.at_ x then Krdl.soft f e x else 1 - Krdl.soft f e x) = (ry f a b x : Rat) / (b : Rat) ^ f.n := by
  unfold ry
  rw [soft_eq h]
  have hb := bn_ne h.ne f.n
  cases f.at_ x
  · simp only [Bool.false_eq_true, if_false]
    rw [Rat.intCast_sub, ipow]
    grind
  · simp only [if_true]
theorem mul_ne {a b : Rat} (ha : a ≠ 0) (hb : b ≠ 0) : a * b ≠ 0 := by
  intro z
  rcases Rat.mul_eq_zero.mp z with z | z
  · exact ha z
  · exact hb z
theorem stays_eq {e : Rat} {a b : Int} (h : Ch e a b) (f : Answer) : Krdl.stays f e = ((((words f.n).map (ry f a b)).sum : Int) : Rat) / ((((2 ^ f.n : Nat) : Int) * b ^ f.n : Int) : Rat) := by
  unfold Krdl.stays
  rw [ks_map (fun x _ => ry_eq h f x), ks_div, Rat.intCast_mul, ipow]
  have hb := bn_ne h.ne f.n
  have hp := p2 f.n
  have hm := mul_ne hb hp
  have e1 : (((2 ^ f.n : Nat) : Int) : Rat) = ((2 ^ f.n : Nat) : Rat) := rfl
  rw [e1]
  generalize (b : Rat) ^ f.n = B at *
  generalize ((2 ^ f.n : Nat) : Rat) = N at *
  grind
theorem low_stays {e : Rat} {a b : Int} (h : Ch e a b) (f : Answer) : low (((words f.n).map (ry f a b)).sum) (((2 ^ f.n : Nat) : Int) * b ^ f.n) = fr (Krdl.stays f e) := by
  unfold low
  rw [stays_eq h]
theorem low_agree {e : Rat} {a b : Int} (h : Ch e a b) (f : Answer) : low (((words f.n).map fun x => ys f a b x * ys f a b x + (b ^ f.n - ys f a b x) * (b ^ f.n - ys f a b x)).sum) (((2 ^ f.n : Nat) : Int) * b ^ f.n * b ^ f.n) = fr (Krdl.agree f e) := by
  unfold low Krdl.agree
  have hb := bn_ne h.ne f.n
  have hp := p2 f.n
  have hbb := mul_ne hb hb
  have e2 : ∀ x, Krdl.soft f e x * Krdl.soft f e x + (1 - Krdl.soft f e x) * (1 - Krdl.soft f e x) = ((ys f a b x * ys f a b x + (b ^ f.n - ys f a b x) * (b ^ f.n - ys f a b x) : Int) : Rat) / ((b : Rat) ^ f.n * (b : Rat) ^ f.n) := by
    intro x
    rw [soft_eq h, Rat.intCast_add, Rat.intCast_mul, Rat.intCast_mul, Rat.intCast_sub, ipow]
    generalize (b : Rat) ^ f.n = B at *
    grind
  rw [ks_map (fun x _ => e2 x), ks_div, Rat.intCast_mul, Rat.intCast_mul, ipow]
  congr 1
  have e1 : (((2 ^ f.n : Nat) : Int) : Rat) = ((2 ^ f.n : Nat) : Rat) := rfl
  rw [e1]
  generalize (b : Rat) ^ f.n = B at *
  generalize ((2 ^ f.n : Nat) : Rat) = N at *
  have hm := mul_ne (mul_ne hp hb) hb
  grind
theorem bpos {e : Rat} {a b : Int} (h : Ch e a b) (n : Nat) : (0 : Rat) < (b : Rat) ^ n := by
  have h1 : (0 : Int) < b ^ n := Int.pow_pos (by have := h.b1; omega)
  rw [← ipow]
  exact_mod_cast h1
theorem worst_eq {e : Rat} {a b : Int} (h : Ch e a b) (f : Answer) : Krdl.worst f e = amin (fun x => (ry f a b x : Rat) / (b : Rat) ^ f.n) (2 ^ f.n) := by
  unfold Krdl.worst amin
  simp only [ry_eq h]
  rfl
/-! ### by parts -/
theorem low_byparts (f : Answer) : low (3 * ((((2 ^ f.n : Nat) : Int) * ((2 ^ f.n : Nat) : Int) * 3 ^ f.n) - ((words f.n).map fun s => pt f s * pt f s * (-1) ^ bits f.n s * 3 ^ (f.n - bits f.n s)).sum)) (4 * (((2 ^ f.n : Nat) : Int) * ((2 ^ f.n : Nat) : Int) * 3 ^ f.n)) = fr (Krdm.byParts f) := by
  unfold low Krdm.byParts
  have hp := p2 f.n
  have h3 : (3 : Rat) ≠ 0 := by decide
  have hb := bn_ne h3 f.n
  have e2 : ∀ s, Krdm.power (-1 / 3) (bits f.n s) * (f.part s * f.part s) = ((pt f s * pt f s * (-1) ^ bits f.n s * 3 ^ (f.n - bits f.n s) : Int) : Rat) / (((2 ^ f.n : Nat) : Rat) * ((2 ^ f.n : Nat) : Rat) * (3 : Rat) ^ f.n) := by
    intro s
    rw [part_pt, km_power, (div_pow (-1) 3 h3 _).1, Rat.intCast_mul, Rat.intCast_mul, Rat.intCast_mul, ipow, ipow]
    have e3 : (3 : Rat) ^ f.n = (3 : Rat) ^ bits f.n s * (3 : Rat) ^ (f.n - bits f.n s) := by
      rw [← pow_add_]
      congr 1
      have := bits_le f.n s
      omega
    have ha := bn_ne h3 (bits f.n s)
    have hc := bn_ne h3 (f.n - bits f.n s)
    rw [e3]
    have e4 : ((-1 : Int) : Rat) = -1 := rfl
    have e5 : ((3 : Int) : Rat) = 3 := rfl
    rw [e4, e5]
    generalize (3 : Rat) ^ bits f.n s = A at *
    generalize (3 : Rat) ^ (f.n - bits f.n s) = B at *
    generalize ((2 ^ f.n : Nat) : Rat) = N at *
    have q1 := mul_ne (mul_ne hp hp) (mul_ne ha hc)
    grind
  rw [ks_map (fun x _ => e2 x), ks_div]
  congr 1
  simp only [Rat.intCast_mul, Rat.intCast_sub, ipow]
  have e1 : (((2 ^ f.n : Nat) : Int) : Rat) = ((2 ^ f.n : Nat) : Rat) := rfl
  have e5 : ((3 : Int) : Rat) = 3 := rfl
  have e6 : ((4 : Int) : Rat) = 4 := rfl
  rw [e1, e5, e6]
  generalize (3 : Rat) ^ f.n = T at *
  generalize ((2 ^ f.n : Nat) : Rat) = N at *
  have q1 := mul_ne (mul_ne hp hp) hb
  grind
end Mt
set_option linter.all false
set_option maxRecDepth 100000
namespace Mt
open Krdk (Answer words bits flip meet of fr frac)
/-! ### sums by classes -/
theorem one_class (g : Nat → Int) : ∀ (n c : Nat), c ≤ n → ((List.range (n + 1)).map fun k => if c == k then g k else 0).sum = g c
  | 0, c, h => by
    have : c = 0 := by omega
    subst this
    simp
  | n + 1, c, h => by
    rw [List.range_succ, List.map_append, List.sum_append]
    by_cases e : c = n + 1
    · subst e
      have z : ((List.range (n + 1)).map fun k => if (n + 1) == k then g k else 0) = (List.range (n + 1)).map fun _ => (0 : Int) := by
        apply List.map_congr_left
        intro k hk
        have := List.mem_range.mp hk
        rw [if_neg]
        simp
        omega
      rw [z]
      have zz : ∀ l : List Nat, (l.map fun _ => (0 : Int)).sum = 0 := by
        intro l
        induction l with
        | nil => rfl
        | cons x l ih => rw [List.map_cons, List.sum_cons, ih]; rfl
      rw [zz]
      simp
    · rw [one_class g n c (by omega)]
      simp [e]
theorem sum_add (l : List Nat) (f g : Nat → Int) : (l.map fun k => f k + g k).sum = (l.map f).sum + (l.map g).sum := by
  induction l with
  | nil => rfl
  | cons x l ih => simp only [List.map_cons, List.sum_cons, ih]; omega
theorem by_class (cls : Nat → Nat) (g : Nat → Int) (n : Nat) : ∀ l : List Nat, (∀ x ∈ l, cls x ≤ n) → (l.map fun x => g (cls x)).sum = ((List.range (n + 1)).map fun k => ((l.filter fun x => cls x == k).length : Int) * g k).sum
  | [], _ => by
    have z : ((List.range (n + 1)).map fun k => ((([] : List Nat).filter fun x => cls x == k).length : Int) * g k) = (List.range (n + 1)).map fun _ => (0 : Int) := by
      apply List.map_congr_left
      intro k _
      simp
    rw [z]
    have zz : ∀ l : List Nat, (l.map fun _ => (0 : Int)).sum = 0 := by
      intro l
      induction l with
      | nil => rfl
      | cons x l ih => rw [List.map_cons, List.sum_cons, ih]; rfl
    rw [zz]
    rfl
  | x :: l, h => by
    rw [List.map_cons, List.sum_cons, by_class cls g n l fun y hy => h y (List.mem_cons_of_mem _ hy)]
    rw [← one_class g n (cls x) (h x (List.mem_cons_self ..)), ← sum_add]
    congr 1
    apply List.map_congr_left
    intro k _
    rw [List.filter_cons]
    cases e : cls x == k
    · simp
    · simp
      grind
/-! ### yes by a chance -/
def asum (c : Nat → Int) (n : Nat) (u l : Int) : Int := ((List.range (n + 1)).map fun k => c k * cnt n u l k).sum
abbrev sz (f : Answer) (k : Nat) : Int := ((Krdn.sized f k : Nat) : Int)
theorem yesAt_eq {f : Answer} {u l : Int} (h : (l : Rat) ≠ 0) : Krdn.yesAt f ((u : Rat) / l) = (asum (sz f) f.n u l : Rat) / (l : Rat) ^ f.n := by
  unfold Krdn.yesAt
  have e1 : ∀ x ∈ words f.n, (if f.at_ x then Krdn.likely f.n ((u : Rat) / l) x else 0) = (((if f.at_ x then cnt f.n u l (bits f.n x) else 0 : Int)) : Rat) / (l : Rat) ^ f.n := by
    intro x _
    cases f.at_ x
    · simp only [Bool.false_eq_true, if_false]
      have e0 : ((0 : Int) : Rat) = 0 := rfl
      rw [e0]
      grind
    · simp only [if_true]
      unfold Krdn.likely
      rw [kn_power, kn_power, cnt_eq h (bits_le _ _)]
  rw [ks_map e1, ks_div, ← sum_filter, by_class (bits f.n) (cnt f.n u l) f.n _ fun x _ => bits_le _ _]
  unfold asum
  congr 4
  funext k
  rw [List.filter_filter]
  congr 2
  unfold Krdn.sized
  congr 2
  funext x
  exact Bool.and_comm _ _
theorem low_yes (f : Answer) {u l : Int} (h : (l : Rat) ≠ 0) : low (asum (sz f) f.n u l) (l ^ f.n) = fr (Krdn.yesAt f ((u : Rat) / l)) := by
  unfold low
  rw [yesAt_eq h, ipow]
theorem swayAt_eq (f : Answer) (i : Nat) (p : Rat) : Krdn.swayAt f i p = Krdn.yesAt (of f.n (f.sways i)) p := by
  unfold Krdn.swayAt Krdn.yesAt
  apply ks_map
  intro x hx
  rw [of_at _ (mem_words.mp hx)]
  rfl
/-! ### how fast it rises -/
def fastT (n : Nat) (u l : Int) (k : Nat) : Int := (if k = 0 then 0 else (k : Int) * cnt (n - 1) u l (k - 1)) - (if k = n then 0 else ((n - k : Nat) : Int) * cnt (n - 1) u l k)
def fsum (c : Nat → Int) (n : Nat) (u l : Int) : Int := ((List.range (n + 1)).map fun k => c k * fastT n u l k).sum
theorem slope_eq {f : Answer} {u l : Int} (h : (l : Rat) ≠ 0) (hn : 1 ≤ f.n) : Krdn.slope f ((u : Rat) / l) = (fsum (sz f) f.n u l : Rat) / (l : Rat) ^ (f.n - 1) := by
  unfold Krdn.slope fsum
  rw [← ks_div]
  apply ks_map
  intro k hk
  have hk2 : k ≤ f.n := by have := List.mem_range.mp hk; omega
  have hl := bn_ne h (f.n - 1)
  unfold fastT
  rw [Rat.intCast_mul, Rat.intCast_sub]
  have e3 : ((sz f k : Int) : Rat) = (Krdn.sized f k : Rat) := rfl
  rw [e3]
  have a1 : (if k = 0 then (0 : Rat) else (k : Rat) * Krdn.power ((u : Rat) / l) (k - 1) * Krdn.power (1 - (u : Rat) / l) (f.n - k)) = ((if k = 0 then 0 else (k : Int) * cnt (f.n - 1) u l (k - 1) : Int) : Rat) / (l : Rat) ^ (f.n - 1) := by
    by_cases z : k = 0
    · rw [if_pos z, if_pos z]
      have e0 : ((0 : Int) : Rat) = 0 := rfl
      rw [e0]
      grind
    · rw [if_neg z, if_neg z, kn_power, kn_power]
      have e4 : f.n - k = (f.n - 1) - (k - 1) := by omega
      have c := @cnt_eq u l h (f.n - 1) (k - 1) (by omega)
      rw [e4, Rat.intCast_mul, Rat.mul_assoc, c]
      have e5 : (((k : Nat) : Int) : Rat) = (k : Rat) := rfl
      rw [e5]
      grind
  have a2 : (if k = f.n then (0 : Rat) else ((f.n - k : Nat) : Rat) * Krdn.power ((u : Rat) / l) k * Krdn.power (1 - (u : Rat) / l) (f.n - k - 1)) = ((if k = f.n then 0 else ((f.n - k : Nat) : Int) * cnt (f.n - 1) u l k : Int) : Rat) / (l : Rat) ^ (f.n - 1) := by
    by_cases z : k = f.n
    · rw [if_pos z, if_pos z]
      have e0 : ((0 : Int) : Rat) = 0 := rfl
      rw [e0]
      grind
    · rw [if_neg z, if_neg z, kn_power, kn_power]
      have e4 : f.n - k - 1 = (f.n - 1) - k := by omega
      have c := @cnt_eq u l h (f.n - 1) k (by omega)
      rw [e4, Rat.intCast_mul, Rat.mul_assoc, c]
      have e5 : (((f.n - k : Nat) : Int) : Rat) = ((f.n - k : Nat) : Rat) := rfl
      rw [e5]
      grind
  rw [a1, a2]
  grind
theorem low_slope {f : Answer} {u l : Int} (h : (l : Rat) ≠ 0) (hn : 1 ≤ f.n) : low (fsum (sz f) f.n u l) (l ^ (f.n - 1)) = fr (Krdn.slope f ((u : Rat) / l)) := by
  unfold low
  rw [slope_eq h hn, ipow]
/-! ### the least chance -/
theorem natR (a : Nat) : ((a : Int) : Rat) = (a : Rat) := rfl
theorem posR {l : Int} (h : 0 < l) : (0 : Rat) < (l : Rat) := by exact_mod_cast h
theorem ppos {l : Int} (h : 0 < l) (n : Nat) : (0 : Rat) < (l : Rat) ^ n := by
  have h1 : (0 : Int) < l ^ n := Int.pow_pos h
  rw [← ipow]
  exact_mod_cast h1
theorem frac_le {a b c d : Int} (hb : 0 < b) (hd : 0 < d) : ((a : Rat) / b ≤ (c : Rat) / d) ↔ a * d ≤ c * b := by
  have hb' := posR hb
  have hd' := posR hd
  have e1 : (a : Rat) / b = ((a * d : Int) : Rat) / ((b * d : Int) : Rat) := by
    rw [Rat.intCast_mul, Rat.intCast_mul]
    grind
  have e2 : (c : Rat) / d = ((c * b : Int) : Rat) / ((b * d : Int) : Rat) := by
    rw [Rat.intCast_mul, Rat.intCast_mul]
    grind
  rw [e1, e2]
  exact div_le (posR (Int.mul_pos hb hd))
theorem frac_lt {a b c d : Int} (hb : 0 < b) (hd : 0 < d) : ((a : Rat) / b < (c : Rat) / d) ↔ a * d < c * b := by
  have h := @frac_le c d a b hd hb
  constructor
  · intro z
    apply Int.not_le.mp
    intro y
    have := h.mpr y
    grind
  · intro z
    apply Rat.not_le.mp
    intro y
    have := h.mp y
    omega
theorem frac_eq {a b c d : Int} (hb : 0 < b) (hd : 0 < d) : ((a : Rat) / b = (c : Rat) / d) ↔ a * d = c * b := by
  have h1 := @frac_le a b c d hb hd
  have h2 := @frac_le c d a b hd hb
  constructor
  · intro z
    have a1 := h1.mp (by grind)
    have a2 := h2.mp (by grind)
    omega
  · intro z
    have a1 := h1.mpr (by omega)
    have a2 := h2.mpr (by omega)
    grind
theorem least_iff (f : Answer) {d : Nat} (hd : 1 ≤ d) {u w : Int} (hw : 0 < w) (a : Nat) : decide ((u : Rat) / w ≤ Krdn.yesAt f ((a : Rat) / (d : Rat))) = decide (u * (d : Int) ^ f.n ≤ asum (sz f) f.n a d * w) := by
  have hd' : (0 : Int) < (d : Int) := by omega
  have hne : ((d : Int) : Rat) ≠ 0 := by have := posR hd'; grind
  rw [← natR a, ← natR d, yesAt_eq hne, ← ipow]
  apply decide_eq_decide.mpr
  exact frac_le hw (Int.pow_pos hd')
theorem fixed_iff {f : Answer} (hn : 1 ≤ f.n) {d : Nat} (hd : 1 ≤ d) (a : Nat) : (Krdn.yesAt f (Krdn.rat a d) == Krdn.rat a d) = (asum (sz f) f.n a d == (a : Int) * (d : Int) ^ (f.n - 1)) := by
  have hd' : (0 : Int) < (d : Int) := by omega
  have hne : ((d : Int) : Rat) ≠ 0 := by have := posR hd'; grind
  unfold Krdn.rat
  rw [← natR a, ← natR d, yesAt_eq hne, ← ipow]
  rw [Bool.eq_iff_iff, beq_iff_eq, beq_iff_eq, frac_eq (Int.pow_pos hd') hd']
  have e : (d : Int) ^ f.n = (d : Int) ^ (f.n - 1) * (d : Int) := by
    rw [← Int.pow_succ]
    congr 1
    omega
  rw [e, ← Int.mul_assoc]
  constructor
  · intro z
    exact Int.eq_of_mul_eq_mul_right (by omega) z
  · intro z
    rw [z]
/-! ### tried again -/
theorem once_eq {u l : Int} (h : (l : Rat) ≠ 0) (k : Nat) : Krdn.once ((u : Rat) / l) k = ((l ^ k - (l - u) ^ k : Int) : Rat) / ((l ^ k : Int) : Rat) := by
  unfold Krdn.once
  rw [kn_power]
  have e1 : 1 - (u : Rat) / l = ((l - u : Int) : Rat) / l := by
    rw [Rat.intCast_sub]
    grind
  rw [e1, (div_pow _ _ h k).1, Rat.intCast_sub (l ^ k), ipow, ipow]
  have := (div_pow (u : Rat) _ h k).2
  generalize (l : Rat) ^ k = L at *
  generalize ((l - u : Int) : Rat) ^ k = M at *
  grind
end Mt
set_option linter.all false
set_option maxRecDepth 100000
namespace Mt
open Krdk (Answer words bits flip meet of fr frac)
/-! ### votes -/
theorem votes_r : ∀ n, Krdm.votes (n + 1) = (Krdm.votes n).flatMap fun v => (List.range 6).map fun o => v ++ [o]
  | 0 => rfl
  | n + 1 => by
    have h : Krdm.votes (n + 1 + 1) = (List.range 6).flatMap fun o => (Krdm.votes (n + 1)).map fun l => o :: l := rfl
    have h2 : Krdm.votes (n + 1) = (List.range 6).flatMap fun o => (Krdm.votes n).map fun l => o :: l := rfl
    rw [h]
    conv => lhs; rw [votes_r n]
    rw [h2, List.flatMap_assoc]
    congr 1
    funext o
    rw [List.map_flatMap, List.flatMap_map]
    congr 1
    try (funext v; rw [List.map_map]; rfl)
theorem votes_len : ∀ n, (Krdm.votes n).length = 6 ^ n
  | 0 => rfl
  | n + 1 => by
    rw [votes_r, List.length_flatMap]
    have : (fun v : List Nat => ((List.range 6).map fun o => v ++ [o]).length) = fun _ => 6 := by
      funext v
      simp
    rw [this]
    have e : ∀ l : List (List Nat), (l.map fun _ => 6).sum = 6 * l.length := by
      intro l
      induction l with
      | nil => rfl
      | cons x l ih => rw [List.map_cons, List.sum_cons, ih, List.length_cons]; omega
    rw [e, votes_len n, Nat.pow_succ, Nat.mul_comm]
theorem votes_ok : ∀ n, ∀ l ∈ Krdm.votes n, l.length = n ∧ ∀ o ∈ l, o < 6
  | 0, l, h => by
    have : l = [] := by simpa [Krdm.votes] using h
    subst this
    exact ⟨rfl, fun o ho => by cases ho⟩
  | n + 1, l, h => by
    have h2 : Krdm.votes (n + 1) = (List.range 6).flatMap fun o => (Krdm.votes n).map fun l => o :: l := rfl
    rw [h2, List.mem_flatMap] at h
    obtain ⟨o, ho, hl⟩ := h
    obtain ⟨v, hv, rfl⟩ := List.mem_map.mp hl
    obtain ⟨h3, h4⟩ := votes_ok n v hv
    refine ⟨by rw [List.length_cons, h3], fun x hx => ?_⟩
    rcases List.mem_cons.mp hx with z | z
    · rw [z]; exact List.mem_range.mp ho
    · exact h4 x z
/-- the word of the first i voters -/
def wv (l : List Nat) (q : Nat) : Nat → Nat
  | 0 => 0
  | i + 1 => wv l q i ||| (if Krdm.ahead (l.getD i 0) q then 1 else 0) <<< i
theorem wv_sum (l : List Nat) (q : Nat) : ∀ i, wv l q i < 2 ^ i ∧ wv l q i = ((List.range i).filter fun j => Krdm.ahead (l.getD j 0) q).foldl (fun s j => s + 2 ^ j) 0
  | 0 => ⟨Nat.one_pos, rfl⟩
  | i + 1 => by
    obtain ⟨h1, h2⟩ := wv_sum l q i
    have e : wv l q (i + 1) = wv l q i + (if Krdm.ahead (l.getD i 0) q then 2 ^ i else 0) := by
      show wv l q i ||| (if Krdm.ahead (l.getD i 0) q then 1 else 0) <<< i = _
      cases Krdm.ahead (l.getD i 0) q
      · simp
      · simp only [if_true]
        have h3 := Nat.two_pow_add_eq_or_of_lt h1 1
        rw [Nat.shiftLeft_eq, Nat.one_mul]
        rw [Nat.mul_one] at h3
        rw [Nat.or_comm, ← h3]
        omega
    constructor
    · rw [e, Nat.pow_succ]
      split <;> omega
    · rw [e, List.range_succ, List.filter_append, List.foldl_append, ← h2, List.filter_cons]
      cases Krdm.ahead (l.getD i 0) q <;> rfl
theorem zip_range (l : List Nat) : List.zip (List.range l.length) l = (List.range l.length).map fun j => (j, l.getD j 0) := by
  apply List.ext_getElem?
  intro i
  rw [List.getElem?_map]
  by_cases h : i < l.length
  · rw [List.getElem?_range h, List.getElem?_zip_eq_some.mpr (⟨List.getElem?_range h, List.getElem?_eq_getElem h⟩ : (List.range l.length)[i]? = some (i, l[i]).1 ∧ l[i]? = some (i, l[i]).2)]
    simp [List.getD_eq_getElem?_getD, List.getElem?_eq_getElem h]
  · rw [List.getElem?_eq_none (by simp; omega), List.getElem?_eq_none (by simp; omega)]
    rfl
theorem word_wv (l : List Nat) (q : Nat) : Krdm.word l q = wv l q l.length := by
  unfold Krdm.word
  rw [(wv_sum l q l.length).2, zip_range, List.filter_map, List.foldl_map]
  rfl
theorem word_lt {l : List Nat} {n : Nat} (h : l.length = n) (q : Nat) : Krdm.word l q < 2 ^ n := by
  rw [word_wv, h]
  exact (wv_sum l q n).1
/-! ### of three comparisons -/
def ordB (a b c : Bool) : Option Nat := (List.range 6).find? fun o => Krdm.ahead o 0 == a && Krdm.ahead o 1 == b && Krdm.ahead o 2 == c
def rndB (a b c : Bool) : Bool := a == b && b == c
def winB (a b c : Bool) : Option Nat := if rndB a b c then none else if a && !c then some 0 else if b && !a then some 1 else some 2
theorem order_B (f : Answer) (l : List Nat) : Krdm.order f l = ordB (Krdm.result f l 0) (Krdm.result f l 1) (Krdm.result f l 2) := rfl
theorem rounds_B (f : Answer) (l : List Nat) : Krdm.rounds f l = rndB (Krdm.result f l 0) (Krdm.result f l 1) (Krdm.result f l 2) := rfl
theorem winner_B (f : Answer) (l : List Nat) : Krdm.winner f l = winB (Krdm.result f l 0) (Krdm.result f l 1) (Krdm.result f l 2) := rfl
theorem win_ord : ∀ a b c : Bool, winB a b c = (ordB a b c).map (· / 2) := by decide +kernel
theorem ord_lt : ∀ a b c : Bool, ∀ o, ordB a b c = some o → o < 6 := by
  intro a b c o h
  have := List.mem_of_find?_eq_some h
  exact List.mem_range.mp this
theorem low_noround (f : Answer) : low ((6 : Int) ^ f.n - (Krdm.many f : Int)) ((6 : Int) ^ f.n) = fr (Krdm.noRound f) := by
  unfold low Krdm.noRound
  have h6 : (6 : Rat) ≠ 0 := by decide
  have hb := bn_ne h6 f.n
  have e1 : (((6 : Int) ^ f.n : Int) : Rat) = (6 : Rat) ^ f.n := by rw [ipow]; rfl
  have e2 : (((6 ^ f.n : Nat)) : Rat) = (6 : Rat) ^ f.n := by
    have : ((6 ^ f.n : Nat) : Int) = (6 : Int) ^ f.n := by simp
    rw [← e1, ← this]
    rfl
  rw [Rat.intCast_sub, e1, e2]
  have e3 : ((Krdm.many f : Int) : Rat) = (Krdm.many f : Rat) := rfl
  rw [e3]
  congr 1
  generalize (6 : Rat) ^ f.n = T at *
  grind
/-! ### alike, odd, whose -/
theorem class_of : ∀ n, n ≤ 5 → ∀ x, x < 2 ^ n → 2 ^ bits n x - 1 < 2 ^ n ∧ bits n (2 ^ bits n x - 1) = bits n x := by decide +kernel
theorem alike_eq {f : Answer} (w : W f) : Krdm.alike f = (words f.n).all fun x => f.at_ x == f.at_ (2 ^ bits f.n x - 1) := by
  unfold Krdm.alike
  rw [Bool.eq_iff_iff, List.all_eq_true, List.all_eq_true]
  constructor
  · intro h x hx
    have h1 := List.all_eq_true.mp (h x hx)
    obtain ⟨c1, c2⟩ := class_of f.n w.n5 x (mem_words.mp hx)
    have h2 := h1 _ (mem_words.mpr c1)
    rw [c2] at h2
    simpa using h2
  · intro h x hx
    rw [List.all_eq_true]
    intro y hy
    have h1 := h x hx
    have h2 := h y hy
    by_cases e : bits f.n x = bits f.n y
    · rw [e] at h1
      have h3 := eq_of_beq h1
      have h4 := eq_of_beq h2
      rw [h3, ← h4]
      simp
    · simp [e]
theorem all_count (p : Nat → Bool) (l : List Nat) : l.all p = ((l.filter p).length == l.length) := by
  rw [Bool.eq_iff_iff, List.all_eq_true, beq_iff_eq]
  exact ⟨fun h => by rw [List.filter_eq_self.mpr h], fun h x hx => by
    have := List.length_filter_eq_length_iff.mp h
    exact this x hx⟩
theorem none_count (p : Nat → Bool) (l : List Nat) : (l.all fun x => !p x) = ((l.filter p).length == 0) := by
  rw [Bool.eq_iff_iff, List.all_eq_true, beq_iff_eq, List.length_eq_zero_iff, List.filter_eq_nil_iff]
  constructor
  · intro h x hx
    have := h x hx
    simpa using this
  · intro h x hx
    have := h x hx
    simpa using this
end Mt
set_option Elab.async false
set_option linter.all false
set_option maxRecDepth 100000
set_option maxHeartbeats 2000000
namespace Kx
open PySem PySem.Spec PyProof.Rows L2
/-! ### rules that the layer lacks: enumerate of a tuple, sum of a tuple, a call of any expression's value -/
def Itu (K : PySem.W.Frag) (a : Addr) : It :=
  ⟨fun i H => ∃ (xs : List V) (x : V), SqT K H a xs ∧ xs[i]? = some x, fun i H v H' => ∃ T x, v = .ref T ∧ H T = none ∧ H' = upd H T (.tup [.int (i : Nat), x]) ∧ ∀ xs, SqT K H a xs → xs[i]? = some x, fun i H => ∃ xs : List V, SqT K H a xs ∧ xs.length ≤ i⟩
theorem turn_enumT {P : Program} {w : World} {K : PySem.W.Frag} {elts : List Expr} {kk : Nat} {tpos : Pos} (a e it : Addr) :
    Turn P w K (.Tuple elts kk tpos) (Itu K a) [e, it] e (fun i h => (∃ prv, IsEnum h e it ((i : Nat) : Int) prv) ∧ h.IsTupleIter it a i ∧ e ≠ it) where
  mem := by simp
  obj := fun i h sta b hb => by
    obtain ⟨⟨prv, hen⟩, ⟨o, ho, hc, hd⟩, _⟩ := sta
    have epq : b = e ∨ b = it := by simpa using hb
    rcases epq with z | z
    · rw [z]; exact ⟨_, hen, fun v q => nomatch q⟩
    · rw [z]; exact ⟨o, ho, fun _ qq => by rw [hd] at qq; cases qq⟩
  keep := fun i h h' sta k => let ⟨⟨prv, hen⟩, ⟨o, ho, r⟩, hdf⟩ := sta; ⟨⟨prv, k e (by simp) _ hen⟩, ⟨o, k it (by simp) o ho, r⟩, hdf⟩
  item := by
    intro X hP hw hK hc i pins sh σ H E I hf sta hg
    subst hP hw hK
    obtain ⟨⟨prv, hen⟩, hpt, hdf⟩ := sta
    obtain ⟨xs, x, hq, hx⟩ := hg
    obtain ⟨vals, rvs, p, hsize⟩ := I.tuple hq
    obtain ⟨u, hu, ru⟩ := rvs.get hx
    have hlo : e < sh.heap.objs.size := Heap.lt_size hen
    have hlt : it < sh.heap.objs.size := by obtain ⟨_, q, _⟩ := hpt; exact Heap.lt_size q
    have hux : vals.toArray[i]? = some u := by simpa using hu
    have hln : i < vals.toArray.size := (Array.getElem?_eq_some_iff.mp hux).1
    have htp : sh.heap.IsTuple a vals.toArray := p
    have ne1 : a ≠ it := by
      intro z
      obtain ⟨o, ho, hcl2, _⟩ := htp
      obtain ⟨o2, ho2, hcl3, _⟩ := hpt
      rw [z, ho2] at ho
      cases ho
      rw [hcl2] at hcl3
      injection hcl3 with zz
      exact absurd zz (by decide)
    have ne2 : e ≠ a := by
      intro z
      obtain ⟨o, ho, hcl2, _⟩ := htp
      have he2 : sh.heap.get? e = some _ := hen
      rw [← z, he2] at ho
      cases ho
      have zz : Value.type "enumerate" = Value.type "tuple" := hcl2
      injection zz with z3
      exact absurd z3 (by decide)
    have Dr := Draws.tuple (prog := X.prog) (w := X.w) (A := X.A.in1) (I.ok.hd hc) it a ne1 vals.toArray
    have hnm : e ∉ [it, a] := by
      intro z
      rcases List.mem_cons.mp z with z | z
      · exact hdf z
      · exact ne2 (by simpa using z)
    refine wpAny_pyNext_enum_itemD Dr hen ⟨hpt, htp⟩ hln hdf hnm fun x' h' tk hPx ho hptz hty hsz hkp => ?_
    obtain rfl : u = x' := Option.some.inj (hux.symm.trans hPx)
    refine ⟨_, rfl, wpAny_letOwnedTupleGo_enum (s := { sh with heap := h', toks := tk + 1 }) ho fun h'' henz sb => ?_⟩
    have hT2 : h''.get? sh.heap.objs.size = some { cls := .type "tuple", data := .seq #[.int i tk, u] } := (sb.2 _ (Nat.ne_of_gt hlo)).trans hty
    have nob : ObjOk X.prog X.w (upd H sh.heap.objs.size (.tup [.int (i : Nat), x])) h'' sh.heap.objs.size (.tup [.int (i : Nat), x]) :=
      ⟨by show 2 ≤ sizeLine; decide, [.int i tk, u], .cons ⟨_, rfl⟩ (.cons ru .nil), ⟨_, hT2, rfl, _, rfl⟩⟩
    have J1 : Inv X pins σ (upd H sh.heap.objs.size (.tup [.int (i : Nat), x])) { sh with heap := h'', toks := tk + 1 } :=
      I.turnedNew (ch := [e, it]) (fun b ob hb q => (sb.2 b (fun z => hb (by simp [z]))).trans (hkp b ob (fun z => hb (by simp [z])) (fun z => hb (by simp [z])) q)) hf (Nat.le_refl _) nob
    refine ⟨.ref sh.heap.objs.size, _, J1, rfl, ⟨_, x, rfl, I.hok.fresh (Nat.le_refl _), rfl, fun ys hy => by rw [I.tuple_inj hy hq]; exact hx⟩, ⟨⟨u, ?_⟩, ?_, hdf⟩, fun b hb => ?_⟩
    · have ec : ((i + 1 : Nat) : Int) = (i : Int) + 1 := by omega
      rw [ec]; exact henz
    · obtain ⟨o, ho, r⟩ := hptz.1
      exact ⟨o, (sb.2 it (Ne.symm hdf)).trans ho, r⟩
    · have hbs : b < sh.heap.objs.size := by
        have epq : b = e ∨ b = it := by simpa using hb
        rcases epq with z | z
        · rw [z]; exact hlo
        · rw [z]; exact hlt
      rw [upd_ne (Nat.ne_of_lt hbs)]
      exact (hf b hb).1
  done := by
    intro X hP hw hK hc i pins sh σ H E I hf sta hg
    subst hP hw hK
    obtain ⟨⟨prv, hen⟩, hpt, hdf⟩ := sta
    obtain ⟨xs, hq, hx⟩ := hg
    obtain ⟨vals, rvs, p, hsize⟩ := I.tuple hq
    obtain ⟨g0, g1, g2z, g3, g4, g5⟩ := hf it (by simp)
    have hl := rvs.length
    have htp : sh.heap.IsTuple a vals.toArray := p
    -- the end lies at i, whatever the length is
    have hty : sh.TypeIs (.ref e) "enumerate" := ⟨_, hen, rfl⟩
    unfold pyNext
    refine wpAny_bind (wpAny_attempt (wpAny_callSpecial?_slot (name := Str.ofString "__next__") hty F.slot_enumerate_next
      (wpAny_call_entry F.slot_enumerate_next hty F.entry_enumerate_next ?_ (F.args_enumerate_next_1 _))))
    show wpAny _ _ (field (Value.ref e) 2 >>= _) _ _ _
    refine wpAny_bind (wpAny_field hen rfl (x := .ref it) rfl ?_)
    refine wpAny_bind (wpAny_nextOf_tuple_end (I.ok.hd hc) hpt htp (by rw [Array.getElem?_eq_none]; simp; omega) fun h' x henz hxz => ?_)
    obtain ⟨o, ho, hc'⟩ := hxz
    refine wpAny_bind (wpAny_isInstance (T := "StopIteration") (b := true) ⟨o, ho, hc'⟩ isSubtype_stop ?_)
    exact wpAny_pure ⟨rfl, I.turned (t' := sh.toks) (fun b o hb q => henz b o hb q) g0 g1 g3 g4 g5⟩
  self := fun A i sh Q E sta h => let ⟨⟨_, hen⟩, _⟩ := sta; wpAny_pyIter_enum hen h
theorem meets_enumerate_newT (l : Addr) (items : Array Value) :
    Meets (Builtin.«enumerate.__new__» ⟨[.type "enumerate", .ref l], []⟩) (fun _ R sh => sh.heap.IsTuple l items ∧
      R (.ok (.ret (.ref (sh.heap.push { cls := .type "tuple_iterator", data := .fields #[.ref l, .int 0 0] }).objs.size)))
        { sh with heap := (sh.heap.push { cls := .type "tuple_iterator", data := .fields #[.ref l, .int 0 0] }).push { cls := .type "enumerate", data := .fields #[.none, .bool false, .ref sh.heap.objs.size, rawInt 0, .none, .none] } }) :=
  .of_wp fun pgm w A R sh h => by
    obtain ⟨hpx, g, d, tk, osx⟩ := sh; obtain ⟨h1, h⟩ := h
    have hsub := sub_enumerate
    have gq : ∀ {A' : Around} {E : Value → Shared → Prop} {Q : Value → Shared → Prop}, Q (.ref hpx.objs.size) ⟨hpx.push { cls := .type "tuple_iterator", data := .fields #[.ref l, .int 0 0] }, g, d, tk, osx⟩ → wpAny (model pgm w) A' (pyIter (.ref l)) Q E ⟨hpx, g, d, tk, osx⟩ :=
      fun q => (begins_tuple l items).iter pgm w _ _ ⟨hpx, g, d, tk, osx⟩ _ h1 q
    wp_walk using gq
    refine wpAny_stack_any fun sta => wpAny_pure ?_
    split
    · rename_i cl0 _ _ _ _ _
      cases (cl0 == Value.type "enumerate")
      · wp_walk using gq
        exact ⟨_, rfl, h⟩
      · wp_walk using gq
        exact ⟨_, rfl, h⟩
    · wp_walk using gq
      exact ⟨_, rfl, h⟩
theorem call_enumerate_tuple {pgm : Program} {w : World} {A : Around} {E : Value → Shared → Prop} {sh : Shared} {l : Addr} {items : Array Value} {Q : Value → Shared → Prop} (hL : sh.heap.IsTuple l items)
    (h : ∀ h', IsEnum h' (sh.heap.objs.size + 1) sh.heap.objs.size 0 .none → h'.IsTupleIter sh.heap.objs.size l 0 → h'.objs.size = sh.heap.objs.size + 2 →
      (∀ b o, sh.heap.get? b = some o → h'.get? b = some o) → Q (.ref (sh.heap.objs.size + 1)) { sh with heap := h' }) :
    wpAny (model pgm w) A (call (.type "enumerate") [.ref l]) Q E sh := by
  refine callType_new F.called_enumerate (by decide) (F.typeCall_enumerate_1 _)
    (F.newCall_enumerate_1 _) (fun o0 => F.args_object_init_2 o0 _) F.entry_enumerate_new
    (meets_enumerate_newT l items) ⟨hL, ?_⟩
  have hsize : (sh.heap.push { cls := .type "tuple_iterator", data := .fields #[.ref l, .int 0 0] }).objs.size = sh.heap.objs.size + 1 := Heap.size_push ..
  show _ ∧ _
  rw [hsize]
  have hen : IsEnum ((sh.heap.push { cls := .type "tuple_iterator", data := .fields #[.ref l, .int 0 0] }).push
      { cls := .type "enumerate", data := .fields #[.none, .bool false, .ref sh.heap.objs.size, rawInt 0, .none, .none] }) (sh.heap.objs.size + 1) sh.heap.objs.size 0 .none := by
    have := Heap.get?_push_size (sh.heap.push { cls := .type "tuple_iterator", data := .fields #[.ref l, .int 0 0] })
      (o := { cls := .type "enumerate", data := .fields #[.none, .bool false, .ref sh.heap.objs.size, rawInt 0, .none, .none] }) rfl
    rw [hsize] at this; exact this
  refine ⟨⟨_, hen, rfl⟩, h _ hen ⟨_, Heap.get?_push_of_some _ (Heap.get?_push_size _ rfl), rfl, rfl⟩ (by rw [Heap.size_push, hsize]) fun b o x => Heap.get?_push_of_some _ (Heap.get?_push_of_some _ x)⟩
def iEnumT (K : PySem.W.Frag) (ta : TA) : TI := fun σ H R => ta σ H fun vs H1 => ∃ a xs, vs = [.ref a] ∧ SqT K H1 a xs ∧ R (Itu K a) H1
theorem pi_enumT {X : Cx} {e : Expr} {ta : TA} {p pos tpos : Pos} {elts : List Expr} {kk : Nat} (hg : Gl X "enumerate") (hm : X.mg "enumerate" = none) (ha : PA X [e] ta) (hs : starEach [e] X.env = [(false, eval e X.env)] := by rfl) :
    PI X (.Tuple elts kk tpos) (.Call (.Name "enumerate" p) [e] [] pos) (iEnumT X.K ta) := by
  refine ⟨fun pins sh σ H R I h => ?_⟩
  refine Call_ (ld_blt I hg hm boot_enumerate (PyProof.Rows.callWith_type1 (thn (ha.run pos pins sh σ H _ I h) fun us s1 ⟨vs, H1, J1, r1, gq⟩ => ?_) hs rfl))
  obtain ⟨a, xs, ex, hq, q⟩ := gq
  subst ex
  cases r1 with
  | cons r rr =>
    cases rr
    cases r
    obtain ⟨vals, rvs, p', hsize⟩ := J1.tuple hq
    refine call_enumerate_tuple (items := vals.toArray) p' fun h' hen hpt hsz hkp => wpAny_pyIter_enum hen ?_
    have J2 : Inv X pins σ H1 { s1 with heap := h' } := J1.kept (t' := s1.toks) hkp
    refine ⟨s1.heap.objs.size + 1, [s1.heap.objs.size + 1, s1.heap.objs.size], _, _, H1, rfl, J2, turn_enumT a (s1.heap.objs.size + 1) s1.heap.objs.size, ⟨⟨.none, hen⟩, hpt, Nat.succ_ne_self _⟩, fun b hb => ?_, q⟩
    have epq : b = s1.heap.objs.size + 1 ∨ b = s1.heap.objs.size := by simpa using hb
    have hge : s1.heap.objs.size ≤ b := by
      rcases epq with z | z
      · rw [z]; exact Nat.le_add_right _ _
      · rw [z]; exact Nat.le_refl _
    exact J1.fpOk hge (J1.hok.fresh hge)
theorem walk_enumT {K : PySem.W.Frag} {a : Addr} {xs : List V} : Walk (Itu K a) xs.length (fun H => SqT K H a xs) (YPair (fun i => some (.int (i : Nat))) (fun i => xs[i]?)) := by
  refine ⟨fun i _ hi sq => ⟨xs, xs[i], sq, by simp [hi]⟩, fun _ sq => ⟨xs, sq, Nat.le_refl _⟩, fun i H v H' _ sq yy => ?_⟩
  obtain ⟨T, x, k1, k2, k3, k4⟩ := yy
  exact ⟨T, .int (i : Nat), x, k1, k2, k3, rfl, k4 xs sq⟩
/-- sum of a tuple of ints -/
def rSumT (K : PySem.W.Frag) : List V → Hp → VK → Prop := fun vs H Q => ∃ (a : Addr) (ns : List Int), vs = [V.ref a] ∧ SqT K H a (ns.map V.int) ∧ Q (.int ns.sum) H
theorem sum_rawT {pgm : Program} {w : World} {A : Around} {E : Value → Shared → Prop} {sh : Shared} {l : Addr} {vals : List Value} {ns : List Int} {Q : Value → Shared → Prop} (hh : A.handled = none) (hl : sh.heap.IsTuple l vals.toArray) (hi : IntsAre vals ns)
    (h : ∀ h' tk t', (∀ b o, sh.heap.get? b = some o → h'.get? b = some o) → Q (.int ns.sum t') { sh with heap := h', toks := tk }) : wpAny (model pgm w) A (call (.builtin "sum") [.ref l]) Q E sh := by
  obtain ⟨xs, ex⟩ := hi.allInts.items
  have hnum : numsOf (intItems xs).toList = ns := by rw [← ex]; exact hi.numsOf
  rw [nums_intItems] at hnum
  rw [ex] at hl
  refine PySem.W.ktm_sumG hh hl fun h' tk t' hkp => ?_
  have := h h' tk t' hkp
  rw [preSum_eq, List.take_of_length_le (by simp), hnum]; exact this
theorem cr_sumT {X : Cx} (hc : X.calm = true) : CallR X (.builtin "sum") (rSumT X.K) := by
  intro pins sh σ H vs us Q I r h
  obtain ⟨a, ns, rfl, hsq, q⟩ := h
  obtain ⟨vals, rvs, hl, _⟩ := I.tuple hsq
  rw [Vals.ref1 r]
  exact sum_rawT (I.ok.hd hc) hl rvs.ints fun h' tk t' hkp => ⟨.int _, H, I.kept hkp, ⟨_, rfl⟩, q⟩
end Kx
set_option Elab.async false
set_option linter.all false
set_option maxRecDepth 100000
set_option maxHeartbeats 2000000
namespace Kx
open PySem PySem.Spec PyProof.Rows L2
/-! ### canonical readings: what a piece of syntax does, as it stands -/
def cE (X : Cx) (e : Expr) : TE := fun σ H Q => ∀ (pins : List (Addr × Obj)) (s : Shared), Inv X pins σ H s → wpAny (model X.prog X.w) X.A (eval e X.env) (EP X pins σ Q) X.xe s
def cT (X : Cx) (e : Expr) : TT := fun σ H Q => ∀ (pins : List (Addr × Obj)) (s : Shared), Inv X pins σ H s → wpAny (model X.prog X.w) X.A (isTrue e X.env (eval e X.env)) (TP X pins σ Q) X.xe s
def cW (X : Cx) (e : Expr) : TT := fun σ H Q => ∀ (whole : Sem Value) (pins : List (Addr × Obj)) (s : Shared), Inv X pins σ H s → wpAny (model X.prog X.w) X.A (isTrue e X.env whole) (TP X pins σ Q) X.xe s
def cA (X : Cx) (es : List Expr) : TA := fun σ H Q => ∀ (pos : Pos) (pins : List (Addr × Obj)) (s : Shared), Inv X pins σ H s → wpAny (model X.prog X.w) X.A (spliced (backTo pos (starEach es X.env))) (AP X pins σ Q) X.xe s
def cS (X : Cx) (st : Stmt) : TS := fun D σ H => ∀ (pins : List (Addr × Obj)) (s : Shared), Inv X pins σ H s → wpAny (model X.prog X.w) X.A (exec st X.env) (SP X pins D) X.xe s
def cSs (X : Cx) (st : List Stmt) : TS := fun D σ H => ∀ (pins : List (Addr × Obj)) (s : Shared), Inv X pins σ H s → wpAny (model X.prog X.w) X.A (execs st X.env) (SP X pins D) X.xe s
section
variable {X : Cx} {e : Expr} {es : List Expr} {st : Stmt} {sts : List Stmt} {σ : L2.St} {H : Hp}
theorem pe_ : PE X e (cE X e) := ⟨fun pins s σ H Q I h => h pins s I⟩
theorem pt_ : PT X e (cT X e) := ⟨fun pins s σ H Q I h => h pins s I⟩
theorem pw_ : PW X e (cW X e) := ⟨fun wh pins s σ H Q I h => h wh pins s I⟩
theorem pa_ : PA X es (cA X es) := ⟨fun pos pins s σ H Q I h => h pos pins s I⟩
theorem ps_ : PS X st (cS X st) := ⟨fun pins s σ H D I h => h pins s I⟩
theorem pss_ : PSs X sts (cSs X sts) := ⟨fun pins s σ H D I h => h pins s I⟩
theorem cE_of {t : TE} (p : PE X e t) {Q : VK} (h : t σ H Q) : cE X e σ H Q := fun pins s I => p.run pins s σ H Q I h
theorem cT_of {t : TT} (p : PT X e t) {Q : Bool → Hp → Prop} (h : t σ H Q) : cT X e σ H Q := fun pins s I => p.run pins s σ H Q I h
theorem cW_of {t : TT} (p : PW X e t) {Q : Bool → Hp → Prop} (h : t σ H Q) : cW X e σ H Q := fun wh pins s I => p.run wh pins s σ H Q I h
theorem cA_of {t : TA} (p : PA X es t) {Q : List V → Hp → Prop} (h : t σ H Q) : cA X es σ H Q := fun pos pins s I => p.run pos pins s σ H Q I h
theorem cS_of {t : TS} (p : PS X st t) {D : Ends} (h : t D σ H) : cS X st D σ H := fun pins s I => p.run pins s σ H D I h
theorem cSs_of {t : TS} (p : PSs X sts t) {D : Ends} (h : t D σ H) : cSs X sts D σ H := fun pins s I => p.run pins s σ H D I h
end
/-! ### kinds of answers: a value; a new object -/
inductive Kd where
  | is (v : V)
  | ob (o : HO)
  | obs (os : List HO)
  | obx (z : Addr) (os : List HO)
/-- a heap without one address -/
def del (H : Hp) (p : Addr) : Hp := fun a => if a = p then none else H a
theorem del_at {H : Hp} {p a : Addr} (h : a ≠ p) : del H p a = H a := if_neg h
theorem del_p {H : Hp} {p : Addr} : del H p p = none := if_pos rfl
theorem del_upd {H : Hp} {p : Addr} {o : HO} : del (upd H p o) p = del H p := by
  funext a
  by_cases h : a = p
  · rw [h, del_p, del_p]
  · rw [del_at h, del_at h, upd_ne h]
theorem del_le {H : Hp} {p : Addr} : Same (del H p) H := fun a u q => by
  by_cases h : a = p
  · rw [h, del_p] at q
    cases q
  · rw [del_at h] at q
    exact q
theorem del_same {H H' : Hp} {p : Addr} (s : Same H H') : Same (del H p) (del H' p) := fun a u q => by
  by_cases h : a = p
  · rw [h, del_p] at q
    cases q
  · rw [del_at h] at q ⊢
    exact s _ _ q
theorem same_del {H H' : Hp} {p : Addr} (s : Same H H') (f : H p = none) : Same H (del H' p) := fun a u q => by
  have h : a ≠ p := ne_of_none q f
  rw [del_at h]
  exact s _ _ q
/-- addresses of these objects -/
def ObsAt (us : List V) (os : List HO) (H : Hp) : Prop := Paired (fun u o => ∃ q, u = V.ref q ∧ H q = some o) us os
theorem ObsAt.same {us : List V} {os : List HO} {H H' : Hp} (h : ObsAt us os H) (s : Same H H') : ObsAt us os H' := Paired.mapP h fun a b ⟨q, e, z⟩ => ⟨q, e, s _ _ z⟩
def Kd.new : Kd → Hp → V → Hp → Prop
  | .is x, _, v, _ => v = x
  | .ob o, H1, v, H2 => ∃ p, v = .ref p ∧ H1 p = none ∧ H2 p = some o
  | .obs os, H1, v, H2 => ∃ p us, v = .ref p ∧ H1 p = none ∧ H2 p = some (.lst us) ∧ ObsAt us os H2
  | .obx z os, H1, v, H2 => ∃ p us, v = .ref p ∧ H1 p = none ∧ H2 p = some (.lst us) ∧ ObsAt us os (del H2 z)
def Kd.at_ : Kd → V → Hp → Prop
  | .is x, v, _ => v = x
  | .ob o, v, H => ∃ p, v = .ref p ∧ H p = some o
  | .obs os, v, H => ∃ p us, v = .ref p ∧ H p = some (.lst us) ∧ ObsAt us os H
  | .obx z os, v, H => ∃ p us, v = .ref p ∧ H p = some (.lst us) ∧ ObsAt us os (del H z)
theorem Kd.new_at : ∀ {k : Kd} {H1 H2 : Hp} {v : V}, k.new H1 v H2 → k.at_ v H2
  | .is _, _, _, _, h => h
  | .ob _, _, _, _, ⟨p, a, _, c⟩ => ⟨p, a, c⟩
  | .obs _, _, _, _, ⟨p, us, a, _, c, d⟩ => ⟨p, us, a, c, d⟩
  | .obx _ _, _, _, _, ⟨p, us, a, _, c, d⟩ => ⟨p, us, a, c, d⟩
theorem Kd.at_same : ∀ {k : Kd} {H1 H2 : Hp} {v : V}, k.at_ v H1 → Same H1 H2 → k.at_ v H2
  | .is _, _, _, _, h, _ => h
  | .ob _, _, _, _, ⟨p, a, c⟩, s => ⟨p, a, s _ _ c⟩
  | .obs _, _, _, _, ⟨p, us, a, c, d⟩, s => ⟨p, us, a, s _ _ c, d.same s⟩
  | .obx _ _, _, _, _, ⟨p, us, a, c, d⟩, s => ⟨p, us, a, s _ _ c, d.same (del_same s)⟩
theorem Kd.new_back : ∀ {k : Kd} {H0 H1 H2 H3 : Hp} {v : V}, k.new H1 v H2 → Same H0 H1 → Same H2 H3 → k.new H0 v H3
  | .is _, _, _, _, _, _, h, _, _ => h
  | .ob _, _, _, _, _, _, ⟨p, a, b, c⟩, s, t => ⟨p, a, s.free b, t _ _ c⟩
  | .obs _, _, _, _, _, _, ⟨p, us, a, b, c, d⟩, s, t => ⟨p, us, a, s.free b, t _ _ c, d.same t⟩
  | .obx _ _, _, _, _, _, _, ⟨p, us, a, b, c, d⟩, s, t => ⟨p, us, a, s.free b, t _ _ c, d.same (del_same t)⟩
theorem same_new {H : Hp} {p : Addr} {o : HO} (h : H p = none) : Same H (upd H p o) := fun a u e => by
  rw [upd_ne (ne_of_none e h)]
  exact e
theorem same_upd {H H1 : Hp} {p : Addr} {o : HO} (h : Same H H1) (e : H1 p = some o) : Same (upd H p o) H1 := fun a u q => by
  by_cases z : a = p
  · rw [z, upd_same] at q
    rw [z, e, q]
  · rw [upd_ne z] at q
    exact h a u q
theorem same_mut {H H1 : Hp} {p : Addr} {o : HO} (h : Same H H1) (e : H p = none) : Same H (upd H1 p o) := fun a u q => by
  rw [upd_ne (ne_of_none q e)]
  exact h a u q
theorem same_l {K : PySem.W.Frag} {H H' : Hp} {a : Addr} {xs : List V} (e : Same H H') (h : SqL K H a xs) : SqL K H' a xs := e.seq h
theorem same_t {K : PySem.W.Frag} {H H' : Hp} {a : Addr} {xs : List V} (e : Same H H') (h : SqT K H a xs) : SqT K H' a xs := by
  rcases h with (z | ⟨ow, z⟩) | z
  · exact .inl (.inl (e _ _ z))
  · exact .inl (.inr ⟨ow, e _ _ z⟩)
  · exact .inr z
/-- what hands a kind back -/
def RetK (k : Kd) (H : Hp) (Q : VK) : Prop := ∀ v H2, Same H H2 → k.new H v H2 → Q v H2
theorem RetK.go {k : Kd} {H H1 : Hp} {Q : VK} (r : RetK k H Q) (s : Same H H1) : RetK k H1 Q := fun v H2 s2 h => r v H2 (s.trans s2) (Kd.new_back h s fun _ _ z => z)
/-- evaluates, from any heap that knows H, to k -/
def Gv (t : TE) (σ : L2.St) (H : Hp) (k : Kd) : Prop := ∀ H1, Same H H1 → ∀ Q : VK, RetK k H1 Q → t σ H1 Q
def Gt (t : TT) (σ : L2.St) (H : Hp) (b : Bool) : Prop := ∀ H1, Same H H1 → ∀ Q : Bool → Hp → Prop, (∀ H2, Same H1 H2 → Q b H2) → t σ H1 Q
def KsAt : List Kd → List V → Hp → Prop
  | [], vs, _ => vs = []
  | k :: ks, vs, H => ∃ v r, vs = v :: r ∧ k.at_ v H ∧ KsAt ks r H
theorem KsAt.same : ∀ {ks : List Kd} {vs : List V} {H H' : Hp}, KsAt ks vs H → Same H H' → KsAt ks vs H'
  | [], _, _, _, h, _ => h
  | _ :: _, _, _, _, ⟨v, r, a, b, c⟩, s => ⟨v, r, a, Kd.at_same b s, c.same s⟩
def Ga (t : TA) (σ : L2.St) (H : Hp) (ks : List Kd) : Prop := ∀ H1, Same H H1 → ∀ Q : List V → Hp → Prop, (∀ vs H2, Same H1 H2 → KsAt ks vs H2 → Q vs H2) → t σ H1 Q
/-- a block: falls through with N, or hands back k -/
def GB (t : TS) (σ : L2.St) (H : Hp) (N : L2.St → Prop) (k : Kd) : Prop := ∀ H1, Same H H1 → ∀ D : Ends, (∀ σ' H2, Same H1 H2 → N σ' → D.nx σ' H2) → RetK k H1 D.rt → t D σ H1
/-- a block beside one object at p that it may change; T: what it hands back, with the object -/
def GM (t : TS) (σ : L2.St) (H : Hp) (p : Addr) (o : HO) (N : L2.St → HO → Prop) (T : HO → Kd → Prop) : Prop := ∀ H1, Same H H1 → H1 p = some o → ∀ D : Ends, (∀ σ' H2 o', Same H H2 → H2 p = some o' → N σ' o' → D.nx σ' H2) →
  (∀ v H2 o' k, T o' k → Same H H2 → H2 p = some o' → k.new H v H2 → D.rt v H2) → t D σ H1
section
variable {X : Cx} {σ : L2.St} {H H' : Hp} {k k' : Kd} {t ta tb : TE} {e a b : Expr} {pos : Pos} {x y z v : V}
theorem Gv.mono (g : Gv t σ H k) (s : Same H H') : Gv t σ H' k := fun H1 s1 => g H1 (s.trans s1)
theorem Gt.mono {t : TT} {b : Bool} (g : Gt t σ H b) (s : Same H H') : Gt t σ H' b := fun H1 s1 => g H1 (s.trans s1)
theorem GB.mono {t : TS} {N : L2.St → Prop} (g : GB t σ H N k) (s : Same H H') : GB t σ H' N k := fun H1 s1 => g H1 (s.trans s1)
theorem Gv.to (g : Gv t σ H k) (e : k = k') : Gv t σ H k' := e ▸ g
theorem Gv.is_to {w : V} (g : Gv t σ H (.is v)) (e : v = w) : Gv t σ H (.is w) := e ▸ g
theorem Gt.to {t : TT} {b c : Bool} (g : Gt t σ H b) (e : b = c) : Gt t σ H c := e ▸ g
/-- one after another -/
theorem Gv.bind {Q : VK} (g : Gv t σ H k) {H1 : Hp} (s : Same H H1) (h : ∀ v H2, Same H1 H2 → k.new H1 v H2 → Q v H2) : t σ H1 Q := g H1 s Q h
/-! ### leaves -/
theorem gv_var {x : Str} (i : Nat) (hN : X.N[i]? = some x := by rfl) (h : σ[i]? = some (some v) := by rfl) (hv : Vis X.env.scope x := by first | exact Or.inl rfl | exact Or.inr (Or.inl rfl) | exact Or.inr (Or.inr rfl)) (hd : (x == ("__debug__" : Str)) = false := by decide)
    (hcd : (x == ("__classdict__" : Str)) = false := by decide) : Gv (cE X (.Name x pos)) σ H (.is v) := fun H1 _ Q q => cE_of (pe_var hN hv hd hcd) ⟨v, h, q v H1 (Same.refl _) rfl⟩
theorem gv_int {i : Int} {j} : Gv (cE X (.Constant (.int i) j pos)) σ H (.is (.int i)) := fun H1 _ Q q => cE_of pe_int (q _ H1 (Same.refl _) rfl)
theorem gv_non {j} : Gv (cE X (.Constant .none j pos)) σ H (.is .non) := fun H1 _ Q q => cE_of pe_non (q _ H1 (Same.refl _) rfl)
theorem gv_str {s : Str} {j} : Gv (cE X (.Constant (.str s) j pos)) σ H (.is (.str s)) := fun H1 _ Q q => cE_of pe_str (q _ H1 (Same.refl _) rfl)
theorem gv_glo {x : Str} (hm : ∃ u, X.mg x = some u ∧ RelV v u) (hg : Gl X x := by rfl) (hd : (x == ("__debug__" : Str)) = false := by decide) : Gv (cE X (.Name x pos)) σ H (.is v) := fun H1 _ Q q => by
  obtain ⟨u, hu, r⟩ := hm
  exact cE_of (pe_glob hg hu r hd) (q _ H1 (Same.refl _) rfl)
theorem gv_fld {p C dx : Addr} {fs : List (Str × V)} {f : Str} (h : Gv (cE X e) σ H (.is (.ref p))) (ho : H p = some (.ins C dx fs)) (c : Cls X.K C) (n : NoAttr X.K C f) (l : fs.lookup f = some v)
    (hb : attributeBase e f X.env (eval e X.env) = eval e X.env := by rfl) : Gv (cE X (.Attribute e f pos)) σ H (.is v) := fun H1 s Q q =>
  cE_of (pe_fld pe_ hb) (h H1 s _ fun x H2 s2 ex => ⟨p, C, dx, fs, v, ex, s2 _ _ (s _ _ ho), c, n, l, q v H2 s2 rfl⟩)
/-! ### operators -/
/-- a rule on values gives z, the heap as it was -/
def RvO (r : R2) (x y : V) (H : Hp) (z : V) : Prop := ∀ H1, Same H H1 → ∀ Q : VK, Q z H1 → r x y H1 Q
theorem gv_bin {op : Operator} {r : R2} (ho : OpR X (binaryOp op) r) (ha : Gv (cE X a) σ H (.is x)) (hb : Gv (cE X b) σ H (.is y)) (hr : RvO r x y H z) : Gv (cE X (.BinOp a op b pos)) σ H (.is z) := fun H1 s Q q =>
  cE_of (pe_op ho pe_ pe_) (ha H1 s _ fun v H2 s2 e1 => hb H2 (s.trans s2) _ fun w H3 s3 e2 => by
    subst e1 e2
    exact hr H3 ((s.trans s2).trans s3) Q (q _ H3 (s2.trans s3) rfl))
theorem gv_cmp {op : CmpOp} {r : R2} (ho : OpR X (compareOp op) r) (ha : Gv (cE X a) σ H (.is x)) (hb : Gv (cE X b) σ H (.is y)) (hr : RvO r x y H z) (hm : behindInMarks op b = false := by first | exact nomark _ | exact nobehind _ (by decide) (by decide) | rfl) :
    Gv (cE X (.Compare a [op] [b] pos)) σ H (.is z) := fun H1 s Q q =>
  cE_of (pe_cmpR ho pe_ pe_ hm) (ha H1 s _ fun v H2 s2 e1 => hb H2 (s.trans s2) _ fun w H3 s3 e2 => by
    subst e1 e2
    exact hr H3 ((s.trans s2).trans s3) Q (q _ H3 (s2.trans s3) rfl))
variable {i j : Int}
theorem gv_add (ha : Gv (cE X a) σ H (.is (.int i))) (hb : Gv (cE X b) σ H (.is (.int j))) : Gv (cE X (.BinOp a .Add b pos)) σ H (.is (.int (i + j))) := gv_bin op_add ha hb fun _ _ _ q => ⟨i, j, rfl, rfl, q⟩
theorem gv_sub (ha : Gv (cE X a) σ H (.is (.int i))) (hb : Gv (cE X b) σ H (.is (.int j))) : Gv (cE X (.BinOp a .Sub b pos)) σ H (.is (.int (i - j))) := gv_bin op_sub ha hb fun _ _ _ q => ⟨i, j, rfl, rfl, q⟩
theorem gv_mul (ha : Gv (cE X a) σ H (.is (.int i))) (hb : Gv (cE X b) σ H (.is (.int j))) (h : CMulW i j) : Gv (cE X (.BinOp a .Mult b pos)) σ H (.is (.int (i * j))) := gv_bin op_mulW ha hb fun _ _ _ q => ⟨i, j, rfl, rfl, h, q⟩
theorem gv_fdiv (ha : Gv (cE X a) σ H (.is (.int i))) (hb : Gv (cE X b) σ H (.is (.int j))) (h : CDivW i j) : Gv (cE X (.BinOp a .FloorDiv b pos)) σ H (.is (.int (i / j))) := gv_bin op_fdivW ha hb fun _ _ _ q => ⟨i, j, rfl, rfl, h, q⟩
theorem gv_mod (ha : Gv (cE X a) σ H (.is (.int i))) (hb : Gv (cE X b) σ H (.is (.int j))) (h : 0 < j) : Gv (cE X (.BinOp a .Mod b pos)) σ H (.is (.int (i % j))) := gv_bin op_mod ha hb fun _ _ _ q => ⟨i, j, rfl, rfl, h, q⟩
theorem gv_shl (ha : Gv (cE X a) σ H (.is (.int i))) (hb : Gv (cE X b) σ H (.is (.int j))) (h : CPow i j) : Gv (cE X (.BinOp a .LShift b pos)) σ H (.is (.int (i * 2 ^ j.toNat))) := gv_bin op_shl ha hb fun _ _ _ q => ⟨i, j, rfl, rfl, h, q⟩
theorem gv_shr (ha : Gv (cE X a) σ H (.is (.int i))) (hb : Gv (cE X b) σ H (.is (.int j))) (h : 0 ≤ j) : Gv (cE X (.BinOp a .RShift b pos)) σ H (.is (.int (i / 2 ^ j.toNat))) := gv_bin op_shr ha hb fun _ _ _ q => ⟨i, j, rfl, rfl, h, q⟩
theorem gv_band (ha : Gv (cE X a) σ H (.is (.int i))) (hb : Gv (cE X b) σ H (.is (.int j))) : Gv (cE X (.BinOp a .BitAnd b pos)) σ H (.is (.int (Builtin.bitAnd i j))) := gv_bin op_and ha hb fun _ _ _ q => ⟨i, j, rfl, rfl, q⟩
theorem gv_bor (ha : Gv (cE X a) σ H (.is (.int i))) (hb : Gv (cE X b) σ H (.is (.int j))) : Gv (cE X (.BinOp a .BitOr b pos)) σ H (.is (.int (Builtin.bitOr i j))) := gv_bin op_or ha hb fun _ _ _ q => ⟨i, j, rfl, rfl, q⟩
theorem gv_xor (ha : Gv (cE X a) σ H (.is (.int i))) (hb : Gv (cE X b) σ H (.is (.int j))) : Gv (cE X (.BinOp a .BitXor b pos)) σ H (.is (.int (Builtin.bitXor i j))) := gv_bin op_xor ha hb fun _ _ _ q => ⟨i, j, rfl, rfl, q⟩
theorem gv_neg (ha : Gv (cE X a) σ H (.is (.int i))) : Gv (cE X (.UnaryOp .USub a pos)) σ H (.is (.int (-i))) := fun H1 s Q q =>
  cE_of (pe_un un_neg pe_) (ha H1 s _ fun v H2 s2 e1 => ⟨i, e1, q _ H2 s2 rfl⟩)
theorem gv_lt (ha : Gv (cE X a) σ H (.is (.int i))) (hb : Gv (cE X b) σ H (.is (.int j))) : Gv (cE X (.Compare a [.Lt] [b] pos)) σ H (.is (.bl (decide (i < j)))) := gv_cmp op_lt ha hb fun _ _ _ q => ⟨i, j, rfl, rfl, q⟩
theorem gv_le (ha : Gv (cE X a) σ H (.is (.int i))) (hb : Gv (cE X b) σ H (.is (.int j))) : Gv (cE X (.Compare a [.LtE] [b] pos)) σ H (.is (.bl (decide (i ≤ j)))) := gv_cmp op_le ha hb fun _ _ _ q => ⟨i, j, rfl, rfl, q⟩
theorem gv_gt (ha : Gv (cE X a) σ H (.is (.int i))) (hb : Gv (cE X b) σ H (.is (.int j))) : Gv (cE X (.Compare a [.Gt] [b] pos)) σ H (.is (.bl (decide (j < i)))) := gv_cmp op_gt ha hb fun _ _ _ q => ⟨i, j, rfl, rfl, q⟩
theorem gv_ge (ha : Gv (cE X a) σ H (.is (.int i))) (hb : Gv (cE X b) σ H (.is (.int j))) : Gv (cE X (.Compare a [.GtE] [b] pos)) σ H (.is (.bl (decide (j ≤ i)))) := gv_cmp op_ge ha hb fun _ _ _ q => ⟨i, j, rfl, rfl, q⟩
theorem gv_eq (ha : Gv (cE X a) σ H (.is (.int i))) (hb : Gv (cE X b) σ H (.is (.int j))) : Gv (cE X (.Compare a [.Eq] [b] pos)) σ H (.is (.bl (i == j))) := gv_cmp op_eq ha hb fun _ _ _ q => ⟨rfl, by rw [dec_int]; exact q⟩
theorem gv_ne (ha : Gv (cE X a) σ H (.is (.int i))) (hb : Gv (cE X b) σ H (.is (.int j))) : Gv (cE X (.Compare a [.NotEq] [b] pos)) σ H (.is (.bl (i != j))) := gv_cmp op_ne ha hb fun _ _ _ q => ⟨rfl, by rw [dec_int]; exact q⟩
theorem gv_isN (ha : Gv (cE X a) σ H (.is x)) (hb : Gv (cE X b) σ H (.is .non)) : Gv (cE X (.Compare a [.Is] [b] pos)) σ H (.is (.bl (decide (x = .non)))) := gv_cmp op_isN ha hb fun _ _ _ q => ⟨rfl, q⟩
theorem gv_notN (ha : Gv (cE X a) σ H (.is x)) (hb : Gv (cE X b) σ H (.is .non)) : Gv (cE X (.Compare a [.IsNot] [b] pos)) σ H (.is (.bl (!decide (x = .non)))) := gv_cmp op_notN ha hb fun _ _ _ q => ⟨rfl, q⟩
theorem gv_eqD {d1 d2 : PyData} (hu : X.A.units + 64 < cLine) (ha : Gv (cE X a) σ H (.is x)) (hb : Gv (cE X b) σ H (.is y)) (h1 : ∀ H1, Same H H1 → Dp X.K H1 x d1) (h2 : ∀ H1, Same H H1 → Dp X.K H1 y d2) (s1 : SeqAt.shaped d1 = true) (s2 : SeqAt.shaped d2 = true) :
    Gv (cE X (.Compare a [.Eq] [b] pos)) σ H (.is (.bl (PyData.eqv d1 d2))) := gv_cmp (op_eqD hu) ha hb fun H1 s _ q => ⟨d1, d2, h1 H1 s, h2 H1 s, s1, s2, q⟩
theorem gv_and {c1 c2 : Bool} (ha : Gv (cE X a) σ H (.is (.bl c1))) (hb : c1 = true → Gv (cE X b) σ H (.is (.bl c2))) : Gv (cE X (.BoolOp .And [a, b] pos)) σ H (.is (.bl (c1 && c2))) := fun H1 s Q q =>
  cE_of (pe_and pe_ (pe_one pe_)) (ha H1 s _ fun v H2 s2 e1 => ⟨c1, e1, by
    cases c1 with
    | true => exact iteT (hb rfl H2 (s.trans s2) Q fun w H3 s3 e2 => q w H3 (s2.trans s3) e2)
    | false => exact iteF (q _ H2 s2 rfl)⟩)
theorem gv_and3 {c : Expr} {c1 c2 c3 : Bool} (ha : Gv (cE X a) σ H (.is (.bl c1))) (hb : c1 = true → Gv (cE X b) σ H (.is (.bl c2))) (hc : c1 = true → c2 = true → Gv (cE X c) σ H (.is (.bl c3))) : Gv (cE X (.BoolOp .And [a, b, c] pos)) σ H (.is (.bl (c1 && (c2 && c3)))) := fun H1 s Q q =>
  cE_of (pe_and pe_ (pe_and pe_ (pe_one pe_))) (ha H1 s _ fun v H2 s2 e1 => ⟨c1, e1, by
    cases c1 with
    | true => exact iteT (hb rfl H2 (s.trans s2) _ fun w H3 s3 e2 => ⟨c2, e2, by
        cases c2 with
        | true => exact iteT (hc rfl rfl H3 ((s.trans s2).trans s3) Q fun w H4 s4 e4 => q w H4 ((s2.trans s3).trans s4) e4)
        | false => exact iteF (q _ H3 (s2.trans s3) rfl)⟩)
    | false => exact iteF (q _ H2 s2 rfl)⟩)
theorem gv_or {c1 c2 : Bool} (ha : Gv (cE X a) σ H (.is (.bl c1))) (hb : c1 = false → Gv (cE X b) σ H (.is (.bl c2))) : Gv (cE X (.BoolOp .Or [a, b] pos)) σ H (.is (.bl (c1 || c2))) := fun H1 s Q q =>
  cE_of (pe_or pe_ (pe_one pe_)) (ha H1 s _ fun v H2 s2 e1 => ⟨c1, e1, by
    cases c1 with
    | false => exact iteF (hb rfl H2 (s.trans s2) Q fun w H3 s3 e2 => q w H3 (s2.trans s3) e2)
    | true => exact iteT (q _ H2 s2 rfl)⟩)
theorem gv_ite {c : Expr} {d : Bool} (hc : Gt (cT X c) σ H d) (ha : d = true → Gv (cE X a) σ H k) (hb : d = false → Gv (cE X b) σ H k) : Gv (cE X (.IfExp c a b pos)) σ H k := fun H1 s Q q =>
  cE_of (pe_ifExp pt_ pe_ pe_) (hc H1 s _ fun H2 s2 => by
    cases d with
    | true => exact iteT (ha rfl H2 (s.trans s2) Q (RetK.go q s2))
    | false => exact iteF (hb rfl H2 (s.trans s2) Q (RetK.go q s2)))
/-! ### tests -/
theorem gt_val {c : Bool} (h : Gv (cE X e) σ H (.is (.bl c))) (he : ∀ whole, isTrue e X.env whole = (do let v ← whole; standAt e.pos; holding [v] (truthy v)) := by intro _; rfl) : Gt (cT X e) σ H c := fun H1 s Q q =>
  cT_of (pt_val pe_ he) (h H1 s _ fun v H2 s2 e1 => ⟨c, e1, q H2 s2⟩)
theorem gt_not {c : Bool} (h : Gt (cT X e) σ H c) : Gt (cT X (.UnaryOp .Not e pos)) σ H (!c) := fun H1 s Q q => cT_of (pt_not pt_) (h H1 s _ fun H2 s2 => q H2 s2)
theorem gw_and1 {c : Bool} (h : Gt (cT X a) σ H c) : Gt (cW X (.BoolOp .And [a] pos)) σ H c := fun H1 s Q q => cW_of (pw_and1 pt_) (h H1 s _ q)
theorem gw_or1 {c : Bool} (h : Gt (cT X a) σ H c) : Gt (cW X (.BoolOp .Or [a] pos)) σ H c := fun H1 s Q q => cW_of (pw_or1 pt_) (h H1 s _ q)
theorem gw_and {rest : List Expr} {c1 c2 : Bool} (ha : Gt (cT X a) σ H c1) (hb : c1 = true → Gt (cW X (.BoolOp .And (b :: rest) pos)) σ H c2) : Gt (cW X (.BoolOp .And (a :: b :: rest) pos)) σ H (c1 && c2) := fun H1 s Q q =>
  cW_of (pw_and pt_ pw_) (ha H1 s _ fun H2 s2 => by
    cases c1 with
    | true => exact iteT (hb rfl H2 (s.trans s2) Q fun H3 s3 => q H3 (s2.trans s3))
    | false => exact iteF (q H2 s2))
theorem gw_or {rest : List Expr} {c1 c2 : Bool} (ha : Gt (cT X a) σ H c1) (hb : c1 = false → Gt (cW X (.BoolOp .Or (b :: rest) pos)) σ H c2) : Gt (cW X (.BoolOp .Or (a :: b :: rest) pos)) σ H (c1 || c2) := fun H1 s Q q =>
  cW_of (pw_or pt_ pw_) (ha H1 s _ fun H2 s2 => by
    cases c1 with
    | false => exact iteF (hb rfl H2 (s.trans s2) Q fun H3 s3 => q H3 (s2.trans s3))
    | true => exact iteT (q H2 s2))
theorem gt_w {c : Bool} {e : Expr} (h : Gt (cW X e) σ H c) : Gt (cT X e) σ H c := fun H1 s Q q => cT_of (PW.pt pw_) (h H1 s Q q)
/-! ### arguments, displays -/
theorem ga_nil : Ga (cA X []) σ H [] := fun H1 s Q q => cA_of pa_nil (q [] H1 (Same.refl _) rfl)
theorem ga_cons {es : List Expr} {ks : List Kd} (ha : Gv (cE X e) σ H k) (hr : Ga (cA X es) σ H ks) (hs : starEach (e :: es) X.env = (false, eval e X.env) :: starEach es X.env := by rfl) : Ga (cA X (e :: es)) σ H (k :: ks) := fun H1 s Q q =>
  cA_of (pa_cons pe_ pa_ hs) (ha H1 s _ fun v H2 s2 h1 => hr H2 (s.trans s2) _ fun vs H3 s3 h2 => q _ H3 (s2.trans s3) ⟨v, vs, rfl, Kd.at_same (Kd.new_at h1) s3, h2⟩)
theorem ks_is : ∀ {vs : List V} {us : List V} {H : Hp}, KsAt (vs.map .is) us H → us = vs
  | [], _, _, h => h
  | v :: vs, us, H, ⟨w, r, a, b, c⟩ => by
    have e1 : w = v := b
    rw [a, e1, ks_is c]
theorem gv_lst {es : List Expr} {vs : List V} (h : Ga (cA X es) σ H (vs.map .is)) (hl : vs.length ≤ 100000) : Gv (cE X (.List es pos)) σ H (.ob (.lst vs)) := fun H1 s Q q =>
  cE_of (pe_lst pa_) (h H1 s _ fun us H2 s2 z => by
    rw [ks_is z]
    exact ⟨Nat.le_trans hl (by decide), fun p hp => q _ _ (s2.trans (same_new hp)) ⟨p, rfl, s2.free hp, upd_same⟩⟩)
theorem gv_tup {es : List Expr} {j} {vs : List V} (h : Ga (cA X es) σ H (vs.map .is)) (hl : vs.length ≤ 100000) : Gv (cE X (.Tuple es j pos)) σ H (.ob (.tup vs)) := fun H1 s Q q =>
  cE_of (pe_tup pa_) (h H1 s _ fun us H2 s2 z => by
    rw [ks_is z]
    exact ⟨Nat.le_trans hl (by decide), fun p hp => q _ _ (s2.trans (same_new hp)) ⟨p, rfl, s2.free hp, upd_same⟩⟩)
/-! ### lists and tuples that are read -/
inductive HasL (K : PySem.W.Frag) (H : Hp) : Kd → List V → Prop
  | old {a : Addr} {xs : List V} (h : SqL K H a xs) : HasL K H (.is (.ref a)) xs
  | new {xs : List V} : HasL K H (.ob (.lst xs)) xs
inductive HasT (K : PySem.W.Frag) (H : Hp) : Kd → List V → Prop
  | old {a : Addr} {xs : List V} (h : SqT K H a xs) : HasT K H (.is (.ref a)) xs
  | new {xs : List V} : HasT K H (.ob (.tup xs)) xs
theorem HasL.get {K : PySem.W.Frag} {xs : List V} {H1 H2 : Hp} {v : V} (h : HasL K H k xs) (s : Same H H2) (n : k.at_ v H2) : ∃ p, v = .ref p ∧ SqL K H2 p xs := by
  cases h with
  | old h => exact ⟨_, n, same_l s h⟩
  | new => obtain ⟨p, a, c⟩ := n; exact ⟨p, a, SqL.of c⟩
theorem HasT.get {K : PySem.W.Frag} {xs : List V} {H1 H2 : Hp} {v : V} (h : HasT K H k xs) (s : Same H H2) (n : k.at_ v H2) : ∃ p, v = .ref p ∧ SqT K H2 p xs := by
  cases h with
  | old h => exact ⟨_, n, same_t s h⟩
  | new => obtain ⟨p, a, c⟩ := n; exact ⟨p, a, SqT.of c⟩
/-! ### built-ins -/
theorem gv_b1 {x : Str} {id : String} {p : Pos} {r : List V → Hp → VK → Prop} (hc : CallR X (.builtin id) r) (hm : X.mg x = none) (hv : bootBuiltins x = some (.builtin id)) (h : Gv (cE X e) σ H k) (hr : ∀ v H1 H2 (Q : VK), Same H H1 → Same H1 H2 → k.new H1 v H2 → RetK k' H2 Q → r [v] H2 Q)
    (hg : Gl X x := by rfl) (hn : x ≠ "__name__" := by decide) (hdb : (x == ("__debug__" : Str)) = false := by decide) (hs : starEach [e] X.env = (false, eval e X.env) :: starEach [] X.env := by rfl) (hpl : (backTo pos (starEach [] X.env)).any (·.1) = false := by rfl) : Gv (cE X (.Call (.Name x p) [e] [] pos)) σ H k' := fun H1 s Q q =>
  cE_of (pe_callB hc hg hm hv (pa_cons pe_ pa_nil hs) hn hdb hs hpl) (h H1 s _ fun v H2 s2 n => hr v H1 H2 Q s s2 n (RetK.go q s2))
theorem gv_t1 {x : Str} {T : String} {p : Pos} {r : List V → Hp → VK → Prop} (hc : CallR X (.type T) r) (hm : X.mg x = none) (hv : bootBuiltins x = some (.type T)) (h : Gv (cE X e) σ H k) (hr : ∀ v H1 H2 (Q : VK), Same H H1 → Same H1 H2 → k.new H1 v H2 → RetK k' H2 Q → r [v] H2 Q)
    (hg : Gl X x := by rfl) (hn : x ≠ "__name__" := by decide) (hdb : (x == ("__debug__" : Str)) = false := by decide) (hs : starEach [e] X.env = (false, eval e X.env) :: starEach [] X.env := by rfl) (hpl : (backTo pos (starEach [] X.env)).any (·.1) = false := by rfl) : Gv (cE X (.Call (.Name x p) [e] [] pos)) σ H k' := fun H1 s Q q =>
  cE_of (pe_callTy hc hg hm hv (pa_cons pe_ pa_nil hs) hn hdb hs hpl) (h H1 s _ fun v H2 s2 n => hr v H1 H2 Q s s2 n (RetK.go q s2))
/-- the built-ins' names are the built-ins still -/
structure Bl (mg : Str → Option Value) : Prop where
  len : mg "len" = none
  sum : mg "sum" = none
  range : mg "range" = none
  enum : mg "enumerate" = none
  tuple : mg "tuple" = none
  list : mg "list" = none
  any : mg "any" = none
  all : mg "all" = none
  abs : mg "abs" = none
  max : mg "max" = none
  min : mg "min" = none
variable {xs : List V} {p : Pos}
theorem gv_lenL (B : Bl X.mg) (h : Gv (cE X e) σ H k) (hx : HasL X.K H k xs) (hg : Gl X "len" := by rfl) (hs : starEach [e] X.env = (false, eval e X.env) :: starEach [] X.env := by rfl) (hpl : (backTo pos (starEach [] X.env)).any (·.1) = false := by rfl) : Gv (cE X (.Call (.Name "len" p) [e] [] pos)) σ H (.is (.int xs.length)) :=
  gv_b1 call_len_seq B.len PySem.boot_len h (fun v H1 H2 Q s s2 n q => by
    obtain ⟨a, ev, hq⟩ := hx.get (H1 := H1) (s.trans s2) (Kd.new_at n)
    exact ⟨a, xs, by rw [ev], .inl hq, q _ H2 (Same.refl _) rfl⟩) hg (by decide) (by decide) hs hpl
theorem gv_lenT (B : Bl X.mg) (h : Gv (cE X e) σ H k) (hx : HasT X.K H k xs) (hg : Gl X "len" := by rfl) (hs : starEach [e] X.env = (false, eval e X.env) :: starEach [] X.env := by rfl) (hpl : (backTo pos (starEach [] X.env)).any (·.1) = false := by rfl) : Gv (cE X (.Call (.Name "len" p) [e] [] pos)) σ H (.is (.int xs.length)) :=
  gv_b1 call_len_seq B.len PySem.boot_len h (fun v H1 H2 Q s s2 n q => by
    obtain ⟨a, ev, hq⟩ := hx.get (H1 := H1) (s.trans s2) (Kd.new_at n)
    exact ⟨a, xs, by rw [ev], .inr hq, q _ H2 (Same.refl _) rfl⟩) hg (by decide) (by decide) hs hpl
theorem gv_sumL {ns : List Int} (hcm : X.calm = true) (B : Bl X.mg) (h : Gv (cE X e) σ H k) (hx : HasL X.K H k (ns.map .int)) (hg : Gl X "sum" := by rfl) (hs : starEach [e] X.env = (false, eval e X.env) :: starEach [] X.env := by rfl) (hpl : (backTo pos (starEach [] X.env)).any (·.1) = false := by rfl) : Gv (cE X (.Call (.Name "sum" p) [e] [] pos)) σ H (.is (.int ns.sum)) :=
  gv_b1 (cr_sum hcm) B.sum (by decide +kernel) h (fun v H1 H2 Q s s2 n q => by
    obtain ⟨a, ev, hq⟩ := hx.get (H1 := H1) (s.trans s2) (Kd.new_at n)
    exact ⟨a, ns, by rw [ev], hq, q _ H2 (Same.refl _) rfl⟩) hg (by decide) (by decide) hs hpl
theorem gv_sumT {ns : List Int} (hcm : X.calm = true) (B : Bl X.mg) (h : Gv (cE X e) σ H k) (hx : HasT X.K H k (ns.map .int)) (hg : Gl X "sum" := by rfl) (hs : starEach [e] X.env = (false, eval e X.env) :: starEach [] X.env := by rfl) (hpl : (backTo pos (starEach [] X.env)).any (·.1) = false := by rfl) : Gv (cE X (.Call (.Name "sum" p) [e] [] pos)) σ H (.is (.int ns.sum)) :=
  gv_b1 (cr_sumT hcm) B.sum (by decide +kernel) h (fun v H1 H2 Q s s2 n q => by
    obtain ⟨a, ev, hq⟩ := hx.get (H1 := H1) (s.trans s2) (Kd.new_at n)
    exact ⟨a, ns, by rw [ev], hq, q _ H2 (Same.refl _) rfl⟩) hg (by decide) (by decide) hs hpl
theorem gv_any {bs : List Bool} (hcm : X.calm = true) (B : Bl X.mg) (h : Gv (cE X e) σ H k) (hx : HasL X.K H k (bs.map .bl)) (hg : Gl X "any" := by rfl) (hs : starEach [e] X.env = (false, eval e X.env) :: starEach [] X.env := by rfl) (hpl : (backTo pos (starEach [] X.env)).any (·.1) = false := by rfl) : Gv (cE X (.Call (.Name "any" p) [e] [] pos)) σ H (.is (.bl (bs.any id))) :=
  gv_b1 (cr_any hcm) B.any (by decide +kernel) h (fun v H1 H2 Q s s2 n q => by
    obtain ⟨a, ev, hq⟩ := hx.get (H1 := H1) (s.trans s2) (Kd.new_at n)
    exact ⟨a, bs, by rw [ev], hq, q _ H2 (Same.refl _) rfl⟩) hg (by decide) (by decide) hs hpl
theorem gv_all {bs : List Bool} (hcm : X.calm = true) (B : Bl X.mg) (h : Gv (cE X e) σ H k) (hx : HasL X.K H k (bs.map .bl)) (hg : Gl X "all" := by rfl) (hs : starEach [e] X.env = (false, eval e X.env) :: starEach [] X.env := by rfl) (hpl : (backTo pos (starEach [] X.env)).any (·.1) = false := by rfl) : Gv (cE X (.Call (.Name "all" p) [e] [] pos)) σ H (.is (.bl (bs.all id))) :=
  gv_b1 (cr_all hcm) B.all (by decide +kernel) h (fun v H1 H2 Q s s2 n q => by
    obtain ⟨a, ev, hq⟩ := hx.get (H1 := H1) (s.trans s2) (Kd.new_at n)
    exact ⟨a, bs, by rw [ev], hq, q _ H2 (Same.refl _) rfl⟩) hg (by decide) (by decide) hs hpl
theorem gv_abs (B : Bl X.mg) (h : Gv (cE X e) σ H (.is (.int i))) (hg : Gl X "abs" := by rfl) (hs : starEach [e] X.env = (false, eval e X.env) :: starEach [] X.env := by rfl) (hpl : (backTo pos (starEach [] X.env)).any (·.1) = false := by rfl) : Gv (cE X (.Call (.Name "abs" p) [e] [] pos)) σ H (.is (.int i.natAbs)) :=
  gv_b1 call_abs B.abs (by decide +kernel) h (fun v H1 H2 Q s s2 n q => by
    have ev : v = .int i := n
    refine ⟨i, by rw [ev], q _ H2 (Same.refl _) ?_⟩
    show V.int _ = V.int _
    congr 1
    split <;> omega) hg (by decide) (by decide) hs hpl
structure IsMax (ns : List Int) (m : Int) : Prop where
  mem : m ∈ ns
  le : ∀ y, y ∈ ns → y ≤ m
structure IsMin (ns : List Int) (m : Int) : Prop where
  mem : m ∈ ns
  le : ∀ y, y ∈ ns → m ≤ y
theorem gv_max {ns : List Int} {m : Int} (hcm : X.calm = true) (B : Bl X.mg) (h : Gv (cE X e) σ H k) (hx : HasL X.K H k (ns.map .int)) (hm : IsMax ns m) (hg : Gl X "max" := by rfl) (hs : starEach [e] X.env = (false, eval e X.env) :: starEach [] X.env := by rfl) (hpl : (backTo pos (starEach [] X.env)).any (·.1) = false := by rfl) : Gv (cE X (.Call (.Name "max" p) [e] [] pos)) σ H (.is (.int m)) :=
  gv_b1 (cr_max hcm) B.max (by decide +kernel) h (fun v H1 H2 Q s s2 n q => by
    obtain ⟨a, ev, hq⟩ := hx.get (H1 := H1) (s.trans s2) (Kd.new_at n)
    refine ⟨a, ns, by rw [ev], hq, List.length_pos_of_mem hm.mem, fun m' h1 h2 => q _ H2 (Same.refl _) ?_⟩
    have e1 := h2 m hm.mem
    have e2 := hm.le m' h1
    show V.int _ = V.int _
    congr 1
    omega) hg (by decide) (by decide) hs hpl
theorem gv_min {ns : List Int} {m : Int} (hcm : X.calm = true) (B : Bl X.mg) (h : Gv (cE X e) σ H k) (hx : HasL X.K H k (ns.map .int)) (hm : IsMin ns m) (hg : Gl X "min" := by rfl) (hs : starEach [e] X.env = (false, eval e X.env) :: starEach [] X.env := by rfl) (hpl : (backTo pos (starEach [] X.env)).any (·.1) = false := by rfl) : Gv (cE X (.Call (.Name "min" p) [e] [] pos)) σ H (.is (.int m)) :=
  gv_b1 (cr_min hcm) B.min (by decide +kernel) h (fun v H1 H2 Q s s2 n q => by
    obtain ⟨a, ev, hq⟩ := hx.get (H1 := H1) (s.trans s2) (Kd.new_at n)
    refine ⟨a, ns, by rw [ev], hq, List.length_pos_of_mem hm.mem, fun m' h1 h2 => q _ H2 (Same.refl _) ?_⟩
    have e1 := h2 m hm.mem
    have e2 := hm.le m' h1
    show V.int _ = V.int _
    congr 1
    omega) hg (by decide) (by decide) hs hpl
theorem gv_tupL (B : Bl X.mg) (h : Gv (cE X e) σ H k) (hx : HasL X.K H k xs) (hg : Gl X "tuple" := by rfl) (hs : starEach [e] X.env = (false, eval e X.env) :: starEach [] X.env := by rfl) (hpl : (backTo pos (starEach [] X.env)).any (·.1) = false := by rfl) : Gv (cE X (.Call (.Name "tuple" p) [e] [] pos)) σ H (.ob (.tup xs)) :=
  gv_t1 call_tuple_of B.tuple (by decide +kernel) h (fun v H1 H2 Q s s2 n q => by
    obtain ⟨a, ev, hq⟩ := hx.get (H1 := H1) (s.trans s2) (Kd.new_at n)
    exact ⟨a, xs, by rw [ev], .inl ⟨hq, fun l hl => q _ _ (same_new hl) ⟨l, rfl, hl, upd_same⟩⟩⟩) hg (by decide) (by decide) hs hpl
theorem gv_tupT {a : Addr} (B : Bl X.mg) (h : Gv (cE X e) σ H (.is (.ref a))) (hx : SqT X.K H a xs) (hg : Gl X "tuple" := by rfl) (hs : starEach [e] X.env = (false, eval e X.env) :: starEach [] X.env := by rfl) (hpl : (backTo pos (starEach [] X.env)).any (·.1) = false := by rfl) : Gv (cE X (.Call (.Name "tuple" p) [e] [] pos)) σ H (.is (.ref a)) :=
  gv_t1 call_tuple_of B.tuple (by decide +kernel) h (fun v H1 H2 Q s s2 n q => by
    have ev : v = .ref a := n
    exact ⟨a, xs, by rw [ev], .inr ⟨same_t (s.trans s2) hx, q _ H2 (Same.refl _) rfl⟩⟩) hg (by decide) (by decide) hs hpl
theorem gv_listT (B : Bl X.mg) (h : Gv (cE X e) σ H k) (hx : HasT X.K H k xs) (hg : Gl X "list" := by rfl) (hs : starEach [e] X.env = (false, eval e X.env) :: starEach [] X.env := by rfl) (hpl : (backTo pos (starEach [] X.env)).any (·.1) = false := by rfl) : Gv (cE X (.Call (.Name "list" p) [e] [] pos)) σ H (.ob (.lst xs)) :=
  gv_t1 call_list_of B.list (by decide +kernel) h (fun v H1 H2 Q s s2 n q => by
    obtain ⟨a, ev, hq⟩ := hx.get (H1 := H1) (s.trans s2) (Kd.new_at n)
    exact ⟨a, xs, by rw [ev], .inr hq, fun l hl => q _ _ (same_new hl) ⟨l, rfl, hl, upd_same⟩⟩) hg (by decide) (by decide) hs hpl
/-! ### subscripts -/
theorem gv_ixL (h : Gv (cE X a) σ H k) (hx : HasL X.K H k xs) (hi : Gv (cE X b) σ H (.is (.int i))) (ha : atI xs i = some v) (hp : PlainIx b := by exact fun _ _ => rfl) : Gv (cE X (.Subscript a b pos)) σ H (.is v) := fun H1 s Q q =>
  cE_of (pe_ix ix_list pe_ pe_ hp) (h H1 s _ fun x H2 s2 n => hi H2 (s.trans s2) _ fun y H3 s3 ey => by
    obtain ⟨p, ex, hq⟩ := hx.get (H1 := H1) ((s.trans s2).trans s3) (Kd.at_same (Kd.new_at n) s3)
    exact ⟨p, xs, i, v, ex, ey, hq, ha, q _ H3 (s2.trans s3) rfl⟩)
theorem gv_ixT (h : Gv (cE X a) σ H k) (hx : HasT X.K H k xs) (hi : Gv (cE X b) σ H (.is (.int i))) (ha : atI xs i = some v) (hp : PlainIx b := by exact fun _ _ => rfl) : Gv (cE X (.Subscript a b pos)) σ H (.is v) := fun H1 s Q q =>
  cE_of (pe_ix ix_tup pe_ pe_ hp) (h H1 s _ fun x H2 s2 n => hi H2 (s.trans s2) _ fun y H3 s3 ey => by
    obtain ⟨p, ex, hq⟩ := hx.get (H1 := H1) ((s.trans s2).trans s3) (Kd.at_same (Kd.new_at n) s3)
    exact ⟨p, xs, i, v, ex, ey, hq, ha, q _ H3 (s2.trans s3) rfl⟩)
/-! ### list + list -/
theorem gv_cat {ys : List V} (ha : Gv (cE X a) σ H (.ob (.lst xs))) (hb : Gv (cE X b) σ H k) (hk : k = .ob (.lst ys) ∨ ∃ p, k = .is (.ref p) ∧ H p = some (.lst ys)) (hl : xs.length + ys.length ≤ 100000) : Gv (cE X (.BinOp a .Add b pos)) σ H (.ob (.lst (xs ++ ys))) := fun H1 s Q q =>
  cE_of (pe_op op_cat pe_ pe_) (ha H1 s _ fun v H2 s2 ⟨p1, e1, f1, g1⟩ => hb H2 (s.trans s2) _ fun w H3 s3 n => by
    have h2 : ∃ p2, w = .ref p2 ∧ H3 p2 = some (.lst ys) := by
      rcases hk with hk | ⟨p2, hk, hp2⟩
      · subst hk
        exact (Kd.new_at n)
      · subst hk
        exact ⟨p2, n, s3 _ _ (s2 _ _ (s _ _ hp2))⟩
    obtain ⟨p2, e2, g2⟩ := h2
    exact ⟨p1, p2, xs, ys, e1, e2, s3 _ _ g1, g2, Nat.le_trans hl (by decide), fun l hl => q _ _ ((s2.trans s3).trans (same_new hl)) ⟨l, rfl, (s2.trans s3).free hl, upd_same⟩⟩)
end
end Kx
set_option Elab.async false
set_option linter.all false
set_option maxRecDepth 100000
set_option maxHeartbeats 2000000
namespace Kx
open PySem PySem.Spec PyProof.Rows L2
open Evl (given given_yes given_no given_len)
/-! ### defs that may be called by their names -/
structure Cal (P : Program) (w : World) (K : PySem.W.Frag) (mg : Str → Option Value) (base : Heap) (k : Nat) (x : Str) (sp : Sp) : Prop where
  ex : ∃ (f : Addr) (fd : FuncData) (ps : List Str), FnOk P w K mg base CX0 k f fd ps sp ∧ mg x = some (.ref f) ∧ PySem.W.keepIn K (.ref f) = true ∧ Binds K fd ps []
def nameOf (s : Stmt) : Str := match s with
  | .FunctionDef n _ _ _ _ _ _ _ _ _ => n
  | _ => ""
/-- the def st of the text stands under the name g -/
structure DefAt (K : PySem.W.Frag) (mg : Str → Option Value) (g : Str) (st : Stmt) : Prop where
  ex : ∃ (f : Addr) (fd : FuncData), FunD K (nameOf st) (nameOf st) (defArgs st) (defBody st) (defScope st) [] [] f fd ∧ mg g = some (.ref f)
def SpK (Pre : List V → Hp → Kd → Prop) : Sp := fun vs H Q _ => ∃ k, Pre vs H k ∧ RetK k H Q
/-- the context of a def's body -/
abbrev Bd (P : Program) (w : World) (K : PySem.W.Frag) (mg : Str → Option Value) (base : Heap) (N : List Str) (st : Stmt) (f : Addr) (cdv : Value) (A : Around) (outer : List Env) (s : Shared) (H : Hp) (E : XK) : Cx := (cxOf CX0 P w K mg base N (nameOf st) (defScope st) f cdv A outer s H E).nox
section
variable {P : Program} {w : World} {K : PySem.W.Frag} {mg : Str → Option Value} {base : Heap} {g : Str} {st : Stmt} {N ps : List Str} {j : Nat} {sp : Sp}
theorem cal_of (D : DefAt K mg g st) (S : FnScope N ps (defScope st))
    (hb : ∀ (kV doc pm : Value) (an : Option Addr) (cdv ct : Value) (us : List Value), us.length = ps.length → bindArgs (PySem.W.fnOf (nameOf st) (nameOf st) (defArgs st) (defBody st) (defScope st) .none kV doc pm an cdv ct) ⟨us, []⟩ = pure (ps.zip us))
    (hlen : ∀ vs H Q E, sp vs H Q E → vs.length = ps.length)
    (hbody : ∀ (f : Addr) (cdv : Value) (A : Around) (outer : List Env) (s : Shared) (H : Hp) (vs : List V) (Q : VK) (E : XK), Room j (Bd P w K mg base N st f cdv A outer s H E).A → sp vs H Q E →
      cSs (Bd P w K mg base N st f cdv A outer s H E) (defBody st) { nx := fun _ H' => Q .non H', rt := Q } (start N vs) H) : Cal P w K mg base (j + 1) g sp := by
  obtain ⟨f, fd, F, hm⟩ := D.ex
  exact ⟨f, fd, ps, F.ok S hlen (fun cdv A outer s H vs Q E hr h => ⟨_, PSs.nox pss_, hbody f cdv A outer s H vs Q E hr h⟩), hm, F.kp, F.bindsN hb⟩
theorem cal_pure {Pre : List V → Hp → Kd → Prop} (D : DefAt K mg g st) (S : FnScope N ps (defScope st))
    (hb : ∀ (kV doc pm : Value) (an : Option Addr) (cdv ct : Value) (us : List Value), us.length = ps.length → bindArgs (PySem.W.fnOf (nameOf st) (nameOf st) (defArgs st) (defBody st) (defScope st) .none kV doc pm an cdv ct) ⟨us, []⟩ = pure (ps.zip us))
    (len : ∀ vs H k, Pre vs H k → vs.length = ps.length)
    (hbody : ∀ (f : Addr) (cdv : Value) (A : Around) (outer : List Env) (s : Shared) (H : Hp) (vs : List V) (E : XK) (k : Kd), Room j (Bd P w K mg base N st f cdv A outer s H E).A → Pre vs H k →
      GB (cSs (Bd P w K mg base N st f cdv A outer s H E) (defBody st)) (start N vs) H (fun _ => False) k) : Cal P w K mg base (j + 1) g (SpK Pre) :=
  cal_of D S hb (fun vs H Q E ⟨k, h, _⟩ => len vs H k h) fun f cdv A outer s H vs Q E hr ⟨k, h, r⟩ => hbody f cdv A outer s H vs E k hr h H (Same.refl _) _ (fun _ _ _ z => z.elim) r
end
section
variable {X : Cx} {σ : L2.St} {H H' : Hp} {k k' : Kd} {t ta tb : TE} {e a b : Expr} {es : List Expr} {pos p : Pos} {x y z v : V} {sp : Sp} {m j : Nat} {f : Str}
theorem gv_call {ks : List Kd} (c : Cal X.prog X.w X.K X.mg X.base m f sp) (hr : Room j X.A) (hk : m ≤ j) (ha : Ga (cA X (e :: es)) σ H ks) (h : ∀ vs H1 (Q : VK) (E : XK), Same H H1 → KsAt ks vs H1 → RetK k H1 Q → sp vs H1 Q E)
    (hg : Gl X f := by rfl) (hdb : (f == ("__debug__" : Str)) = false := by decide) (he : starEach (e :: es) X.env = (false, eval e X.env) :: starEach es X.env := by rfl) (hpl : (backTo pos (starEach es X.env)).any (·.1) = false := by rfl) :
    Gv (cE X (.Call (.Name f p) (e :: es) [] pos)) σ H k := fun H1 s Q q => by
  obtain ⟨fa, fd, ps, F, hm, kp, b⟩ := c.ex
  refine cE_of (pe_call F (hr.mono hk) hg hm kp b .nil pass0 pa_ hdb he hpl) (ha H1 s _ fun vs H2 s2 z => ?_)
  show sp (vs ++ []) H2 Q E0
  rw [List.append_nil]
  exact h vs H2 Q E0 (s.trans s2) z (RetK.go q s2)
/-- .. of a def of a kind -/
theorem gv_calk {ks : List Kd} {Pre : List V → Hp → Kd → Prop} (c : Cal X.prog X.w X.K X.mg X.base m f (SpK Pre)) (hr : Room j X.A) (hk : m ≤ j) (ha : Ga (cA X (e :: es)) σ H ks) (h : ∀ vs H1, Same H H1 → KsAt ks vs H1 → Pre vs H1 k)
    (hg : Gl X f := by rfl) (hdb : (f == ("__debug__" : Str)) = false := by decide) (he : starEach (e :: es) X.env = (false, eval e X.env) :: starEach es X.env := by rfl) (hpl : (backTo pos (starEach es X.env)).any (·.1) = false := by rfl) :
    Gv (cE X (.Call (.Name f p) (e :: es) [] pos)) σ H k := gv_call c hr hk ha (fun vs H1 Q E s z r => ⟨k, h vs H1 s z, r⟩) hg hdb he hpl
/-- .. whose arguments are values -/
theorem gv_calv {us : List V} {Pre : List V → Hp → Kd → Prop} (c : Cal X.prog X.w X.K X.mg X.base m f (SpK Pre)) (hr : Room j X.A) (hk : m ≤ j) (ha : Ga (cA X (e :: es)) σ H (us.map .is)) (h : ∀ H1, Same H H1 → Pre us H1 k)
    (hg : Gl X f := by rfl) (hdb : (f == ("__debug__" : Str)) = false := by decide) (he : starEach (e :: es) X.env = (false, eval e X.env) :: starEach es X.env := by rfl) (hpl : (backTo pos (starEach es X.env)).any (·.1) = false := by rfl) :
    Gv (cE X (.Call (.Name f p) (e :: es) [] pos)) σ H k := gv_calk c hr hk ha (fun vs H1 s z => by rw [ks_is z]; exact h H1 s) hg hdb he hpl
/-! ### comprehensions -/
def cF (X : Cx) (scope : Scope) (elt : Expr) : TE := fun σ H Q => ∀ (s : Shared) (H0 : Hp) (C : Addr) (cl : List (Str × Addr)) (fp : List Addr), cE (X.blk s H0 scope (compEnvC scope cl C X.env) fp) elt σ H Q
def cTF (X : Cx) (scope : Scope) (c : Expr) : TT := fun σ H Q => ∀ (s : Shared) (H0 : Hp) (C : Addr) (cl : List (Str × Addr)) (fp : List Addr), cT (X.blk s H0 scope (compEnvC scope cl C X.env) fp) c σ H Q
theorem gv_cF {scope : Scope} {elt : Expr} (h : ∀ (s : Shared) (H0 : Hp) (C : Addr) (cl : List (Str × Addr)) (fp : List Addr), Gv (cE (X.blk s H0 scope (compEnvC scope cl C X.env) fp) elt) σ H k) : Gv (cF X scope elt) σ H k := fun H1 s1 Q q s H0 C cl fp => h s H0 C cl fp H1 s1 Q q
theorem gt_cF {scope : Scope} {c : Expr} {d : Bool} (h : ∀ (s : Shared) (H0 : Hp) (C : Addr) (cl : List (Str × Addr)) (fp : List Addr), Gt (cT (X.blk s H0 scope (compEnvC scope cl C X.env) fp) c) σ H d) : Gt (cTF X scope c) σ H d := fun H1 s1 Q q s H0 C cl fp => h s H0 C cl fp H1 s1 Q q
theorem gt_yes : Gt tYes σ H true := fun H1 _ Q q => q H1 (Same.refl _)
theorem pts_c {scope : Scope} {c : Expr} (s : Shared) (H0 : Hp) (C : Addr) (cl : List (Str × Addr)) (fp : List Addr) : PTs (X.blk s H0 scope (compEnvC scope cl C X.env) fp) [c] (cTF X scope c) := pts_one ⟨fun pins s1 σ H Q I h => h s H0 C cl fp pins s1 I⟩
theorem pe_cF {scope : Scope} {elt : Expr} (s : Shared) (H0 : Hp) (C : Addr) (cl : List (Str × Addr)) (fp : List Addr) : PE (X.blk s H0 scope (compEnvC scope cl C X.env) fp) elt (cF X scope elt) := ⟨fun pins s1 σ H Q I h => h s H0 C cl fp pins s1 I⟩
theorem given_all (n : Nat) (v : Nat → V) : given n (fun _ => true) v = (List.range n).map v := by
  unfold given
  rw [List.filter_eq_self.mpr (fun _ _ => rfl)]
/-- the turns of a comprehension whose items are values -/
theorem lc_go {J : It} {n : Nat} {G : Hp → Prop} {Y : Nat → Hp → V → Hp → Prop} (w : Walk J n G Y) {g : TG} {tt : TT} {te : TE} {vs : List Nat} {H1 : Hp} {D : Addr} (f : Nat → Bool) (v : Nat → V) (hD : H1 D = none) (hG : ∀ H', Same H1 H' → G H') (hz : n ≤ 100000)
    (hs : ∀ i x H H', i < n → Same H1 H → Y i H x H' → ∃ σ2 H2, (∀ Qg : L2.St → Hp → Prop, Qg σ2 H2 → g x (wipe σ vs) H' Qg) ∧ Same H H2 ∧ wipe σ2 vs = wipe σ vs ∧ Gt tt σ2 H1 (f i) ∧ (f i = true → Gv te σ2 H1 (.is (v i))))
    {Q : VK} (q : ∀ H', Same H1 H' → H' D = some (.lst (given n f v)) → Q (.ref D) H') :
    ∃ W : Nat → Nat → Hp → Prop, (∃ m, W 0 m (upd H1 D (.lst []))) ∧ ∀ i m H, W i m H → (J.stop i H ∧ Q (.ref D) H) ∨ (J.go i H ∧ ∃ Nx : Hp → Prop, (∀ H', Nx H' → ∃ m', m' < m ∧ W (i + 1) m' H') ∧ ∀ x H', J.yld i H x H' → g x (wipe σ vs) H' fun σ2 H2 => wipe σ2 vs = wipe σ vs ∧ tt σ2 H2 fun b H3 => if b = true then te σ2 H3 fun y H4 => ∃ acc, H4 D = some (.lst acc) ∧ acc.length < sizeLine ∧ Nx (upd H4 D (.lst (acc ++ [y]))) else Nx H3) := by
  refine lc_it w (fun i H => Same H1 H ∧ H D = some (.lst (given i f v))) ⟨same_new hD, upd_same⟩ (fun i H _ h => hG H h.1) (fun i x H H' hi ⟨s1, hd⟩ y => ?_) (fun H ⟨s1, hd⟩ => q H s1 hd)
  obtain ⟨σ2, H2, hg, s2, hw, ht, he⟩ := hs i x H H' hi s1 y
  refine hg _ ⟨hw, ht H2 (s1.trans s2) _ fun H3 s3 => ?_⟩
  have l1 := given_len i f v
  have l2 : (given i f v).length < sizeLine := Nat.lt_of_le_of_lt (Nat.le_trans l1 (Nat.le_trans (Nat.le_of_lt hi) hz)) (by decide)
  cases hf : f i with
  | true =>
    refine iteT (he hf H3 ((s1.trans s2).trans s3) _ fun y H4 s4 e4 => ⟨given i f v, s4 _ _ (s3 _ _ (s2 _ _ hd)), l2, same_mut (((s1.trans s2).trans s3).trans s4) hD, ?_⟩)
    have ey : y = v i := e4
    rw [given_yes hf, ey]
    exact upd_same
  | false =>
    refine iteF ⟨(s1.trans s2).trans s3, ?_⟩
    rw [given_no hf]
    exact s3 _ _ (s2 _ _ hd)
/-- .. over range(n) -/
theorem glc_rng {tt : TT} {te : TE} {i0 : Nat} {vs : List Nat} {n : Int} (f : Nat → Bool) (v : Nat → V) (hn : Gv (cE X e) σ H (.is (.int n))) (h0 : 0 ≤ n ∧ n ≤ 100000) (hw : ∀ x, wipe ((wipe σ vs).set i0 (some x)) vs = wipe σ vs)
    (ht : ∀ i : Nat, (i : Int) < n → Gt tt ((wipe σ vs).set i0 (some (.int i))) H (f i)) (he : ∀ i : Nat, (i : Int) < n → f i = true → Gv te ((wipe σ vs).set i0 (some (.int i))) H (.is (v i)))
    (hs : starEach [e] X.env = (false, eval e X.env) :: starEach [] X.env) : Gv (tLc (iRng1 (cA X [e])) (gName i0) tt te vs) σ H (.ob (.lst (given n.toNat f v))) := fun H1 s Q q =>
  cA_of (pa_cons pe_ pa_nil hs) (hn H1 s _ fun x H2 s2 ex => ⟨n, by rw [show x = .int n from ex], by omega, by omega, fun D hD =>
    lc_go (walk_range (lo := 0) (n := n.toNat)) f v hD (fun _ _ => trivial) (by omega) (fun i x Ha Hb hi s3 y => by
      obtain ⟨rfl, rfl⟩ := y
      have e0 : (0 : Int) + (i : Int) = (i : Int) := Int.zero_add _
      have hin : (i : Int) < n := by omega
      refine ⟨(wipe σ vs).set i0 (some (.int (0 + (i : Int)))), Hb, fun Qg z => z, Same.refl _, hw _, ?_, ?_⟩
      · rw [e0]; exact (ht i hin).mono (s.trans s2)
      · rw [e0]; exact fun hf => (he i hin hf).mono (s.trans s2)) (fun H' s3 hd => q _ H' (s2.trans s3) ⟨D, rfl, s2.free hD, hd⟩)⟩)
/-- .. over a list -/
theorem glc_lst {xs : List V} {tt : TT} {te : TE} {i0 : Nat} {vs : List Nat} (f : Nat → Bool) (v : Nat → V) (hl : Gv (cE X e) σ H k) (hx : HasL X.K H k xs) (hz : xs.length ≤ 100000) (hw : ∀ x, wipe ((wipe σ vs).set i0 (some x)) vs = wipe σ vs)
    (ht : ∀ (i : Nat) (x : V), xs[i]? = some x → Gt tt ((wipe σ vs).set i0 (some x)) H (f i)) (he : ∀ (i : Nat) (x : V), xs[i]? = some x → f i = true → Gv te ((wipe σ vs).set i0 (some x)) H (.is (v i))) :
    Gv (tLc (iList X.K (cE X e)) (gName i0) tt te vs) σ H (.ob (.lst (given xs.length f v))) := fun H1 s Q q => hl H1 s _ fun x H2 s2 n => by
  obtain ⟨a, ev, hq⟩ := hx.get (H1 := H1) (s.trans s2) (Kd.new_at n)
  exact ⟨a, ev, ⟨xs, hq⟩, fun D hD => lc_go (walk_list (xs := xs)) f v hD (fun _ s3 => same_l s3 hq) hz (fun i x Ha Hb hi s3 y => by
    obtain ⟨rfl, hxi⟩ := y
    exact ⟨(wipe σ vs).set i0 (some x), Hb, fun Qg z => z, Same.refl _, hw _, (ht i x hxi).mono (s.trans s2), fun hf => (he i x hxi hf).mono (s.trans s2)⟩) (fun H' s3 hd => q _ H' (s2.trans s3) ⟨D, rfl, s2.free hD, hd⟩)⟩
/-- .. over a tuple -/
theorem glc_tup {xs : List V} {tt : TT} {te : TE} {i0 : Nat} {vs : List Nat} (f : Nat → Bool) (v : Nat → V) (hl : Gv (cE X e) σ H k) (hx : HasT X.K H k xs) (hz : xs.length ≤ 100000) (hw : ∀ x, wipe ((wipe σ vs).set i0 (some x)) vs = wipe σ vs)
    (ht : ∀ (i : Nat) (x : V), xs[i]? = some x → Gt tt ((wipe σ vs).set i0 (some x)) H (f i)) (he : ∀ (i : Nat) (x : V), xs[i]? = some x → f i = true → Gv te ((wipe σ vs).set i0 (some x)) H (.is (v i))) :
    Gv (tLc (iTup X.K (cE X e)) (gName i0) tt te vs) σ H (.ob (.lst (given xs.length f v))) := fun H1 s Q q => hl H1 s _ fun x H2 s2 n => by
  obtain ⟨a, ev, hq⟩ := hx.get (H1 := H1) (s.trans s2) (Kd.new_at n)
  exact ⟨a, ev, ⟨xs, hq⟩, fun D hD => lc_go (walk_tup (xs := xs)) f v hD (fun _ s3 => same_t s3 hq) hz (fun i x Ha Hb hi s3 y => by
    obtain ⟨rfl, hxi⟩ := y
    exact ⟨(wipe σ vs).set i0 (some x), Hb, fun Qg z => z, Same.refl _, hw _, (ht i x hxi).mono (s.trans s2), fun hf => (he i x hxi hf).mono (s.trans s2)⟩) (fun H' s3 hd => q _ H' (s2.trans s3) ⟨D, rfl, s2.free hD, hd⟩)⟩
abbrev g2 (K : PySem.W.Frag) (i j : Nat) : TG := gTup K 2 (gCons (gName i) (gCons (gName j) gNil))
theorem g2_go {K : PySem.W.Frag} {i j T : Nat} {u x : V} {σ : L2.St} {H : Hp} {Qg : L2.St → Hp → Prop} (h : H T = some (.tup [u, x])) (q : Qg ((σ.set i (some u)).set j (some x)) H) : g2 K i j (.ref T) σ H Qg :=
  ⟨T, [u, x], rfl, SqT.of h, rfl, u, [x], rfl, x, [], rfl, rfl, q⟩
/-- .. over enumerate(a list) -/
theorem glc_enL {xs : List V} {tt : TT} {te : TE} {i0 j0 : Nat} {vs : List Nat} (f : Nat → Bool) (v : Nat → V) (hl : Gv (cE X e) σ H k) (hx : HasL X.K H k xs) (hz : xs.length ≤ 100000) (hw : ∀ u x, wipe (((wipe σ vs).set i0 (some u)).set j0 (some x)) vs = wipe σ vs)
    (ht : ∀ (i : Nat) (x : V), xs[i]? = some x → Gt tt (((wipe σ vs).set i0 (some (.int i))).set j0 (some x)) H (f i)) (he : ∀ (i : Nat) (x : V), xs[i]? = some x → f i = true → Gv te (((wipe σ vs).set i0 (some (.int i))).set j0 (some x)) H (.is (v i)))
    (hs : starEach [e] X.env = (false, eval e X.env) :: starEach [] X.env) :
    Gv (tLc (iEnum X.K (cA X [e])) (g2 X.K i0 j0) tt te vs) σ H (.ob (.lst (given xs.length f v))) := fun H1 s Q q => cA_of (pa_cons pe_ pa_nil hs) (hl H1 s _ fun x H2 s2 n => by
  obtain ⟨a, ev, hq⟩ := hx.get (H1 := H1) (s.trans s2) (Kd.new_at n)
  exact ⟨a, xs, by rw [ev], hq, fun D hD => lc_go (walk_enum (xs := xs)) f v hD (fun _ s3 => same_l s3 hq) hz (fun i x Ha Hb hi s3 y => by
    obtain ⟨T, u, x, rfl, hT, rfl, hu, hxi⟩ := y
    obtain rfl : V.int (i : Nat) = u := Option.some.inj hu
    exact ⟨_, _, fun Qg z => g2_go upd_same z, same_new hT, hw _ _, (ht i x hxi).mono (s.trans s2), fun hf => (he i x hxi hf).mono (s.trans s2)⟩) (fun H' s3 hd => q _ H' (s2.trans s3) ⟨D, rfl, s2.free hD, hd⟩)⟩)
/-- .. over enumerate(a tuple) -/
theorem glc_enT {xs : List V} {tt : TT} {te : TE} {i0 j0 : Nat} {vs : List Nat} (f : Nat → Bool) (v : Nat → V) (hl : Gv (cE X e) σ H k) (hx : HasT X.K H k xs) (hz : xs.length ≤ 100000) (hw : ∀ u x, wipe (((wipe σ vs).set i0 (some u)).set j0 (some x)) vs = wipe σ vs)
    (ht : ∀ (i : Nat) (x : V), xs[i]? = some x → Gt tt (((wipe σ vs).set i0 (some (.int i))).set j0 (some x)) H (f i)) (he : ∀ (i : Nat) (x : V), xs[i]? = some x → f i = true → Gv te (((wipe σ vs).set i0 (some (.int i))).set j0 (some x)) H (.is (v i)))
    (hs : starEach [e] X.env = (false, eval e X.env) :: starEach [] X.env) :
    Gv (tLc (iEnumT X.K (cA X [e])) (g2 X.K i0 j0) tt te vs) σ H (.ob (.lst (given xs.length f v))) := fun H1 s Q q => cA_of (pa_cons pe_ pa_nil hs) (hl H1 s _ fun x H2 s2 n => by
  obtain ⟨a, ev, hq⟩ := hx.get (H1 := H1) (s.trans s2) (Kd.new_at n)
  exact ⟨a, xs, by rw [ev], hq, fun D hD => lc_go (walk_enumT (xs := xs)) f v hD (fun _ s3 => same_t s3 hq) hz (fun i x Ha Hb hi s3 y => by
    obtain ⟨T, u, x, rfl, hT, rfl, hu, hxi⟩ := y
    obtain rfl : V.int (i : Nat) = u := Option.some.inj hu
    exact ⟨_, _, fun Qg z => g2_go upd_same z, same_new hT, hw _ _, (ht i x hxi).mono (s.trans s2), fun hf => (he i x hxi hf).mono (s.trans s2)⟩) (fun H' s3 hd => q _ H' (s2.trans s3) ⟨D, rfl, s2.free hD, hd⟩)⟩)
/-- a comprehension as a value -/
theorem gv_lc {elt tg iter : Expr} {ifs : List Expr} {scope : Scope} {own : List (Str × Nat)} {wi : TI} {g : TG} {tt : TT} (hcm : X.calm = true) (hN : X.N.Nodup) (hi : PI X tg iter wi) (ok : BlkOk X.N X.env.scope scope own)
    (hg : ∀ (s : Shared) (H : Hp) (C : Addr) (cl : List (Str × Addr)) (fp : List Addr), PG (X.blk s H scope (compEnvC scope cl C X.env) fp) tg g)
    (ht : ∀ (s : Shared) (H : Hp) (C : Addr) (cl : List (Str × Addr)) (fp : List Addr), PTs (X.blk s H scope (compEnvC scope cl C X.env) fp) ifs tt)
    (h : Gv (tLc wi g tt (cF X scope elt) (own.map (·.2))) σ H k) (hs : ∀ x, foldedSetIterable iter X.env x = pure x := by intro _; rfl) : Gv (cE X (.ListComp elt [⟨tg, iter, ifs, 0⟩] scope pos)) σ H k := fun H1 s Q q =>
  cE_of (pe_lc hcm hN hi ok hg ht pe_cF hs) (h H1 s Q q)
end
end Kx
set_option Elab.async false
set_option linter.all false
set_option maxRecDepth 100000
set_option maxHeartbeats 2000000
namespace Kx
open PySem PySem.Spec PyProof.Rows L2
open Evl (given given_yes given_no given_len)
section
variable {X : Cx} {σ : L2.St} {H H' : Hp} {k k' : Kd} {t ta tb : TE} {e a b c : Expr} {es : List Expr} {pos p xp : Pos} {x y : Str} {v : V} {rest body A B : List Stmt} {N : L2.St → Prop}
theorem gb_nil (h : N σ) : GB (cSs X []) σ H N k := fun H1 s D nx rt => cSs_of pss_nil (nx σ H1 (Same.refl _) h)
theorem gb_ret (g : Gv (cE X e) σ H k) : GB (cSs X (.Return (some e) pos :: rest)) σ H N k := fun H1 s D nx rt =>
  cSs_of (pss_cons (ps_ret pe_) pss_) (g H1 s _ rt)
/-- x = e -/
theorem gb_set (i : Nat) (hN : X.N.Nodup) (g : Gv (cE X e) σ H (.is v)) (h : GB (cSs X rest) (σ.set i (some v)) H N k) (hi : X.N[i]? = some x := by rfl) (hx : Loc X.env.scope x := by first | exact Or.inl rfl | exact Or.inr rfl)
    (hs : swapsWithSole [.Name x xp] e pos.line X.env = pure false := by rfl) (hw : swappedStores [.Name x xp] e X.env = pure none := by rfl) (h1 : (assignEach [.Name x xp] X.env).map (·.2) = [assign (.Name x xp) X.env] := by rfl)
    (hf : X.fn x = true ∨ X.env.scope.names.lookup x = some .local := by first | exact .inl rfl | exact .inr rfl) : GB (cSs X (.Assign [.Name x xp] e pos :: rest)) σ H N k := fun H1 s D nx rt =>
  cSs_of (pss_cons (ps_asg pe_ (pg_name (i := i) hN hi hx hf) hs hw h1) pss_) (g H1 s _ fun w H2 s2 ew => by
    obtain rfl : w = v := ew
    exact h H2 (s.trans s2) _ (fun σ' H3 s3 n => nx σ' H3 (s2.trans s3) n) (RetK.go rt s2))
/-- x = e, e a new object -/
theorem gb_setO {o : HO} (i : Nat) (hN : X.N.Nodup) (g : Gv (cE X e) σ H (.ob o)) (h : ∀ q H1, H q = none → Same H H1 → H1 q = some o → GB (cSs X rest) (σ.set i (some (.ref q))) H1 N k) (hi : X.N[i]? = some x := by rfl) (hx : Loc X.env.scope x := by first | exact Or.inl rfl | exact Or.inr rfl)
    (hs : swapsWithSole [.Name x xp] e pos.line X.env = pure false := by rfl) (hw : swappedStores [.Name x xp] e X.env = pure none := by rfl) (h1 : (assignEach [.Name x xp] X.env).map (·.2) = [assign (.Name x xp) X.env] := by rfl)
    (hf : X.fn x = true ∨ X.env.scope.names.lookup x = some .local := by first | exact .inl rfl | exact .inr rfl) : GB (cSs X (.Assign [.Name x xp] e pos :: rest)) σ H N k := fun H1 s D nx rt =>
  cSs_of (pss_cons (ps_asg pe_ (pg_name (i := i) hN hi hx hf) hs hw h1) pss_) (g H1 s _ fun w H2 s2 ⟨q, ew, fq, hq⟩ => by
    subst ew
    exact h q H2 (s.free fq) (s.trans s2) hq H2 (Same.refl _) _ (fun σ' H3 s3 n => nx σ' H3 (s2.trans s3) n) (RetK.go rt s2))
/-- x = e, e a new object that is changed from here on -/
theorem gb_setM {o : HO} (i : Nat) (hN : X.N.Nodup) (g : Gv (cE X e) σ H (.ob o)) (h : ∀ q H1, Same H H1 → H1 q = none → GM (cSs X rest) (σ.set i (some (.ref q))) H1 q o (fun σ' _ => N σ') (fun _ k' => k' = k)) (hi : X.N[i]? = some x := by rfl) (hx : Loc X.env.scope x := by first | exact Or.inl rfl | exact Or.inr rfl)
    (hs : swapsWithSole [.Name x xp] e pos.line X.env = pure false := by rfl) (hw : swappedStores [.Name x xp] e X.env = pure none := by rfl) (h1 : (assignEach [.Name x xp] X.env).map (·.2) = [assign (.Name x xp) X.env] := by rfl)
    (hf : X.fn x = true ∨ X.env.scope.names.lookup x = some .local := by first | exact .inl rfl | exact .inr rfl) : GB (cSs X (.Assign [.Name x xp] e pos :: rest)) σ H N k := fun H1 s D nx rt =>
  cSs_of (pss_cons (ps_asg pe_ (pg_name (i := i) hN hi hx hf) hs hw h1) pss_) (g H1 s _ fun w H2 s2 ⟨q, ew, fq, hq⟩ => by
    subst ew
    exact h q H1 s fq H2 s2 hq _ (fun σ' H3 o' s3 _ n => nx σ' H3 s3 n) (fun v H3 o' k' ek s3 _ n => by subst ek; exact rt v H3 s3 n))
/-- y = [..] on one line -/
theorem gb_lc {elt tg iter : Expr} {ifs : List Expr} {scope : Scope} {own : List (Str × Nat)} {wi : TI} {g : TG} {tt : TT} {o : HO} (i : Nat) (hcm : X.calm = true) (hN : X.N.Nodup) (hi : PI X tg iter wi) (ok : BlkOk X.N X.env.scope scope own)
    (hg : ∀ (s : Shared) (H : Hp) (C : Addr) (cl : List (Str × Addr)) (fp : List Addr), PG (X.blk s H scope (compEnvC scope cl C X.env) fp) tg g)
    (ht : ∀ (s : Shared) (H : Hp) (C : Addr) (cl : List (Str × Addr)) (fp : List Addr), PTs (X.blk s H scope (compEnvC scope cl C X.env) fp) ifs tt)
    (h : Gv (tLc wi g tt (cF X scope elt) (own.map (·.2))) σ H (.ob o)) (hr : ∀ q H1, H q = none → Same H H1 → H1 q = some o → GB (cSs X rest) (σ.set i (some (.ref q))) H1 N k)
    (hy : X.N[i]? = some y := by rfl) (hyl : X.env.scope.names.lookup y = some .local := by rfl) (hsw : swapsWith (.ListComp elt [⟨tg, iter, ifs, 0⟩] scope p) (some (.Name y xp)) pos.line X.env = pure true := by exact sw_true rfl rfl rfl (by decide +kernel))
    (hs : ∀ x, foldedSetIterable iter X.env x = pure x := by intro _; rfl) : GB (cSs X (.Assign [.Name y xp] (.ListComp elt [⟨tg, iter, ifs, 0⟩] scope p) pos :: rest)) σ H N k := fun H1 s D nx rt =>
  cSs_of (pss_cons (ps_setLc hcm hN hy hyl hsw hi ok hg ht pe_cF hs) pss_) (h H1 s (fun x H2 => gName i x σ H2 (cSs X rest D)) fun w H2 s2 ⟨q, ew, fq, hq⟩ => by
    subst ew
    exact hr q H2 (s.free fq) (s.trans s2) hq H2 (Same.refl _) _ (fun σ' H3 s3 n => nx σ' H3 (s2.trans s3) n) (RetK.go rt s2))
theorem gb_lcM {elt tg iter : Expr} {ifs : List Expr} {scope : Scope} {own : List (Str × Nat)} {wi : TI} {g : TG} {tt : TT} {o : HO} (i : Nat) (hcm : X.calm = true) (hN : X.N.Nodup) (hi : PI X tg iter wi) (ok : BlkOk X.N X.env.scope scope own)
    (hg : ∀ (s : Shared) (H : Hp) (C : Addr) (cl : List (Str × Addr)) (fp : List Addr), PG (X.blk s H scope (compEnvC scope cl C X.env) fp) tg g)
    (ht : ∀ (s : Shared) (H : Hp) (C : Addr) (cl : List (Str × Addr)) (fp : List Addr), PTs (X.blk s H scope (compEnvC scope cl C X.env) fp) ifs tt)
    (h : Gv (tLc wi g tt (cF X scope elt) (own.map (·.2))) σ H (.ob o)) (hr : ∀ q H1, Same H H1 → H1 q = none → GM (cSs X rest) (σ.set i (some (.ref q))) H1 q o (fun σ' _ => N σ') (fun _ k' => k' = k))
    (hy : X.N[i]? = some y := by rfl) (hyl : X.env.scope.names.lookup y = some .local := by rfl) (hsw : swapsWith (.ListComp elt [⟨tg, iter, ifs, 0⟩] scope p) (some (.Name y xp)) pos.line X.env = pure true := by exact sw_true rfl rfl rfl (by decide +kernel))
    (hs : ∀ x, foldedSetIterable iter X.env x = pure x := by intro _; rfl) : GB (cSs X (.Assign [.Name y xp] (.ListComp elt [⟨tg, iter, ifs, 0⟩] scope p) pos :: rest)) σ H N k := fun H1 s D nx rt =>
  cSs_of (pss_cons (ps_setLc hcm hN hy hyl hsw hi ok hg ht pe_cF hs) pss_) (h H1 s (fun x H2 => gName i x σ H2 (cSs X rest D)) fun w H2 s2 ⟨q, ew, fq, hq⟩ => by
    subst ew
    exact hr q H1 s fq H2 s2 hq _ (fun σ' H3 o' s3 _ n => nx σ' H3 s3 n) (fun v H3 o' k' ek s3 _ n => by subst ek; exact rt v H3 s3 n))
/-- if c: (a block that hands back); the rest -/
theorem gb_if {d : Bool} (g : Gt (cT X c) σ H d) (hA : d = true → GB (cSs X A) σ H (fun _ => False) k) (hB : d = false → GB (cSs X rest) σ H N k) : GB (cSs X (.If c A [] pos :: rest)) σ H N k := fun H1 s D nx rt =>
  cSs_of (pss_cons (ps_if pt_ pss_ pss_nil) pss_) (g H1 s _ fun H2 s2 => by
    cases d with
    | true => exact iteT (hA rfl H2 (s.trans s2) _ (fun _ _ _ z => z.elim) (RetK.go rt s2))
    | false => exact iteF (hB rfl H2 (s.trans s2) _ (fun σ' H3 s3 n => nx σ' H3 (s2.trans s3) n) (RetK.go rt s2)))
/-- an if that falls through, either way -/
theorem gb_ifN {d : Bool} {M : L2.St → Prop} (g : Gt (cT X c) σ H d) (hA : d = true → GB (cSs X A) σ H M k) (hB : d = false → M σ) (hr : ∀ σ', M σ' → GB (cSs X rest) σ' H N k) : GB (cSs X (.If c A [] pos :: rest)) σ H N k := fun H1 s D nx rt =>
  cSs_of (pss_cons (ps_if pt_ pss_ pss_nil) pss_) (g H1 s _ fun H2 s2 => by
    cases d with
    | true => exact iteT (hA rfl H2 (s.trans s2) _ (fun σ' H3 s3 m => hr σ' m H3 ((s.trans s2).trans s3) _ (fun σ2 H4 s4 n => nx σ2 H4 ((s2.trans s3).trans s4) n) (RetK.go rt (s2.trans s3))) (RetK.go rt s2))
    | false => exact iteF (hr σ (hB rfl) H2 (s.trans s2) _ (fun σ' H3 s3 n => nx σ' H3 (s2.trans s3) n) (RetK.go rt s2)))
/-- x, y = e: a tuple's, a list's two items -/
theorem gb_asg {tg : Expr} {g : TG} {kk : Kd} (hg : PG X tg g) (he : Gv (cE X e) σ H kk) (h : ∀ w H1 H2, Same H H1 → Same H1 H2 → kk.new H1 w H2 → ∃ σ', (∀ Qg : L2.St → Hp → Prop, Qg σ' H2 → g w σ H2 Qg) ∧ GB (cSs X rest) σ' H2 N k)
    (hs : swapsWithSole [tg] e pos.line X.env = pure false := by rfl) (hw : swappedStores [tg] e X.env = pure none := by rfl) (h1 : (assignEach [tg] X.env).map (·.2) = [assign tg X.env] := by rfl) : GB (cSs X (.Assign [tg] e pos :: rest)) σ H N k := fun H1 s D nx rt =>
  cSs_of (pss_cons (ps_asg pe_ hg hs hw h1) pss_) (he H1 s _ fun w H2 s2 n => by
    obtain ⟨σ', hq, hr⟩ := h w H1 H2 s s2 n
    exact hq _ (hr H2 (Same.refl _) _ (fun σ2 H3 s3 z => nx σ2 H3 (s2.trans s3) z) (RetK.go rt s2)))
/-- for over a walk -/
theorem gb_forW {tg iter : Expr} {wi : TI} {g : TG} {J : It} {n : Nat} {G : Hp → Prop} {Y : Nat → Hp → V → Hp → Prop} {σ0 : L2.St} (hcm : X.calm = true) (hi : PI X tg iter wi) (hg : PG X tg g) (w : ∀ H1, Same H H1 → Walk J n G Y)
    (hG : ∀ H1, Same H H1 → G H1) (Pv : Nat → L2.St → Prop) (h0 : Pv 0 σ)
    (hs : ∀ i x σ' H1 H2, i < n → Pv i σ' → Same H H1 → Y i H1 x H2 → ∃ σ2, Same H1 H2 ∧ (∀ Qg : L2.St → Hp → Prop, Qg σ2 H2 → g x σ' H2 Qg) ∧ GB (cSs X body) σ2 H (Pv (i + 1)) k)
    (hd : ∀ σ', Pv n σ' → GB (cSs X rest) σ' H N k) (hw : ∀ H1, Same H H1 → ∀ R : It → Hp → Prop, (∀ H2, Same H1 H2 → R J H2) → wi σ H1 R)
    (hp : PassesOwn (model X.prog X.w) X.A X.env X.xe) (hfs : ∀ x, foldedSetIterable iter X.env x = pure x := by intro _; rfl) : GB (cSs X (.For tg iter body [] pos :: rest)) σ H N k := fun H1 s D nx rt =>
  cSs_of (pss_cons (ps_for hp hcm hi hg pss_ hfs) pss_) (hw H1 s _ fun H2 s2 => by
    refine for_it (w H2 (s.trans s2)) (fun i σ' H' => Pv i σ' ∧ Same H2 H') ⟨h0, Same.refl _⟩ (fun i σ' H' _ z => hG H' ((s.trans s2).trans z.2)) (fun i x σ' Ha Hb hin ⟨pv, sa⟩ y => ?_) (fun σ' H' ⟨pv, sa⟩ => ?_)
    · obtain ⟨σ2, sb, hgo, hb⟩ := hs i x σ' Ha Hb hin pv ((s.trans s2).trans sa) y
      exact hgo _ (hb Hb (((s.trans s2).trans sa).trans sb) _ (fun σ3 H3 s3 q => ⟨q, (sa.trans sb).trans s3⟩) (RetK.go rt ((s2.trans sa).trans sb)))
    · exact hd σ' pv H' ((s.trans s2).trans sa) _ (fun σ3 H3 s3 q => nx σ3 H3 ((s2.trans sa).trans s3) q) (RetK.go rt (s2.trans sa)))
/-- while -/
theorem gb_while (hp : PassesOwn (model X.prog X.w) X.A X.env X.xe) (W : Nat → L2.St → Prop) (m0 : Nat) (h0 : W m0 σ)
    (hs : ∀ m σ', W m σ' → ∃ d, Gt (cT X c) σ' H d ∧ (d = true → GB (cSs X body) σ' H (fun σ2 => ∃ m', m' < m ∧ W m' σ2) k) ∧ (d = false → GB (cSs X rest) σ' H N k)) : GB (cSs X (.While c body [] pos :: rest)) σ H N k := fun H1 s D nx rt =>
  cSs_of (pss_cons (ps_while hp pt_ pss_) pss_) ⟨fun m σ' H' => W m σ' ∧ Same H1 H', ⟨m0, h0, Same.refl _⟩, fun m σ' H' ⟨wm, sm⟩ => by
    obtain ⟨d, gt, hA, hB⟩ := hs m σ' wm
    refine gt H' (s.trans sm) _ fun H2 s2 => ?_
    cases d with
    | true =>
      exact iteT ⟨fun σ2 H3 => (∃ m', m' < m ∧ W m' σ2) ∧ Same H1 H3, fun σ2 H3 ⟨⟨m', l, w'⟩, s3⟩ => ⟨m', l, w', s3⟩, hA rfl H2 ((s.trans sm).trans s2) _ (fun σ2 H3 s3 q => ⟨q, (sm.trans s2).trans s3⟩) (RetK.go rt (sm.trans s2))⟩
    | false => exact iteF (hB rfl H2 ((s.trans sm).trans s2) _ (fun σ2 H3 s3 q => nx σ2 H3 ((sm.trans s2).trans s3) q) (RetK.go rt (sm.trans s2)))⟩
/-- x, y = e, f -/
theorem gb_par {u w : V} {kt k2 : Nat} {px py pt pt2 : Pos} (i j : Nat) (hcm : X.calm = true) (hN : X.N.Nodup) (ha : Gv (cE X a) σ H (.is u)) (hb : Gv (cE X b) σ H (.is w)) (h : GB (cSs X rest) ((σ.set i (some u)).set j (some w)) H N k) (hij : i ≠ j)
    (hi : X.N[i]? = some x := by rfl) (hj : X.N[j]? = some y := by rfl) (hx : X.env.scope.names.lookup x = some .local := by rfl) (hy : X.env.scope.names.lookup y = some .local := by rfl)
    (hw : swappedStores [.Tuple [.Name x px, .Name y py] kt pt] (.Tuple [a, b] k2 pt2) X.env = pure (some [x, y]) := by rfl)
    (hs : swapsWithSole [.Tuple [.Name x px, .Name y py] kt pt] (.Tuple [a, b] k2 pt2) pos.line X.env = pure false := by rfl)
    (hst : starEach [a, b] X.env = (false, eval a X.env) :: starEach [b] X.env := by rfl) (hst2 : starEach [b] X.env = (false, eval b X.env) :: starEach [] X.env := by rfl) :
    GB (cSs X (.Assign [.Tuple [.Name x px, .Name y py] kt pt] (.Tuple [a, b] k2 pt2) pos :: rest)) σ H N k := fun H1 s D nx rt =>
  cSs_of (pss_cons (ps_par hcm hN hi hj hij hx hy (pa_cons pe_ (pa_cons pe_ pa_nil hst2) hst) hw hs) pss_) (ha H1 s _ fun v1 H2 s2 e1 => hb H2 (s.trans s2) _ fun v2 H3 s3 e2 => by
    obtain rfl : v1 = u := e1
    obtain rfl : v2 = w := e2
    exact ⟨_, _, rfl, h H3 ((s.trans s2).trans s3) _ (fun σ' H4 s4 n => nx σ' H4 ((s2.trans s3).trans s4) n) (RetK.go rt (s2.trans s3))⟩)
/-! ### walks, for gb_forW's last premise -/
theorem wr_rng {n : Int} (hn : Gv (cE X e) σ H (.is (.int n))) (h0 : 0 ≤ n ∧ n ≤ 100000) (hs : starEach [e] X.env = (false, eval e X.env) :: starEach [] X.env := by rfl) : ∀ H1, Same H H1 → ∀ R : It → Hp → Prop, (∀ H2, Same H1 H2 → R (Itr 0 n.toNat) H2) → iRng1 (cA X [e]) σ H1 R := fun H1 s R r =>
  cA_of (pa_cons pe_ pa_nil hs) (hn H1 s _ fun x H2 s2 ex => ⟨n, by rw [show x = .int n from ex], by omega, by omega, r H2 s2⟩)
/-- for x in range(n) -/
theorem gb_forR {n : Int} {xp2 p2 : Pos} (i0 : Nat) (hcm : X.calm = true) (hN : X.N.Nodup) (hmr : X.mg "range" = none) (hn : Gv (cE X e) σ H (.is (.int n))) (h0 : 0 ≤ n ∧ n ≤ 100000) (Pv : Nat → L2.St → Prop) (hP : Pv 0 σ)
    (hs : ∀ (i : Nat) σ', (i : Int) < n → Pv i σ' → GB (cSs X body) (σ'.set i0 (some (.int i))) H (Pv (i + 1)) k) (hd : ∀ σ', Pv n.toNat σ' → GB (cSs X rest) σ' H N k) (hp : PassesOwn (model X.prog X.w) X.A X.env X.xe)
    (hi : X.N[i0]? = some x := by rfl) (hx : Loc X.env.scope x := by first | exact Or.inl rfl | exact Or.inr rfl) (hf : X.fn x = true ∨ X.env.scope.names.lookup x = some .local := by first | exact .inl rfl | exact .inr rfl) (hgr : Gl X "range" := by rfl)
    (hst : starEach [e] X.env = (false, eval e X.env) :: starEach [] X.env := by rfl) (hst2 : starEach [e] X.env = [(false, eval e X.env)] := by rfl) (hfs : ∀ z, foldedSetIterable (.Call (.Name "range" p2) [e] [] xp2) X.env z = pure z := by intro _; rfl) :
    GB (cSs X (.For (.Name x xp) (.Call (.Name "range" p2) [e] [] xp2) body [] pos :: rest)) σ H N k :=
  gb_forW (σ0 := σ) hcm (pi_range1 hgr hmr pa_ hst2) (pg_name (i := i0) hN hi hx hf) (fun _ _ => walk_range (lo := 0) (n := n.toNat)) (fun _ _ => trivial) Pv hP (fun i x σ' H1 H2 hin pv s y => by
    obtain ⟨rfl, rfl⟩ := y
    have e0 : (0 : Int) + (i : Int) = (i : Int) := Int.zero_add _
    refine ⟨σ'.set i0 (some (.int (0 + (i : Int)))), Same.refl _, fun Qg q => q, ?_⟩
    rw [e0]
    exact hs i σ' (by omega) pv) hd (wr_rng hn h0 hst) hp hfs
/-- for i, x in enumerate(a list | a tuple) -/
theorem gb_forEL {xs : List V} {a : Addr} {xp2 p2 tp px py : Pos} {kt : Nat} (i0 j0 : Nat) (hcm : X.calm = true) (hN : X.N.Nodup) (hme : X.mg "enumerate" = none) (hl : Gv (cE X e) σ H (.is (.ref a))) (hq : SqL X.K H a xs) (Pv : Nat → L2.St → Prop) (hP : Pv 0 σ)
    (hs : ∀ (i : Nat) (v : V) σ', xs[i]? = some v → Pv i σ' → GB (cSs X body) ((σ'.set i0 (some (.int i))).set j0 (some v)) H (Pv (i + 1)) k) (hd : ∀ σ', Pv xs.length σ' → GB (cSs X rest) σ' H N k) (hp : PassesOwn (model X.prog X.w) X.A X.env X.xe)
    (hgt : PG X (.Tuple [.Name x px, .Name y py] kt tp) (g2 X.K i0 j0)) (hgr : Gl X "enumerate" := by rfl)
    (hst : starEach [e] X.env = (false, eval e X.env) :: starEach [] X.env := by rfl) (hst2 : starEach [e] X.env = [(false, eval e X.env)] := by rfl) (hfs : ∀ z, foldedSetIterable (.Call (.Name "enumerate" p2) [e] [] xp2) X.env z = pure z := by intro _; rfl) :
    GB (cSs X (.For (.Tuple [.Name x px, .Name y py] kt tp) (.Call (.Name "enumerate" p2) [e] [] xp2) body [] pos :: rest)) σ H N k :=
  gb_forW (σ0 := σ) hcm (pi_enum hgr hme pa_ hst2) hgt (fun _ _ => walk_enum (xs := xs)) (fun _ s => same_l s hq) Pv hP (fun i x σ' H1 H2 hin pv s y => by
    obtain ⟨T, u, v, rfl, hT, rfl, hu, hxi⟩ := y
    obtain rfl : V.int (i : Nat) = u := Option.some.inj hu
    exact ⟨_, same_new hT, fun Qg q => g2_go upd_same q, hs i v σ' hxi pv⟩) hd (fun H1 s R r => cA_of (pa_cons pe_ pa_nil hst) (hl H1 s _ fun w H2 s2 ew => ⟨a, xs, by rw [show w = .ref a from ew], same_l (s.trans s2) hq, r H2 s2⟩)) hp hfs
theorem gb_forET {xs : List V} {a : Addr} {xp2 p2 tp px py : Pos} {kt : Nat} (i0 j0 : Nat) (hcm : X.calm = true) (hN : X.N.Nodup) (hme : X.mg "enumerate" = none) (hl : Gv (cE X e) σ H (.is (.ref a))) (hq : SqT X.K H a xs) (Pv : Nat → L2.St → Prop) (hP : Pv 0 σ)
    (hs : ∀ (i : Nat) (v : V) σ', xs[i]? = some v → Pv i σ' → GB (cSs X body) ((σ'.set i0 (some (.int i))).set j0 (some v)) H (Pv (i + 1)) k) (hd : ∀ σ', Pv xs.length σ' → GB (cSs X rest) σ' H N k) (hp : PassesOwn (model X.prog X.w) X.A X.env X.xe)
    (hgt : PG X (.Tuple [.Name x px, .Name y py] kt tp) (g2 X.K i0 j0)) (hgr : Gl X "enumerate" := by rfl)
    (hst : starEach [e] X.env = (false, eval e X.env) :: starEach [] X.env := by rfl) (hst2 : starEach [e] X.env = [(false, eval e X.env)] := by rfl) (hfs : ∀ z, foldedSetIterable (.Call (.Name "enumerate" p2) [e] [] xp2) X.env z = pure z := by intro _; rfl) :
    GB (cSs X (.For (.Tuple [.Name x px, .Name y py] kt tp) (.Call (.Name "enumerate" p2) [e] [] xp2) body [] pos :: rest)) σ H N k :=
  gb_forW (σ0 := σ) hcm (pi_enumT hgr hme pa_ hst2) hgt (fun _ _ => walk_enumT (xs := xs)) (fun _ s => same_t s hq) Pv hP (fun i x σ' H1 H2 hin pv s y => by
    obtain ⟨T, u, v, rfl, hT, rfl, hu, hxi⟩ := y
    obtain rfl : V.int (i : Nat) = u := Option.some.inj hu
    exact ⟨_, same_new hT, fun Qg q => g2_go upd_same q, hs i v σ' hxi pv⟩) hd (fun H1 s R r => cA_of (pa_cons pe_ pa_nil hst) (hl H1 s _ fun w H2 s2 ew => ⟨a, xs, by rw [show w = .ref a from ew], same_t (s.trans s2) hq, r H2 s2⟩)) hp hfs
end
end Kx
set_option Elab.async false
set_option linter.all false
set_option maxRecDepth 100000
set_option maxHeartbeats 2000000
namespace Kx
open PySem PySem.Spec PyProof.Rows L2
open Evl (given given_yes given_no given_len)
section
variable {X : Cx} {σ : L2.St} {H H' : Hp} {k k' : Kd} {t ta tb : TE} {e a b c : Expr} {es : List Expr} {pos p xp : Pos} {x y : Str} {v u : V} {i j : Int} {m n : Nat}
/-! ### comparisons as tests -/
theorem gt_cmp {op : CmpOp} {r : R2} {d : Bool} (ho : OpR X (compareOp op) r) (ha : Gv (cE X a) σ H (.is u)) (hb : Gv (cE X b) σ H (.is v)) (hr : RvO r u v H (.bl d)) (hm : behindInMarks op b = false := by first | exact nomark _ | exact nobehind _ (by decide) (by decide) | rfl) :
    Gt (cT X (.Compare a [op] [b] pos)) σ H d := fun H1 s Q q =>
  cT_of (pt_cmpR ho pe_ pe_ hm) (ha H1 s _ fun v H2 s2 e1 => hb H2 (s.trans s2) _ fun w H3 s3 e2 => by
    subst e1 e2
    exact hr H3 ((s.trans s2).trans s3) _ ⟨d, rfl, q H3 (s2.trans s3)⟩)
theorem gt_lt (ha : Gv (cE X a) σ H (.is (.int i))) (hb : Gv (cE X b) σ H (.is (.int j))) : Gt (cT X (.Compare a [.Lt] [b] pos)) σ H (decide (i < j)) := gt_cmp op_lt ha hb fun _ _ _ q => ⟨i, j, rfl, rfl, q⟩
theorem gt_le (ha : Gv (cE X a) σ H (.is (.int i))) (hb : Gv (cE X b) σ H (.is (.int j))) : Gt (cT X (.Compare a [.LtE] [b] pos)) σ H (decide (i ≤ j)) := gt_cmp op_le ha hb fun _ _ _ q => ⟨i, j, rfl, rfl, q⟩
theorem gt_gt (ha : Gv (cE X a) σ H (.is (.int i))) (hb : Gv (cE X b) σ H (.is (.int j))) : Gt (cT X (.Compare a [.Gt] [b] pos)) σ H (decide (j < i)) := gt_cmp op_gt ha hb fun _ _ _ q => ⟨i, j, rfl, rfl, q⟩
theorem gt_ge (ha : Gv (cE X a) σ H (.is (.int i))) (hb : Gv (cE X b) σ H (.is (.int j))) : Gt (cT X (.Compare a [.GtE] [b] pos)) σ H (decide (j ≤ i)) := gt_cmp op_ge ha hb fun _ _ _ q => ⟨i, j, rfl, rfl, q⟩
theorem gt_eq (ha : Gv (cE X a) σ H (.is (.int i))) (hb : Gv (cE X b) σ H (.is (.int j))) : Gt (cT X (.Compare a [.Eq] [b] pos)) σ H (i == j) := gt_cmp op_eq ha hb fun _ _ _ q => ⟨rfl, by rw [dec_int]; exact q⟩
theorem gt_ne (ha : Gv (cE X a) σ H (.is (.int i))) (hb : Gv (cE X b) σ H (.is (.int j))) : Gt (cT X (.Compare a [.NotEq] [b] pos)) σ H (i != j) := gt_cmp op_ne ha hb fun _ _ _ q => ⟨rfl, by rw [dec_int]; exact q⟩
theorem gt_eqS {z w : Str} (ha : Gv (cE X a) σ H (.is (.str z))) (hb : Gv (cE X b) σ H (.is (.str w))) : Gt (cT X (.Compare a [.Eq] [b] pos)) σ H (z == w) := gt_cmp op_eq ha hb fun _ _ _ q => ⟨rfl, by rw [dec_str]; exact q⟩
theorem gt_isN (ha : Gv (cE X a) σ H (.is u)) (hb : Gv (cE X b) σ H (.is .non)) : Gt (cT X (.Compare a [.Is] [b] pos)) σ H (decide (u = .non)) := gt_cmp op_isN ha hb fun _ _ _ q => ⟨rfl, q⟩
theorem gt_notN (ha : Gv (cE X a) σ H (.is u)) (hb : Gv (cE X b) σ H (.is .non)) : Gt (cT X (.Compare a [.IsNot] [b] pos)) σ H (!decide (u = .non)) := gt_cmp op_notN ha hb fun _ _ _ q => ⟨rfl, q⟩
theorem gt_inL {xs : List V} {q : Addr} (ha : Gv (cE X a) σ H (.is u)) (hb : Gv (cE X b) σ H (.is (.ref q))) (hq : SqL X.K H q xs) (hu : flatV u = true) (hx : xs.all flatV = true) (hm : behindInMarks .In b = false := by rfl) : Gt (cT X (.Compare a [.In] [b] pos)) σ H (inV u xs) := gt_cmp op_in_seq ha hb (fun H1 s _ r => ⟨q, xs, rfl, .inl (same_l s hq), hu, hx, by simpa using r⟩) hm
theorem gt_eqD {d1 d2 : PyData} (hu : X.A.units + 64 < cLine) (ha : Gv (cE X a) σ H (.is u)) (hb : Gv (cE X b) σ H (.is v)) (h1 : ∀ H1, Same H H1 → Dp X.K H1 u d1) (h2 : ∀ H1, Same H H1 → Dp X.K H1 v d2) (s1 : SeqAt.shaped d1 = true) (s2 : SeqAt.shaped d2 = true) :
    Gt (cT X (.Compare a [.Eq] [b] pos)) σ H (PyData.eqv d1 d2) := gt_cmp (op_eqD hu) ha hb fun H1 s _ q => ⟨d1, d2, h1 H1 s, h2 H1 s, s1, s2, q⟩
theorem gt_or2 {d1 d2 : Bool} (ha : Gt (cT X a) σ H d1) (hb : d1 = false → Gt (cT X b) σ H d2) : Gt (cT X (.BoolOp .Or [a, b] pos)) σ H (d1 || d2) := gt_w (gw_or ha fun h => gw_or1 (hb h))
theorem gt_or3 {d1 d2 d3 : Bool} (ha : Gt (cT X a) σ H d1) (hb : d1 = false → Gt (cT X b) σ H d2) (hc : d1 = false → d2 = false → Gt (cT X c) σ H d3) : Gt (cT X (.BoolOp .Or [a, b, c] pos)) σ H (d1 || (d2 || d3)) := gt_w (gw_or ha fun h => gw_or (hb h) fun h2 => gw_or1 (hc h h2))
theorem gt_and2 {d1 d2 : Bool} (ha : Gt (cT X a) σ H d1) (hb : d1 = true → Gt (cT X b) σ H d2) : Gt (cT X (.BoolOp .And [a, b] pos)) σ H (d1 && d2) := gt_w (gw_and ha fun h => gw_and1 (hb h))
/-! ### numbers that are not negative -/
theorem bAnd_nat (m n : Nat) : Builtin.bitAnd (m : Int) (n : Int) = ((m &&& n : Nat) : Int) := by
  unfold Builtin.bitAnd
  have h1 : decide (0 ≤ (m : Int)) = true := decide_eq_true (by omega)
  have h2 : decide (0 ≤ (n : Int)) = true := decide_eq_true (by omega)
  first
    | (rw [h1, h2]; simp; done)
    | (simp; done)
theorem gv_bandN (ha : Gv (cE X a) σ H (.is (.int (m : Nat)))) (hb : Gv (cE X b) σ H (.is (.int (n : Nat)))) : Gv (cE X (.BinOp a .BitAnd b pos)) σ H (.is (.int ((m &&& n : Nat) : Int))) := (gv_band ha hb).is_to (by rw [bAnd_nat])
theorem gv_borN (ha : Gv (cE X a) σ H (.is (.int (m : Nat)))) (hb : Gv (cE X b) σ H (.is (.int (n : Nat)))) : Gv (cE X (.BinOp a .BitOr b pos)) σ H (.is (.int ((m ||| n : Nat) : Int))) := (gv_bor ha hb).is_to (by rw [Bits.bitOr_pp (by omega) (by omega)]; simp)
theorem gv_xorN (ha : Gv (cE X a) σ H (.is (.int (m : Nat)))) (hb : Gv (cE X b) σ H (.is (.int (n : Nat)))) : Gv (cE X (.BinOp a .BitXor b pos)) σ H (.is (.int ((m ^^^ n : Nat) : Int))) := (gv_xor ha hb).is_to (by rw [Bits.bitXor_pp (by omega) (by omega)]; simp)
theorem gv_shlN (ha : Gv (cE X a) σ H (.is (.int (m : Nat)))) (hb : Gv (cE X b) σ H (.is (.int (n : Nat)))) (hm : m < 2 ^ 64) (hn : n ≤ 1000) : Gv (cE X (.BinOp a .LShift b pos)) σ H (.is (.int ((m <<< n : Nat) : Int))) :=
  (gv_shl ha hb ⟨by omega, by omega, by simpa using hm⟩).is_to (by rw [Nat.shiftLeft_eq]; simp)
theorem gv_shrN (ha : Gv (cE X a) σ H (.is (.int (m : Nat)))) (hb : Gv (cE X b) σ H (.is (.int (n : Nat)))) : Gv (cE X (.BinOp a .RShift b pos)) σ H (.is (.int ((m >>> n : Nat) : Int))) :=
  (gv_shr ha hb (by omega)).is_to (by rw [Nat.shiftRight_eq_div_pow]; simp)
theorem gv_addN (ha : Gv (cE X a) σ H (.is (.int (m : Nat)))) (hb : Gv (cE X b) σ H (.is (.int (n : Nat)))) : Gv (cE X (.BinOp a .Add b pos)) σ H (.is (.int ((m + n : Nat) : Int))) := (gv_add ha hb).is_to (by simp)
/-! ### a list or a tuple -/
def Seq (K : PySem.W.Frag) (H : Hp) (a : Addr) (xs : List V) : Prop := SqL K H a xs ∨ SqT K H a xs
theorem Seq.same {K : PySem.W.Frag} {a : Addr} {xs : List V} (h : Seq K H a xs) (s : Same H H') : Seq K H' a xs := h.imp (same_l s) (same_t s)
theorem gv_ixS {xs : List V} {q : Addr} (h : Gv (cE X a) σ H (.is (.ref q))) (hx : Seq X.K H q xs) (hi : Gv (cE X b) σ H (.is (.int i))) (ha : atI xs i = some v) (hp : PlainIx b := by exact fun _ _ => rfl) : Gv (cE X (.Subscript a b pos)) σ H (.is v) := by
  rcases hx with hx | hx
  · exact gv_ixL h (.old hx) hi ha hp
  · exact gv_ixT h (.old hx) hi ha hp
theorem gv_lenS {xs : List V} {q : Addr} (B : Bl X.mg) (h : Gv (cE X e) σ H (.is (.ref q))) (hx : Seq X.K H q xs) (hg : Gl X "len" := by rfl) (hs : starEach [e] X.env = (false, eval e X.env) :: starEach [] X.env := by rfl) (hpl : (backTo pos (starEach [] X.env)).any (·.1) = false := by rfl) : Gv (cE X (.Call (.Name "len" p) [e] [] pos)) σ H (.is (.int xs.length)) := by
  rcases hx with hx | hx
  · exact gv_lenL B h (.old hx) hg hs hpl
  · exact gv_lenT B h (.old hx) hg hs hpl
theorem gv_sumS {ns : List Int} {q : Addr} (hcm : X.calm = true) (B : Bl X.mg) (h : Gv (cE X e) σ H (.is (.ref q))) (hx : Seq X.K H q (ns.map .int)) (hg : Gl X "sum" := by rfl) (hs : starEach [e] X.env = (false, eval e X.env) :: starEach [] X.env := by rfl) (hpl : (backTo pos (starEach [] X.env)).any (·.1) = false := by rfl) : Gv (cE X (.Call (.Name "sum" p) [e] [] pos)) σ H (.is (.int ns.sum)) := by
  rcases hx with hx | hx
  · exact gv_sumL hcm B h (.old hx) hg hs hpl
  · exact gv_sumT hcm B h (.old hx) hg hs hpl
theorem pg2 (i0 j0 : Nat) {px py tp : Pos} {kt : Nat} (hcm : X.calm = true) (hN : X.N.Nodup) (hi : X.N[i0]? = some x := by rfl) (hj : X.N[j0]? = some y := by rfl) (hx : Loc X.env.scope x := by first | exact Or.inl rfl | exact Or.inr rfl) (hy : Loc X.env.scope y := by first | exact Or.inl rfl | exact Or.inr rfl)
    (hf : X.fn x = true ∨ X.env.scope.names.lookup x = some .local := by first | exact .inl rfl | exact .inr rfl) (hf2 : X.fn y = true ∨ X.env.scope.names.lookup y = some .local := by first | exact .inl rfl | exact .inr rfl)
    (hn : (assignEach [.Name x px, .Name y py] X.env).length = 2 := by rfl) (hst : (assignEach [.Name x px, .Name y py] X.env).findIdx? (·.1) = none := by rfl)
    (hs1 : (assignEach [.Name x px, .Name y py] X.env).map (·.2) = assign (.Name x px) X.env :: (assignEach [.Name y py] X.env).map (·.2) := by rfl) (hs2 : (assignEach [.Name y py] X.env).map (·.2) = assign (.Name y py) X.env :: (assignEach [] X.env).map (·.2) := by rfl) :
    PG X (.Tuple [.Name x px, .Name y py] kt tp) (g2 X.K i0 j0) := pg_tup hcm (pgs_cons (pg_name (i := i0) hN hi hx hf) (pgs_cons (pg_name (i := j0) hN hj hy hf2) pgs_nil hs2) hs1) hn hst
/-- [.. for i, x in enumerate(e) ..], e a list or a tuple that stands -/
theorem gv_lcES {elt : Expr} {ifs : List Expr} {scope : Scope} {own : List (Str × Nat)} {tt : TT} {px py tp ep : Pos} {kt : Nat} {xs : List V} {q : Addr} (i0 j0 : Nat) (hcm : X.calm = true) (hN : X.N.Nodup) (hme : X.mg "enumerate" = none) (hl : Gv (cE X e) σ H (.is (.ref q))) (hq : Seq X.K H q xs) (hz : xs.length ≤ 100000)
    (ok : BlkOk X.N X.env.scope scope own) (hg : ∀ (s : Shared) (H : Hp) (C : Addr) (cl : List (Str × Addr)) (fp : List Addr), PG (X.blk s H scope (compEnvC scope cl C X.env) fp) (.Tuple [.Name x px, .Name y py] kt tp) (g2 X.K i0 j0))
    (ht : ∀ (s : Shared) (H : Hp) (C : Addr) (cl : List (Str × Addr)) (fp : List Addr), PTs (X.blk s H scope (compEnvC scope cl C X.env) fp) ifs tt) (f : Nat → Bool) (v : Nat → V)
    (hw : ∀ u x, wipe (((wipe σ (own.map (·.2))).set i0 (some u)).set j0 (some x)) (own.map (·.2)) = wipe σ (own.map (·.2)))
    (hT : ∀ (i : Nat) (x : V), xs[i]? = some x → Gt tt (((wipe σ (own.map (·.2))).set i0 (some (.int i))).set j0 (some x)) H (f i))
    (hE : ∀ (i : Nat) (x : V), xs[i]? = some x → f i = true → Gv (cF X scope elt) (((wipe σ (own.map (·.2))).set i0 (some (.int i))).set j0 (some x)) H (.is (v i)))
    (hge : Gl X "enumerate" := by rfl) (hst : starEach [e] X.env = (false, eval e X.env) :: starEach [] X.env := by rfl) (hst2 : starEach [e] X.env = [(false, eval e X.env)] := by rfl) (hs : ∀ z, foldedSetIterable (.Call (.Name "enumerate" p) [e] [] ep) X.env z = pure z := by intro _; rfl) :
    Gv (cE X (.ListComp elt [⟨.Tuple [.Name x px, .Name y py] kt tp, .Call (.Name "enumerate" p) [e] [] ep, ifs, 0⟩] scope pos)) σ H (.ob (.lst (given xs.length f v))) := by
  rcases hq with hq | hq
  · exact gv_lc hcm hN (pi_enum hge hme pa_ hst2) ok hg ht (glc_enL f v hl (.old hq) hz hw hT hE hst) hs
  · exact gv_lc hcm hN (pi_enumT hge hme pa_ hst2) ok hg ht (glc_enT f v hl (.old hq) hz hw hT hE hst) hs
/-- for i, x in enumerate(e), e a list or a tuple that stands -/
theorem gb_forES {rest body : List Stmt} {N : L2.St → Prop} {xs : List V} {q : Addr} {xp2 p2 tp px py : Pos} {kt : Nat} (i0 j0 : Nat) (hcm : X.calm = true) (hN : X.N.Nodup) (hme : X.mg "enumerate" = none) (hl : Gv (cE X e) σ H (.is (.ref q))) (hq : Seq X.K H q xs) (Pv : Nat → L2.St → Prop) (hP : Pv 0 σ)
    (hs : ∀ (i : Nat) (v : V) σ', xs[i]? = some v → Pv i σ' → GB (cSs X body) ((σ'.set i0 (some (.int i))).set j0 (some v)) H (Pv (i + 1)) k) (hd : ∀ σ', Pv xs.length σ' → GB (cSs X rest) σ' H N k) (hp : PassesOwn (model X.prog X.w) X.A X.env X.xe)
    (hgt : PG X (.Tuple [.Name x px, .Name y py] kt tp) (g2 X.K i0 j0)) (hgr : Gl X "enumerate" := by rfl)
    (hst : starEach [e] X.env = (false, eval e X.env) :: starEach [] X.env := by rfl) (hst2 : starEach [e] X.env = [(false, eval e X.env)] := by rfl) (hfs : ∀ z, foldedSetIterable (.Call (.Name "enumerate" p2) [e] [] xp2) X.env z = pure z := by intro _; rfl) :
    GB (cSs X (.For (.Tuple [.Name x px, .Name y py] kt tp) (.Call (.Name "enumerate" p2) [e] [] xp2) body [] pos :: rest)) σ H N k := by
  rcases hq with hq | hq
  · exact gb_forEL i0 j0 hcm hN hme hl hq Pv hP hs hd hp hgt hgr hst hst2 hfs
  · exact gb_forET i0 j0 hcm hN hme hl hq Pv hP hs hd hp hgt hgr hst hst2 hfs
/-- [.. for i in range(e) ..] -/
theorem gv_lcR {elt : Expr} {ifs : List Expr} {scope : Scope} {own : List (Str × Nat)} {tt : TT} {ep : Pos} {N : Int} (i0 : Nat) (hcm : X.calm = true) (hN : X.N.Nodup) (hmr : X.mg "range" = none) (hl : Gv (cE X e) σ H (.is (.int N))) (hz : 0 ≤ N ∧ N ≤ 100000)
    (ok : BlkOk X.N X.env.scope scope own) (hg : ∀ (s : Shared) (H : Hp) (C : Addr) (cl : List (Str × Addr)) (fp : List Addr), PG (X.blk s H scope (compEnvC scope cl C X.env) fp) (.Name x xp) (gName i0))
    (ht : ∀ (s : Shared) (H : Hp) (C : Addr) (cl : List (Str × Addr)) (fp : List Addr), PTs (X.blk s H scope (compEnvC scope cl C X.env) fp) ifs tt) (f : Nat → Bool) (v : Nat → V)
    (hw : ∀ x, wipe ((wipe σ (own.map (·.2))).set i0 (some x)) (own.map (·.2)) = wipe σ (own.map (·.2)))
    (hT : ∀ i : Nat, (i : Int) < N → Gt tt ((wipe σ (own.map (·.2))).set i0 (some (.int i))) H (f i))
    (hE : ∀ i : Nat, (i : Int) < N → f i = true → Gv (cF X scope elt) ((wipe σ (own.map (·.2))).set i0 (some (.int i))) H (.is (v i)))
    (hge : Gl X "range" := by rfl) (hst : starEach [e] X.env = (false, eval e X.env) :: starEach [] X.env := by rfl) (hst2 : starEach [e] X.env = [(false, eval e X.env)] := by rfl) (hs : ∀ z, foldedSetIterable (.Call (.Name "range" p) [e] [] ep) X.env z = pure z := by intro _; rfl) :
    Gv (cE X (.ListComp elt [⟨.Name x xp, .Call (.Name "range" p) [e] [] ep, ifs, 0⟩] scope pos)) σ H (.ob (.lst (given N.toNat f v))) :=
  gv_lc hcm hN (pi_range1 hge hmr pa_ hst2) ok hg ht (glc_rng f v hl hz hw hT hE hst) hs
/-- [.. for x in e ..], e a list -/
theorem gv_lcL {elt : Expr} {ifs : List Expr} {scope : Scope} {own : List (Str × Nat)} {tt : TT} {xs : List V} (i0 : Nat) (hcm : X.calm = true) (hN : X.N.Nodup) (hl : Gv (cE X e) σ H k) (hx : HasL X.K H k xs) (hz : xs.length ≤ 100000)
    (ok : BlkOk X.N X.env.scope scope own) (hg : ∀ (s : Shared) (H : Hp) (C : Addr) (cl : List (Str × Addr)) (fp : List Addr), PG (X.blk s H scope (compEnvC scope cl C X.env) fp) (.Name x xp) (gName i0))
    (ht : ∀ (s : Shared) (H : Hp) (C : Addr) (cl : List (Str × Addr)) (fp : List Addr), PTs (X.blk s H scope (compEnvC scope cl C X.env) fp) ifs tt) (f : Nat → Bool) (v : Nat → V)
    (hw : ∀ x, wipe ((wipe σ (own.map (·.2))).set i0 (some x)) (own.map (·.2)) = wipe σ (own.map (·.2)))
    (hT : ∀ (i : Nat) (x : V), xs[i]? = some x → Gt tt ((wipe σ (own.map (·.2))).set i0 (some x)) H (f i))
    (hE : ∀ (i : Nat) (x : V), xs[i]? = some x → f i = true → Gv (cF X scope elt) ((wipe σ (own.map (·.2))).set i0 (some x)) H (.is (v i))) (hs : ∀ z, foldedSetIterable e X.env z = pure z := by intro _; rfl) :
    Gv (cE X (.ListComp elt [⟨.Name x xp, e, ifs, 0⟩] scope pos)) σ H (.ob (.lst (given xs.length f v))) :=
  gv_lc hcm hN (pi_list pe_) ok hg ht (glc_lst f v hl hx hz hw hT hE) hs
/-- [.. for x in e ..], e a tuple -/
theorem gv_lcT {elt : Expr} {ifs : List Expr} {scope : Scope} {own : List (Str × Nat)} {tt : TT} {xs : List V} (i0 : Nat) (hcm : X.calm = true) (hN : X.N.Nodup) (hl : Gv (cE X e) σ H k) (hx : HasT X.K H k xs) (hz : xs.length ≤ 100000)
    (ok : BlkOk X.N X.env.scope scope own) (hg : ∀ (s : Shared) (H : Hp) (C : Addr) (cl : List (Str × Addr)) (fp : List Addr), PG (X.blk s H scope (compEnvC scope cl C X.env) fp) (.Name x xp) (gName i0))
    (ht : ∀ (s : Shared) (H : Hp) (C : Addr) (cl : List (Str × Addr)) (fp : List Addr), PTs (X.blk s H scope (compEnvC scope cl C X.env) fp) ifs tt) (f : Nat → Bool) (v : Nat → V)
    (hw : ∀ x, wipe ((wipe σ (own.map (·.2))).set i0 (some x)) (own.map (·.2)) = wipe σ (own.map (·.2)))
    (hT : ∀ (i : Nat) (x : V), xs[i]? = some x → Gt tt ((wipe σ (own.map (·.2))).set i0 (some x)) H (f i))
    (hE : ∀ (i : Nat) (x : V), xs[i]? = some x → f i = true → Gv (cF X scope elt) ((wipe σ (own.map (·.2))).set i0 (some x)) H (.is (v i))) (hs : ∀ z, foldedSetIterable e X.env z = pure z := by intro _; rfl) :
    Gv (cE X (.ListComp elt [⟨.Name x xp, e, ifs, 0⟩] scope pos)) σ H (.ob (.lst (given xs.length f v))) :=
  gv_lc hcm hN (pi_tup pe_) ok hg ht (glc_tup f v hl hx hz hw hT hE) hs
end
end Kx
set_option Elab.async false
set_option linter.all false
set_option maxRecDepth 100000
set_option maxHeartbeats 2000000
namespace Kx
open PySem PySem.Spec PyProof.Rows L2
open Evl (given given_yes given_no given_len)
/-! ### statements that change the heap: from any heap that knows H, to the ends D -/
def Go (D : Ends) (t : TS) (σ : L2.St) (H : Hp) : Prop := ∀ H1, Same H H1 → t D σ H1
/-- ends whose fall-through is any heap that knows one of W's -/
abbrev thru (D : Ends) (W : L2.St → Hp → Prop) : Ends := ⟨fun σ' H' => ∃ Hb, W σ' Hb ∧ Same Hb H', D.rt, fun _ _ => False, fun _ _ => False⟩
theorem same_both {H H1 : Hp} {p : Addr} {o : HO} (h : Same H H1) : Same (upd H p o) (upd H1 p o) := fun a u q => by
  by_cases z : a = p
  · rw [z, upd_same] at q
    rw [z, upd_same, q]
  · rw [upd_ne z] at q
    rw [upd_ne z]
    exact h a u q
/-- all but what stands at p -/
def But (p : Addr) (H H' : Hp) : Prop := ∀ a u, a ≠ p → H a = some u → H' a = some u
theorem But.refl {p : Addr} {H : Hp} : But p H H := fun _ _ _ q => q
theorem But.of {p : Addr} {H H' : Hp} (h : Same H H') : But p H H' := fun a u _ q => h a u q
theorem But.trans {p : Addr} {H H' H2 : Hp} (h : But p H H') (g : But p H' H2) : But p H H2 := fun a u n q => g a u n (h a u n q)
theorem But.upd_ {p : Addr} {o : HO} {H H' : Hp} (h : But p H H') : But p H (upd H' p o) := fun a u n q => by
  rw [upd_ne n]
  exact h a u n q
theorem But.new_ {p q : Addr} {o : HO} {H H' : Hp} (h : But p H H') (f : H q = none) : But p H (upd H' q o) := fun a u n e => by
  rw [upd_ne (ne_of_none e f)]
  exact h a u n e
section
variable {X : Cx} {σ : L2.St} {H H' : Hp} {k k' : Kd} {t ta tb : TE} {e a b c r ie : Expr} {es : List Expr} {pos p xp ap cp sp : Pos} {x y : Str} {v : V} {rest body A B : List Stmt} {st : Stmt} {D : Ends}
theorem Go.mono {ts : TS} (g : Go D ts σ H) (s : Same H H') : Go D ts σ H' := fun H1 s1 => g H1 (s.trans s1)
theorem go_nil (h : ∀ H1, Same H H1 → D.nx σ H1) : Go D (cSs X []) σ H := fun H1 s => cSs_of pss_nil (h H1 s)
theorem go_thru {W : L2.St → Hp → Prop} (h : W σ H) : Go (thru D W) (cSs X []) σ H := go_nil fun H1 s => ⟨H, h, s⟩
theorem go_ret (g : Gv (cE X e) σ H k) (h : ∀ v H2, Same H H2 → k.new H v H2 → D.rt v H2) : Go D (cSs X (.Return (some e) pos :: rest)) σ H := fun H1 s =>
  cSs_of (pss_cons (ps_ret pe_) pss_) (g H1 s _ fun v H2 s2 n => h v H2 (s.trans s2) (Kd.new_back n s (Same.refl _)))
/-- a block that changes nothing -/
theorem go_gb {N : L2.St → Prop} (g : GB (cSs X body) σ H N k) (hn : ∀ σ' H2, Same H H2 → N σ' → D.nx σ' H2) (hr : ∀ v H2, Same H H2 → k.new H v H2 → D.rt v H2) : Go D (cSs X body) σ H := fun H1 s =>
  g H1 s D (fun σ' H2 s2 n => hn σ' H2 (s.trans s2) n) fun v H2 s2 n => hr v H2 (s.trans s2) (Kd.new_back n s (Same.refl _))
theorem gb_go {N : L2.St → Prop} {ts : TS} (h : ∀ (D : Ends) (H1 : Hp), Same H H1 → (∀ σ' H2, Same H1 H2 → N σ' → D.nx σ' H2) → (∀ v H2, Same H1 H2 → k.new H1 v H2 → D.rt v H2) → Go D ts σ H1) : GB ts σ H N k := fun H1 s D nx rt => h D H1 s nx rt H1 (Same.refl _)
/-- x = e -/
theorem go_set (i : Nat) (hN : X.N.Nodup) (g : Gv (cE X e) σ H k) (h : ∀ w H1, Same H H1 → k.new H w H1 → Go D (cSs X rest) (σ.set i (some w)) H1) (hi : X.N[i]? = some x := by rfl) (hx : Loc X.env.scope x := by first | exact Or.inl rfl | exact Or.inr rfl)
    (hs : swapsWithSole [.Name x xp] e pos.line X.env = pure false := by rfl) (hw : swappedStores [.Name x xp] e X.env = pure none := by rfl) (h1 : (assignEach [.Name x xp] X.env).map (·.2) = [assign (.Name x xp) X.env] := by rfl)
    (hf : X.fn x = true ∨ X.env.scope.names.lookup x = some .local := by first | exact .inl rfl | exact .inr rfl) : Go D (cSs X (.Assign [.Name x xp] e pos :: rest)) σ H := fun H1 s =>
  cSs_of (pss_cons (ps_asg pe_ (pg_name (i := i) hN hi hx hf) hs hw h1) pss_) (g H1 s _ fun w H2 s2 n => h w H2 (s.trans s2) (Kd.new_back n s (Same.refl _)) H2 (Same.refl _))
theorem go_setV (i : Nat) (hN : X.N.Nodup) (g : Gv (cE X e) σ H (.is v)) (h : Go D (cSs X rest) (σ.set i (some v)) H) (hi : X.N[i]? = some x := by rfl) (hx : Loc X.env.scope x := by first | exact Or.inl rfl | exact Or.inr rfl)
    (hs : swapsWithSole [.Name x xp] e pos.line X.env = pure false := by rfl) (hw : swappedStores [.Name x xp] e X.env = pure none := by rfl) (h1 : (assignEach [.Name x xp] X.env).map (·.2) = [assign (.Name x xp) X.env] := by rfl)
    (hf : X.fn x = true ∨ X.env.scope.names.lookup x = some .local := by first | exact .inl rfl | exact .inr rfl) : Go D (cSs X (.Assign [.Name x xp] e pos :: rest)) σ H :=
  go_set i hN g (fun w H1 s n => by
    obtain rfl : w = v := n
    exact h.mono s) hi hx hs hw h1 hf
theorem go_setO {o : HO} (i : Nat) (hN : X.N.Nodup) (g : Gv (cE X e) σ H (.ob o)) (h : ∀ q H1, H q = none → Same H H1 → H1 q = some o → Go D (cSs X rest) (σ.set i (some (.ref q))) H1) (hi : X.N[i]? = some x := by rfl) (hx : Loc X.env.scope x := by first | exact Or.inl rfl | exact Or.inr rfl)
    (hs : swapsWithSole [.Name x xp] e pos.line X.env = pure false := by rfl) (hw : swappedStores [.Name x xp] e X.env = pure none := by rfl) (h1 : (assignEach [.Name x xp] X.env).map (·.2) = [assign (.Name x xp) X.env] := by rfl)
    (hf : X.fn x = true ∨ X.env.scope.names.lookup x = some .local := by first | exact .inl rfl | exact .inr rfl) : Go D (cSs X (.Assign [.Name x xp] e pos :: rest)) σ H :=
  go_set i hN g (fun w H1 s ⟨q, ew, f, hq⟩ => by subst ew; exact h q H1 f s hq) hi hx hs hw h1 hf
/-- x = [..] on one line -/
theorem go_lc {elt tg iter : Expr} {ifs : List Expr} {scope : Scope} {own : List (Str × Nat)} {wi : TI} {g : TG} {tt : TT} {o : HO} (i : Nat) (hcm : X.calm = true) (hN : X.N.Nodup) (hi : PI X tg iter wi) (ok : BlkOk X.N X.env.scope scope own)
    (hg : ∀ (s : Shared) (H : Hp) (C : Addr) (cl : List (Str × Addr)) (fp : List Addr), PG (X.blk s H scope (compEnvC scope cl C X.env) fp) tg g)
    (ht : ∀ (s : Shared) (H : Hp) (C : Addr) (cl : List (Str × Addr)) (fp : List Addr), PTs (X.blk s H scope (compEnvC scope cl C X.env) fp) ifs tt)
    (h : Gv (tLc wi g tt (cF X scope elt) (own.map (·.2))) σ H (.ob o)) (hr : ∀ q H1, H q = none → Same H H1 → H1 q = some o → Go D (cSs X rest) (σ.set i (some (.ref q))) H1)
    (hy : X.N[i]? = some y := by rfl) (hyl : X.env.scope.names.lookup y = some .local := by rfl) (hsw : swapsWith (.ListComp elt [⟨tg, iter, ifs, 0⟩] scope p) (some (.Name y xp)) pos.line X.env = pure true := by exact sw_true rfl rfl rfl (by decide +kernel))
    (hs : ∀ x, foldedSetIterable iter X.env x = pure x := by intro _; rfl) : Go D (cSs X (.Assign [.Name y xp] (.ListComp elt [⟨tg, iter, ifs, 0⟩] scope p) pos :: rest)) σ H := fun H1 s =>
  cSs_of (pss_cons (ps_setLc hcm hN hy hyl hsw hi ok hg ht pe_cF hs) pss_) (h H1 s (fun x H2 => gName i x σ H2 (cSs X rest D)) fun w H2 s2 ⟨q, ew, fq, hq⟩ => by
    subst ew
    exact hr q H2 (s.free fq) (s.trans s2) hq H2 (Same.refl _))
/-- if c: a block; the rest -/
theorem go_if {d : Bool} (g : Gt (cT X c) σ H d) (hA : d = true → ∀ nx, Go { D with nx := nx } (cSs X A) σ H) (hB : d = false → Go D (cSs X rest) σ H) : Go D (cSs X (.If c A [] pos :: rest)) σ H := fun H1 s =>
  cSs_of (pss_cons (ps_if pt_ pss_ pss_nil) pss_) (g H1 s _ fun H2 s2 => by
    cases d with
    | true => exact iteT (hA rfl _ H2 (s.trans s2))
    | false => exact iteF (hB rfl H2 (s.trans s2)))
theorem cSs_mono {D1 D2 : Ends} (h : cSs X body D1 σ H) (nx : ∀ σ' H', D1.nx σ' H' → D2.nx σ' H') (rt : ∀ v H', D1.rt v H' → D2.rt v H') (bk : ∀ σ' H', D1.bk σ' H' → D2.bk σ' H') (ct : ∀ σ' H', D1.ct σ' H' → D2.ct σ' H') : cSs X body D2 σ H := fun pins s I =>
  thn (h pins s I) fun f s1 q => by
    cases f with
    | next =>
      obtain ⟨σ', H', I', q⟩ := q
      exact ⟨σ', H', I', nx _ _ q⟩
    | ret v =>
      obtain ⟨u, σ', H', I', r, q⟩ := q
      exact ⟨u, σ', H', I', r, rt _ _ q⟩
    | brk =>
      obtain ⟨σ', H', I', q⟩ := q
      exact ⟨σ', H', I', bk _ _ q⟩
    | cont =>
      obtain ⟨σ', H', I', q⟩ := q
      exact ⟨σ', H', I', ct _ _ q⟩
theorem cS_mono {D1 D2 : Ends} (h : cS X st D1 σ H) (nx : ∀ σ' H', D1.nx σ' H' → D2.nx σ' H') (rt : ∀ v H', D1.rt v H' → D2.rt v H') (bk : ∀ σ' H', D1.bk σ' H' → D2.bk σ' H') (ct : ∀ σ' H', D1.ct σ' H' → D2.ct σ' H') : cS X st D2 σ H := fun pins s I =>
  thn (h pins s I) fun f s1 q => by
    cases f with
    | next =>
      obtain ⟨σ', H', I', q⟩ := q
      exact ⟨σ', H', I', nx _ _ q⟩
    | ret v =>
      obtain ⟨u, σ', H', I', r, q⟩ := q
      exact ⟨u, σ', H', I', r, rt _ _ q⟩
    | brk =>
      obtain ⟨σ', H', I', q⟩ := q
      exact ⟨σ', H', I', bk _ _ q⟩
    | cont =>
      obtain ⟨σ', H', I', q⟩ := q
      exact ⟨σ', H', I', ct _ _ q⟩
theorem thru_mono {W : L2.St → Hp → Prop} {D1 D2 : Ends} (h : cSs X body (thru D1 W) σ H) (rt : D1.rt = D2.rt) (nx : ∀ σ' Hb, W σ' Hb → ∀ H', Same Hb H' → D2.nx σ' H') : cSs X body D2 σ H :=
  cSs_mono h (fun σ' H' ⟨Hb, w, s⟩ => nx σ' Hb w H' s) (fun v H' z => rt ▸ z) (fun _ _ z => z.elim) (fun _ _ z => z.elim)
theorem go_ifN {d : Bool} (W : L2.St → Hp → Prop) (g : Gt (cT X c) σ H d) (hA : d = true → Go (thru D W) (cSs X A) σ H) (hB : d = false → W σ H) (hr : ∀ σ' H', W σ' H' → Go D (cSs X rest) σ' H') : Go D (cSs X (.If c A [] pos :: rest)) σ H := fun H1 s =>
  cSs_of (pss_cons (ps_if pt_ pss_ pss_nil) pss_) (g H1 s _ fun H2 s2 => by
    cases d with
    | true => exact iteT (thru_mono (hA rfl H2 (s.trans s2)) rfl fun σ' Hb w H' sb => hr σ' Hb w H' sb)
    | false => exact iteF (hr σ H (hB rfl) H2 (s.trans s2)))
/-- for over a walk -/
theorem go_forW {tg iter : Expr} {wi : TI} {g : TG} {n : Nat} (hcm : X.calm = true) (hi : PI X tg iter wi) (hg : PG X tg g)
    (hw : ∀ H1, Same H H1 → ∀ R : It → Hp → Prop, (∀ J H2 (G : Hp → Prop) (Y : Nat → Hp → V → Hp → Prop) (W : Nat → L2.St → Hp → Prop), Walk J n G Y → (∃ Hb, W 0 σ Hb ∧ Same Hb H2) →
      (∀ i σ' H', i ≤ n → W i σ' H' → ∀ H3, Same H' H3 → G H3) →
      (∀ i x σ' H' H3 H4, i < n → W i σ' H' → Same H' H3 → Y i H3 x H4 → ∃ σ2, Same H3 H4 ∧ (∀ Qg : L2.St → Hp → Prop, Qg σ2 H4 → g x σ' H4 Qg) ∧ Go (thru D (W (i + 1))) (cSs X body) σ2 H') →
      (∀ σ' H', W n σ' H' → Go D (cSs X rest) σ' H') → R J H2) → wi σ H1 R)
    (hp : PassesOwn (model X.prog X.w) X.A X.env X.xe) (hfs : ∀ x, foldedSetIterable iter X.env x = pure x := by intro _; rfl) : Go D (cSs X (.For tg iter body [] pos :: rest)) σ H := fun H1 s =>
  cSs_of (pss_cons (ps_for hp hcm hi hg pss_ hfs) pss_) (hw H1 s _ fun J H2 G Y W w h0 hG hs hd =>
    for_it w (fun i σ' H' => ∃ Hb, W i σ' Hb ∧ Same Hb H') h0 (fun i σ' H' hin ⟨Hb, pv, sb⟩ => hG i σ' Hb hin pv H' sb) (fun i x σ' Ha Hb hin ⟨Hc, pv, sc⟩ y => by
      obtain ⟨σ2, s3, hgo, hb⟩ := hs i x σ' Hc Ha Hb hin pv sc y
      exact hgo _ (thru_mono (hb Hb (sc.trans s3)) rfl fun σ3 Hd wd H' sd => ⟨Hd, wd, sd⟩)) (fun σ' H' ⟨Hb, pv, sb⟩ => hd σ' Hb pv H' sb))
/-- for x in range(n) -/
theorem go_forR {n : Int} {xp2 p2 : Pos} (i0 : Nat) (hcm : X.calm = true) (hN : X.N.Nodup) (hmr : X.mg "range" = none) (hn : Gv (cE X e) σ H (.is (.int n))) (h0 : 0 ≤ n ∧ n ≤ 100000) (W : Nat → L2.St → Hp → Prop) (hW : W 0 σ H)
    (hs : ∀ (i : Nat) σ' H', (i : Int) < n → W i σ' H' → Go (thru D (W (i + 1))) (cSs X body) (σ'.set i0 (some (.int i))) H') (hd : ∀ σ' H', W n.toNat σ' H' → Go D (cSs X rest) σ' H') (hp : PassesOwn (model X.prog X.w) X.A X.env X.xe)
    (hi : X.N[i0]? = some x := by rfl) (hx : Loc X.env.scope x := by first | exact Or.inl rfl | exact Or.inr rfl) (hf : X.fn x = true ∨ X.env.scope.names.lookup x = some .local := by first | exact .inl rfl | exact .inr rfl) (hgr : Gl X "range" := by rfl)
    (hst : starEach [e] X.env = (false, eval e X.env) :: starEach [] X.env := by rfl) (hst2 : starEach [e] X.env = [(false, eval e X.env)] := by rfl) (hfs : ∀ z, foldedSetIterable (.Call (.Name "range" p2) [e] [] xp2) X.env z = pure z := by intro _; rfl) :
    Go D (cSs X (.For (.Name x xp) (.Call (.Name "range" p2) [e] [] xp2) body [] pos :: rest)) σ H :=
  go_forW hcm (pi_range1 hgr hmr pa_ hst2) (pg_name (i := i0) hN hi hx hf) (fun H1 s R q => cA_of (pa_cons pe_ pa_nil hst) (hn H1 s _ fun z H2 s2 ez => ⟨n, by rw [show z = .int n from ez], by omega, by omega,
    q (Itr 0 n.toNat) H2 _ _ W (walk_range (lo := 0) (n := n.toNat)) ⟨H, hW, s.trans s2⟩ (fun _ _ _ _ _ _ _ => trivial) (fun i z σ' H' H3 H4 hin w sb y => by
      obtain ⟨rfl, rfl⟩ := y
      have e0 : (0 : Int) + (i : Int) = (i : Int) := Int.zero_add _
      refine ⟨σ'.set i0 (some (.int (0 + (i : Int)))), Same.refl _, fun Qg q => q, ?_⟩
      rw [e0]
      exact hs i σ' H' (by omega) w) hd⟩)) hp hfs
/-- what a loop over xs, standing at a, is shown by -/
def Lp (D : Ends) (body rest : TS) (xs : List V) (σ : L2.St) (H1 : Hp) (keep : Hp → Prop) (sl : L2.St → Nat → V → L2.St) : Prop := ∃ W : Nat → L2.St → Hp → Prop, W 0 σ H1 ∧ (∀ i σ' H', i ≤ xs.length → W i σ' H' → keep H') ∧
  (∀ i v σ' H', xs[i]? = some v → W i σ' H' → Go (thru D (W (i + 1))) body (sl σ' i v) H') ∧ ∀ σ' H', W xs.length σ' H' → Go D rest σ' H'
/-- for x in e -/
theorem go_forL {xs : List V} (i0 : Nat) (hcm : X.calm = true) (hN : X.N.Nodup) (hl : Gv (cE X e) σ H k) (hk : HasL X.K H k xs) (h : ∀ a H1, Same H H1 → k.new H (.ref a) H1 → SqL X.K H1 a xs → Lp D (cSs X body) (cSs X rest) xs σ H1 (fun H' => SqL X.K H' a xs) fun σ' _ v => σ'.set i0 (some v))
    (hp : PassesOwn (model X.prog X.w) X.A X.env X.xe) (hi : X.N[i0]? = some x := by rfl) (hx : Loc X.env.scope x := by first | exact Or.inl rfl | exact Or.inr rfl) (hf : X.fn x = true ∨ X.env.scope.names.lookup x = some .local := by first | exact .inl rfl | exact .inr rfl)
    (hfs : ∀ z, foldedSetIterable e X.env z = pure z := by intro _; rfl) : Go D (cSs X (.For (.Name x xp) e body [] pos :: rest)) σ H :=
  go_forW hcm (pi_list pe_) (pg_name (i := i0) hN hi hx hf) (fun H1 s R q => hl H1 s _ fun z H2 s2 n => by
    obtain ⟨a, rfl, ha⟩ := hk.get (H1 := H1) (s.trans s2) (Kd.new_at n)
    obtain ⟨W, w0, wk, wb, wd⟩ := h a H2 (s.trans s2) (Kd.new_back n s (Same.refl _)) ha
    exact ⟨a, rfl, ⟨xs, ha⟩, q (Itl X.K a) H2 _ _ W (walk_list (xs := xs)) ⟨H2, w0, Same.refl _⟩ (fun i σ' H' hin w H3 s3 => same_l s3 (wk i σ' H' hin w)) (fun i z σ' H' H3 H4 hin w sb y => by
      obtain ⟨rfl, hxi⟩ := y
      exact ⟨_, Same.refl _, fun Qg q => q, wb i z σ' H' hxi w⟩) wd⟩) hp hfs
/-- for x in e, e a tuple -/
theorem go_forT {xs : List V} (i0 : Nat) (hcm : X.calm = true) (hN : X.N.Nodup) (hl : Gv (cE X e) σ H k) (hk : HasT X.K H k xs) (h : ∀ a H1, Same H H1 → k.new H (.ref a) H1 → SqT X.K H1 a xs → Lp D (cSs X body) (cSs X rest) xs σ H1 (fun H' => SqT X.K H' a xs) fun σ' _ v => σ'.set i0 (some v))
    (hp : PassesOwn (model X.prog X.w) X.A X.env X.xe) (hi : X.N[i0]? = some x := by rfl) (hx : Loc X.env.scope x := by first | exact Or.inl rfl | exact Or.inr rfl) (hf : X.fn x = true ∨ X.env.scope.names.lookup x = some .local := by first | exact .inl rfl | exact .inr rfl)
    (hfs : ∀ z, foldedSetIterable e X.env z = pure z := by intro _; rfl) : Go D (cSs X (.For (.Name x xp) e body [] pos :: rest)) σ H :=
  go_forW hcm (pi_tup pe_) (pg_name (i := i0) hN hi hx hf) (fun H1 s R q => hl H1 s _ fun z H2 s2 n => by
    obtain ⟨a, rfl, ha⟩ := hk.get (H1 := H1) (s.trans s2) (Kd.new_at n)
    obtain ⟨W, w0, wk, wb, wd⟩ := h a H2 (s.trans s2) (Kd.new_back n s (Same.refl _)) ha
    exact ⟨a, rfl, ⟨xs, ha⟩, q (Itt X.K a) H2 _ _ W (walk_tup (xs := xs)) ⟨H2, w0, Same.refl _⟩ (fun i σ' H' hin w H3 s3 => same_t s3 (wk i σ' H' hin w)) (fun i z σ' H' H3 H4 hin w sb y => by
      obtain ⟨rfl, hxi⟩ := y
      exact ⟨_, Same.refl _, fun Qg q => q, wb i z σ' H' hxi w⟩) wd⟩) hp hfs
/-- for i, x in enumerate(e) -/
theorem go_forEL {xs : List V} {xp2 p2 tp px py : Pos} {kt : Nat} (i0 j0 : Nat) (hcm : X.calm = true) (hN : X.N.Nodup) (hme : X.mg "enumerate" = none) (hl : Gv (cE X e) σ H k) (hk : HasL X.K H k xs)
    (h : ∀ a H1, Same H H1 → k.new H (.ref a) H1 → SqL X.K H1 a xs → Lp D (cSs X body) (cSs X rest) xs σ H1 (fun H' => SqL X.K H' a xs) fun σ' i v => (σ'.set i0 (some (.int (i : Nat)))).set j0 (some v))
    (hp : PassesOwn (model X.prog X.w) X.A X.env X.xe) (hgt : PG X (.Tuple [.Name x px, .Name y py] kt tp) (g2 X.K i0 j0)) (hgr : Gl X "enumerate" := by rfl)
    (hst : starEach [e] X.env = (false, eval e X.env) :: starEach [] X.env := by rfl) (hst2 : starEach [e] X.env = [(false, eval e X.env)] := by rfl) (hfs : ∀ z, foldedSetIterable (.Call (.Name "enumerate" p2) [e] [] xp2) X.env z = pure z := by intro _; rfl) :
    Go D (cSs X (.For (.Tuple [.Name x px, .Name y py] kt tp) (.Call (.Name "enumerate" p2) [e] [] xp2) body [] pos :: rest)) σ H :=
  go_forW hcm (pi_enum hgr hme pa_ hst2) hgt (fun H1 s R q => cA_of (pa_cons pe_ pa_nil hst) (hl H1 s _ fun z H2 s2 n => by
    obtain ⟨a, rfl, ha⟩ := hk.get (H1 := H1) (s.trans s2) (Kd.new_at n)
    obtain ⟨W, w0, wk, wb, wd⟩ := h a H2 (s.trans s2) (Kd.new_back n s (Same.refl _)) ha
    exact ⟨a, xs, rfl, ha, q (Ite X.K a) H2 _ _ W (walk_enum (xs := xs)) ⟨H2, w0, Same.refl _⟩ (fun i σ' H' hin w H3 s3 => same_l s3 (wk i σ' H' hin w)) (fun i z σ' H' H3 H4 hin w sb y => by
      obtain ⟨T, u, v, rfl, hT, rfl, hu, hxi⟩ := y
      obtain rfl : V.int (i : Nat) = u := Option.some.inj hu
      exact ⟨_, same_new hT, fun Qg q => g2_go upd_same q, wb i v σ' H' hxi w⟩) wd⟩)) hp hfs
theorem go_forET {xs : List V} {xp2 p2 tp px py : Pos} {kt : Nat} (i0 j0 : Nat) (hcm : X.calm = true) (hN : X.N.Nodup) (hme : X.mg "enumerate" = none) (hl : Gv (cE X e) σ H k) (hk : HasT X.K H k xs)
    (h : ∀ a H1, Same H H1 → k.new H (.ref a) H1 → SqT X.K H1 a xs → Lp D (cSs X body) (cSs X rest) xs σ H1 (fun H' => SqT X.K H' a xs) fun σ' i v => (σ'.set i0 (some (.int (i : Nat)))).set j0 (some v))
    (hp : PassesOwn (model X.prog X.w) X.A X.env X.xe) (hgt : PG X (.Tuple [.Name x px, .Name y py] kt tp) (g2 X.K i0 j0)) (hgr : Gl X "enumerate" := by rfl)
    (hst : starEach [e] X.env = (false, eval e X.env) :: starEach [] X.env := by rfl) (hst2 : starEach [e] X.env = [(false, eval e X.env)] := by rfl) (hfs : ∀ z, foldedSetIterable (.Call (.Name "enumerate" p2) [e] [] xp2) X.env z = pure z := by intro _; rfl) :
    Go D (cSs X (.For (.Tuple [.Name x px, .Name y py] kt tp) (.Call (.Name "enumerate" p2) [e] [] xp2) body [] pos :: rest)) σ H :=
  go_forW hcm (pi_enumT hgr hme pa_ hst2) hgt (fun H1 s R q => cA_of (pa_cons pe_ pa_nil hst) (hl H1 s _ fun z H2 s2 n => by
    obtain ⟨a, rfl, ha⟩ := hk.get (H1 := H1) (s.trans s2) (Kd.new_at n)
    obtain ⟨W, w0, wk, wb, wd⟩ := h a H2 (s.trans s2) (Kd.new_back n s (Same.refl _)) ha
    exact ⟨a, xs, rfl, ha, q (Itu X.K a) H2 _ _ W (walk_enumT (xs := xs)) ⟨H2, w0, Same.refl _⟩ (fun i σ' H' hin w H3 s3 => same_t s3 (wk i σ' H' hin w)) (fun i z σ' H' H3 H4 hin w sb y => by
      obtain ⟨T, u, v, rfl, hT, rfl, hu, hxi⟩ := y
      obtain rfl : V.int (i : Nat) = u := Option.some.inj hu
      exact ⟨_, same_new hT, fun Qg q => g2_go upd_same q, wb i v σ' H' hxi w⟩) wd⟩)) hp hfs
/-- .. a list or a tuple that stood at H0 -/
theorem go_forES {xs : List V} {q : Addr} {H0 : Hp} {xp2 p2 tp px py : Pos} {kt : Nat} (i0 j0 : Nat) (hcm : X.calm = true) (hN : X.N.Nodup) (hme : X.mg "enumerate" = none) (s0 : Same H0 H) (hq : Seq X.K H0 q xs) (hl : Gv (cE X e) σ H (.is (.ref q)))
    (W : Nat → L2.St → Hp → Prop) (hW : W 0 σ H) (hk : ∀ i σ' H', W i σ' H' → Same H0 H') (hb : ∀ i v σ' H', xs[i]? = some v → W i σ' H' → Go (thru D (W (i + 1))) (cSs X body) ((σ'.set i0 (some (.int (i : Nat)))).set j0 (some v)) H') (hd : ∀ σ' H', W xs.length σ' H' → Go D (cSs X rest) σ' H')
    (hp : PassesOwn (model X.prog X.w) X.A X.env X.xe) (hgt : PG X (.Tuple [.Name x px, .Name y py] kt tp) (g2 X.K i0 j0)) (hgr : Gl X "enumerate" := by rfl)
    (hst : starEach [e] X.env = (false, eval e X.env) :: starEach [] X.env := by rfl) (hst2 : starEach [e] X.env = [(false, eval e X.env)] := by rfl) (hfs : ∀ z, foldedSetIterable (.Call (.Name "enumerate" p2) [e] [] xp2) X.env z = pure z := by intro _; rfl) :
    Go D (cSs X (.For (.Tuple [.Name x px, .Name y py] kt tp) (.Call (.Name "enumerate" p2) [e] [] xp2) body [] pos :: rest)) σ H := by
  have w1 : ∀ H1, Same H H1 → (fun i σ' H' => W i σ' H' ∨ (i = 0 ∧ σ' = σ ∧ Same H H')) 0 σ H1 := fun H1 s => .inr ⟨rfl, rfl, s⟩
  have hb' : ∀ i v σ' H', xs[i]? = some v → (W i σ' H' ∨ (i = 0 ∧ σ' = σ ∧ Same H H')) → Go (thru D fun σ' H' => W (i + 1) σ' H' ∨ (i + 1 = 0 ∧ σ' = σ ∧ Same H H')) (cSs X body) ((σ'.set i0 (some (.int (i : Nat)))).set j0 (some v)) H' := by
    intro i v σ' H' hv w
    have h1 : Go (thru D (W (i + 1))) (cSs X body) ((σ'.set i0 (some (.int (i : Nat)))).set j0 (some v)) H' := by
      rcases w with w | ⟨rfl, rfl, s⟩
      · exact hb i v σ' H' hv w
      · exact (hb 0 v σ' H hv hW).mono s
    exact fun H1 s => thru_mono (h1 H1 s) rfl fun σ2 Hb w2 H2 s2 => ⟨Hb, .inl w2, s2⟩
  have hd' : ∀ σ' H', (W xs.length σ' H' ∨ (xs.length = 0 ∧ σ' = σ ∧ Same H H')) → Go D (cSs X rest) σ' H' := by
    intro σ' H' w
    rcases w with w | ⟨h0, rfl, s⟩
    · exact hd σ' H' w
    · exact (hd σ' H (h0 ▸ hW)).mono s
  have sk : ∀ i σ' H', (W i σ' H' ∨ (i = 0 ∧ σ' = σ ∧ Same H H')) → Same H0 H' := by
    rintro i σ' H' (w | ⟨_, _, s⟩)
    · exact hk i σ' H' w
    · exact s0.trans s
  rcases hq with hq | hq
  · exact go_forEL i0 j0 hcm hN hme hl (.old (same_l s0 hq)) (fun a H1 s n ha => ⟨_, w1 H1 s, fun i σ' H' _ w => by
      have e : a = q := by have : V.ref a = V.ref q := n; injection this
      rw [e]; exact same_l (sk i σ' H' w) hq, hb', hd'⟩) hp hgt hgr hst hst2 hfs
  · exact go_forET i0 j0 hcm hN hme hl (.old (same_t s0 hq)) (fun a H1 s n ha => ⟨_, w1 H1 s, fun i σ' H' _ w => by
      have e : a = q := by have : V.ref a = V.ref q := n; injection this
      rw [e]; exact same_t (sk i σ' H' w) hq, hb', hd'⟩) hp hgt hgr hst hst2 hfs
/-- while -/
theorem go_while (hp : PassesOwn (model X.prog X.w) X.A X.env X.xe) (W : Nat → L2.St → Hp → Prop) (m0 : Nat) (h0 : W m0 σ H)
    (hs : ∀ m σ' H', W m σ' H' → ∃ d, Gt (cT X c) σ' H' d ∧ (d = true → Go (thru D fun σ2 H2 => ∃ m', m' < m ∧ W m' σ2 H2) (cSs X body) σ' H') ∧ (d = false → Go D (cSs X rest) σ' H')) : Go D (cSs X (.While c body [] pos :: rest)) σ H := fun H1 s =>
  cSs_of (pss_cons (ps_while hp pt_ pss_) pss_) ⟨fun m σ' H' => ∃ Hb, W m σ' Hb ∧ Same Hb H', ⟨m0, H, h0, s⟩, fun m σ' H' ⟨Hb, wm, sb⟩ => by
    obtain ⟨d, gt, hA, hB⟩ := hs m σ' Hb wm
    refine gt H' sb _ fun H2 s2 => ?_
    cases d with
    | true =>
      exact iteT ⟨fun σ2 H3 => ∃ m', m' < m ∧ ∃ Hc, W m' σ2 Hc ∧ Same Hc H3, fun σ2 H3 ⟨m', l, w'⟩ => ⟨m', l, w'⟩, thru_mono (hA rfl H2 (sb.trans s2)) rfl fun σ2 Hc ⟨m', l, w'⟩ H3 s3 => ⟨m', l, Hc, w', s3⟩⟩
    | false => exact iteF (hB rfl H2 (sb.trans s2))⟩
/-! ### one object is changed -/
/-- r.append(e) -/
theorem go_app {q : Addr} {xs : List V} (hr : Gv (cE X r) σ H (.is (.ref q))) (hq : H q = some (.lst xs)) (hl : xs.length ≤ 10000000) (g : Gv (cE X e) σ H k) (h : ∀ w H1, Same H H1 → k.new H w H1 → Go D (cSs X rest) σ (upd H1 q (.lst (xs ++ [w]))))
    (hbase : attributeBase r "append" X.env (eval r X.env) = eval r X.env := by rfl)
    (hfew : ((backTo cp (starEach [e] X.env)).all (fun x => !x.1) && (backToKw cp (keywordEach [] X.env)).all (fun x => x.1.isSome)
      && decide ([e].length + ([] : List Keyword).length + (if ([] : List Keyword).isEmpty then 0 else 1) < 30)) = true := by rfl)
    (hline : (ap.endLine == cp.line) = true := by rfl) (hs : starEach [e] X.env = (false, eval e X.env) :: starEach [] X.env := by rfl) (hpl : (backTo cp (starEach [] X.env)).any (·.1) = false := by rfl) (hsw : swapsWith (.Call (.Attribute r "append" ap) [e] [] cp) none pos.line X.env = pure false := by rfl) :
    Go D (cSs X (.Expr (.Call (.Attribute r "append" ap) [e] [] cp) pos :: rest)) σ H := fun H1 s =>
  cSs_of (pss_cons (ps_expr (pe_bm PySem.F.plainAttrs_list PySem.F.slot_list_append PySem.F.type_list_append mt_append pe_ (pa_cons pe_ pa_nil hs) hbase hfew hline hs hpl) hsw) pss_) (hr H1 s _ fun z H2 s2 ez => by
    obtain rfl : z = .ref q := ez
    have h2 := s2 _ _ (s _ _ hq)
    exact ⟨.inl ⟨rfl, _, SqL.of h2⟩, g H2 (s.trans s2) _ fun w H3 s3 n => ⟨q, xs, w, rfl, rfl, s3 _ _ h2, Nat.lt_of_le_of_lt hl (by decide), h w H3 ((s.trans s2).trans s3) (Kd.new_back n (s.trans s2) (Same.refl _)) _ (Same.refl _)⟩⟩)
/-- r.extend(e) -/
theorem go_ext {q : Addr} {xs : List V} (hr : Gv (cE X r) σ H (.is (.ref q))) (hq : H q = some (.lst xs)) (g : Gv (cE X e) σ H k) (h : ∀ w H1, Same H H1 → k.new H w H1 → ∃ b ys, w = .ref b ∧ H1 b = some (.lst ys) ∧ xs.length + ys.length ≤ 10000000 ∧ Go D (cSs X rest) σ (upd H1 q (.lst (xs ++ ys))))
    (hbase : attributeBase r "extend" X.env (eval r X.env) = eval r X.env := by rfl)
    (hfew : ((backTo cp (starEach [e] X.env)).all (fun x => !x.1) && (backToKw cp (keywordEach [] X.env)).all (fun x => x.1.isSome)
      && decide ([e].length + ([] : List Keyword).length + (if ([] : List Keyword).isEmpty then 0 else 1) < 30)) = true := by rfl)
    (hline : (ap.endLine == cp.line) = true := by rfl) (hs : starEach [e] X.env = (false, eval e X.env) :: starEach [] X.env := by rfl) (hpl : (backTo cp (starEach [] X.env)).any (·.1) = false := by rfl) (hsw : swapsWith (.Call (.Attribute r "extend" ap) [e] [] cp) none pos.line X.env = pure false := by rfl) :
    Go D (cSs X (.Expr (.Call (.Attribute r "extend" ap) [e] [] cp) pos :: rest)) σ H := fun H1 s =>
  cSs_of (pss_cons (ps_expr (pe_bm PySem.F.plainAttrs_list PySem.F.slot_list_extend PySem.F.type_list_extend mt_extend pe_ (pa_cons pe_ pa_nil hs) hbase hfew hline hs hpl) hsw) pss_) (hr H1 s _ fun z H2 s2 ez => by
    obtain rfl : z = .ref q := ez
    have h2 := s2 _ _ (s _ _ hq)
    refine ⟨.inl ⟨rfl, _, SqL.of h2⟩, g H2 (s.trans s2) _ fun w H3 s3 n => ?_⟩
    obtain ⟨b, ys, rfl, hb, hl, go⟩ := h w H3 ((s.trans s2).trans s3) (Kd.new_back n (s.trans s2) (Same.refl _))
    exact ⟨q, b, xs, ys, rfl, rfl, s3 _ _ h2, hb, Nat.le_trans hl (by decide), go _ (Same.refl _)⟩)
theorem go_extO {q : Addr} {xs ys : List V} (hr : Gv (cE X r) σ H (.is (.ref q))) (hq : H q = some (.lst xs)) (g : Gv (cE X e) σ H (.ob (.lst ys))) (hl : xs.length + ys.length ≤ 10000000) (h : ∀ H1, Same H H1 → Go D (cSs X rest) σ (upd H1 q (.lst (xs ++ ys))))
    (hbase : attributeBase r "extend" X.env (eval r X.env) = eval r X.env := by rfl)
    (hfew : ((backTo cp (starEach [e] X.env)).all (fun x => !x.1) && (backToKw cp (keywordEach [] X.env)).all (fun x => x.1.isSome)
      && decide ([e].length + ([] : List Keyword).length + (if ([] : List Keyword).isEmpty then 0 else 1) < 30)) = true := by rfl)
    (hline : (ap.endLine == cp.line) = true := by rfl) (hs : starEach [e] X.env = (false, eval e X.env) :: starEach [] X.env := by rfl) (hpl : (backTo cp (starEach [] X.env)).any (·.1) = false := by rfl) (hsw : swapsWith (.Call (.Attribute r "extend" ap) [e] [] cp) none pos.line X.env = pure false := by rfl) :
    Go D (cSs X (.Expr (.Call (.Attribute r "extend" ap) [e] [] cp) pos :: rest)) σ H :=
  go_ext hr hq g (fun w H1 s ⟨b, ew, _, hb⟩ => ⟨b, ys, ew, hb, hl, h H1 s⟩) hbase hfew hline hs hpl hsw
/-- r[ie] = e -/
theorem go_put {q : Addr} {xs : List V} {j : Nat} (hr : Gv (cE X r) σ H (.is (.ref q))) (hq : H q = some (.lst xs)) (hi : Gv (cE X ie) σ H (.is (.int (j : Nat)))) (hj : j < xs.length) (g : Gv (cE X e) σ H (.is v)) (h : Go D (cSs X rest) σ (upd H q (.lst (xs.set j v))))
    (ha : ∀ v, assign (.Subscript r ie sp) X.env v = (do let ov ← holding [v] (eval r X.env); let iv ← holding [v, ov] (eval ie X.env); standAt sp; holding [v, ov, iv] (setItem ov iv v); release [v, ov, iv] []) := by intro _; rfl)
    (hs : swapsWithSole [.Subscript r ie sp] e pos.line X.env = pure false := by rfl) (hw : swappedStores [.Subscript r ie sp] e X.env = pure none := by rfl) (h1 : (assignEach [.Subscript r ie sp] X.env).map (·.2) = [assign (.Subscript r ie sp) X.env] := by rfl) :
    Go D (cSs X (.Assign [.Subscript r ie sp] e pos :: rest)) σ H := fun H1 s =>
  cSs_of (pss_cons (ps_asg pe_ (pg_sub pe_ pe_ set_list ha) hs hw h1) pss_) (g H1 s _ fun w H2 s2 ew => by
    obtain rfl : w = v := ew
    refine hr H2 (s.trans s2) _ fun z H3 s3 ez => hi H3 ((s.trans s2).trans s3) _ fun z2 H4 s4 ez2 => ?_
    obtain rfl : z = .ref q := ez
    obtain rfl : z2 = .int (j : Nat) := ez2
    have s5 := ((s.trans s2).trans s3).trans s4
    refine ⟨q, xs, (j : Nat), j, rfl, rfl, s5 _ _ hq, ?_, h _ (same_both s5)⟩
    unfold ixN
    rw [if_pos (by omega), if_pos (by omega), Int.toNat_natCast])
/-- r.f = e -/
theorem go_fld {d C dx : Addr} {fs : List (Str × V)} {f : Str} (hr : Gv (cE X r) σ H (.is (.ref d))) (hd : H d = some (.ins C dx fs)) (hc : Cls X.K C) (hn : NoAttr X.K C f) (hz : fs.length < 1000) (g : Gv (cE X e) σ H k) (h : ∀ w H1, Same H H1 → k.new H w H1 → Go D (cSs X rest) σ (upd H1 d (.ins C dx (putF f w fs))))
    (hs : swapsWith e (some (.Attribute r f sp)) pos.line X.env = pure false := by rfl) : Go D (cSs X (.Assign [.Attribute r f sp] e pos :: rest)) σ H := fun H1 s =>
  cSs_of (pss_cons (ps_fld pe_ pe_ hs) pss_) (g H1 s _ fun w H2 s2 n => hr H2 (s.trans s2) _ fun z H3 s3 ez => by
    obtain rfl : z = .ref d := ez
    exact ⟨d, C, dx, fs, rfl, s3 _ _ (s2 _ _ (s _ _ hd)), hc, hn, hz, h w H3 ((s.trans s2).trans s3) (Kd.new_back n s s3) _ (Same.refl _)⟩)
/-- x, y = e -/
theorem go_asg {tg : Expr} {g : TG} {kk : Kd} (hg : PG X tg g) (he : Gv (cE X e) σ H kk) (h : ∀ w H2, Same H H2 → kk.new H w H2 → ∃ σ', (∀ Qg : L2.St → Hp → Prop, Qg σ' H2 → g w σ H2 Qg) ∧ Go D (cSs X rest) σ' H2)
    (hs : swapsWithSole [tg] e pos.line X.env = pure false := by rfl) (hw : swappedStores [tg] e X.env = pure none := by rfl) (h1 : (assignEach [tg] X.env).map (·.2) = [assign tg X.env] := by rfl) : Go D (cSs X (.Assign [tg] e pos :: rest)) σ H := fun H1 s =>
  cSs_of (pss_cons (ps_asg pe_ hg hs hw h1) pss_) (he H1 s _ fun w H2 s2 n => by
    obtain ⟨σ', hq, hr⟩ := h w H2 (s.trans s2) (Kd.new_back n s (Same.refl _))
    exact hq _ (hr H2 (Same.refl _)))
theorem ret_back {Dn : Ends} (h : ∀ v H2, Same H H2 → k.new H v H2 → Dn.rt v H2) (s : Same H H') : ∀ v H2, Same H' H2 → k.new H' v H2 → Dn.rt v H2 := fun v H2 s2 n => h v H2 (s.trans s2) (Kd.new_back n s (Same.refl _))
theorem sqL_upd {K : PySem.W.Frag} {xs : List V} {p q : Addr} {o : HO} (h : SqL K H p xs) (n : p ≠ q) : SqL K (upd H q o) p xs := by
  rcases h with (h | ⟨u, h⟩) | h
  · exact .inl (.inl (by rw [upd_ne n]; exact h))
  · exact .inl (.inr ⟨u, by rw [upd_ne n]; exact h⟩)
  · exact .inr h
theorem sqT_upd {K : PySem.W.Frag} {xs : List V} {p q : Addr} {o : HO} (h : SqT K H p xs) (n : p ≠ q) : SqT K (upd H q o) p xs := by
  rcases h with (h | ⟨u, h⟩) | h
  · exact .inl (.inl (by rw [upd_ne n]; exact h))
  · exact .inl (.inr ⟨u, by rw [upd_ne n]; exact h⟩)
  · exact .inr h
end
end Kx
set_option Elab.async false
set_option linter.all false
set_option maxRecDepth 100000
set_option maxHeartbeats 2000000
namespace Kx
open PySem PySem.Spec PyProof.Rows L2
open Evl (given given_yes given_no given_len)
section
variable {X : Cx} {σ : L2.St} {H H' : Hp} {k k' : Kd} {t ta tb : TE} {e a b c r ie : Expr} {es : List Expr} {pos p xp ap cp sp : Pos} {x y : Str} {v : V} {rest body A B : List Stmt} {st : Stmt} {D : Ends} {N : L2.St → Prop}
/-! ### x = [..] on one line -/
structure LcR (X : Cx) (elt tg iter : Expr) (ifs : List Expr) (scope : Scope) (σ : L2.St) (H : Hp) (k : Kd) : Prop where
  ex : ∃ (own : List (Str × Nat)) (wi : TI) (g : TG) (tt : TT), PI X tg iter wi ∧ BlkOk X.N X.env.scope scope own ∧
    (∀ (s : Shared) (H : Hp) (C : Addr) (cl : List (Str × Addr)) (fp : List Addr), PG (X.blk s H scope (compEnvC scope cl C X.env) fp) tg g) ∧ (∀ (s : Shared) (H : Hp) (C : Addr) (cl : List (Str × Addr)) (fp : List Addr), PTs (X.blk s H scope (compEnvC scope cl C X.env) fp) ifs tt) ∧
    Gv (tLc wi g tt (cF X scope elt) (own.map (·.2))) σ H k
theorem LcR.to {elt tg iter : Expr} {ifs : List Expr} {scope : Scope} (h : LcR X elt tg iter ifs scope σ H k) (e : k = k') : LcR X elt tg iter ifs scope σ H k' := e ▸ h
theorem gb_lcX {elt tg iter : Expr} {ifs : List Expr} {scope : Scope} {o : HO} (i : Nat) (hcm : X.calm = true) (hN : X.N.Nodup) (h : LcR X elt tg iter ifs scope σ H (.ob o)) (hr : ∀ q H1, H q = none → Same H H1 → H1 q = some o → GB (cSs X rest) (σ.set i (some (.ref q))) H1 N k)
    (hy : X.N[i]? = some y := by rfl) (hyl : X.env.scope.names.lookup y = some .local := by rfl) (hsw : swapsWith (.ListComp elt [⟨tg, iter, ifs, 0⟩] scope p) (some (.Name y xp)) pos.line X.env = pure true := by exact sw_true rfl rfl rfl (by decide +kernel))
    (hs : ∀ x, foldedSetIterable iter X.env x = pure x := by intro _; rfl) : GB (cSs X (.Assign [.Name y xp] (.ListComp elt [⟨tg, iter, ifs, 0⟩] scope p) pos :: rest)) σ H N k := by
  obtain ⟨own, wi, g, tt, hi, ok, hg, ht, hh⟩ := h.ex
  exact gb_lc i hcm hN hi ok hg ht hh hr hy hyl hsw hs
theorem go_lcX {elt tg iter : Expr} {ifs : List Expr} {scope : Scope} {o : HO} (i : Nat) (hcm : X.calm = true) (hN : X.N.Nodup) (h : LcR X elt tg iter ifs scope σ H (.ob o)) (hr : ∀ q H1, H q = none → Same H H1 → H1 q = some o → Go D (cSs X rest) (σ.set i (some (.ref q))) H1)
    (hy : X.N[i]? = some y := by rfl) (hyl : X.env.scope.names.lookup y = some .local := by rfl) (hsw : swapsWith (.ListComp elt [⟨tg, iter, ifs, 0⟩] scope p) (some (.Name y xp)) pos.line X.env = pure true := by exact sw_true rfl rfl rfl (by decide +kernel))
    (hs : ∀ x, foldedSetIterable iter X.env x = pure x := by intro _; rfl) : Go D (cSs X (.Assign [.Name y xp] (.ListComp elt [⟨tg, iter, ifs, 0⟩] scope p) pos :: rest)) σ H := by
  obtain ⟨own, wi, g, tt, hi, ok, hg, ht, hh⟩ := h.ex
  exact go_lc i hcm hN hi ok hg ht hh hr hy hyl hsw hs
theorem lc_R {elt : Expr} {ifs : List Expr} {scope : Scope} {own : List (Str × Nat)} {tt : TT} {ep : Pos} {N : Int} (i0 : Nat) (hmr : X.mg "range" = none) (hl : Gv (cE X e) σ H (.is (.int N))) (hz : 0 ≤ N ∧ N ≤ 100000)
    (ok : BlkOk X.N X.env.scope scope own) (hg : ∀ (s : Shared) (H : Hp) (C : Addr) (cl : List (Str × Addr)) (fp : List Addr), PG (X.blk s H scope (compEnvC scope cl C X.env) fp) (.Name x xp) (gName i0))
    (ht : ∀ (s : Shared) (H : Hp) (C : Addr) (cl : List (Str × Addr)) (fp : List Addr), PTs (X.blk s H scope (compEnvC scope cl C X.env) fp) ifs tt) (f : Nat → Bool) (v : Nat → V)
    (hw : ∀ x, wipe ((wipe σ (own.map (·.2))).set i0 (some x)) (own.map (·.2)) = wipe σ (own.map (·.2)))
    (hT : ∀ i : Nat, (i : Int) < N → Gt tt ((wipe σ (own.map (·.2))).set i0 (some (.int i))) H (f i))
    (hE : ∀ i : Nat, (i : Int) < N → f i = true → Gv (cF X scope elt) ((wipe σ (own.map (·.2))).set i0 (some (.int i))) H (.is (v i)))
    (hge : Gl X "range" := by rfl) (hst : starEach [e] X.env = (false, eval e X.env) :: starEach [] X.env := by rfl) (hst2 : starEach [e] X.env = [(false, eval e X.env)] := by rfl) :
    LcR X elt (.Name x xp) (.Call (.Name "range" p) [e] [] ep) ifs scope σ H (.ob (.lst (given N.toNat f v))) :=
  ⟨own, _, _, tt, pi_range1 hge hmr pa_ hst2, ok, hg, ht, glc_rng f v hl hz hw hT hE hst⟩
theorem lc_L {elt : Expr} {ifs : List Expr} {scope : Scope} {own : List (Str × Nat)} {tt : TT} {xs : List V} (i0 : Nat) (hl : Gv (cE X e) σ H k) (hx : HasL X.K H k xs) (hz : xs.length ≤ 100000)
    (ok : BlkOk X.N X.env.scope scope own) (hg : ∀ (s : Shared) (H : Hp) (C : Addr) (cl : List (Str × Addr)) (fp : List Addr), PG (X.blk s H scope (compEnvC scope cl C X.env) fp) (.Name x xp) (gName i0))
    (ht : ∀ (s : Shared) (H : Hp) (C : Addr) (cl : List (Str × Addr)) (fp : List Addr), PTs (X.blk s H scope (compEnvC scope cl C X.env) fp) ifs tt) (f : Nat → Bool) (v : Nat → V)
    (hw : ∀ x, wipe ((wipe σ (own.map (·.2))).set i0 (some x)) (own.map (·.2)) = wipe σ (own.map (·.2)))
    (hT : ∀ (i : Nat) (x : V), xs[i]? = some x → Gt tt ((wipe σ (own.map (·.2))).set i0 (some x)) H (f i))
    (hE : ∀ (i : Nat) (x : V), xs[i]? = some x → f i = true → Gv (cF X scope elt) ((wipe σ (own.map (·.2))).set i0 (some x)) H (.is (v i))) :
    LcR X elt (.Name x xp) e ifs scope σ H (.ob (.lst (given xs.length f v))) :=
  ⟨own, _, _, tt, pi_list pe_, ok, hg, ht, glc_lst f v hl hx hz hw hT hE⟩
theorem lc_T {elt : Expr} {ifs : List Expr} {scope : Scope} {own : List (Str × Nat)} {tt : TT} {xs : List V} (i0 : Nat) (hl : Gv (cE X e) σ H k) (hx : HasT X.K H k xs) (hz : xs.length ≤ 100000)
    (ok : BlkOk X.N X.env.scope scope own) (hg : ∀ (s : Shared) (H : Hp) (C : Addr) (cl : List (Str × Addr)) (fp : List Addr), PG (X.blk s H scope (compEnvC scope cl C X.env) fp) (.Name x xp) (gName i0))
    (ht : ∀ (s : Shared) (H : Hp) (C : Addr) (cl : List (Str × Addr)) (fp : List Addr), PTs (X.blk s H scope (compEnvC scope cl C X.env) fp) ifs tt) (f : Nat → Bool) (v : Nat → V)
    (hw : ∀ x, wipe ((wipe σ (own.map (·.2))).set i0 (some x)) (own.map (·.2)) = wipe σ (own.map (·.2)))
    (hT : ∀ (i : Nat) (x : V), xs[i]? = some x → Gt tt ((wipe σ (own.map (·.2))).set i0 (some x)) H (f i))
    (hE : ∀ (i : Nat) (x : V), xs[i]? = some x → f i = true → Gv (cF X scope elt) ((wipe σ (own.map (·.2))).set i0 (some x)) H (.is (v i))) :
    LcR X elt (.Name x xp) e ifs scope σ H (.ob (.lst (given xs.length f v))) :=
  ⟨own, _, _, tt, pi_tup pe_, ok, hg, ht, glc_tup f v hl hx hz hw hT hE⟩
theorem lc_EL {elt : Expr} {ifs : List Expr} {scope : Scope} {own : List (Str × Nat)} {tt : TT} {px py tp ep : Pos} {kt : Nat} {xs : List V} (i0 j0 : Nat) (hme : X.mg "enumerate" = none) (hl : Gv (cE X e) σ H k) (hx : HasL X.K H k xs) (hz : xs.length ≤ 100000)
    (ok : BlkOk X.N X.env.scope scope own) (hg : ∀ (s : Shared) (H : Hp) (C : Addr) (cl : List (Str × Addr)) (fp : List Addr), PG (X.blk s H scope (compEnvC scope cl C X.env) fp) (.Tuple [.Name x px, .Name y py] kt tp) (g2 X.K i0 j0))
    (ht : ∀ (s : Shared) (H : Hp) (C : Addr) (cl : List (Str × Addr)) (fp : List Addr), PTs (X.blk s H scope (compEnvC scope cl C X.env) fp) ifs tt) (f : Nat → Bool) (v : Nat → V)
    (hw : ∀ u x, wipe (((wipe σ (own.map (·.2))).set i0 (some u)).set j0 (some x)) (own.map (·.2)) = wipe σ (own.map (·.2)))
    (hT : ∀ (i : Nat) (x : V), xs[i]? = some x → Gt tt (((wipe σ (own.map (·.2))).set i0 (some (.int i))).set j0 (some x)) H (f i))
    (hE : ∀ (i : Nat) (x : V), xs[i]? = some x → f i = true → Gv (cF X scope elt) (((wipe σ (own.map (·.2))).set i0 (some (.int i))).set j0 (some x)) H (.is (v i)))
    (hge : Gl X "enumerate" := by rfl) (hst : starEach [e] X.env = (false, eval e X.env) :: starEach [] X.env := by rfl) (hst2 : starEach [e] X.env = [(false, eval e X.env)] := by rfl) :
    LcR X elt (.Tuple [.Name x px, .Name y py] kt tp) (.Call (.Name "enumerate" p) [e] [] ep) ifs scope σ H (.ob (.lst (given xs.length f v))) :=
  ⟨own, _, _, tt, pi_enum hge hme pa_ hst2, ok, hg, ht, glc_enL f v hl hx hz hw hT hE hst⟩
theorem lc_ET {elt : Expr} {ifs : List Expr} {scope : Scope} {own : List (Str × Nat)} {tt : TT} {px py tp ep : Pos} {kt : Nat} {xs : List V} (i0 j0 : Nat) (hme : X.mg "enumerate" = none) (hl : Gv (cE X e) σ H k) (hx : HasT X.K H k xs) (hz : xs.length ≤ 100000)
    (ok : BlkOk X.N X.env.scope scope own) (hg : ∀ (s : Shared) (H : Hp) (C : Addr) (cl : List (Str × Addr)) (fp : List Addr), PG (X.blk s H scope (compEnvC scope cl C X.env) fp) (.Tuple [.Name x px, .Name y py] kt tp) (g2 X.K i0 j0))
    (ht : ∀ (s : Shared) (H : Hp) (C : Addr) (cl : List (Str × Addr)) (fp : List Addr), PTs (X.blk s H scope (compEnvC scope cl C X.env) fp) ifs tt) (f : Nat → Bool) (v : Nat → V)
    (hw : ∀ u x, wipe (((wipe σ (own.map (·.2))).set i0 (some u)).set j0 (some x)) (own.map (·.2)) = wipe σ (own.map (·.2)))
    (hT : ∀ (i : Nat) (x : V), xs[i]? = some x → Gt tt (((wipe σ (own.map (·.2))).set i0 (some (.int i))).set j0 (some x)) H (f i))
    (hE : ∀ (i : Nat) (x : V), xs[i]? = some x → f i = true → Gv (cF X scope elt) (((wipe σ (own.map (·.2))).set i0 (some (.int i))).set j0 (some x)) H (.is (v i)))
    (hge : Gl X "enumerate" := by rfl) (hst : starEach [e] X.env = (false, eval e X.env) :: starEach [] X.env := by rfl) (hst2 : starEach [e] X.env = [(false, eval e X.env)] := by rfl) :
    LcR X elt (.Tuple [.Name x px, .Name y py] kt tp) (.Call (.Name "enumerate" p) [e] [] ep) ifs scope σ H (.ob (.lst (given xs.length f v))) :=
  ⟨own, _, _, tt, pi_enumT hge hme pa_ hst2, ok, hg, ht, glc_enT f v hl hx hz hw hT hE hst⟩
/-! ### r.index(e) -/
theorem first_ix {ns : List Int} {m : Int} (h : m ∈ ns) : ∃ j : Nat, ns[j]? = some m ∧ ∀ (k : Nat) (z : Int), k < j → ns[k]? = some z → z ≠ m := by
  induction ns with
  | nil => cases h
  | cons x ns ih =>
    by_cases e : x = m
    · exact ⟨0, by rw [e]; rfl, fun k z hk => absurd hk (Nat.not_lt_zero k)⟩
    · have h2 : m ∈ ns := by
        rcases List.mem_cons.mp h with z | z
        · exact absurd z.symm e
        · exact z
      obtain ⟨j, h3, h4⟩ := ih h2
      refine ⟨j + 1, h3, fun k z hk hz => ?_⟩
      cases k with
      | zero =>
        have : x = z := by simpa using hz
        rw [← this]; exact e
      | succ k => exact h4 k z (by omega) (by simpa using hz)
theorem gv_index {q : Addr} {ns : List Int} {m : Int} {j : Nat} (hr : Gv (cE X r) σ H (.is (.ref q))) (hq : SqL X.K H q (ns.map .int)) (g : Gv (cE X e) σ H (.is (.int m))) (hj : ns[j]? = some m) (hf : ∀ (k : Nat) (z : Int), k < j → ns[k]? = some z → z ≠ m)
    (hbase : attributeBase r "index" X.env (eval r X.env) = eval r X.env := by rfl)
    (hfew : ((backTo cp (starEach [e] X.env)).all (fun x => !x.1) && (backToKw cp (keywordEach [] X.env)).all (fun x => x.1.isSome)
      && decide ([e].length + ([] : List Keyword).length + (if ([] : List Keyword).isEmpty then 0 else 1) < 30)) = true := by rfl)
    (hline : (ap.endLine == cp.line) = true := by rfl) (hs : starEach [e] X.env = (false, eval e X.env) :: starEach [] X.env := by rfl) (hpl : (backTo cp (starEach [] X.env)).any (·.1) = false := by rfl) :
    Gv (cE X (.Call (.Attribute r "index" ap) [e] [] cp)) σ H (.is (.int (j : Nat))) := fun H1 s Q rq =>
  cE_of (pe_bm PySem.F.plainAttrs_list PySem.F.slot_list_index PySem.F.type_list_index mt_index pe_ (pa_cons pe_ pa_nil hs) hbase hfew hline hs hpl) (hr H1 s _ fun z H2 s2 ez => by
    obtain rfl : z = .ref q := ez
    refine ⟨.inl ⟨rfl, _, same_l (s.trans s2) hq⟩, g H2 (s.trans s2) _ fun w H3 s3 ew => ?_⟩
    obtain rfl : w = .int m := ew
    refine ⟨q, ns.map .int, .int m, j, .int m, rfl, rfl, same_l ((s.trans s2).trans s3) hq, rfl, ?_, ?_, ?_, ?_, rq _ H3 (s2.trans s3) rfl⟩
    · rw [List.all_map]
      exact List.all_eq_true.mpr fun _ _ => rfl
    · rw [List.getElem?_map, hj]; rfl
    · exact beq_self_eq_true m
    · intro k z hk hz
      rw [List.getElem?_map, Option.map_eq_some_iff] at hz
      obtain ⟨y, hy, rfl⟩ := hz
      exact beq_eq_false_iff_ne.mpr (hf k y hk hy))
/-! ### calls that change the heap -/
theorem go_retC {ks : List Kd} {sp : Sp} {m j : Nat} {f : Str} (c : Cal X.prog X.w X.K X.mg X.base m f sp) (hr : Room j X.A) (hk : m ≤ j) (ha : Ga (cA X (e :: es)) σ H ks) (h : ∀ vs H1 (E : XK), Same H H1 → KsAt ks vs H1 → sp vs H1 D.rt E)
    (hg : Gl X f := by rfl) (hdb : (f == ("__debug__" : Str)) = false := by decide) (he : starEach (e :: es) X.env = (false, eval e X.env) :: starEach es X.env := by rfl) (hpl : (backTo cp (starEach es X.env)).any (·.1) = false := by rfl) :
    Go D (cSs X (.Return (some (.Call (.Name f p) (e :: es) [] cp)) pos :: rest)) σ H := fun H1 s => by
  obtain ⟨fa, fd, ps, F, hm, kp, b⟩ := c.ex
  refine cSs_of (pss_cons (ps_ret (pe_call F (hr.mono hk) hg hm kp b .nil pass0 pa_ hdb he hpl)) pss_) (ha H1 s _ fun vs H2 s2 z => ?_)
  show sp (vs ++ []) H2 D.rt E0
  rw [List.append_nil]
  exact h vs H2 E0 (s.trans s2) z
theorem go_expC {ks : List Kd} {sp : Sp} {m j : Nat} {f : Str} (c : Cal X.prog X.w X.K X.mg X.base m f sp) (hr : Room j X.A) (hk : m ≤ j) (ha : Ga (cA X (e :: es)) σ H ks) (h : ∀ vs H1 (E : XK), Same H H1 → KsAt ks vs H1 → sp vs H1 (fun _ H2 => cSs X rest D σ H2) E)
    (hg : Gl X f := by rfl) (hdb : (f == ("__debug__" : Str)) = false := by decide) (he : starEach (e :: es) X.env = (false, eval e X.env) :: starEach es X.env := by rfl) (hpl : (backTo cp (starEach es X.env)).any (·.1) = false := by rfl) (hsw : swapsWith (.Call (.Name f p) (e :: es) [] cp) none pos.line X.env = pure false := by rfl) :
    Go D (cSs X (.Expr (.Call (.Name f p) (e :: es) [] cp) pos :: rest)) σ H := fun H1 s => by
  obtain ⟨fa, fd, ps, F, hm, kp, b⟩ := c.ex
  refine cSs_of (pss_cons (ps_expr (pe_call F (hr.mono hk) hg hm kp b .nil pass0 pa_ hdb he hpl) hsw) pss_) (ha H1 s _ fun vs H2 s2 z => ?_)
  show sp (vs ++ []) H2 _ E0
  rw [List.append_nil]
  exact h vs H2 E0 (s.trans s2) z
theorem go_setC {ks : List Kd} {sp : Sp} {m j : Nat} {f : Str} (i : Nat) (hN : X.N.Nodup) (c : Cal X.prog X.w X.K X.mg X.base m f sp) (hr : Room j X.A) (hk : m ≤ j) (ha : Ga (cA X (e :: es)) σ H ks) (h : ∀ vs H1 (E : XK), Same H H1 → KsAt ks vs H1 → sp vs H1 (fun v H2 => cSs X rest D (σ.set i (some v)) H2) E)
    (hi : X.N[i]? = some x := by rfl) (hx : Loc X.env.scope x := by first | exact Or.inl rfl | exact Or.inr rfl)
    (hs : swapsWithSole [.Name x xp] (.Call (.Name f p) (e :: es) [] cp) pos.line X.env = pure false := by rfl) (hw : swappedStores [.Name x xp] (.Call (.Name f p) (e :: es) [] cp) X.env = pure none := by rfl) (h1 : (assignEach [.Name x xp] X.env).map (·.2) = [assign (.Name x xp) X.env] := by rfl)
    (hf : X.fn x = true ∨ X.env.scope.names.lookup x = some .local := by first | exact .inl rfl | exact .inr rfl)
    (hg : Gl X f := by rfl) (hdb : (f == ("__debug__" : Str)) = false := by decide) (he : starEach (e :: es) X.env = (false, eval e X.env) :: starEach es X.env := by rfl) (hpl : (backTo cp (starEach es X.env)).any (·.1) = false := by rfl) :
    Go D (cSs X (.Assign [.Name x xp] (.Call (.Name f p) (e :: es) [] cp) pos :: rest)) σ H := fun H1 s => by
  obtain ⟨fa, fd, ps, F, hm, kp, b⟩ := c.ex
  refine cSs_of (pss_cons (ps_asg (pe_call F (hr.mono hk) hg hm kp b .nil pass0 pa_ hdb he hpl) (pg_name (i := i) hN hi hx hf) hs hw h1) pss_) (ha H1 s _ fun vs H2 s2 z => ?_)
  show sp (vs ++ []) H2 _ E0
  rw [List.append_nil]
  exact h vs H2 E0 (s.trans s2) z
theorem But.of_same {p : Addr} {H H' H2 : Hp} (s : Same H H') (h : But p H' H2) : But p H H2 := (But.of s).trans h
theorem But.then_ {p : Addr} {H H' H2 : Hp} (h : But p H H') (s : Same H' H2) : But p H H2 := h.trans (But.of s)
theorem But.seqL {K : PySem.W.Frag} {p q c1 : Addr} {c2 : Addr} {o2 : List (Str × V)} {xs : List V} (h : But p H H') (e : H p = some (.ins c1 c2 o2)) (z : SqL K H q xs) : SqL K H' q xs := by
  have ne : ∀ u : HO, H q = some u → (∀ a b c, u ≠ .ins a b c) → q ≠ p := by
    intro u hu hn e2
    rw [e2, e] at hu
    exact hn _ _ _ (Option.some.inj hu).symm
  rcases z with (z | ⟨w, z⟩) | z
  · exact .inl (.inl (h _ _ (ne _ z fun _ _ _ q => nomatch q) z))
  · exact .inl (.inr ⟨w, h _ _ (ne _ z fun _ _ _ q => nomatch q) z⟩)
  · exact .inr z
theorem But.seqT {K : PySem.W.Frag} {p q c1 : Addr} {c2 : Addr} {o2 : List (Str × V)} {xs : List V} (h : But p H H') (e : H p = some (.ins c1 c2 o2)) (z : SqT K H q xs) : SqT K H' q xs := by
  have ne : ∀ u : HO, H q = some u → (∀ a b c, u ≠ .ins a b c) → q ≠ p := by
    intro u hu hn e2
    rw [e2, e] at hu
    exact hn _ _ _ (Option.some.inj hu).symm
  rcases z with (z | ⟨w, z⟩) | z
  · exact .inl (.inl (h _ _ (ne _ z fun _ _ _ q => nomatch q) z))
  · exact .inl (.inr ⟨w, h _ _ (ne _ z fun _ _ _ q => nomatch q) z⟩)
  · exact .inr z
theorem go_run {ts : TS} (h : Go D ts σ H) : ts D σ H := h H (Same.refl _)
theorem gt_truI {i : Int} (h : Gv (cE X e) σ H (.is (.int i))) (he : ∀ whole, isTrue e X.env whole = (do let v ← whole; standAt e.pos; holding [v] (truthy v)) := by intro _; rfl) : Gt (cT X e) σ H (i != 0) := fun H1 s Q q =>
  cT_of (pt_truth pe_ he) (h H1 s _ fun v H2 s2 e1 => by
    obtain rfl : v = .int i := e1
    exact ⟨i != 0, rfl, q H2 s2⟩)
abbrev u2 (K : PySem.W.Frag) (i j : Nat) : TG := gUnl K 2 (gCons (gName i) (gCons (gName j) gNil))
theorem u2_go {K : PySem.W.Frag} {i j g : Nat} {u x : V} {σ : L2.St} {H : Hp} {Qg : L2.St → Hp → Prop} (h : SqL K H g [u, x]) (q : Qg ((σ.set i (some u)).set j (some x)) H) : u2 K i j (.ref g) σ H Qg :=
  ⟨g, [u, x], rfl, h, rfl, u, [x], rfl, x, [], rfl, rfl, q⟩
theorem t2_go {K : PySem.W.Frag} {i j g : Nat} {u x : V} {σ : L2.St} {H : Hp} {Qg : L2.St → Hp → Prop} (h : SqT K H g [u, x]) (q : Qg ((σ.set i (some u)).set j (some x)) H) : g2 K i j (.ref g) σ H Qg :=
  ⟨g, [u, x], rfl, h, rfl, u, [x], rfl, x, [], rfl, rfl, q⟩
theorem pu2 (i0 j0 : Nat) {px py tp : Pos} {kt : Nat} (hcm : X.calm = true) (hN : X.N.Nodup) (hi : X.N[i0]? = some x := by rfl) (hj : X.N[j0]? = some y := by rfl) (hx : Loc X.env.scope x := by first | exact Or.inl rfl | exact Or.inr rfl) (hy : Loc X.env.scope y := by first | exact Or.inl rfl | exact Or.inr rfl)
    (hf : X.fn x = true ∨ X.env.scope.names.lookup x = some .local := by first | exact .inl rfl | exact .inr rfl) (hf2 : X.fn y = true ∨ X.env.scope.names.lookup y = some .local := by first | exact .inl rfl | exact .inr rfl)
    (hn : (assignEach [.Name x px, .Name y py] X.env).length = 2 := by rfl) (hst : (assignEach [.Name x px, .Name y py] X.env).findIdx? (·.1) = none := by rfl)
    (hs1 : (assignEach [.Name x px, .Name y py] X.env).map (·.2) = assign (.Name x px) X.env :: (assignEach [.Name y py] X.env).map (·.2) := by rfl) (hs2 : (assignEach [.Name y py] X.env).map (·.2) = assign (.Name y py) X.env :: (assignEach [] X.env).map (·.2) := by rfl) :
    PG X (.Tuple [.Name x px, .Name y py] kt tp) (u2 X.K i0 j0) := pg_unl hcm (pgs_cons (pg_name (i := i0) hN hi hx hf) (pgs_cons (pg_name (i := j0) hN hj hy hf2) pgs_nil hs2) hs1) hn hst
/-- what is new stays new behind a change of p -/
theorem new_but {q : Addr} {o o' : HO} {w : V} {H2 : Hp} (h : But q H H') (e : H q = some o) (e' : H' q = some o') (n : k.new H' w H2) : k.new H w H2 := by
  have key : ∀ p : Addr, H' p = none → H p = none := by
    intro p hp
    cases hq : H p with
    | none => rfl
    | some u =>
      have ne : p ≠ q := by
        intro z
        rw [z, e'] at hp
        cases hp
      rw [h p u ne hq] at hp
      cases hp
  cases k with
  | is x => exact n
  | ob x => obtain ⟨p, a, b, c⟩ := n; exact ⟨p, a, key p b, c⟩
  | obs x => obtain ⟨p, us, a, b, c⟩ := n; exact ⟨p, us, a, key p b, c⟩
  | obx z x => obtain ⟨p, us, a, b, c⟩ := n; exact ⟨p, us, a, key p b, c⟩
end
end Kx
set_option Elab.async false
set_option linter.all false
set_option maxRecDepth 100000
set_option maxHeartbeats 2000000
namespace Kx
open PySem PySem.Spec PyProof.Rows L2
open Evl (given given_yes given_no given_len)
section
variable {X : Cx} {σ : L2.St} {H H' : Hp} {k k' : Kd} {t ta tb : TE} {e a b c r ie : Expr} {es : List Expr} {pos p xp ap cp sp : Pos} {x y : Str} {v : V} {rest body A B : List Stmt} {st : Stmt} {D : Ends} {N : L2.St → Prop}
/-! ### displays of new objects -/
theorem ks_obs : ∀ {os : List HO} {us : List V} {H : Hp}, KsAt (os.map .ob) us H → ObsAt us os H
  | [], _, _, h => by
    have h : _ = [] := h
    rw [h]
    exact .nil
  | o :: os, us, H, ⟨w, r, a, b, c⟩ => by
    rw [a]
    exact .cons b (ks_obs c)
theorem gv_lstK {os : List HO} (h : Ga (cA X es) σ H (os.map .ob)) (hl : os.length ≤ 100000) : Gv (cE X (.List es pos)) σ H (.obs os) := fun H1 s Q q =>
  cE_of (pe_lst pa_) (h H1 s _ fun us H2 s2 z => by
    have z2 := ks_obs z
    exact ⟨Nat.le_trans (by rw [Paired.length z2]; exact hl) (by decide), fun p hp => q _ _ (s2.trans (same_new hp)) ⟨p, us, rfl, s2.free hp, upd_same, z2.same (same_new hp)⟩⟩)
theorem gv_lenO {os : List HO} {p : Pos} (B : Bl X.mg) (h : Gv (cE X e) σ H (.obs os)) (hg : Gl X "len" := by rfl) (hs : starEach [e] X.env = (false, eval e X.env) :: starEach [] X.env := by rfl) (hpl : (backTo pos (starEach [] X.env)).any (·.1) = false := by rfl) : Gv (cE X (.Call (.Name "len" p) [e] [] pos)) σ H (.is (.int os.length)) :=
  gv_b1 call_len_seq B.len PySem.boot_len h (fun v H1 H2 Q s s2 n q => by
    obtain ⟨p, us, ev, _, hq, ho⟩ := n
    exact ⟨p, us, by rw [ev], .inl (SqL.of hq), q _ H2 (Same.refl _) (by rw [Paired.length ho]; rfl)⟩) hg (by decide) (by decide) hs hpl
/-- list + list -/
def HasM (H : Hp) (k : Kd) (xs : List V) : Prop := k = .ob (.lst xs) ∨ ∃ p, k = .is (.ref p) ∧ H p = some (.lst xs)
theorem HasM.get {xs : List V} {H1 H2 : Hp} {v : V} (h : HasM H k xs) (s : Same H H2) (n : k.at_ v H2) : ∃ p, v = .ref p ∧ H2 p = some (.lst xs) := by
  rcases h with rfl | ⟨p, rfl, hp⟩
  · exact n
  · exact ⟨p, n, s _ _ hp⟩
theorem gv_catM {xs ys : List V} {k2 : Kd} (ha : Gv (cE X a) σ H k) (hx : HasM H k xs) (hb : Gv (cE X b) σ H k2) (hy : HasM H k2 ys) (hl : xs.length + ys.length ≤ 100000) : Gv (cE X (.BinOp a .Add b pos)) σ H (.ob (.lst (xs ++ ys))) := fun H1 s Q q =>
  cE_of (pe_op op_cat pe_ pe_) (ha H1 s _ fun v H2 s2 n1 => hb H2 (s.trans s2) _ fun w H3 s3 n2 => by
    obtain ⟨p1, e1, g1⟩ := hx.get (H1 := H2) (s.trans s2) (Kd.new_at n1)
    obtain ⟨p2, e2, g2⟩ := hy.get (H1 := H3) ((s.trans s2).trans s3) (Kd.new_at n2)
    exact ⟨p1, p2, xs, ys, e1, e2, s3 _ _ g1, g2, Nat.le_trans hl (by decide), fun l hl => q _ _ ((s2.trans s3).trans (same_new hl)) ⟨l, rfl, (s2.trans s3).free hl, upd_same⟩⟩)
/-! ### comprehensions whose items are told by a word -/
/-- what an item is, as the heap grows -/
structure Item (E : Nat → V → Hp → Prop) : Prop where
  up : ∀ i y H H', E i y H → Same H H' → E i y H'
/-- what is behind k is an item, the new list's own place left out -/
def Gives (E : Nat → V → Hp → Prop) (i : Nat) (k : Kd) (H : Hp) : Prop := ∀ y Ha Hb D, Same H Ha → H D = none → Ha D ≠ none → Same Ha Hb → k.new Ha y Hb → E i y (del Hb D)
theorem lc_goR {J : It} {n : Nat} {G : Hp → Prop} {Y : Nat → Hp → V → Hp → Prop} (w : Walk J n G Y) {g : TG} {tt : TT} {te : TE} {vs : List Nat} {H1 : Hp} {D : Addr} (f : Nat → Bool) (E : Nat → V → Hp → Prop) (hE : Item E) (hD : H1 D = none) (hG : ∀ H', Same H1 H' → G H') (hz : n ≤ 100000)
    (hs : ∀ i x H H', i < n → Same H1 H → Y i H x H' → ∃ σ2 H2, (∀ Qg : L2.St → Hp → Prop, Qg σ2 H2 → g x (wipe σ vs) H' Qg) ∧ Same H H2 ∧ wipe σ2 vs = wipe σ vs ∧ Gt tt σ2 H1 (f i) ∧ (f i = true → ∃ k, Gv te σ2 H1 k ∧ Gives E i k H1))
    {Q : VK} (q : ∀ H' ys, Same H1 H' → H' D = some (.lst ys) → Paired (fun i y => E i y H') ((List.range n).filter f) ys → Q (.ref D) H') :
    ∃ W : Nat → Nat → Hp → Prop, (∃ m, W 0 m (upd H1 D (.lst []))) ∧ ∀ i m H, W i m H → (J.stop i H ∧ Q (.ref D) H) ∨ (J.go i H ∧ ∃ Nx : Hp → Prop, (∀ H', Nx H' → ∃ m', m' < m ∧ W (i + 1) m' H') ∧ ∀ x H', J.yld i H x H' → g x (wipe σ vs) H' fun σ2 H2 => wipe σ2 vs = wipe σ vs ∧ tt σ2 H2 fun b H3 => if b = true then te σ2 H3 fun y H4 => ∃ acc, H4 D = some (.lst acc) ∧ acc.length < sizeLine ∧ Nx (upd H4 D (.lst (acc ++ [y]))) else Nx H3) := by
  refine lc_it w (fun i H => Same H1 H ∧ ∃ ys, H D = some (.lst ys) ∧ Paired (fun i y => E i y (del H D)) ((List.range i).filter f) ys) ⟨same_new hD, [], upd_same, .nil⟩ (fun i H _ h => hG H h.1) (fun i x H H' hi ⟨s1, ys, hd, hp⟩ y => ?_) (fun H ⟨s1, ys, hd, hp⟩ => q H ys s1 hd (Paired.mapP hp fun i y z => hE.up i y _ _ z del_le))
  obtain ⟨σ2, H2, hg, s2, hw, ht, he⟩ := hs i x H H' hi s1 y
  refine hg _ ⟨hw, ht H2 (s1.trans s2) _ fun H3 s3 => ?_⟩
  have s4 := s2.trans s3
  have hpl : ys.length ≤ i := by
    rw [← Paired.length hp]
    have := List.length_filter_le f (List.range i)
    simpa using this
  cases hf : f i with
  | true =>
    obtain ⟨k, gk, gE⟩ := he hf
    refine iteT (gk H3 (s1.trans s4) _ fun y H4 s5 n => ⟨ys, s5 _ _ (s4 _ _ hd), Nat.lt_of_le_of_lt hpl (Nat.lt_of_lt_of_le hi (Nat.le_trans hz (by decide))), same_mut ((s1.trans s4).trans s5) hD, ys ++ [y], upd_same, ?_⟩)
    have e1 : (List.range (i + 1)).filter f = (List.range i).filter f ++ [i] := by
      rw [List.range_succ, List.filter_append, List.filter_cons, if_pos hf]; rfl
    rw [e1, del_upd]
    refine Paired.snoc (Paired.mapP hp fun i y z => hE.up i y _ _ z (del_same (s4.trans s5))) ?_
    exact gE y H3 H4 D (s1.trans s4) hD (by rw [s4 _ _ hd]; exact fun z => nomatch z) s5 n
  | false =>
    refine iteF ⟨s1.trans s4, ys, s4 _ _ hd, ?_⟩
    have e1 : (List.range (i + 1)).filter f = (List.range i).filter f := by
      rw [List.range_succ, List.filter_append, List.filter_cons, if_neg (by rw [hf]; decide)]
      show _ ++ [] = _
      rw [List.append_nil]
    rw [e1]
    exact Paired.mapP hp fun i y z => hE.up i y _ _ z (del_same s4)
/-- a new object -/
theorem gives_ob {o : Nat → HO} {i : Nat} : Gives (fun i y H => ∃ q, y = V.ref q ∧ H q = some (o i)) i (.ob (o i)) H := fun y Ha Hb D s h0 h1 s2 ⟨q, e, f, g⟩ => by
  have : q ≠ D := by
    intro z
    rw [z] at f
    exact h1 f
  exact ⟨q, e, by rw [del_at this]; exact g⟩
theorem gives_is {v : Nat → V} {i : Nat} : Gives (fun i y _ => y = v i) i (.is (v i)) H := fun y Ha Hb D s h0 h1 s2 e => e
theorem gives_old {o : HO} {q : Addr} {i : Nat} {F : Nat → HO} (h : H q = some o) (e : F i = o) : Gives (fun i y H => ∃ q, y = V.ref q ∧ H q = some (F i)) i (.is (.ref q)) H := fun y Ha Hb D s h0 h1 s2 ey => by
  have : q ≠ D := by
    intro z
    rw [z, h0] at h
    cases h
  exact ⟨q, ey, by rw [del_at this, e]; exact s2 _ _ (s _ _ h)⟩
theorem item_ob {o : Nat → HO} : Item (fun i y H => ∃ q, y = V.ref q ∧ H q = some (o i)) := ⟨fun i y H H' ⟨q, a, b⟩ s => ⟨q, a, s _ _ b⟩⟩
theorem item_is {v : Nat → V} : Item (fun i y _ => y = v i) := ⟨fun i y H H' h s => h⟩
theorem paired_obs {o : Nat → HO} : ∀ {l : List Nat} {ys : List V} {H : Hp}, Paired (fun i y => ∃ q, y = V.ref q ∧ H q = some (o i)) l ys → ObsAt ys (l.map o) H
  | _, _, _, .nil => .nil
  | _, _, _, .cons h t => .cons h (paired_obs t)
theorem paired_is {v : Nat → V} : ∀ {l : List Nat} {ys : List V}, Paired (fun i y => y = v i) l ys → ys = l.map v
  | _, _, .nil => rfl
  | _, _, .cons h t => by rw [h, paired_is t]; rfl
/-- [.. for i in range(n)], the items new objects -/
theorem glc_rngO {te : TE} {i0 : Nat} {vs : List Nat} {n : Int} (o : Nat → HO) (hn : Gv (cE X e) σ H (.is (.int n))) (h0 : 0 ≤ n ∧ n ≤ 100000) (hw : ∀ x, wipe ((wipe σ vs).set i0 (some x)) vs = wipe σ vs)
    (he : ∀ i : Nat, (i : Int) < n → Gv te ((wipe σ vs).set i0 (some (.int i))) H (.ob (o i)))
    (hs : starEach [e] X.env = (false, eval e X.env) :: starEach [] X.env) : Gv (tLc (iRng1 (cA X [e])) (gName i0) tYes te vs) σ H (.obs ((List.range n.toNat).map o)) := fun H1 s Q q =>
  cA_of (pa_cons pe_ pa_nil hs) (hn H1 s _ fun x H2 s2 ex => ⟨n, by rw [show x = .int n from ex], by omega, by omega, fun D hD =>
    lc_goR (walk_range (lo := 0) (n := n.toNat)) (fun _ => true) _ (item_ob (o := o)) hD (fun _ _ => trivial) (by omega) (fun i x Ha Hb hi s3 y => by
      obtain ⟨rfl, rfl⟩ := y
      have e0 : (0 : Int) + (i : Int) = (i : Int) := Int.zero_add _
      have hin : (i : Int) < n := by omega
      refine ⟨(wipe σ vs).set i0 (some (.int (0 + (i : Int)))), Hb, fun Qg z => z, Same.refl _, hw _, gt_yes, fun _ => ⟨.ob (o i), ?_, gives_ob⟩⟩
      rw [e0]; exact (he i hin).mono (s.trans s2)) (fun H' ys s3 hd hp => by
        rw [List.filter_eq_self.mpr (fun _ _ => rfl)] at hp
        exact q _ H' (s2.trans s3) ⟨D, ys, rfl, s2.free hD, hd, paired_obs hp⟩)⟩)
/-- .. none of them at z, where something stands -/
theorem glc_rngX {te : TE} {i0 : Nat} {vs : List Nat} {n : Int} {z : Addr} (o : Nat → HO) (hz : H z ≠ none) (hn : Gv (cE X e) σ H (.is (.int n))) (h0 : 0 ≤ n ∧ n ≤ 100000) (hw : ∀ x, wipe ((wipe σ vs).set i0 (some x)) vs = wipe σ vs)
    (he : ∀ i : Nat, (i : Int) < n → Gv te ((wipe σ vs).set i0 (some (.int i))) H (.ob (o i)))
    (hs : starEach [e] X.env = (false, eval e X.env) :: starEach [] X.env) : Gv (tLc (iRng1 (cA X [e])) (gName i0) tYes te vs) σ H (.obx z ((List.range n.toNat).map o)) := fun H1 s Q q =>
  cA_of (pa_cons pe_ pa_nil hs) (hn H1 s _ fun x H2 s2 ex => ⟨n, by rw [show x = .int n from ex], by omega, by omega, fun D hD =>
    lc_goR (walk_range (lo := 0) (n := n.toNat)) (fun _ => true) (fun i y H => ∃ q, y = V.ref q ∧ del H z q = some (o i)) ⟨fun i y H H' ⟨q, a, b⟩ s => ⟨q, a, del_same s _ _ b⟩⟩ hD (fun _ _ => trivial) (by omega) (fun i x Ha Hb hi s3 y => by
      obtain ⟨rfl, rfl⟩ := y
      have e0 : (0 : Int) + (i : Int) = (i : Int) := Int.zero_add _
      have hin : (i : Int) < n := by omega
      refine ⟨(wipe σ vs).set i0 (some (.int (0 + (i : Int)))), Hb, fun Qg z => z, Same.refl _, hw _, gt_yes, fun _ => ⟨.ob (o i), ?_, ?_⟩⟩
      · rw [e0]; exact (he i hin).mono (s.trans s2)
      · intro y Hc Hd D' sc h1 h2 sd ⟨q, e1, f, g⟩
        have hzc : Hc z ≠ none := by
          intro w
          exact hz (((s.trans s2).trans sc).free w)
        have n1 : q ≠ D' := fun w => h2 (w ▸ f)
        have n2 : q ≠ z := fun w => hzc (w ▸ f)
        exact ⟨q, e1, by rw [del_at n2, del_at n1]; exact g⟩) (fun H' ys s3 hd hp => by
        rw [List.filter_eq_self.mpr (fun _ _ => rfl)] at hp
        exact q _ H' (s2.trans s3) ⟨D, ys, rfl, s2.free hD, hd, paired_obs hp⟩)⟩)
/-- .. over a list of objects -/
theorem glc_obs {tt : TT} {te : TE} {i0 : Nat} {vs : List Nat} {ols : List HO} (f : Nat → Bool) (E : Nat → V → Hp → Prop) (hE : Item E) (k2 : Kd) (hl : Gv (cE X e) σ H (.obs ols)) (hz : ols.length ≤ 100000) (hw : ∀ x, wipe ((wipe σ vs).set i0 (some x)) vs = wipe σ vs)
    (hs : ∀ (i : Nat) (o : HO) (r : Addr) H', ols[i]? = some o → Same H H' → H' r = some o → Gt tt ((wipe σ vs).set i0 (some (.ref r))) H' (f i) ∧ (f i = true → ∃ k, Gv te ((wipe σ vs).set i0 (some (.ref r))) H' k ∧ Gives E i k H'))
    (hq : ∀ D H1 H' ys, H1 D = none → H' D = some (.lst ys) → Paired (fun i y => E i y H') ((List.range ols.length).filter f) ys → k2.new H1 (.ref D) H') :
    Gv (tLc (iList X.K (cE X e)) (gName i0) tt te vs) σ H k2 := fun H1 s Q q => hl H1 s _ fun x H2 s2 n => by
  obtain ⟨a, us, ev, _, ha, ho⟩ := n
  refine ⟨a, ev, ⟨us, SqL.of ha⟩, fun D hD => ?_⟩
  have hln : us.length = ols.length := Paired.length ho
  refine lc_goR (n := us.length) (walk_list (xs := us)) f E hE hD (fun _ s3 => same_l s3 (SqL.of ha)) (by omega) (fun i x Ha Hb hi s3 y => ?_) (fun H' ys s3 hd hp => ?_)
  · obtain ⟨rfl, hxi⟩ := y
    obtain ⟨o, hoi, r, rfl, hr⟩ := L2.paired_get ho hxi
    obtain ⟨h1, h2⟩ := hs i o r H2 hoi (s.trans s2) hr
    exact ⟨(wipe σ vs).set i0 (some (.ref r)), Hb, fun Qg z => z, Same.refl _, hw _, h1, h2⟩
  · rw [hln] at hp
    exact q _ H' (s2.trans s3) (hq D H1 H' ys (s2.free hD) hd hp)
/-- for x in e, e a list of objects -/
theorem go_forO {ols : List HO} (i0 : Nat) (hcm : X.calm = true) (hN : X.N.Nodup) (hl : Gv (cE X e) σ H (.obs ols)) (h : ∀ a us H1, Same H H1 → H1 a = some (.lst us) → ObsAt us ols H1 → Lp D (cSs X body) (cSs X rest) us σ H1 (fun H' => SqL X.K H' a us) fun σ' _ v => σ'.set i0 (some v))
    (hp : PassesOwn (model X.prog X.w) X.A X.env X.xe) (hi : X.N[i0]? = some x := by rfl) (hx : Loc X.env.scope x := by first | exact Or.inl rfl | exact Or.inr rfl) (hf : X.fn x = true ∨ X.env.scope.names.lookup x = some .local := by first | exact .inl rfl | exact .inr rfl)
    (hfs : ∀ z, foldedSetIterable e X.env z = pure z := by intro _; rfl) : Go D (cSs X (.For (.Name x xp) e body [] pos :: rest)) σ H :=
  go_forW (n := ols.length) hcm (pi_list pe_) (pg_name (i := i0) hN hi hx hf) (fun H1 s R q => hl H1 s _ fun z H2 s2 n => by
    obtain ⟨a, us, rfl, _, ha, ho⟩ := n
    obtain ⟨W, w0, wk, wb, wd⟩ := h a us H2 (s.trans s2) ha ho
    have hln : us.length = ols.length := Paired.length ho
    exact ⟨a, rfl, ⟨us, SqL.of ha⟩, q (Itl X.K a) H2 _ _ W (hln ▸ walk_list (xs := us)) ⟨H2, w0, Same.refl _⟩ (fun i σ' H' hin w H3 s3 => same_l s3 (wk i σ' H' (by omega) w)) (fun i z σ' H' H3 H4 hin w sb y => by
      obtain ⟨rfl, hxi⟩ := y
      exact ⟨_, Same.refl _, fun Qg q => q, wb i z σ' H' hxi w⟩) (hln ▸ wd)⟩) hp hfs
end
end Kx
set_option Elab.async false
set_option linter.all false
set_option maxRecDepth 100000
set_option maxHeartbeats 2000000
namespace Kx
open PySem PySem.Spec PyProof.Rows L2
open Evl (given given_yes given_no given_len)
/-! ### all but what stands at two places -/
def But2 (p q : Addr) (H H' : Hp) : Prop := ∀ a u, a ≠ p → a ≠ q → H a = some u → H' a = some u
theorem But2.refl {p q : Addr} {H : Hp} : But2 p q H H := fun _ _ _ _ z => z
theorem But2.of {p q : Addr} {H H' : Hp} (s : Same H H') : But2 p q H H' := fun a u _ _ z => s a u z
theorem But2.of1 {p q : Addr} {H H' : Hp} (s : But p H H') : But2 p q H H' := fun a u n _ z => s a u n z
theorem But2.trans {p q : Addr} {H H' H2 : Hp} (h : But2 p q H H') (g : But2 p q H' H2) : But2 p q H H2 := fun a u n m z => g a u n m (h a u n m z)
theorem But2.then_ {p q : Addr} {H H' H2 : Hp} (h : But2 p q H H') (s : Same H' H2) : But2 p q H H2 := h.trans (But2.of s)
theorem But2.updP {p q : Addr} {o : HO} {H H' : Hp} (h : But2 p q H H') : But2 p q H (upd H' p o) := fun a u n m z => by
  rw [upd_ne n]
  exact h a u n m z
theorem But2.updQ {p q : Addr} {o : HO} {H H' : Hp} (h : But2 p q H H') : But2 p q H (upd H' q o) := fun a u n m z => by
  rw [upd_ne m]
  exact h a u n m z
theorem But2.seqT {K : PySem.W.Frag} {p q r c1 c2 : Addr} {o2 : List (Str × V)} {xs ys : List V} {H H' : Hp} (h : But2 p q H H') (e1 : H p = some (.ins c1 c2 o2)) (e2 : H q = some (.lst ys)) (z : SqT K H r xs) : SqT K H' r xs := by
  have ne : ∀ u : HO, H r = some u → (∀ a b c, u ≠ .ins a b c) → (∀ l, u ≠ .lst l) → r ≠ p ∧ r ≠ q := by
    intro u hu h1 h2
    constructor
    · intro e
      rw [e, e1] at hu
      exact h1 _ _ _ (Option.some.inj hu).symm
    · intro e
      rw [e, e2] at hu
      exact h2 _ (Option.some.inj hu).symm
  rcases z with (z | ⟨w, z⟩) | z
  · obtain ⟨n1, n2⟩ := ne _ z (fun _ _ _ q => nomatch q) (fun _ q => nomatch q)
    exact .inl (.inl (h _ _ n1 n2 z))
  · obtain ⟨n1, n2⟩ := ne _ z (fun _ _ _ q => nomatch q) (fun _ q => nomatch q)
    exact .inl (.inr ⟨w, h _ _ n1 n2 z⟩)
  · exact .inr z
section
variable {X : Cx} {σ : L2.St} {H H' : Hp} {k k' : Kd} {t ta tb : TE} {e a b c r ie : Expr} {es : List Expr} {pos p xp ap cp sp p2 : Pos} {x y : Str} {v : V} {rest body A B : List Stmt} {st : Stmt} {D : Ends} {N : L2.St → Prop}
theorem new_but2 {p q : Addr} {o o' u u' : HO} {w : V} {H2 : Hp} (h : But2 p q H H') (e : H p = some o) (e' : H' p = some o') (f : H q = some u) (f' : H' q = some u') (n : k.new H' w H2) : k.new H w H2 := by
  have key : ∀ a : Addr, H' a = none → H a = none := by
    intro a ha
    cases hq : H a with
    | none => rfl
    | some z =>
      have n1 : a ≠ p := by
        intro y
        rw [y, e'] at ha
        cases ha
      have n2 : a ≠ q := by
        intro y
        rw [y, f'] at ha
        cases ha
      rw [h a z n1 n2 hq] at ha
      cases ha
  cases k with
  | is x => exact n
  | ob x => obtain ⟨p, a, b, c⟩ := n; exact ⟨p, a, key p b, c⟩
  | obs x => obtain ⟨p, us, a, b, c⟩ := n; exact ⟨p, us, a, key p b, c⟩
  | obx z x => obtain ⟨p, us, a, b, c⟩ := n; exact ⟨p, us, a, key p b, c⟩
theorem gt_neD {w : V} {d1 d2 : PyData} (hu : X.A.units + 64 < cLine) (ha : Gv (cE X a) σ H k) (hb : Gv (cE X b) σ H (.is w)) (h1 : ∀ x H1 H2 H3, Same H H1 → k.new H1 x H2 → Same H1 H2 → Same H2 H3 → Dp X.K H3 x d1) (h2 : ∀ H1, Same H H1 → Dp X.K H1 w d2) (s1 : SeqAt.shaped d1 = true) (s2 : SeqAt.shaped d2 = true)
    (hm : behindInMarks .NotEq b = false := by first | exact nomark _ | exact nobehind _ (by decide) (by decide) | rfl) : Gt (cT X (.Compare a [.NotEq] [b] pos)) σ H (!PyData.eqv d1 d2) := fun H1 s Q q =>
  cT_of (pt_cmpR (op_neD hu) pe_ pe_ hm) (ha H1 s _ fun v H2 sa n => hb H2 (s.trans sa) _ fun w' H3 sb e2 => by
    obtain rfl : w' = w := e2
    exact ⟨d1, d2, h1 v H1 H2 H3 s n sa sb, h2 H3 ((s.trans sa).trans sb), s1, s2, _, rfl, q H3 (sa.trans sb)⟩)
/-- r[lo:] -/
theorem gv_sliceL {q : Addr} {xs : List V} {lo : Expr} {i : Int} (h : Gv (cE X r) σ H (.is (.ref q))) (hq : SqL X.K H q xs) (hi : Gv (cE X lo) σ H (.is (.int i))) : Gv (cE X (.Subscript r (.Slice (some lo) none none p2) pos)) σ H (.ob (.lst (cutV xs (some i) none))) := fun H1 s Q rq =>
  cE_of (pe_slice sl_list pe_ (po_some pe_) po_none) (h H1 s _ fun z H2 s2 ez => by
    obtain rfl : z = .ref q := ez
    exact hi H2 (s.trans s2) _ fun w H3 s3 ew => by
      obtain rfl : w = .int i := ew
      exact ⟨i, rfl, q, xs, rfl, same_l ((s.trans s2).trans s3) hq, fun p hp => rq _ _ ((s2.trans s3).trans (same_new hp)) ⟨p, rfl, (s2.trans s3).free hp, upd_same⟩⟩)
/-- r[lo:hi] -/
theorem gv_sliceLH {q : Addr} {xs : List V} {lo hi : Expr} {i j : Int} (h : Gv (cE X r) σ H (.is (.ref q))) (hq : SqL X.K H q xs) (hi1 : Gv (cE X lo) σ H (.is (.int i))) (hj : Gv (cE X hi) σ H (.is (.int j))) : Gv (cE X (.Subscript r (.Slice (some lo) (some hi) none p2) pos)) σ H (.ob (.lst (cutV xs (some i) (some j)))) := fun H1 s Q rq =>
  cE_of (pe_slice sl_list pe_ (po_some pe_) (po_some pe_)) (h H1 s _ fun z H2 s2 ez => by
    obtain rfl : z = .ref q := ez
    exact hi1 H2 (s.trans s2) _ fun w H3 s3 ew => by
      obtain rfl : w = .int i := ew
      exact ⟨i, rfl, hj H3 ((s.trans s2).trans s3) _ fun w2 H4 s4 ew2 => by
        obtain rfl : w2 = .int j := ew2
        exact ⟨j, rfl, q, xs, rfl, same_l (((s.trans s2).trans s3).trans s4) hq, fun p hp => rq _ _ (((s2.trans s3).trans s4).trans (same_new hp)) ⟨p, rfl, ((s2.trans s3).trans s4).free hp, upd_same⟩⟩⟩)
/-- tg = r.pop() -/
theorem go_pop {tg : Expr} {g : TG} {q : Addr} {xs : List V} {w : V} (hg : PG X tg g) (hr : Gv (cE X r) σ H (.is (.ref q))) (hq : H q = some (.lst xs)) (hl : xs[xs.length - 1]? = some w) (h : ∀ H1, Same H H1 → ∃ σ', (∀ Qg : L2.St → Hp → Prop, Qg σ' (upd H1 q (.lst xs.dropLast)) → g w σ (upd H1 q (.lst xs.dropLast)) Qg) ∧ Go D (cSs X rest) σ' (upd H1 q (.lst xs.dropLast)))
    (hbase : attributeBase r "pop" X.env (eval r X.env) = eval r X.env := by rfl) (hline : (ap.endLine == cp.line) = true := by rfl)
    (hs : swapsWithSole [tg] (.Call (.Attribute r "pop" ap) [] [] cp) pos.line X.env = pure false := by rfl) (hw : swappedStores [tg] (.Call (.Attribute r "pop" ap) [] [] cp) X.env = pure none := by rfl) (h1 : (assignEach [tg] X.env).map (·.2) = [assign tg X.env] := by rfl) :
    Go D (cSs X (.Assign [tg] (.Call (.Attribute r "pop" ap) [] [] cp) pos :: rest)) σ H := fun H1 s =>
  cSs_of (pss_cons (ps_asg (pe_bm0 PySem.F.plainAttrs_list PySem.F.slot_list_pop PySem.F.type_list_pop mt_pop pe_ hbase hline) hg hs hw h1) pss_) (hr H1 s _ fun z H2 s2 ez => by
    obtain rfl : z = .ref q := ez
    have h2 := s2 _ _ (s _ _ hq)
    obtain ⟨σ', hq', go⟩ := h H2 (s.trans s2)
    exact ⟨.inl ⟨rfl, _, SqL.of h2⟩, q, xs, w, rfl, rfl, h2, hl, hq' _ (go _ (Same.refl _))⟩)
/-! ### a call of what a dict holds -/
theorem go_retD {ks : List Kd} {sp : Sp} {m j : Nat} {f : Str} {fa : Addr} {func : Expr} (c : Cal X.prog X.w X.K X.mg X.base m f sp) (hfa : X.mg f = some (.ref fa)) (hr : Room j X.A) (hk : m ≤ j) (g : Gv (cE X func) σ H (.is (.ref fa))) (ha : Ga (cA X (e :: es)) σ H ks) (h : ∀ vs H1 (E : XK), Same H H1 → KsAt ks vs H1 → sp vs H1 D.rt E)
    (he : starEach (e :: es) X.env = (false, eval e X.env) :: starEach es X.env := by rfl) (hpl : (backTo cp (starEach es X.env)).any (·.1) = false := by rfl)
    (hev : eval (.Call func (e :: es) [] cp) X.env = (do callWith cp (← eval func X.env) [] (backTo cp (starEach (e :: es) X.env)) (backToKw cp (keywordEach [] X.env))) := by rfl) :
    Go D (cSs X (.Return (some (.Call func (e :: es) [] cp)) pos :: rest)) σ H := fun H1 s => by
  obtain ⟨fa', fd, ps, F, hm, kp, b⟩ := c.ex
  have e1 : fa' = fa := by
    rw [hfa] at hm
    injection hm with hm
    injection hm with hm
    exact hm.symm
  subst e1
  refine cSs_of (pss_cons (ps_ret pe_) pss_) ?_
  intro pins s0 I
  refine Call_ (thn (g H1 s (fun v H2 => v = .ref fa' ∧ Same H1 H2) (fun v H2 s2 n => ⟨n, s2⟩) pins s0 I) fun u s1 ⟨v, H2, I2, r, ev, s2⟩ => ?_) hev
  subst ev
  cases r
  refine PySem.W.callWith_K (h₀ := X.base) I2.ok.mod.kin kp (thn ((pa_ (X := X) (es := e :: es)).run cp pins s1 σ H2 (fun vs H3 => KsAt ks vs H3 ∧ Same H H3) I2 (ha H2 (s.trans s2) _ fun vs H3 s3 z => ⟨z, (s.trans s2).trans s3⟩)) fun us s2' ⟨vs, H3, I3, r3, z, s3⟩ => ⟨I3.kIn, ?_⟩) he hpl
  refine run_fn F (hr.mono hk) b .nil pass0 I3 r3 ?_
  rw [List.append_nil]
  exact h vs H3 E0 s3 z
/-- name in dict -/
theorem gt_inD {d : Addr} {es' : Array DictEntry} {n : Nat} {z : Str} {o : Option Value} (K' : KDict X.K X.w d es' n) (hz : PySem.W.nsIn X.K d z = some o) (ha : Gv (cE X a) σ H (.is (.str z))) (hb : Gv (cE X b) σ H (.is (.ref d))) (hm : behindInMarks .In b = false := by rfl) : Gt (cT X (.Compare a [.In] [b] pos)) σ H o.isSome :=
  gt_cmp (op_in_kd K') ha hb (fun H1 s _ q => ⟨z, o, rfl, rfl, hz, q⟩) hm
theorem gv_ixD {d fa : Addr} {es' : Array DictEntry} {n : Nat} {z : Str} (K' : KDict X.K X.w d es' n) (hz : PySem.W.nsIn X.K d z = some (some (.ref fa))) (ha : Gv (cE X a) σ H (.is (.ref d))) (hb : Gv (cE X b) σ H (.is (.str z))) (hp : PlainIx b := by exact fun _ _ => rfl) : Gv (cE X (.Subscript a b pos)) σ H (.is (.ref fa)) := fun H1 s Q q =>
  cE_of (pe_ix ix_kdict pe_ pe_ hp) (ha H1 s _ fun x H2 s2 ex => hb H2 (s.trans s2) _ fun y H3 s3 ey => by
    obtain rfl : x = .ref d := ex
    obtain rfl : y = .str z := ey
    exact ⟨d, z, .ref fa, rfl, rfl, ⟨es', n, .ref fa, K'.at_, K'.lit, hz, rfl⟩, q _ H3 (s2.trans s3) rfl⟩)
end
theorem Cal.mono {P : Program} {w : World} {K : PySem.W.Frag} {mg : Str → Option Value} {base : Heap} {m n : Nat} {x : Str} {sp : Sp} (c : Cal P w K mg base m x sp) (h : m ≤ n) : Cal P w K mg base n x sp := by
  obtain ⟨f, fd, ps, F, r⟩ := c.ex
  exact ⟨f, fd, ps, F.mono h, r⟩
theorem Cal.imp {P : Program} {w : World} {K : PySem.W.Frag} {mg : Str → Option Value} {base : Heap} {m : Nat} {x : Str} {sp sp' : Sp} (c : Cal P w K mg base m x sp) (h : ∀ vs H Q E, sp' vs H Q E → sp vs H Q E) : Cal P w K mg base m x sp' := by
  obtain ⟨f, fd, ps, F, r⟩ := c.ex
  exact ⟨f, fd, ps, F.imp h, r⟩
end Kx
set_option Elab.async false
set_option linter.all false
set_option maxRecDepth 100000
set_option maxHeartbeats 2000000
namespace Sw
open PySem PySem.Spec PyProof.Rows L2 Kx
def top (i : Nat) : Stmt := PySem.Challenge.pw_swaybits_s01_answers.main.body.getD i (.Pass ⟨0, 0, 0, 0⟩)
/-- a module's number -/
def Con (mg : Str → Option Value) (x : Str) (i : Int) : Prop := ∃ u, mg x = some u ∧ RelV (.int i) u
end Sw
set_option Elab.async false
set_option linter.all false
set_option maxRecDepth 100000
set_option maxHeartbeats 2000000
/-! The head's data and its Hook -/
namespace Sw
open PySem PySem.Spec PyProof.Rows L2 Kx
def dl0 : List (Str × Nat) := [("cut", 2), ("refused", 11), ("bits_set", 12), ("turned", 13), ("meets_oddly", 14), ("power", 15), ("lowest", 16), ("as_it_is", 19), ("keep_change", 20), ("tell_back", 21), ("tell_ask", 23), ("tell_mean", 24), ("swayed", 25), ("sways", 26), ("all_sways", 27), ("tell_sway", 28)]
def dl1 : List (Str × Nat) := [("together", 29), ("tell_all", 30), ("even", 31), ("tell_even", 32), ("part", 33), ("all_parts", 34), ("tell_part", 35), ("tell_parts", 36), ("tell_levels", 37), ("sides", 38), ("tell_sides", 39), ("tell_fewest", 40), ("falls", 41), ("tell_rising", 42), ("tell_idle", 43), ("tell_most", 44)]
def dl2 : List (Str × Nat) := [("vote_right", 51), ("outcome", 52), ("comes_round", 53), ("order_of", 54), ("all_votes", 55), ("all_outcomes", 56), ("tell_vote", 57), ("tell_order", 58), ("first_thing", 59), ("tell_winner", 60), ("rounds", 61), ("tell_rounds", 62), ("tell_noround", 63), ("byparts", 64), ("tell_byparts", 65), ("tell_isodd", 66)]
def dl3 : List (Str × Nat) := [("tell_alike", 67), ("tell_whose", 68), ("tell_first", 69), ("tell_wins", 70), ("compared", 72), ("begin", 77), ("made", 78), ("make_told", 79), ("weight", 80), ("make_least", 81), ("make_odd", 82), ("make_bit", 83), ("make_not", 84), ("make_turn", 85), ("make_set", 86), ("tell_state", 87)]
def dl4 : List (Str × Nat) := [("tell_chance", 93), ("whole", 94), ("heard", 95), ("tell_heard", 96), ("yes_said", 97), ("all_yes_said", 98), ("all_rightly", 99), ("tell_soft", 100), ("stays", 101), ("tell_stays", 102), ("tell_agree", 103), ("tell_worst", 104), ("tell_ifchance", 105), ("lower_right", 110), ("sizes", 113), ("counts_of", 114)]
def dl5 : List (Str × Nat) := [("all_set", 115), ("tell_yes", 116), ("tell_swayat", 117), ("fast", 118), ("tell_slope", 119), ("tell_sizes", 120), ("least_for", 121), ("tell_half", 122), ("tell_width", 123), ("once", 124), ("tell_tries", 125), ("tell_steepest", 126), ("tell_fixed", 127), ("tell_put", 132), ("tell_take", 133), ("joined", 134)]
def dl6 : List (Str × Nat) := [("tell_join", 135), ("tell_same", 136), ("measured", 137), ("greater", 138), ("tell_more", 139), ("tell_best", 140), ("tell_shelf", 141), ("called", 145), ("answered", 146), ("answers", 147), ("chance_right_mishearing", 91), ("chance_right_rises", 111)]
def dl : List (Str × Nat) := dl0 ++ (dl1 ++ (dl2 ++ (dl3 ++ (dl4 ++ (dl5 ++ (dl6))))))
def il0 : List (Str × Int) := [("NO_SUCH", 2), ("NOTHING_THERE", 6), ("NOT_BEGUN", 11), ("NOT_RIGHT", 22), ("NONE_FOUND", 33), ("TOO_MANY", 75), ("PLACES", 4), ("MOST_BACK", 10), ("MOST_VOTERS", 4), ("MOST_THING", 2), ("COMPARISONS", 3), ("MOST_BITS", 5), ("MOST_TOLD", 32), ("MOST_WEIGHT", 9), ("MOST_LOWER_mishearing", 20), ("MOST_LOWER_rises", 100)]
def il1 : List (Str × Int) := [("MOST_TRIES", 6), ("MOST_WAY", 2), ("MOST_MEASURE", 3)]
def il : List (Str × Int) := il0 ++ (il1)
def fl : List Str := ["len", "sum", "range", "enumerate", "tuple", "list", "any", "all", "abs", "max", "min"]
def atl : List Str := ["bits", "says", "chance", "shelf", "past"]
def callRows0 : List (List He.Dv) := [[.str "begin", .int 1, .int 0], [.str "told", .int 0, .int 1], [.str "least", .int 1, .int 1], [.str "odd", .int 1, .int 0], [.str "bit", .int 1, .int 0], [.str "not", .int 0, .int 0], [.str "turn", .int 1, .int 0], [.str "set", .int 2, .int 0], [.str "ask", .int 1, .int 0], [.str "mean", .int 0, .int 0], [.str "sway", .int 1, .int 0], [.str "all", .int 0, .int 0], [.str "even", .int 0, .int 0], [.str "part", .int 1, .int 0], [.str "parts", .int 0, .int 0], [.str "levels", .int 0, .int 0]]
def callRows1 : List (List He.Dv) := [[.str "sides", .int 0, .int 0], [.str "fewest", .int 0, .int 0], [.str "rising", .int 0, .int 0], [.str "idle", .int 0, .int 0], [.str "most", .int 0, .int 0], [.str "state", .int 0, .int 0], [.str "chance", .int 2, .int 0], [.str "heard", .int 2, .int 0], [.str "soft", .int 1, .int 0], [.str "stays", .int 0, .int 0], [.str "agree", .int 0, .int 0], [.str "worst", .int 0, .int 0], [.str "ifchance", .int 2, .int 0], [.str "vote", .int 0, .int 1], [.str "winner", .int 0, .int 1], [.str "order", .int 0, .int 1]]
def callRows2 : List (List He.Dv) := [[.str "rounds", .int 0, .int 0], [.str "noround", .int 0, .int 0], [.str "byparts", .int 0, .int 0], [.str "isodd", .int 0, .int 0], [.str "alike", .int 0, .int 0], [.str "whose", .int 0, .int 0], [.str "first", .int 0, .int 0], [.str "wins", .int 1, .int 0], [.str "yes", .int 2, .int 0], [.str "swayat", .int 3, .int 0], [.str "slope", .int 2, .int 0], [.str "sizes", .int 0, .int 0], [.str "half", .int 1, .int 0], [.str "width", .int 4, .int 0], [.str "tries", .int 3, .int 0], [.str "steepest", .int 1, .int 0]]
def callRows3 : List (List He.Dv) := [[.str "fixed", .int 1, .int 0], [.str "put", .int 1, .int 0], [.str "take", .int 1, .int 0], [.str "join", .int 2, .int 0], [.str "same", .int 1, .int 0], [.str "more", .int 2, .int 0], [.str "best", .int 1, .int 0], [.str "shelf", .int 0, .int 0], [.str "back", .int 0, .int 0]]
def callRows : List (List He.Dv) := callRows0 ++ (callRows1 ++ (callRows2 ++ (callRows3)))
def orderRows0 : List (List He.Dv) := [[.int 1, .int 1, .int 0], [.int 1, .int 0, .int 0], [.int 0, .int 1, .int 0], [.int 0, .int 1, .int 1], [.int 1, .int 0, .int 1], [.int 0, .int 0, .int 1]]
def orderRows : List (List He.Dv) := orderRows0
def kvSWAYING0 : List (Str × Str) := [("ask", "tell_ask"), ("mean", "tell_mean"), ("sway", "tell_sway"), ("all", "tell_all"), ("even", "tell_even"), ("part", "tell_part"), ("parts", "tell_parts"), ("levels", "tell_levels"), ("sides", "tell_sides"), ("fewest", "tell_fewest"), ("rising", "tell_rising"), ("idle", "tell_idle"), ("most", "tell_most")]
def kvSWAYING : List (Str × Str) := kvSWAYING0
def kvCOMPARING0 : List (Str × Str) := [("vote", "tell_vote"), ("winner", "tell_winner"), ("order", "tell_order"), ("rounds", "tell_rounds"), ("noround", "tell_noround"), ("byparts", "tell_byparts"), ("isodd", "tell_isodd"), ("alike", "tell_alike"), ("whose", "tell_whose"), ("first", "tell_first"), ("wins", "tell_wins")]
def kvCOMPARING : List (Str × Str) := kvCOMPARING0
def kvMAKING0 : List (Str × Str) := [("told", "make_told"), ("least", "make_least"), ("odd", "make_odd"), ("bit", "make_bit"), ("not", "make_not"), ("turn", "make_turn"), ("set", "make_set"), ("state", "tell_state")]
def kvMAKING : List (Str × Str) := kvMAKING0
def kvMISHEARING0 : List (Str × Str) := [("chance", "tell_chance"), ("heard", "tell_heard"), ("soft", "tell_soft"), ("stays", "tell_stays"), ("agree", "tell_agree"), ("worst", "tell_worst"), ("ifchance", "tell_ifchance")]
def kvMISHEARING : List (Str × Str) := kvMISHEARING0
def kvRISES0 : List (Str × Str) := [("yes", "tell_yes"), ("swayat", "tell_swayat"), ("slope", "tell_slope"), ("sizes", "tell_sizes"), ("half", "tell_half"), ("width", "tell_width"), ("tries", "tell_tries"), ("steepest", "tell_steepest"), ("fixed", "tell_fixed")]
def kvRISES : List (Str × Str) := kvRISES0
def kvSHELVING0 : List (Str × Str) := [("put", "tell_put"), ("take", "tell_take"), ("join", "tell_join"), ("same", "tell_same"), ("more", "tell_more"), ("best", "tell_best"), ("shelf", "tell_shelf")]
def kvSHELVING : List (Str × Str) := kvSHELVING0
def dicts : List (Str × List (Str × Str)) := [("SWAYING", kvSWAYING), ("COMPARING", kvCOMPARING), ("MAKING", kvMAKING), ("MISHEARING", kvMISHEARING), ("RISES", kvRISES), ("SHELVING", kvSHELVING)]
def names0 : List PySem.Str := ["CALLS", "cut", "NO_SUCH", "NOTHING_THERE", "NOT_BEGUN", "NOT_RIGHT", "NONE_FOUND", "TOO_MANY", "PLACES", "refused", "bits_set", "turned", "meets_oddly", "power", "lowest", "MOST_BACK", "as_it_is", "keep_change", "tell_back", "tell_ask"]
def names1 : List PySem.Str := ["tell_mean", "swayed", "sways", "all_sways", "tell_sway", "together", "tell_all", "even", "tell_even", "part", "all_parts", "tell_part", "tell_parts", "tell_levels", "sides", "tell_sides", "tell_fewest", "falls", "tell_rising", "tell_idle"]
def names2 : List PySem.Str := ["tell_most", "SWAYING", "MOST_VOTERS", "MOST_THING", "COMPARISONS", "ORDERS", "vote_right", "outcome", "comes_round", "order_of", "all_votes", "all_outcomes", "tell_vote", "tell_order", "first_thing", "tell_winner", "rounds", "tell_rounds", "tell_noround", "byparts"]
def names3 : List PySem.Str := ["tell_byparts", "tell_isodd", "tell_alike", "tell_whose", "tell_first", "tell_wins", "COMPARING", "compared", "MOST_BITS", "MOST_TOLD", "MOST_WEIGHT", "begin", "made", "make_told", "weight", "make_least", "make_odd", "make_bit", "make_not", "make_turn"]
def names4 : List PySem.Str := ["make_set", "tell_state", "MAKING", "MOST_LOWER_mishearing", "chance_right", "chance_right_mishearing", "tell_chance", "whole", "heard", "tell_heard", "yes_said", "all_yes_said", "all_rightly", "tell_soft", "stays", "tell_stays", "tell_agree", "tell_worst", "tell_ifchance", "MISHEARING"]
def names5 : List PySem.Str := ["MOST_LOWER_rises", "MOST_TRIES", "lower_right", "chance_right_rises", "sizes", "counts_of", "all_set", "tell_yes", "tell_swayat", "fast", "tell_slope", "tell_sizes", "least_for", "tell_half", "tell_width", "once", "tell_tries", "tell_steepest", "tell_fixed", "RISES"]
def names6 : List PySem.Str := ["MOST_WAY", "MOST_MEASURE", "tell_put", "tell_take", "joined", "tell_join", "tell_same", "measured", "greater", "tell_more", "tell_best", "tell_shelf", "SHELVING", "Desk", "called", "answered"]
def names : List PySem.Str := names0 ++ (names1 ++ (names2 ++ (names3 ++ (names4 ++ (names5 ++ (names6))))))
def dOf (q : Str × Nat) : He.DefD := ⟨(q.1, none), nameOf (top q.2), nameOf (top q.2), defArgs (top q.2), defBody (top q.2), defScope (top q.2), [], []⟩
abbrev sInit : Stmt := inClass (top 144) 0
def dInit : He.DefD := ⟨("Desk", some "__init__"), "__init__", "Desk.__init__", defArgs sInit, defBody sInit, defScope sInit, [], []⟩
def fnL : List He.DefD := dInit :: dl.map dOf
def faL : List He.Fa := .cls "Desk" :: .mkr "Desk" :: .glo "Desk" :: (atl.map (.noat "Desk") ++ (fl.map .free ++ (il.map (fun q => .int q.1 q.2) ++ (dl.map (fun q => .glo q.1) ++ dicts.map (fun q => .glo q.1)))))
def tabL : List He.Tab := dicts.map fun q => (fun K => He.ga K q.1, q.2.map (·.1))
/-- a tuple at an address -/
def tupAtB (K : PySem.W.Frag) (a : Addr) (row : List He.Dv) : Bool := match K.lookup a with
  | some ⟨.type c, _, .seq its _, _⟩ => decide (c = "tuple") && (decide (its.size ≤ sizeLine) && He.relAll (row.map (He.Dv.v K)) its.toList)
  | _ => false
def rowB (K : PySem.W.Frag) (u : Value) (r : List He.Dv) : Bool := match u with
  | .ref a => tupAtB K a r
  | _ => false
def rowsB (K : PySem.W.Frag) : List Value → List (List He.Dv) → Bool
  | [], [] => true
  | u :: us, r :: rs => rowB K u r && rowsB K us rs
  | _, _ => false
/-- the module's name x is a tuple of such tuples -/
def tupsB (K : PySem.W.Frag) (x : Str) (rows : List (List He.Dv)) : Bool := match PySem.W.nsIn K mainGlobals x with
  | some (some (.ref a)) => (match K.lookup a with
    | some ⟨.type c, _, .seq its _, _⟩ => decide (c = "tuple") && (decide (its.size ≤ sizeLine) && rowsB K its.toList rows)
    | _ => false)
  | _ => false
def exB (K : PySem.W.Frag) : Bool := tupsB K "CALLS" callRows && (tupsB K "ORDERS" orderRows && dicts.all fun q => He.valsB K (He.ga K q.1) (q.2.map fun p => (p.1, He.Dv.glo p.2)))
theorem tupAt_ok {K : PySem.W.Frag} {a : Addr} {row : List He.Dv} (h : tupAtB K a row = true) (H : Hp) : SqT K H a (row.map (He.Dv.v K)) := by
  unfold tupAtB at h
  cases q : K.lookup a with
  | none => rw [q] at h; cases h
  | some o =>
    obtain ⟨oc, od, dt, osl⟩ := o
    rw [q] at h
    cases oc with
    | type c =>
      cases dt with
      | seq its n =>
        obtain ⟨h1, h2⟩ := He.ba (show (decide (c = "tuple") && (decide (its.size ≤ sizeLine) && He.relAll (row.map (He.Dv.v K)) its.toList)) = true from h)
        obtain ⟨h3, h4⟩ := He.ba h2
        exact .inr ⟨_, its, n, q, congrArg Value.type (of_decide_eq_true h1), rfl, of_decide_eq_true h3, He.relAll_ok h4⟩
      | _ => cases h
    | _ => cases dt <;> cases h
theorem rows_ok {K : PySem.W.Frag} : ∀ {us : List Value} {rows : List (List He.Dv)}, rowsB K us rows = true → ∃ as : List Addr, Vals (as.map V.ref) us ∧ as.length = rows.length ∧ ∀ (H : Hp) (i : Nat) (a : Addr) (r : List He.Dv), as[i]? = some a → rows[i]? = some r → SqT K H a (r.map (He.Dv.v K))
  | [], [], _ => ⟨[], .nil, rfl, fun H i a r h => by simp at h⟩
  | [], _ :: _, h => by cases h
  | _ :: _, [], h => by cases h
  | u :: us, r :: rs, h => by
    obtain ⟨h1, h2⟩ := He.ba (show (rowB K u r && rowsB K us rs) = true from h)
    cases u with
    | ref a =>
      obtain ⟨as, e1, e2, e3⟩ := rows_ok h2
      refine ⟨a :: as, .cons rfl e1, congrArg Nat.succ e2, fun H i b q hb hq => ?_⟩
      cases i with
      | zero =>
        have eb : a = b := by simpa using hb
        have eq : r = q := by simpa using hq
        subst eb eq
        exact tupAt_ok h1 H
      | succ i => exact e3 H i b q (by simpa using hb) (by simpa using hq)
    | _ => cases h1
/-- a name of the module: a tuple of tuples -/
structure Tups (K : PySem.W.Frag) (mg : Str → Option Value) (x : Str) (rows : List (List He.Dv)) : Prop where
  ex : ∃ (T : Addr) (as : List Addr), mg x = some (.ref T) ∧ as.length = rows.length ∧ ∀ H : Hp, SqT K H T (as.map V.ref) ∧ ∀ (i : Nat) (a : Addr) (r : List He.Dv), as[i]? = some a → rows[i]? = some r → SqT K H a (r.map (He.Dv.v K))
theorem tups_ok {K : PySem.W.Frag} {h : Heap} {mg : Str → Option Value} {x : Str} {rows : List (List He.Dv)} (X : K.In h) (G : h.Ns mainGlobals mg) (c : tupsB K x rows = true) : Tups K mg x rows := by
  unfold tupsB at c
  cases ens : PySem.W.nsIn K mainGlobals x with
  | none => rw [ens] at c; cases c
  | some o =>
    rw [ens] at c
    cases o with
    | none => cases c
    | some v =>
      cases v with
      | ref T =>
        have c2 : (match K.lookup T with
          | some ⟨.type c, _, .seq its _, _⟩ => decide (c = "tuple") && (decide (its.size ≤ sizeLine) && rowsB K its.toList rows)
          | _ => false) = true := c
        cases q : K.lookup T with
        | none => rw [q] at c2; cases c2
        | some o =>
          obtain ⟨oc, od, dt, osl⟩ := o
          rw [q] at c2
          cases oc with
          | type c =>
            cases dt with
            | seq its n =>
              obtain ⟨h1, h2⟩ := He.ba (show (decide (c = "tuple") && (decide (its.size ≤ sizeLine) && rowsB K its.toList rows)) = true from c2)
              obtain ⟨h3, h4⟩ := He.ba h2
              obtain ⟨as, e1, e2, e3⟩ := rows_ok h4
              exact ⟨T, as, PySem.W.mg_of X G ens, e2, fun H => ⟨.inr ⟨_, its, n, q, congrArg Value.type (of_decide_eq_true h1), rfl, of_decide_eq_true h3, e1⟩, fun i a r ha hr => e3 H i a r ha hr⟩⟩
            | _ => cases c2
          | _ => cases dt <;> cases c2
      | _ => cases c
/-! ### the Hook -/
abbrev AlM : Type := He.AlT × Bool
def as0 : List Addr := [3, 745, 746, 747, 748, 749, 750, 751, 752, 753, 754, 755, 756, 757, 758, 759, 760, 761, 762, 763, 764, 765, 279, 411, 478, 567, 679, 744, 72, 286, 79, 78, 86, 85, 93, 92, 100, 99, 107, 106]
def as1 : List Addr := [114, 113, 121, 120, 128, 127, 135, 134, 142, 141, 149, 148, 156, 155, 161, 160, 168, 167, 173, 172, 180, 179, 187, 186, 194, 193, 201, 200, 208, 207, 213, 212, 218, 217, 225, 224, 232, 231, 237, 236]
def as2 : List Addr := [244, 243, 251, 250, 256, 255, 261, 260, 266, 265, 271, 270, 278, 277, 291, 290, 298, 297, 305, 304, 312, 311, 317, 316, 322, 321, 329, 328, 336, 335, 343, 342, 350, 349, 355, 354, 362, 361, 369, 368]
def as3 : List Addr := [376, 375, 383, 382, 388, 387, 393, 392, 398, 397, 405, 404, 410, 409, 418, 417, 423, 422, 430, 429, 435, 434, 440, 439, 445, 444, 450, 449, 455, 454, 460, 459, 465, 464, 472, 471, 477, 476, 581, 580]
def as4 : List Addr := [485, 484, 492, 491, 499, 498, 504, 503, 511, 510, 516, 515, 521, 520, 526, 525, 533, 532, 540, 539, 547, 546, 552, 551, 559, 558, 566, 565, 574, 573, 586, 585, 593, 592, 600, 599, 607, 606, 612, 611]
def as5 : List Addr := [619, 618, 626, 625, 633, 632, 640, 639, 647, 646, 654, 653, 661, 660, 668, 667, 673, 672, 678, 677, 686, 685, 693, 692, 700, 699, 705, 704, 710, 709, 717, 716, 724, 723, 731, 730, 738, 737, 743, 742]
def as6 : List Addr := [772, 771, 779, 778, 786, 785, 15, 16, 17, 18, 19, 20, 21, 22, 23, 24, 25, 26, 27, 28, 29, 30, 31, 32, 33, 34, 35, 36, 37, 38, 39, 40, 41, 42, 43, 44, 45, 46, 47, 48]
def as7 : List Addr := [49, 50, 51, 52, 53, 54, 55, 56, 57, 58, 59, 60, 61, 62, 63, 64, 65, 66, 67, 68, 69, 70, 71, 280, 281, 282, 283, 284, 285]
def asM : List Addr := as0 ++ (as1 ++ (as2 ++ (as3 ++ (as4 ++ (as5 ++ (as6 ++ (as7)))))))
def obsM (g : Addr → Option Obj) : AlM := (He.obsT faL fnL tabL (He.frG g asM), exB (He.frG g asM))
def SaysM (w : World) (K : PySem.W.Frag) : Prop := He.SaysT faL fnL tabL w K ∧ exB K = true
def hookM : PySem.W.Hook where
  α := AlM
  obs := fun s => obsM s.heap.get?
  val := fun w => (He.valT fnL tabL w, true)
  says := fun w h => ∃ K : PySem.W.Frag, K.In h ∧ SaysM w K
  of := fun _ _ e => ⟨_, He.frG_in, ⟨congrArg (fun z : AlM => z.1) e, congrArg (fun z : AlM => z.2) e⟩⟩
  keeps := fun _ _ _ ⟨F0, hF0, c0⟩ k => ⟨F0, PySem.W.Frag.In.keeps hF0 k, c0⟩
end Sw
set_option Elab.async false
set_option linter.all false
set_option maxRecDepth 100000
set_option maxHeartbeats 0
namespace Sw
open PySem PySem.W PySem.Calls PyProof.Rows
abbrev R : OpenSpec := PySem.Challenge.rw_swaybits_s01_answers
abbrev qv : Program := view R.prog [147]
def obT (s : PySem.W.SharedT) : AlM := obsM (HandSHeadRun.getT s)
theorem obT_eq (s : PySem.W.SharedT) : obT s = hookM.obs s.abs := by
  have e : HandSHeadRun.getT s = s.abs.heap.get? := funext (HandSHeadRun.getT_eq s)
  unfold obT
  rw [e]
  rfl
theorem run0 (w : World) : HandSHeadRun.RunEqS R qv hookM obT 5200 names (w.withFollow "special-get-raises" false) := by
  intro os
  kernel_rfl
theorem run1 (w : World) : HandSHeadRun.RunEqS R qv hookM obT 5200 names (w.withFollow "special-get-raises" true) := by
  intro os
  kernel_rfl
theorem run (w : World) : HandSHeadRun.RunEqS R qv hookM obT 5200 names w := byRow2 "special-get-raises" (P := fun w => HandSHeadRun.RunEqS R qv hookM obT 5200 names w) run0 run1 w
end Sw
set_option Elab.async false
set_option linter.all false
set_option maxRecDepth 100000
set_option maxHeartbeats 2000000
set_option exponentiation.threshold 3000
namespace Sw
open PySem PySem.Spec PyProof.Rows L2 Kx
open Evl (given given_yes given_no given_len)
section
variable {P : Program} {w : World} {K : PySem.W.Frag} {mg : Str → Option Value} {base : Heap}
theorem le5 {n : Nat} (h : n ≤ 100000) : n ≤ 100000 := h
/-! ### refused -/
def pRefused (vs : List V) (_ : Hp) (k : Kd) : Prop := ∃ i : Int, vs = [.int i] ∧ k = .ob (.lst [.int (-i)])
theorem sc11 : FnScope ["number"] ["number"] (defScope (top 11)) := ⟨rfl, rfl, rfl, by decide +kernel, rfl, by decide +kernel, by decide +kernel⟩
theorem c_refused (D : DefAt K mg "refused" (top 11)) : Cal P w K mg base 1 "refused" (SpK pRefused) := by
  refine cal_pure (ps := ["number"]) D sc11 (fun _ _ _ _ _ _ us hl => match us, hl with | [_], _ => rfl) (fun vs H k ⟨i, e, _⟩ => by rw [e]; rfl) fun f cdv A outer s H vs E k hr ⟨i, e, ek⟩ => ?_
  subst e ek
  exact gb_ret (gv_lst (vs := [.int (-i)]) (ga_cons (gv_neg (gv_var 0)) ga_nil) (Nat.le_of_ble_eq_true rfl))
/-! ### bits_set -/
def pBits (vs : List V) (_ : Hp) (k : Kd) : Prop := ∃ x : Nat, vs = [.int x] ∧ x < 32 ∧ k = .is (.int (Mt.bc x : Nat))
theorem sc12 : FnScope ["word", "count"] ["word"] (defScope (top 12)) := ⟨rfl, rfl, rfl, by decide +kernel, rfl, by decide +kernel, by decide +kernel⟩
theorem bc_half : ∀ x, x < 32 → Mt.bc x = (x &&& 1) + Mt.bc (x >>> 1) := by decide +kernel
theorem shr1 (x : Nat) : x >>> 1 = x / 2 := by rw [Nat.shiftRight_eq_div_pow]
theorem c_bits (D : DefAt K mg "bits_set" (top 12)) : Cal P w K mg base 1 "bits_set" (SpK pBits) := by
  refine cal_pure (ps := ["word"]) D sc12 (fun _ _ _ _ _ _ us hl => match us, hl with | [_], _ => rfl) (fun vs H k ⟨i, e, _⟩ => by rw [e]; rfl) fun f cdv A outer s H vs E k hr ⟨x, e, hx, ek⟩ => ?_
  subst e ek
  refine gb_set 1 sc12.nd gv_int ?_
  refine gb_while PassesOwn.never (fun m σ => ∃ c : Nat, m ≤ x ∧ c + Mt.bc m = Mt.bc x ∧ σ = [some (.int m), some (.int c)]) x ⟨0, Nat.le_refl _, Nat.zero_add _, rfl⟩ ?_
  rintro m σ ⟨c, hy, hc, rfl⟩
  refine ⟨decide ((0 : Int) < m), gt_gt (gv_var 0) gv_int, fun hd => ?_, fun hd => ?_⟩
  · have h0 : 0 < m := by have := of_decide_eq_true hd; omega
    refine gb_set 1 sc12.nd (gv_addN (gv_var 1) (gv_bandN (n := 1) (gv_var 0) gv_int)) ?_
    refine gb_set 0 sc12.nd (gv_shrN (n := 1) (gv_var 0) gv_int) (gb_nil ⟨m >>> 1, ?_, c + (m &&& 1), ?_, ?_, rfl⟩)
    · rw [shr1]; omega
    · rw [shr1]; omega
    · have := bc_half m (by omega)
      omega
  · have h0 : m = 0 := by have := of_decide_eq_false hd; omega
    subst h0
    refine gb_ret ((gv_var 1).is_to ?_)
    have : Mt.bc 0 = 0 := by decide
    rw [← hc, this, Nat.add_zero]
theorem gv_bits {X : Cx} {σ : L2.St} {H : Hp} {j : Nat} {e : Expr} {p pos : Pos} {x : Nat} (c : Cal X.prog X.w X.K X.mg X.base 1 "bits_set" (SpK pBits)) (hr : Room j X.A) (hj : 1 ≤ j) (h : Gv (cE X e) σ H (.is (.int x))) (hx : x < 32) (hg : Gl X "bits_set" := by rfl) (hs : starEach [e] X.env = (false, eval e X.env) :: starEach [] X.env := by rfl) (hpl : (backTo pos (starEach [] X.env)).any (·.1) = false := by rfl) :
    Gv (cE X (.Call (.Name "bits_set" p) [e] [] pos)) σ H (.is (.int (Mt.bc x : Nat))) :=
  gv_calv (us := [.int x]) c hr hj (ga_cons h ga_nil hs) (fun _ _ => ⟨x, rfl, hx, rfl⟩) hg (by decide) hs hpl
/-! ### turned -/
def pTurned (vs : List V) (_ : Hp) (k : Kd) : Prop := ∃ x i : Nat, vs = [.int x, .int i] ∧ x < 32 ∧ i < 5 ∧ k = .is (.int (Krdk.flip x i : Nat))
theorem sc13 : FnScope ["word", "bit"] ["word", "bit"] (defScope (top 13)) := ⟨rfl, rfl, rfl, by decide +kernel, rfl, by decide +kernel, by decide +kernel⟩
theorem shl1 (i : Nat) : 1 <<< i = 2 ^ i := by rw [Nat.shiftLeft_eq, Nat.one_mul]
theorem c_turned (D : DefAt K mg "turned" (top 13)) : Cal P w K mg base 1 "turned" (SpK pTurned) := by
  refine cal_pure (ps := ["word", "bit"]) D sc13 (fun _ _ _ _ _ _ us hl => match us, hl with | [_, _], _ => rfl) (fun vs H k ⟨x, i, e, _⟩ => by rw [e]; rfl) fun f cdv A outer s H vs E k hr ⟨x, i, e, hx, hi, ek⟩ => ?_
  subst e ek
  refine gb_ret ((gv_xorN (gv_var 0) (gv_shlN (m := 1) gv_int (gv_var 1) (by decide) (by omega))).is_to ?_)
  rw [shl1, Mt.flip_xor x hx i hi]
theorem gv_turned {X : Cx} {σ : L2.St} {H : Hp} {j : Nat} {a b : Expr} {p pos : Pos} {x i : Nat} (c : Cal X.prog X.w X.K X.mg X.base 1 "turned" (SpK pTurned)) (hr : Room j X.A) (hj : 1 ≤ j) (ha : Gv (cE X a) σ H (.is (.int x))) (hb : Gv (cE X b) σ H (.is (.int i))) (hx : x < 32) (hi : i < 5) (hg : Gl X "turned" := by rfl)
    (hs : starEach [a, b] X.env = (false, eval a X.env) :: starEach [b] X.env := by rfl) (hs2 : starEach [b] X.env = (false, eval b X.env) :: starEach [] X.env := by rfl) (hpl : (backTo pos (starEach [b] X.env)).any (·.1) = false := by rfl) :
    Gv (cE X (.Call (.Name "turned" p) [a, b] [] pos)) σ H (.is (.int (Krdk.flip x i : Nat))) :=
  gv_calv (us := [.int x, .int i]) c hr hj (ga_cons ha (ga_cons hb ga_nil hs2) hs) (fun _ _ => ⟨x, i, rfl, hx, hi, rfl⟩) hg (by decide) hs hpl
/-! ### meets_oddly -/
def pOdd (vs : List V) (_ : Hp) (k : Kd) : Prop := ∃ n x s : Nat, vs = [.int x, .int s] ∧ n ≤ 5 ∧ x < 2 ^ n ∧ s < 2 ^ n ∧ k = .is (.int (Krdk.meet n s x % 2 : Nat))
theorem sc14 : FnScope ["word", "chosen"] ["word", "chosen"] (defScope (top 14)) := ⟨rfl, rfl, rfl, by decide +kernel, rfl, by decide +kernel, by decide +kernel⟩
theorem c_odd (D : DefAt K mg "meets_oddly" (top 14)) (cb : Cal P w K mg base 1 "bits_set" (SpK pBits)) : Cal P w K mg base 2 "meets_oddly" (SpK pOdd) := by
  refine cal_pure (ps := ["word", "chosen"]) D sc14 (fun _ _ _ _ _ _ us hl => match us, hl with | [_, _], _ => rfl) (fun vs H k ⟨n, x, i, e, _⟩ => by rw [e]; rfl) fun f cdv A outer s H vs E k hr ⟨n, x, i, e, hn, hx, hi, ek⟩ => ?_
  subst e ek
  refine gb_ret ((gv_mod (gv_bits cb hr (by decide) (gv_bandN (gv_var 0) (gv_var 1)) (Mt.p32 hn (Mt.and_lt n hn x hx i hi))) gv_int (by decide)).is_to ?_)
  rw [Mt.meet_bc n hn i hi x hx]
  simp
theorem gv_odd {X : Cx} {σ : L2.St} {H : Hp} {j : Nat} {a b : Expr} {p pos : Pos} {n x i : Nat} (c : Cal X.prog X.w X.K X.mg X.base 2 "meets_oddly" (SpK pOdd)) (hr : Room j X.A) (hj : 2 ≤ j) (ha : Gv (cE X a) σ H (.is (.int x))) (hb : Gv (cE X b) σ H (.is (.int i))) (hn : n ≤ 5) (hx : x < 2 ^ n) (hi : i < 2 ^ n) (hg : Gl X "meets_oddly" := by rfl)
    (hs : starEach [a, b] X.env = (false, eval a X.env) :: starEach [b] X.env := by rfl) (hs2 : starEach [b] X.env = (false, eval b X.env) :: starEach [] X.env := by rfl) (hpl : (backTo pos (starEach [b] X.env)).any (·.1) = false := by rfl) :
    Gv (cE X (.Call (.Name "meets_oddly" p) [a, b] [] pos)) σ H (.is (.int (Krdk.meet n i x % 2 : Nat))) :=
  gv_calv (us := [.int x, .int i]) c hr hj (ga_cons ha (ga_cons hb ga_nil hs2) hs) (fun _ _ => ⟨n, x, i, rfl, hn, hx, hi, rfl⟩) hg (by decide) hs hpl
/-! ### power -/
def pPower (vs : List V) (_ : Hp) (k : Kd) : Prop := ∃ (b : Int) (n : Nat), vs = [.int b, .int n] ∧ b.natAbs < 2 ^ 50 ∧ n ≤ 10 ∧ k = .is (.int (b ^ n))
theorem sc15 : FnScope ["base", "times", "product", "step"] ["base", "times"] (defScope (top 15)) := ⟨rfl, rfl, rfl, by decide +kernel, rfl, by decide +kernel, by decide +kernel⟩
theorem pow_abs {b : Int} (h : b.natAbs < 2 ^ 50) (n : Nat) (hn : n ≤ 10) : (b ^ n).natAbs < 2 ^ 501 := by
  rw [Int.natAbs_pow]
  have h1 : b.natAbs ^ n ≤ (2 ^ 50) ^ n := Nat.pow_le_pow_left (Nat.le_of_lt h) n
  have h2 : (2 ^ 50) ^ n ≤ (2 ^ 50) ^ 10 := Nat.pow_le_pow_right (by decide) hn
  have h3 : ((2 ^ 50) ^ 10 : Nat) < 2 ^ 501 := by decide
  omega
theorem c_power (B : Bl mg) (D : DefAt K mg "power" (top 15)) : Cal P w K mg base 1 "power" (SpK pPower) := by
  refine cal_pure (ps := ["base", "times"]) D sc15 (fun _ _ _ _ _ _ us hl => match us, hl with | [_, _], _ => rfl) (fun vs H k ⟨b, n, e, _⟩ => by rw [e]; rfl) fun f cdv A outer s H vs E k hr ⟨b, n, e, hb, hn, ek⟩ => ?_
  subst e ek
  refine gb_set 2 sc15.nd gv_int ?_
  refine gb_forR 3 rfl sc15.nd B.range (gv_var 1) (by omega) (fun i σ => ∃ u, σ = [some (.int b), some (.int n), some (.int (b ^ i)), u]) ⟨none, by rw [Int.pow_zero]; rfl⟩ ?_ ?_ PassesOwn.never
  · rintro i σ hi ⟨u, rfl⟩
    refine gb_set 2 sc15.nd (gv_mul (gv_var 2) (gv_var 0) (wide_mul (pow_abs hb i (by omega)) hb (by decide) (by decide) (by decide))) (gb_nil ⟨some (.int i), ?_⟩)
    rw [Int.pow_succ]
    rfl
  · rintro σ ⟨u, rfl⟩
    exact gb_ret ((gv_var 2).is_to (by simp))
theorem gv_power {X : Cx} {σ : L2.St} {H : Hp} {j : Nat} {a b : Expr} {p pos : Pos} {z : Int} {n : Nat} (c : Cal X.prog X.w X.K X.mg X.base 1 "power" (SpK pPower)) (hr : Room j X.A) (hj : 1 ≤ j) (ha : Gv (cE X a) σ H (.is (.int z))) (hb : Gv (cE X b) σ H (.is (.int n))) (hz : z.natAbs < 2 ^ 50) (hn : n ≤ 10) (hg : Gl X "power" := by rfl)
    (hs : starEach [a, b] X.env = (false, eval a X.env) :: starEach [b] X.env := by rfl) (hs2 : starEach [b] X.env = (false, eval b X.env) :: starEach [] X.env := by rfl) (hpl : (backTo pos (starEach [b] X.env)).any (·.1) = false := by rfl) :
    Gv (cE X (.Call (.Name "power" p) [a, b] [] pos)) σ H (.is (.int (z ^ n))) :=
  gv_calv (us := [.int z, .int n]) c hr hj (ga_cons ha (ga_cons hb ga_nil hs2) hs) (fun _ _ => ⟨z, n, rfl, hz, hn, rfl⟩) hg (by decide) hs hpl
/-! ### lowest -/
def pLow (vs : List V) (_ : Hp) (k : Kd) : Prop := ∃ u l : Int, vs = [.int u, .int l] ∧ 0 < l ∧ u.natAbs < 2 ^ 2000 ∧ l.natAbs < 2 ^ 2000 ∧ k = .ob (.lst ((Mt.low u l).map .int))
theorem sc16 : FnScope ["upper", "lower", "divisor", "rest"] ["upper", "lower"] (defScope (top 16)) := ⟨rfl, rfl, rfl, by decide +kernel, rfl, by decide +kernel, by decide +kernel⟩
theorem low_gcd (u l : Int) (h : 0 < l) : Mt.low u l = [u / (Nat.gcd u.natAbs l.natAbs : Nat), l / (Nat.gcd u.natAbs l.natAbs : Nat)] := by
  obtain ⟨d, rfl⟩ : ∃ d : Nat, l = d := ⟨l.toNat, by omega⟩
  have hd : d ≠ 0 := by omega
  unfold Mt.low Krdk.fr
  have e : (u : Rat) / (((d : Nat) : Int) : Rat) = mkRat u d := by
    rw [Rat.mkRat_eq_div]
    rfl
  rw [e, Rat.num_mkRat, Rat.den_mkRat, if_neg hd, if_neg hd]
  simp only [Int.natAbs_natCast]
  rw [Nat.gcd_comm d u.natAbs]
  simp
theorem c_low (B : Bl mg) (D : DefAt K mg "lowest" (top 16)) : Cal P w K mg base 1 "lowest" (SpK pLow) := by
  refine cal_pure (ps := ["upper", "lower"]) D sc16 (fun _ _ _ _ _ _ us hl => match us, hl with | [_, _], _ => rfl) (fun vs H k ⟨b, n, e, _⟩ => by rw [e]; rfl) fun f cdv A outer s H vs E k hr ⟨u, l, e, hl, ha, hb, ek⟩ => ?_
  subst e ek
  rw [low_gcd u l hl]
  refine gb_set 2 sc16.nd (gv_var 1) ?_
  refine gb_set 3 sc16.nd (gv_abs B (gv_var 0)) ?_
  refine gb_while PassesOwn.never (fun m σ => ∃ d : Nat, 0 < d ∧ (d < 2 ^ 2000 ∧ m < 2 ^ 2000) ∧ d.gcd m = Nat.gcd u.natAbs l.natAbs ∧ σ = [some (.int u), some (.int l), some (.int d), some (.int m)]) u.natAbs ⟨l.natAbs, by omega, ⟨hb, ha⟩, Nat.gcd_comm _ _, ?_⟩ ?_
  · have : ((l.natAbs : Nat) : Int) = l := by omega
    rw [this]
    rfl
  · rintro m σ ⟨d, hd0, ⟨hd1, hm1⟩, hg, rfl⟩
    refine ⟨decide ((0 : Int) < m), gt_gt (gv_var 3) gv_int, fun hd => ?_, fun hz => ?_⟩
    · have h0 : 0 < m := by have := of_decide_eq_true hd; omega
      refine gb_par 2 3 rfl sc16.nd (gv_var 3) (gv_mod (gv_var 2) (gv_var 3) (by omega)) (gb_nil ⟨d % m, Nat.mod_lt _ h0, m, h0, ⟨hm1, Nat.lt_of_le_of_lt (Nat.mod_le _ _) hd1⟩, ?_, rfl⟩) (by decide)
      · rw [Nat.gcd_comm, ← Nat.gcd_rec, Nat.gcd_comm]; exact hg
    · have h0 : m = 0 := by have := of_decide_eq_false hz; omega
      subst h0
      rw [Nat.gcd_zero_right] at hg
      subst hg
      have hw : ∀ z : Int, CDivW z ((Nat.gcd u.natAbs l.natAbs : Nat) : Int) := fun z => wide_div (by omega) (b := 2000) (by simpa using hd1) (by decide) (by decide)
      refine gb_ret (gv_lst (vs := [.int _, .int _]) (ga_cons (gv_fdiv (gv_var 0) (gv_var 2) (hw _)) (ga_cons (gv_fdiv (gv_var 1) (gv_var 2) (hw _)) ga_nil)) (Nat.le_of_ble_eq_true rfl))
theorem gv_low {X : Cx} {σ : L2.St} {H : Hp} {j : Nat} {a b : Expr} {p pos : Pos} {u l : Int} (c : Cal X.prog X.w X.K X.mg X.base 1 "lowest" (SpK pLow)) (hr : Room j X.A) (hj : 1 ≤ j) (ha : Gv (cE X a) σ H (.is (.int u))) (hb : Gv (cE X b) σ H (.is (.int l))) (h0 : 0 < l) (hu : u.natAbs < 2 ^ 2000) (hl : l.natAbs < 2 ^ 2000) (hg : Gl X "lowest" := by rfl)
    (hs : starEach [a, b] X.env = (false, eval a X.env) :: starEach [b] X.env := by rfl) (hs2 : starEach [b] X.env = (false, eval b X.env) :: starEach [] X.env := by rfl) (hpl : (backTo pos (starEach [b] X.env)).any (·.1) = false := by rfl) :
    Gv (cE X (.Call (.Name "lowest" p) [a, b] [] pos)) σ H (.ob (.lst ((Mt.low u l).map .int))) :=
  gv_calv (us := [.int u, .int l]) c hr hj (ga_cons ha (ga_cons hb ga_nil hs2) hs) (fun _ _ => ⟨u, l, rfl, h0, hu, hl, rfl⟩) hg (by decide) hs hpl
end
end Sw
set_option Elab.async false
set_option linter.all false
set_option maxRecDepth 100000
set_option maxHeartbeats 2000000
set_option exponentiation.threshold 3000
namespace Sw
open PySem PySem.Spec PyProof.Rows L2 Kx
open Evl (given given_yes given_no given_len)
open Mt (W S swc pt)
/-- what the program holds of an answer, as values -/
def SV (f : Krdk.Answer) : List V := (S f).map .int
theorem SV_len {f : Krdk.Answer} (w : W f) : (SV f).length = 2 ^ f.n := by unfold SV; rw [List.length_map, Mt.S_len w]
theorem SV_at {f : Krdk.Answer} (w : W f) {x : Nat} (h : x < 2 ^ f.n) : (SV f)[x]? = some (.int (Mt.b2i (f.at_ x))) := by
  unfold SV
  rw [List.getElem?_map, Mt.S_at w h]
  rfl
theorem SV_of {f : Krdk.Answer} (w : W f) {x : Nat} {v : V} (h : (SV f)[x]? = some v) : x < 2 ^ f.n ∧ v = .int (Mt.b2i (f.at_ x)) := by
  have h1 : x < (SV f).length := (List.getElem?_eq_some_iff.mp h).1
  rw [SV_len w] at h1
  rw [SV_at w h1] at h
  exact ⟨h1, (Option.some.inj h).symm⟩
theorem p2le {n : Nat} (h : n ≤ 5) : 2 ^ n ≤ 32 := Nat.pow_le_pow_right (by decide) h
theorem SV_le {f : Krdk.Answer} (w : W f) : (SV f).length ≤ 100000 := by
  rw [SV_len w]
  have := p2le w.n5
  omega
/-- ints of numbers -/
def NV (l : List Nat) : List V := l.map fun (x : Nat) => V.int (x : Int)
theorem NV_len (l : List Nat) : (NV l).length = l.length := by unfold NV; rw [List.length_map]
theorem NV_ints (l : List Nat) : NV l = (Krdk.ints l).map .int := by unfold NV Krdk.ints; rw [List.map_map]; rfl
section
variable {P : Program} {w : World} {K : PySem.W.Frag} {mg : Str → Option Value} {base : Heap}
/-! ### swayed -/
def pSwayed (K : PySem.W.Frag) (vs : List V) (H : Hp) (k : Kd) : Prop := ∃ (a : Addr) (f : Krdk.Answer) (i : Nat), vs = [.ref a, .int i] ∧ Seq K H a (SV f) ∧ W f ∧ i < f.n ∧ k = .ob (.lst (NV ((Krdk.words f.n).filter (f.sways i))))
theorem sc25 : FnScope ["says", "bit", "word", "said"] ["says", "bit"] (defScope (top 25)) := ⟨rfl, rfl, rfl, by decide +kernel, rfl, by decide +kernel, by decide +kernel⟩
theorem b2i_ne (a b : Bool) : (Mt.b2i a != Mt.b2i b) = (a != b) := by cases a <;> cases b <;> rfl
theorem c_swayed (B : Bl mg) (D : DefAt K mg "swayed" (top 25)) (ct : Cal P w K mg base 1 "turned" (SpK pTurned)) : Cal P w K mg base 2 "swayed" (SpK (pSwayed K)) := by
  refine cal_pure (ps := ["says", "bit"]) D sc25 (fun _ _ _ _ _ _ us hl => match us, hl with | [_, _], _ => rfl) (fun vs H k ⟨_, _, _, e, _⟩ => by rw [e]; rfl) fun f cdv A outer s H vs E k hr ⟨a, f, i, e, hq, wf, hi, ek⟩ => ?_
  subst e ek
  have hn := wf.n5
  refine gb_ret ((gv_lcES 2 3 rfl sc25.nd B.enum (gv_var 0) hq (SV_le wf) (blkOk_by (own := [("word", 2), ("said", 3)]) (N := ["says", "bit", "word", "said"]) (sc := defScope (top 25)) (by decide +kernel)) (fun _ _ _ _ _ => pg2 2 3 rfl sc25.nd) pts_c (f.sways i) (fun x => .int (x : Int)) (fun _ _ => rfl) (fun x v hv => ?_) (fun x v hv _ => gv_cF fun _ _ _ _ _ => gv_var 2)).to ?_)
  · obtain ⟨hx, rfl⟩ := SV_of wf hv
    refine (gt_cF fun _ _ _ _ _ => gt_ne (gv_var 3) (gv_ixS (gv_var 0) hq (gv_turned ct hr (by decide) (gv_var 2) (gv_var 1) (Mt.p32 hn hx) (by omega)) (atI_nat (SV_at wf (Mt.flip_lt f.n hn x hx i hi))))).to ?_
    exact b2i_ne _ _
  · rw [SV_len wf]
    rfl
theorem gv_swayed {X : Cx} {σ : L2.St} {H : Hp} {j : Nat} {a b : Expr} {p pos : Pos} {q : Addr} {f : Krdk.Answer} {i : Nat} (c : Cal X.prog X.w X.K X.mg X.base 2 "swayed" (SpK (pSwayed X.K))) (hr : Room j X.A) (hj : 2 ≤ j) (ha : Gv (cE X a) σ H (.is (.ref q))) (hb : Gv (cE X b) σ H (.is (.int i))) (hq : Seq X.K H q (SV f)) (wf : W f) (hi : i < f.n) (hg : Gl X "swayed" := by rfl)
    (hs : starEach [a, b] X.env = (false, eval a X.env) :: starEach [b] X.env := by rfl) (hs2 : starEach [b] X.env = (false, eval b X.env) :: starEach [] X.env := by rfl) (hpl : (backTo pos (starEach [b] X.env)).any (·.1) = false := by rfl) :
    Gv (cE X (.Call (.Name "swayed" p) [a, b] [] pos)) σ H (.ob (.lst (NV ((Krdk.words f.n).filter (f.sways i))))) :=
  gv_calv (us := [.ref q, .int i]) c hr hj (ga_cons ha (ga_cons hb ga_nil hs2) hs) (fun _ s => ⟨q, f, i, rfl, hq.same s, wf, hi, rfl⟩) hg (by decide) hs hpl
/-! ### sways -/
def pSways (K : PySem.W.Frag) (vs : List V) (H : Hp) (k : Kd) : Prop := ∃ (a : Addr) (f : Krdk.Answer) (i : Nat), vs = [.ref a, .int i] ∧ Seq K H a (SV f) ∧ W f ∧ i < f.n ∧ k = .is (.int (swc f i : Nat))
theorem sc26 : FnScope ["says", "bit"] ["says", "bit"] (defScope (top 26)) := ⟨rfl, rfl, rfl, by decide +kernel, rfl, by decide +kernel, by decide +kernel⟩
theorem c_sways (B : Bl mg) (D : DefAt K mg "sways" (top 26)) (c1 : Cal P w K mg base 2 "swayed" (SpK (pSwayed K))) : Cal P w K mg base 3 "sways" (SpK (pSways K)) := by
  refine cal_pure (ps := ["says", "bit"]) D sc26 (fun _ _ _ _ _ _ us hl => match us, hl with | [_, _], _ => rfl) (fun vs H k ⟨_, _, _, e, _⟩ => by rw [e]; rfl) fun f cdv A outer s H vs E k hr ⟨a, f, i, e, hq, wf, hi, ek⟩ => ?_
  subst e ek
  refine gb_ret ((gv_lenL B (gv_swayed c1 hr (by decide) (gv_var 0) (gv_var 1) hq wf hi) .new).is_to ?_)
  rw [NV_len]
  rfl
theorem gv_sways {X : Cx} {σ : L2.St} {H : Hp} {j : Nat} {a b : Expr} {p pos : Pos} {q : Addr} {f : Krdk.Answer} {i : Nat} (c : Cal X.prog X.w X.K X.mg X.base 3 "sways" (SpK (pSways X.K))) (hr : Room j X.A) (hj : 3 ≤ j) (ha : Gv (cE X a) σ H (.is (.ref q))) (hb : Gv (cE X b) σ H (.is (.int i))) (hq : Seq X.K H q (SV f)) (wf : W f) (hi : i < f.n) (hg : Gl X "sways" := by rfl)
    (hs : starEach [a, b] X.env = (false, eval a X.env) :: starEach [b] X.env := by rfl) (hs2 : starEach [b] X.env = (false, eval b X.env) :: starEach [] X.env := by rfl) (hpl : (backTo pos (starEach [b] X.env)).any (·.1) = false := by rfl) :
    Gv (cE X (.Call (.Name "sways" p) [a, b] [] pos)) σ H (.is (.int (swc f i : Nat))) :=
  gv_calv (us := [.ref q, .int i]) c hr hj (ga_cons ha (ga_cons hb ga_nil hs2) hs) (fun _ s => ⟨q, f, i, rfl, hq.same s, wf, hi, rfl⟩) hg (by decide) hs hpl
/-! ### all_sways -/
def pAllSways (K : PySem.W.Frag) (vs : List V) (H : Hp) (k : Kd) : Prop := ∃ (a : Addr) (f : Krdk.Answer), vs = [.int f.n, .ref a] ∧ Seq K H a (SV f) ∧ W f ∧ k = .ob (.lst (NV ((List.range f.n).map (swc f))))
theorem sc27 : FnScope ["bits", "says", "bit"] ["bits", "says"] (defScope (top 27)) := ⟨rfl, rfl, rfl, by decide +kernel, rfl, by decide +kernel, by decide +kernel⟩
theorem c_allsways (B : Bl mg) (D : DefAt K mg "all_sways" (top 27)) (c1 : Cal P w K mg base 3 "sways" (SpK (pSways K))) : Cal P w K mg base 4 "all_sways" (SpK (pAllSways K)) := by
  refine cal_pure (ps := ["bits", "says"]) D sc27 (fun _ _ _ _ _ _ us hl => match us, hl with | [_, _], _ => rfl) (fun vs H k ⟨_, _, e, _⟩ => by rw [e]; rfl) fun f cdv A outer s H vs E k hr ⟨a, f, e, hq, wf, ek⟩ => ?_
  subst e ek
  have hn := wf.n5
  refine gb_ret (Gv.to (gv_lcR (N := f.n) 2 rfl sc27.nd B.range (gv_var 0) (by omega) (blkOk_by (own := [("bit", 2)]) (N := ["bits", "says", "bit"]) (sc := defScope (top 27)) (by decide +kernel)) (fun _ _ _ _ _ => pg_name (i := 2) sc27.nd rfl (Or.inl rfl)) (fun _ _ _ _ _ => pts_nil)
    (fun _ => true) (fun i => .int (swc f i : Nat)) (fun _ => rfl) (fun _ _ => gt_yes) (fun i hi _ => gv_cF fun _ _ _ _ _ => gv_sways c1 hr (by decide) (gv_var 1) (gv_var 2) hq wf (by omega))) ?_)
  rw [given_all, Int.toNat_natCast]
  unfold NV
  rw [List.map_map]
  rfl
theorem gv_allsways {X : Cx} {σ : L2.St} {H : Hp} {j : Nat} {a b : Expr} {p pos : Pos} {q : Addr} {f : Krdk.Answer} (c : Cal X.prog X.w X.K X.mg X.base 4 "all_sways" (SpK (pAllSways X.K))) (hr : Room j X.A) (hj : 4 ≤ j) (ha : Gv (cE X a) σ H (.is (.int f.n))) (hb : Gv (cE X b) σ H (.is (.ref q))) (hq : Seq X.K H q (SV f)) (wf : W f) (hg : Gl X "all_sways" := by rfl)
    (hs : starEach [a, b] X.env = (false, eval a X.env) :: starEach [b] X.env := by rfl) (hs2 : starEach [b] X.env = (false, eval b X.env) :: starEach [] X.env := by rfl) (hpl : (backTo pos (starEach [b] X.env)).any (·.1) = false := by rfl) :
    Gv (cE X (.Call (.Name "all_sways" p) [a, b] [] pos)) σ H (.ob (.lst (NV ((List.range f.n).map (swc f))))) :=
  gv_calv (us := [.int f.n, .ref q]) c hr hj (ga_cons ha (ga_cons hb ga_nil hs2) hs) (fun _ s => ⟨q, f, rfl, hq.same s, wf, rfl⟩) hg (by decide) hs hpl
end
end Sw
set_option Elab.async false
set_option linter.all false
set_option maxRecDepth 100000
set_option maxHeartbeats 2000000
set_option exponentiation.threshold 3000
namespace Sw
open PySem PySem.Spec PyProof.Rows L2 Kx
open Evl (given given_yes given_no given_len)
open Mt (W S swc pt)
theorem lowb {z : Int} (h : z.natAbs < 2 ^ 100) : z.natAbs < 2 ^ 2000 := Nat.lt_of_lt_of_le h (Nat.pow_le_pow_right (by decide) (by decide))
theorem swc_le {f : Krdk.Answer} (i : Nat) : swc f i ≤ 2 ^ f.n := by
  unfold Mt.swc
  have h := List.length_filter_le (f.sways i) (Krdk.words f.n)
  simpa [Krdk.words] using h
theorem sum_le {l : List Nat} {m : Nat} (h : ∀ x ∈ l, x ≤ m) : l.sum ≤ l.length * m := by
  induction l with
  | nil => simp
  | cons y l ih =>
    rw [List.sum_cons, List.length_cons, Nat.succ_mul]
    have h1 := h y (List.mem_cons_self ..)
    have h2 := ih fun x hx => h x (List.mem_cons_of_mem _ hx)
    omega
theorem sum_ints (l : List Nat) : (Krdk.ints l).sum = ((l.sum : Nat) : Int) := by
  induction l with
  | nil => rfl
  | cons y l ih =>
    show ((y : Int) :: Krdk.ints l).sum = _
    rw [List.sum_cons, ih, List.sum_cons]
    omega
section
variable {P : Program} {w : World} {K : PySem.W.Frag} {mg : Str → Option Value} {base : Heap}
theorem allsw_le {f : Krdk.Answer} (wf : W f) : ((List.range f.n).map (swc f)).sum ≤ 160 := by
  have h := sum_le (l := (List.range f.n).map (swc f)) (m := 2 ^ f.n) fun x hx => by
    obtain ⟨i, _, rfl⟩ := List.mem_map.mp hx
    exact swc_le i
  rw [List.length_map, List.length_range] at h
  have h5 := wf.n5
  have h2 := p2le h5
  have : f.n * 2 ^ f.n ≤ 5 * 32 := Nat.mul_le_mul h5 h2
  omega
/-! ### together -/
def pTogether (K : PySem.W.Frag) (vs : List V) (H : Hp) (k : Kd) : Prop := ∃ (a : Addr) (f : Krdk.Answer), vs = [.int f.n, .ref a] ∧ Seq K H a (SV f) ∧ W f ∧ k = .ob (.lst ((Krdk.fr f.all).map .int))
theorem sc29 : FnScope ["bits", "says"] ["bits", "says"] (defScope (top 29)) := ⟨rfl, rfl, rfl, by decide +kernel, rfl, by decide +kernel, by decide +kernel⟩
theorem p2int (n : Nat) : (0 : Int) < ((2 ^ n : Nat) : Int) := by
  have := Nat.pow_pos (n := n) (show 0 < 2 by decide)
  omega
theorem p2b {n : Nat} (h : n ≤ 5) : (((2 ^ n : Nat) : Int)).natAbs < 2 ^ 2000 := lowb (by have := p2le h; simp only [Int.natAbs_natCast]; omega)
theorem c_together (B : Bl mg) (D : DefAt K mg "together" (top 29)) (c1 : Cal P w K mg base 4 "all_sways" (SpK (pAllSways K))) (c2 : Cal P w K mg base 1 "lowest" (SpK pLow)) : Cal P w K mg base 5 "together" (SpK (pTogether K)) := by
  refine cal_pure (ps := ["bits", "says"]) D sc29 (fun _ _ _ _ _ _ us hl => match us, hl with | [_, _], _ => rfl) (fun vs H k ⟨_, _, e, _⟩ => by rw [e]; rfl) fun f cdv A outer s H vs E k hr ⟨a, f, e, hq, wf, ek⟩ => ?_
  subst e ek
  have hs := allsw_le wf
  refine gb_ret (Gv.to (gv_low (u := (Krdk.ints ((List.range f.n).map (swc f))).sum) (l := ((2 ^ f.n : Nat) : Int)) c2 hr (by decide) (gv_sumL rfl B (gv_allsways c1 hr (by decide) (gv_var 0) (gv_var 1) hq wf) (by rw [NV_ints]; exact .new)) ((gv_lenS B (gv_var 1) hq).is_to (by rw [SV_len wf])) (p2int _) (lowb ?_) (p2b wf.n5)) ?_)
  · rw [sum_ints]; simp only [Int.natAbs_natCast]; omega
  · rw [sum_ints, Mt.low_all]
theorem gv_together {X : Cx} {σ : L2.St} {H : Hp} {j : Nat} {a b : Expr} {p pos : Pos} {q : Addr} {f : Krdk.Answer} (c : Cal X.prog X.w X.K X.mg X.base 5 "together" (SpK (pTogether X.K))) (hr : Room j X.A) (hj : 5 ≤ j) (ha : Gv (cE X a) σ H (.is (.int f.n))) (hb : Gv (cE X b) σ H (.is (.ref q))) (hq : Seq X.K H q (SV f)) (wf : W f) (hg : Gl X "together" := by rfl)
    (hs : starEach [a, b] X.env = (false, eval a X.env) :: starEach [b] X.env := by rfl) (hs2 : starEach [b] X.env = (false, eval b X.env) :: starEach [] X.env := by rfl) (hpl : (backTo pos (starEach [b] X.env)).any (·.1) = false := by rfl) :
    Gv (cE X (.Call (.Name "together" p) [a, b] [] pos)) σ H (.ob (.lst ((Krdk.fr f.all).map .int))) :=
  gv_calv (us := [.int f.n, .ref q]) c hr hj (ga_cons ha (ga_cons hb ga_nil hs2) hs) (fun _ s => ⟨q, f, rfl, hq.same s, wf, rfl⟩) hg (by decide) hs hpl
/-! ### even -/
def pEven (K : PySem.W.Frag) (vs : List V) (H : Hp) (k : Kd) : Prop := ∃ (a : Addr) (f : Krdk.Answer), vs = [.ref a] ∧ Seq K H a (SV f) ∧ W f ∧ k = .ob (.lst ((Krdk.fr f.even_).map .int))
theorem sc31 : FnScope ["says", "size", "count"] ["says"] (defScope (top 31)) := ⟨rfl, rfl, rfl, by decide +kernel, rfl, by decide +kernel, by decide +kernel⟩
/-- a product of small numbers -/
theorem cmw {i j : Int} (hi : i.natAbs < 2 ^ 100) (hj : j.natAbs < 2 ^ 100) : CMulW i j := wide_mul hi hj (by decide) (by decide) (by decide)
theorem c_even (B : Bl mg) (D : DefAt K mg "even" (top 31)) (c2 : Cal P w K mg base 1 "lowest" (SpK pLow)) : Cal P w K mg base 2 "even" (SpK (pEven K)) := by
  refine cal_pure (ps := ["says"]) D sc31 (fun _ _ _ _ _ _ us hl => match us, hl with | [_], _ => rfl) (fun vs H k ⟨_, _, e, _⟩ => by rw [e]; rfl) fun f cdv A outer s H vs E k hr ⟨a, f, e, hq, wf, ek⟩ => ?_
  subst e ek
  have h5 := p2le wf.n5
  have hy := Mt.yes_le wf
  refine gb_set 1 sc31.nd ((gv_lenS B (gv_var 0) hq).is_to (by rw [SV_len wf])) ?_
  refine gb_set 2 sc31.nd ((gv_sumS (ns := S f) rfl B (gv_var 0) hq).is_to (by rw [Mt.S_sum wf])) ?_
  have m1 : ((4 : Int) * (f.yes : Int)).natAbs ≤ 128 := by omega
  have m2 : (((2 ^ f.n : Nat) : Int) - (f.yes : Int)).natAbs ≤ 32 := by omega
  have m3 : ((4 : Int) * (f.yes : Int) * (((2 ^ f.n : Nat) : Int) - (f.yes : Int))).natAbs ≤ 128 * 32 := by rw [Int.natAbs_mul]; exact Nat.mul_le_mul m1 m2
  have m4 : (((2 ^ f.n : Nat) : Int) * ((2 ^ f.n : Nat) : Int)).natAbs ≤ 32 * 32 := by rw [Int.natAbs_mul]; exact Nat.mul_le_mul (by simpa using h5) (by simpa using h5)
  refine gb_ret (Gv.to (gv_low c2 hr (by decide) (gv_mul (gv_mul gv_int (gv_var 2) (cmw (by decide) (by simp only [Int.natAbs_natCast]; omega))) (gv_sub (gv_var 1) (gv_var 2)) (cmw (by omega) (by omega))) (gv_mul (gv_var 1) (gv_var 1) (cmw (by simp only [Int.natAbs_natCast]; omega) (by simp only [Int.natAbs_natCast]; omega))) (Int.mul_pos (p2int _) (p2int _)) (lowb (by omega)) (lowb (by omega))) ?_)
  rw [Mt.low_even]
theorem gv_even {X : Cx} {σ : L2.St} {H : Hp} {j : Nat} {a : Expr} {p pos : Pos} {q : Addr} {f : Krdk.Answer} (c : Cal X.prog X.w X.K X.mg X.base 2 "even" (SpK (pEven X.K))) (hr : Room j X.A) (hj : 2 ≤ j) (ha : Gv (cE X a) σ H (.is (.ref q))) (hq : Seq X.K H q (SV f)) (wf : W f) (hg : Gl X "even" := by rfl)
    (hs : starEach [a] X.env = (false, eval a X.env) :: starEach [] X.env := by rfl) (hpl : (backTo pos (starEach [] X.env)).any (·.1) = false := by rfl) :
    Gv (cE X (.Call (.Name "even" p) [a] [] pos)) σ H (.ob (.lst ((Krdk.fr f.even_).map .int))) :=
  gv_calv (us := [.ref q]) c hr hj (ga_cons ha ga_nil hs) (fun _ s => ⟨q, f, rfl, hq.same s, wf, rfl⟩) hg (by decide) hs hpl
/-! ### part -/
def pPart (K : PySem.W.Frag) (vs : List V) (H : Hp) (k : Kd) : Prop := ∃ (a : Addr) (f : Krdk.Answer) (s : Nat), vs = [.ref a, .int s] ∧ Seq K H a (SV f) ∧ W f ∧ s < 2 ^ f.n ∧ k = .is (.int (pt f s))
theorem sc33 : FnScope ["says", "chosen", "word", "said"] ["says", "chosen"] (defScope (top 33)) := ⟨rfl, rfl, rfl, by decide +kernel, rfl, by decide +kernel, by decide +kernel⟩
theorem c_part (B : Bl mg) (D : DefAt K mg "part" (top 33)) (c1 : Cal P w K mg base 2 "meets_oddly" (SpK pOdd)) : Cal P w K mg base 3 "part" (SpK (pPart K)) := by
  refine cal_pure (ps := ["says", "chosen"]) D sc33 (fun _ _ _ _ _ _ us hl => match us, hl with | [_, _], _ => rfl) (fun vs H k ⟨_, _, _, e, _⟩ => by rw [e]; rfl) fun f cdv A outer s H vs E k hr ⟨a, f, s, e, hq, wf, hsl, ek⟩ => ?_
  subst e ek
  have hn := wf.n5
  refine gb_ret (Gv.is_to (gv_sumL (ns := (Krdk.words f.n).map fun x => if Mt.b2i (f.at_ x) = ((Krdk.meet f.n s x % 2 : Nat) : Int) then 1 else -1) rfl B (Gv.to (gv_lcES 2 3 rfl sc33.nd B.enum (gv_var 0) hq (SV_le wf) (blkOk_by (own := [("word", 2), ("said", 3)]) (N := ["says", "chosen", "word", "said"]) (sc := defScope (top 33)) (by decide +kernel)) (fun _ _ _ _ _ => pg2 2 3 rfl sc33.nd) (fun _ _ _ _ _ => pts_nil) (fun _ => true)
    (fun x => .int (if Mt.b2i (f.at_ x) = ((Krdk.meet f.n s x % 2 : Nat) : Int) then 1 else -1)) (fun _ _ => rfl) (fun _ _ _ => gt_yes) (fun x v hv _ => ?_)) (by rw [given_all, SV_len wf])) ?_) ?_)
  · obtain ⟨hx, rfl⟩ := SV_of wf hv
    refine gv_cF fun _ _ _ _ _ => gv_ite (gt_eq (gv_var 3) (gv_odd c1 hr (by decide) (gv_var 2) (gv_var 1) hn hx hsl)) (fun h => gv_int.is_to ?_) (fun h => (gv_neg gv_int).is_to ?_)
    · rw [if_pos (eq_of_beq h)]
    · rw [if_neg (ne_of_beq_false h)]
  · rw [List.map_map]; exact .new
  · unfold Mt.pt
    congr 2
    apply List.map_congr_left
    intro x _
    rw [Mt.pt_eq]
theorem gv_part {X : Cx} {σ : L2.St} {H : Hp} {j : Nat} {a b : Expr} {p pos : Pos} {q : Addr} {f : Krdk.Answer} {s : Nat} (c : Cal X.prog X.w X.K X.mg X.base 3 "part" (SpK (pPart X.K))) (hr : Room j X.A) (hj : 3 ≤ j) (ha : Gv (cE X a) σ H (.is (.ref q))) (hb : Gv (cE X b) σ H (.is (.int s))) (hq : Seq X.K H q (SV f)) (wf : W f) (hsl : s < 2 ^ f.n) (hg : Gl X "part" := by rfl)
    (hs : starEach [a, b] X.env = (false, eval a X.env) :: starEach [b] X.env := by rfl) (hs2 : starEach [b] X.env = (false, eval b X.env) :: starEach [] X.env := by rfl) (hpl : (backTo pos (starEach [b] X.env)).any (·.1) = false := by rfl) :
    Gv (cE X (.Call (.Name "part" p) [a, b] [] pos)) σ H (.is (.int (pt f s))) :=
  gv_calv (us := [.ref q, .int s]) c hr hj (ga_cons ha (ga_cons hb ga_nil hs2) hs) (fun _ z => ⟨q, f, s, rfl, hq.same z, wf, hsl, rfl⟩) hg (by decide) hs hpl
/-! ### all_parts -/
def pAllParts (K : PySem.W.Frag) (vs : List V) (H : Hp) (k : Kd) : Prop := ∃ (a : Addr) (f : Krdk.Answer), vs = [.ref a] ∧ Seq K H a (SV f) ∧ W f ∧ k = .ob (.lst (((Krdk.words f.n).map (pt f)).map .int))
theorem sc34 : FnScope ["says", "chosen"] ["says"] (defScope (top 34)) := ⟨rfl, rfl, rfl, by decide +kernel, rfl, by decide +kernel, by decide +kernel⟩
theorem c_allparts (B : Bl mg) (D : DefAt K mg "all_parts" (top 34)) (c1 : Cal P w K mg base 3 "part" (SpK (pPart K))) : Cal P w K mg base 4 "all_parts" (SpK (pAllParts K)) := by
  refine cal_pure (ps := ["says"]) D sc34 (fun _ _ _ _ _ _ us hl => match us, hl with | [_], _ => rfl) (fun vs H k ⟨_, _, e, _⟩ => by rw [e]; rfl) fun f cdv A outer s H vs E k hr ⟨a, f, e, hq, wf, ek⟩ => ?_
  subst e ek
  have hn := wf.n5
  have h2 := p2le hn
  refine gb_ret (Gv.to (gv_lcR (N := ((2 ^ f.n : Nat) : Int)) 1 rfl sc34.nd B.range ((gv_lenS B (gv_var 0) hq).is_to (by rw [SV_len wf])) ⟨Int.le_of_lt (p2int _), by omega⟩ (blkOk_by (own := [("chosen", 1)]) (N := ["says", "chosen"]) (sc := defScope (top 34)) (by decide +kernel)) (fun _ _ _ _ _ => pg_name (i := 1) sc34.nd rfl (Or.inl rfl)) (fun _ _ _ _ _ => pts_nil)
    (fun _ => true) (fun i => .int (pt f i)) (fun _ => rfl) (fun _ _ => gt_yes) (fun i hi _ => gv_cF fun _ _ _ _ _ => gv_part c1 hr (by decide) (gv_var 0) (gv_var 1) hq wf (by omega))) ?_)
  rw [given_all, Int.toNat_natCast, List.map_map]
  rfl
theorem gv_allparts {X : Cx} {σ : L2.St} {H : Hp} {j : Nat} {a : Expr} {p pos : Pos} {q : Addr} {f : Krdk.Answer} (c : Cal X.prog X.w X.K X.mg X.base 4 "all_parts" (SpK (pAllParts X.K))) (hr : Room j X.A) (hj : 4 ≤ j) (ha : Gv (cE X a) σ H (.is (.ref q))) (hq : Seq X.K H q (SV f)) (wf : W f) (hg : Gl X "all_parts" := by rfl)
    (hs : starEach [a] X.env = (false, eval a X.env) :: starEach [] X.env := by rfl) (hpl : (backTo pos (starEach [] X.env)).any (·.1) = false := by rfl) :
    Gv (cE X (.Call (.Name "all_parts" p) [a] [] pos)) σ H (.ob (.lst (((Krdk.words f.n).map (pt f)).map .int))) :=
  gv_calv (us := [.ref q]) c hr hj (ga_cons ha ga_nil hs) (fun _ s => ⟨q, f, rfl, hq.same s, wf, rfl⟩) hg (by decide) hs hpl
/-! ### sides -/
def pSides (K : PySem.W.Frag) (vs : List V) (H : Hp) (k : Kd) : Prop := ∃ (a : Addr) (f : Krdk.Answer), vs = [.int f.n, .ref a] ∧ Seq K H a (SV f) ∧ W f ∧ k = .is (.int (f.sides : Nat))
theorem sc38 : FnScope ["bits", "says"] ["bits", "says"] (defScope (top 38)) := ⟨rfl, rfl, rfl, by decide +kernel, rfl, by decide +kernel, by decide +kernel⟩
theorem c_sides (B : Bl mg) (D : DefAt K mg "sides" (top 38)) (c1 : Cal P w K mg base 4 "all_sways" (SpK (pAllSways K))) : Cal P w K mg base 5 "sides" (SpK (pSides K)) := by
  refine cal_pure (ps := ["bits", "says"]) D sc38 (fun _ _ _ _ _ _ us hl => match us, hl with | [_, _], _ => rfl) (fun vs H k ⟨_, _, e, _⟩ => by rw [e]; rfl) fun f cdv A outer s H vs E k hr ⟨a, f, e, hq, wf, ek⟩ => ?_
  subst e ek
  refine gb_ret (Gv.is_to (gv_fdiv (gv_sumL (ns := Krdk.ints ((List.range f.n).map (swc f))) rfl B (gv_allsways c1 hr (by decide) (gv_var 0) (gv_var 1) hq wf) (by rw [NV_ints]; exact .new)) gv_int (wide_div (b := 2) (by decide) (by decide) (by decide) (by decide))) ?_)
  rw [sum_ints, Mt.sides_eq]
  simp
/-! ### falls -/
def pFalls (K : PySem.W.Frag) (vs : List V) (H : Hp) (k : Kd) : Prop := ∃ (a : Addr) (f : Krdk.Answer) (i : Nat), vs = [.ref a, .int i] ∧ Seq K H a (SV f) ∧ W f ∧ i < f.n ∧ k = .is (.bl ((Krdk.words f.n).any fun x => decide (Mt.b2i (f.at_ (x ||| 2 ^ i)) < Mt.b2i (f.at_ x))))
theorem sc41 : FnScope ["says", "bit", "word", "said"] ["says", "bit"] (defScope (top 41)) := ⟨rfl, rfl, rfl, by decide +kernel, rfl, by decide +kernel, by decide +kernel⟩
theorem any_map {α : Type} (g : α → Bool) (l : List α) : (l.map g).any id = l.any g := by rw [List.any_map]; rfl
theorem all_map {α : Type} (g : α → Bool) (l : List α) : (l.map g).all id = l.all g := by rw [List.all_map]; rfl
theorem c_falls (B : Bl mg) (D : DefAt K mg "falls" (top 41)) : Cal P w K mg base 1 "falls" (SpK (pFalls K)) := by
  refine cal_pure (ps := ["says", "bit"]) D sc41 (fun _ _ _ _ _ _ us hl => match us, hl with | [_, _], _ => rfl) (fun vs H k ⟨_, _, _, e, _⟩ => by rw [e]; rfl) fun f cdv A outer s H vs E k hr ⟨a, f, i, e, hq, wf, hi, ek⟩ => ?_
  subst e ek
  have hn := wf.n5
  refine gb_ret (Gv.is_to (gv_any (bs := (Krdk.words f.n).map fun x => decide (Mt.b2i (f.at_ (x ||| 2 ^ i)) < Mt.b2i (f.at_ x))) rfl B (Gv.to (gv_lcES 2 3 rfl sc41.nd B.enum (gv_var 0) hq (SV_le wf) (blkOk_by (own := [("word", 2), ("said", 3)]) (N := ["says", "bit", "word", "said"]) (sc := defScope (top 41)) (by decide +kernel)) (fun _ _ _ _ _ => pg2 2 3 rfl sc41.nd) (fun _ _ _ _ _ => pts_nil) (fun _ => true)
    (fun x => .bl (decide (Mt.b2i (f.at_ (x ||| 2 ^ i)) < Mt.b2i (f.at_ x)))) (fun _ _ => rfl) (fun _ _ _ => gt_yes) (fun x v hv _ => ?_)) (by rw [given_all, SV_len wf])) (by rw [List.map_map]; exact .new)) ?_)
  · obtain ⟨hx, rfl⟩ := SV_of wf hv
    refine gv_cF fun _ _ _ _ _ => gv_gt (gv_var 3) (gv_ixS (gv_var 0) hq (Gv.is_to (w := .int ((x ||| 2 ^ i : Nat) : Int)) (gv_borN (gv_var 2) (gv_shlN (m := 1) gv_int (gv_var 1) (by decide) (by omega))) (by rw [shl1])) (atI_nat (SV_at wf (Mt.or_lt f.n hn x hx i hi))))
  · rw [any_map]
end
end Sw
set_option Elab.async false
set_option linter.all false
set_option maxRecDepth 100000
set_option maxHeartbeats 2000000
set_option exponentiation.threshold 3000
namespace Sw
open PySem PySem.Spec PyProof.Rows L2 Kx
open Evl (given given_yes given_no given_len)
open Mt (W S swc pt)
/-! ### the desk in the heap -/
def dF (n : Int) (a c s l : Addr) : List (Str × V) := [("bits", .int n), ("says", .ref a), ("chance", .ref c), ("shelf", .ref s), ("past", .ref l)]
theorem lk_here {k : Str} {v : V} {r : List (Str × V)} : List.lookup k ((k, v) :: r) = some v := by
  have e : (k == k) = true := beq_self_eq_true k
  simp only [List.lookup, e]
theorem lk_past {k g : Str} {v : V} {r : List (Str × V)} (h : (k == g) = false) : List.lookup k ((g, v) :: r) = List.lookup k r := by
  simp only [List.lookup, h]
section
variable {n : Int} {a c s l : Addr}
theorem dF_bits : (dF n a c s l).lookup ("bits" : Str) = some (.int n) := lk_here
theorem dF_says : (dF n a c s l).lookup ("says" : Str) = some (.ref a) := (lk_past (by decide +kernel)).trans lk_here
theorem dF_chance : (dF n a c s l).lookup ("chance" : Str) = some (.ref c) := (lk_past (by decide +kernel)).trans ((lk_past (by decide +kernel)).trans lk_here)
theorem dF_shelf : (dF n a c s l).lookup ("shelf" : Str) = some (.ref s) := (lk_past (by decide +kernel)).trans ((lk_past (by decide +kernel)).trans ((lk_past (by decide +kernel)).trans lk_here))
theorem dF_past : (dF n a c s l).lookup ("past" : Str) = some (.ref l) := (lk_past (by decide +kernel)).trans ((lk_past (by decide +kernel)).trans ((lk_past (by decide +kernel)).trans ((lk_past (by decide +kernel)).trans lk_here)))
end
/-- the class of the desk -/
structure ClD (K : PySem.W.Frag) (C : Addr) : Prop where
  cl : Cls K C
  n1 : NoAttr K C "bits"
  n2 : NoAttr K C "says"
  n3 : NoAttr K C "chance"
  n4 : NoAttr K C "shelf"
  n5 : NoAttr K C "past"
/-- the module's numbers -/
structure Ct (mg : Str → Option Value) : Prop where
  noSuch : Con mg "NO_SUCH" 2
  nothing : Con mg "NOTHING_THERE" 6
  notBegun : Con mg "NOT_BEGUN" 11
  notRight : Con mg "NOT_RIGHT" 22
  noneFound : Con mg "NONE_FOUND" 33
  tooMany : Con mg "TOO_MANY" 75
  places : Con mg "PLACES" 4
  mostBack : Con mg "MOST_BACK" 10
  mostVoters : Con mg "MOST_VOTERS" 4
  mostThing : Con mg "MOST_THING" 2
  comparisons : Con mg "COMPARISONS" 3
  mostBits : Con mg "MOST_BITS" 5
  mostTold : Con mg "MOST_TOLD" 32
  mostWeight : Con mg "MOST_WEIGHT" 9
  lowerM : Con mg "MOST_LOWER_mishearing" 20
  lowerR : Con mg "MOST_LOWER_rises" 100
  mostTries : Con mg "MOST_TRIES" 6
  mostWay : Con mg "MOST_WAY" 2
  mostMeasure : Con mg "MOST_MEASURE" 3
/-- the shelf's places -/
def ShAt (K : PySem.W.Frag) (H : Hp) (n : Nat) : List V → List (Option Krdk.Answer) → Prop := Paired fun v o => match o with
  | none => v = V.non
  | some g => W g ∧ g.n = n ∧ ∃ r, v = V.ref r ∧ SqT K H r (SV g)
theorem ShAt.same {K : PySem.W.Frag} {H H' : Hp} {n : Nat} {vs : List V} {os : List (Option Krdk.Answer)} (h : ShAt K H n vs os) (s : Same H H') : ShAt K H' n vs os := Paired.mapP h fun v o q => by
  cases o with
  | none => exact q
  | some g => obtain ⟨q1, q2, r, q3, q4⟩ := q; exact ⟨q1, q2, r, q3, same_t s q4⟩
/-- the desk at d holds D (its past stands at l) -/
structure Dk (K : PySem.W.Frag) (C : Addr) (H : Hp) (d : Addr) (D : Krdo.Data) (dx a c s l : Addr) (sh : List V) : Prop where
  ins : H d = some (.ins C dx (dF D.f.n a c s l))
  w : W D.f
  says : SqT K H a (SV D.f)
  ch : SqT K H c [.int D.e.num, .int (D.e.den : Int)]
  e : Mt.Ch D.e D.e.num (D.e.den : Int)
  shelf : SqT K H s sh
  sh : ShAt K H D.f.n sh D.shelf
  four : D.shelf.length = 4
theorem Dk.same {K : PySem.W.Frag} {C : Addr} {H H' : Hp} {d : Addr} {D : Krdo.Data} {dx a c s l : Addr} {sh : List V} (h : Dk K C H d D dx a c s l sh) (z : Same H H') : Dk K C H' d D dx a c s l sh :=
  ⟨z _ _ h.ins, h.w, same_t z h.says, same_t z h.ch, h.e, same_t z h.shelf, h.sh.same z, h.four⟩
def DkE (K : PySem.W.Frag) (C : Addr) (H : Hp) (d : Addr) (D : Krdo.Data) : Prop := ∃ dx a c s l sh, Dk K C H d D dx a c s l sh
theorem DkE.same {K : PySem.W.Frag} {C : Addr} {H H' : Hp} {d : Addr} {D : Krdo.Data} (h : DkE K C H d D) (z : Same H H') : DkE K C H' d D := by
  obtain ⟨dx, a, c, s, l, sh, q⟩ := h
  exact ⟨dx, a, c, s, l, sh, q.same z⟩
/-! ### what is given to a call -/
def RwAt (K : PySem.W.Frag) (H : Hp) : List V → List (List Int) → Prop := Paired fun u r => ∃ b, u = V.ref b ∧ SqL K H b (r.map V.int)
def Gn (K : PySem.W.Frag) (H : Hp) (g : Addr) (xs : List Int) (rs : List (List Int)) : Prop := ∃ us, SqL K H g (xs.map V.int ++ us) ∧ RwAt K H us rs
theorem Gn.same {K : PySem.W.Frag} {H H' : Hp} {g : Addr} {xs : List Int} {rs : List (List Int)} (h : Gn K H g xs rs) (z : Same H H') : Gn K H' g xs rs := by
  obtain ⟨us, q1, q2⟩ := h
  exact ⟨us, same_l z q1, Paired.mapP q2 fun u r ⟨b, e, q⟩ => ⟨b, e, same_l z q⟩⟩
theorem Gn.nums {K : PySem.W.Frag} {H : Hp} {g : Addr} {xs : List Int} (h : Gn K H g xs []) : SqL K H g (xs.map V.int) := by
  obtain ⟨us, q1, q2⟩ := h
  cases q2
  rw [List.append_nil] at q1
  exact q1
/-- the numbers are numbers -/
def NumOk (x : Int) : Prop := 0 ≤ x ∧ x ≤ 4294967295
/-- what is due to call p of these numbers and rows; the desk's data behind it -/
def actP (p : Nat) (D : Krdo.Data) (xs : List Int) (rs : List (List Int)) : Krdo.Abs × Krdo.Ans := Krdo.act (some ⟨D, []⟩) (KrdoNeutral.call (((p : Int) :: xs) :: rs))
def ansP (p : Nat) (D : Krdo.Data) (xs : List Int) (rs : List (List Int)) : List Int := KrdoNeutral.told (actP p D xs rs).2
def datP (p : Nat) (D : Krdo.Data) (xs : List Int) (rs : List (List Int)) : Krdo.Data := match (actP p D xs rs).1 with
  | some b => b.d
  | none => D
/-- a call's def that changes nothing -/
def pTell (K : PySem.W.Frag) (C : Addr) (p nx nr : Nat) (vs : List V) (H : Hp) (k : Kd) : Prop := ∃ (d g : Addr) (D : Krdo.Data) (xs : List Int) (rs : List (List Int)), vs = [.ref d, .ref g] ∧ DkE K C H d D ∧ Gn K H g xs rs ∧ xs.length = nx ∧ rs.length = nr ∧
  (∀ x ∈ xs, NumOk x) ∧ (∀ r ∈ rs, r.length ≤ 255 ∧ ∀ x ∈ r, NumOk x) ∧ k = .ob (.lst ((ansP p D xs rs).map .int))
theorem one_num {xs : List Int} (h : xs.length = 1) (ok : ∀ x ∈ xs, NumOk x) : ∃ x : Nat, xs = [(x : Int)] ∧ x ≤ 4294967295 := by
  match xs, h with
  | [x], _ =>
    have := ok x (List.mem_cons_self ..)
    exact ⟨x.toNat, by rw [Int.toNat_of_nonneg this.1], by have := this.2; omega⟩
theorem two_num {xs : List Int} (h : xs.length = 2) (ok : ∀ x ∈ xs, NumOk x) : ∃ x y : Nat, xs = [(x : Int), (y : Int)] ∧ x ≤ 4294967295 ∧ y ≤ 4294967295 := by
  match xs, h with
  | [x, y], _ =>
    have h1 := ok x (List.mem_cons_self ..)
    have h2 := ok y (List.mem_cons_of_mem _ (List.mem_cons_self ..))
    exact ⟨x.toNat, y.toNat, by rw [Int.toNat_of_nonneg h1.1, Int.toNat_of_nonneg h2.1], by have := h1.2; omega, by have := h2.2; omega⟩
theorem three_num {xs : List Int} (h : xs.length = 3) (ok : ∀ x ∈ xs, NumOk x) : ∃ x y z : Nat, xs = [(x : Int), (y : Int), (z : Int)] ∧ x ≤ 4294967295 ∧ y ≤ 4294967295 ∧ z ≤ 4294967295 := by
  match xs, h with
  | [x, y, z], _ =>
    have h1 := ok x (List.mem_cons_self ..)
    have h2 := ok y (List.mem_cons_of_mem _ (List.mem_cons_self ..))
    have h3 := ok z (List.mem_cons_of_mem _ (List.mem_cons_of_mem _ (List.mem_cons_self ..)))
    exact ⟨x.toNat, y.toNat, z.toNat, by rw [Int.toNat_of_nonneg h1.1, Int.toNat_of_nonneg h2.1, Int.toNat_of_nonneg h3.1], by have := h1.2; omega, by have := h2.2; omega, by have := h3.2; omega⟩
theorem four_num {xs : List Int} (h : xs.length = 4) (ok : ∀ x ∈ xs, NumOk x) : ∃ x y z u : Nat, xs = [(x : Int), (y : Int), (z : Int), (u : Int)] ∧ x ≤ 4294967295 ∧ y ≤ 4294967295 ∧ z ≤ 4294967295 ∧ u ≤ 4294967295 := by
  match xs, h with
  | [x, y, z, u], _ =>
    have h1 := ok x (List.mem_cons_self ..)
    have h2 := ok y (List.mem_cons_of_mem _ (List.mem_cons_self ..))
    have h3 := ok z (List.mem_cons_of_mem _ (List.mem_cons_of_mem _ (List.mem_cons_self ..)))
    have h4 := ok u (List.mem_cons_of_mem _ (List.mem_cons_of_mem _ (List.mem_cons_of_mem _ (List.mem_cons_self ..))))
    exact ⟨x.toNat, y.toNat, z.toNat, u.toNat, by rw [Int.toNat_of_nonneg h1.1, Int.toNat_of_nonneg h2.1, Int.toNat_of_nonneg h3.1, Int.toNat_of_nonneg h4.1], by have := h1.2; omega, by have := h2.2; omega, by have := h3.2; omega, by have := h4.2; omega⟩
theorem nil_of {α : Type} {l : List α} (h : l.length = 0) : l = [] := List.eq_nil_of_length_eq_zero h
theorem one_row {rs : List (List Int)} (h : rs.length = 1) (ok : ∀ r ∈ rs, r.length ≤ 255 ∧ ∀ x ∈ r, NumOk x) : ∃ r : List Int, rs = [r] ∧ r.length ≤ 255 ∧ ∀ x ∈ r, NumOk x := by
  match rs, h with
  | [r], _ => exact ⟨r, rfl, ok r (List.mem_cons_self ..)⟩
/-! ### short words for calls -/
section
variable {X : Cx} {σ : L2.St} {H : Hp} {j : Nat} {a b e : Expr} {p pos p2 : Pos} {x : Str}
theorem gv_ref {i : Int} (c : Cal X.prog X.w X.K X.mg X.base 1 "refused" (SpK pRefused)) (hr : Room j X.A) (hj : 1 ≤ j) (hc : Con X.mg x i) (hx : Gl X x := by rfl) (hd : (x == ("__debug__" : Str)) = false := by decide) (hg : Gl X "refused" := by rfl)
    (hs : starEach [.Name x p2] X.env = (false, eval (.Name x p2) X.env) :: starEach [] X.env := by rfl) (hpl : (backTo pos (starEach [] X.env)).any (·.1) = false := by rfl) : Gv (cE X (.Call (.Name "refused" p) [.Name x p2] [] pos)) σ H (.ob (.lst [.int (-i)])) :=
  gv_calv (us := [.int i]) c hr hj (ga_cons (gv_glo hc hx hd) ga_nil hs) (fun _ _ => ⟨i, rfl, rfl⟩) hg (by decide) hs hpl
variable {C d dx ad cd sd ld : Addr} {D : Krdo.Data} {sh : List V}
theorem gv_bitsD (T : ClD X.K C) (h : Gv (cE X e) σ H (.is (.ref d))) (k : Dk X.K C H d D dx ad cd sd ld sh) (hb : attributeBase e "bits" X.env (eval e X.env) = eval e X.env := by rfl) : Gv (cE X (.Attribute e "bits" pos)) σ H (.is (.int D.f.n)) := gv_fld h k.ins T.cl T.n1 dF_bits hb
theorem gv_saysD (T : ClD X.K C) (h : Gv (cE X e) σ H (.is (.ref d))) (k : Dk X.K C H d D dx ad cd sd ld sh) (hb : attributeBase e "says" X.env (eval e X.env) = eval e X.env := by rfl) : Gv (cE X (.Attribute e "says" pos)) σ H (.is (.ref ad)) := gv_fld h k.ins T.cl T.n2 dF_says hb
theorem gv_chD (T : ClD X.K C) (h : Gv (cE X e) σ H (.is (.ref d))) (k : Dk X.K C H d D dx ad cd sd ld sh) (hb : attributeBase e "chance" X.env (eval e X.env) = eval e X.env := by rfl) : Gv (cE X (.Attribute e "chance" pos)) σ H (.is (.ref cd)) := gv_fld h k.ins T.cl T.n3 dF_chance hb
theorem gv_shD (T : ClD X.K C) (h : Gv (cE X e) σ H (.is (.ref d))) (k : Dk X.K C H d D dx ad cd sd ld sh) (hb : attributeBase e "shelf" X.env (eval e X.env) = eval e X.env := by rfl) : Gv (cE X (.Attribute e "shelf" pos)) σ H (.is (.ref sd)) := gv_fld h k.ins T.cl T.n4 dF_shelf hb
theorem gv_pastD (T : ClD X.K C) (h : Gv (cE X e) σ H (.is (.ref d))) (k : Dk X.K C H d D dx ad cd sd ld sh) (hb : attributeBase e "past" X.env (eval e X.env) = eval e X.env := by rfl) : Gv (cE X (.Attribute e "past" pos)) σ H (.is (.ref ld)) := gv_fld h k.ins T.cl T.n5 dF_past hb
/-- len(desk.says) -/
theorem gv_lenD (T : ClD X.K C) (B : Bl X.mg) (h : Gv (cE X e) σ H (.is (.ref d))) (k : Dk X.K C H d D dx ad cd sd ld sh) (hb : attributeBase e "says" X.env (eval e X.env) = eval e X.env := by rfl) (hg : Gl X "len" := by rfl)
    (hs : starEach [.Attribute e "says" p2] X.env = (false, eval (.Attribute e "says" p2) X.env) :: starEach [] X.env := by rfl) (hpl : (backTo pos (starEach [] X.env)).any (·.1) = false := by rfl) :
    Gv (cE X (.Call (.Name "len" p) [.Attribute e "says" p2] [] pos)) σ H (.is (.int ((2 ^ D.f.n : Nat) : Int))) := Gv.is_to (gv_lenS B (gv_saysD T h k hb) (.inr k.says) hg hs hpl) (by rw [SV_len k.w])
/-- sum(desk.says) -/
theorem gv_sumD (T : ClD X.K C) (hcm : X.calm = true) (B : Bl X.mg) (h : Gv (cE X e) σ H (.is (.ref d))) (k : Dk X.K C H d D dx ad cd sd ld sh) (hb : attributeBase e "says" X.env (eval e X.env) = eval e X.env := by rfl) (hg : Gl X "sum" := by rfl)
    (hs : starEach [.Attribute e "says" p2] X.env = (false, eval (.Attribute e "says" p2) X.env) :: starEach [] X.env := by rfl) (hpl : (backTo pos (starEach [] X.env)).any (·.1) = false := by rfl) :
    Gv (cE X (.Call (.Name "sum" p) [.Attribute e "says" p2] [] pos)) σ H (.is (.int (D.f.yes : Int))) := Gv.is_to (gv_sumS (ns := S D.f) hcm B (gv_saysD T h k hb) (.inr k.says) hg hs hpl) (by rw [Mt.S_sum k.w])
/-- given[i] -/
theorem gv_at {g : Addr} {xs : List V} {i : Int} {v : V} {j2} (h : Gv (cE X e) σ H (.is (.ref g))) (hq : SqL X.K H g xs) (hv : xs[i.toNat]? = some v) (h0 : 0 ≤ i) : Gv (cE X (.Subscript e (.Constant (.int i) j2 p) pos)) σ H (.is v) :=
  gv_ixL h (.old hq) gv_int (by
    have e1 : i = (i.toNat : Int) := by omega
    rw [e1]
    exact atI_nat hv)
/-- [0] + a new list -/
theorem gv_zero {xs : List Int} {i j2} (h : Gv (cE X e) σ H (.ob (.lst (xs.map .int)))) (hl : xs.length ≤ 10000) (hs : starEach [.Constant (.int i) j2 p] X.env = (false, eval (.Constant (.int i) j2 p) X.env) :: starEach [] X.env := by rfl) :
    Gv (cE X (.BinOp (.List [.Constant (.int i) j2 p] p2) .Add e pos)) σ H (.ob (.lst ((i :: xs).map .int))) :=
  gv_cat (xs := [.int i]) (gv_lst (vs := [.int i]) (ga_cons gv_int ga_nil hs) (Nat.le_of_ble_eq_true rfl)) h (.inl rfl) (by rw [List.length_map]; show 1 + _ ≤ _; omega)
/-- [e1] + a new list -/
theorem gv_head {xs : List Int} {i : Int} {e1 : Expr} (h1 : Gv (cE X e1) σ H (.is (.int i))) (h : Gv (cE X e) σ H (.ob (.lst (xs.map .int)))) (hl : xs.length ≤ 10000) (hs : starEach [e1] X.env = (false, eval e1 X.env) :: starEach [] X.env := by rfl) :
    Gv (cE X (.BinOp (.List [e1] p2) .Add e pos)) σ H (.ob (.lst ((i :: xs).map .int))) :=
  gv_cat (xs := [.int i]) (gv_lst (vs := [.int i]) (ga_cons h1 ga_nil hs) (Nat.le_of_ble_eq_true rfl)) h (.inl rfl) (by rw [List.length_map]; show 1 + _ ≤ _; omega)
end
theorem low_len (u l : Int) : (Mt.low u l).length = 2 := rfl
end Sw
set_option Elab.async false
set_option linter.all false
set_option maxRecDepth 100000
set_option maxHeartbeats 2000000
set_option exponentiation.threshold 3000
namespace Sw
open PySem PySem.Spec PyProof.Rows L2 Kx
open Evl (given given_yes given_no given_len)
open Mt (W S swc pt)
section
variable {P : Program} {w : World} {K : PySem.W.Frag} {mg : Str → Option Value} {base : Heap} {C : Addr}
theorem ifF {α : Type} {c : Prop} [Decidable c] {a b : α} (h : decide c = false) : (if c then a else b) = b := if_neg (of_decide_eq_false h)
theorem ifT {α : Type} {c : Prop} [Decidable c] {a b : α} (h : decide c = true) : (if c then a else b) = a := if_pos (of_decide_eq_true h)
theorem natle {a b : Nat} (h : decide ((a : Int) ≤ (b : Int)) = false) : b < a := by have := of_decide_eq_false h; omega
theorem natle' {a b : Nat} (h : decide ((a : Int) ≤ (b : Int)) = true) : a ≤ b := by have := of_decide_eq_true h; omega
/-! ### tell_ask: 0:desk 1:given 2:word -/
theorem sc23 : FnScope ["desk", "given", "word"] ["desk", "given"] (defScope (top 23)) := ⟨rfl, rfl, rfl, by decide +kernel, rfl, by decide +kernel, by decide +kernel⟩
theorem c_tell_ask (T : ClD K C) (B : Bl mg) (Z : Ct mg) (Df : DefAt K mg "tell_ask" (top 23)) (cr : Cal P w K mg base 1 "refused" (SpK pRefused)) : Cal P w K mg base 2 "tell_ask" (SpK (pTell K C 8 1 0)) := by
  refine cal_pure (ps := ["desk", "given"]) Df sc23 (fun _ _ _ _ _ _ us hl => match us, hl with | [_, _], _ => rfl) (fun vs H k ⟨_, _, _, _, _, e, _⟩ => by rw [e]; rfl) fun f cdv A outer s H vs E k hr ⟨d, g, D, xs, rs, e, ⟨dx, ad, cd, sd, ld, sh, hD⟩, hG, hx, hrs, ok, okr, ek⟩ => ?_
  obtain ⟨x, rfl, hxm⟩ := one_num hx ok
  obtain rfl := nil_of hrs
  have hq := hG.nums
  subst e ek
  have wf := hD.w
  refine gb_set 2 sc23.nd (gv_at (gv_var 1) hq rfl (by decide)) (gb_if (gt_ge (gv_var 2) (gv_lenD T B (gv_var 0) hD)) (fun h => ?_) fun h => ?_)
  · have e : ansP 8 D [(x : Int)] [] = [-22] := by
      show KrdoNeutral.told (if decide (2 ^ D.f.n ≤ x) then Krdk.say (-22) else Krdk.ask (D.f.at_ x)) = _
      rw [if_pos (decide_eq_true (natle' h))]; rfl
    rw [e]
    exact gb_ret (gv_ref cr hr (by decide) Z.notRight)
  · have hx2 := natle h
    have e : ansP 8 D [(x : Int)] [] = [Mt.b2i (D.f.at_ x)] := by
      show KrdoNeutral.told (if decide (2 ^ D.f.n ≤ x) then Krdk.say (-22) else Krdk.ask (D.f.at_ x)) = _
      rw [if_neg (by simpa using hx2)]
      unfold Krdk.ask Mt.b2i; rfl
    rw [e]
    exact gb_ret (gv_lst (vs := [.int _]) (ga_cons (gv_ixT (gv_saysD T (gv_var 0) hD) (.old hD.says) (gv_var 2) (atI_nat (SV_at wf hx2))) ga_nil) (Nat.le_of_ble_eq_true rfl))
/-! ### tell_mean: 0:desk 1:given -/
theorem sc24 : FnScope ["desk", "given"] ["desk", "given"] (defScope (top 24)) := ⟨rfl, rfl, rfl, by decide +kernel, rfl, by decide +kernel, by decide +kernel⟩
theorem c_tell_mean (T : ClD K C) (B : Bl mg) (Z : Ct mg) (Df : DefAt K mg "tell_mean" (top 24)) (cl : Cal P w K mg base 1 "lowest" (SpK pLow)) : Cal P w K mg base 2 "tell_mean" (SpK (pTell K C 9 0 0)) := by
  refine cal_pure (ps := ["desk", "given"]) Df sc24 (fun _ _ _ _ _ _ us hl => match us, hl with | [_, _], _ => rfl) (fun vs H k ⟨_, _, _, _, _, e, _⟩ => by rw [e]; rfl) fun f cdv A outer s H vs E k hr ⟨d, g, D, xs, rs, e, ⟨dx, ad, cd, sd, ld, sh, hD⟩, hG, hx, hrs, ok, okr, ek⟩ => ?_
  obtain rfl := nil_of hx
  obtain rfl := nil_of hrs
  have hq := hG.nums
  subst e ek
  have wf := hD.w
  have hy := Mt.yes_le wf
  have h5 := p2le wf.n5
  refine gb_ret (Gv.to (gv_zero (gv_low cl hr (by decide) (gv_sumD T rfl B (gv_var 0) hD) (gv_lenD T B (gv_var 0) hD) (p2int _) (lowb (by simp only [Int.natAbs_natCast]; omega)) (p2b wf.n5)) (by rw [low_len]; decide)) ?_)
  rw [Mt.low_mean wf]; rfl
/-! ### tell_sway: 0:desk 1:given 2:bit -/
theorem sc28 : FnScope ["desk", "given", "bit"] ["desk", "given"] (defScope (top 28)) := ⟨rfl, rfl, rfl, by decide +kernel, rfl, by decide +kernel, by decide +kernel⟩
theorem c_tell_sway (T : ClD K C) (B : Bl mg) (Z : Ct mg) (Df : DefAt K mg "tell_sway" (top 28)) (cr : Cal P w K mg base 1 "refused" (SpK pRefused)) (cl : Cal P w K mg base 1 "lowest" (SpK pLow)) (cs : Cal P w K mg base 3 "sways" (SpK (pSways K))) : Cal P w K mg base 4 "tell_sway" (SpK (pTell K C 10 1 0)) := by
  refine cal_pure (ps := ["desk", "given"]) Df sc28 (fun _ _ _ _ _ _ us hl => match us, hl with | [_, _], _ => rfl) (fun vs H k ⟨_, _, _, _, _, e, _⟩ => by rw [e]; rfl) fun f cdv A outer s H vs E k hr ⟨d, g, D, xs, rs, e, ⟨dx, ad, cd, sd, ld, sh, hD⟩, hG, hx, hrs, ok, okr, ek⟩ => ?_
  obtain ⟨x, rfl, hxm⟩ := one_num hx ok
  obtain rfl := nil_of hrs
  have hq := hG.nums
  subst e ek
  have wf := hD.w
  refine gb_set 2 sc28.nd (gv_at (gv_var 1) hq rfl (by decide)) (gb_if (gt_ge (gv_var 2) (gv_bitsD T (gv_var 0) hD)) (fun h => ?_) fun h => ?_)
  · have e : ansP 10 D [(x : Int)] [] = [-2] := by
      show KrdoNeutral.told (if decide (D.f.n ≤ x) then Krdk.say (-2) else Krdk.frac (D.f.sway x)) = _
      rw [if_pos (decide_eq_true (natle' h))]; rfl
    rw [e]
    exact gb_ret (gv_ref cr hr (by decide) Z.noSuch)
  · have hx2 := natle h
    have e : ansP 10 D [(x : Int)] [] = 0 :: Krdk.fr (D.f.sway x) := by
      show KrdoNeutral.told (if decide (D.f.n ≤ x) then Krdk.say (-2) else Krdk.frac (D.f.sway x)) = _
      rw [if_neg (by simpa using hx2)]; rfl
    rw [e, ← Mt.low_sway]
    have h1 := swc_le (f := D.f) x
    have h5 := p2le wf.n5
    exact gb_ret (gv_zero (gv_low cl hr (by decide) (gv_sways cs hr (by decide) (gv_saysD T (gv_var 0) hD) (gv_var 2) (.inr hD.says) wf hx2) (gv_lenD T B (gv_var 0) hD) (p2int _) (lowb (by simp only [Int.natAbs_natCast]; omega)) (p2b wf.n5)) (by rw [low_len]; decide))
/-! ### tell_all: 0:desk 1:given -/
theorem sc30 : FnScope ["desk", "given"] ["desk", "given"] (defScope (top 30)) := ⟨rfl, rfl, rfl, by decide +kernel, rfl, by decide +kernel, by decide +kernel⟩
theorem c_tell_all (T : ClD K C) (B : Bl mg) (Z : Ct mg) (Df : DefAt K mg "tell_all" (top 30)) (ct : Cal P w K mg base 5 "together" (SpK (pTogether K))) : Cal P w K mg base 6 "tell_all" (SpK (pTell K C 11 0 0)) := by
  refine cal_pure (ps := ["desk", "given"]) Df sc30 (fun _ _ _ _ _ _ us hl => match us, hl with | [_, _], _ => rfl) (fun vs H k ⟨_, _, _, _, _, e, _⟩ => by rw [e]; rfl) fun f cdv A outer s H vs E k hr ⟨d, g, D, xs, rs, e, ⟨dx, ad, cd, sd, ld, sh, hD⟩, hG, hx, hrs, ok, okr, ek⟩ => ?_
  obtain rfl := nil_of hx
  obtain rfl := nil_of hrs
  have hq := hG.nums
  subst e ek
  have wf := hD.w
  exact gb_ret (gv_zero (gv_together ct hr (by decide) (gv_bitsD T (gv_var 0) hD) (gv_saysD T (gv_var 0) hD) (.inr hD.says) wf) (by show 2 ≤ _; decide))
/-! ### tell_even: 0:desk 1:given -/
theorem sc32 : FnScope ["desk", "given"] ["desk", "given"] (defScope (top 32)) := ⟨rfl, rfl, rfl, by decide +kernel, rfl, by decide +kernel, by decide +kernel⟩
theorem c_tell_even (T : ClD K C) (B : Bl mg) (Z : Ct mg) (Df : DefAt K mg "tell_even" (top 32)) (ce : Cal P w K mg base 2 "even" (SpK (pEven K))) : Cal P w K mg base 3 "tell_even" (SpK (pTell K C 12 0 0)) := by
  refine cal_pure (ps := ["desk", "given"]) Df sc32 (fun _ _ _ _ _ _ us hl => match us, hl with | [_, _], _ => rfl) (fun vs H k ⟨_, _, _, _, _, e, _⟩ => by rw [e]; rfl) fun f cdv A outer s H vs E k hr ⟨d, g, D, xs, rs, e, ⟨dx, ad, cd, sd, ld, sh, hD⟩, hG, hx, hrs, ok, okr, ek⟩ => ?_
  obtain rfl := nil_of hx
  obtain rfl := nil_of hrs
  have hq := hG.nums
  subst e ek
  have wf := hD.w
  exact gb_ret (gv_zero (gv_even ce hr (by decide) (gv_saysD T (gv_var 0) hD) (.inr hD.says) wf) (by show 2 ≤ _; decide))
theorem pt_le (f : Krdk.Answer) (s : Nat) : (pt f s).natAbs ≤ 2 ^ f.n := by
  have h : ∀ l : List Nat, ((l.map fun x => if Krdk.meet f.n s x % 2 = 0 then f.sign x else -f.sign x).sum).natAbs ≤ l.length := by
    intro l
    induction l with
    | nil => simp
    | cons y l ih =>
      rw [List.map_cons, List.sum_cons, List.length_cons]
      have h1 : (if Krdk.meet f.n s y % 2 = 0 then f.sign y else -f.sign y).natAbs = 1 := by
        unfold Krdk.Answer.sign
        split <;> split <;> rfl
      omega
  have := h (Krdk.words f.n)
  simpa [Krdk.words, Mt.pt] using this
theorem ptb {f : Krdk.Answer} (wf : W f) (s : Nat) : (pt f s).natAbs ≤ 32 := Nat.le_trans (pt_le f s) (p2le wf.n5)
/-! ### tell_part: 0:desk 1:given 2:chosen -/
theorem sc35 : FnScope ["desk", "given", "chosen"] ["desk", "given"] (defScope (top 35)) := ⟨rfl, rfl, rfl, by decide +kernel, rfl, by decide +kernel, by decide +kernel⟩
theorem c_tell_part (T : ClD K C) (B : Bl mg) (Z : Ct mg) (Df : DefAt K mg "tell_part" (top 35)) (cr : Cal P w K mg base 1 "refused" (SpK pRefused)) (cl : Cal P w K mg base 1 "lowest" (SpK pLow)) (cp : Cal P w K mg base 3 "part" (SpK (pPart K))) : Cal P w K mg base 4 "tell_part" (SpK (pTell K C 13 1 0)) := by
  refine cal_pure (ps := ["desk", "given"]) Df sc35 (fun _ _ _ _ _ _ us hl => match us, hl with | [_, _], _ => rfl) (fun vs H k ⟨_, _, _, _, _, e, _⟩ => by rw [e]; rfl) fun f cdv A outer s H vs E k hr ⟨d, g, D, xs, rs, e, ⟨dx, ad, cd, sd, ld, sh, hD⟩, hG, hx, hrs, ok, okr, ek⟩ => ?_
  obtain ⟨x, rfl, hxm⟩ := one_num hx ok
  obtain rfl := nil_of hrs
  have hq := hG.nums
  subst e ek
  have wf := hD.w
  refine gb_set 2 sc35.nd (gv_at (gv_var 1) hq rfl (by decide)) (gb_if (gt_ge (gv_var 2) (gv_lenD T B (gv_var 0) hD)) (fun h => ?_) fun h => ?_)
  · have e : ansP 13 D [(x : Int)] [] = [-22] := by
      show KrdoNeutral.told (if decide (2 ^ D.f.n ≤ x) then Krdk.say (-22) else Krdk.frac (D.f.part x)) = _
      rw [if_pos (decide_eq_true (natle' h))]; rfl
    rw [e]
    exact gb_ret (gv_ref cr hr (by decide) Z.notRight)
  · have hx2 := natle h
    have e : ansP 13 D [(x : Int)] [] = 0 :: Krdk.fr (D.f.part x) := by
      show KrdoNeutral.told (if decide (2 ^ D.f.n ≤ x) then Krdk.say (-22) else Krdk.frac (D.f.part x)) = _
      rw [if_neg (by simpa using hx2)]; rfl
    rw [e, ← Mt.low_part]
    have h1 := ptb wf x
    exact gb_ret (gv_zero (gv_low cl hr (by decide) (gv_part cp hr (by decide) (gv_saysD T (gv_var 0) hD) (gv_var 2) (.inr hD.says) wf hx2) (gv_lenD T B (gv_var 0) hD) (p2int _) (lowb (by omega)) (p2b wf.n5)) (by rw [low_len]; decide))
theorem gv_sides {X : Cx} {σ : L2.St} {H : Hp} {j : Nat} {a b : Expr} {p pos : Pos} {k : Kd} {f : Krdk.Answer} (c : Cal X.prog X.w X.K X.mg X.base 5 "sides" (SpK (pSides X.K))) (hr : Room j X.A) (hj : 5 ≤ j) (ha : Gv (cE X a) σ H (.is (.int f.n))) (hb : Gv (cE X b) σ H k) (hq : (∃ q, k = .is (.ref q) ∧ Seq X.K H q (SV f)) ∨ k = .ob (.lst (SV f))) (wf : W f) (hg : Gl X "sides" := by rfl)
    (hs : starEach [a, b] X.env = (false, eval a X.env) :: starEach [b] X.env := by rfl) (hs2 : starEach [b] X.env = (false, eval b X.env) :: starEach [] X.env := by rfl) (hpl : (backTo pos (starEach [b] X.env)).any (·.1) = false := by rfl) :
    Gv (cE X (.Call (.Name "sides" p) [a, b] [] pos)) σ H (.is (.int (f.sides : Nat))) := by
  refine gv_calk c hr hj (ga_cons ha (ga_cons hb ga_nil hs2) hs) (fun vs H1 s z => ?_) hg (by decide) hs hpl
  obtain ⟨v1, r1, rfl, e1, v2, r2, rfl, e2, rfl⟩ := z
  obtain rfl : v1 = .int f.n := e1
  rcases hq with ⟨q, rfl, hq⟩ | rfl
  · obtain rfl : v2 = .ref q := e2
    exact ⟨q, f, rfl, hq.same s, wf, rfl⟩
  · obtain ⟨q, rfl, hq⟩ := e2
    exact ⟨q, f, rfl, .inl (SqL.of hq), wf, rfl⟩
/-! ### tell_sides: 0:desk 1:given -/
theorem sc39 : FnScope ["desk", "given"] ["desk", "given"] (defScope (top 39)) := ⟨rfl, rfl, rfl, by decide +kernel, rfl, by decide +kernel, by decide +kernel⟩
theorem c_tell_sides (T : ClD K C) (B : Bl mg) (Z : Ct mg) (Df : DefAt K mg "tell_sides" (top 39)) (cs : Cal P w K mg base 5 "sides" (SpK (pSides K))) : Cal P w K mg base 6 "tell_sides" (SpK (pTell K C 16 0 0)) := by
  refine cal_pure (ps := ["desk", "given"]) Df sc39 (fun _ _ _ _ _ _ us hl => match us, hl with | [_, _], _ => rfl) (fun vs H k ⟨_, _, _, _, _, e, _⟩ => by rw [e]; rfl) fun f cdv A outer s H vs E k hr ⟨d, g, D, xs, rs, e, ⟨dx, ad, cd, sd, ld, sh, hD⟩, hG, hx, hrs, ok, okr, ek⟩ => ?_
  obtain rfl := nil_of hx
  obtain rfl := nil_of hrs
  have hq := hG.nums
  subst e ek
  have wf := hD.w
  exact gb_ret (gv_lst (vs := [.int (D.f.sides : Nat)]) (ga_cons (gv_sides cs hr (by decide) (gv_bitsD T (gv_var 0) hD) (gv_saysD T (gv_var 0) hD) (.inl ⟨_, rfl, .inr hD.says⟩) wf) ga_nil) (Nat.le_of_ble_eq_true rfl))
theorem SV_of_eq (n : Nat) (p : Nat → Bool) : SV (Krdk.of n p) = (Krdk.words n).map fun x => V.int (Mt.b2i (p x)) := by
  unfold SV
  rw [Mt.S_of, List.map_map]
  rfl
/-! ### tell_fewest: 0:desk 1:given 2:count 3:word -/
theorem sc40 : FnScope ["desk", "given", "count", "word"] ["desk", "given"] (defScope (top 40)) := ⟨rfl, rfl, rfl, by decide +kernel, rfl, by decide +kernel, by decide +kernel⟩
theorem c_tell_fewest (T : ClD K C) (B : Bl mg) (Z : Ct mg) (Df : DefAt K mg "tell_fewest" (top 40)) (cs : Cal P w K mg base 5 "sides" (SpK (pSides K))) : Cal P w K mg base 6 "tell_fewest" (SpK (pTell K C 17 0 0)) := by
  refine cal_pure (ps := ["desk", "given"]) Df sc40 (fun _ _ _ _ _ _ us hl => match us, hl with | [_, _], _ => rfl) (fun vs H k ⟨_, _, _, _, _, e, _⟩ => by rw [e]; rfl) fun f cdv A outer s H vs E k hr ⟨d, g, D, xs, rs, e, ⟨dx, ad, cd, sd, ld, sh, hD⟩, hG, hx, hrs, ok, okr, ek⟩ => ?_
  obtain rfl := nil_of hx
  obtain rfl := nil_of hrs
  have hq := hG.nums
  subst e ek
  have wf := hD.w
  have h5 := p2le wf.n5
  refine gb_set 2 sc40.nd (gv_sumD T rfl B (gv_var 0) hD) ?_
  refine gb_ret (gv_lst (vs := [.int ((Krdk.first D.f.n D.f.yes).sides : Nat)]) (ga_cons (gv_sides (f := Krdk.first D.f.n D.f.yes) cs hr (by decide) (gv_bitsD T (gv_var 0) hD) (Gv.to (gv_lcR (N := ((2 ^ D.f.n : Nat) : Int)) 3 rfl sc40.nd B.range (gv_lenD T B (gv_var 0) hD) ⟨Int.le_of_lt (p2int _), by omega⟩ (blkOk_by (own := [("word", 3)]) (N := ["desk", "given", "count", "word"]) (sc := defScope (top 40)) (by decide +kernel)) (fun _ _ _ _ _ => pg_name (i := 3) sc40.nd rfl (Or.inl rfl)) (fun _ _ _ _ _ => pts_nil)
    (fun _ => true) (fun x => .int (Mt.b2i (decide (x < D.f.yes)))) (fun _ => rfl) (fun _ _ => gt_yes) (fun x _ _ => gv_cF fun _ _ _ _ _ => gv_ite (gt_lt (gv_var 3) (gv_var 2)) (fun h => gv_int.is_to ?_) (fun h => gv_int.is_to ?_))) ?_) (.inr rfl) (Mt.of_W wf.n1 wf.n5 _)) ga_nil) (Nat.le_of_ble_eq_true rfl))
  · have : x < D.f.yes := by have := of_decide_eq_true h; omega
    rw [decide_eq_true this]; rfl
  · have : ¬ x < D.f.yes := by have := of_decide_eq_false h; omega
    rw [decide_eq_false this]; rfl
  · rw [given_all, Int.toNat_natCast]
    unfold Krdk.first
    rw [SV_of_eq]
    rfl
theorem gv_falls {X : Cx} {σ : L2.St} {H : Hp} {j : Nat} {a b : Expr} {p pos : Pos} {q : Addr} {f : Krdk.Answer} {i : Nat} (c : Cal X.prog X.w X.K X.mg X.base 1 "falls" (SpK (pFalls X.K))) (hr : Room j X.A) (hj : 1 ≤ j) (ha : Gv (cE X a) σ H (.is (.ref q))) (hb : Gv (cE X b) σ H (.is (.int i))) (hq : Seq X.K H q (SV f)) (wf : W f) (hi : i < f.n) (hg : Gl X "falls" := by rfl)
    (hs : starEach [a, b] X.env = (false, eval a X.env) :: starEach [b] X.env := by rfl) (hs2 : starEach [b] X.env = (false, eval b X.env) :: starEach [] X.env := by rfl) (hpl : (backTo pos (starEach [b] X.env)).any (·.1) = false := by rfl) :
    Gv (cE X (.Call (.Name "falls" p) [a, b] [] pos)) σ H (.is (.bl ((Krdk.words f.n).any fun x => decide (Mt.b2i (f.at_ (x ||| 2 ^ i)) < Mt.b2i (f.at_ x))))) :=
  gv_calv (us := [.ref q, .int i]) c hr hj (ga_cons ha (ga_cons hb ga_nil hs2) hs) (fun _ s => ⟨q, f, i, rfl, hq.same s, wf, hi, rfl⟩) hg (by decide) hs hpl
/-! ### tell_rising: 0:desk 1:given 2:bit -/
theorem sc42 : FnScope ["desk", "given", "bit"] ["desk", "given"] (defScope (top 42)) := ⟨rfl, rfl, rfl, by decide +kernel, rfl, by decide +kernel, by decide +kernel⟩
theorem c_tell_rising (T : ClD K C) (B : Bl mg) (Z : Ct mg) (Df : DefAt K mg "tell_rising" (top 42)) (cf : Cal P w K mg base 1 "falls" (SpK (pFalls K))) : Cal P w K mg base 2 "tell_rising" (SpK (pTell K C 18 0 0)) := by
  refine cal_pure (ps := ["desk", "given"]) Df sc42 (fun _ _ _ _ _ _ us hl => match us, hl with | [_, _], _ => rfl) (fun vs H k ⟨_, _, _, _, _, e, _⟩ => by rw [e]; rfl) fun f cdv A outer s H vs E k hr ⟨d, g, D, xs, rs, e, ⟨dx, ad, cd, sd, ld, sh, hD⟩, hG, hx, hrs, ok, okr, ek⟩ => ?_
  obtain rfl := nil_of hx
  obtain rfl := nil_of hrs
  have hq := hG.nums
  subst e ek
  have wf := hD.w
  have hn := wf.n5
  have e : ansP 18 D [] [] = [if (List.range D.f.n).any (fun i => (Krdk.words D.f.n).any fun x => decide (Mt.b2i (D.f.at_ (x ||| 2 ^ i)) < Mt.b2i (D.f.at_ x))) then 0 else 1] := by
    show KrdoNeutral.told (Krdk.ask D.f.rising) = _
    rw [Mt.rising_eq wf]
    cases (List.range D.f.n).any (fun i => (Krdk.words D.f.n).any fun x => decide (Mt.b2i (D.f.at_ (x ||| 2 ^ i)) < Mt.b2i (D.f.at_ x))) <;> rfl
  rw [e]
  refine gb_ret (gv_lst (vs := [.int _]) (ga_cons (gv_ite (d := (List.range D.f.n).any (fun i => (Krdk.words D.f.n).any fun x => decide (Mt.b2i (D.f.at_ (x ||| 2 ^ i)) < Mt.b2i (D.f.at_ x)))) (gt_val (Gv.is_to (gv_any (bs := (List.range D.f.n).map fun i => (Krdk.words D.f.n).any fun x => decide (Mt.b2i (D.f.at_ (x ||| 2 ^ i)) < Mt.b2i (D.f.at_ x))) rfl B (Gv.to (gv_lcR (N := (D.f.n : Int)) 2 rfl sc42.nd B.range (gv_bitsD T (gv_var 0) hD) (by omega) (blkOk_by (own := [("bit", 2)]) (N := ["desk", "given", "bit"]) (sc := defScope (top 42)) (by decide +kernel)) (fun _ _ _ _ _ => pg_name (i := 2) sc42.nd rfl (Or.inl rfl)) (fun _ _ _ _ _ => pts_nil)
    (fun _ => true) (fun i => .bl ((Krdk.words D.f.n).any fun x => decide (Mt.b2i (D.f.at_ (x ||| 2 ^ i)) < Mt.b2i (D.f.at_ x)))) (fun _ => rfl) (fun _ _ => gt_yes) (fun i hi _ => gv_cF fun _ _ _ _ _ => gv_falls cf hr (by decide) (gv_saysD T (gv_var 0) hD) (gv_var 2) (.inr hD.says) wf (by omega))) ?_) .new) ?_)) (fun h => gv_int.is_to ?_) (fun h => gv_int.is_to ?_)) ga_nil) (Nat.le_of_ble_eq_true rfl))
  · rw [given_all, Int.toNat_natCast, List.map_map]; rfl
  · rw [any_map]
  · rw [if_pos h]
  · rw [if_neg (by rw [h]; decide)]
end
end Sw
set_option Elab.async false
set_option linter.all false
set_option maxRecDepth 100000
set_option maxHeartbeats 2000000
set_option exponentiation.threshold 3000
namespace Sw
open PySem PySem.Spec PyProof.Rows L2 Kx
open Evl (given given_yes given_no given_len)
open Mt (W S swc pt)
theorem rf_yes {n : Nat} {p : Nat → Bool} (h : p n = true) : (List.range (n + 1)).filter p = (List.range n).filter p ++ [n] := by
  rw [List.range_succ, List.filter_append, List.filter_cons, if_pos h]; rfl
theorem rf_no {n : Nat} {p : Nat → Bool} (h : p n = false) : (List.range (n + 1)).filter p = (List.range n).filter p := by
  rw [List.range_succ, List.filter_append, List.filter_cons, if_neg (by rw [h]; decide)]
  show _ ++ [] = _
  rw [List.append_nil]
theorem flat_app {α β : Type} {l : List α} {x : α} {g : α → List β} : (l ++ [x]).flatMap g = l.flatMap g ++ g x := by
  rw [List.flatMap_append]
  simp
theorem flat_len {α β : Type} {g : α → List β} {m : Nat} : ∀ {l : List α}, (∀ x ∈ l, (g x).length ≤ m) → (l.flatMap g).length ≤ l.length * m
  | [], _ => by simp
  | x :: l, h => by
    rw [List.flatMap_cons, List.length_append, List.length_cons, Nat.succ_mul]
    have h1 := h x (List.mem_cons_self ..)
    have h2 := flat_len fun y hy => h y (List.mem_cons_of_mem _ hy)
    omega
theorem rf_len (n : Nat) (p : Nat → Bool) : ((List.range n).filter p).length ≤ n := by
  have := List.length_filter_le p (List.range n)
  simpa using this
section
variable {P : Program} {w : World} {K : PySem.W.Frag} {mg : Str → Option Value} {base : Heap} {C : Addr}
/-- the items told of the parts below i -/
def partsL (f : Krdk.Answer) (i : Nat) : List Int := ((List.range i).filter fun s => pt f s != 0).flatMap fun (s : Nat) => (s : Int) :: Mt.low (pt f s) ((2 ^ f.n : Nat) : Int)
theorem partsL_len (f : Krdk.Answer) (i : Nat) : (partsL f i).length ≤ i * 3 := by
  have h1 := flat_len (g := fun (s : Nat) => (s : Int) :: Mt.low (pt f s) ((2 ^ f.n : Nat) : Int)) (m := 3) (l := (List.range i).filter fun s => pt f s != 0) (fun x _ => Nat.le_refl 3)
  have h2 := rf_len i fun s => pt f s != 0
  unfold partsL
  omega
/-! ### tell_parts: 0:desk 1:given 2:found 3:count 4:chosen 5:share -/
theorem sc36 : FnScope ["desk", "given", "found", "count", "chosen", "share"] ["desk", "given"] (defScope (top 36)) := ⟨rfl, rfl, rfl, by decide +kernel, rfl, by decide +kernel, by decide +kernel⟩
theorem c_tell_parts (T : ClD K C) (B : Bl mg) (Z : Ct mg) (Df : DefAt K mg "tell_parts" (top 36)) (cl : Cal P w K mg base 1 "lowest" (SpK pLow)) (ca : Cal P w K mg base 4 "all_parts" (SpK (pAllParts K))) : Cal P w K mg base 5 "tell_parts" (SpK (pTell K C 14 0 0)) := by
  refine cal_pure (ps := ["desk", "given"]) Df sc36 (fun _ _ _ _ _ _ us hl => match us, hl with | [_, _], _ => rfl) (fun vs H k ⟨_, _, _, _, _, e, _⟩ => by rw [e]; rfl) fun f cdv A outer s H vs E k hr ⟨d, g, D, xs, rs, e, ⟨dx, ad, cd, sd, ld, sh, hD⟩, hG, hx, hrs, ok, okr, ek⟩ => ?_
  obtain rfl := nil_of hx
  obtain rfl := nil_of hrs
  have hq := hG.nums
  subst e ek
  have wf := hD.w
  have h5 := p2le wf.n5
  have e : ansP 14 D [] [] = ((((List.range (2 ^ D.f.n)).filter fun s => pt D.f s != 0).length : Nat) : Int) :: partsL D.f (2 ^ D.f.n) := by
    show KrdoNeutral.told { num := ((Krdk.words D.f.n).filter fun s => D.f.part s != 0).length, nums := ((Krdk.words D.f.n).filter fun s => D.f.part s != 0).flatMap fun (s : Nat) => (s : Int) :: Krdk.fr (D.f.part s) } = _
    have e1 : (fun s => D.f.part s != 0) = fun s => pt D.f s != 0 := funext fun s => Mt.part_zero D.f s
    rw [e1]
    unfold partsL
    simp only [Mt.low_part]
    rfl
  rw [e]
  refine gb_go fun Dn H1 s1 _ hR => ?_
  have hD1 := hD.same s1
  refine go_setO 2 sc36.nd (gv_lst (vs := []) ga_nil (Nat.le_of_ble_eq_true rfl)) fun q H2 fq s2 hq2 => ?_
  refine go_setV 3 sc36.nd gv_int ?_
  refine go_forEL 4 5 rfl sc36.nd B.enum (gv_allparts ca hr (by decide) (gv_saysD T (gv_var 0) (hD1.same s2)) (.inr (hD1.same s2).says) wf) .new (fun a H3 s3 n ha => ?_) PassesOwn.never (pg2 4 5 rfl sc36.nd)
  refine ⟨fun i σ' H' => (Same H1 H' ∧ SqL K H' a (((Krdk.words D.f.n).map (pt D.f)).map .int)) ∧ H' q = some (.lst ((partsL D.f i).map .int)) ∧ ∃ u w, σ' = [some (.ref d), some (.ref g), some (.ref q), some (.int ((((List.range i).filter fun s => pt D.f s != 0).length : Nat) : Int)), u, w], ⟨⟨s2.trans s3, ha⟩, s3 _ _ hq2, none, none, rfl⟩, fun i σ' H' _ w => w.1.2, ?_, ?_⟩
  · rintro i v σ' H' hv ⟨⟨sH, ha'⟩, hq', u0, w0, rfl⟩
    have hi : i < 2 ^ D.f.n ∧ v = .int (pt D.f i) := by
      rw [List.map_map, List.getElem?_map] at hv
      have h1 := hv
      rw [Option.map_eq_some_iff] at h1
      obtain ⟨x, hx, hv2⟩ := h1
      have hxl := (List.getElem?_eq_some_iff.mp hx).1
      have hxl2 : i < 2 ^ D.f.n := by simpa [Krdk.words] using hxl
      unfold Krdk.words at hx
      rw [List.getElem?_range hxl2] at hx
      obtain rfl := Option.some.inj hx
      exact ⟨hxl2, hv2.symm⟩
    obtain ⟨hi, rfl⟩ := hi
    have hqa : q ≠ a := by
      intro z
      obtain ⟨p, ep, fp, hp⟩ := n
      obtain rfl : a = p := by injection ep
      rw [← z, hq2] at fp
      cases fp
    refine go_ifN (fun σ' H' => (Same H1 H' ∧ SqL K H' a (((Krdk.words D.f.n).map (pt D.f)).map .int)) ∧ H' q = some (.lst ((partsL D.f (i + 1)).map .int)) ∧ ∃ u w, σ' = [some (.ref d), some (.ref g), some (.ref q), some (.int ((((List.range (i + 1)).filter fun s => pt D.f s != 0).length : Nat) : Int)), u, w]) (gt_ne (gv_var 5) gv_int) (fun h => ?_) (fun h => ?_) (fun σ' H' w => go_thru w)
    · refine go_setV 3 sc36.nd (gv_add (gv_var 3) gv_int) ?_
      refine go_app (gv_var 2) hq' (by have := partsL_len D.f i; rw [List.length_map]; omega) (gv_var (v := .int i) 4) fun w1 H4 s4 n4 => ?_
      obtain rfl : w1 = .int i := n4
      refine go_extO (gv_var 2) upd_same (gv_low cl hr (by decide) (gv_var 5) (gv_lenD T B (gv_var 0) (hD1.same (same_mut (sH.trans s4) fq))) (p2int _) (lowb (by have := ptb wf i; omega)) (p2b wf.n5)) (by have := partsL_len D.f i; simp [low_len]; omega) fun H5 s5 => ?_
      refine go_thru ⟨⟨same_mut ((same_mut (sH.trans s4) fq).trans s5) fq, ?_⟩, ?_, some (.int (i : Nat)), some (.int (pt D.f i)), ?_⟩
      · have h6 : SqL K (upd H4 q (.lst ((partsL D.f i).map .int ++ [.int i]))) a (((Krdk.words D.f.n).map (pt D.f)).map .int) := sqL_upd (same_l s4 ha') (Ne.symm hqa)
        exact sqL_upd (same_l s5 h6) (Ne.symm hqa)
      · rw [upd_same]
        congr 2
        unfold partsL
        rw [rf_yes h, flat_app, List.map_append]
        simp
      · rw [rf_yes (p := fun s => pt D.f s != 0) h, List.length_append]
        simp
    · refine ⟨⟨sH, ha'⟩, ?_, some (.int (i : Nat)), some (.int (pt D.f i)), ?_⟩
      · unfold partsL
        rw [rf_no h]
        exact hq'
      · rw [rf_no (p := fun s => pt D.f s != 0) h]
        rfl
  · rintro σ' H' ⟨⟨sH, ha'⟩, hq', u0, w0, rfl⟩
    have el : (((Krdk.words D.f.n).map (pt D.f)).map V.int).length = 2 ^ D.f.n := by simp [Krdk.words]
    rw [el] at hq' ⊢
    refine go_ret (gv_cat (xs := [.int _]) (gv_lst (vs := [.int _]) (ga_cons (gv_var 3) ga_nil) (Nat.le_of_ble_eq_true rfl)) (gv_var 2) (.inr ⟨q, rfl, hq'⟩) (by have := partsL_len D.f (2 ^ D.f.n); simp; omega)) (ret_back hR sH)
/-! ### sums by classes -/
def tot (cl : Nat → Nat) (c : Nat → Int) (i k : Nat) : Int := (((List.range i).filter fun s => cl s == k).map c).sum
theorem map_set (m : Nat) (g : Nat → Int) (j : Nat) (x : Int) (h : j < m) : ((List.range m).map g).set j x = (List.range m).map fun k => if k = j then x else g k := by
  apply List.ext_getElem?
  intro i
  rw [List.getElem?_set]
  by_cases hi : i < m
  · by_cases e : j = i
    · subst e
      simp [hi]
    · rw [if_neg e]
      simp [hi, Ne.symm e]
  · by_cases e : j = i
    · omega
    · rw [if_neg e]
      simp [hi]
theorem tot_step (cl : Nat → Nat) (c : Nat → Int) (i k : Nat) : tot cl c (i + 1) k = if k = cl i then tot cl c i k + c i else tot cl c i k := by
  unfold tot
  by_cases e : k = cl i
  · rw [if_pos e, rf_yes (p := fun s => cl s == k) (by rw [e]; exact beq_self_eq_true _), List.map_append, List.sum_append]
    simp
  · rw [if_neg e, rf_no (p := fun s => cl s == k) (beq_eq_false_iff_ne.mpr (Ne.symm e))]
theorem tot_set (cl : Nat → Nat) (c : Nat → Int) (m i : Nat) (h : cl i < m) : ((List.range m).map (tot cl c i)).set (cl i) (tot cl c i (cl i) + c i) = (List.range m).map (tot cl c (i + 1)) := by
  rw [map_set m _ _ _ h]
  apply List.map_congr_left
  intro k _
  rw [tot_step]
  by_cases e : k = cl i
  · rw [if_pos e, if_pos e, e]
  · rw [if_neg e, if_neg e]
theorem tot_zero (cl : Nat → Nat) (c : Nat → Int) (k : Nat) : tot cl c 0 k = 0 := rfl
theorem sum_abs {m : Nat} : ∀ {l : List Int}, (∀ x ∈ l, x.natAbs ≤ m) → l.sum.natAbs ≤ l.length * m
  | [], _ => by simp
  | x :: l, h => by
    rw [List.sum_cons, List.length_cons, Nat.succ_mul]
    have h1 := h x (List.mem_cons_self ..)
    have h2 := sum_abs fun y hy => h y (List.mem_cons_of_mem _ hy)
    omega
theorem tot_abs {cl : Nat → Nat} {c : Nat → Int} {m : Nat} (hc : ∀ i, (c i).natAbs ≤ m) (i k : Nat) : (tot cl c i k).natAbs ≤ i * m := by
  have h1 := sum_abs (m := m) (l := ((List.range i).filter fun s => cl s == k).map c) (by
    intro x hx
    obtain ⟨s, _, rfl⟩ := List.mem_map.mp hx
    exact hc s)
  have h2 := rf_len i fun s => cl s == k
  rw [List.length_map] at h1
  exact Nat.le_trans h1 (Nat.mul_le_mul_right m h2)
theorem mapV (l : List Nat) (g : Nat → Int) : l.map (fun k => V.int (g k)) = (l.map g).map V.int := by rw [List.map_map]; rfl
theorem getV {m : Nat} {g : Nat → Int} {k : Nat} (h : k < m) : (((List.range m).map g).map V.int)[k]? = some (.int (g k)) := by
  rw [List.getElem?_map, List.getElem?_map, List.getElem?_range h]; rfl
theorem ofV {m : Nat} {g : Nat → Int} {k : Nat} {v : V} (h : (((List.range m).map g).map V.int)[k]? = some v) : k < m ∧ v = .int (g k) := by
  have h1 := (List.getElem?_eq_some_iff.mp h).1
  have h2 : k < m := by simpa using h1
  rw [getV h2] at h
  exact ⟨h2, (Option.some.inj h).symm⟩
theorem lev_tot {f : Krdk.Answer} (wf : W f) (k : Nat) : tot Mt.bc (fun s => pt f s * pt f s) (2 ^ f.n) k = Mt.lev f k := by
  unfold tot Mt.lev Krdk.words
  congr 2
  apply List.filter_congr
  intro s hs
  rw [Mt.bits_bc f.n wf.n5 s (List.mem_range.mp hs)]
theorem flat_rng {β : Type} (n i : Nat) (g : Nat → List β) (h : i < n) : (List.range (i + 1)).flatMap g = (List.range i).flatMap g ++ g i := by
  rw [List.range_succ, flat_app]
/-! ### tell_levels: 0:desk 1:given 2:totals 3:level 4:chosen 5:share 6:found 7:total -/
theorem sc37 : FnScope ["desk", "given", "totals", "level", "chosen", "share", "found", "total"] ["desk", "given"] (defScope (top 37)) := ⟨rfl, rfl, rfl, by decide +kernel, rfl, by decide +kernel, by decide +kernel⟩
theorem c_tell_levels (T : ClD K C) (B : Bl mg) (Z : Ct mg) (Df : DefAt K mg "tell_levels" (top 37)) (cb : Cal P w K mg base 1 "bits_set" (SpK pBits)) (cl : Cal P w K mg base 1 "lowest" (SpK pLow)) (ca : Cal P w K mg base 4 "all_parts" (SpK (pAllParts K))) : Cal P w K mg base 5 "tell_levels" (SpK (pTell K C 15 0 0)) := by
  refine cal_pure (ps := ["desk", "given"]) Df sc37 (fun _ _ _ _ _ _ us hl => match us, hl with | [_, _], _ => rfl) (fun vs H k ⟨_, _, _, _, _, e, _⟩ => by rw [e]; rfl) fun f cdv A outer s H vs E k hr ⟨d, g, D, xs, rs, e, ⟨dx, ad, cd, sd, ld, sh, hD⟩, hG, hx, hrs, ok, okr, ek⟩ => ?_
  obtain rfl := nil_of hx
  obtain rfl := nil_of hrs
  have hq := hG.nums
  subst e ek
  have wf := hD.w
  have hn := wf.n5
  have h5 := p2le wf.n5
  have e : ansP 15 D [] [] = ((D.f.n + 1 : Nat) : Int) :: (List.range (D.f.n + 1)).flatMap fun k => Mt.low (Mt.lev D.f k) (((2 ^ D.f.n : Nat) : Int) * ((2 ^ D.f.n : Nat) : Int)) := by
    show KrdoNeutral.told { num := D.f.n + 1, nums := (List.range (D.f.n + 1)).flatMap fun k => Krdk.fr (D.f.level k) } = _
    simp only [Mt.low_lev]
    rfl
  rw [e]
  have m4 : (((2 ^ D.f.n : Nat) : Int) * ((2 ^ D.f.n : Nat) : Int)).natAbs ≤ 32 * 32 := by rw [Int.natAbs_mul]; exact Nat.mul_le_mul (by simpa using h5) (by simpa using h5)
  have mp : ∀ s, (pt D.f s * pt D.f s).natAbs ≤ 1024 := fun s => by rw [Int.natAbs_mul]; exact Nat.mul_le_mul (ptb wf s) (ptb wf s)
  have tb : ∀ i, i ≤ 32 → ∀ k, (tot Mt.bc (fun s => pt D.f s * pt D.f s) i k).natAbs ≤ 32768 := fun i hi k => Nat.le_trans (tot_abs mp i k) (by omega)
  refine gb_go fun Dn H1 s1 _ hR => ?_
  have hD1 := hD.same s1
  refine go_lcX 2 rfl sc37.nd (LcR.to (lc_R (N := ((D.f.n + 1 : Nat) : Int)) 3 B.range (Gv.is_to (gv_add (gv_bitsD T (gv_var 0) hD1) gv_int) (by simp)) (by omega) (blkOk_by (own := [("level", 3)]) (N := ["desk", "given", "totals", "level", "chosen", "share", "found", "total"]) (sc := defScope (top 37)) (by decide +kernel)) (fun _ _ _ _ _ => pg_name (i := 3) sc37.nd rfl (Or.inl rfl)) (fun _ _ _ _ _ => pts_nil)
    (fun _ => true) (fun k => .int (tot Mt.bc (fun s => pt D.f s * pt D.f s) 0 k)) (fun _ => rfl) (fun _ _ => gt_yes) (fun x _ _ => gv_cF fun _ _ _ _ _ => gv_int)) (by rw [given_all, Int.toNat_natCast, mapV])) fun q H2 fq s2 hq2 => ?_
  refine go_forEL 4 5 rfl sc37.nd B.enum (gv_allparts ca hr (by decide) (gv_saysD T (gv_var 0) (hD1.same s2)) (.inr (hD1.same s2).says) wf) .new (fun a H3 s3 n ha => ?_) PassesOwn.never (pg2 4 5 rfl sc37.nd)
  refine ⟨fun i σ' H' => (Same H1 H' ∧ SqL K H' a (((Krdk.words D.f.n).map (pt D.f)).map .int)) ∧ H' q = some (.lst (((List.range (D.f.n + 1)).map (tot Mt.bc (fun s => pt D.f s * pt D.f s) i)).map .int)) ∧ ∃ u w z, σ' = [some (.ref d), some (.ref g), some (.ref q), z, u, w, none, none], ⟨⟨s2.trans s3, ha⟩, s3 _ _ hq2, none, none, none, rfl⟩, fun i σ' H' _ w => w.1.2, ?_, ?_⟩
  · rintro i v σ' H' hv ⟨⟨sH, ha'⟩, hq', u0, w0, z0, rfl⟩
    obtain ⟨hi, rfl⟩ := ofV hv
    have hqa : q ≠ a := by
      intro z
      obtain ⟨p, ep, fp, hp⟩ := n
      obtain rfl : a = p := by injection ep
      rw [← z, hq2] at fp
      cases fp
    have hbc : Mt.bc i < D.f.n + 1 := Nat.lt_succ_of_le (Mt.bc_le D.f.n hn i hi)
    refine go_setV 3 sc37.nd (gv_bits cb hr (by decide) (gv_var 4) (Mt.p32 hn hi)) ?_
    refine go_put (gv_var 2) hq' (gv_var 3) (by simpa using hbc) (gv_add (gv_ixL (gv_var 2) (.old (SqL.of hq')) (gv_var 3) (atI_nat (getV hbc))) (gv_mul (gv_var 5) (gv_var 5) (cmw (by have := ptb wf i; omega) (by have := ptb wf i; omega)))) ?_
    refine go_thru ⟨⟨same_mut sH fq, sqL_upd ha' (Ne.symm hqa)⟩, ?_, some (.int (i : Nat)), some (.int (pt D.f i)), some (.int (Mt.bc i : Nat)), rfl⟩
    rw [upd_same, ← tot_set Mt.bc _ _ _ hbc, List.map_set]
  · rintro σ' H' ⟨⟨sH, ha'⟩, hq', u0, w0, z0, rfl⟩
    have el : (((Krdk.words D.f.n).map (pt D.f)).map V.int).length = 2 ^ D.f.n := by simp [Krdk.words]
    rw [el] at hq'
    have et : (List.range (D.f.n + 1)).map (tot Mt.bc (fun s => pt D.f s * pt D.f s) (2 ^ D.f.n)) = (List.range (D.f.n + 1)).map (Mt.lev D.f) := List.map_congr_left fun k _ => lev_tot wf k
    rw [et] at hq'
    refine go_setO 6 sc37.nd (gv_lst (vs := [.int ((D.f.n + 1 : Nat) : Int)]) (ga_cons (Gv.is_to (gv_lenL B (gv_var 2) (.old (SqL.of hq'))) (by simp)) ga_nil) (Nat.le_of_ble_eq_true rfl)) fun q2 H4 fq2 s4 hq4 => ?_
    have hqq : H4 q = _ := s4 _ _ hq'
    have ne2 : q ≠ q2 := ne_of_none hq' fq2
    refine go_forL 7 rfl sc37.nd (gv_var 2) (.old (SqL.of hqq)) (fun a2 H5 s5 n5 ha5 => ?_) PassesOwn.never
    obtain rfl : a2 = q := by have : V.ref a2 = V.ref q := n5; injection this
    refine ⟨fun i σ' H' => (Same H1 H' ∧ SqL K H' a2 (((List.range (D.f.n + 1)).map (Mt.lev D.f)).map .int)) ∧ H' q2 = some (.lst ((((D.f.n + 1 : Nat) : Int) :: (List.range i).flatMap fun k => Mt.low (Mt.lev D.f k) (((2 ^ D.f.n : Nat) : Int) * ((2 ^ D.f.n : Nat) : Int))).map .int)) ∧ ∃ u, σ' = [some (.ref d), some (.ref g), some (.ref a2), z0, u0, w0, some (.ref q2), u],
      ⟨⟨(sH.trans s4).trans s5, ha5⟩, s5 _ _ hq4, none, rfl⟩, fun i σ' H' _ w => w.1.2, ?_, ?_⟩
    · rintro i v σ' H' hv ⟨⟨sH', ha'⟩, hq', u1, rfl⟩
      obtain ⟨hi, rfl⟩ := ofV hv
      have hlen := flat_len (g := fun k => Mt.low (Mt.lev D.f k) (((2 ^ D.f.n : Nat) : Int) * ((2 ^ D.f.n : Nat) : Int))) (m := 2) (l := List.range i) (fun x _ => Nat.le_refl 2)
      rw [List.length_range] at hlen
      have lb := tb (2 ^ D.f.n) h5 i
      rw [lev_tot wf] at lb
      refine go_extO (gv_var 6) hq' (gv_low cl hr (by decide) (gv_var 7) (gv_mul (gv_lenD T B (gv_var 0) (hD1.same sH')) (gv_lenD T B (gv_var 0) (hD1.same sH')) (cmw (by simp only [Int.natAbs_natCast]; omega) (by simp only [Int.natAbs_natCast]; omega))) (Int.mul_pos (p2int _) (p2int _)) (lowb (by omega)) (lowb (by omega))) (by simp [low_len] at hlen ⊢; omega) fun H6 s6 => ?_
      refine go_thru ⟨⟨same_mut (sH'.trans s6) (sH.free (fq2)), sqL_upd (same_l s6 ha') ne2⟩, ?_, some (.int (Mt.lev D.f i)), rfl⟩
      rw [upd_same, flat_rng _ i _ hi, ← List.map_append]
      rfl
    · rintro σ' H' ⟨⟨sH', ha'⟩, hq', u1, rfl⟩
      have el2 : (((List.range (D.f.n + 1)).map (Mt.lev D.f)).map V.int).length = D.f.n + 1 := by simp
      rw [el2] at hq'
      refine go_ret (gv_var 6) fun v H7 s7 n7 => hR v H7 (sH'.trans s7) ⟨q2, n7, sH.free fq2, s7 _ _ hq'⟩
end
end Sw
set_option Elab.async false
set_option linter.all false
set_option maxRecDepth 100000
set_option maxHeartbeats 2000000
set_option exponentiation.threshold 3000
namespace Sw
open PySem PySem.Spec PyProof.Rows L2 Kx
open Evl (given given_yes given_no given_len)
open Mt (W S swc pt)
section
variable {P : Program} {w : World} {K : PySem.W.Frag} {mg : Str → Option Value} {base : Heap} {C : Addr}
theorem NV_at {l : List Nat} {i x : Nat} (h : l[i]? = some x) : (NV l)[i]? = some (.int (x : Int)) := by
  unfold NV
  rw [List.getElem?_map, h]; rfl
theorem NVsw {f : Krdk.Answer} : NV ((List.range f.n).map (swc f)) = ((List.range f.n).map fun i => ((swc f i : Nat) : Int)).map V.int := by
  unfold NV
  rw [List.map_map, List.map_map]
  rfl
/-! ### tell_idle: 0:desk 1:given 2:idle 3:bit 4:count -/
theorem sc43 : FnScope ["desk", "given", "idle", "bit", "count"] ["desk", "given"] (defScope (top 43)) := ⟨rfl, rfl, rfl, by decide +kernel, rfl, by decide +kernel, by decide +kernel⟩
theorem c_tell_idle (T : ClD K C) (B : Bl mg) (Z : Ct mg) (Df : DefAt K mg "tell_idle" (top 43)) (ca : Cal P w K mg base 4 "all_sways" (SpK (pAllSways K))) : Cal P w K mg base 6 "tell_idle" (SpK (pTell K C 19 0 0)) := by
  refine cal_pure (ps := ["desk", "given"]) Df sc43 (fun _ _ _ _ _ _ us hl => match us, hl with | [_, _], _ => rfl) (fun vs H k ⟨_, _, _, _, _, e, _⟩ => by rw [e]; rfl) fun f cdv A outer s H vs E k hr ⟨d, g, D, xs, rs, e, ⟨dx, ad, cd, sd, ld, sh, hD⟩, hG, hx, hrs, ok, okr, ek⟩ => ?_
  obtain rfl := nil_of hx
  obtain rfl := nil_of hrs
  have hq := hG.nums
  subst e ek
  have wf := hD.w
  have hn := wf.n5
  have e : ansP 19 D [] [] = ((((List.range D.f.n).filter fun i => ((swc D.f i : Nat) : Int) == 0).length : Nat) : Int) :: Krdk.ints ((List.range D.f.n).filter fun i => ((swc D.f i : Nat) : Int) == 0) := by
    show KrdoNeutral.told (Krdk.list ((List.range D.f.n).filter fun i => D.f.sway i == 0)) = _
    rw [Mt.idle_eq]
    rfl
  rw [e]
  have hl := rf_len D.f.n fun i => ((swc D.f i : Nat) : Int) == 0
  refine gb_lcX 2 rfl sc43.nd (LcR.to (lc_EL 3 4 B.enum (gv_allsways ca hr (by decide) (gv_bitsD T (gv_var 0) hD) (gv_saysD T (gv_var 0) hD) (.inr hD.says) wf) (by rw [NVsw]; exact .new) (by simp; omega) (blkOk_by (own := [("bit", 3), ("count", 4)]) (N := ["desk", "given", "idle", "bit", "count"]) (sc := defScope (top 43)) (by decide +kernel)) (fun _ _ _ _ _ => pg2 3 4 rfl sc43.nd) pts_c
    (fun i => ((swc D.f i : Nat) : Int) == 0) (fun i => .int (i : Nat)) (fun _ _ => rfl) (fun i x hx => ?_) (fun i x hx _ => gv_cF fun _ _ _ _ _ => gv_var 3)) (k' := .ob (.lst ((Krdk.ints ((List.range D.f.n).filter fun i => ((swc D.f i : Nat) : Int) == 0)).map .int))) ?_) fun q H1 fq s1 hq1 => ?_
  · obtain ⟨_, rfl⟩ := ofV hx
    exact gt_cF fun _ _ _ _ _ => gt_eq (gv_var 4) gv_int
  · rw [List.length_map, List.length_map, List.length_range]
    unfold given Krdk.ints
    rw [List.map_map]
    rfl
  · exact gb_ret (gv_cat (xs := [.int _]) (gv_lst (vs := [.int _]) (ga_cons (Gv.is_to (gv_lenL B (gv_var 2) (.old (SqL.of hq1))) (by simp [Krdk.ints])) ga_nil) (Nat.le_of_ble_eq_true rfl)) (gv_var 2) (.inr ⟨q, rfl, hq1⟩) (by simp [Krdk.ints]; omega))
theorem amax_most (f : Krdk.Answer) : (List.range f.n).foldl (fun (b : Nat) i => if f.sway b < f.sway i then i else b) 0 = Mt.amax (fun i => (((swc f i : Nat) : Int) : Rat) / ((2 ^ f.n : Nat) : Rat)) f.n := rfl
theorem max_ex {l : List Int} (h : l ≠ []) : ∃ m, IsMax l m := by
  induction l with
  | nil => exact absurd rfl h
  | cons x l ih =>
    by_cases e : l = []
    · subst e
      exact ⟨x, List.mem_cons_self .., fun y hy => by rw [List.mem_singleton.mp hy]; exact Int.le_refl _⟩
    · obtain ⟨m, h1, h2⟩ := ih e
      by_cases c : m ≤ x
      · refine ⟨x, List.mem_cons_self .., fun y hy => ?_⟩
        rcases List.mem_cons.mp hy with z | z
        · omega
        · have := h2 y z; omega
      · refine ⟨m, List.mem_cons_of_mem _ h1, fun y hy => ?_⟩
        rcases List.mem_cons.mp hy with z | z
        · omega
        · exact h2 y z
theorem min_ex {l : List Int} (h : l ≠ []) : ∃ m, IsMin l m := by
  induction l with
  | nil => exact absurd rfl h
  | cons x l ih =>
    by_cases e : l = []
    · subst e
      exact ⟨x, List.mem_cons_self .., fun y hy => by rw [List.mem_singleton.mp hy]; exact Int.le_refl _⟩
    · obtain ⟨m, h1, h2⟩ := ih e
      by_cases c : x ≤ m
      · refine ⟨x, List.mem_cons_self .., fun y hy => ?_⟩
        rcases List.mem_cons.mp hy with z | z
        · omega
        · have := h2 y z; omega
      · refine ⟨m, List.mem_cons_of_mem _ h1, fun y hy => ?_⟩
        rcases List.mem_cons.mp hy with z | z
        · omega
        · exact h2 y z
/-! ### tell_most: 0:desk 1:given 2:counts 3:most -/
theorem sc44 : FnScope ["desk", "given", "counts", "most"] ["desk", "given"] (defScope (top 44)) := ⟨rfl, rfl, rfl, by decide +kernel, rfl, by decide +kernel, by decide +kernel⟩
theorem c_tell_most (T : ClD K C) (B : Bl mg) (Z : Ct mg) (Df : DefAt K mg "tell_most" (top 44)) (cl : Cal P w K mg base 1 "lowest" (SpK pLow)) (ca : Cal P w K mg base 4 "all_sways" (SpK (pAllSways K))) : Cal P w K mg base 6 "tell_most" (SpK (pTell K C 20 0 0)) := by
  refine cal_pure (ps := ["desk", "given"]) Df sc44 (fun _ _ _ _ _ _ us hl => match us, hl with | [_, _], _ => rfl) (fun vs H k ⟨_, _, _, _, _, e, _⟩ => by rw [e]; rfl) fun f cdv A outer s H vs E k hr ⟨d, g, D, xs, rs, e, ⟨dx, ad, cd, sd, ld, sh, hD⟩, hG, hx, hrs, ok, okr, ek⟩ => ?_
  obtain rfl := nil_of hx
  obtain rfl := nil_of hrs
  have hq := hG.nums
  subst e ek
  have wf := hD.w
  have hn := wf.n5
  have h5 := p2le wf.n5
  have hne : (List.range D.f.n).map (fun i => ((swc D.f i : Nat) : Int)) ≠ [] := by
    intro z
    have := congrArg List.length z
    simp at this
    have := wf.n1
    omega
  obtain ⟨m, hm⟩ := max_ex hne
  obtain ⟨j, hj, hf⟩ := first_ix hm.mem
  obtain ⟨e1, e2, e3⟩ := Mt.amax_list (Mt.p2pos D.f.n) hj hm.le hf
  have e : ansP 20 D [] [] = (j : Int) :: Mt.low m ((2 ^ D.f.n : Nat) : Int) := by
    show KrdoNeutral.told { num := ((List.range D.f.n).foldl (fun (b : Nat) i => if D.f.sway b < D.f.sway i then i else b) 0 : Nat), nums := Krdk.fr (D.f.sway ((List.range D.f.n).foldl (fun (b : Nat) i => if D.f.sway b < D.f.sway i then i else b) 0)) } = _
    rw [amax_most, e1, e2]
    rfl
  rw [e]
  have hb : m.natAbs ≤ 32 := by
    rw [e2]
    have := swc_le (f := D.f) j
    simp only [Int.natAbs_natCast]
    omega
  refine gb_setO 2 sc44.nd (Gv.to (gv_allsways ca hr (by decide) (gv_bitsD T (gv_var 0) hD) (gv_saysD T (gv_var 0) hD) (.inr hD.says) wf) (by rw [NVsw])) fun q H1 fq s1 hq1 => ?_
  refine gb_set 3 sc44.nd (gv_max rfl B (gv_var 2) (.old (SqL.of hq1)) hm) ?_
  exact gb_ret (gv_head (gv_index (gv_var 2) (SqL.of hq1) (gv_var 3) hj hf) (gv_low cl hr (by decide) (gv_var 3) (gv_lenD T B (gv_var 0) (hD.same s1)) (p2int _) (lowb (by omega)) (p2b wf.n5)) (by rw [low_len]; decide))
end
end Sw
set_option Elab.async false
set_option linter.all false
set_option maxRecDepth 100000
set_option maxHeartbeats 2000000
set_option exponentiation.threshold 3000
namespace Sw
open PySem PySem.Spec PyProof.Rows L2 Kx
open Evl (given given_yes given_no given_len)
open Mt (W S swc pt)
section
variable {P : Program} {w : World} {K : PySem.W.Frag} {mg : Str → Option Value} {base : Heap} {C : Addr}
/-! ### the desk changed -/
theorem putF_bits {n : Int} {a c s l : Addr} (m : Int) : putF "bits" (.int m) (dF n a c s l) = dF m a c s l := if_pos rfl
theorem putF_says {n : Int} {a c s l : Addr} (a' : Addr) : putF "says" (.ref a') (dF n a c s l) = dF n a' c s l := by
  unfold dF
  rw [putF, if_neg (by decide +kernel), putF, if_pos rfl]
theorem putF_chance {n : Int} {a c s l : Addr} (a' : Addr) : putF "chance" (.ref a') (dF n a c s l) = dF n a a' s l := by
  unfold dF
  rw [putF, if_neg (by decide +kernel), putF, if_neg (by decide +kernel), putF, if_pos rfl]
theorem putF_shelf {n : Int} {a c s l : Addr} (a' : Addr) : putF "shelf" (.ref a') (dF n a c s l) = dF n a c a' l := by
  unfold dF
  rw [putF, if_neg (by decide +kernel), putF, if_neg (by decide +kernel), putF, if_neg (by decide +kernel), putF, if_pos rfl]
theorem putF_past {n : Int} {a c s l : Addr} (a' : Addr) : putF "past" (.ref a') (dF n a c s l) = dF n a c s a' := by
  unfold dF
  rw [putF, if_neg (by decide +kernel), putF, if_neg (by decide +kernel), putF, if_neg (by decide +kernel), putF, if_neg (by decide +kernel), putF, if_pos rfl]
theorem ShAt.but {H H' : Hp} {n : Nat} {vs : List V} {os : List (Option Krdk.Answer)} {d c1 c2 : Addr} {fs : List (Str × V)} (h : ShAt K H n vs os) (z : But d H H') (e : H d = some (.ins c1 c2 fs)) : ShAt K H' n vs os := Paired.mapP h fun v o q => by
  cases o with
  | none => exact q
  | some g => obtain ⟨q1, q2, r, q3, q4⟩ := q; exact ⟨q1, q2, r, q3, z.seqT e q4⟩
structure MadeR (K : PySem.W.Frag) (C : Addr) (H : Hp) (d dx l : Addr) (D : Krdo.Data) (ans : List Int) (v : V) (H2 : Hp) : Prop where
  but : But d H H2
  dk : ∃ a c s sh, Dk K C H2 d D dx a c s l sh
  ret : (Kd.ob (.lst (ans.map V.int))).new H v H2
theorem Dk.with_f {H H2 : Hp} {d : Addr} {D : Krdo.Data} {dx a c s l a' : Addr} {sh : List V} (h : Dk K C H d D dx a c s l sh) (z : But d H H2) {f : Krdk.Answer} (w : W f) (hn : f.n = D.f.n) (i : H2 d = some (.ins C dx (dF D.f.n a' c s l))) (q : SqT K H2 a' (SV f)) : Dk K C H2 d { D with f := f } dx a' c s l sh :=
  ⟨by rw [i, ← hn], w, q, z.seqT h.ins h.ch, h.e, z.seqT h.ins h.shelf, by show ShAt K H2 f.n sh D.shelf; rw [hn]; exact h.sh.but z h.ins, h.four⟩
/-! ### made -/
def spMade (K : PySem.W.Frag) (C : Addr) : Sp := fun vs H Q _ => ∃ (d b : Addr) (D : Krdo.Data) (f : Krdk.Answer) (dx a c s l : Addr) (sh : List V), vs = [.ref d, .ref b] ∧ Dk K C H d D dx a c s l sh ∧ Seq K H b (SV f) ∧ W f ∧ f.n = D.f.n ∧ ∀ v H2, MadeR K C H d dx l { D with f := f } [(f.yes : Int)] v H2 → Q v H2
theorem sc78 : FnScope ["desk", "says"] ["desk", "says"] (defScope (top 78)) := ⟨rfl, rfl, rfl, by decide +kernel, rfl, by decide +kernel, by decide +kernel⟩
theorem c_made (T : ClD K C) (B : Bl mg) (Df : DefAt K mg "made" (top 78)) : Cal P w K mg base 1 "made" (spMade K C) := by
  refine cal_of (ps := ["desk", "says"]) Df sc78 (fun _ _ _ _ _ _ us hl => match us, hl with | [_, _], _ => rfl) (fun vs H Q E ⟨_, _, _, _, _, _, _, _, _, _, e, _⟩ => by rw [e]; rfl) fun f cdv A outer s H vs Q E hr ⟨d, b, D, fa, dx, ad, cd, sd, ld, sh, e, hD, hb, wf, hn, hQ⟩ => ?_
  subst e
  refine go_run ?_
  have fin : ∀ (a' : Addr) (H1 : Hp), Same H H1 → SqT K H1 a' (SV fa) → Go ⟨fun _ H' => Q .non H', Q, fun _ _ => False, fun _ _ => False⟩ (cSs (Bd P w K mg base ["desk", "says"] (top 78) f cdv A outer s H E) ((defBody (top 78)).drop 1)) [some (.ref d), some (.ref b)] (upd H1 d (.ins C dx (dF D.f.n a' cd sd ld))) := by
    intro a' H1 s1 q1
    have z : But d H (upd H1 d (.ins C dx (dF D.f.n a' cd sd ld))) := (But.of s1).upd_
    have q2 : SqT K (upd H1 d (.ins C dx (dF D.f.n a' cd sd ld))) a' (SV fa) := (But.upd_ But.refl).seqT (s1 _ _ hD.ins) q1
    have hb2 : Seq K (upd H1 d (.ins C dx (dF D.f.n a' cd sd ld))) b (SV fa) := hb.imp (z.seqL hD.ins) (z.seqT hD.ins)
    refine go_ret (gv_lst (vs := [.int (fa.yes : Int)]) (ga_cons (Gv.is_to (gv_sumS (ns := S fa) rfl B (gv_var 1) hb2) (by rw [Mt.S_sum wf])) ga_nil) (Nat.le_of_ble_eq_true rfl)) fun v H2 s2 n2 => hQ v H2 ⟨z.then_ s2, ⟨a', cd, sd, sh, hD.with_f (z.then_ s2) wf hn (s2 _ _ upd_same) (same_t s2 q2)⟩, new_but z hD.ins upd_same n2⟩
  rcases hb with hb | hb
  · refine go_fld (gv_var 0) hD.ins T.cl T.n2 (by show 5 < 1000; decide) (gv_tupL B (gv_var 1) (.old hb)) fun w1 H1 s1 ⟨a', ew, _, ha'⟩ => ?_
    subst ew
    rw [putF_says]
    exact fin a' H1 s1 (SqT.of ha')
  · refine go_fld (gv_var 0) hD.ins T.cl T.n2 (by show 5 < 1000; decide) (gv_tupT B (gv_var 1) hb) fun w1 H1 s1 ew => ?_
    obtain rfl : w1 = .ref b := ew
    rw [putF_says]
    exact fin b H1 s1 (same_t s1 hb)
/-- return made(desk, e) -/
theorem go_made {X : Cx} {σ : L2.St} {H : Hp} {j : Nat} {Dn : Ends} {a b : Expr} {p cp pos : Pos} {k : Kd} {rest : List Stmt} {f : Krdk.Answer} {d dx ad cd sd ld : Addr} {D : Krdo.Data} {sh : List V} (cm : Cal X.prog X.w X.K X.mg X.base 1 "made" (spMade X.K C)) (hr : Room j X.A) (hj : 1 ≤ j)
    (hd : Gv (cE X a) σ H (.is (.ref d))) (g : Gv (cE X b) σ H k) (hk : k = .ob (.lst (SV f)) ∨ ∃ q, k = .is (.ref q) ∧ Seq X.K H q (SV f)) (wf : W f) (hn : f.n = D.f.n) (hD : Dk X.K C H d D dx ad cd sd ld sh) (hQ : ∀ v H2, MadeR X.K C H d dx ld { D with f := f } [(f.yes : Int)] v H2 → Dn.rt v H2)
    (hg : Gl X "made" := by rfl) (hs : starEach [a, b] X.env = (false, eval a X.env) :: starEach [b] X.env := by rfl) (hs2 : starEach [b] X.env = (false, eval b X.env) :: starEach [] X.env := by rfl) (hpl : (backTo cp (starEach [b] X.env)).any (·.1) = false := by rfl) :
    Go Dn (cSs X (.Return (some (.Call (.Name "made" p) [a, b] [] cp)) pos :: rest)) σ H := by
  refine go_retC cm hr hj (ga_cons hd (ga_cons g ga_nil hs2) hs) (fun vs H1 E s z => ?_) hg (by decide) hs hpl
  obtain ⟨v1, r1, rfl, e1, v2, r2, rfl, e2, rfl⟩ := z
  obtain rfl : v1 = .ref d := e1
  have fin : ∀ q, v2 = .ref q → Seq X.K H1 q (SV f) → spMade X.K C [.ref d, v2] H1 Dn.rt E := by
    intro q e hq
    subst e
    exact ⟨d, q, D, f, dx, ad, cd, sd, ld, sh, rfl, hD.same s, hq, wf, hn, fun v H2 m => hQ v H2 ⟨(But.of s).trans m.but, m.dk, Kd.new_back m.ret s (Same.refl _)⟩⟩
  rcases hk with rfl | ⟨q, rfl, hq⟩
  · obtain ⟨q, e, hq⟩ := e2
    exact fin q e (.inl (SqL.of hq))
  · exact fin q e2 (hq.same s)
/-! ### what the calls of making share -/
def spMake (K : PySem.W.Frag) (C : Addr) (p nx nr : Nat) : Sp := fun vs H Q _ => ∃ (d g : Addr) (D : Krdo.Data) (xs : List Int) (rs : List (List Int)) (dx a c s l : Addr) (sh : List V), vs = [.ref d, .ref g] ∧ Dk K C H d D dx a c s l sh ∧ Gn K H g xs rs ∧ xs.length = nx ∧ rs.length = nr ∧
  (∀ x ∈ xs, NumOk x) ∧ (∀ r ∈ rs, r.length ≤ 255 ∧ ∀ x ∈ r, NumOk x) ∧ ∀ v H2, MadeR K C H d dx l (datP p D xs rs) (ansP p D xs rs) v H2 → Q v H2
theorem one_rowN {rs : List (List Int)} (h : rs.length = 1) (ok : ∀ r ∈ rs, r.length ≤ 255 ∧ ∀ x ∈ r, NumOk x) : ∃ l : List Nat, rs = [Krdk.ints l] ∧ l.length ≤ 255 ∧ ∀ x ∈ l, x ≤ 4294967295 := by
  obtain ⟨r, rfl, h1, h2⟩ := one_row h ok
  refine ⟨r.map Int.toNat, ?_, by rw [List.length_map]; exact h1, fun x hx => ?_⟩
  · congr 1
    unfold Krdk.ints
    rw [List.map_map]
    conv => lhs; rw [← List.map_id r]
    apply List.map_congr_left
    intro x hx
    have := (h2 x hx).1
    show x = ((x.toNat : Nat) : Int)
    omega
  · obtain ⟨y, hy, rfl⟩ := List.mem_map.mp hx
    have := h2 y hy
    unfold NumOk at this
    omega
theorem Gn.row {H : Hp} {g : Addr} {xs : List Int} {l : List Nat} (h : Gn K H g xs [Krdk.ints l]) : ∃ b, SqL K H g (xs.map V.int ++ [V.ref b]) ∧ SqL K H b (NV l) := by
  obtain ⟨us, q1, q2⟩ := h
  cases q2 with
  | cons q r =>
    cases r
    obtain ⟨b, rfl, q⟩ := q
    exact ⟨b, q1, by rw [NV_ints]; exact q⟩
theorem ints_nat (l : List Nat) : (Krdk.ints l).map Int.toNat = l := by
  unfold Krdk.ints
  rw [List.map_map]
  conv => rhs; rw [← List.map_id l]
  apply List.map_congr_left
  intro x _
  exact Int.toNat_natCast x
theorem ch_d (b : Krdo.Book) (d : Krdo.Data) : (Krdo.changed b d).d = d := by
  unfold Krdo.changed
  split
  · rename_i h; exact h.symm
  · rfl
/-- a call of the first part, asked and what it makes of the desk -/
theorem base_act {p : Nat} {D : Krdo.Data} {xs : List Int} {rs : List (List Int)} {c : Krdk.Call} (hc : KrdoNeutral.call (((p : Int) :: xs) :: rs) = .base c) (hb : ∀ n, c ≠ .begin_ n) {f : Krdk.Answer} {r : Krdk.Ans} (h : Krdk.act (some D.f) c = (some f, r)) :
    ansP p D xs rs = KrdoNeutral.told r ∧ datP p D xs rs = { D with f := f } := by
  have e : actP p D xs rs = (some (Krdo.changed ⟨D, []⟩ { D with f := f }), r) := by
    unfold actP
    rw [hc]
    cases c with
    | begin_ n => exact absurd rfl (hb n)
    | _ => simp only [Krdo.act, h]
  unfold ansP datP
  rw [e]
  exact ⟨rfl, ch_d _ _⟩
theorem with_self (D : Krdo.Data) : { D with f := D.f } = D := rfl
end
end Sw
set_option Elab.async false
set_option linter.all false
set_option maxRecDepth 100000
set_option maxHeartbeats 2000000
set_option exponentiation.threshold 3000
namespace Sw
open PySem PySem.Spec PyProof.Rows L2 Kx
open Evl (given given_yes given_no given_len)
open Mt (W S swc pt)
section
variable {P : Program} {w : World} {K : PySem.W.Frag} {mg : Str → Option Value} {base : Heap} {C : Addr}
theorem refuse {H : Hp} {d dx a c s l : Addr} {D : Krdo.Data} {sh : List V} {Q : VK} {p : Nat} {xs : List Int} {rs : List (List Int)} {n : Int} (hD : Dk K C H d D dx a c s l sh) (hQ : ∀ v H2, MadeR K C H d dx l (datP p D xs rs) (ansP p D xs rs) v H2 → Q v H2)
    (e : ansP p D xs rs = [n] ∧ datP p D xs rs = D) : ∀ v H2, Same H H2 → (Kd.ob (.lst [.int n])).new H v H2 → Q v H2 := fun v H2 s2 n2 => hQ v H2 ⟨But.of s2, ⟨a, c, s, sh, by rw [e.2]; exact hD.same s2⟩, by rw [e.1]; exact n2⟩
theorem accept {H : Hp} {d dx l : Addr} {D : Krdo.Data} {Q : VK} {p : Nat} {xs : List Int} {rs : List (List Int)} {f : Krdk.Answer} (hQ : ∀ v H2, MadeR K C H d dx l (datP p D xs rs) (ansP p D xs rs) v H2 → Q v H2)
    (e : ansP p D xs rs = KrdoNeutral.told (Krdk.nat f.yes) ∧ datP p D xs rs = { D with f := f }) : ∀ v H2, MadeR K C H d dx l { D with f := f } [(f.yes : Int)] v H2 → Q v H2 := fun v H2 m => hQ v H2 (by rw [e.1, e.2]; exact m)
/-! ### told -/
theorem dle (a b : Nat) : decide ((a : Int) ≤ (b : Int)) = decide (a ≤ b) := decide_eq_decide.mpr Int.ofNat_le
theorem dlt (a b : Nat) : decide ((a : Int) < (b : Int)) = decide (a < b) := decide_eq_decide.mpr Int.ofNat_lt
theorem nall (l : List Nat) (p : Nat → Bool) : (!(l.all fun w => !p w)) = l.any p := by
  rw [List.not_all_eq_any_not]
  congr 1
  funext x
  exact Bool.not_not _
theorem inV_nat (l : List Nat) (x : Nat) : inV (.int x) (NV l) = l.contains x := by
  unfold inV NV
  rw [List.any_map]
  induction l with
  | nil => rfl
  | cons y l ih =>
    rw [List.any_cons, ih, List.contains_cons]
    congr 1
    show ((y : Int) == (x : Int)) = (x == y)
    rw [Bool.eq_iff_iff]
    simp
    omega
theorem flat_NV (l : List Nat) : (NV l).all flatV = true := by
  unfold NV
  rw [List.all_map]
  exact List.all_eq_true.mpr fun _ _ => rfl
theorem NV_get {l : List Nat} {i : Nat} {v : V} (h : (NV l)[i]? = some v) : ∃ x, l[i]? = some x ∧ v = .int (x : Nat) := by
  unfold NV at h
  rw [List.getElem?_map, Option.map_eq_some_iff] at h
  obtain ⟨x, hx, rfl⟩ := h
  exact ⟨x, hx, rfl⟩
/-- all of a list, by places -/
theorem given_get {l : List Nat} (v : Nat → V) : given l.length (fun _ => true) (fun i => v (l.getD i 0)) = l.map v := by
  rw [given_all]
  apply List.ext_getElem?
  intro i
  rw [List.getElem?_map, List.getElem?_map]
  by_cases h : i < l.length
  · rw [List.getElem?_range h, List.getElem?_eq_getElem h]
    simp [List.getD_eq_getElem?_getD, List.getElem?_eq_getElem h]
  · rw [List.getElem?_eq_none (by simp; omega), List.getElem?_eq_none (by omega)]
    rfl
theorem getD_of {l : List Nat} {i x : Nat} (h : l[i]? = some x) : l.getD i 0 = x := by rw [List.getD_eq_getElem?_getD, h]; rfl
/-! ### make_told: 0:desk 1:given 2:words 3:size 4:word -/
theorem sc79 : FnScope ["desk", "given", "words", "size", "word"] ["desk", "given"] (defScope (top 79)) := ⟨rfl, rfl, rfl, by decide +kernel, rfl, by decide +kernel, by decide +kernel⟩
theorem c_make_told (T : ClD K C) (B : Bl mg) (Z : Ct mg) (Df : DefAt K mg "make_told" (top 79)) (cr : Cal P w K mg base 1 "refused" (SpK pRefused)) (cm : Cal P w K mg base 1 "made" (spMade K C)) : Cal P w K mg base 2 "make_told" (spMake K C 1 0 1) := by
  refine cal_of (ps := ["desk", "given"]) Df sc79 (fun _ _ _ _ _ _ us hl => match us, hl with | [_, _], _ => rfl) (fun vs H Q E ⟨_, _, _, _, _, _, _, _, _, _, _, e, _⟩ => by rw [e]; rfl) fun f cdv A outer s H vs Q E hr ⟨d, g, D, xs, rs, dx, ad, cd, sd, ld, sh, e, hD, hG, hx, hrs, ok, okr, hQ⟩ => ?_
  obtain rfl := nil_of hx
  obtain ⟨l, rfl, hl, hlm⟩ := one_rowN hrs okr
  obtain ⟨b, hq, hb⟩ := hG.row
  subst e
  have wf := hD.w
  refine go_run ?_
  have h5 := p2le wf.n5
  have hb32 : ∀ {z : Bool}, z = true → (if z then Krdk.say (-22) else Krdk.say 0) = Krdk.say (-22) := fun h => by rw [h]; rfl
  refine go_setV 2 sc79.nd (gv_at (gv_var 1) hq rfl (by decide)) (go_setV 3 sc79.nd (gv_lenD T B (gv_var 0) hD) (go_if (gt_or2 (d1 := decide (32 < l.length)) (d2 := l.any fun x => decide (2 ^ D.f.n ≤ x)) (Gt.to (gt_gt (gv_lenL B (gv_var 2) (.old hb)) (gv_glo Z.mostTold)) ?_) (fun _ => gt_val (Gv.is_to (gv_any (bs := l.map fun x => decide (2 ^ D.f.n ≤ x)) rfl B (Gv.to (gv_lcL 4 rfl sc79.nd (gv_var 2) (.old hb) (by rw [NV_len]; omega) (blkOk_by (own := [("word", 4)]) (N := ["desk", "given", "words", "size", "word"]) (sc := defScope (top 79)) (by decide +kernel)) (fun _ _ _ _ _ => pg_name (i := 4) sc79.nd rfl (Or.inl rfl)) (fun _ _ _ _ _ => pts_nil)
    (fun _ => true) (fun i => .bl (decide (2 ^ D.f.n ≤ l.getD i 0))) (fun _ => rfl) (fun _ _ _ => gt_yes) (fun i v hv _ => ?_)) ?_) .new) ?_))) (fun h nx => ?_) (fun h => ?_)))
  · rw [NV_len, Bool.eq_iff_iff]; simp; omega
  · obtain ⟨x, hx, rfl⟩ := NV_get hv
    refine gv_cF fun _ _ _ _ _ => Gv.is_to (gv_ge (gv_var 4) (gv_var 3)) ?_
    rw [getD_of hx]
    rw [dle]
  · rw [NV_len, given_get (fun x => V.bl (decide (2 ^ D.f.n ≤ x))), List.map_map]; rfl
  · rw [any_map]
  · have e : Krdk.act (some D.f) (.told l) = (some D.f, Krdk.say (-22)) := by
      show (if decide (32 < l.length) || !(l.all fun w => !decide (2 ^ D.f.n ≤ w)) then _ else _) = _
      rw [nall, if_pos h]
    have e2 := base_act (p := 1) (D := D) (xs := []) (rs := [Krdk.ints l]) (c := .told l) (by show Krdo.Call.base (.told ((Krdk.ints l).map Int.toNat)) = _; rw [ints_nat]) (fun n => by intro z; cases z) e
    exact go_ret (gv_ref cr hr (by decide) Z.notRight) (refuse hD hQ e2)
  · have e : Krdk.act (some D.f) (.told l) = (some (Krdk.of D.f.n fun w => l.contains w), Krdk.nat (Krdk.of D.f.n fun w => l.contains w).yes) := by
      show (if decide (32 < l.length) || !(l.all fun w => !decide (2 ^ D.f.n ≤ w)) then _ else _) = _
      rw [nall, if_neg (by rw [h]; decide)]
    have e2 := base_act (p := 1) (D := D) (xs := []) (rs := [Krdk.ints l]) (c := .told l) (by show Krdo.Call.base (.told ((Krdk.ints l).map Int.toNat)) = _; rw [ints_nat]) (fun n => by intro z; cases z) e
    refine go_made cm hr (by decide) (gv_var 0) (Gv.to (gv_lcR (N := ((2 ^ D.f.n : Nat) : Int)) 4 rfl sc79.nd B.range (gv_var 3) ⟨Int.le_of_lt (p2int _), by omega⟩ (blkOk_by (own := [("word", 4)]) (N := ["desk", "given", "words", "size", "word"]) (sc := defScope (top 79)) (by decide +kernel)) (fun _ _ _ _ _ => pg_name (i := 4) sc79.nd rfl (Or.inl rfl)) (fun _ _ _ _ _ => pts_nil)
      (fun _ => true) (fun x => .int (Mt.b2i (l.contains x))) (fun _ => rfl) (fun _ _ => gt_yes) (fun x _ _ => gv_cF fun _ _ _ _ _ => gv_ite (Gt.to (gt_inL (gv_var 4) (gv_var 2) hb rfl (flat_NV l)) (inV_nat l x)) (fun h => gv_int.is_to ?_) (fun h => gv_int.is_to ?_))) ?_) (.inl rfl) (Mt.of_W wf.n1 wf.n5 _) rfl hD (accept hQ e2)
    · rw [h]; rfl
    · rw [h]; rfl
    · rw [given_all, Int.toNat_natCast, SV_of_eq]; rfl
end
end Sw
set_option Elab.async false
set_option linter.all false
set_option maxRecDepth 100000
set_option maxHeartbeats 2000000
set_option exponentiation.threshold 3000
namespace Sw
open PySem PySem.Spec PyProof.Rows L2 Kx
open Evl (given given_yes given_no given_len)
open Mt (W S swc pt)
section
variable {P : Program} {w : World} {K : PySem.W.Frag} {mg : Str → Option Value} {base : Heap} {C : Addr}
/-! ### weight -/
def pWeight (K : PySem.W.Frag) (vs : List V) (H : Hp) (k : Kd) : Prop := ∃ (x b : Nat) (l : List Nat), vs = [.int x, .ref b] ∧ x < 32 ∧ l.length ≤ 5 ∧ SqL K H b (NV l) ∧ k = .is (.int (Krdk.weigh l.length l x : Nat))
theorem sc80 : FnScope ["word", "weights", "bit", "number"] ["word", "weights"] (defScope (top 80)) := ⟨rfl, rfl, rfl, by decide +kernel, rfl, by decide +kernel, by decide +kernel⟩
theorem given_ints (n : Nat) (f : Nat → Bool) (g : Nat → Int) : given n f (fun i => .int (g i)) = (((List.range n).filter f).map g).map V.int := by
  unfold given
  rw [List.map_map]; rfl
theorem c_weight (B : Bl mg) (Df : DefAt K mg "weight" (top 80)) : Cal P w K mg base 1 "weight" (SpK (pWeight K)) := by
  refine cal_pure (ps := ["word", "weights"]) Df sc80 (fun _ _ _ _ _ _ us hl => match us, hl with | [_, _], _ => rfl) (fun vs H k ⟨_, _, _, e, _⟩ => by rw [e]; rfl) fun f cdv A outer s H vs E k hr ⟨x, b, l, e, hx, hl, hb, ek⟩ => ?_
  subst e ek
  refine gb_ret (Gv.is_to (gv_sumL (ns := ((List.range l.length).filter fun i => x.testBit i).map fun i => ((l.getD i 0 : Nat) : Int)) rfl B (Gv.to (gv_lcES 2 3 rfl sc80.nd B.enum (gv_var 1) (.inl hb) (by rw [NV_len]; omega) (blkOk_by (own := [("bit", 2), ("number", 3)]) (N := ["word", "weights", "bit", "number"]) (sc := defScope (top 80)) (by decide +kernel)) (fun _ _ _ _ _ => pg2 2 3 rfl sc80.nd) pts_c
    (fun i => x.testBit i) (fun i => .int ((l.getD i 0 : Nat) : Int)) (fun _ _ => rfl) (fun i v hv => ?_) (fun i v hv _ => ?_)) ?_) .new) ?_)
  · obtain ⟨y, hy, rfl⟩ := NV_get hv
    have hi : i < 5 := by have := (List.getElem?_eq_some_iff.mp hy).1; omega
    refine gt_cF fun _ _ _ _ _ => Gt.to (gt_truI (gv_bandN (n := 1) (gv_shrN (gv_var 0) (gv_var 2)) gv_int)) ?_
    rw [Mt.shr_and x hx i hi]
    cases x.testBit i <;> rfl
  · obtain ⟨y, hy, rfl⟩ := NV_get hv
    refine gv_cF fun _ _ _ _ _ => Gv.is_to (gv_var 3) ?_
    rw [getD_of hy]
  · rw [NV_len, given_ints]
  · rw [Mt.weigh_eq]
    congr 1
    exact (Mt.sum_nat (fun i => l.getD i 0) _).symm
/-! ### make_least: 0:desk 1:given 2:least 3:weights 4:number 5:word -/
theorem sc81 : FnScope ["desk", "given", "least", "weights", "number", "word"] ["desk", "given"] (defScope (top 81)) := ⟨rfl, rfl, rfl, by decide +kernel, rfl, by decide +kernel, by decide +kernel⟩
theorem c_make_least (T : ClD K C) (B : Bl mg) (Z : Ct mg) (Df : DefAt K mg "make_least" (top 81)) (cr : Cal P w K mg base 1 "refused" (SpK pRefused)) (cm : Cal P w K mg base 1 "made" (spMade K C)) (cw : Cal P w K mg base 1 "weight" (SpK (pWeight K))) : Cal P w K mg base 2 "make_least" (spMake K C 2 1 1) := by
  refine cal_of (ps := ["desk", "given"]) Df sc81 (fun _ _ _ _ _ _ us hl => match us, hl with | [_, _], _ => rfl) (fun vs H Q E ⟨_, _, _, _, _, _, _, _, _, _, _, e, _⟩ => by rw [e]; rfl) fun f cdv A outer s H vs Q E hr ⟨d, g, D, xs, rs, dx, ad, cd, sd, ld, sh, e, hD, hG, hx, hrs, ok, okr, hQ⟩ => ?_
  obtain ⟨x, rfl, hxm⟩ := one_num hx ok
  obtain ⟨l, rfl, hl, hlm⟩ := one_rowN hrs okr
  obtain ⟨b, hq, hb⟩ := hG.row
  subst e
  have wf := hD.w
  refine go_run ?_
  have h5 := p2le wf.n5
  have hn := wf.n5
  refine go_asg (pu2 2 3 rfl sc81.nd) (gv_var 1) fun w1 H1 s1 ew => ?_
  obtain rfl : w1 = .ref g := ew
  refine ⟨_, fun Qg q => u2_go (same_l s1 hq) q, ?_⟩
  have hD1 := hD.same s1
  have hb1 := same_l s1 hb
  have hQ1 : ∀ v H2, MadeR K C H1 d dx ld (datP 2 D [(x : Int)] [Krdk.ints l]) (ansP 2 D [(x : Int)] [Krdk.ints l]) v H2 → Q v H2 := fun v H2 m => hQ v H2 ⟨(But.of s1).trans m.but, m.dk, Kd.new_back m.ret s1 (Same.refl _)⟩
  refine go_if (gt_or2 (d1 := (l.length : Int) != (D.f.n : Int)) (d2 := l.any fun v => decide (9 < v)) (Gt.to (gt_ne (gv_lenL B (gv_var 3) (.old hb1)) (gv_bitsD T (gv_var 0) hD1)) (by rw [NV_len])) (fun _ => gt_val (Gv.is_to (gv_any (bs := l.map fun v => decide (9 < v)) rfl B (Gv.to (gv_lcL 4 rfl sc81.nd (gv_var 3) (.old hb1) (by rw [NV_len]; omega) (blkOk_by (own := [("number", 4)]) (N := ["desk", "given", "least", "weights", "number", "word"]) (sc := defScope (top 81)) (by decide +kernel)) (fun _ _ _ _ _ => pg_name (i := 4) sc81.nd rfl (Or.inl rfl)) (fun _ _ _ _ _ => pts_nil)
    (fun _ => true) (fun i => .bl (decide (9 < l.getD i 0))) (fun _ => rfl) (fun _ _ _ => gt_yes) (fun i v hv _ => ?_)) ?_) .new) ?_))) (fun h nx => ?_) (fun h => ?_)
  · obtain ⟨y, hy, rfl⟩ := NV_get hv
    refine gv_cF fun _ _ _ _ _ => Gv.is_to (gv_gt (gv_var 4) (gv_glo Z.mostWeight)) ?_
    rw [getD_of hy]
    exact congrArg V.bl (dlt 9 y)
  · rw [NV_len, given_get (fun x => V.bl (decide (9 < x))), List.map_map]; rfl
  · rw [any_map]
  · have e : Krdk.act (some D.f) (.least x l) = (some D.f, Krdk.say (-22)) := by
      show (if l.length ≠ D.f.n || !(l.all fun v => decide (v ≤ 9)) then _ else _) = _
      have e3 : (fun v => decide (v ≤ 9)) = fun v : Nat => !decide (9 < v) := by
        funext v
        rw [Bool.eq_iff_iff]; simp
      rw [e3, nall, if_pos]
      rw [← h]
      congr 1
      rw [Bool.eq_iff_iff]; simp; omega
    have e2 := base_act (p := 2) (D := D) (xs := [(x : Int)]) (rs := [Krdk.ints l]) (c := .least x l) (by show Krdo.Call.base (.least (Int.toNat (x : Int)) ((Krdk.ints l).map Int.toNat)) = _; rw [ints_nat, Int.toNat_natCast]) (fun n => by intro z; cases z) e
    exact go_ret (gv_ref cr hr (by decide) Z.notRight) (refuse hD1 hQ1 e2)
  · obtain ⟨hln, h9⟩ := Bool.or_eq_false_iff.mp h
    have hlen : l.length = D.f.n := by
      have := bne_eq_false_iff_eq.mp hln
      omega
    have e : Krdk.act (some D.f) (.least x l) = (some (Krdk.of D.f.n fun w => decide (x ≤ Krdk.weigh D.f.n l w)), Krdk.nat (Krdk.of D.f.n fun w => decide (x ≤ Krdk.weigh D.f.n l w)).yes) := by
      show (if l.length ≠ D.f.n || !(l.all fun v => decide (v ≤ 9)) then _ else _) = _
      have e3 : (fun v => decide (v ≤ 9)) = fun v : Nat => !decide (9 < v) := by
        funext v
        rw [Bool.eq_iff_iff]; simp
      rw [e3, nall, if_neg]
      rw [h9]
      simp [hlen]
    have e2 := base_act (p := 2) (D := D) (xs := [(x : Int)]) (rs := [Krdk.ints l]) (c := .least x l) (by show Krdo.Call.base (.least (Int.toNat (x : Int)) ((Krdk.ints l).map Int.toNat)) = _; rw [ints_nat, Int.toNat_natCast]) (fun n => by intro z; cases z) e
    refine go_made cm hr (by decide) (gv_var 0) (Gv.to (gv_lcR (N := ((2 ^ D.f.n : Nat) : Int)) 5 rfl sc81.nd B.range (gv_lenD T B (gv_var 0) hD1) ⟨Int.le_of_lt (p2int _), by omega⟩ (blkOk_by (own := [("word", 5)]) (N := ["desk", "given", "least", "weights", "number", "word"]) (sc := defScope (top 81)) (by decide +kernel)) (fun _ _ _ _ _ => pg_name (i := 5) sc81.nd rfl (Or.inl rfl)) (fun _ _ _ _ _ => pts_nil)
      (fun _ => true) (fun v => .int (Mt.b2i (decide (x ≤ Krdk.weigh D.f.n l v)))) (fun _ => rfl) (fun _ _ => gt_yes) (fun v hv _ => gv_cF fun _ _ _ _ _ => gv_ite (Gt.to (gt_ge (gv_calv (us := [.int (v : Nat), .ref b]) cw hr (by decide) (ga_cons (gv_var 5) (ga_cons (gv_var 3) ga_nil)) (fun H2 s2 => ⟨v, b, l, rfl, by omega, by omega, same_l s2 hb1, rfl⟩)) (gv_var 2)) (dle _ _)) (fun h => gv_int.is_to ?_) (fun h => gv_int.is_to ?_))) ?_) (.inl rfl) (Mt.of_W wf.n1 wf.n5 _) rfl hD1 (accept hQ1 e2)
    · rw [← hlen, h]; rfl
    · rw [← hlen, h]; rfl
    · rw [given_all, Int.toNat_natCast, SV_of_eq]; rfl
/-! ### make_odd: 0:desk 1:given 2:chosen 3:word -/
theorem sc82 : FnScope ["desk", "given", "chosen", "word"] ["desk", "given"] (defScope (top 82)) := ⟨rfl, rfl, rfl, by decide +kernel, rfl, by decide +kernel, by decide +kernel⟩
theorem c_make_odd (T : ClD K C) (B : Bl mg) (Z : Ct mg) (Df : DefAt K mg "make_odd" (top 82)) (cr : Cal P w K mg base 1 "refused" (SpK pRefused)) (cm : Cal P w K mg base 1 "made" (spMade K C)) (co : Cal P w K mg base 2 "meets_oddly" (SpK pOdd)) : Cal P w K mg base 3 "make_odd" (spMake K C 3 1 0) := by
  refine cal_of (ps := ["desk", "given"]) Df sc82 (fun _ _ _ _ _ _ us hl => match us, hl with | [_, _], _ => rfl) (fun vs H Q E ⟨_, _, _, _, _, _, _, _, _, _, _, e, _⟩ => by rw [e]; rfl) fun f cdv A outer s H vs Q E hr ⟨d, g, D, xs, rs, dx, ad, cd, sd, ld, sh, e, hD, hG, hx, hrs, ok, okr, hQ⟩ => ?_
  obtain ⟨x, rfl, hxm⟩ := one_num hx ok
  obtain rfl := nil_of hrs
  have hq := hG.nums
  subst e
  have wf := hD.w
  refine go_run ?_
  have h5 := p2le wf.n5
  have hn := wf.n5
  refine go_setV 2 sc82.nd (gv_at (gv_var 1) hq rfl (by decide)) (go_if (gt_ge (gv_var 2) (gv_lenD T B (gv_var 0) hD)) (fun h nx => ?_) fun h => ?_)
  · have e : Krdk.act (some D.f) (.odd x) = (some D.f, Krdk.say (-22)) := by
      show (if decide (2 ^ D.f.n ≤ x) then _ else _) = _
      rw [if_pos (by rw [← h, dle])]
    exact go_ret (gv_ref cr hr (by decide) Z.notRight) (refuse hD hQ (base_act (c := .odd x) rfl (fun n => by intro z; cases z) e))
  · have hx2 := natle h
    have e : Krdk.act (some D.f) (.odd x) = (some (Krdk.of D.f.n fun w => Krdk.meet D.f.n x w % 2 == 1), Krdk.nat (Krdk.of D.f.n fun w => Krdk.meet D.f.n x w % 2 == 1).yes) := by
      show (if decide (2 ^ D.f.n ≤ x) then _ else _) = _
      rw [if_neg (by rw [← dle, h]; decide)]
    refine go_made cm hr (by decide) (gv_var 0) (Gv.to (gv_lcR (N := ((2 ^ D.f.n : Nat) : Int)) 3 rfl sc82.nd B.range (gv_lenD T B (gv_var 0) hD) ⟨Int.le_of_lt (p2int _), by omega⟩ (blkOk_by (own := [("word", 3)]) (N := ["desk", "given", "chosen", "word"]) (sc := defScope (top 82)) (by decide +kernel)) (fun _ _ _ _ _ => pg_name (i := 3) sc82.nd rfl (Or.inl rfl)) (fun _ _ _ _ _ => pts_nil)
      (fun _ => true) (fun v => .int (Mt.b2i (Krdk.meet D.f.n x v % 2 == 1))) (fun _ => rfl) (fun _ _ => gt_yes) (fun v hv _ => gv_cF fun _ _ _ _ _ => Gv.is_to (gv_odd co hr (by decide) (gv_var 3) (gv_var 2) hn (by omega) hx2) ?_)) ?_) (.inl rfl) (Mt.of_W wf.n1 wf.n5 _) rfl hD (accept hQ (base_act (c := .odd x) rfl (fun n => by intro z; cases z) e))
    · have : Krdk.meet D.f.n x v % 2 = 0 ∨ Krdk.meet D.f.n x v % 2 = 1 := by omega
      rcases this with h | h <;> rw [h] <;> rfl
    · rw [given_all, Int.toNat_natCast, SV_of_eq]; rfl
/-! ### make_bit: 0:desk 1:given 2:bit 3:word -/
theorem sc83 : FnScope ["desk", "given", "bit", "word"] ["desk", "given"] (defScope (top 83)) := ⟨rfl, rfl, rfl, by decide +kernel, rfl, by decide +kernel, by decide +kernel⟩
theorem c_make_bit (T : ClD K C) (B : Bl mg) (Z : Ct mg) (Df : DefAt K mg "make_bit" (top 83)) (cr : Cal P w K mg base 1 "refused" (SpK pRefused)) (cm : Cal P w K mg base 1 "made" (spMade K C)) : Cal P w K mg base 2 "make_bit" (spMake K C 4 1 0) := by
  refine cal_of (ps := ["desk", "given"]) Df sc83 (fun _ _ _ _ _ _ us hl => match us, hl with | [_, _], _ => rfl) (fun vs H Q E ⟨_, _, _, _, _, _, _, _, _, _, _, e, _⟩ => by rw [e]; rfl) fun f cdv A outer s H vs Q E hr ⟨d, g, D, xs, rs, dx, ad, cd, sd, ld, sh, e, hD, hG, hx, hrs, ok, okr, hQ⟩ => ?_
  obtain ⟨x, rfl, hxm⟩ := one_num hx ok
  obtain rfl := nil_of hrs
  have hq := hG.nums
  subst e
  have wf := hD.w
  refine go_run ?_
  have h5 := p2le wf.n5
  have hn := wf.n5
  refine go_setV 2 sc83.nd (gv_at (gv_var 1) hq rfl (by decide)) (go_if (gt_ge (gv_var 2) (gv_bitsD T (gv_var 0) hD)) (fun h nx => ?_) fun h => ?_)
  · have e : Krdk.act (some D.f) (.bit x) = (some D.f, Krdk.say (-2)) := by
      show (if decide (D.f.n ≤ x) then _ else _) = _
      rw [if_pos (by rw [← h, dle])]
    exact go_ret (gv_ref cr hr (by decide) Z.noSuch) (refuse hD hQ (base_act (c := .bit x) rfl (fun n => by intro z; cases z) e))
  · have hx2 := natle h
    have e : Krdk.act (some D.f) (.bit x) = (some (Krdk.of D.f.n fun w => w.testBit x), Krdk.nat (Krdk.of D.f.n fun w => w.testBit x).yes) := by
      show (if decide (D.f.n ≤ x) then _ else _) = _
      rw [if_neg (by rw [← dle, h]; decide)]
    refine go_made cm hr (by decide) (gv_var 0) (Gv.to (gv_lcR (N := ((2 ^ D.f.n : Nat) : Int)) 3 rfl sc83.nd B.range (gv_lenD T B (gv_var 0) hD) ⟨Int.le_of_lt (p2int _), by omega⟩ (blkOk_by (own := [("word", 3)]) (N := ["desk", "given", "bit", "word"]) (sc := defScope (top 83)) (by decide +kernel)) (fun _ _ _ _ _ => pg_name (i := 3) sc83.nd rfl (Or.inl rfl)) (fun _ _ _ _ _ => pts_nil)
      (fun _ => true) (fun v => .int (Mt.b2i (v.testBit x))) (fun _ => rfl) (fun _ _ => gt_yes) (fun v hv _ => gv_cF fun _ _ _ _ _ => Gv.is_to (gv_bandN (n := 1) (gv_shrN (gv_var 3) (gv_var 2)) gv_int) ?_)) ?_) (.inl rfl) (Mt.of_W wf.n1 wf.n5 _) rfl hD (accept hQ (base_act (c := .bit x) rfl (fun n => by intro z; cases z) e))
    · rw [Mt.shr_and v (by omega) x (by omega)]
      cases v.testBit x <;> rfl
    · rw [given_all, Int.toNat_natCast, SV_of_eq]; rfl
/-! ### make_not: 0:desk 1:given 2:said -/
theorem sc84 : FnScope ["desk", "given", "said"] ["desk", "given"] (defScope (top 84)) := ⟨rfl, rfl, rfl, by decide +kernel, rfl, by decide +kernel, by decide +kernel⟩
theorem c_make_not (T : ClD K C) (B : Bl mg) (Z : Ct mg) (Df : DefAt K mg "make_not" (top 84)) (cm : Cal P w K mg base 1 "made" (spMade K C)) : Cal P w K mg base 2 "make_not" (spMake K C 5 0 0) := by
  refine cal_of (ps := ["desk", "given"]) Df sc84 (fun _ _ _ _ _ _ us hl => match us, hl with | [_, _], _ => rfl) (fun vs H Q E ⟨_, _, _, _, _, _, _, _, _, _, _, e, _⟩ => by rw [e]; rfl) fun f cdv A outer s H vs Q E hr ⟨d, g, D, xs, rs, dx, ad, cd, sd, ld, sh, e, hD, hG, hx, hrs, ok, okr, hQ⟩ => ?_
  obtain rfl := nil_of hx
  obtain rfl := nil_of hrs
  have hq := hG.nums
  subst e
  have wf := hD.w
  refine go_run ?_
  have h5 := p2le wf.n5
  have e : Krdk.act (some D.f) .not_ = (some (Krdk.of D.f.n fun w => !D.f.at_ w), Krdk.nat (Krdk.of D.f.n fun w => !D.f.at_ w).yes) := rfl
  refine go_made cm hr (by decide) (gv_var 0) (Gv.to (gv_lcT 2 rfl sc84.nd (gv_saysD T (gv_var 0) hD) (.old hD.says) (SV_le wf) (blkOk_by (own := [("said", 2)]) (N := ["desk", "given", "said"]) (sc := defScope (top 84)) (by decide +kernel)) (fun _ _ _ _ _ => pg_name (i := 2) sc84.nd rfl (Or.inl rfl)) (fun _ _ _ _ _ => pts_nil)
      (fun _ => true) (fun v => .int (Mt.b2i (!D.f.at_ v))) (fun _ => rfl) (fun _ _ _ => gt_yes) (fun v y hv _ => ?_)) ?_) (.inl rfl) (Mt.of_W wf.n1 wf.n5 _) rfl hD (accept hQ (base_act (c := .not_) rfl (fun n => by intro z; cases z) e))
  · obtain ⟨_, rfl⟩ := SV_of wf hv
    refine gv_cF fun _ _ _ _ _ => Gv.is_to (gv_sub gv_int (gv_var 2)) ?_
    cases D.f.at_ v <;> rfl
  · rw [given_all, SV_len wf, SV_of_eq]; rfl
/-! ### make_turn: 0:desk 1:given 2:bit 3:word -/
theorem sc85 : FnScope ["desk", "given", "bit", "word"] ["desk", "given"] (defScope (top 85)) := ⟨rfl, rfl, rfl, by decide +kernel, rfl, by decide +kernel, by decide +kernel⟩
theorem c_make_turn (T : ClD K C) (B : Bl mg) (Z : Ct mg) (Df : DefAt K mg "make_turn" (top 85)) (cr : Cal P w K mg base 1 "refused" (SpK pRefused)) (cm : Cal P w K mg base 1 "made" (spMade K C)) (ct : Cal P w K mg base 1 "turned" (SpK pTurned)) : Cal P w K mg base 2 "make_turn" (spMake K C 6 1 0) := by
  refine cal_of (ps := ["desk", "given"]) Df sc85 (fun _ _ _ _ _ _ us hl => match us, hl with | [_, _], _ => rfl) (fun vs H Q E ⟨_, _, _, _, _, _, _, _, _, _, _, e, _⟩ => by rw [e]; rfl) fun f cdv A outer s H vs Q E hr ⟨d, g, D, xs, rs, dx, ad, cd, sd, ld, sh, e, hD, hG, hx, hrs, ok, okr, hQ⟩ => ?_
  obtain ⟨x, rfl, hxm⟩ := one_num hx ok
  obtain rfl := nil_of hrs
  have hq := hG.nums
  subst e
  have wf := hD.w
  refine go_run ?_
  have h5 := p2le wf.n5
  have hn := wf.n5
  refine go_setV 2 sc85.nd (gv_at (gv_var 1) hq rfl (by decide)) (go_if (gt_ge (gv_var 2) (gv_bitsD T (gv_var 0) hD)) (fun h nx => ?_) fun h => ?_)
  · have e : Krdk.act (some D.f) (.turn x) = (some D.f, Krdk.say (-2)) := by
      show (if decide (D.f.n ≤ x) then _ else _) = _
      rw [if_pos (by rw [← h, dle])]
    exact go_ret (gv_ref cr hr (by decide) Z.noSuch) (refuse hD hQ (base_act (c := .turn x) rfl (fun n => by intro z; cases z) e))
  · have hx2 := natle h
    have e : Krdk.act (some D.f) (.turn x) = (some (Krdk.of D.f.n fun w => D.f.at_ (Krdk.flip w x)), Krdk.nat (Krdk.of D.f.n fun w => D.f.at_ (Krdk.flip w x)).yes) := by
      show (if decide (D.f.n ≤ x) then _ else _) = _
      rw [if_neg (by rw [← dle, h]; decide)]
    refine go_made cm hr (by decide) (gv_var 0) (Gv.to (gv_lcR (N := ((2 ^ D.f.n : Nat) : Int)) 3 rfl sc85.nd B.range (gv_lenD T B (gv_var 0) hD) ⟨Int.le_of_lt (p2int _), by omega⟩ (blkOk_by (own := [("word", 3)]) (N := ["desk", "given", "bit", "word"]) (sc := defScope (top 85)) (by decide +kernel)) (fun _ _ _ _ _ => pg_name (i := 3) sc85.nd rfl (Or.inl rfl)) (fun _ _ _ _ _ => pts_nil)
      (fun _ => true) (fun v => .int (Mt.b2i (D.f.at_ (Krdk.flip v x)))) (fun _ => rfl) (fun _ _ => gt_yes) (fun v hv _ => gv_cF fun _ _ _ _ _ => gv_ixT (gv_saysD T (gv_var 0) hD) (.old hD.says) (gv_turned ct hr (by decide) (gv_var 3) (gv_var 2) (by omega) (by omega)) (atI_nat (SV_at wf (Mt.flip_lt D.f.n hn v (by omega) x hx2))))) ?_) (.inl rfl) (Mt.of_W wf.n1 wf.n5 _) rfl hD (accept hQ (base_act (c := .turn x) rfl (fun n => by intro z; cases z) e))
    rw [given_all, Int.toNat_natCast, SV_of_eq]; rfl
theorem SV_set {f : Krdk.Answer} (x : Nat) (b : Bool) : SV ⟨f.n, f.t.set x b⟩ = (SV f).set x (.int (Mt.b2i b)) := by
  unfold SV Mt.S
  rw [List.map_map, List.map_map, List.map_set]; rfl
theorem set_W {f : Krdk.Answer} (wf : W f) (x : Nat) (b : Bool) : W ⟨f.n, f.t.set x b⟩ := ⟨wf.n1, wf.n5, by show (f.t.set x b).length = _; rw [List.length_set]; exact wf.len⟩
/-! ### make_set: 0:desk 1:given 2:word 3:said 4:says -/
theorem sc86 : FnScope ["desk", "given", "word", "said", "says"] ["desk", "given"] (defScope (top 86)) := ⟨rfl, rfl, rfl, by decide +kernel, rfl, by decide +kernel, by decide +kernel⟩
theorem c_make_set (T : ClD K C) (B : Bl mg) (Z : Ct mg) (Df : DefAt K mg "make_set" (top 86)) (cr : Cal P w K mg base 1 "refused" (SpK pRefused)) (cm : Cal P w K mg base 1 "made" (spMade K C)) : Cal P w K mg base 2 "make_set" (spMake K C 7 2 0) := by
  refine cal_of (ps := ["desk", "given"]) Df sc86 (fun _ _ _ _ _ _ us hl => match us, hl with | [_, _], _ => rfl) (fun vs H Q E ⟨_, _, _, _, _, _, _, _, _, _, _, e, _⟩ => by rw [e]; rfl) fun f cdv A outer s H vs Q E hr ⟨d, g, D, xs, rs, dx, ad, cd, sd, ld, sh, e, hD, hG, hx, hrs, ok, okr, hQ⟩ => ?_
  obtain ⟨x, y, rfl, hxm, hym⟩ := two_num hx ok
  obtain rfl := nil_of hrs
  have hq := hG.nums
  subst e
  have wf := hD.w
  refine go_run ?_
  have h5 := p2le wf.n5
  refine go_asg (pu2 2 3 rfl sc86.nd) (gv_var 1) fun w1 H1 s1 ew => ?_
  obtain rfl : w1 = .ref g := ew
  refine ⟨_, fun Qg q => u2_go (same_l s1 hq) q, ?_⟩
  have hD1 := hD.same s1
  have hQ1 : ∀ v H2, MadeR K C H1 d dx ld (datP 7 D [(x : Int), (y : Int)] []) (ansP 7 D [(x : Int), (y : Int)] []) v H2 → Q v H2 := fun v H2 m => hQ v H2 ⟨(But.of s1).trans m.but, m.dk, Kd.new_back m.ret s1 (Same.refl _)⟩
  refine go_if (gt_or2 (Gt.to (gt_ge (gv_var 2) (gv_lenD T B (gv_var 0) hD1)) (dle _ _)) (fun _ => Gt.to (gt_gt (gv_var 3) gv_int) (dlt 1 y))) (fun h nx => ?_) (fun h => ?_)
  · have e : Krdk.act (some D.f) (.set x y) = (some D.f, Krdk.say (-22)) := by
      show (if decide (2 ^ D.f.n ≤ x) || decide (1 < y) then _ else _) = _
      rw [if_pos h]
    exact go_ret (gv_ref cr hr (by decide) Z.notRight) (refuse hD1 hQ1 (base_act (c := .set x y) rfl (fun n => by intro z; cases z) e))
  · have e : Krdk.act (some D.f) (.set x y) = (some ⟨D.f.n, D.f.t.set x (y == 1)⟩, Krdk.nat (Krdk.Answer.yes ⟨D.f.n, D.f.t.set x (y == 1)⟩)) := by
      show (if decide (2 ^ D.f.n ≤ x) || decide (1 < y) then _ else _) = _
      rw [if_neg (by rw [h]; decide)]
    obtain ⟨hx2, hy2⟩ := Bool.or_eq_false_iff.mp h
    have hx3 : x < 2 ^ D.f.n := by have := of_decide_eq_false hx2; omega
    have hy3 : V.int (y : Int) = .int (Mt.b2i (y == 1)) := by
      have : y = 0 ∨ y = 1 := by have := of_decide_eq_false hy2; omega
      rcases this with rfl | rfl <;> rfl
    refine go_setO 4 sc86.nd (gv_listT B (gv_saysD T (gv_var 0) hD1) (.old hD1.says)) fun q H2 fq s2 hq2 => ?_
    refine go_put (gv_var 4) hq2 (gv_var 2) (by rw [SV_len wf]; exact hx3) (gv_var 3) ?_
    have s3 : Same H1 (upd H2 q (.lst ((SV D.f).set x (.int (y : Int))))) := same_mut s2 fq
    refine go_made (f := ⟨D.f.n, D.f.t.set x (y == 1)⟩) cm hr (by decide) (gv_var 0) (gv_var 4) (.inr ⟨q, rfl, .inl (SqL.of (by rw [upd_same, SV_set, hy3]))⟩) (set_W wf _ _) rfl (hD1.same s3) fun v H4 m => accept hQ1 (base_act (c := .set x y) rfl (fun n => by intro z; cases z) e) v H4 ⟨(But.of s3).trans m.but, m.dk, Kd.new_back m.ret s3 (Same.refl _)⟩
/-! ### tell_state: 0:desk 1:given 2:word 3:said -/
theorem sc87 : FnScope ["desk", "given", "word", "said"] ["desk", "given"] (defScope (top 87)) := ⟨rfl, rfl, rfl, by decide +kernel, rfl, by decide +kernel, by decide +kernel⟩
theorem c_tell_state (T : ClD K C) (B : Bl mg) (Z : Ct mg) (Df : DefAt K mg "tell_state" (top 87))  : Cal P w K mg base 2 "tell_state" (SpK (pTell K C 21 0 0)) := by
  refine cal_pure (ps := ["desk", "given"]) Df sc87 (fun _ _ _ _ _ _ us hl => match us, hl with | [_, _], _ => rfl) (fun vs H k ⟨_, _, _, _, _, e, _⟩ => by rw [e]; rfl) fun f cdv A outer s H vs E k hr ⟨d, g, D, xs, rs, e, ⟨dx, ad, cd, sd, ld, sh, hD⟩, hG, hx, hrs, ok, okr, ek⟩ => ?_
  obtain rfl := nil_of hx
  obtain rfl := nil_of hrs
  have hq := hG.nums
  subst e ek
  have wf := hD.w
  have h5 := p2le wf.n5
  have e : ansP 21 D [] [] = ((D.f.n : Nat) : Int) :: Krdk.ints ((Krdk.words D.f.n).filter D.f.at_) := rfl
  rw [e]
  have hl := rf_len (2 ^ D.f.n) D.f.at_
  refine gb_ret (gv_head (gv_bitsD T (gv_var 0) hD) (Gv.to (gv_lcES 2 3 rfl sc87.nd B.enum (gv_saysD T (gv_var 0) hD) (.inr hD.says) (SV_le wf) (blkOk_by (own := [("word", 2), ("said", 3)]) (N := ["desk", "given", "word", "said"]) (sc := defScope (top 87)) (by decide +kernel)) (fun _ _ _ _ _ => pg2 2 3 rfl sc87.nd) pts_c
    D.f.at_ (fun i => .int (i : Nat)) (fun _ _ => rfl) (fun i v hv => ?_) (fun i v hv _ => gv_cF fun _ _ _ _ _ => gv_var 2)) ?_) ?_)
  · obtain ⟨_, rfl⟩ := SV_of wf hv
    refine gt_cF fun _ _ _ _ _ => Gt.to (gt_eq (gv_var 3) gv_int) ?_
    cases D.f.at_ i <;> rfl
  · rw [SV_len wf]
    unfold given Krdk.ints
    rw [List.map_map]; rfl
  · unfold Krdk.ints Krdk.words
    rw [List.length_map]
    omega
end
end Sw
set_option Elab.async false
set_option linter.all false
set_option maxRecDepth 100000
set_option maxHeartbeats 2000000
set_option exponentiation.threshold 3000
namespace Sw
open PySem PySem.Spec PyProof.Rows L2 Kx
open Evl (given given_yes given_no given_len)
open Mt (W S swc pt)
section
variable {P : Program} {w : World} {K : PySem.W.Frag} {mg : Str → Option Value} {base : Heap} {C : Addr}
theorem Seq.but {H H' : Hp} {d c1 c2 q : Addr} {fs : List (Str × V)} {xs : List V} (h : Seq K H q xs) (z : But d H H') (e : H d = some (.ins c1 c2 fs)) : Seq K H' q xs := h.imp (z.seqL e) (z.seqT e)
/-! ### chances in numbers -/
structure Cn (a b : Int) : Prop where
  a0 : 0 ≤ a
  b1 : 1 ≤ b
  b20 : b ≤ 20
  half : 2 * a ≤ b
theorem cn_of {e : Rat} {a b : Int} (h : Mt.Ch e a b) : Cn a b := ⟨h.a0, h.b1, h.b20, h.half⟩
theorem pow20 {x : Int} (h : x.natAbs ≤ 20) (n : Nat) : (x ^ n).natAbs ≤ 20 ^ n := by
  rw [Int.natAbs_pow]
  exact Nat.pow_le_pow_left h n
theorem pow20b {x : Int} (h : x.natAbs ≤ 20) {n : Nat} (hn : n ≤ 5) : (x ^ n).natAbs ≤ 3200000 := Nat.le_trans (pow20 h n) (Nat.le_trans (Nat.pow_le_pow_right (by decide) hn) (by decide))
theorem cnt_b {a b : Int} (h : Cn a b) {n d : Nat} (hn : n ≤ 5) (hd : d ≤ n) : (Mt.cnt n a b d).natAbs ≤ 3200000 := by
  have := h.a0; have := h.b1; have := h.b20; have := h.half
  unfold Mt.cnt
  rw [Int.natAbs_mul]
  have h1 := pow20 (x := a) (by omega) d
  have h2 := pow20 (x := b - a) (by omega) (n - d)
  have h3 := Nat.mul_le_mul h1 h2
  rw [← Nat.pow_add] at h3
  have e : d + (n - d) = n := by omega
  rw [e] at h3
  exact Nat.le_trans h3 (Nat.le_trans (Nat.pow_le_pow_right (by decide) hn) (by decide))
theorem bpos {a b : Int} (h : Cn a b) (n : Nat) : (0 : Int) < b ^ n := Int.pow_pos (by have := h.b1; omega)
theorem bpow_b {a b : Int} (h : Cn a b) {n : Nat} (hn : n ≤ 5) : (b ^ n).natAbs ≤ 3200000 := pow20b (by have := h.b1; have := h.b20; omega) hn
/-! ### chance_right -/
def pChR (K : PySem.W.Frag) (vs : List V) (H : Hp) (k : Kd) : Prop := ∃ (g x y : Nat), vs = [.ref g] ∧ SqL K H g [.int (x : Nat), .int (y : Nat)] ∧ x ≤ 4294967295 ∧ k = .is (.bl (Krdl.chanceOk x y))
/-! ### chance_right: 0:given 1:upper 2:lower -/
theorem sc91 : FnScope ["given", "upper", "lower"] ["given"] (defScope (top 91)) := ⟨rfl, rfl, rfl, by decide +kernel, rfl, by decide +kernel, by decide +kernel⟩
theorem c_chance_right_mishearing (Z : Ct mg) (Df : DefAt K mg "chance_right_mishearing" (top 91)) : Cal P w K mg base 1 "chance_right_mishearing" (SpK (pChR K)) := by
  refine cal_pure (ps := ["given"]) Df sc91 (fun _ _ _ _ _ _ us hl => match us, hl with | [_], _ => rfl) (fun vs H k ⟨_, _, _, e, _⟩ => by rw [e]; rfl) fun f cdv A outer s H vs E k hr ⟨g, x, y, e, hq, hx, ek⟩ => ?_
  subst e ek
  refine gb_asg (pu2 1 2 rfl sc91.nd) (gv_var 0) fun w1 H1 H2 s1 s2 ew => ?_
  obtain rfl : w1 = .ref g := ew
  refine ⟨_, fun Qg q => u2_go (same_l (s1.trans s2) hq) q, ?_⟩
  refine gb_ret (Gv.is_to (gv_and3 (c1 := decide (1 ≤ y)) (c2 := decide (y ≤ 20)) (c3 := decide (2 * x ≤ y)) (Gv.is_to (gv_le gv_int (gv_var 2)) (congrArg V.bl (dle 1 y))) (fun _ => Gv.is_to (gv_le (gv_var 2) (gv_glo Z.lowerM)) (congrArg V.bl (dle y 20))) (fun _ _ => Gv.is_to (gv_le (gv_mul gv_int (gv_var 1) (cmw (by decide) (by simp only [Int.natAbs_natCast]; omega))) (gv_var 2)) (congrArg V.bl ?_))) ?_)
  · have : (2 : Int) * (x : Int) = ((2 * x : Nat) : Int) := by omega
    rw [this, dle]
  · unfold Krdl.chanceOk
    rw [Bool.and_assoc]
theorem gv_chance_right_mishearing {X : Cx} {σ : L2.St} {H : Hp} {j : Nat} {a : Expr} {p pos : Pos} {g x y : Nat} (cc : Cal X.prog X.w X.K X.mg X.base 1 "chance_right_mishearing" (SpK (pChR X.K))) (hr : Room j X.A) (hj : 1 ≤ j) (h0 : Gv (cE X a) σ H (.is (.ref g))) (hq : SqL X.K H g [.int (x : Nat), .int (y : Nat)]) (hx : x ≤ 4294967295) (hg : Gl X "chance_right_mishearing" := by rfl)
    (hs0 : starEach [a] X.env = (false, eval a X.env) :: starEach [] X.env := by rfl) (hpl : (backTo pos (starEach [] X.env)).any (·.1) = false := by rfl) :
    Gv (cE X (.Call (.Name "chance_right_mishearing" p) [a] [] pos)) σ H (.is (.bl (Krdl.chanceOk x y))) :=
  gv_calv (us := [.ref g]) cc hr hj (ga_cons h0 ga_nil hs0) (fun _ s => ⟨g, x, y, rfl, same_l s hq, hx, rfl⟩) hg (by decide) hs0 hpl
theorem chOk {x y : Nat} (h : Krdl.chanceOk x y = true) : Cn x y := by
  unfold Krdl.chanceOk at h
  simp at h
  exact ⟨by omega, by omega, by omega, by omega⟩
theorem chOk2 {x y : Nat} (h : Krdl.chanceOk x y = true) : Mt.Ch ((x : Rat) / (y : Rat)) x y := by
  have c := chOk h
  exact ⟨rfl, c.a0, c.b1, c.b20, c.half⟩
/-! ### whole -/
def pWhole (K : PySem.W.Frag) (vs : List V) (H : Hp) (k : Kd) : Prop := ∃ (n c : Nat) (a b : Int), vs = [.int (n : Nat), .ref c] ∧ Seq K H c [.int a, .int b] ∧ Cn a b ∧ n ≤ 5 ∧ k = .is (.int (b ^ n))
/-! ### whole: 0:bits 1:chance -/
theorem sc94 : FnScope ["bits", "chance"] ["bits", "chance"] (defScope (top 94)) := ⟨rfl, rfl, rfl, by decide +kernel, rfl, by decide +kernel, by decide +kernel⟩
theorem c_whole (cp : Cal P w K mg base 1 "power" (SpK pPower)) (Df : DefAt K mg "whole" (top 94)) : Cal P w K mg base 2 "whole" (SpK (pWhole K)) := by
  refine cal_pure (ps := ["bits", "chance"]) Df sc94 (fun _ _ _ _ _ _ us hl => match us, hl with | [_, _], _ => rfl) (fun vs H k ⟨_, _, _, _, e, _⟩ => by rw [e]; rfl) fun f cdv A outer s H vs E k hr ⟨n, c, a, b, e, hq, hc, hn, ek⟩ => ?_
  subst e ek
  exact gb_ret (gv_power cp hr (by decide) (gv_ixS (gv_var 1) hq gv_int rfl) (gv_var 0) (by have := hc.b1; have := hc.b20; omega) (by omega))
theorem gv_whole {X : Cx} {σ : L2.St} {H : Hp} {j : Nat} {e1 e2 : Expr} {p pos : Pos} {n c : Nat} {a b : Int} (cc : Cal X.prog X.w X.K X.mg X.base 2 "whole" (SpK (pWhole X.K))) (hr : Room j X.A) (hj : 2 ≤ j) (h0 : Gv (cE X e1) σ H (.is (.int (n : Nat)))) (h1 : Gv (cE X e2) σ H (.is (.ref c))) (hq : Seq X.K H c [.int a, .int b]) (hc : Cn a b) (hn : n ≤ 5) (hg : Gl X "whole" := by rfl)
    (hs0 : starEach [e1, e2] X.env = (false, eval e1 X.env) :: starEach [e2] X.env := by rfl) (hs1 : starEach [e2] X.env = (false, eval e2 X.env) :: starEach [] X.env := by rfl) (hpl : (backTo pos (starEach [e2] X.env)).any (·.1) = false := by rfl) :
    Gv (cE X (.Call (.Name "whole" p) [e1, e2] [] pos)) σ H (.is (.int (b ^ n))) :=
  gv_calv (us := [.int (n : Nat), .ref c]) cc hr hj (ga_cons h0 (ga_cons h1 ga_nil hs1) hs0) (fun _ s => ⟨n, c, a, b, rfl, hq.same s, hc, hn, rfl⟩) hg (by decide) hs0 hpl
/-! ### heard -/
def pHeard (K : PySem.W.Frag) (vs : List V) (H : Hp) (k : Kd) : Prop := ∃ (n c : Nat) (a b : Int), vs = [.int (n : Nat), .ref c] ∧ Seq K H c [.int a, .int b] ∧ Cn a b ∧ n ≤ 5 ∧ k = .ob (.lst (((List.range (n + 1)).map (Mt.cnt n a b)).map .int))
/-! ### heard: 0:bits 1:chance 2:upper 3:lower 4:differ -/
theorem sc95 : FnScope ["bits", "chance", "upper", "lower", "differ"] ["bits", "chance"] (defScope (top 95)) := ⟨rfl, rfl, rfl, by decide +kernel, rfl, by decide +kernel, by decide +kernel⟩
theorem c_heard (B : Bl mg) (cp : Cal P w K mg base 1 "power" (SpK pPower)) (Df : DefAt K mg "heard" (top 95)) : Cal P w K mg base 2 "heard" (SpK (pHeard K)) := by
  refine cal_pure (ps := ["bits", "chance"]) Df sc95 (fun _ _ _ _ _ _ us hl => match us, hl with | [_, _], _ => rfl) (fun vs H k ⟨_, _, _, _, e, _⟩ => by rw [e]; rfl) fun f cdv A outer s H vs E k hr ⟨n, c, a, b, e, hq, hc, hn, ek⟩ => ?_
  subst e ek
  have := hc.a0; have := hc.b1; have := hc.b20; have := hc.half
  have fin : ∀ H1, GB (cSs (Bd P w K mg base ["bits", "chance", "upper", "lower", "differ"] (top 95) f cdv A outer s H E) ((defBody (top 95)).drop 1)) [some (.int (n : Nat)), some (.ref c), some (.int a), some (.int b), none] H1 (fun _ => False) (.ob (.lst (((List.range (n + 1)).map (Mt.cnt n a b)).map .int))) := by
    intro H1
    refine gb_ret (Gv.to (gv_lcR (N := ((n + 1 : Nat) : Int)) 4 rfl sc95.nd B.range (Gv.is_to (gv_add (gv_var 0) gv_int) (by simp)) (by omega) (blkOk_by (own := [("differ", 4)]) (N := ["bits", "chance", "upper", "lower", "differ"]) (sc := defScope (top 95)) (by decide +kernel)) (fun _ _ _ _ _ => pg_name (i := 4) sc95.nd rfl (Or.inl rfl)) (fun _ _ _ _ _ => pts_nil)
      (fun _ => true) (fun d => .int (Mt.cnt n a b d)) (fun _ => rfl) (fun _ _ => gt_yes) (fun d hd _ => gv_cF fun _ _ _ _ _ => gv_mul (gv_power cp hr (by decide) (gv_var 2) (gv_var 4) (by omega) (by omega)) (gv_power (n := n - d) cp hr (by decide) (gv_sub (gv_var 3) (gv_var 2)) (Gv.is_to (gv_sub (gv_var 0) (gv_var 4)) (by congr 1; omega)) (by omega) (by omega)) (cmw ?_ ?_))) ?_)
    · have h1 := pow20 (x := a) (by omega) d
      have h2 : 20 ^ d ≤ 20 ^ 5 := Nat.pow_le_pow_right (by decide) (by omega)
      exact Nat.lt_of_le_of_lt (Nat.le_trans h1 h2) (by decide)
    · have h1 := pow20 (x := b - a) (by omega) (n - d)
      have h2 : 20 ^ (n - d) ≤ 20 ^ 5 := Nat.pow_le_pow_right (by decide) (by omega)
      exact Nat.lt_of_le_of_lt (Nat.le_trans h1 h2) (by decide)
    · rw [given_all, Int.toNat_natCast, mapV]
  rcases hq with hq | hq
  · refine gb_asg (pu2 2 3 rfl sc95.nd) (gv_var 1) fun w1 H1 H2 s1 s2 ew => ?_
    obtain rfl : w1 = .ref c := ew
    exact ⟨_, fun Qg q => u2_go (same_l (s1.trans s2) hq) q, fin H2⟩
  · refine gb_asg (pg2 2 3 rfl sc95.nd) (gv_var 1) fun w1 H1 H2 s1 s2 ew => ?_
    obtain rfl : w1 = .ref c := ew
    exact ⟨_, fun Qg q => t2_go (same_t (s1.trans s2) hq) q, fin H2⟩
theorem gv_heard {X : Cx} {σ : L2.St} {H : Hp} {j : Nat} {e1 e2 : Expr} {p pos : Pos} {n c : Nat} {a b : Int} (cc : Cal X.prog X.w X.K X.mg X.base 2 "heard" (SpK (pHeard X.K))) (hr : Room j X.A) (hj : 2 ≤ j) (h0 : Gv (cE X e1) σ H (.is (.int (n : Nat)))) (h1 : Gv (cE X e2) σ H (.is (.ref c))) (hq : Seq X.K H c [.int a, .int b]) (hc : Cn a b) (hn : n ≤ 5) (hg : Gl X "heard" := by rfl)
    (hs0 : starEach [e1, e2] X.env = (false, eval e1 X.env) :: starEach [e2] X.env := by rfl) (hs1 : starEach [e2] X.env = (false, eval e2 X.env) :: starEach [] X.env := by rfl) (hpl : (backTo pos (starEach [e2] X.env)).any (·.1) = false := by rfl) :
    Gv (cE X (.Call (.Name "heard" p) [e1, e2] [] pos)) σ H (.ob (.lst (((List.range (n + 1)).map (Mt.cnt n a b)).map .int))) :=
  gv_calv (us := [.int (n : Nat), .ref c]) cc hr hj (ga_cons h0 (ga_cons h1 ga_nil hs1) hs0) (fun _ s => ⟨n, c, a, b, rfl, hq.same s, hc, hn, rfl⟩) hg (by decide) hs0 hpl
end
end Sw
set_option Elab.async false
set_option linter.all false
set_option maxRecDepth 100000
set_option maxHeartbeats 2000000
set_option exponentiation.threshold 3000
namespace Sw
open PySem PySem.Spec PyProof.Rows L2 Kx
open Evl (given given_yes given_no given_len)
open Mt (W S swc pt)
section
variable {P : Program} {w : World} {K : PySem.W.Frag} {mg : Str → Option Value} {base : Heap} {C : Addr}
open Mt (ys ry)
/-! ### bounds -/
theorem ys_b {f : Krdk.Answer} (wf : W f) {a b : Int} (h : Cn a b) (x : Nat) : (ys f a b x).natAbs ≤ 102400000 := by
  unfold Mt.ys
  have h1 := sum_abs (m := 3200000) (l := ((Krdk.words f.n).filter f.at_).map fun y => Mt.cnt f.n a b (Krdk.bits f.n (x ^^^ y))) (by
    intro z hz
    obtain ⟨y, _, rfl⟩ := List.mem_map.mp hz
    exact cnt_b h wf.n5 (Mt.bits_le _ _))
  have h2 := rf_len (2 ^ f.n) f.at_
  rw [List.length_map] at h1
  have h5 := p2le wf.n5
  have h3 : ((Krdk.words f.n).filter f.at_).length ≤ 32 := Nat.le_trans h2 h5
  exact Nat.le_trans h1 (Nat.mul_le_mul_right 3200000 h3)
theorem ry_b {f : Krdk.Answer} (wf : W f) {a b : Int} (h : Cn a b) (x : Nat) : (ry f a b x).natAbs ≤ 105600000 := by
  unfold Mt.ry
  have h1 := ys_b wf h x
  have h2 := bpow_b h wf.n5
  split <;> omega
theorem sum32 {f : Krdk.Answer} (wf : W f) {g : Nat → Int} {m : Nat} (h : ∀ x, (g x).natAbs ≤ m) : ((Krdk.words f.n).map g).sum.natAbs ≤ 32 * m := by
  have h1 := sum_abs (m := m) (l := (Krdk.words f.n).map g) (by
    intro z hz
    obtain ⟨y, _, rfl⟩ := List.mem_map.mp hz
    exact h y)
  have h5 := p2le wf.n5
  have e : ((Krdk.words f.n).map g).length = 2 ^ f.n := by simp [Krdk.words]
  rw [e] at h1
  exact Nat.le_trans h1 (Nat.mul_le_mul_right m h5)
/-! ### yes_said -/
def pYesSaid (K : PySem.W.Frag) (vs : List V) (H : Hp) (k : Kd) : Prop := ∃ (q c x : Nat) (f : Krdk.Answer) (a b : Int), vs = [.ref q, .ref c, .int (x : Nat)] ∧ Seq K H q (SV f) ∧ SqL K H c (((List.range (f.n + 1)).map (Mt.cnt f.n a b)).map .int) ∧ W f ∧ x < 2 ^ f.n ∧ k = .is (.int (ys f a b x))
/-! ### yes_said: 0:says 1:counts 2:meant 3:word 4:said -/
theorem sc97 : FnScope ["says", "counts", "meant", "word", "said"] ["says", "counts", "meant"] (defScope (top 97)) := ⟨rfl, rfl, rfl, by decide +kernel, rfl, by decide +kernel, by decide +kernel⟩
theorem c_yes_said (B : Bl mg) (cb : Cal P w K mg base 1 "bits_set" (SpK pBits)) (Df : DefAt K mg "yes_said" (top 97)) : Cal P w K mg base 2 "yes_said" (SpK (pYesSaid K)) := by
  refine cal_pure (ps := ["says", "counts", "meant"]) Df sc97 (fun _ _ _ _ _ _ us hl => match us, hl with | [_, _, _], _ => rfl) (fun vs H k ⟨_, _, _, _, _, _, e, _⟩ => by rw [e]; rfl) fun f cdv A outer s H vs E k hr ⟨q, c, x, fa, a, b, e, hq, hc, wf, hx, ek⟩ => ?_
  subst e ek
  have hn := wf.n5
  refine gb_ret (Gv.is_to (gv_sumL (ns := ((Krdk.words fa.n).filter fa.at_).map fun y => Mt.cnt fa.n a b (Krdk.bits fa.n (x ^^^ y))) rfl B (Gv.to (gv_lcES 3 4 rfl sc97.nd B.enum (gv_var 0) hq (SV_le wf) (blkOk_by (own := [("word", 3), ("said", 4)]) (N := ["says", "counts", "meant", "word", "said"]) (sc := defScope (top 97)) (by decide +kernel)) (fun _ _ _ _ _ => pg2 3 4 rfl sc97.nd) pts_c
    fa.at_ (fun y => .int (Mt.cnt fa.n a b (Krdk.bits fa.n (x ^^^ y)))) (fun _ _ => rfl) (fun i v hv => ?_) (fun i v hv _ => ?_)) ?_) .new) rfl)
  · obtain ⟨_, rfl⟩ := SV_of wf hv
    refine gt_cF fun _ _ _ _ _ => Gt.to (gt_eq (gv_var 4) gv_int) ?_
    cases fa.at_ i <;> rfl
  · obtain ⟨hi, rfl⟩ := SV_of wf hv
    have hxi := Mt.xor_lt fa.n hn x hx i hi
    refine gv_cF fun _ _ _ _ _ => gv_ixL (gv_var 1) (.old hc) (gv_bits cb hr (by decide) (gv_xorN (gv_var 2) (gv_var 3)) (Mt.p32 hn hxi)) (atI_nat ?_)
    rw [Mt.bits_bc fa.n hn _ hxi]
    exact getV (Nat.lt_succ_of_le (Mt.bc_le fa.n hn _ hxi))
  · rw [SV_len wf, given_ints]; rfl
/-! ### all_yes_said -/
def pAllYes (K : PySem.W.Frag) (vs : List V) (H : Hp) (k : Kd) : Prop := ∃ (q c : Nat) (f : Krdk.Answer) (a b : Int), vs = [.int (f.n : Nat), .ref q, .ref c] ∧ Seq K H q (SV f) ∧ Seq K H c [.int a, .int b] ∧ W f ∧ Cn a b ∧ k = .ob (.lst (((Krdk.words f.n).map (ys f a b)).map .int))
/-! ### all_yes_said: 0:bits 1:says 2:chance 3:counts 4:meant -/
theorem sc98 : FnScope ["bits", "says", "chance", "counts", "meant"] ["bits", "says", "chance"] (defScope (top 98)) := ⟨rfl, rfl, rfl, by decide +kernel, rfl, by decide +kernel, by decide +kernel⟩
theorem c_all_yes_said (B : Bl mg) (ch : Cal P w K mg base 2 "heard" (SpK (pHeard K))) (cy : Cal P w K mg base 2 "yes_said" (SpK (pYesSaid K))) (Df : DefAt K mg "all_yes_said" (top 98)) : Cal P w K mg base 3 "all_yes_said" (SpK (pAllYes K)) := by
  refine cal_pure (ps := ["bits", "says", "chance"]) Df sc98 (fun _ _ _ _ _ _ us hl => match us, hl with | [_, _, _], _ => rfl) (fun vs H k ⟨_, _, _, _, _, e, _⟩ => by rw [e]; rfl) fun f cdv A outer s H vs E k hr ⟨q, c, fa, a, b, e, hq, hc, wf, hcn, ek⟩ => ?_
  subst e ek
  have hn := wf.n5
  have h5 := p2le hn
  refine gb_setO 3 sc98.nd (gv_heard ch hr (by decide) (gv_var 0) (gv_var 2) hc hcn hn) fun q1 H1 fq s1 hq1 => ?_
  refine gb_ret (Gv.to (gv_lcR (N := ((2 ^ fa.n : Nat) : Int)) 4 rfl sc98.nd B.range (Gv.is_to (gv_lenS B (gv_var 1) (hq.same s1)) (by rw [SV_len wf])) ⟨Int.le_of_lt (p2int _), by omega⟩ (blkOk_by (own := [("meant", 4)]) (N := ["bits", "says", "chance", "counts", "meant"]) (sc := defScope (top 98)) (by decide +kernel)) (fun _ _ _ _ _ => pg_name (i := 4) sc98.nd rfl (Or.inl rfl)) (fun _ _ _ _ _ => pts_nil)
    (fun _ => true) (fun x => .int (ys fa a b x)) (fun _ => rfl) (fun _ _ => gt_yes) (fun x hx _ => gv_cF fun _ _ _ _ _ => gv_calv (us := [.ref q, .ref q1, .int (x : Nat)]) cy hr (by decide) (ga_cons (gv_var 1) (ga_cons (gv_var 3) (ga_cons (gv_var 4) ga_nil))) (fun H2 s2 => ⟨q, q1, x, fa, a, b, rfl, hq.same (s1.trans s2), same_l s2 (SqL.of hq1), wf, by omega, rfl⟩))) ?_)
  rw [given_all, Int.toNat_natCast, mapV]; rfl
theorem gv_all_yes_said {X : Cx} {σ : L2.St} {H : Hp} {j : Nat} {e1 e2 e3 : Expr} {p pos : Pos} {q c : Nat} {f : Krdk.Answer} {a b : Int} (cc : Cal X.prog X.w X.K X.mg X.base 3 "all_yes_said" (SpK (pAllYes X.K))) (hr : Room j X.A) (hj : 3 ≤ j) (h0 : Gv (cE X e1) σ H (.is (.int (f.n : Nat)))) (h1 : Gv (cE X e2) σ H (.is (.ref q))) (h2 : Gv (cE X e3) σ H (.is (.ref c))) (hq : Seq X.K H q (SV f)) (hc : Seq X.K H c [.int a, .int b]) (wf : W f) (hcn : Cn a b) (hg : Gl X "all_yes_said" := by rfl)
    (hs0 : starEach [e1, e2, e3] X.env = (false, eval e1 X.env) :: starEach [e2, e3] X.env := by rfl) (hs1 : starEach [e2, e3] X.env = (false, eval e2 X.env) :: starEach [e3] X.env := by rfl) (hs2 : starEach [e3] X.env = (false, eval e3 X.env) :: starEach [] X.env := by rfl) (hpl : (backTo pos (starEach [e2, e3] X.env)).any (·.1) = false := by rfl) :
    Gv (cE X (.Call (.Name "all_yes_said" p) [e1, e2, e3] [] pos)) σ H (.ob (.lst (((Krdk.words f.n).map (ys f a b)).map .int))) :=
  gv_calv (us := [.int (f.n : Nat), .ref q, .ref c]) cc hr hj (ga_cons h0 (ga_cons h1 (ga_cons h2 ga_nil hs2) hs1) hs0) (fun _ s => ⟨q, c, f, a, b, rfl, hq.same s, hc.same s, wf, hcn, rfl⟩) hg (by decide) hs0 hpl
/-! ### all_rightly -/
def pAllRight (K : PySem.W.Frag) (vs : List V) (H : Hp) (k : Kd) : Prop := ∃ (q c : Nat) (f : Krdk.Answer) (a b : Int), vs = [.int (f.n : Nat), .ref q, .ref c] ∧ Seq K H q (SV f) ∧ Seq K H c [.int a, .int b] ∧ W f ∧ Cn a b ∧ k = .ob (.lst (((Krdk.words f.n).map (ry f a b)).map .int))
/-! ### all_rightly: 0:bits 1:says 2:chance 3:certain 4:yes 5:word 6:said -/
theorem sc99 : FnScope ["bits", "says", "chance", "certain", "yes", "word", "said"] ["bits", "says", "chance"] (defScope (top 99)) := ⟨rfl, rfl, rfl, by decide +kernel, rfl, by decide +kernel, by decide +kernel⟩
theorem c_all_rightly (B : Bl mg) (cw : Cal P w K mg base 2 "whole" (SpK (pWhole K))) (cy : Cal P w K mg base 3 "all_yes_said" (SpK (pAllYes K))) (Df : DefAt K mg "all_rightly" (top 99)) : Cal P w K mg base 4 "all_rightly" (SpK (pAllRight K)) := by
  refine cal_pure (ps := ["bits", "says", "chance"]) Df sc99 (fun _ _ _ _ _ _ us hl => match us, hl with | [_, _, _], _ => rfl) (fun vs H k ⟨_, _, _, _, _, e, _⟩ => by rw [e]; rfl) fun f cdv A outer s H vs E k hr ⟨q, c, fa, a, b, e, hq, hc, wf, hcn, ek⟩ => ?_
  subst e ek
  have hn := wf.n5
  refine gb_set 3 sc99.nd (gv_whole cw hr (by decide) (gv_var 0) (gv_var 2) hc hcn hn) ?_
  refine gb_setO 4 sc99.nd (gv_all_yes_said cy hr (by decide) (gv_var 0) (gv_var 1) (gv_var 2) hq hc wf hcn) fun q1 H1 fq s1 hq1 => ?_
  refine gb_ret (Gv.to (gv_lcES 5 6 rfl sc99.nd B.enum (gv_var 1) (hq.same s1) (SV_le wf) (blkOk_by (own := [("word", 5), ("said", 6)]) (N := ["bits", "says", "chance", "certain", "yes", "word", "said"]) (sc := defScope (top 99)) (by decide +kernel)) (fun _ _ _ _ _ => pg2 5 6 rfl sc99.nd) (fun _ _ _ _ _ => pts_nil)
    (fun _ => true) (fun x => .int (ry fa a b x)) (fun _ _ => rfl) (fun _ _ _ => gt_yes) (fun x v hv _ => ?_)) ?_)
  · obtain ⟨hx, rfl⟩ := SV_of wf hv
    refine gv_cF fun _ _ _ _ _ => gv_ite (d := fa.at_ x) (Gt.to (gt_eq (gv_var 6) gv_int) ?_) (fun h => Gv.is_to (gv_ixL (gv_var 4) (.old (SqL.of hq1)) (gv_var 5) (atI_nat (getV hx))) ?_) (fun h => Gv.is_to (gv_sub (gv_var 3) (gv_ixL (gv_var 4) (.old (SqL.of hq1)) (gv_var 5) (atI_nat (getV hx)))) ?_)
    · cases fa.at_ x <;> rfl
    · unfold Mt.ry; rw [h]; rfl
    · unfold Mt.ry; rw [h]; rfl
  · rw [given_all, SV_len wf, mapV]; rfl
theorem gv_all_rightly {X : Cx} {σ : L2.St} {H : Hp} {j : Nat} {e1 e2 e3 : Expr} {p pos : Pos} {q c : Nat} {f : Krdk.Answer} {a b : Int} (cc : Cal X.prog X.w X.K X.mg X.base 4 "all_rightly" (SpK (pAllRight X.K))) (hr : Room j X.A) (hj : 4 ≤ j) (h0 : Gv (cE X e1) σ H (.is (.int (f.n : Nat)))) (h1 : Gv (cE X e2) σ H (.is (.ref q))) (h2 : Gv (cE X e3) σ H (.is (.ref c))) (hq : Seq X.K H q (SV f)) (hc : Seq X.K H c [.int a, .int b]) (wf : W f) (hcn : Cn a b) (hg : Gl X "all_rightly" := by rfl)
    (hs0 : starEach [e1, e2, e3] X.env = (false, eval e1 X.env) :: starEach [e2, e3] X.env := by rfl) (hs1 : starEach [e2, e3] X.env = (false, eval e2 X.env) :: starEach [e3] X.env := by rfl) (hs2 : starEach [e3] X.env = (false, eval e3 X.env) :: starEach [] X.env := by rfl) (hpl : (backTo pos (starEach [e2, e3] X.env)).any (·.1) = false := by rfl) :
    Gv (cE X (.Call (.Name "all_rightly" p) [e1, e2, e3] [] pos)) σ H (.ob (.lst (((Krdk.words f.n).map (ry f a b)).map .int))) :=
  gv_calv (us := [.int (f.n : Nat), .ref q, .ref c]) cc hr hj (ga_cons h0 (ga_cons h1 (ga_cons h2 ga_nil hs2) hs1) hs0) (fun _ s => ⟨q, c, f, a, b, rfl, hq.same s, hc.same s, wf, hcn, rfl⟩) hg (by decide) hs0 hpl
/-! ### stays -/
def pStays (K : PySem.W.Frag) (vs : List V) (H : Hp) (k : Kd) : Prop := ∃ (q c : Nat) (f : Krdk.Answer) (e : Rat) (a b : Int), vs = [.int (f.n : Nat), .ref q, .ref c] ∧ Seq K H q (SV f) ∧ Seq K H c [.int a, .int b] ∧ W f ∧ Mt.Ch e a b ∧ k = .ob (.lst ((Krdk.fr (Krdl.stays f e)).map .int))
theorem small_mul {x y : Int} {m n : Nat} (h1 : x.natAbs ≤ m) (h2 : y.natAbs ≤ n) : (x * y).natAbs ≤ m * n := by rw [Int.natAbs_mul]; exact Nat.mul_le_mul h1 h2
/-! ### stays: 0:bits 1:says 2:chance -/
theorem sc101 : FnScope ["bits", "says", "chance"] ["bits", "says", "chance"] (defScope (top 101)) := ⟨rfl, rfl, rfl, by decide +kernel, rfl, by decide +kernel, by decide +kernel⟩
theorem c_stays (B : Bl mg) (cl : Cal P w K mg base 1 "lowest" (SpK pLow)) (cw : Cal P w K mg base 2 "whole" (SpK (pWhole K))) (ca : Cal P w K mg base 4 "all_rightly" (SpK (pAllRight K))) (Df : DefAt K mg "stays" (top 101)) : Cal P w K mg base 5 "stays" (SpK (pStays K)) := by
  refine cal_pure (ps := ["bits", "says", "chance"]) Df sc101 (fun _ _ _ _ _ _ us hl => match us, hl with | [_, _, _], _ => rfl) (fun vs H k ⟨_, _, _, _, _, _, e, _⟩ => by rw [e]; rfl) fun f cdv A outer s H vs E k hr ⟨q, c, fa, ex, a, b, e, hq, hc, wf, hch, ek⟩ => ?_
  subst e ek
  have hn := wf.n5
  have h5 := p2le hn
  have hcn := cn_of hch
  have h1 := sum32 wf (fun x => ry_b wf hcn x)
  have h2 := bpow_b hcn hn
  have h3 : (((2 ^ fa.n : Nat) : Int) * b ^ fa.n).natAbs ≤ 32 * 3200000 := small_mul (by simp only [Int.natAbs_natCast]; omega) h2
  refine gb_ret (Gv.to (gv_low cl hr (by decide) (gv_sumL rfl B (gv_all_rightly ca hr (by decide) (gv_var 0) (gv_var 1) (gv_var 2) hq hc wf hcn) .new) (gv_mul (Gv.is_to (gv_lenS B (gv_var 1) hq) (by rw [SV_len wf])) (gv_whole cw hr (by decide) (gv_var 0) (gv_var 2) hc hcn hn) (cmw (by simp only [Int.natAbs_natCast]; omega) (by omega))) (Int.mul_pos (p2int _) (bpos hcn _)) (lowb (by omega)) (lowb (by omega))) ?_)
  rw [Mt.low_stays hch]
theorem gv_stays {X : Cx} {σ : L2.St} {H : Hp} {j : Nat} {e1 e2 e3 : Expr} {p pos : Pos} {q c : Nat} {f : Krdk.Answer} {e : Rat} {a b : Int} (cc : Cal X.prog X.w X.K X.mg X.base 5 "stays" (SpK (pStays X.K))) (hr : Room j X.A) (hj : 5 ≤ j) (h0 : Gv (cE X e1) σ H (.is (.int (f.n : Nat)))) (h1 : Gv (cE X e2) σ H (.is (.ref q))) (h2 : Gv (cE X e3) σ H (.is (.ref c))) (hq : Seq X.K H q (SV f)) (hc : Seq X.K H c [.int a, .int b]) (wf : W f) (hch : Mt.Ch e a b) (hg : Gl X "stays" := by rfl)
    (hs0 : starEach [e1, e2, e3] X.env = (false, eval e1 X.env) :: starEach [e2, e3] X.env := by rfl) (hs1 : starEach [e2, e3] X.env = (false, eval e2 X.env) :: starEach [e3] X.env := by rfl) (hs2 : starEach [e3] X.env = (false, eval e3 X.env) :: starEach [] X.env := by rfl) (hpl : (backTo pos (starEach [e2, e3] X.env)).any (·.1) = false := by rfl) :
    Gv (cE X (.Call (.Name "stays" p) [e1, e2, e3] [] pos)) σ H (.ob (.lst ((Krdk.fr (Krdl.stays f e)).map .int))) :=
  gv_calv (us := [.int (f.n : Nat), .ref q, .ref c]) cc hr hj (ga_cons h0 (ga_cons h1 (ga_cons h2 ga_nil hs2) hs1) hs0) (fun _ s => ⟨q, c, f, e, a, b, rfl, hq.same s, hc.same s, wf, hch, rfl⟩) hg (by decide) hs0 hpl
end
end Sw
set_option Elab.async false
set_option linter.all false
set_option maxRecDepth 100000
set_option maxHeartbeats 2000000
set_option exponentiation.threshold 3000
namespace Sw
open PySem PySem.Spec PyProof.Rows L2 Kx
open Evl (given given_yes given_no given_len)
open Mt (W S swc pt)
section
variable {P : Program} {w : World} {K : PySem.W.Frag} {mg : Str → Option Value} {base : Heap} {C : Addr}
open Mt (ys ry)
theorem Ch_pos {e : Rat} {a b : Int} (h : Mt.Ch e a b) (n : Nat) : (0 : Rat) < (b : Rat) ^ n := Mt.bpos h n
/-! ### tell_heard: 0:desk 1:given 2:meant 3:other 4:counts -/
theorem sc96 : FnScope ["desk", "given", "meant", "other", "counts"] ["desk", "given"] (defScope (top 96)) := ⟨rfl, rfl, rfl, by decide +kernel, rfl, by decide +kernel, by decide +kernel⟩
theorem c_tell_heard (T : ClD K C) (B : Bl mg) (Z : Ct mg) (Df : DefAt K mg "tell_heard" (top 96)) (cr : Cal P w K mg base 1 "refused" (SpK pRefused)) (cl : Cal P w K mg base 1 "lowest" (SpK pLow)) (cb : Cal P w K mg base 1 "bits_set" (SpK pBits)) (cw : Cal P w K mg base 2 "whole" (SpK (pWhole K))) (ch : Cal P w K mg base 2 "heard" (SpK (pHeard K))) : Cal P w K mg base 3 "tell_heard" (SpK (pTell K C 23 2 0)) := by
  refine cal_pure (ps := ["desk", "given"]) Df sc96 (fun _ _ _ _ _ _ us hl => match us, hl with | [_, _], _ => rfl) (fun vs H k ⟨_, _, _, _, _, e, _⟩ => by rw [e]; rfl) fun f cdv A outer s H vs E k hr ⟨d, g, D, xs, rs, e, ⟨dx, ad, cd, sd, ld, sh, hD⟩, hG, hx, hrs, ok, okr, ek⟩ => ?_
  obtain ⟨x, y, rfl, hxm, hym⟩ := two_num hx ok
  obtain rfl := nil_of hrs
  have hq := hG.nums
  subst e ek
  have wf := hD.w
  have hn := wf.n5
  have hcn := cn_of hD.e
  have hQ : ansP 23 D [(x : Int), (y : Int)] [] = KrdoNeutral.told (if decide (2 ^ D.f.n ≤ x) || decide (2 ^ D.f.n ≤ y) then Krdk.say (-22) else Krdk.frac (Krdl.heard D.f.n D.e x y)) := rfl
  rw [hQ]
  refine gb_asg (pu2 2 3 rfl sc96.nd) (gv_var 1) fun w1 H1 H2 s1 s2 ew => ?_
  obtain rfl : w1 = .ref g := ew
  refine ⟨_, fun Qg q => u2_go (same_l (s1.trans s2) hq) q, ?_⟩
  have hD := hD.same (s1.trans s2)
  refine gb_if (gt_or2 (Gt.to (gt_ge (gv_var 2) (gv_lenD T B (gv_var 0) hD)) (dle _ _)) (fun _ => Gt.to (gt_ge (gv_var 3) (gv_lenD T B (gv_var 0) hD)) (dle _ _))) (fun h => ?_) (fun h => ?_)
  · rw [if_pos h]
    exact gb_ret (gv_ref cr hr (by decide) Z.notRight)
  · rw [if_neg (by rw [h]; decide)]
    obtain ⟨hx2, hy2⟩ := Bool.or_eq_false_iff.mp h
    have hx3 : x < 2 ^ D.f.n := by have := of_decide_eq_false hx2; omega
    have hy3 : y < 2 ^ D.f.n := by have := of_decide_eq_false hy2; omega
    have hxy := Mt.xor_lt D.f.n hn x hx3 y hy3
    have hb := cnt_b hcn hn (Mt.bits_le D.f.n (x ^^^ y))
    have h2 := bpow_b hcn hn
    refine gb_setO 4 sc96.nd (gv_heard ch hr (by decide) (gv_bitsD T (gv_var 0) hD) (gv_chD T (gv_var 0) hD) (.inr hD.ch) hcn hn) fun q1 H3 fq s3 hq1 => ?_
    have hD := hD.same s3
    refine gb_ret (Gv.to (gv_zero (gv_low (u := Mt.cnt D.f.n D.e.num D.e.den (Krdk.bits D.f.n (x ^^^ y))) cl hr (by decide) (gv_ixL (gv_var 4) (.old (SqL.of hq1)) (gv_bits cb hr (by decide) (gv_xorN (gv_var 2) (gv_var 3)) (Mt.p32 hn hxy)) (atI_nat ?_)) (gv_whole cw hr (by decide) (gv_bitsD T (gv_var 0) hD) (gv_chD T (gv_var 0) hD) (.inr hD.ch) hcn hn) (bpos hcn _) (lowb (by omega)) (lowb (by omega))) (by rw [low_len]; decide)) ?_)
    · rw [Mt.bits_bc D.f.n hn _ hxy]
      exact getV (Nat.lt_succ_of_le (Mt.bc_le D.f.n hn _ hxy))
    · rw [Mt.low_heard hD.e]; rfl
/-! ### tell_soft: 0:desk 1:given 2:meant 3:likely -/
theorem sc100 : FnScope ["desk", "given", "meant", "likely"] ["desk", "given"] (defScope (top 100)) := ⟨rfl, rfl, rfl, by decide +kernel, rfl, by decide +kernel, by decide +kernel⟩
theorem c_tell_soft (T : ClD K C) (B : Bl mg) (Z : Ct mg) (Df : DefAt K mg "tell_soft" (top 100)) (cr : Cal P w K mg base 1 "refused" (SpK pRefused)) (cl : Cal P w K mg base 1 "lowest" (SpK pLow)) (cw : Cal P w K mg base 2 "whole" (SpK (pWhole K))) (cy : Cal P w K mg base 3 "all_yes_said" (SpK (pAllYes K))) : Cal P w K mg base 4 "tell_soft" (SpK (pTell K C 24 1 0)) := by
  refine cal_pure (ps := ["desk", "given"]) Df sc100 (fun _ _ _ _ _ _ us hl => match us, hl with | [_, _], _ => rfl) (fun vs H k ⟨_, _, _, _, _, e, _⟩ => by rw [e]; rfl) fun f cdv A outer s H vs E k hr ⟨d, g, D, xs, rs, e, ⟨dx, ad, cd, sd, ld, sh, hD⟩, hG, hx, hrs, ok, okr, ek⟩ => ?_
  obtain ⟨x, rfl, hxm⟩ := one_num hx ok
  obtain rfl := nil_of hrs
  have hq := hG.nums
  subst e ek
  have wf := hD.w
  have hn := wf.n5
  have hcn := cn_of hD.e
  have hQ : ansP 24 D [(x : Int)] [] = KrdoNeutral.told (if decide (2 ^ D.f.n ≤ x) then Krdk.say (-22) else Krdk.frac (Krdl.soft D.f D.e x)) := rfl
  rw [hQ]
  refine gb_set 2 sc100.nd (gv_at (gv_var 1) hq rfl (by decide)) (gb_if (Gt.to (gt_ge (gv_var 2) (gv_lenD T B (gv_var 0) hD)) (dle _ _)) (fun h => ?_) (fun h => ?_))
  · rw [if_pos h]
    exact gb_ret (gv_ref cr hr (by decide) Z.notRight)
  · rw [if_neg (by rw [h]; decide)]
    have hx3 : x < 2 ^ D.f.n := by have := of_decide_eq_false h; omega
    have hb := ys_b wf hcn x
    have h2 := bpow_b hcn hn
    refine gb_set 3 sc100.nd (gv_ixL (gv_all_yes_said cy hr (by decide) (gv_bitsD T (gv_var 0) hD) (gv_saysD T (gv_var 0) hD) (gv_chD T (gv_var 0) hD) (.inr hD.says) (.inr hD.ch) wf hcn) .new (gv_var 2) (atI_nat (getV hx3))) ?_
    refine gb_ret (Gv.to (gv_zero (gv_low cl hr (by decide) (gv_var 3) (gv_whole cw hr (by decide) (gv_bitsD T (gv_var 0) hD) (gv_chD T (gv_var 0) hD) (.inr hD.ch) hcn hn) (bpos hcn _) (lowb (by omega)) (lowb (by omega))) (by rw [low_len]; decide)) ?_)
    rw [Mt.low_soft hD.e]; rfl
/-! ### tell_stays: 0:desk 1:given -/
theorem sc102 : FnScope ["desk", "given"] ["desk", "given"] (defScope (top 102)) := ⟨rfl, rfl, rfl, by decide +kernel, rfl, by decide +kernel, by decide +kernel⟩
theorem c_tell_stays (T : ClD K C) (B : Bl mg) (Z : Ct mg) (Df : DefAt K mg "tell_stays" (top 102)) (cs : Cal P w K mg base 5 "stays" (SpK (pStays K))) : Cal P w K mg base 6 "tell_stays" (SpK (pTell K C 25 0 0)) := by
  refine cal_pure (ps := ["desk", "given"]) Df sc102 (fun _ _ _ _ _ _ us hl => match us, hl with | [_, _], _ => rfl) (fun vs H k ⟨_, _, _, _, _, e, _⟩ => by rw [e]; rfl) fun f cdv A outer s H vs E k hr ⟨d, g, D, xs, rs, e, ⟨dx, ad, cd, sd, ld, sh, hD⟩, hG, hx, hrs, ok, okr, ek⟩ => ?_
  obtain rfl := nil_of hx
  obtain rfl := nil_of hrs
  have hq := hG.nums
  subst e ek
  have wf := hD.w
  exact gb_ret (gv_zero (gv_stays cs hr (by decide) (gv_bitsD T (gv_var 0) hD) (gv_saysD T (gv_var 0) hD) (gv_chD T (gv_var 0) hD) (.inr hD.says) (.inr hD.ch) wf hD.e) (by show 2 ≤ _; decide))
/-! ### tell_agree: 0:desk 1:given 2:certain 3:likely 4:both 5:yes -/
theorem sc103 : FnScope ["desk", "given", "certain", "likely", "both", "yes"] ["desk", "given"] (defScope (top 103)) := ⟨rfl, rfl, rfl, by decide +kernel, rfl, by decide +kernel, by decide +kernel⟩
theorem c_tell_agree (T : ClD K C) (B : Bl mg) (Z : Ct mg) (Df : DefAt K mg "tell_agree" (top 103)) (cl : Cal P w K mg base 1 "lowest" (SpK pLow)) (cw : Cal P w K mg base 2 "whole" (SpK (pWhole K))) (cy : Cal P w K mg base 3 "all_yes_said" (SpK (pAllYes K))) : Cal P w K mg base 4 "tell_agree" (SpK (pTell K C 26 0 0)) := by
  refine cal_pure (ps := ["desk", "given"]) Df sc103 (fun _ _ _ _ _ _ us hl => match us, hl with | [_, _], _ => rfl) (fun vs H k ⟨_, _, _, _, _, e, _⟩ => by rw [e]; rfl) fun f cdv A outer s H vs E k hr ⟨d, g, D, xs, rs, e, ⟨dx, ad, cd, sd, ld, sh, hD⟩, hG, hx, hrs, ok, okr, ek⟩ => ?_
  obtain rfl := nil_of hx
  obtain rfl := nil_of hrs
  have hq := hG.nums
  subst e ek
  have wf := hD.w
  have hn := wf.n5
  have h5 := p2le hn
  have hcn := cn_of hD.e
  have hQ : ansP 26 D [] [] = 0 :: Krdk.fr (Krdl.agree D.f D.e) := rfl
  rw [hQ, ← Mt.low_agree hD.e]
  have h2 := bpow_b hcn hn
  have hy := fun x => ys_b wf hcn x
  have hc : ∀ x, ((D.e.den : Int) ^ D.f.n - ys D.f D.e.num D.e.den x).natAbs ≤ 105600000 := fun x => by have := hy x; omega
  have hm : ∀ x, (ys D.f D.e.num D.e.den x * ys D.f D.e.num D.e.den x + ((D.e.den : Int) ^ D.f.n - ys D.f D.e.num D.e.den x) * ((D.e.den : Int) ^ D.f.n - ys D.f D.e.num D.e.den x)).natAbs ≤ 22302720000000000 := fun x => by
    have := small_mul (hy x) (hy x)
    have := small_mul (hc x) (hc x)
    omega
  have h3 : (((2 ^ D.f.n : Nat) : Int) * (D.e.den : Int) ^ D.f.n).natAbs ≤ 32 * 3200000 := small_mul (by simp only [Int.natAbs_natCast]; omega) h2
  have h4 := small_mul h3 h2
  have h6 := sum32 wf hm
  refine gb_set 2 sc103.nd (gv_whole cw hr (by decide) (gv_bitsD T (gv_var 0) hD) (gv_chD T (gv_var 0) hD) (.inr hD.ch) hcn hn) ?_
  refine gb_setO 3 sc103.nd (gv_all_yes_said cy hr (by decide) (gv_bitsD T (gv_var 0) hD) (gv_saysD T (gv_var 0) hD) (gv_chD T (gv_var 0) hD) (.inr hD.says) (.inr hD.ch) wf hcn) fun q1 H1 fq s1 hq1 => ?_
  refine gb_lcX 4 rfl sc103.nd (LcR.to (lc_L 5 (gv_var 3) (.old (SqL.of hq1)) (by simp [Krdk.words]; omega) (blkOk_by (own := [("yes", 5)]) (N := ["desk", "given", "certain", "likely", "both", "yes"]) (sc := defScope (top 103)) (by decide +kernel)) (fun _ _ _ _ _ => pg_name (i := 5) sc103.nd rfl (Or.inl rfl)) (fun _ _ _ _ _ => pts_nil)
    (fun _ => true) (fun x => .int (ys D.f D.e.num D.e.den x * ys D.f D.e.num D.e.den x + ((D.e.den : Int) ^ D.f.n - ys D.f D.e.num D.e.den x) * ((D.e.den : Int) ^ D.f.n - ys D.f D.e.num D.e.den x))) (fun _ => rfl) (fun _ _ _ => gt_yes) (fun x v hv _ => ?_)) (k' := .ob (.lst (((Krdk.words D.f.n).map fun x => ys D.f D.e.num D.e.den x * ys D.f D.e.num D.e.den x + ((D.e.den : Int) ^ D.f.n - ys D.f D.e.num D.e.den x) * ((D.e.den : Int) ^ D.f.n - ys D.f D.e.num D.e.den x)).map .int))) ?_) fun q2 H2 fq2 s2 hq2 => ?_
  · obtain ⟨_, rfl⟩ := ofV hv
    have := hy x
    have := hc x
    exact gv_cF fun _ _ _ _ _ => gv_add (gv_mul (gv_var 5) (gv_var 5) (cmw (by omega) (by omega))) (gv_mul (gv_sub (gv_var 2) (gv_var 5)) (gv_sub (gv_var 2) (gv_var 5)) (cmw (by omega) (by omega)))
  · rw [given_all, mapV]
    have e : (((Krdk.words D.f.n).map (ys D.f D.e.num D.e.den)).map V.int).length = 2 ^ D.f.n := by simp [Krdk.words]
    rw [e]; rfl
  · have hD := hD.same (s1.trans s2)
    exact gb_ret (gv_zero (gv_low cl hr (by decide) (gv_sumL rfl B (gv_var 4) (.old (SqL.of hq2))) (gv_mul (gv_mul (gv_lenD T B (gv_var 0) hD) (gv_var 2) (cmw (by simp only [Int.natAbs_natCast]; omega) (by omega))) (gv_var 2) (cmw (by omega) (by omega))) (Int.mul_pos (Int.mul_pos (p2int _) (bpos hcn _)) (bpos hcn _)) (lowb (by omega)) (lowb (by omega))) (by rw [low_len]; decide))
/-! ### tell_worst: 0:desk 1:given 2:rightly 3:least -/
theorem sc104 : FnScope ["desk", "given", "rightly", "least"] ["desk", "given"] (defScope (top 104)) := ⟨rfl, rfl, rfl, by decide +kernel, rfl, by decide +kernel, by decide +kernel⟩
theorem c_tell_worst (T : ClD K C) (B : Bl mg) (Z : Ct mg) (Df : DefAt K mg "tell_worst" (top 104)) (cl : Cal P w K mg base 1 "lowest" (SpK pLow)) (cw : Cal P w K mg base 2 "whole" (SpK (pWhole K))) (ca : Cal P w K mg base 4 "all_rightly" (SpK (pAllRight K))) : Cal P w K mg base 5 "tell_worst" (SpK (pTell K C 27 0 0)) := by
  refine cal_pure (ps := ["desk", "given"]) Df sc104 (fun _ _ _ _ _ _ us hl => match us, hl with | [_, _], _ => rfl) (fun vs H k ⟨_, _, _, _, _, e, _⟩ => by rw [e]; rfl) fun f cdv A outer s H vs E k hr ⟨d, g, D, xs, rs, e, ⟨dx, ad, cd, sd, ld, sh, hD⟩, hG, hx, hrs, ok, okr, ek⟩ => ?_
  obtain rfl := nil_of hx
  obtain rfl := nil_of hrs
  have hq := hG.nums
  subst e ek
  have wf := hD.w
  have hn := wf.n5
  have h5 := p2le hn
  have hcn := cn_of hD.e
  have h2 := bpow_b hcn hn
  have hne : (List.range (2 ^ D.f.n)).map (ry D.f D.e.num D.e.den) ≠ [] := by
    intro z
    have z2 := congrArg List.length z
    simp at z2
  obtain ⟨m, hm⟩ := min_ex hne
  obtain ⟨j, hj, hf⟩ := first_ix hm.mem
  obtain ⟨e1, e2, e3⟩ := Mt.amin_list (Mt.bpos hD.e D.f.n) hj hm.le hf
  have hQ : ansP 27 D [] [] = (j : Int) :: Mt.low m ((D.e.den : Int) ^ D.f.n) := by
    show KrdoNeutral.told { num := ((Krdl.worst D.f D.e).1 : Nat), nums := Krdk.fr (Krdl.worst D.f D.e).2 } = _
    rw [Mt.worst_eq hD.e, e1, e2]
    unfold Mt.low
    rw [Mt.ipow]
    rfl
  rw [hQ]
  have hb : m.natAbs ≤ 105600000 := by
    rw [e2]
    exact ry_b wf hcn j
  refine gb_setO 2 sc104.nd (gv_all_rightly ca hr (by decide) (gv_bitsD T (gv_var 0) hD) (gv_saysD T (gv_var 0) hD) (gv_chD T (gv_var 0) hD) (.inr hD.says) (.inr hD.ch) wf hcn) fun q H1 fq s1 hq1 => ?_
  have hD := hD.same s1
  refine gb_set 3 sc104.nd (gv_min rfl B (gv_var 2) (.old (SqL.of hq1)) hm) ?_
  exact gb_ret (gv_head (gv_index (gv_var 2) (SqL.of hq1) (gv_var 3) hj hf) (gv_low cl hr (by decide) (gv_var 3) (gv_whole cw hr (by decide) (gv_bitsD T (gv_var 0) hD) (gv_chD T (gv_var 0) hD) (.inr hD.ch) hcn hn) (bpos hcn _) (lowb (by omega)) (lowb (by omega))) (by rw [low_len]; decide))
/-! ### tell_ifchance: 0:desk 1:given -/
theorem sc105 : FnScope ["desk", "given"] ["desk", "given"] (defScope (top 105)) := ⟨rfl, rfl, rfl, by decide +kernel, rfl, by decide +kernel, by decide +kernel⟩
theorem c_tell_ifchance (T : ClD K C) (B : Bl mg) (Z : Ct mg) (Df : DefAt K mg "tell_ifchance" (top 105)) (cr : Cal P w K mg base 1 "refused" (SpK pRefused)) (cc : Cal P w K mg base 1 "chance_right_mishearing" (SpK (pChR K))) (cs : Cal P w K mg base 5 "stays" (SpK (pStays K))) : Cal P w K mg base 6 "tell_ifchance" (SpK (pTell K C 28 2 0)) := by
  refine cal_pure (ps := ["desk", "given"]) Df sc105 (fun _ _ _ _ _ _ us hl => match us, hl with | [_, _], _ => rfl) (fun vs H k ⟨_, _, _, _, _, e, _⟩ => by rw [e]; rfl) fun f cdv A outer s H vs E k hr ⟨d, g, D, xs, rs, e, ⟨dx, ad, cd, sd, ld, sh, hD⟩, hG, hx, hrs, ok, okr, ek⟩ => ?_
  obtain ⟨x, y, rfl, hxm, hym⟩ := two_num hx ok
  obtain rfl := nil_of hrs
  have hq := hG.nums
  subst e ek
  have wf := hD.w
  have hQ : ansP 28 D [(x : Int), (y : Int)] [] = KrdoNeutral.told (if !Krdl.chanceOk x y then Krdk.say (-22) else Krdk.frac (Krdl.stays D.f ((x : Rat) / (y : Rat)))) := rfl
  rw [hQ]
  refine gb_if (gt_not (gt_val (gv_chance_right_mishearing cc hr (by decide) (gv_var 1) hq hxm))) (fun h => ?_) (fun h => ?_)
  · rw [if_pos h]
    exact gb_ret (gv_ref cr hr (by decide) Z.notRight)
  · rw [if_neg (by rw [h]; decide)]
    have h2 : Krdl.chanceOk x y = true := by simpa using h
    exact gb_ret (gv_zero (gv_stays cs hr (by decide) (gv_bitsD T (gv_var 0) hD) (gv_saysD T (gv_var 0) hD) (gv_var 1) (.inr hD.says) (.inl hq) wf (chOk2 h2)) (by show 2 ≤ _; decide))
/-! ### chance: the desk's chance is set -/
theorem Ch_low {x y : Nat} (h : Krdl.chanceOk x y = true) : Mt.Ch ((x : Rat) / (y : Rat)) ((x : Rat) / (y : Rat)).num (((x : Rat) / (y : Rat)).den : Int) := by
  have c := chOk h
  have hy : 0 < y := by have := c.b1; omega
  have e := low_gcd (x : Int) (y : Int) (by omega)
  have e2 : Mt.low (x : Int) (y : Int) = [((x : Rat) / (y : Rat)).num, (((x : Rat) / (y : Rat)).den : Int)] := rfl
  rw [e2] at e
  obtain ⟨e3, e4⟩ : ((x : Rat) / (y : Rat)).num = (x : Int) / (Nat.gcd x y : Nat) ∧ (((x : Rat) / (y : Rat)).den : Int) = (y : Int) / (Nat.gcd x y : Nat) := by
    simp only [Int.natAbs_natCast, List.cons.injEq, and_true] at e
    exact e
  have gp : 0 < Nat.gcd x y := Nat.gcd_pos_of_pos_right x hy
  obtain ⟨p, hp⟩ := Nat.gcd_dvd_left x y
  obtain ⟨q, hq⟩ := Nat.gcd_dvd_right x y
  have hh : 2 * x ≤ y := by have := c.half; omega
  have hb := c.b20
  have e0 : (x : Rat) / (y : Rat) = (((x : Rat) / (y : Rat)).num : Rat) / ((((x : Rat) / (y : Rat)).den : Int) : Rat) := by
    have h := Rat.mkRat_self ((x : Rat) / (y : Rat))
    rw [Rat.mkRat_eq_div] at h
    exact h.symm
  generalize Nat.gcd x y = g at *
  have f3 : ((x : Rat) / (y : Rat)).num = (p : Int) := by
    rw [e3, ← Int.natCast_ediv]
    congr 1
    exact Nat.div_eq_of_eq_mul_right gp hp
  have f4 : (((x : Rat) / (y : Rat)).den : Int) = (q : Int) := by
    rw [e4, ← Int.natCast_ediv]
    congr 1
    exact Nat.div_eq_of_eq_mul_right gp hq
  have hqp : 1 ≤ q := by
    rcases Nat.eq_zero_or_pos q with z | z
    · rw [z] at hq; omega
    · exact z
  have hqy : q ≤ y := by
    rw [hq]
    exact Nat.le_mul_of_pos_left q gp
  have h2 : 2 * p ≤ q := by
    have h4 : g * (2 * p) ≤ g * q := by
      have e5 : g * (2 * p) = 2 * x := by rw [hp, ← Nat.mul_assoc, Nat.mul_comm g 2, Nat.mul_assoc]
      rw [e5, ← hq]
      exact hh
    exact Nat.le_of_mul_le_mul_left h4 gp
  exact ⟨e0, by omega, by omega, by omega, by omega⟩
theorem hear_act {p : Nat} {D : Krdo.Data} {xs : List Int} {rs : List (List Int)} {c : Krdl.Call} (hc : KrdoNeutral.call (((p : Int) :: xs) :: rs) = .hear c) {y : Krdl.Desk} {r : Krdk.Ans} (h : Krdl.act (some ⟨D.f, D.e, none⟩) c = (some y, r)) :
    ansP p D xs rs = KrdoNeutral.told r ∧ datP p D xs rs = { D with f := y.f, e := y.e } := by
  have e : actP p D xs rs = (some (Krdo.changed ⟨D, []⟩ { D with f := y.f, e := y.e }), r) := by
    unfold actP
    rw [hc]
    simp only [Krdo.act, h]
  unfold ansP datP
  rw [e]
  exact ⟨rfl, ch_d _ _⟩
/-! ### tell_chance: 0:desk 1:given -/
theorem sc93 : FnScope ["desk", "given"] ["desk", "given"] (defScope (top 93)) := ⟨rfl, rfl, rfl, by decide +kernel, rfl, by decide +kernel, by decide +kernel⟩
theorem c_tell_chance (T : ClD K C) (B : Bl mg) (Z : Ct mg) (Df : DefAt K mg "tell_chance" (top 93)) (cr : Cal P w K mg base 1 "refused" (SpK pRefused)) (cl : Cal P w K mg base 1 "lowest" (SpK pLow)) (cc : Cal P w K mg base 1 "chance_right_mishearing" (SpK (pChR K))) : Cal P w K mg base 2 "tell_chance" (spMake K C 22 2 0) := by
  refine cal_of (ps := ["desk", "given"]) Df sc93 (fun _ _ _ _ _ _ us hl => match us, hl with | [_, _], _ => rfl) (fun vs H Q E ⟨_, _, _, _, _, _, _, _, _, _, _, e, _⟩ => by rw [e]; rfl) fun f cdv A outer s H vs Q E hr ⟨d, g, D, xs, rs, dx, ad, cd, sd, ld, sh, e, hD, hG, hx, hrs, ok, okr, hQ⟩ => ?_
  obtain ⟨x, y, rfl, hxm, hym⟩ := two_num hx ok
  obtain rfl := nil_of hrs
  have hq := hG.nums
  subst e
  have wf := hD.w
  refine go_run ?_
  refine go_if (gt_not (gt_val (gv_chance_right_mishearing cc hr (by decide) (gv_var 1) hq hxm))) (fun h nx => ?_) (fun h => ?_)
  · have e : Krdl.act (some ⟨D.f, D.e, none⟩) (.chance x y) = (some ⟨D.f, D.e, none⟩, Krdk.say (-22)) := by
      show (if !Krdl.chanceOk x y then _ else _) = _
      rw [if_pos h]
    exact go_ret (gv_ref cr hr (by decide) Z.notRight) (refuse hD hQ (hear_act (c := .chance x y) rfl e))
  · have e : Krdl.act (some ⟨D.f, D.e, none⟩) (.chance x y) = (some ⟨D.f, (x : Rat) / (y : Rat), none⟩, Krdk.say 0) := by
      show (if !Krdl.chanceOk x y then _ else _) = _
      rw [if_neg (by rw [h]; decide)]
    have h2 : Krdl.chanceOk x y = true := by simpa using h
    have c := chOk h2
    have e2 := hear_act (c := .chance x y) (D := D) (p := 22) (xs := [(x : Int), (y : Int)]) (rs := []) rfl e
    refine go_fld (gv_var 0) hD.ins T.cl T.n3 (by show 5 < 1000; decide) (gv_tupL B (gv_low (u := (x : Int)) (l := (y : Int)) cl hr (by decide) (gv_at (gv_var 1) hq rfl (by decide)) (gv_at (gv_var 1) hq rfl (by decide)) (by have := c.b1; omega) (lowb (by simp only [Int.natAbs_natCast]; omega)) (lowb (by simp only [Int.natAbs_natCast]; omega))) .new) fun w1 H1 s1 ⟨a', ew, _, ha'⟩ => ?_
    subst ew
    rw [putF_chance]
    have z : But d H (upd H1 d (.ins C dx (dF D.f.n ad a' sd ld))) := (But.of s1).upd_
    have q2 : SqT K (upd H1 d (.ins C dx (dF D.f.n ad a' sd ld))) a' [.int ((x : Rat) / (y : Rat)).num, .int (((x : Rat) / (y : Rat)).den : Int)] := (But.upd_ But.refl).seqT (s1 _ _ hD.ins) (SqT.of ha')
    refine go_ret (gv_lst (vs := [.int 0]) (ga_cons gv_int ga_nil) (Nat.le_of_ble_eq_true rfl)) fun v H2 s2 n2 => hQ v H2 ⟨z.then_ s2, ⟨ad, a', sd, sh, ?_⟩, by rw [e2.1]; exact new_but z hD.ins upd_same n2⟩
    rw [e2.2]
    have z2 := z.then_ s2
    exact ⟨s2 _ _ upd_same, wf, z2.seqT hD.ins hD.says, same_t s2 q2, Ch_low h2, z2.seqT hD.ins hD.shelf, hD.sh.but z2 hD.ins, hD.four⟩
end
end Sw
set_option Elab.async false
set_option linter.all false
set_option maxRecDepth 100000
set_option maxHeartbeats 2000000
set_option exponentiation.threshold 3000
namespace Sw
open PySem PySem.Spec PyProof.Rows L2 Kx
open Evl (given given_yes given_no given_len)
open Mt (W S swc pt)
section
variable {P : Program} {w : World} {K : PySem.W.Frag} {mg : Str → Option Value} {base : Heap} {C : Addr}
open Mt (asum sz fastT fsum cnt)
/-! ### sizes of numbers -/
def Lb (i : Int) (a : Nat) : Prop := i.natAbs ≤ 2 ^ a
theorem Lb.mul {i j : Int} {a b : Nat} (h : Lb i a) (g : Lb j b) : Lb (i * j) (a + b) := by
  unfold Lb at *
  rw [Int.natAbs_mul, Nat.pow_add]
  exact Nat.mul_le_mul h g
theorem Lb.pow {i : Int} {a : Nat} (h : Lb i a) (n : Nat) : Lb (i ^ n) (a * n) := by
  unfold Lb at *
  rw [Int.natAbs_pow, Nat.pow_mul]
  exact Nat.pow_le_pow_left h n
theorem Lb.mono {i : Int} {a b : Nat} (h : Lb i a) (l : a ≤ b) : Lb i b := Nat.le_trans h (Nat.pow_le_pow_right (by decide) l)
theorem Lb.powm {i : Int} {a : Nat} (h : Lb i a) {n m : Nat} (l : n ≤ m) : Lb (i ^ n) (a * m) := (h.pow n).mono (Nat.mul_le_mul_left a l)
theorem Lb.add {i j : Int} {a : Nat} (h : Lb i a) (g : Lb j a) : Lb (i + j) (a + 1) := by
  unfold Lb at *
  rw [Nat.pow_succ]
  omega
theorem Lb.sub {i j : Int} {a : Nat} (h : Lb i a) (g : Lb j a) : Lb (i - j) (a + 1) := by
  unfold Lb at *
  rw [Nat.pow_succ]
  omega
theorem Lb.sum {l : List Int} {a m : Nat} (h : ∀ x ∈ l, Lb x a) (g : l.length ≤ 2 ^ m) : Lb l.sum (a + m) := by
  have h1 := sum_abs (m := 2 ^ a) h
  unfold Lb
  rw [Nat.pow_add, Nat.mul_comm]
  exact Nat.le_trans h1 (Nat.mul_le_mul_right _ g)
theorem Lb.cm {i j : Int} {a b : Nat} (h : Lb i a) (g : Lb j b) (l : a + b ≤ 990000) : CMulW i j :=
  wide_mul (a := a + 1) (b := b + 1) (Nat.lt_of_le_of_lt h (Nat.pow_lt_pow_right (by decide) (Nat.lt_succ_self a))) (Nat.lt_of_le_of_lt g (Nat.pow_lt_pow_right (by decide) (Nat.lt_succ_self b))) (Nat.succ_pos a) (Nat.succ_pos b) (by omega)
theorem Lb.big {i : Int} {a : Nat} (h : Lb i a) (l : a < 2000) : i.natAbs < 2 ^ 2000 := Nat.lt_of_le_of_lt h (Nat.pow_lt_pow_right (by decide) l)
theorem Lb.fifty {i : Int} {a : Nat} (h : Lb i a) (l : a < 50) : i.natAbs < 2 ^ 50 := Nat.lt_of_le_of_lt h (Nat.pow_lt_pow_right (by decide) l)
theorem lb_nat {n a : Nat} (h : n ≤ 2 ^ a) : Lb (n : Nat) a := by unfold Lb; simpa using h
/-! ### lower_right, chance_right -/
def pLR (vs : List V) (_ : Hp) (k : Kd) : Prop := ∃ l : Nat, vs = [.int (l : Nat)] ∧ k = .is (.bl (decide (1 ≤ l) && decide (l ≤ 100)))
/-! ### lower_right: 0:lower -/
theorem sc110 : FnScope ["lower"] ["lower"] (defScope (top 110)) := ⟨rfl, rfl, rfl, by decide +kernel, rfl, by decide +kernel, by decide +kernel⟩
theorem c_lower_right (Z : Ct mg) (Df : DefAt K mg "lower_right" (top 110)) : Cal P w K mg base 1 "lower_right" (SpK (pLR)) := by
  refine cal_pure (ps := ["lower"]) Df sc110 (fun _ _ _ _ _ _ us hl => match us, hl with | [_], _ => rfl) (fun vs H k ⟨_, e, _⟩ => by rw [e]; rfl) fun f cdv A outer s H vs E k hr ⟨l, e, ek⟩ => ?_
  subst e ek
  exact gb_ret (gv_and (Gv.is_to (gv_le gv_int (gv_var 0)) (congrArg V.bl (dle 1 l))) (fun _ => Gv.is_to (gv_le (gv_var 0) (gv_glo Z.lowerR)) (congrArg V.bl (dle l 100))))
theorem gv_lower_right {X : Cx} {σ : L2.St} {H : Hp} {j : Nat} {e1 : Expr} {p pos : Pos} {l : Nat} (cc : Cal X.prog X.w X.K X.mg X.base 1 "lower_right" (SpK (pLR))) (hr : Room j X.A) (hj : 1 ≤ j) (h0 : Gv (cE X e1) σ H (.is (.int (l : Nat))))  (hg : Gl X "lower_right" := by rfl)
    (hs0 : starEach [e1] X.env = (false, eval e1 X.env) :: starEach [] X.env := by rfl) (hpl : (backTo pos (starEach [] X.env)).any (·.1) = false := by rfl) :
    Gv (cE X (.Call (.Name "lower_right" p) [e1] [] pos)) σ H (.is (.bl (decide (1 ≤ l) && decide (l ≤ 100)))) :=
  gv_calv (us := [.int (l : Nat)]) cc hr hj (ga_cons h0 ga_nil hs0) (fun _ s => ⟨l, rfl, rfl⟩) hg (by decide) hs0 hpl
def pCR (vs : List V) (_ : Hp) (k : Kd) : Prop := ∃ a b : Nat, vs = [.int (a : Nat), .int (b : Nat)] ∧ k = .is (.bl (Krdn.partOk a b))
/-! ### chance_right: 0:upper 1:lower -/
theorem sc111 : FnScope ["upper", "lower"] ["upper", "lower"] (defScope (top 111)) := ⟨rfl, rfl, rfl, by decide +kernel, rfl, by decide +kernel, by decide +kernel⟩
theorem c_chance_right_rises (cr : Cal P w K mg base 1 "lower_right" (SpK pLR)) (Df : DefAt K mg "chance_right_rises" (top 111)) : Cal P w K mg base 2 "chance_right_rises" (SpK (pCR)) := by
  refine cal_pure (ps := ["upper", "lower"]) Df sc111 (fun _ _ _ _ _ _ us hl => match us, hl with | [_, _], _ => rfl) (fun vs H k ⟨_, _, e, _⟩ => by rw [e]; rfl) fun f cdv A outer s H vs E k hr ⟨a, b, e, ek⟩ => ?_
  subst e ek
  exact gb_ret (gv_and (gv_lower_right cr hr (by decide) (gv_var 1)) (fun _ => Gv.is_to (gv_le (gv_var 0) (gv_var 1)) (congrArg V.bl (dle a b))))
theorem gv_chance_right_rises {X : Cx} {σ : L2.St} {H : Hp} {j : Nat} {e1 e2 : Expr} {p pos : Pos} {a b : Nat} (cc : Cal X.prog X.w X.K X.mg X.base 2 "chance_right_rises" (SpK (pCR))) (hr : Room j X.A) (hj : 2 ≤ j) (h0 : Gv (cE X e1) σ H (.is (.int (a : Nat)))) (h1 : Gv (cE X e2) σ H (.is (.int (b : Nat))))  (hg : Gl X "chance_right_rises" := by rfl)
    (hs0 : starEach [e1, e2] X.env = (false, eval e1 X.env) :: starEach [e2] X.env := by rfl) (hs1 : starEach [e2] X.env = (false, eval e2 X.env) :: starEach [] X.env := by rfl) (hpl : (backTo pos (starEach [e2] X.env)).any (·.1) = false := by rfl) :
    Gv (cE X (.Call (.Name "chance_right_rises" p) [e1, e2] [] pos)) σ H (.is (.bl (Krdn.partOk a b))) :=
  gv_calv (us := [.int (a : Nat), .int (b : Nat)]) cc hr hj (ga_cons h0 (ga_cons h1 ga_nil hs1) hs0) (fun _ s => ⟨a, b, rfl, rfl⟩) hg (by decide) hs0 hpl
theorem partOk_of {a b : Nat} (h : Krdn.partOk a b = true) : 1 ≤ b ∧ b ≤ 100 ∧ a ≤ b := by
  unfold Krdn.partOk at h
  simp at h
  exact ⟨by omega, by omega, by omega⟩
/-! ### sizes -/
theorem sz_tot {f : Krdk.Answer} (wf : W f) (k : Nat) : tot Mt.bc (fun x => Mt.b2i (f.at_ x)) (2 ^ f.n) k = sz f k := by
  unfold tot sz Krdn.sized
  rw [Mt.sum_filter, Mt.len_filter]
  congr 1
  apply List.map_congr_left
  intro x hx
  rw [Mt.bits_bc f.n wf.n5 x (List.mem_range.mp hx)]
  cases f.at_ x <;> cases (Mt.bc x == k) <;> rfl
def szL (f : Krdk.Answer) : List V := ((List.range (f.n + 1)).map (sz f)).map .int
theorem szL_len (f : Krdk.Answer) : (szL f).length = f.n + 1 := by unfold szL; simp
theorem sz_le {f : Krdk.Answer} (wf : W f) (k : Nat) : Lb (sz f k) 5 := by
  have h := rf_len (2 ^ f.n) (fun x => f.at_ x && Krdk.bits f.n x == k)
  have h5 := p2le wf.n5
  exact lb_nat (Nat.le_trans h h5)
def pSizes (K : PySem.W.Frag) (vs : List V) (H : Hp) (k : Kd) : Prop := ∃ (q : Nat) (f : Krdk.Answer), vs = [.int (f.n : Nat), .ref q] ∧ Seq K H q (SV f) ∧ W f ∧ k = .ob (.lst (szL f))
/-! ### sizes: 0:bits 1:says 2:counts 3:size 4:word 5:said -/
theorem sc113 : FnScope ["bits", "says", "counts", "size", "word", "said"] ["bits", "says"] (defScope (top 113)) := ⟨rfl, rfl, rfl, by decide +kernel, rfl, by decide +kernel, by decide +kernel⟩
theorem c_sizes (B : Bl mg) (cb : Cal P w K mg base 1 "bits_set" (SpK pBits)) (Df : DefAt K mg "sizes" (top 113)) : Cal P w K mg base 2 "sizes" (SpK (pSizes K)) := by
  refine cal_pure (ps := ["bits", "says"]) Df sc113 (fun _ _ _ _ _ _ us hl => match us, hl with | [_, _], _ => rfl) (fun vs H k ⟨_, _, e, _⟩ => by rw [e]; rfl) fun f cdv A outer s H vs E k hr ⟨q, fa, e, hq, wf, ek⟩ => ?_
  subst e ek
  have hn := wf.n5
  refine gb_go fun Dn H1 s1 _ hR => ?_
  refine go_lcX 2 rfl sc113.nd (LcR.to (lc_R (N := ((fa.n + 1 : Nat) : Int)) 3 B.range (Gv.is_to (gv_add (gv_var 0) gv_int) (by simp)) (by omega) (blkOk_by (own := [("size", 3)]) (N := ["bits", "says", "counts", "size", "word", "said"]) (sc := defScope (top 113)) (by decide +kernel)) (fun _ _ _ _ _ => pg_name (i := 3) sc113.nd rfl (Or.inl rfl)) (fun _ _ _ _ _ => pts_nil)
    (fun _ => true) (fun k => .int (tot Mt.bc (fun x => Mt.b2i (fa.at_ x)) 0 k)) (fun _ => rfl) (fun _ _ => gt_yes) (fun x _ _ => gv_cF fun _ _ _ _ _ => gv_int)) (by rw [given_all, Int.toNat_natCast, mapV])) fun q2 H2 fq s2 hq2 => ?_
  refine go_forES (H0 := H1) 4 5 rfl sc113.nd B.enum s2 (hq.same s1) (gv_var 1)
    (fun i σ' H' => Same H1 H' ∧ H' q2 = some (.lst (((List.range (fa.n + 1)).map (tot Mt.bc (fun x => Mt.b2i (fa.at_ x)) i)).map .int)) ∧ ∃ u w z, σ' = [some (.int (fa.n : Nat)), some (.ref q), some (.ref q2), z, u, w]) ⟨s2, hq2, none, none, none, rfl⟩ (fun i σ' H' w => w.1) ?_ ?_ PassesOwn.never (pg2 4 5 rfl sc113.nd)
  · rintro i v σ' H' hv ⟨sH, hq', u0, w0, z0, rfl⟩
    obtain ⟨hi, rfl⟩ := SV_of wf hv
    have hbc : Mt.bc i < fa.n + 1 := Nat.lt_succ_of_le (Mt.bc_le fa.n hn i hi)
    refine go_setV 3 sc113.nd (gv_bits cb hr (by decide) (gv_var 4) (Mt.p32 hn hi)) ?_
    refine go_put (gv_var 2) hq' (gv_var 3) (by simpa using hbc) (gv_add (gv_ixL (gv_var 2) (.old (SqL.of hq')) (gv_var 3) (atI_nat (getV hbc))) (gv_var 5)) ?_
    refine go_thru ⟨same_mut sH fq, ?_, some (.int (i : Nat)), some (.int (Mt.b2i (fa.at_ i))), some (.int (Mt.bc i : Nat)), rfl⟩
    rw [upd_same, ← tot_set Mt.bc _ _ _ hbc, List.map_set]
  · rintro σ' H' ⟨sH, hq', u0, w0, z0, rfl⟩
    have et : (List.range (fa.n + 1)).map (tot Mt.bc (fun x => Mt.b2i (fa.at_ x)) (2 ^ fa.n)) = (List.range (fa.n + 1)).map (sz fa) := List.map_congr_left fun k _ => sz_tot wf k
    rw [SV_len wf, et] at hq'
    exact go_ret (gv_var 2) fun v H7 s7 n7 => hR v H7 (sH.trans s7) ⟨q2, n7, fq, s7 _ _ hq'⟩
def pCountsOf (K : PySem.W.Frag) (C : Addr) (vs : List V) (H : Hp) (k : Kd) : Prop := ∃ (d : Nat) (D : Krdo.Data), vs = [.ref d] ∧ DkE K C H d D ∧ k = .ob (.lst (szL D.f))
/-! ### counts_of: 0:desk -/
theorem sc114 : FnScope ["desk"] ["desk"] (defScope (top 114)) := ⟨rfl, rfl, rfl, by decide +kernel, rfl, by decide +kernel, by decide +kernel⟩
theorem c_counts_of (T : ClD K C) (cs : Cal P w K mg base 2 "sizes" (SpK (pSizes K))) (Df : DefAt K mg "counts_of" (top 114)) : Cal P w K mg base 3 "counts_of" (SpK (pCountsOf K C)) := by
  refine cal_pure (ps := ["desk"]) Df sc114 (fun _ _ _ _ _ _ us hl => match us, hl with | [_], _ => rfl) (fun vs H k ⟨_, _, e, _⟩ => by rw [e]; rfl) fun f cdv A outer s H vs E k hr ⟨d, D, e, hD, ek⟩ => ?_
  subst e ek
  obtain ⟨dx, ad, cd, sd, ld, sh, hD⟩ := hD
  exact gb_ret (gv_calv (us := [.int (D.f.n : Nat), .ref ad]) cs hr (by decide) (ga_cons (gv_bitsD T (gv_var 0) hD) (ga_cons (gv_saysD T (gv_var 0) hD) ga_nil)) (fun H1 s1 => ⟨ad, D.f, rfl, .inr (same_t s1 hD.says), hD.w, rfl⟩))
theorem gv_counts_of {X : Cx} {σ : L2.St} {H : Hp} {j : Nat} {e1 : Expr} {p pos : Pos} {C d : Nat} {D : Krdo.Data} (cc : Cal X.prog X.w X.K X.mg X.base 3 "counts_of" (SpK (pCountsOf X.K C))) (hr : Room j X.A) (hj : 3 ≤ j) (h0 : Gv (cE X e1) σ H (.is (.ref d))) (hD : DkE X.K C H d D) (hg : Gl X "counts_of" := by rfl)
    (hs0 : starEach [e1] X.env = (false, eval e1 X.env) :: starEach [] X.env := by rfl) (hpl : (backTo pos (starEach [] X.env)).any (·.1) = false := by rfl) :
    Gv (cE X (.Call (.Name "counts_of" p) [e1] [] pos)) σ H (.ob (.lst (szL D.f))) :=
  gv_calv (us := [.ref d]) cc hr hj (ga_cons h0 ga_nil hs0) (fun _ s => ⟨d, D, rfl, hD.same s, rfl⟩) hg (by decide) hs0 hpl
/-! ### all_set -/
def pAllSet (K : PySem.W.Frag) (vs : List V) (H : Hp) (k : Kd) : Prop := ∃ (c : Nat) (u l : Int) (f : Krdk.Answer), vs = [.ref c, .int u, .int l] ∧ SqL K H c (szL f) ∧ W f ∧ Lb u 41 ∧ Lb (l - u) 41 ∧ k = .is (.int (asum (sz f) f.n u l))
theorem term_b {f : Krdk.Answer} (wf : W f) {u l : Int} (hu : Lb u 41) (hl : Lb (l - u) 41) {k : Nat} (hk : k ≤ f.n) : Lb (sz f k * u ^ k) 210 ∧ Lb ((l - u) ^ (f.n - k)) 205 := by
  have hn := wf.n5
  exact ⟨((sz_le wf k).mul (hu.powm (m := 5) (by omega))).mono (by decide), hl.powm (m := 5) (by omega)⟩
theorem asum_b {f : Krdk.Answer} (wf : W f) {u l : Int} (hu : Lb u 41) (hl : Lb (l - u) 41) : Lb (asum (sz f) f.n u l) 420 := by
  have hn := wf.n5
  refine (Lb.sum (a := 415) (m := 3) (l := (List.range (f.n + 1)).map fun k => sz f k * cnt f.n u l k) (fun x hx => ?_) (by simp; omega)).mono (by decide)
  obtain ⟨k, hk, rfl⟩ := List.mem_map.mp hx
  have hk2 : k ≤ f.n := by have := List.mem_range.mp hk; omega
  obtain ⟨h1, h2⟩ := term_b wf hu hl hk2
  have h3 := h1.mul h2
  unfold Mt.cnt
  rw [← Int.mul_assoc]
  exact h3
def psum (g : Nat → Int) (i : Nat) : Int := ((List.range i).map g).sum
theorem psum_succ (g : Nat → Int) (i : Nat) : psum g (i + 1) = psum g i + g i := by
  unfold psum
  rw [List.range_succ, List.map_append, List.sum_append]
  simp
/-! ### all_set: 0:counts 1:upper 2:lower 3:bits 4:likely 5:size 6:count -/
theorem sc115 : FnScope ["counts", "upper", "lower", "bits", "likely", "size", "count"] ["counts", "upper", "lower"] (defScope (top 115)) := ⟨rfl, rfl, rfl, by decide +kernel, rfl, by decide +kernel, by decide +kernel⟩
theorem c_all_set (B : Bl mg) (cp : Cal P w K mg base 1 "power" (SpK pPower)) (Df : DefAt K mg "all_set" (top 115)) : Cal P w K mg base 2 "all_set" (SpK (pAllSet K)) := by
  refine cal_pure (ps := ["counts", "upper", "lower"]) Df sc115 (fun _ _ _ _ _ _ us hl => match us, hl with | [_, _, _], _ => rfl) (fun vs H k ⟨_, _, _, _, e, _⟩ => by rw [e]; rfl) fun f cdv A outer s H vs E k hr ⟨c, u, l, fa, e, hc, wf, hu, hl, ek⟩ => ?_
  subst e ek
  have hn := wf.n5
  refine gb_set 3 sc115.nd (Gv.is_to (gv_sub (gv_lenL B (gv_var 0) (.old hc)) gv_int) (show V.int _ = V.int (fa.n : Int) by rw [szL_len]; congr 1; omega)) ?_
  refine gb_set 4 sc115.nd gv_int ?_
  refine gb_forEL (xs := szL fa) 5 6 rfl sc115.nd B.enum (gv_var 0) hc (fun i σ' => ∃ x y, σ' = [some (.ref c), some (.int u), some (.int l), some (.int (fa.n : Int)), some (.int (psum (fun k => sz fa k * cnt fa.n u l k) i)), x, y]) ⟨none, none, rfl⟩ ?_ ?_ PassesOwn.never (pg2 5 6 rfl sc115.nd)
  · rintro i v σ' hv ⟨x0, y0, rfl⟩
    obtain ⟨hi, rfl⟩ := ofV hv
    have hi2 : i ≤ fa.n := by omega
    obtain ⟨h1, h2⟩ := term_b wf hu hl hi2
    refine gb_set 4 sc115.nd (gv_add (gv_var 4) (gv_mul (gv_mul (gv_var 6) (gv_power cp hr (by decide) (gv_var 1) (gv_var 5) (hu.fifty (by decide)) (by omega)) ((sz_le wf i).cm (hu.powm (m := 5) (by omega)) (by decide))) (gv_power (n := fa.n - i) cp hr (by decide) (gv_sub (gv_var 2) (gv_var 1)) (Gv.is_to (gv_sub (gv_var 3) (gv_var 5)) (by congr 1; omega)) (hl.fifty (by decide)) (by omega)) (h1.cm h2 (by decide)))) (gb_nil ⟨some (.int (i : Nat)), some (.int (sz fa i)), ?_⟩)
    rw [psum_succ]
    unfold Mt.cnt
    rw [← Int.mul_assoc]
    rfl
  · rintro σ' ⟨x0, y0, rfl⟩
    refine gb_ret (Gv.is_to (gv_var 4) ?_)
    rw [szL_len]; rfl
theorem gv_all_set {X : Cx} {σ : L2.St} {H : Hp} {j : Nat} {e1 e2 e3 : Expr} {p pos : Pos} {c : Nat} {u l : Int} {f : Krdk.Answer} (cc : Cal X.prog X.w X.K X.mg X.base 2 "all_set" (SpK (pAllSet X.K))) (hr : Room j X.A) (hj : 2 ≤ j) (h0 : Gv (cE X e1) σ H (.is (.ref c))) (h1 : Gv (cE X e2) σ H (.is (.int u))) (h2 : Gv (cE X e3) σ H (.is (.int l))) (hc : SqL X.K H c (szL f)) (wf : W f) (hu : Lb u 41) (hl : Lb (l - u) 41) (hg : Gl X "all_set" := by rfl)
    (hs0 : starEach [e1, e2, e3] X.env = (false, eval e1 X.env) :: starEach [e2, e3] X.env := by rfl) (hs1 : starEach [e2, e3] X.env = (false, eval e2 X.env) :: starEach [e3] X.env := by rfl) (hs2 : starEach [e3] X.env = (false, eval e3 X.env) :: starEach [] X.env := by rfl) (hpl : (backTo pos (starEach [e2, e3] X.env)).any (·.1) = false := by rfl) :
    Gv (cE X (.Call (.Name "all_set" p) [e1, e2, e3] [] pos)) σ H (.is (.int (asum (sz f) f.n u l))) :=
  gv_calv (us := [.ref c, .int u, .int l]) cc hr hj (ga_cons h0 (ga_cons h1 (ga_cons h2 ga_nil hs2) hs1) hs0) (fun _ s => ⟨c, u, l, f, rfl, same_l s hc, wf, hu, hl, rfl⟩) hg (by decide) hs0 hpl
end
end Sw
set_option Elab.async false
set_option linter.all false
set_option maxRecDepth 100000
set_option maxHeartbeats 2000000
set_option exponentiation.threshold 3000
namespace Sw
open PySem PySem.Spec PyProof.Rows L2 Kx
open Evl (given given_yes given_no given_len)
open Mt (W S swc pt)
section
variable {P : Program} {w : World} {K : PySem.W.Frag} {mg : Str → Option Value} {base : Heap} {C : Addr}
open Mt (asum sz fastT fsum cnt)
theorem gv_all_setO {X : Cx} {σ : L2.St} {H : Hp} {j : Nat} {e1 e2 e3 : Expr} {p pos : Pos} {u l : Int} {f : Krdk.Answer} (cc : Cal X.prog X.w X.K X.mg X.base 2 "all_set" (SpK (pAllSet X.K))) (hr : Room j X.A) (hj : 2 ≤ j) (h0 : Gv (cE X e1) σ H (.ob (.lst (szL f)))) (h1 : Gv (cE X e2) σ H (.is (.int u))) (h2 : Gv (cE X e3) σ H (.is (.int l))) (wf : W f) (hu : Lb u 41) (hl : Lb (l - u) 41) (hg : Gl X "all_set" := by rfl)
    (hs0 : starEach [e1, e2, e3] X.env = (false, eval e1 X.env) :: starEach [e2, e3] X.env := by rfl) (hs1 : starEach [e2, e3] X.env = (false, eval e2 X.env) :: starEach [e3] X.env := by rfl) (hs2 : starEach [e3] X.env = (false, eval e3 X.env) :: starEach [] X.env := by rfl) (hpl : (backTo pos (starEach [e2, e3] X.env)).any (·.1) = false := by rfl) :
    Gv (cE X (.Call (.Name "all_set" p) [e1, e2, e3] [] pos)) σ H (.is (.int (asum (sz f) f.n u l))) := by
  refine gv_calk cc hr hj (ga_cons h0 (ga_cons h1 (ga_cons h2 ga_nil hs2) hs1) hs0) (fun vs H1 s z => ?_) hg (by decide) hs0 hpl
  obtain ⟨v1, r1, rfl, ⟨q, rfl, hq⟩, v2, r2, rfl, e2', v3, r3, rfl, e3', rfl⟩ := z
  obtain rfl : v2 = .int u := e2'
  obtain rfl : v3 = .int l := e3'
  exact ⟨q, u, l, f, rfl, SqL.of hq, wf, hu, hl, rfl⟩
theorem nat_rat {b : Nat} (h : 1 ≤ b) : ((b : Int) : Rat) ≠ 0 := by
  have := Mt.posR (l := (b : Int)) (by omega)
  grind
theorem up_lo {a b : Nat} (h : 1 ≤ b ∧ b ≤ 100 ∧ a ≤ b) : Lb (a : Int) 7 ∧ Lb ((b : Int) - (a : Int)) 7 ∧ Lb (b : Int) 7 := by
  unfold Lb
  refine ⟨?_, ?_, ?_⟩ <;> omega
theorem bp {b : Nat} (h : 1 ≤ b) (n : Nat) : (0 : Int) < (b : Int) ^ n := Int.pow_pos (by omega)
theorem low_yesN (f : Krdk.Answer) {a b : Nat} (h : 1 ≤ b) : Mt.low (asum (sz f) f.n (a : Int) (b : Int)) ((b : Int) ^ f.n) = Krdk.fr (Krdn.yesAt f (Krdn.rat a b)) := Mt.low_yes f (u := (a : Int)) (l := (b : Int)) (nat_rat h)
/-! ### tell_yes: 0:desk 1:given 2:upper 3:lower -/
theorem sc116 : FnScope ["desk", "given", "upper", "lower"] ["desk", "given"] (defScope (top 116)) := ⟨rfl, rfl, rfl, by decide +kernel, rfl, by decide +kernel, by decide +kernel⟩
theorem c_tell_yes (T : ClD K C) (B : Bl mg) (Z : Ct mg) (Df : DefAt K mg "tell_yes" (top 116)) (cr : Cal P w K mg base 1 "refused" (SpK pRefused)) (cl : Cal P w K mg base 1 "lowest" (SpK pLow)) (cp : Cal P w K mg base 1 "power" (SpK pPower)) (cc : Cal P w K mg base 2 "chance_right_rises" (SpK pCR)) (co : Cal P w K mg base 3 "counts_of" (SpK (pCountsOf K C))) (cs : Cal P w K mg base 2 "all_set" (SpK (pAllSet K))) : Cal P w K mg base 4 "tell_yes" (SpK (pTell K C 40 2 0)) := by
  refine cal_pure (ps := ["desk", "given"]) Df sc116 (fun _ _ _ _ _ _ us hl => match us, hl with | [_, _], _ => rfl) (fun vs H k ⟨_, _, _, _, _, e, _⟩ => by rw [e]; rfl) fun f cdv A outer s H vs E k hr ⟨d, g, D, xs, rs, e, ⟨dx, ad, cd, sd, ld, sh, hD⟩, hG, hx, hrs, ok, okr, ek⟩ => ?_
  obtain ⟨x, y, rfl, hxm, hym⟩ := two_num hx ok
  obtain rfl := nil_of hrs
  have hq := hG.nums
  subst e ek
  have wf := hD.w
  have hn := wf.n5
  have hQ : ansP 40 D [(x : Int), (y : Int)] [] = KrdoNeutral.told (if !Krdn.partOk x y then Krdk.say (-22) else Krdk.frac (Krdn.yesAt D.f (Krdn.rat x y))) := rfl
  rw [hQ]
  refine gb_asg (pu2 2 3 rfl sc116.nd) (gv_var 1) fun w1 H1 H2 s1 s2 ew => ?_
  obtain rfl : w1 = .ref g := ew
  refine ⟨_, fun Qg q => u2_go (same_l (s1.trans s2) hq) q, ?_⟩
  have hD := hD.same (s1.trans s2)
  refine gb_if (gt_not (gt_val (gv_chance_right_rises cc hr (by decide) (gv_var 2) (gv_var 3)))) (fun h => ?_) (fun h => ?_)
  · rw [if_pos h]
    exact gb_ret (gv_ref cr hr (by decide) Z.notRight)
  · rw [if_neg (by rw [h]; decide)]
    have hp := partOk_of (by simpa using h)
    obtain ⟨b1, b2, b3⟩ := up_lo hp
    have ba := asum_b wf (b1.mono (by decide)) (b2.mono (by decide))
    refine gb_ret (Gv.to (gv_zero (gv_low cl hr (by decide) (gv_all_setO cs hr (by decide) (gv_counts_of co hr (by decide) (gv_var 0) ⟨_, _, _, _, _, _, hD⟩) (gv_var 2) (gv_var 3) wf (b1.mono (by decide)) (b2.mono (by decide))) (gv_power cp hr (by decide) (gv_var 3) (gv_bitsD T (gv_var 0) hD) (b3.fifty (by decide)) (by omega)) (bp hp.1 _) (ba.big (by decide)) ((b3.powm (m := 5) hn).big (by decide))) (by rw [low_len]; decide)) ?_)
    rw [low_yesN D.f hp.1]; rfl
/-! ### swayat -/
theorem u3_go {K : PySem.W.Frag} {i j k g : Nat} {u x y : V} {σ : L2.St} {H : Hp} {Qg : L2.St → Hp → Prop} (h : SqL K H g [u, x, y]) (q : Qg (((σ.set i (some u)).set j (some x)).set k (some y)) H) : gUnl K 3 (gCons (gName i) (gCons (gName j) (gCons (gName k) gNil))) (.ref g) σ H Qg :=
  ⟨g, [u, x, y], rfl, h, rfl, u, [x, y], rfl, x, [y], rfl, y, [], rfl, rfl, q⟩
theorem fil_contains {n : Nat} {p : Nat → Bool} {x : Nat} (h : x < n) : ((List.range n).filter p).contains x = p x := by
  rw [Bool.eq_iff_iff, List.contains_iff_mem, List.mem_filter, List.mem_range]
  exact ⟨fun z => z.2, fun z => ⟨h, z⟩⟩
/-! ### tell_swayat: 0:desk 1:given 2:bit 3:upper 4:lower 5:words 6:counts 7:word -/
theorem sc117 : FnScope ["desk", "given", "bit", "upper", "lower", "words", "counts", "word"] ["desk", "given"] (defScope (top 117)) := ⟨rfl, rfl, rfl, by decide +kernel, rfl, by decide +kernel, by decide +kernel⟩
theorem c_tell_swayat (T : ClD K C) (B : Bl mg) (Z : Ct mg) (Df : DefAt K mg "tell_swayat" (top 117)) (cr : Cal P w K mg base 1 "refused" (SpK pRefused)) (cl : Cal P w K mg base 1 "lowest" (SpK pLow)) (cp : Cal P w K mg base 1 "power" (SpK pPower)) (cw : Cal P w K mg base 2 "swayed" (SpK (pSwayed K))) (cz : Cal P w K mg base 2 "sizes" (SpK (pSizes K))) (cc : Cal P w K mg base 2 "chance_right_rises" (SpK pCR)) (cs : Cal P w K mg base 2 "all_set" (SpK (pAllSet K))) : Cal P w K mg base 4 "tell_swayat" (SpK (pTell K C 41 3 0)) := by
  refine cal_pure (ps := ["desk", "given"]) Df sc117 (fun _ _ _ _ _ _ us hl => match us, hl with | [_, _], _ => rfl) (fun vs H k ⟨_, _, _, _, _, e, _⟩ => by rw [e]; rfl) fun f cdv A outer s H vs E k hr ⟨d, g, D, xs, rs, e, ⟨dx, ad, cd, sd, ld, sh, hD⟩, hG, hx, hrs, ok, okr, ek⟩ => ?_
  obtain ⟨x, y, z, rfl, hxm, hym, hzm⟩ := three_num hx ok
  obtain rfl := nil_of hrs
  have hq := hG.nums
  subst e ek
  have wf := hD.w
  have hn := wf.n5
  have h5 := p2le hn
  have hQ : ansP 41 D [(x : Int), (y : Int), (z : Int)] [] = KrdoNeutral.told (if D.f.n ≤ x then Krdk.say (-2) else if !Krdn.partOk y z then Krdk.say (-22) else Krdk.frac (Krdn.swayAt D.f x (Krdn.rat y z))) := rfl
  rw [hQ]
  refine gb_asg (pg_unl (n := 3) rfl (pgs_cons (pg_name (i := 2) sc117.nd rfl (Or.inl rfl)) (pgs_cons (pg_name (i := 3) sc117.nd rfl (Or.inl rfl)) (pgs_cons (pg_name (i := 4) sc117.nd rfl (Or.inl rfl)) pgs_nil)))) (gv_var 1) fun w1 H1 H2 s1 s2 ew => ?_
  obtain rfl : w1 = .ref g := ew
  refine ⟨_, fun Qg q => u3_go (same_l (s1.trans s2) hq) q, ?_⟩
  have hD := hD.same (s1.trans s2)
  refine gb_if (Gt.to (gt_ge (gv_var 2) (gv_bitsD T (gv_var 0) hD)) (dle _ _)) (fun h => ?_) (fun h => ?_)
  · rw [if_pos (of_decide_eq_true h)]
    exact gb_ret (gv_ref cr hr (by decide) Z.noSuch)
  · rw [if_neg (of_decide_eq_false h)]
    have hx : x < D.f.n := by have := of_decide_eq_false h; omega
    refine gb_if (gt_not (gt_val (gv_chance_right_rises cc hr (by decide) (gv_var 3) (gv_var 4)))) (fun h => ?_) (fun h => ?_)
    · rw [if_pos h]
      exact gb_ret (gv_ref cr hr (by decide) Z.notRight)
    · rw [if_neg (by rw [h]; decide)]
      have hp := partOk_of (by simpa using h)
      obtain ⟨b1, b2, b3⟩ := up_lo hp
      have wg : W (Krdk.of D.f.n (D.f.sways x)) := Mt.of_W wf.n1 wf.n5 _
      have ba := asum_b wg (b1.mono (by decide)) (b2.mono (by decide))
      refine gb_setO 5 sc117.nd (gv_swayed cw hr (by decide) (gv_saysD T (gv_var 0) hD) (gv_var 2) (.inr hD.says) wf hx) fun q H3 fq s3 hq3 => ?_
      have hD := hD.same s3
      refine gb_setO (o := .lst (szL (Krdk.of D.f.n (D.f.sways x)))) 6 sc117.nd (gv_calk cz hr (by decide) (ga_cons (gv_bitsD T (gv_var 0) hD) (ga_cons (Gv.to (gv_lcR (N := ((2 ^ D.f.n : Nat) : Int)) 7 rfl sc117.nd B.range (gv_lenD T B (gv_var 0) hD) ⟨Int.le_of_lt (p2int _), by omega⟩ (blkOk_by (own := [("word", 7)]) (N := ["desk", "given", "bit", "upper", "lower", "words", "counts", "word"]) (sc := defScope (top 117)) (by decide +kernel)) (fun _ _ _ _ _ => pg_name (i := 7) sc117.nd rfl (Or.inl rfl)) (fun _ _ _ _ _ => pts_nil)
        (fun _ => true) (fun v => .int (Mt.b2i (D.f.sways x v))) (fun _ => rfl) (fun _ _ => gt_yes) (fun v hv _ => gv_cF fun _ _ _ _ _ => gv_ite (d := D.f.sways x v) (Gt.to (gt_inL (gv_var 7) (gv_var 5) (SqL.of hq3) rfl (flat_NV _)) ?_) (fun h => gv_int.is_to ?_) (fun h => gv_int.is_to ?_))) (k' := .ob (.lst (SV (Krdk.of D.f.n (D.f.sways x))))) ?_) ga_nil)) (fun vs H4 s4 z => ?_)) fun q2 H4 fq2 s4 hq4 => ?_
      · rw [inV_nat]
        exact fil_contains (by omega)
      · rw [h]; rfl
      · rw [h]; rfl
      · rw [given_all, Int.toNat_natCast, SV_of_eq]; rfl
      · obtain ⟨v1, r1, rfl, e1, v2, r2, rfl, ⟨q5, rfl, hq5⟩, rfl⟩ := z
        obtain rfl : v1 = .int D.f.n := e1
        exact ⟨q5, Krdk.of D.f.n (D.f.sways x), rfl, .inl (SqL.of hq5), wg, rfl⟩
      · have hD := hD.same s4
        refine gb_ret (Gv.to (gv_zero (gv_low (u := asum (sz (Krdk.of D.f.n (D.f.sways x))) D.f.n y z) cl hr (by decide) (gv_all_set (f := Krdk.of D.f.n (D.f.sways x)) cs hr (by decide) (gv_var 6) (gv_var 3) (gv_var 4) (SqL.of hq4) wg (b1.mono (by decide)) (b2.mono (by decide))) (gv_power cp hr (by decide) (gv_var 4) (gv_bitsD T (gv_var 0) hD) (b3.fifty (by decide)) (by omega)) (bp hp.1 _) (ba.big (by decide)) ((b3.powm (m := 5) hn).big (by decide))) (by rw [low_len]; decide)) ?_)
        have e9 := low_yesN (Krdk.of D.f.n (D.f.sways x)) (a := y) (b := z) hp.1
        rw [Mt.swayAt_eq]
        show _ = Kd.ob (.lst ((0 :: Krdk.fr (Krdn.yesAt (Krdk.of D.f.n (D.f.sways x)) (Krdn.rat y z))).map .int))
        rw [← e9]
        rfl
/-! ### fast -/
def pFast (K : PySem.W.Frag) (vs : List V) (H : Hp) (k : Kd) : Prop := ∃ (c : Nat) (u l : Int) (f : Krdk.Answer), vs = [.ref c, .int u, .int l] ∧ SqL K H c (szL f) ∧ W f ∧ Lb u 7 ∧ Lb (l - u) 7 ∧ k = .is (.int (fsum (sz f) f.n u l))
theorem cntL {u l : Int} (hu : Lb u 7) (hl : Lb (l - u) 7) {n d : Nat} (hn : n ≤ 5) (hd : d ≤ 5) : Lb (u ^ d) 35 ∧ Lb ((l - u) ^ (n - d)) 35 := ⟨hu.powm (m := 5) hd, hl.powm (m := 5) (by omega)⟩
theorem fastT_b {u l : Int} (hu : Lb u 7) (hl : Lb (l - u) 7) {n k : Nat} (hn : n ≤ 5) (hk : k ≤ n) : Lb (fastT n u l k) 74 := by
  have z : Lb (0 : Int) 73 := by unfold Lb; decide
  have c1 : ∀ d, d ≤ 5 → Lb (cnt (n - 1) u l d) 70 := fun d hd => (cntL hu hl (n := n - 1) (by omega) hd).1.mul (cntL hu hl (n := n - 1) (d := d) (by omega) hd).2
  unfold Mt.fastT
  refine Lb.sub ?_ ?_
  · split
    · exact z
    · exact ((lb_nat (a := 3) (by omega)).mul (c1 (k - 1) (by omega))).mono (by decide)
  · split
    · exact z
    · exact ((lb_nat (a := 3) (by omega)).mul (c1 k (by omega))).mono (by decide)
theorem fsum_b {f : Krdk.Answer} (wf : W f) {u l : Int} (hu : Lb u 7) (hl : Lb (l - u) 7) : Lb (fsum (sz f) f.n u l) 82 := by
  have hn := wf.n5
  refine (Lb.sum (a := 79) (m := 3) (l := (List.range (f.n + 1)).map fun k => sz f k * fastT f.n u l k) (fun x hx => ?_) (by simp; omega)).mono (by decide)
  obtain ⟨k, hk, rfl⟩ := List.mem_map.mp hx
  have hk2 : k ≤ f.n := by have := List.mem_range.mp hk; omega
  exact ((sz_le wf k).mul (fastT_b hu hl hn hk2)).mono (by decide)
/-! ### fast: 0:counts 1:upper 2:lower 3:bits 4:rest 5:rises 6:size 7:count -/
theorem sc118 : FnScope ["counts", "upper", "lower", "bits", "rest", "rises", "size", "count"] ["counts", "upper", "lower"] (defScope (top 118)) := ⟨rfl, rfl, rfl, by decide +kernel, rfl, by decide +kernel, by decide +kernel⟩
theorem c_fast (B : Bl mg) (cp : Cal P w K mg base 1 "power" (SpK pPower)) (Df : DefAt K mg "fast" (top 118)) : Cal P w K mg base 2 "fast" (SpK (pFast K)) := by
  refine cal_pure (ps := ["counts", "upper", "lower"]) Df sc118 (fun _ _ _ _ _ _ us hl => match us, hl with | [_, _, _], _ => rfl) (fun vs H k ⟨_, _, _, _, e, _⟩ => by rw [e]; rfl) fun f cdv A outer s H vs E k hr ⟨c, u, l, fa, e, hc, wf, hu, hl, ek⟩ => ?_
  subst e ek
  have hn := wf.n5
  have hn1 := wf.n1
  refine gb_set 3 sc118.nd (Gv.is_to (gv_sub (gv_lenL B (gv_var 0) (.old hc)) gv_int) (show V.int _ = V.int (fa.n : Int) by rw [szL_len]; congr 1; omega)) ?_
  refine gb_set 4 sc118.nd (gv_sub (gv_var 2) (gv_var 1)) ?_
  refine gb_set 5 sc118.nd gv_int ?_
  refine gb_forEL (xs := szL fa) 6 7 rfl sc118.nd B.enum (gv_var 0) hc (fun i σ' => ∃ x y, σ' = [some (.ref c), some (.int u), some (.int l), some (.int (fa.n : Int)), some (.int (l - u)), some (.int (psum (fun k => sz fa k * fastT fa.n u l k) i)), x, y]) ⟨none, none, rfl⟩ ?_ ?_ PassesOwn.never (pg2 6 7 rfl sc118.nd)
  · rintro i v σ' hv ⟨x0, y0, rfl⟩
    obtain ⟨hi, rfl⟩ := ofV hv
    have hi2 : i ≤ fa.n := by omega
    have hci : Lb ((i : Nat) : Int) 3 := lb_nat (by omega)
    refine gb_ifN (M := fun σ' => σ' = [some (.ref c), some (.int u), some (.int l), some (.int (fa.n : Int)), some (.int (l - u)), some (.int (psum (fun k => sz fa k * fastT fa.n u l k) i + sz fa i * (if i = 0 then 0 else (i : Int) * cnt (fa.n - 1) u l (i - 1)))), some (.int (i : Nat)), some (.int (sz fa i))]) (Gt.to (gt_gt (gv_var 6) gv_int) (dlt 0 i)) (fun h => ?_) (fun h => ?_) ?_
    · have hi0 : 0 < i := of_decide_eq_true h
      have b1 : Lb (u ^ (i - 1)) 35 := hu.powm (m := 5) (by omega)
      have b2 : Lb ((l - u) ^ (fa.n - i)) 35 := hl.powm (m := 5) (by omega)
      refine gb_set 5 sc118.nd (gv_add (gv_var 5) (gv_mul (gv_mul (gv_mul (gv_var 7) (gv_var 6) ((sz_le wf i).cm hci (by decide))) (gv_power (n := i - 1) cp hr (by decide) (gv_var 1) (Gv.is_to (gv_sub (gv_var 6) gv_int) (by congr 1; omega)) (hu.fifty (by decide)) (by omega)) (((sz_le wf i).mul hci).cm b1 (by decide))) (gv_power (n := fa.n - i) cp hr (by decide) (gv_var 4) (Gv.is_to (gv_sub (gv_var 3) (gv_var 6)) (by congr 1; omega)) (hl.fifty (by decide)) (by omega)) ((((sz_le wf i).mul hci).mul b1).cm b2 (by decide)))) (gb_nil ?_)
      rw [if_neg (by omega)]
      have e1 : fa.n - i = (fa.n - 1) - (i - 1) := by omega
      have e2 : sz fa i * (i : Int) * u ^ (i - 1) * (l - u) ^ (fa.n - i) = sz fa i * ((i : Int) * cnt (fa.n - 1) u l (i - 1)) := by
        unfold Mt.cnt
        rw [e1, Int.mul_assoc, Int.mul_assoc]
      rw [e2]
      rfl
    · have hi0 : i = 0 := by have := of_decide_eq_false h; omega
      rw [if_pos hi0, Int.mul_zero, Int.add_zero]
      rfl
    · rintro σ' rfl
      refine gb_ifN (M := fun σ' => ∃ x y, σ' = [some (.ref c), some (.int u), some (.int l), some (.int (fa.n : Int)), some (.int (l - u)), some (.int (psum (fun k => sz fa k * fastT fa.n u l k) (i + 1))), x, y]) (Gt.to (gt_lt (gv_var 6) (gv_var 3)) (dlt i fa.n)) (fun h => ?_) (fun h => ?_) (fun σ' w => gb_nil w)
      · have hi0 : i < fa.n := of_decide_eq_true h
        have b1 : Lb (u ^ i) 35 := hu.powm (m := 5) (by omega)
        have b2 : Lb ((l - u) ^ (fa.n - i - 1)) 35 := hl.powm (m := 5) (by omega)
        have b3 : Lb ((fa.n - i : Nat) : Int) 3 := lb_nat (by omega)
        refine gb_set 5 sc118.nd (gv_sub (gv_var 5) (gv_mul (gv_mul (gv_mul (gv_var 7) (Gv.is_to (w := .int ((fa.n - i : Nat) : Int)) (gv_sub (gv_var 3) (gv_var 6)) (by congr 1; omega)) ((sz_le wf i).cm b3 (by decide))) (gv_power cp hr (by decide) (gv_var 1) (gv_var 6) (hu.fifty (by decide)) (by omega)) (((sz_le wf i).mul b3).cm b1 (by decide))) (gv_power (n := fa.n - i - 1) cp hr (by decide) (gv_var 4) (Gv.is_to (gv_sub (gv_sub (gv_var 3) (gv_var 6)) gv_int) (by congr 1; omega)) (hl.fifty (by decide)) (by omega)) ((((sz_le wf i).mul b3).mul b1).cm b2 (by decide)))) (gb_nil ⟨some (.int (i : Nat)), some (.int (sz fa i)), ?_⟩)
        have e1 : fa.n - i - 1 = (fa.n - 1) - i := by omega
        have e2 : sz fa i * ((fa.n - i : Nat) : Int) * u ^ i * (l - u) ^ (fa.n - i - 1) = sz fa i * (((fa.n - i : Nat) : Int) * cnt (fa.n - 1) u l i) := by
          unfold Mt.cnt
          rw [e1, Int.mul_assoc, Int.mul_assoc]
        rw [e2, psum_succ]
        have e3 : sz fa i * fastT fa.n u l i = sz fa i * (if i = 0 then 0 else (i : Int) * cnt (fa.n - 1) u l (i - 1)) - sz fa i * (((fa.n - i : Nat) : Int) * cnt (fa.n - 1) u l i) := by
          unfold Mt.fastT
          rw [if_neg (show ¬ i = fa.n by omega), Int.mul_sub]
        rw [e3, ← Int.add_sub_assoc]
        rfl
      · have hi0 : i = fa.n := by have := of_decide_eq_false h; omega
        refine ⟨some (.int (i : Nat)), some (.int (sz fa i)), ?_⟩
        rw [psum_succ]
        have e3 : sz fa i * fastT fa.n u l i = sz fa i * (if i = 0 then 0 else (i : Int) * cnt (fa.n - 1) u l (i - 1)) := by
          unfold Mt.fastT
          rw [if_pos hi0, Int.sub_zero]
        rw [e3]
  · rintro σ' ⟨x0, y0, rfl⟩
    refine gb_ret (Gv.is_to (gv_var 5) ?_)
    rw [szL_len]; rfl
theorem gv_fast {X : Cx} {σ : L2.St} {H : Hp} {j : Nat} {e1 e2 e3 : Expr} {p pos : Pos} {c : Nat} {u l : Int} {f : Krdk.Answer} (cc : Cal X.prog X.w X.K X.mg X.base 2 "fast" (SpK (pFast X.K))) (hr : Room j X.A) (hj : 2 ≤ j) (h0 : Gv (cE X e1) σ H (.is (.ref c))) (h1 : Gv (cE X e2) σ H (.is (.int u))) (h2 : Gv (cE X e3) σ H (.is (.int l))) (hc : SqL X.K H c (szL f)) (wf : W f) (hu : Lb u 7) (hl : Lb (l - u) 7) (hg : Gl X "fast" := by rfl)
    (hs0 : starEach [e1, e2, e3] X.env = (false, eval e1 X.env) :: starEach [e2, e3] X.env := by rfl) (hs1 : starEach [e2, e3] X.env = (false, eval e2 X.env) :: starEach [e3] X.env := by rfl) (hs2 : starEach [e3] X.env = (false, eval e3 X.env) :: starEach [] X.env := by rfl) (hpl : (backTo pos (starEach [e2, e3] X.env)).any (·.1) = false := by rfl) :
    Gv (cE X (.Call (.Name "fast" p) [e1, e2, e3] [] pos)) σ H (.is (.int (fsum (sz f) f.n u l))) :=
  gv_calv (us := [.ref c, .int u, .int l]) cc hr hj (ga_cons h0 (ga_cons h1 (ga_cons h2 ga_nil hs2) hs1) hs0) (fun _ s => ⟨c, u, l, f, rfl, same_l s hc, wf, hu, hl, rfl⟩) hg (by decide) hs0 hpl
end
end Sw
set_option Elab.async false
set_option linter.all false
set_option maxRecDepth 100000
set_option maxHeartbeats 2000000
set_option exponentiation.threshold 3000
namespace Sw
open PySem PySem.Spec PyProof.Rows L2 Kx
open Evl (given given_yes given_no given_len)
open Mt (W S swc pt)
section
variable {P : Program} {w : World} {K : PySem.W.Frag} {mg : Str → Option Value} {base : Heap} {C : Addr}
open Mt (asum sz fastT fsum cnt)
theorem low_slopeN {f : Krdk.Answer} (hn : 1 ≤ f.n) {a b : Nat} (h : 1 ≤ b) : Mt.low (fsum (sz f) f.n (a : Int) (b : Int)) ((b : Int) ^ (f.n - 1)) = Krdk.fr (Krdn.slope f (Krdn.rat a b)) := Mt.low_slope (f := f) (u := (a : Int)) (l := (b : Int)) (nat_rat h) hn
theorem gv_fastO {X : Cx} {σ : L2.St} {H : Hp} {j : Nat} {e1 e2 e3 : Expr} {p pos : Pos} {u l : Int} {f : Krdk.Answer} (cc : Cal X.prog X.w X.K X.mg X.base 2 "fast" (SpK (pFast X.K))) (hr : Room j X.A) (hj : 2 ≤ j) (h0 : Gv (cE X e1) σ H (.ob (.lst (szL f)))) (h1 : Gv (cE X e2) σ H (.is (.int u))) (h2 : Gv (cE X e3) σ H (.is (.int l))) (wf : W f) (hu : Lb u 7) (hl : Lb (l - u) 7) (hg : Gl X "fast" := by rfl)
    (hs0 : starEach [e1, e2, e3] X.env = (false, eval e1 X.env) :: starEach [e2, e3] X.env := by rfl) (hs1 : starEach [e2, e3] X.env = (false, eval e2 X.env) :: starEach [e3] X.env := by rfl) (hs2 : starEach [e3] X.env = (false, eval e3 X.env) :: starEach [] X.env := by rfl) (hpl : (backTo pos (starEach [e2, e3] X.env)).any (·.1) = false := by rfl) :
    Gv (cE X (.Call (.Name "fast" p) [e1, e2, e3] [] pos)) σ H (.is (.int (fsum (sz f) f.n u l))) := by
  refine gv_calk cc hr hj (ga_cons h0 (ga_cons h1 (ga_cons h2 ga_nil hs2) hs1) hs0) (fun vs H1 s z => ?_) hg (by decide) hs0 hpl
  obtain ⟨v1, r1, rfl, ⟨q, rfl, hq⟩, v2, r2, rfl, e2', v3, r3, rfl, e3', rfl⟩ := z
  obtain rfl : v2 = .int u := e2'
  obtain rfl : v3 = .int l := e3'
  exact ⟨q, u, l, f, rfl, SqL.of hq, wf, hu, hl, rfl⟩
/-! ### tell_slope: 0:desk 1:given 2:upper 3:lower -/
theorem sc119 : FnScope ["desk", "given", "upper", "lower"] ["desk", "given"] (defScope (top 119)) := ⟨rfl, rfl, rfl, by decide +kernel, rfl, by decide +kernel, by decide +kernel⟩
theorem c_tell_slope (T : ClD K C) (B : Bl mg) (Z : Ct mg) (Df : DefAt K mg "tell_slope" (top 119)) (cr : Cal P w K mg base 1 "refused" (SpK pRefused)) (cl : Cal P w K mg base 1 "lowest" (SpK pLow)) (cp : Cal P w K mg base 1 "power" (SpK pPower)) (cc : Cal P w K mg base 2 "chance_right_rises" (SpK pCR)) (co : Cal P w K mg base 3 "counts_of" (SpK (pCountsOf K C))) (cf : Cal P w K mg base 2 "fast" (SpK (pFast K))) : Cal P w K mg base 4 "tell_slope" (SpK (pTell K C 42 2 0)) := by
  refine cal_pure (ps := ["desk", "given"]) Df sc119 (fun _ _ _ _ _ _ us hl => match us, hl with | [_, _], _ => rfl) (fun vs H k ⟨_, _, _, _, _, e, _⟩ => by rw [e]; rfl) fun f cdv A outer s H vs E k hr ⟨d, g, D, xs, rs, e, ⟨dx, ad, cd, sd, ld, sh, hD⟩, hG, hx, hrs, ok, okr, ek⟩ => ?_
  obtain ⟨x, y, rfl, hxm, hym⟩ := two_num hx ok
  obtain rfl := nil_of hrs
  have hq := hG.nums
  subst e ek
  have wf := hD.w
  have hn := wf.n5
  have hn1 := wf.n1
  have hQ : ansP 42 D [(x : Int), (y : Int)] [] = KrdoNeutral.told (if !Krdn.partOk x y then Krdk.say (-22) else Krdk.frac (Krdn.slope D.f (Krdn.rat x y))) := rfl
  rw [hQ]
  refine gb_asg (pu2 2 3 rfl sc119.nd) (gv_var 1) fun w1 H1 H2 s1 s2 ew => ?_
  obtain rfl : w1 = .ref g := ew
  refine ⟨_, fun Qg q => u2_go (same_l (s1.trans s2) hq) q, ?_⟩
  have hD := hD.same (s1.trans s2)
  refine gb_if (gt_not (gt_val (gv_chance_right_rises cc hr (by decide) (gv_var 2) (gv_var 3)))) (fun h => ?_) (fun h => ?_)
  · rw [if_pos h]
    exact gb_ret (gv_ref cr hr (by decide) Z.notRight)
  · rw [if_neg (by rw [h]; decide)]
    have hp := partOk_of (by simpa using h)
    obtain ⟨b1, b2, b3⟩ := up_lo hp
    have ba := fsum_b wf b1 b2
    refine gb_ret (Gv.to (gv_zero (gv_low cl hr (by decide) (gv_fastO cf hr (by decide) (gv_counts_of co hr (by decide) (gv_var 0) ⟨_, _, _, _, _, _, hD⟩) (gv_var 2) (gv_var 3) wf b1 b2) (gv_power (n := D.f.n - 1) cp hr (by decide) (gv_var 3) (Gv.is_to (gv_sub (gv_bitsD T (gv_var 0) hD) gv_int) (by congr 1; omega)) (b3.fifty (by decide)) (by omega)) (bp hp.1 _) (ba.big (by decide)) ((b3.powm (m := 5) (by omega)).big (by decide))) (by rw [low_len]; decide)) ?_)
    rw [low_slopeN hn1 hp.1]; rfl
theorem szL_ints (f : Krdk.Answer) : szL f = (Krdk.ints ((List.range (f.n + 1)).map (Krdn.sized f))).map .int := by
  unfold szL Krdk.ints
  rw [List.map_map, List.map_map, List.map_map]; rfl
/-! ### tell_sizes: 0:desk 1:given 2:counts -/
theorem sc120 : FnScope ["desk", "given", "counts"] ["desk", "given"] (defScope (top 120)) := ⟨rfl, rfl, rfl, by decide +kernel, rfl, by decide +kernel, by decide +kernel⟩
theorem c_tell_sizes (T : ClD K C) (B : Bl mg) (Z : Ct mg) (Df : DefAt K mg "tell_sizes" (top 120)) (co : Cal P w K mg base 3 "counts_of" (SpK (pCountsOf K C))) : Cal P w K mg base 4 "tell_sizes" (SpK (pTell K C 43 0 0)) := by
  refine cal_pure (ps := ["desk", "given"]) Df sc120 (fun _ _ _ _ _ _ us hl => match us, hl with | [_, _], _ => rfl) (fun vs H k ⟨_, _, _, _, _, e, _⟩ => by rw [e]; rfl) fun f cdv A outer s H vs E k hr ⟨d, g, D, xs, rs, e, ⟨dx, ad, cd, sd, ld, sh, hD⟩, hG, hx, hrs, ok, okr, ek⟩ => ?_
  obtain rfl := nil_of hx
  obtain rfl := nil_of hrs
  have hq := hG.nums
  subst e ek
  have wf := hD.w
  have hn := wf.n5
  have hQ : ansP 43 D [] [] = ((D.f.n + 1 : Nat) : Int) :: Krdk.ints ((List.range (D.f.n + 1)).map (Krdn.sized D.f)) := by
    show KrdoNeutral.told (Krdk.list ((List.range (D.f.n + 1)).map (Krdn.sized D.f))) = _
    unfold KrdoNeutral.told Krdk.list
    simp
  rw [hQ]
  refine gb_setO 2 sc120.nd (gv_counts_of co hr (by decide) (gv_var 0) ⟨_, _, _, _, _, _, hD⟩) fun q H1 fq s1 hq1 => ?_
  refine gb_ret (Gv.to (gv_cat (xs := [.int ((D.f.n + 1 : Nat) : Int)]) (gv_lst (vs := [.int ((D.f.n + 1 : Nat) : Int)]) (ga_cons (Gv.is_to (gv_lenL B (gv_var 2) (.old (SqL.of hq1))) (by rw [szL_len])) ga_nil) (Nat.le_of_ble_eq_true rfl)) (gv_var 2) (.inr ⟨q, rfl, hq1⟩) (by rw [szL_len]; simp; omega)) ?_)
  rw [szL_ints]; rfl
/-! ### least_for -/
def vOpt : Option Nat → V
  | some a => .int (a : Nat)
  | none => .non
theorem find_first {N i : Nat} {p : Nat → Bool} (h : p i = true) (hi : i < N) (hf : ∀ a, a < i → p a = false) : (List.range N).find? p = some i := by
  rw [List.find?_eq_some_iff_getElem]
  refine ⟨h, i, by simpa using hi, by simp, fun j hj => ?_⟩
  simp
  exact hf j hj
theorem find_none {N : Nat} {p : Nat → Bool} (hf : ∀ a, a < N → p a = false) : (List.range N).find? p = none := by
  rw [List.find?_eq_none]
  intro x hx
  rw [hf x (List.mem_range.mp hx)]
  decide
/-- the least chance, in numbers -/
def lst (f : Krdk.Answer) (d u w : Nat) : Option Nat := (List.range (d + 1)).find? fun a => decide ((u : Int) * (d : Int) ^ f.n ≤ asum (sz f) f.n (a : Nat) (d : Nat) * (w : Int))
theorem lst_eq (f : Krdk.Answer) {d u w : Nat} (hd : 1 ≤ d) (hw : 1 ≤ w) : Krdn.least f d (Krdn.rat u w) = lst f d u w := by
  unfold Krdn.least lst
  congr 1
  funext a
  exact Mt.least_iff f hd (u := (u : Int)) (w := (w : Int)) (by omega) a
def pLeast (K : PySem.W.Frag) (vs : List V) (H : Hp) (k : Kd) : Prop := ∃ (c d u w : Nat) (f : Krdk.Answer), vs = [.ref c, .int (d : Nat), .int (u : Nat), .int (w : Nat)] ∧ SqL K H c (szL f) ∧ W f ∧ 1 ≤ d ∧ d ≤ 100 ∧ u ≤ 100 ∧ w ≤ 100 ∧ k = .is (vOpt (lst f d u w))
/-! ### least_for: 0:counts 1:lower 2:due 3:whole 4:certain 5:upper -/
theorem sc121 : FnScope ["counts", "lower", "due", "whole", "certain", "upper"] ["counts", "lower", "due", "whole"] (defScope (top 121)) := ⟨rfl, rfl, rfl, by decide +kernel, rfl, by decide +kernel, by decide +kernel⟩
theorem c_least_for (B : Bl mg) (cp : Cal P w K mg base 1 "power" (SpK pPower)) (cs : Cal P w K mg base 2 "all_set" (SpK (pAllSet K))) (Df : DefAt K mg "least_for" (top 121)) : Cal P w K mg base 3 "least_for" (SpK (pLeast K)) := by
  refine cal_pure (ps := ["counts", "lower", "due", "whole"]) Df sc121 (fun _ _ _ _ _ _ us hl => match us, hl with | [_, _, _, _], _ => rfl) (fun vs H k ⟨_, _, _, _, _, e, _⟩ => by rw [e]; rfl) fun f cdv A outer s H vs E k hr ⟨c, dn, un, wn, fa, e, hc, wf, hd1, hd2, hu2, hw2, ek⟩ => ?_
  subst e ek
  have hn := wf.n5
  have b3 : Lb (dn : Int) 7 := lb_nat (by omega)
  refine gb_set 4 sc121.nd (gv_power (n := fa.n) cp hr (by decide) (gv_var 1) (Gv.is_to (gv_sub (gv_lenL B (gv_var 0) (.old hc)) gv_int) (show V.int _ = V.int (fa.n : Int) by rw [szL_len]; congr 1; omega)) (b3.fifty (by decide)) (by omega)) ?_
  refine gb_forR (n := ((dn + 1 : Nat) : Int)) 5 rfl sc121.nd B.range (Gv.is_to (gv_add (gv_var 1) gv_int) (by simp)) (by omega) (fun i σ' => (∀ a, a < i → decide ((un : Int) * (dn : Int) ^ fa.n ≤ asum (sz fa) fa.n (a : Nat) (dn : Nat) * (wn : Int)) = false) ∧ ∃ x, σ' = [some (.ref c), some (.int (dn : Nat)), some (.int (un : Nat)), some (.int (wn : Nat)), some (.int ((dn : Int) ^ fa.n)), x]) ⟨fun a h => absurd h (Nat.not_lt_zero a), none, rfl⟩ ?_ ?_ PassesOwn.never
  · rintro i σ' hi ⟨hf, x0, rfl⟩
    have hi2 : i ≤ dn := by omega
    obtain ⟨b1, b2, _⟩ := up_lo (a := i) (b := dn) ⟨hd1, hd2, hi2⟩
    have ba := asum_b wf (b1.mono (by decide)) (b2.mono (by decide))
    refine gb_if (gt_ge (gv_mul (gv_all_set cs hr (by decide) (gv_var 0) (gv_var 5) (gv_var 1) hc wf (b1.mono (by decide)) (b2.mono (by decide))) (gv_var 3) (ba.cm (lb_nat (a := 7) (by omega)) (by decide))) (gv_mul (gv_var 2) (gv_var 4) ((lb_nat (a := 7) (by omega)).cm (b3.powm (m := 5) hn) (by decide)))) (fun h => ?_) (fun h => ?_)
    · have e : lst fa dn un wn = some i := find_first h (by omega) hf
      rw [e]
      exact gb_ret (gv_var 5)
    · refine gb_nil ⟨fun a ha => ?_, some (.int (i : Nat)), rfl⟩
      by_cases z : a < i
      · exact hf a z
      · have : a = i := by omega
        rw [this]; exact h
  · rintro σ' ⟨hf, x0, rfl⟩
    have e : lst fa dn un wn = none := find_none (fun a ha => hf a (by simpa using ha))
    rw [e]
    exact gb_ret gv_non
theorem gv_least_for {X : Cx} {σ : L2.St} {H : Hp} {j : Nat} {e1 e2 e3 e4 : Expr} {p pos : Pos} {c d u m : Nat} {f : Krdk.Answer} (cc : Cal X.prog X.w X.K X.mg X.base 3 "least_for" (SpK (pLeast X.K))) (hr : Room j X.A) (hj : 3 ≤ j) (h0 : Gv (cE X e1) σ H (.is (.ref c))) (h1 : Gv (cE X e2) σ H (.is (.int (d : Nat)))) (h2 : Gv (cE X e3) σ H (.is (.int (u : Nat)))) (h3 : Gv (cE X e4) σ H (.is (.int (m : Nat)))) (hc : SqL X.K H c (szL f)) (wf : W f) (hd : 1 ≤ d) (hd2 : d ≤ 100) (hu : u ≤ 100) (hm : m ≤ 100) (hg : Gl X "least_for" := by rfl)
    (hs0 : starEach [e1, e2, e3, e4] X.env = (false, eval e1 X.env) :: starEach [e2, e3, e4] X.env := by rfl) (hs1 : starEach [e2, e3, e4] X.env = (false, eval e2 X.env) :: starEach [e3, e4] X.env := by rfl) (hs2 : starEach [e3, e4] X.env = (false, eval e3 X.env) :: starEach [e4] X.env := by rfl) (hs3 : starEach [e4] X.env = (false, eval e4 X.env) :: starEach [] X.env := by rfl) (hpl : (backTo pos (starEach [e2, e3, e4] X.env)).any (·.1) = false := by rfl) :
    Gv (cE X (.Call (.Name "least_for" p) [e1, e2, e3, e4] [] pos)) σ H (.is (vOpt (lst f d u m))) :=
  gv_calv (us := [.ref c, .int (d : Nat), .int (u : Nat), .int (m : Nat)]) cc hr hj (ga_cons h0 (ga_cons h1 (ga_cons h2 (ga_cons h3 ga_nil hs3) hs2) hs1) hs0) (fun _ s => ⟨c, d, u, m, f, rfl, same_l s hc, wf, hd, hd2, hu, hm, rfl⟩) hg (by decide) hs0 hpl
theorem lowOk {x : Nat} : (!(decide (1 ≤ x) && decide (x ≤ 100))) = (decide (x = 0) || decide (100 < x)) := by
  rw [Bool.eq_iff_iff]
  simp
  try omega
theorem lowOk_of {x : Nat} (h : (decide (x = 0) || decide (100 < x)) = false) : 1 ≤ x ∧ x ≤ 100 := by
  simp at h
  omega
/-! ### tell_half: 0:desk 1:given 2:lower 3:least -/
theorem sc122 : FnScope ["desk", "given", "lower", "least"] ["desk", "given"] (defScope (top 122)) := ⟨rfl, rfl, rfl, by decide +kernel, rfl, by decide +kernel, by decide +kernel⟩
theorem c_tell_half (T : ClD K C) (B : Bl mg) (Z : Ct mg) (Df : DefAt K mg "tell_half" (top 122)) (cr : Cal P w K mg base 1 "refused" (SpK pRefused)) (cl : Cal P w K mg base 1 "lower_right" (SpK pLR)) (co : Cal P w K mg base 3 "counts_of" (SpK (pCountsOf K C))) (cf : Cal P w K mg base 3 "least_for" (SpK (pLeast K))) : Cal P w K mg base 4 "tell_half" (SpK (pTell K C 44 1 0)) := by
  refine cal_pure (ps := ["desk", "given"]) Df sc122 (fun _ _ _ _ _ _ us hl => match us, hl with | [_, _], _ => rfl) (fun vs H k ⟨_, _, _, _, _, e, _⟩ => by rw [e]; rfl) fun f cdv A outer s H vs E k hr ⟨d, g, D, xs, rs, e, ⟨dx, ad, cd, sd, ld, sh, hD⟩, hG, hx, hrs, ok, okr, ek⟩ => ?_
  obtain ⟨x, rfl, hxm⟩ := one_num hx ok
  obtain rfl := nil_of hrs
  have hq := hG.nums
  subst e ek
  have wf := hD.w
  have hQ : ansP 44 D [(x : Int)] [] = KrdoNeutral.told (if x = 0 || decide (100 < x) then Krdk.say (-22) else match Krdn.least D.f x (1 / 2) with
    | none => Krdk.say (-33)
    | some a => Krdk.nat a) := rfl
  rw [hQ]
  refine gb_set 2 sc122.nd (gv_at (gv_var 1) hq rfl (by decide)) (gb_if (Gt.to (gt_not (gt_val (gv_lower_right cl hr (by decide) (gv_var 2)))) lowOk) (fun h => ?_) (fun h => ?_))
  · rw [if_pos h]
    exact gb_ret (gv_ref cr hr (by decide) Z.notRight)
  · rw [if_neg (by rw [h]; decide)]
    have hx := lowOk_of h
    have e2 : (1 / 2 : Rat) = Krdn.rat 1 2 := by
      unfold Krdn.rat
      have a1 : ((1 : Nat) : Rat) = 1 := rfl
      have a2 : ((2 : Nat) : Rat) = 2 := rfl
      rw [a1, a2]
    rw [e2, lst_eq D.f hx.1 (by decide)]
    refine gb_set (v := vOpt (lst D.f x 1 2)) 3 sc122.nd (gv_calk cf hr (by decide) (ga_cons (gv_counts_of co hr (by decide) (gv_var 0) ⟨_, _, _, _, _, _, hD⟩) (ga_cons (gv_var 2) (ga_cons gv_int (ga_cons gv_int ga_nil)))) (fun vs H1 s1 z => ?_)) ?_
    · obtain ⟨v1, r1, rfl, ⟨q, rfl, hq1⟩, v2, r2, rfl, e2', v3, r3, rfl, e3', v4, r4, rfl, e4', rfl⟩ := z
      obtain rfl : v2 = .int (x : Nat) := e2'
      obtain rfl : v3 = .int 1 := e3'
      obtain rfl : v4 = .int 2 := e4'
      exact ⟨q, x, 1, 2, D.f, rfl, SqL.of hq1, wf, hx.1, hx.2, by decide, by decide, rfl⟩
    · cases lst D.f x 1 2 with
      | none =>
        refine gb_if (d := true) (Gt.to (gt_isN (gv_var 3) gv_non) rfl) (fun _ => gb_ret (gv_ref cr hr (by decide) Z.noneFound)) (fun h => by cases h)
      | some a =>
        refine gb_if (d := false) (Gt.to (gt_isN (gv_var 3) gv_non) rfl) (fun h => by cases h) (fun _ => gb_ret (gv_lst (vs := [.int (a : Nat)]) (ga_cons (gv_var 3) ga_nil) (Nat.le_of_ble_eq_true rfl)))
/-! ### width -/
theorem u4_go {K : PySem.W.Frag} {i j k m g : Nat} {u x y z : V} {σ : L2.St} {H : Hp} {Qg : L2.St → Hp → Prop} (h : SqL K H g [u, x, y, z]) (q : Qg ((((σ.set i (some u)).set j (some x)).set k (some y)).set m (some z)) H) : gUnl K 4 (gCons (gName i) (gCons (gName j) (gCons (gName k) (gCons (gName m) gNil)))) (.ref g) σ H Qg :=
  ⟨g, [u, x, y, z], rfl, h, rfl, u, [x, y, z], rfl, x, [y, z], rfl, y, [z], rfl, z, [], rfl, rfl, q⟩
theorem gt_and4 {X : Cx} {σ : L2.St} {H : Hp} {a b c e : Expr} {pos : Pos} {d1 d2 d3 d4 : Bool} (ha : Gt (cT X a) σ H d1) (hb : Gt (cT X b) σ H d2) (hc : Gt (cT X c) σ H d3) (hd : Gt (cT X e) σ H d4) : Gt (cT X (.BoolOp .And [a, b, c, e] pos)) σ H (d1 && (d2 && (d3 && d4))) := gt_w (gw_and ha fun _ => gw_and hb fun _ => gw_and hc fun _ => gw_and1 hd)
/-! ### tell_width: 0:desk 1:given 2:lower 3:low 4:high 5:whole 6:counts 7:start 8:end -/
theorem sc123 : FnScope ["desk", "given", "lower", "low", "high", "whole", "counts", "start", "end"] ["desk", "given"] (defScope (top 123)) := ⟨rfl, rfl, rfl, by decide +kernel, rfl, by decide +kernel, by decide +kernel⟩
theorem c_tell_width (T : ClD K C) (B : Bl mg) (Z : Ct mg) (Df : DefAt K mg "tell_width" (top 123)) (cr : Cal P w K mg base 1 "refused" (SpK pRefused)) (cl : Cal P w K mg base 1 "lower_right" (SpK pLR)) (cc : Cal P w K mg base 2 "chance_right_rises" (SpK pCR)) (co : Cal P w K mg base 3 "counts_of" (SpK (pCountsOf K C))) (cf : Cal P w K mg base 3 "least_for" (SpK (pLeast K))) : Cal P w K mg base 4 "tell_width" (SpK (pTell K C 45 4 0)) := by
  refine cal_pure (ps := ["desk", "given"]) Df sc123 (fun _ _ _ _ _ _ us hl => match us, hl with | [_, _], _ => rfl) (fun vs H k ⟨_, _, _, _, _, e, _⟩ => by rw [e]; rfl) fun f cdv A outer s H vs E k hr ⟨d, g, D, xs, rs, e, ⟨dx, ad, cd, sd, ld, sh, hD⟩, hG, hx, hrs, ok, okr, ek⟩ => ?_
  obtain ⟨x, y, z, u, rfl, hxm, hym, hzm, hum⟩ := four_num hx ok
  obtain rfl := nil_of hrs
  have hq := hG.nums
  subst e ek
  have wf := hD.w
  have hQ : ansP 45 D [(x : Int), (y : Int), (z : Int), (u : Int)] [] = KrdoNeutral.told (if x = 0 || decide (100 < x) || !Krdn.partOk y u || !Krdn.partOk z u || decide (z < y) then Krdk.say (-22) else match Krdn.least D.f x (Krdn.rat y u), Krdn.least D.f x (Krdn.rat z u) with
    | some a, some b => { num := (b : Int) - (a : Int), nums := Krdk.ints [a, b] }
    | _, _ => Krdk.say (-33)) := rfl
  rw [hQ]
  refine gb_asg (pg_unl (n := 4) rfl (pgs_cons (pg_name (i := 2) sc123.nd rfl (Or.inl rfl)) (pgs_cons (pg_name (i := 3) sc123.nd rfl (Or.inl rfl)) (pgs_cons (pg_name (i := 4) sc123.nd rfl (Or.inl rfl)) (pgs_cons (pg_name (i := 5) sc123.nd rfl (Or.inl rfl)) pgs_nil))))) (gv_var 1) fun w1 H1 H2 s1 s2 ew => ?_
  obtain rfl : w1 = .ref g := ew
  refine ⟨_, fun Qg q => u4_go (same_l (s1.trans s2) hq) q, ?_⟩
  have hD := hD.same (s1.trans s2)
  have eb : (!((decide (1 ≤ x) && decide (x ≤ 100)) && (Krdn.partOk y u && (Krdn.partOk z u && decide ((y : Int) ≤ (z : Int)))))) = (x = 0 || decide (100 < x) || !Krdn.partOk y u || !Krdn.partOk z u || decide (z < y)) := by
    rw [dle, Bool.not_and, lowOk, Bool.not_and, Bool.not_and]
    have : (!decide (y ≤ z)) = decide (z < y) := by rw [Bool.eq_iff_iff]; simp
    rw [this, Bool.or_assoc, Bool.or_assoc, Bool.or_assoc, Bool.or_assoc]
  refine gb_if (Gt.to (gt_not (gt_and4 (gt_val (gv_lower_right cl hr (by decide) (gv_var 2))) (gt_val (gv_chance_right_rises cc hr (by decide) (gv_var 3) (gv_var 5))) (gt_val (gv_chance_right_rises cc hr (by decide) (gv_var 4) (gv_var 5))) (gt_le (gv_var 3) (gv_var 4)))) eb) (fun h => ?_) (fun h => ?_)
  · rw [if_pos h]
    exact gb_ret (gv_ref cr hr (by decide) Z.notRight)
  · rw [if_neg (by rw [h]; decide)]
    obtain ⟨h', h5⟩ := Bool.or_eq_false_iff.mp h
    obtain ⟨h', h4⟩ := Bool.or_eq_false_iff.mp h'
    obtain ⟨h', h3⟩ := Bool.or_eq_false_iff.mp h'
    have hx := lowOk_of h'
    have p1 := partOk_of (by simpa using h3)
    have p2 := partOk_of (by simpa using h4)
    rw [lst_eq D.f hx.1 p1.1, lst_eq D.f hx.1 p1.1]
    refine gb_setO 6 sc123.nd (gv_counts_of co hr (by decide) (gv_var 0) ⟨_, _, _, _, _, _, hD⟩) fun q H3 fq s3 hq3 => ?_
    refine gb_set 7 sc123.nd (gv_least_for cf hr (by decide) (gv_var 6) (gv_var 2) (gv_var 3) (gv_var 5) (SqL.of hq3) wf hx.1 hx.2 (by omega) (by omega)) ?_
    refine gb_set 8 sc123.nd (gv_least_for cf hr (by decide) (gv_var 6) (gv_var 2) (gv_var 4) (gv_var 5) (SqL.of hq3) wf hx.1 hx.2 (by omega) (by omega)) ?_
    cases lst D.f x y u with
    | none => exact gb_if (d := true) (Gt.to (gt_or2 (d1 := true) (d2 := true) (Gt.to (gt_isN (gv_var 7) gv_non) rfl) (fun h => by cases h)) rfl) (fun _ => gb_ret (gv_ref cr hr (by decide) Z.noneFound)) (fun h => by cases h)
    | some a =>
      cases lst D.f x z u with
      | none => exact gb_if (d := true) (Gt.to (gt_or2 (d1 := false) (d2 := true) (Gt.to (gt_isN (gv_var 7) gv_non) rfl) (fun h => Gt.to (gt_isN (gv_var 8) gv_non) rfl)) rfl) (fun _ => gb_ret (gv_ref cr hr (by decide) Z.noneFound)) (fun h => by cases h)
      | some b => exact gb_if (d := false) (Gt.to (gt_or2 (d1 := false) (d2 := false) (Gt.to (gt_isN (gv_var 7) gv_non) rfl) (fun h => Gt.to (gt_isN (gv_var 8) gv_non) rfl)) rfl) (fun h => by cases h) (fun _ => gb_ret (gv_lst (vs := [.int ((b : Int) - (a : Int)), .int (a : Nat), .int (b : Nat)]) (ga_cons (gv_sub (gv_var 8) (gv_var 7)) (ga_cons (gv_var 7) (ga_cons (gv_var 8) ga_nil))) (Nat.le_of_ble_eq_true rfl)))
end
end Sw
set_option Elab.async false
set_option linter.all false
set_option maxRecDepth 100000
set_option maxHeartbeats 2000000
set_option exponentiation.threshold 3000
namespace Sw
open PySem PySem.Spec PyProof.Rows L2 Kx
open Evl (given given_yes given_no given_len)
open Mt (W S swc pt)
section
variable {P : Program} {w : World} {K : PySem.W.Frag} {mg : Str → Option Value} {base : Heap} {C : Addr}
open Mt (asum sz fastT fsum cnt)
theorem pow100 {x : Int} (h : x.natAbs ≤ 100) {n m : Nat} (l : n ≤ m) : (x ^ n).natAbs ≤ 100 ^ m := by
  rw [Int.natAbs_pow]
  exact Nat.le_trans (Nat.pow_le_pow_left h n) (Nat.pow_le_pow_right (by decide) l)
theorem asum_s {f : Krdk.Answer} (wf : W f) {u l : Int} (hu : u.natAbs ≤ 100) (hl : (l - u).natAbs ≤ 100) : (asum (sz f) f.n u l).natAbs ≤ 1920000000000 := by
  have hn := wf.n5
  have h1 := sum_abs (m := 320000000000) (l := (List.range (f.n + 1)).map fun k => sz f k * cnt f.n u l k) (by
    intro x hx
    obtain ⟨k, hk, rfl⟩ := List.mem_map.mp hx
    have hk2 : k ≤ f.n := by have := List.mem_range.mp hk; omega
    have h2 : (cnt f.n u l k).natAbs ≤ 10000000000 := by
      unfold Mt.cnt
      rw [Int.natAbs_mul]
      have a1 := pow100 hu (Nat.le_refl k)
      have a2 := pow100 hl (Nat.le_refl (f.n - k))
      have a3 := Nat.mul_le_mul a1 a2
      rw [← Nat.pow_add] at a3
      have e : k + (f.n - k) = f.n := by omega
      rw [e] at a3
      exact Nat.le_trans a3 (Nat.le_trans (Nat.pow_le_pow_right (by decide) hn) (by decide))
    have h3 := small_mul (sz_le wf k) h2
    omega)
  have e : ((List.range (f.n + 1)).map fun k => sz f k * cnt f.n u l k).length ≤ 6 := by simp; omega
  exact Nat.le_trans h1 (Nat.mul_le_mul_right 320000000000 e)
/-! ### once -/
def pOnce (vs : List V) (_ : Hp) (k : Kd) : Prop := ∃ (a c : Int) (t : Nat), vs = [.int a, .int c, .int (t : Nat)] ∧ c.natAbs < 2 ^ 50 ∧ (c - a).natAbs < 2 ^ 50 ∧ t ≤ 6 ∧ k = .ob (.lst [.int (c ^ t - (c - a) ^ t), .int (c ^ t)])
/-! ### once: 0:likely 1:certain 2:times 3:all_times -/
theorem sc124 : FnScope ["likely", "certain", "times", "all_times"] ["likely", "certain", "times"] (defScope (top 124)) := ⟨rfl, rfl, rfl, by decide +kernel, rfl, by decide +kernel, by decide +kernel⟩
theorem c_once (cp : Cal P w K mg base 1 "power" (SpK pPower)) (Df : DefAt K mg "once" (top 124)) : Cal P w K mg base 2 "once" (SpK (pOnce)) := by
  refine cal_pure (ps := ["likely", "certain", "times"]) Df sc124 (fun _ _ _ _ _ _ us hl => match us, hl with | [_, _, _], _ => rfl) (fun vs H k ⟨_, _, _, e, _⟩ => by rw [e]; rfl) fun f cdv A outer s H vs E k hr ⟨a, c, t, e, hc, ha, ht, ek⟩ => ?_
  subst e ek
  refine gb_set 3 sc124.nd (gv_power cp hr (by decide) (gv_var 1) (gv_var 2) hc (by omega)) ?_
  exact gb_ret (gv_lst (vs := [.int _, .int _]) (ga_cons (gv_sub (gv_var 3) (gv_power cp hr (by decide) (gv_sub (gv_var 1) (gv_var 0)) (gv_var 2) ha (by omega))) (ga_cons (gv_var 3) ga_nil)) (Nat.le_of_ble_eq_true rfl))
theorem gv_once {X : Cx} {σ : L2.St} {H : Hp} {j : Nat} {e1 e2 e3 : Expr} {p pos : Pos} {a c : Int} {t : Nat} (cc : Cal X.prog X.w X.K X.mg X.base 2 "once" (SpK (pOnce))) (hr : Room j X.A) (hj : 2 ≤ j) (h0 : Gv (cE X e1) σ H (.is (.int a))) (h1 : Gv (cE X e2) σ H (.is (.int c))) (h2 : Gv (cE X e3) σ H (.is (.int (t : Nat)))) (hc : c.natAbs < 2 ^ 50) (ha : (c - a).natAbs < 2 ^ 50) (ht : t ≤ 6) (hg : Gl X "once" := by rfl)
    (hs0 : starEach [e1, e2, e3] X.env = (false, eval e1 X.env) :: starEach [e2, e3] X.env := by rfl) (hs1 : starEach [e2, e3] X.env = (false, eval e2 X.env) :: starEach [e3] X.env := by rfl) (hs2 : starEach [e3] X.env = (false, eval e3 X.env) :: starEach [] X.env := by rfl) (hpl : (backTo pos (starEach [e2, e3] X.env)).any (·.1) = false := by rfl) :
    Gv (cE X (.Call (.Name "once" p) [e1, e2, e3] [] pos)) σ H (.ob (.lst [.int (c ^ t - (c - a) ^ t), .int (c ^ t)])) :=
  gv_calv (us := [.int a, .int c, .int (t : Nat)]) cc hr hj (ga_cons h0 (ga_cons h1 (ga_cons h2 ga_nil hs2) hs1) hs0) (fun _ s => ⟨a, c, t, rfl, hc, ha, ht, rfl⟩) hg (by decide) hs0 hpl
theorem once_yes (f : Krdk.Answer) {a b k : Nat} (h : 1 ≤ b) : Krdk.fr (Krdn.yesAt f (Krdn.once (Krdn.rat a b) k)) = Mt.low (asum (sz f) f.n ((b : Int) ^ k - ((b : Int) - (a : Int)) ^ k) ((b : Int) ^ k)) (((b : Int) ^ k) ^ f.n) := by
  have e := Mt.once_eq (u := (a : Int)) (l := (b : Int)) (nat_rat h) k
  have e1 : Krdn.once (Krdn.rat a b) k = Krdn.once (((a : Int) : Rat) / ((b : Int) : Rat)) k := rfl
  rw [e1, e]
  refine (Mt.low_yes f ?_).symm
  have := Mt.posR (bp h k)
  grind
theorem yes_once (f : Krdk.Answer) {a b k : Nat} (h : 1 ≤ b) : Krdk.fr (Krdn.once (Krdn.yesAt f (Krdn.rat a b)) k) = Mt.low (((b : Int) ^ f.n) ^ k - ((b : Int) ^ f.n - asum (sz f) f.n (a : Int) (b : Int)) ^ k) (((b : Int) ^ f.n) ^ k) := by
  have e := Mt.yesAt_eq (f := f) (u := (a : Int)) (l := (b : Int)) (nat_rat h)
  have e1 : Krdn.yesAt f (Krdn.rat a b) = Krdn.yesAt f (((a : Int) : Rat) / ((b : Int) : Rat)) := rfl
  rw [e1, e, ← Mt.ipow]
  have hp := Mt.posR (bp h f.n)
  rw [Mt.once_eq (by grind) k]
  rfl
/-! ### tell_tries: 0:desk 1:given 2:upper 3:lower 4:times 5:counts 6:each_upper 7:each_lower 8:each 9:anew_upper 10:anew_lower -/
theorem sc125 : FnScope ["desk", "given", "upper", "lower", "times", "counts", "each_upper", "each_lower", "each", "anew_upper", "anew_lower"] ["desk", "given"] (defScope (top 125)) := ⟨rfl, rfl, rfl, by decide +kernel, rfl, by decide +kernel, by decide +kernel⟩
theorem c_tell_tries (T : ClD K C) (B : Bl mg) (Z : Ct mg) (Df : DefAt K mg "tell_tries" (top 125)) (cr : Cal P w K mg base 1 "refused" (SpK pRefused)) (cl : Cal P w K mg base 1 "lowest" (SpK pLow)) (cp : Cal P w K mg base 1 "power" (SpK pPower)) (cc : Cal P w K mg base 2 "chance_right_rises" (SpK pCR)) (co : Cal P w K mg base 3 "counts_of" (SpK (pCountsOf K C))) (cs : Cal P w K mg base 2 "all_set" (SpK (pAllSet K))) (cn : Cal P w K mg base 2 "once" (SpK pOnce)) : Cal P w K mg base 4 "tell_tries" (SpK (pTell K C 46 3 0)) := by
  refine cal_pure (ps := ["desk", "given"]) Df sc125 (fun _ _ _ _ _ _ us hl => match us, hl with | [_, _], _ => rfl) (fun vs H k ⟨_, _, _, _, _, e, _⟩ => by rw [e]; rfl) fun f cdv A outer s H vs E k hr ⟨d, g, D, xs, rs, e, ⟨dx, ad, cd, sd, ld, sh, hD⟩, hG, hx, hrs, ok, okr, ek⟩ => ?_
  obtain ⟨x, y, z, rfl, hxm, hym, hzm⟩ := three_num hx ok
  obtain rfl := nil_of hrs
  have hq := hG.nums
  subst e ek
  have wf := hD.w
  have hn := wf.n5
  have hQ : ansP 46 D [(x : Int), (y : Int), (z : Int)] [] = KrdoNeutral.told (if !Krdn.partOk x y || z = 0 || decide (6 < z) then Krdk.say (-22) else { num := 0, nums := Krdk.fr (Krdn.yesAt D.f (Krdn.once (Krdn.rat x y) z)) ++ Krdk.fr (Krdn.once (Krdn.yesAt D.f (Krdn.rat x y)) z) }) := rfl
  rw [hQ]
  refine gb_asg (pg_unl (n := 3) rfl (pgs_cons (pg_name (i := 2) sc125.nd rfl (Or.inl rfl)) (pgs_cons (pg_name (i := 3) sc125.nd rfl (Or.inl rfl)) (pgs_cons (pg_name (i := 4) sc125.nd rfl (Or.inl rfl)) pgs_nil)))) (gv_var 1) fun w1 H1 H2 s1 s2 ew => ?_
  obtain rfl : w1 = .ref g := ew
  refine ⟨_, fun Qg q => u3_go (same_l (s1.trans s2) hq) q, ?_⟩
  have hD := hD.same (s1.trans s2)
  have eb : (!Krdn.partOk x y || (decide ((z : Int) < 1) || decide ((6 : Int) < (z : Int)))) = (!Krdn.partOk x y || decide (z = 0) || decide (6 < z)) := by
    have a1 : decide ((z : Int) < 1) = decide (z = 0) := by rw [Bool.eq_iff_iff]; simp; omega
    have a2 : decide ((6 : Int) < (z : Int)) = decide (6 < z) := dlt 6 z
    rw [a1, a2, Bool.or_assoc]
  refine gb_if (Gt.to (gt_or3 (gt_not (gt_val (gv_chance_right_rises cc hr (by decide) (gv_var 2) (gv_var 3)))) (fun _ => gt_lt (gv_var 4) gv_int) (fun _ _ => gt_gt (gv_var 4) (gv_glo Z.mostTries))) eb) (fun h => ?_) (fun h => ?_)
  · rw [if_pos h]
    exact gb_ret (gv_ref cr hr (by decide) Z.notRight)
  · rw [if_neg (by rw [h]; decide)]
    obtain ⟨h', h5⟩ := Bool.or_eq_false_iff.mp h
    obtain ⟨h', h4⟩ := Bool.or_eq_false_iff.mp h'
    have hp := partOk_of (by simpa using h')
    have hz : 1 ≤ z ∧ z ≤ 6 := by simp at h4 h5; omega
    obtain ⟨b1, b2, b3⟩ := up_lo hp
    have c1 : ((y : Int) ^ z).natAbs ≤ 1000000000000 := pow100 (x := (y : Int)) (m := 6) (by omega) hz.2
    have c2 : (((y : Int) - (x : Int)) ^ z).natAbs ≤ 1000000000000 := pow100 (x := (y : Int) - (x : Int)) (m := 6) (by omega) hz.2
    have d1 : Lb ((y : Int) ^ z) 41 := by unfold Lb; omega
    have d2 : Lb ((y : Int) ^ z - ((y : Int) - (x : Int)) ^ z) 41 := by unfold Lb; omega
    have d3 : Lb ((y : Int) ^ z - ((y : Int) ^ z - ((y : Int) - (x : Int)) ^ z)) 41 := by unfold Lb; omega
    have a1 := asum_b wf d2 d3
    have a2 := asum_s wf (u := (x : Int)) (l := (y : Int)) (by omega) (by omega)
    have a3 : ((y : Int) ^ D.f.n).natAbs ≤ 10000000000 := pow100 (x := (y : Int)) (m := 5) (by omega) hn
    have a4 : Lb ((y : Int) ^ D.f.n - asum (sz D.f) D.f.n (x : Int) (y : Int)) 41 := by unfold Lb; omega
    have a5 : Lb ((y : Int) ^ D.f.n) 41 := by unfold Lb; omega
    have a6 : Lb (((y : Int) ^ D.f.n) ^ z - ((y : Int) ^ D.f.n - asum (sz D.f) D.f.n (x : Int) (y : Int)) ^ z) 247 := Lb.sub (a5.powm (m := 6) hz.2) (a4.powm (m := 6) hz.2)
    refine gb_setO 5 sc125.nd (gv_counts_of co hr (by decide) (gv_var 0) ⟨_, _, _, _, _, _, hD⟩) fun q H3 fq s3 hq3 => ?_
    have hD := hD.same s3
    refine gb_asg (pu2 6 7 rfl sc125.nd) (gv_once cn hr (by decide) (gv_var 2) (gv_var 3) (gv_var 4) (b3.fifty (by decide)) (b2.fifty (by decide)) hz.2) fun w2 H4 H5 s4 s5 ⟨q2, ew2, fq2, hq2⟩ => ?_
    subst ew2
    refine ⟨_, fun Qg q => u2_go (SqL.of hq2) q, ?_⟩
    have hD := hD.same (s4.trans s5)
    have hq3 := same_l (s4.trans s5) (K := K) (SqL.of hq3)
    refine gb_setO 8 sc125.nd (gv_low (u := asum (sz D.f) D.f.n ((y : Int) ^ z - ((y : Int) - (x : Int)) ^ z) ((y : Int) ^ z)) (l := ((y : Int) ^ z) ^ D.f.n) cl hr (by decide) (gv_all_set cs hr (by decide) (gv_var 5) (gv_var 6) (gv_var 7) hq3 wf d2 d3) (gv_power cp hr (by decide) (gv_var 7) (gv_bitsD T (gv_var 0) hD) (d1.fifty (by decide)) (by omega)) (Int.pow_pos (bp hp.1 z)) (a1.big (by decide)) ((d1.powm (m := 5) hn).big (by decide))) fun q4 H6 fq4 s6 hq4 => ?_
    have hD := hD.same s6
    have hq3 := same_l s6 hq3
    refine gb_asg (pu2 9 10 rfl sc125.nd) (gv_once (a := asum (sz D.f) D.f.n (x : Int) (y : Int)) (c := (y : Int) ^ D.f.n) cn hr (by decide) (gv_all_set cs hr (by decide) (gv_var 5) (gv_var 2) (gv_var 3) hq3 wf (b1.mono (by decide)) (b2.mono (by decide))) (gv_power cp hr (by decide) (gv_var 3) (gv_bitsD T (gv_var 0) hD) (b3.fifty (by decide)) (by omega)) (gv_var 4) (a5.fifty (by decide)) (a4.fifty (by decide)) hz.2) fun w3 H7 H8 s7 s8 ⟨q6, ew3, fq6, hq6⟩ => ?_
    subst ew3
    refine ⟨_, fun Qg q => u2_go (SqL.of hq6) q, ?_⟩
    have hq4 := (s7.trans s8) _ _ hq4
    refine gb_ret (Gv.to (gv_cat (gv_cat (xs := [.int 0]) (gv_lst (vs := [.int 0]) (ga_cons gv_int ga_nil) (Nat.le_of_ble_eq_true rfl)) (gv_var 8) (.inr ⟨q4, rfl, hq4⟩) (Nat.le_of_ble_eq_true rfl)) (gv_low cl hr (by decide) (gv_var 9) (gv_var 10) (Int.pow_pos (bp hp.1 _)) (a6.big (by decide)) ((a5.powm (m := 6) hz.2).big (by decide))) (.inl rfl) (Nat.le_of_ble_eq_true rfl)) ?_)
    rw [once_yes D.f hp.1, yes_once D.f hp.1]
    rfl
theorem slope_fn {f : Krdk.Answer} (hn : 1 ≤ f.n) {d : Nat} (h : 1 ≤ d) : (fun a => Krdn.slope f (Krdn.rat a d)) = fun a => ((fsum (sz f) f.n (a : Nat) (d : Nat) : Int) : Rat) / ((d : Int) : Rat) ^ (f.n - 1) := funext fun a => Mt.slope_eq (f := f) (u := (a : Int)) (l := (d : Int)) (nat_rat h) hn
/-! ### tell_steepest: 0:desk 1:given 2:lower 3:counts 4:rises 5:upper 6:fastest -/
theorem sc126 : FnScope ["desk", "given", "lower", "counts", "rises", "upper", "fastest"] ["desk", "given"] (defScope (top 126)) := ⟨rfl, rfl, rfl, by decide +kernel, rfl, by decide +kernel, by decide +kernel⟩
theorem c_tell_steepest (T : ClD K C) (B : Bl mg) (Z : Ct mg) (Df : DefAt K mg "tell_steepest" (top 126)) (cr : Cal P w K mg base 1 "refused" (SpK pRefused)) (cl : Cal P w K mg base 1 "lowest" (SpK pLow)) (cp : Cal P w K mg base 1 "power" (SpK pPower)) (cc : Cal P w K mg base 1 "lower_right" (SpK pLR)) (co : Cal P w K mg base 3 "counts_of" (SpK (pCountsOf K C))) (cf : Cal P w K mg base 2 "fast" (SpK (pFast K))) : Cal P w K mg base 4 "tell_steepest" (SpK (pTell K C 47 1 0)) := by
  refine cal_pure (ps := ["desk", "given"]) Df sc126 (fun _ _ _ _ _ _ us hl => match us, hl with | [_, _], _ => rfl) (fun vs H k ⟨_, _, _, _, _, e, _⟩ => by rw [e]; rfl) fun f cdv A outer s H vs E k hr ⟨d, g, D, xs, rs, e, ⟨dx, ad, cd, sd, ld, sh, hD⟩, hG, hx, hrs, ok, okr, ek⟩ => ?_
  obtain ⟨x, rfl, hxm⟩ := one_num hx ok
  obtain rfl := nil_of hrs
  have hq := hG.nums
  subst e ek
  have wf := hD.w
  have hn := wf.n5
  have hn1 := wf.n1
  have hQ : ansP 47 D [(x : Int)] [] = KrdoNeutral.told (if x = 0 || decide (100 < x) then Krdk.say (-22) else let m := (List.range (x + 1)).foldl (fun (m : Nat) a => if (fun a => Krdn.slope D.f (Krdn.rat a x)) m < (fun a => Krdn.slope D.f (Krdn.rat a x)) a then a else m) 0
      { num := m, nums := Krdk.fr (Krdn.slope D.f (Krdn.rat m x)) }) := rfl
  rw [hQ]
  refine gb_set 2 sc126.nd (gv_at (gv_var 1) hq rfl (by decide)) (gb_if (Gt.to (gt_not (gt_val (gv_lower_right cc hr (by decide) (gv_var 2)))) lowOk) (fun h => ?_) (fun h => ?_))
  · rw [if_pos h]
    exact gb_ret (gv_ref cr hr (by decide) Z.notRight)
  · rw [if_neg (by rw [h]; decide)]
    have hx := lowOk_of h
    have hne : (List.range (x + 1)).map (fun a => fsum (sz D.f) D.f.n (a : Nat) (x : Nat)) ≠ [] := by
      intro z
      have z2 := congrArg List.length z
      simp at z2
    obtain ⟨m, hm⟩ := max_ex hne
    obtain ⟨j, hj, hf⟩ := first_ix hm.mem
    have hpx := Mt.ppos (l := (x : Int)) (by omega) (D.f.n - 1)
    obtain ⟨e1, e2, e3⟩ := Mt.amax_list hpx hj hm.le hf
    have b3 : Lb (x : Int) 7 := lb_nat (by omega)
    have fb : ∀ a, a ≤ x → Lb (fsum (sz D.f) D.f.n (a : Nat) (x : Nat)) 82 := fun a ha => fsum_b wf (up_lo (a := a) (b := x) ⟨hx.1, hx.2, ha⟩).1 (up_lo (a := a) (b := x) ⟨hx.1, hx.2, ha⟩).2.1
    have em : (List.range (x + 1)).foldl (fun (m : Nat) a => if (fun a => Krdn.slope D.f (Krdn.rat a x)) m < (fun a => Krdn.slope D.f (Krdn.rat a x)) a then a else m) 0 = j := by
      rw [slope_fn hn1 hx.1]
      exact e1
    have hb : Lb m 82 := by rw [e2]; exact fb j (by omega)
    refine gb_setO 3 sc126.nd (gv_counts_of co hr (by decide) (gv_var 0) ⟨_, _, _, _, _, _, hD⟩) fun q H3 fq s3 hq3 => ?_
    have hD := hD.same s3
    refine gb_lcX 4 rfl sc126.nd (LcR.to (lc_R (N := ((x + 1 : Nat) : Int)) 5 B.range (Gv.is_to (gv_add (gv_var 2) gv_int) (by simp)) (by omega) (blkOk_by (own := [("upper", 5)]) (N := ["desk", "given", "lower", "counts", "rises", "upper", "fastest"]) (sc := defScope (top 126)) (by decide +kernel)) (fun _ _ _ _ _ => pg_name (i := 5) sc126.nd rfl (Or.inl rfl)) (fun _ _ _ _ _ => pts_nil)
      (fun _ => true) (fun a => .int (fsum (sz D.f) D.f.n (a : Nat) (x : Nat))) (fun _ => rfl) (fun _ _ => gt_yes) (fun a ha _ => gv_cF fun _ _ _ _ _ => gv_fast cf hr (by decide) (gv_var 3) (gv_var 5) (gv_var 2) (SqL.of hq3) wf (up_lo (a := a) (b := x) ⟨hx.1, hx.2, by omega⟩).1 (up_lo (a := a) (b := x) ⟨hx.1, hx.2, by omega⟩).2.1)) (by rw [given_all, Int.toNat_natCast, mapV])) fun q2 H4 fq2 s4 hq4 => ?_
    have hD := hD.same s4
    refine gb_set 6 sc126.nd (gv_max rfl B (gv_var 4) (.old (SqL.of hq4)) hm) ?_
    refine gb_ret (Gv.to (gv_head (gv_index (gv_var 4) (SqL.of hq4) (gv_var 6) hj hf) (gv_low cl hr (by decide) (gv_var 6) (gv_power (n := D.f.n - 1) cp hr (by decide) (gv_var 2) (Gv.is_to (gv_sub (gv_bitsD T (gv_var 0) hD) gv_int) (by congr 1; omega)) (b3.fifty (by decide)) (by omega)) (bp hx.1 _) (hb.big (by decide)) ((b3.powm (m := 5) (by omega)).big (by decide))) (by rw [low_len]; decide)) ?_)
    show _ = Kd.ob (.lst ((KrdoNeutral.told { num := (((List.range (x + 1)).foldl (fun (m : Nat) a => if (fun a => Krdn.slope D.f (Krdn.rat a x)) m < (fun a => Krdn.slope D.f (Krdn.rat a x)) a then a else m) 0 : Nat) : Int), nums := Krdk.fr (Krdn.slope D.f (Krdn.rat ((List.range (x + 1)).foldl (fun (m : Nat) a => if (fun a => Krdn.slope D.f (Krdn.rat a x)) m < (fun a => Krdn.slope D.f (Krdn.rat a x)) a then a else m) 0) x)) }).map .int))
    rw [em, ← low_slopeN hn1 hx.1, ← e2]
    rfl
theorem told_list (l : List Nat) : KrdoNeutral.told (Krdk.list l) = ((l.length : Nat) : Int) :: Krdk.ints l := rfl
/-! ### tell_fixed: 0:desk 1:given 2:lower 3:counts 4:share 5:fixed 6:upper -/
theorem sc127 : FnScope ["desk", "given", "lower", "counts", "share", "fixed", "upper"] ["desk", "given"] (defScope (top 127)) := ⟨rfl, rfl, rfl, by decide +kernel, rfl, by decide +kernel, by decide +kernel⟩
theorem c_tell_fixed (T : ClD K C) (B : Bl mg) (Z : Ct mg) (Df : DefAt K mg "tell_fixed" (top 127)) (cr : Cal P w K mg base 1 "refused" (SpK pRefused)) (cp : Cal P w K mg base 1 "power" (SpK pPower)) (cc : Cal P w K mg base 1 "lower_right" (SpK pLR)) (co : Cal P w K mg base 3 "counts_of" (SpK (pCountsOf K C))) (cs : Cal P w K mg base 2 "all_set" (SpK (pAllSet K))) : Cal P w K mg base 4 "tell_fixed" (SpK (pTell K C 48 1 0)) := by
  refine cal_pure (ps := ["desk", "given"]) Df sc127 (fun _ _ _ _ _ _ us hl => match us, hl with | [_, _], _ => rfl) (fun vs H k ⟨_, _, _, _, _, e, _⟩ => by rw [e]; rfl) fun f cdv A outer s H vs E k hr ⟨d, g, D, xs, rs, e, ⟨dx, ad, cd, sd, ld, sh, hD⟩, hG, hx, hrs, ok, okr, ek⟩ => ?_
  obtain ⟨x, rfl, hxm⟩ := one_num hx ok
  obtain rfl := nil_of hrs
  have hq := hG.nums
  subst e ek
  have wf := hD.w
  have hn := wf.n5
  have hn1 := wf.n1
  have hQ : ansP 48 D [(x : Int)] [] = KrdoNeutral.told (if x = 0 || decide (100 < x) then Krdk.say (-22) else Krdk.list ((List.range (x + 1)).filter fun a => Krdn.yesAt D.f (Krdn.rat a x) == Krdn.rat a x)) := rfl
  rw [hQ]
  refine gb_set 2 sc127.nd (gv_at (gv_var 1) hq rfl (by decide)) (gb_if (Gt.to (gt_not (gt_val (gv_lower_right cc hr (by decide) (gv_var 2)))) lowOk) (fun h => ?_) (fun h => ?_))
  · rw [if_pos h]
    exact gb_ret (gv_ref cr hr (by decide) Z.notRight)
  · rw [if_neg (by rw [h]; decide)]
    have hx := lowOk_of h
    have b3 : Lb (x : Int) 7 := lb_nat (by omega)
    have ef : (fun a => Krdn.yesAt D.f (Krdn.rat a x) == Krdn.rat a x) = fun a : Nat => (asum (sz D.f) D.f.n (a : Nat) (x : Nat) == (a : Int) * (x : Int) ^ (D.f.n - 1)) := funext fun a => Mt.fixed_iff hn1 hx.1 a
    rw [ef, told_list]
    have hl := rf_len (x + 1) fun a : Nat => (asum (sz D.f) D.f.n (a : Nat) (x : Nat) == (a : Int) * (x : Int) ^ (D.f.n - 1))
    refine gb_setO 3 sc127.nd (gv_counts_of co hr (by decide) (gv_var 0) ⟨_, _, _, _, _, _, hD⟩) fun q H3 fq s3 hq3 => ?_
    have hD := hD.same s3
    refine gb_set 4 sc127.nd (gv_power (n := D.f.n - 1) cp hr (by decide) (gv_var 2) (Gv.is_to (gv_sub (gv_bitsD T (gv_var 0) hD) gv_int) (by congr 1; omega)) (b3.fifty (by decide)) (by omega)) ?_
    refine gb_lcX 5 rfl sc127.nd (LcR.to (lc_R (N := ((x + 1 : Nat) : Int)) 6 B.range (Gv.is_to (gv_add (gv_var 2) gv_int) (by simp)) (by omega) (blkOk_by (own := [("upper", 6)]) (N := ["desk", "given", "lower", "counts", "share", "fixed", "upper"]) (sc := defScope (top 127)) (by decide +kernel)) (fun _ _ _ _ _ => pg_name (i := 6) sc127.nd rfl (Or.inl rfl)) pts_c
      (fun a : Nat => (asum (sz D.f) D.f.n (a : Nat) (x : Nat) == (a : Int) * (x : Int) ^ (D.f.n - 1))) (fun a => .int (a : Nat)) (fun _ => rfl) (fun a ha => gt_cF fun _ _ _ _ _ => ?_) (fun a ha _ => gv_cF fun _ _ _ _ _ => gv_var 6)) (k' := .ob (.lst ((Krdk.ints ((List.range (x + 1)).filter fun a : Nat => (asum (sz D.f) D.f.n (a : Nat) (x : Nat) == (a : Int) * (x : Int) ^ (D.f.n - 1)))).map .int))) ?_) fun q2 H4 fq2 s4 hq4 => ?_
    · obtain ⟨c1, c2, _⟩ := up_lo (a := a) (b := x) ⟨hx.1, hx.2, by omega⟩
      exact gt_eq (gv_all_set cs hr (by decide) (gv_var 3) (gv_var 6) (gv_var 2) (SqL.of hq3) wf (c1.mono (by decide)) (c2.mono (by decide))) (gv_mul (gv_var 6) (gv_var 4) (c1.cm (b3.powm (m := 5) (by omega)) (by decide)))
    · rw [Int.toNat_natCast]
      unfold given Krdk.ints
      rw [List.map_map]; rfl
    · exact gb_ret (gv_cat (xs := [.int _]) (gv_lst (vs := [.int _]) (ga_cons (Gv.is_to (gv_lenL B (gv_var 5) (.old (SqL.of hq4))) (by simp [Krdk.ints])) ga_nil) (Nat.le_of_ble_eq_true rfl)) (gv_var 5) (.inr ⟨q2, rfl, hq4⟩) (by simp [Krdk.ints]; omega))
end
end Sw
set_option Elab.async false
set_option linter.all false
set_option maxRecDepth 100000
set_option maxHeartbeats 2000000
set_option exponentiation.threshold 3000
namespace Sw
open PySem PySem.Spec PyProof.Rows L2 Kx
open Evl (given given_yes given_no given_len)
open Mt (W S swc pt)
section
variable {P : Program} {w : World} {K : PySem.W.Frag} {mg : Str → Option Value} {base : Heap} {C : Addr}
/-! ### ORDERS -/
/-- a name of the module: a tuple of tuples -/
structure Tb (K : PySem.W.Frag) (mg : Str → Option Value) (x : Str) (rows : List (List V)) : Prop where
  ex : ∃ (T : Addr) (as : List Addr), mg x = some (.ref T) ∧ as.length = rows.length ∧ ∀ H : Hp, SqT K H T (as.map V.ref) ∧ ∀ (i : Nat) (a : Addr) (r : List V), as[i]? = some a → rows[i]? = some r → SqT K H a r
def ordRow (o : Nat) : List V := [.int (if Krdm.ahead o 0 then 1 else 0), .int (if Krdm.ahead o 1 then 1 else 0), .int (if Krdm.ahead o 2 then 1 else 0)]
def ordRows : List (List V) := (List.range 6).map ordRow
section
variable {X : Cx} {σ : L2.St} {H : Hp} {e e2 : Expr} {p pos p2 : Pos}
theorem gv_orders (O : Tb X.K X.mg "ORDERS" ordRows) (hg : Gl X "ORDERS" := by rfl) : ∃ (T : Addr) (as : List Addr), X.mg "ORDERS" = some (.ref T) ∧ as.length = 6 ∧ (∀ H, SqT X.K H T (as.map V.ref)) ∧ (∀ (H : Hp) (i : Nat) (a : Addr), as[i]? = some a → SqT X.K H a (ordRow i)) ∧ ∀ {σ : L2.St} {H : Hp} {p : Pos}, Gv (cE X (.Name "ORDERS" p)) σ H (.is (.ref T)) := by
  obtain ⟨T, as, hm, hl, h⟩ := O.ex
  refine ⟨T, as, hm, hl, fun H => (h H).1, fun H i a ha => ?_, fun {σ H p} => gv_glo ⟨.ref T, hm, rfl⟩ hg (by decide)⟩
  have hi : i < 6 := by
    have := (List.getElem?_eq_some_iff.mp ha).1
    have e : as.length = 6 := hl
    omega
  exact (h H).2 i a (ordRow i) ha (by unfold ordRows; rw [List.getElem?_map, List.getElem?_range hi]; rfl)
/-- len(ORDERS) -/
theorem gv_lenOrd (B : Bl X.mg) (O : Tb X.K X.mg "ORDERS" ordRows) (hg : Gl X "ORDERS" := by rfl) (hgl : Gl X "len" := by rfl) (hs : starEach [.Name "ORDERS" p2] X.env = (false, eval (.Name "ORDERS" p2) X.env) :: starEach [] X.env := by rfl) (hpl : (backTo pos (starEach [] X.env)).any (·.1) = false := by rfl) : Gv (cE X (.Call (.Name "len" p) [.Name "ORDERS" p2] [] pos)) σ H (.is (.int 6)) := by
  obtain ⟨T, as, hm, hl, h1, h2, h3⟩ := gv_orders O hg
  refine Gv.is_to (gv_lenT B h3 (.old (h1 H)) hgl hs hpl) ?_
  rw [List.length_map, hl]; rfl
/-- ORDERS[o] -/
theorem gv_ord1 (O : Tb X.K X.mg "ORDERS" ordRows) {o : Nat} (ho : o < 6) (hg : Gl X "ORDERS" := by rfl) : ∃ a : Addr, (∀ H, SqT X.K H a (ordRow o)) ∧ ∀ {σ : L2.St} {H : Hp} {e : Expr} {p pos : Pos}, PlainIx e → Gv (cE X e) σ H (.is (.int (o : Nat))) → Gv (cE X (.Subscript (.Name "ORDERS" p) e pos)) σ H (.is (.ref a)) := by
  obtain ⟨T, as, hm, hl, h1, h2, h3⟩ := gv_orders O hg
  have ha : as[o]? = some (as[o]'(by omega)) := List.getElem?_eq_getElem (by omega)
  refine ⟨as[o]'(by omega), fun H => h2 H o _ ha, fun {σ H e p pos} hp h => gv_ixT h3 (.old (h1 H)) h (atI_nat ?_) hp⟩
  rw [List.getElem?_map, ha]; rfl
/-- ORDERS[o][q] -/
theorem gv_ord2 (O : Tb X.K X.mg "ORDERS" ordRows) {o q : Nat} (ho : o < 6) (hq : q < 3) (h : Gv (cE X e) σ H (.is (.int (o : Nat)))) (h' : Gv (cE X e2) σ H (.is (.int (q : Nat)))) (hg : Gl X "ORDERS" := by rfl) (hp : PlainIx e := by exact fun _ _ => rfl) (hp2 : PlainIx e2 := by exact fun _ _ => rfl) : Gv (cE X (.Subscript (.Subscript (.Name "ORDERS" p) e pos) e2 p2)) σ H (.is (.int ((if Krdm.ahead o q then 1 else 0 : Nat) : Int))) := by
  obtain ⟨a, ha, g⟩ := gv_ord1 O ho hg
  refine gv_ixT (g hp h) (.old (ha H)) h' (atI_nat ?_) hp2
  unfold ordRow
  have : q = 0 ∨ q = 1 ∨ q = 2 := by omega
  rcases this with rfl | rfl | rfl <;> (show some (V.int _) = some (V.int _); congr 2; split <;> rfl)
end
/-! ### vote_right -/
def pVoteRight (K : PySem.W.Frag) (vs : List V) (H : Hp) (k : Kd) : Prop := ∃ (n r : Nat) (l : List Nat), vs = [.int (n : Nat), .ref r] ∧ SqL K H r (NV l) ∧ l.length ≤ 255 ∧ k = .is (.bl (Krdm.voteOk n l))
/-! ### vote_right: 0:bits 1:vote 2:order -/
theorem sc51 : FnScope ["bits", "vote", "order"] ["bits", "vote"] (defScope (top 51)) := ⟨rfl, rfl, rfl, by decide +kernel, rfl, by decide +kernel, by decide +kernel⟩
theorem c_vote_right (B : Bl mg) (O : Tb K mg "ORDERS" ordRows) (Df : DefAt K mg "vote_right" (top 51)) : Cal P w K mg base 1 "vote_right" (SpK (pVoteRight K)) := by
  refine cal_pure (ps := ["bits", "vote"]) Df sc51 (fun _ _ _ _ _ _ us hl => match us, hl with | [_, _], _ => rfl) (fun vs H k ⟨_, _, _, e, _⟩ => by rw [e]; rfl) fun f cdv A outer s H vs E k hr ⟨n, r, l, e, hq, hl, ek⟩ => ?_
  subst e ek
  refine gb_ret (gv_and (c1 := l.length == n) (c2 := l.all fun o => decide (o < 6)) (Gv.is_to (gv_eq (gv_lenL B (gv_var 1) (.old hq)) (gv_var 0)) ?_) (fun _ => Gv.is_to (gv_all (bs := l.map fun o => decide (o < 6)) rfl B (Gv.to (gv_lcL 2 rfl sc51.nd (gv_var 1) (.old hq) (by rw [NV_len]; omega) (blkOk_by (own := [("order", 2)]) (N := ["bits", "vote", "order"]) (sc := defScope (top 51)) (by decide +kernel)) (fun _ _ _ _ _ => pg_name (i := 2) sc51.nd rfl (Or.inl rfl)) (fun _ _ _ _ _ => pts_nil)
    (fun _ => true) (fun i => .bl (decide (l.getD i 0 < 6))) (fun _ => rfl) (fun _ _ _ => gt_yes) (fun i v hv _ => ?_)) ?_) .new) ?_))
  · rw [NV_len]
    congr 1
    rw [Bool.eq_iff_iff]; simp; omega
  · obtain ⟨x, hx, rfl⟩ := NV_get hv
    refine gv_cF fun _ _ _ _ _ => Gv.is_to (gv_lt (gv_var 2) (gv_lenOrd B O)) ?_
    rw [getD_of hx]
    exact congrArg V.bl (dlt x 6)
  · rw [NV_len, given_get (fun x => V.bl (decide (x < 6))), List.map_map]; rfl
  · rw [all_map]
theorem gv_vote_right {X : Cx} {σ : L2.St} {H : Hp} {j : Nat} {e1 e2 : Expr} {p pos : Pos} {n r : Nat} {l : List Nat} (cc : Cal X.prog X.w X.K X.mg X.base 1 "vote_right" (SpK (pVoteRight X.K))) (hr : Room j X.A) (hj : 1 ≤ j) (h0 : Gv (cE X e1) σ H (.is (.int (n : Nat)))) (h1 : Gv (cE X e2) σ H (.is (.ref r))) (hq : SqL X.K H r (NV l)) (hl : l.length ≤ 255) (hg : Gl X "vote_right" := by rfl)
    (hs0 : starEach [e1, e2] X.env = (false, eval e1 X.env) :: starEach [e2] X.env := by rfl) (hs1 : starEach [e2] X.env = (false, eval e2 X.env) :: starEach [] X.env := by rfl) (hpl : (backTo pos (starEach [e2] X.env)).any (·.1) = false := by rfl) :
    Gv (cE X (.Call (.Name "vote_right" p) [e1, e2] [] pos)) σ H (.is (.bl (Krdm.voteOk n l))) :=
  gv_calv (us := [.int (n : Nat), .ref r]) cc hr hj (ga_cons h0 (ga_cons h1 ga_nil hs1) hs0) (fun _ s => ⟨n, r, l, rfl, same_l s hq, hl, rfl⟩) hg (by decide) hs0 hpl
theorem voteOk_of {n : Nat} {l : List Nat} (h : Krdm.voteOk n l = true) : l.length = n ∧ ∀ o ∈ l, o < 6 := by
  unfold Krdm.voteOk at h
  obtain ⟨h1, h2⟩ := Bool.and_eq_true_iff.mp h
  exact ⟨eq_of_beq h1, fun o ho => of_decide_eq_true (List.all_eq_true.mp h2 o ho)⟩
/-! ### outcome -/
def outI (f : Krdk.Answer) (l : List Nat) (q : Nat) : Int := Mt.b2i (Krdm.result f l q)
def outV (f : Krdk.Answer) (l : List Nat) : List V := [.int (outI f l 0), .int (outI f l 1), .int (outI f l 2)]
def pOutcome (K : PySem.W.Frag) (vs : List V) (H : Hp) (k : Kd) : Prop := ∃ (q r : Nat) (f : Krdk.Answer) (l : List Nat), vs = [.ref q, .ref r] ∧ Seq K H q (SV f) ∧ SqL K H r (NV l) ∧ W f ∧ l.length = f.n ∧ (∀ o ∈ l, o < 6) ∧ k = .ob (.tup (outV f l))
theorem outs_take (f : Krdk.Answer) (l : List Nat) : ((List.range 3).map (outI f l)).map V.int = outV f l := rfl
/-! ### outcome: 0:says 1:vote 2:found 3:comparison 4:word 5:voter 6:order -/
theorem sc52 : FnScope ["says", "vote", "found", "comparison", "word", "voter", "order"] ["says", "vote"] (defScope (top 52)) := ⟨rfl, rfl, rfl, by decide +kernel, rfl, by decide +kernel, by decide +kernel⟩
theorem c_outcome (Z : Ct mg) (B : Bl mg) (O : Tb K mg "ORDERS" ordRows) (Df : DefAt K mg "outcome" (top 52)) : Cal P w K mg base 1 "outcome" (SpK (pOutcome K)) := by
  refine cal_pure (ps := ["says", "vote"]) Df sc52 (fun _ _ _ _ _ _ us hl => match us, hl with | [_, _], _ => rfl) (fun vs H k ⟨_, _, _, _, e, _⟩ => by rw [e]; rfl) fun f cdv A outer s H vs E k hr ⟨q, r, fa, l, e, hq, hv, wf, hl, ho, ek⟩ => ?_
  subst e ek
  have hn := wf.n5
  refine gb_go fun Dn H1 s1 _ hR => ?_
  refine go_setO 2 sc52.nd (gv_lst (vs := []) ga_nil (Nat.le_of_ble_eq_true rfl)) fun t H2 ft s2 ht => ?_
  refine go_forR (n := 3) 3 rfl sc52.nd B.range (gv_glo Z.comparisons) (by decide) (fun i σ' H' => Same H1 H' ∧ H' t = some (.lst (((List.range i).map (outI fa l)).map .int)) ∧ ∃ a b c d, σ' = [some (.ref q), some (.ref r), some (.ref t), a, b, c, d]) ⟨s2, ht, none, none, none, none, rfl⟩ ?_ ?_ PassesOwn.never
  · rintro i σ' H' hi ⟨sH, hta, a0, b0, c0, d0, rfl⟩
    have hi3 : i < 3 := by omega
    refine go_setV 4 sc52.nd gv_int ?_
    refine go_forEL (xs := NV l) 5 6 rfl sc52.nd B.enum (gv_var 1) (.old (same_l (s1.trans sH) hv)) (fun a H3 s3 n3 ha => ?_) PassesOwn.never (pg2 5 6 rfl sc52.nd)
    refine ⟨fun j σ' Hx => Hx = H3 ∧ ∃ x y, σ' = [some (.ref q), some (.ref r), some (.ref t), some (.int (i : Nat)), some (.int (Mt.wv l i j : Nat)), x, y], ⟨rfl, c0, d0, rfl⟩, fun j σ' Hx _ w => by rw [w.1]; exact ha, ?_, ?_⟩
    · rintro j v σ' Hx hvj ⟨rfl, x0, y0, rfl⟩
      obtain ⟨o, hoj, rfl⟩ := NV_get hvj
      have hj : j < l.length := (List.getElem?_eq_some_iff.mp hoj).1
      have ho6 : o < 6 := ho o (List.mem_of_getElem? hoj)
      refine go_setV (v := .int (Mt.wv l i (j + 1) : Nat)) 4 sc52.nd (Gv.is_to (gv_borN (gv_var 4) (gv_shlN (m := if Krdm.ahead o i then 1 else 0) (n := j) (gv_ord2 O ho6 hi3 (gv_var 6) (gv_var 3)) (gv_var 5) (by split <;> decide) (by omega))) ?_) (go_thru ⟨rfl, some (.int (j : Nat)), some (.int (o : Nat)), rfl⟩)
      show V.int _ = V.int ((Mt.wv l i j ||| (if Krdm.ahead (l.getD j 0) i then 1 else 0) <<< j : Nat) : Int)
      rw [getD_of hoj]
    · rintro σ' Hx ⟨rfl, x0, y0, rfl⟩
      have hw : Mt.wv l i (NV l).length = Krdm.word l i := by rw [NV_len, ← Mt.word_wv]
      rw [hw]
      refine go_app (gv_var 2) (s3 _ _ hta) (by simp; omega) (gv_ixS (gv_var 0) (hq.same ((s1.trans sH).trans s3)) (gv_var 4) (atI_nat (SV_at wf (Mt.word_lt hl i)))) fun w1 H4 s4 n4 => ?_
      obtain rfl : w1 = .int (Mt.b2i (fa.at_ (Krdm.word l i))) := n4
      refine go_thru ⟨same_mut ((sH.trans s3).trans s4) ft, ?_, _, _, _, _, rfl⟩
      rw [upd_same, List.range_succ, List.map_append, List.map_append]
      rfl
  · rintro σ' H' ⟨sH, hta, a0, b0, c0, d0, rfl⟩
    exact go_ret (gv_tupL B (gv_var 2) (.old (SqL.of hta))) (ret_back hR sH)
theorem gv_outcome {X : Cx} {σ : L2.St} {H : Hp} {j : Nat} {e1 e2 : Expr} {p pos : Pos} {q r : Nat} {f : Krdk.Answer} {l : List Nat} (cc : Cal X.prog X.w X.K X.mg X.base 1 "outcome" (SpK (pOutcome X.K))) (hr : Room j X.A) (hj : 1 ≤ j) (h0 : Gv (cE X e1) σ H (.is (.ref q))) (h1 : Gv (cE X e2) σ H (.is (.ref r))) (hq : Seq X.K H q (SV f)) (hv : SqL X.K H r (NV l)) (wf : W f) (hl : l.length = f.n) (ho : ∀ o ∈ l, o < 6) (hg : Gl X "outcome" := by rfl)
    (hs0 : starEach [e1, e2] X.env = (false, eval e1 X.env) :: starEach [e2] X.env := by rfl) (hs1 : starEach [e2] X.env = (false, eval e2 X.env) :: starEach [] X.env := by rfl) (hpl : (backTo pos (starEach [e2] X.env)).any (·.1) = false := by rfl) :
    Gv (cE X (.Call (.Name "outcome" p) [e1, e2] [] pos)) σ H (.ob (.tup (outV f l))) :=
  gv_calv (us := [.ref q, .ref r]) cc hr hj (ga_cons h0 (ga_cons h1 ga_nil hs1) hs0) (fun _ s => ⟨q, r, f, l, rfl, hq.same s, same_l s hv, wf, hl, ho, rfl⟩) hg (by decide) hs0 hpl
/-! ### comes_round -/
def triV (a b c : Bool) : List V := [.int (Mt.b2i a), .int (Mt.b2i b), .int (Mt.b2i c)]
theorem outV_tri (f : Krdk.Answer) (l : List Nat) : outV f l = triV (Krdm.result f l 0) (Krdm.result f l 1) (Krdm.result f l 2) := rfl
def pRound (K : PySem.W.Frag) (vs : List V) (H : Hp) (k : Kd) : Prop := ∃ (t : Nat) (a b c : Bool), vs = [.ref t] ∧ SqT K H t (triV a b c) ∧ k = .is (.bl (Mt.rndB a b c))
/-! ### comes_round: 0:found -/
theorem sc53 : FnScope ["found"] ["found"] (defScope (top 53)) := ⟨rfl, rfl, rfl, by decide +kernel, rfl, by decide +kernel, by decide +kernel⟩
theorem c_comes_round (Z : Ct mg) (B : Bl mg) (Df : DefAt K mg "comes_round" (top 53)) : Cal P w K mg base 1 "comes_round" (SpK (pRound K)) := by
  refine cal_pure (ps := ["found"]) Df sc53 (fun _ _ _ _ _ _ us hl => match us, hl with | [_], _ => rfl) (fun vs H k ⟨_, _, _, _, e, _⟩ => by rw [e]; rfl) fun f cdv A outer s H vs E k hr ⟨t, a, b, c, e, hq, ek⟩ => ?_
  subst e ek
  refine gb_ret (Gv.is_to (gv_or (gv_eq (gv_sumT (ns := [Mt.b2i a, Mt.b2i b, Mt.b2i c]) rfl B (gv_var 0) (.old hq)) gv_int) (fun _ => gv_eq (gv_sumT (ns := [Mt.b2i a, Mt.b2i b, Mt.b2i c]) rfl B (gv_var 0) (.old hq)) (gv_glo Z.comparisons))) ?_)
  cases a <;> cases b <;> cases c <;> rfl
theorem gv_round {X : Cx} {σ : L2.St} {H : Hp} {j : Nat} {e1 : Expr} {p pos : Pos} {k : Kd} {a b c : Bool} (cc : Cal X.prog X.w X.K X.mg X.base 1 "comes_round" (SpK (pRound X.K))) (hr : Room j X.A) (hj : 1 ≤ j) (h0 : Gv (cE X e1) σ H k) (hk : HasT X.K H k (triV a b c)) (hg : Gl X "comes_round" := by rfl)
    (hs0 : starEach [e1] X.env = (false, eval e1 X.env) :: starEach [] X.env := by rfl) (hpl : (backTo pos (starEach [] X.env)).any (·.1) = false := by rfl) : Gv (cE X (.Call (.Name "comes_round" p) [e1] [] pos)) σ H (.is (.bl (Mt.rndB a b c))) := by
  refine gv_calk cc hr hj (ga_cons h0 ga_nil hs0) (fun vs H1 s z => ?_) hg (by decide) hs0 hpl
  obtain ⟨v1, r1, rfl, e1, rfl⟩ := z
  obtain ⟨t, rfl, ht⟩ := hk.get (H1 := H1) s e1
  exact ⟨t, a, b, c, rfl, ht, rfl⟩
/-! ### order_of -/
def triD (a b c : Int) : PyData := .tuple [.int a, .int b, .int c]
theorem dp_tri {H : Hp} {t : Addr} {a b c : Int} (h : SqT K H t [.int a, .int b, .int c]) : Dp K H (.ref t) (triD a b c) := .tup h (.cons (.int a) (.cons (.int b) (.cons (.int c) .nil)))
def pOrderOf (K : PySem.W.Frag) (vs : List V) (H : Hp) (k : Kd) : Prop := ∃ (t : Nat) (a b c : Bool), vs = [.ref t] ∧ SqT K H t (triV a b c) ∧ k = .is (vOpt (Mt.ordB a b c))
theorem ord_eq : ∀ o, o < 6 → ∀ a b c : Bool, PyData.eqv (triD (if Krdm.ahead o 0 then 1 else 0) (if Krdm.ahead o 1 then 1 else 0) (if Krdm.ahead o 2 then 1 else 0)) (triD (Mt.b2i a) (Mt.b2i b) (Mt.b2i c)) = (Krdm.ahead o 0 == a && Krdm.ahead o 1 == b && Krdm.ahead o 2 == c) := by decide +kernel
/-! ### order_of: 0:found 1:order -/
theorem sc54 : FnScope ["found", "order"] ["found"] (defScope (top 54)) := ⟨rfl, rfl, rfl, by decide +kernel, rfl, by decide +kernel, by decide +kernel⟩
theorem c_order_of (B : Bl mg) (O : Tb K mg "ORDERS" ordRows) (Df : DefAt K mg "order_of" (top 54)) : Cal P w K mg base 1 "order_of" (SpK (pOrderOf K)) := by
  refine cal_pure (ps := ["found"]) Df sc54 (fun _ _ _ _ _ _ us hl => match us, hl with | [_], _ => rfl) (fun vs H k ⟨_, _, _, _, e, _⟩ => by rw [e]; rfl) fun f cdv A outer s H vs E k hr ⟨t, a, b, c, e, hq, ek⟩ => ?_
  subst e ek
  refine gb_forR (n := 6) 1 rfl sc54.nd B.range (gv_lenOrd B O) (by decide) (fun i σ' => (∀ o, o < i → (Krdm.ahead o 0 == a && Krdm.ahead o 1 == b && Krdm.ahead o 2 == c) = false) ∧ ∃ x, σ' = [some (.ref t), x]) ⟨fun o h => absurd h (Nat.not_lt_zero o), none, rfl⟩ ?_ ?_ PassesOwn.never
  · rintro i σ' hi ⟨hf, x0, rfl⟩
    have hi6 : i < 6 := by omega
    obtain ⟨ad, had, g⟩ := gv_ord1 (X := Bd P w K mg base ["found", "order"] (top 54) f cdv A outer s H E) O hi6
    refine gb_if (Gt.to (gt_eqD hr.units (g (fun _ _ => rfl) (gv_var 1)) (gv_var 0) (fun H1 s => dp_tri (had H1)) (fun H1 s => dp_tri (same_t s hq)) rfl rfl) (ord_eq i hi6 a b c)) (fun h => ?_) (fun h => ?_)
    · have e : Mt.ordB a b c = some i := find_first h hi6 hf
      rw [e]
      exact gb_ret (gv_var 1)
    · refine gb_nil ⟨fun o ho => ?_, some (.int (i : Nat)), rfl⟩
      by_cases z : o < i
      · exact hf o z
      · have : o = i := by omega
        rw [this]; exact h
  · rintro σ' ⟨hf, x0, rfl⟩
    have e : Mt.ordB a b c = none := find_none (fun o ho => hf o (by simpa using ho))
    rw [e]
    exact gb_ret gv_non
end
end Sw
set_option Elab.async false
set_option linter.all false
set_option maxRecDepth 100000
set_option maxHeartbeats 2000000
set_option exponentiation.threshold 3000
namespace Sw
open PySem PySem.Spec PyProof.Rows L2 Kx
open Evl (given given_yes given_no given_len)
open Mt (W S swc pt)
section
variable {P : Program} {w : World} {K : PySem.W.Frag} {mg : Str → Option Value} {base : Heap} {C : Addr}
theorem obsAt_upd {us : List V} {os : List HO} {H : Hp} {q : Addr} {o : HO} (h : ObsAt us os (del H q)) : ObsAt us os (upd H q o) := by
  have e : del (upd H q o) q = del H q := del_upd
  rw [← e] at h
  exact h.same del_le
/-! ### all_votes -/
def obsV (vs : List (List Nat)) : List HO := vs.map fun v => .lst (NV v)
theorem obsV_app (a b : List (List Nat)) : obsV (a ++ b) = obsV a ++ obsV b := List.map_append
theorem obsAt_app {us vs : List V} {os ps : List HO} {H : Hp} (h : ObsAt us os H) (g : ObsAt vs ps H) : ObsAt (us ++ vs) (os ++ ps) H := by
  induction h with
  | nil => exact g
  | cons x _ ih => exact .cons x ih
def longer (vs : List (List Nat)) : List (List Nat) := vs.flatMap fun v => (List.range 6).map fun o => v ++ [o]
theorem longer_succ {vs : List (List Nat)} {j : Nat} {v : List Nat} (h : vs[j]? = some v) : longer (vs.take (j + 1)) = longer (vs.take j) ++ (List.range 6).map fun o => v ++ [o] := by
  have hj := (List.getElem?_eq_some_iff.mp h).1
  have e : vs.take (j + 1) = vs.take j ++ [v] := by
    rw [List.take_add_one, h]; rfl
  rw [e]
  unfold longer
  rw [flat_app]
theorem NV_app (l : List Nat) (o : Nat) : NV (l ++ [o]) = NV l ++ [.int (o : Nat)] := by unfold NV; rw [List.map_append]; rfl
def pAllVotes (vs : List V) (_ : Hp) (k : Kd) : Prop := ∃ n : Nat, vs = [.int (n : Nat)] ∧ n ≤ 5 ∧ k = .obs (obsV (Krdm.votes n))
theorem p6 {n : Nat} (h : n ≤ 5) : 6 ^ n ≤ 7776 := Nat.pow_le_pow_right (by decide) h
/-! ### all_votes: 0:voters 1:votes 2:voter 3:longer 4:vote 5:order -/
theorem sc55 : FnScope ["voters", "votes", "voter", "longer", "vote", "order"] ["voters"] (defScope (top 55)) := ⟨rfl, rfl, rfl, by decide +kernel, rfl, by decide +kernel, by decide +kernel⟩
theorem c_all_votes (B : Bl mg) (O : Tb K mg "ORDERS" ordRows) (Df : DefAt K mg "all_votes" (top 55)) : Cal P w K mg base 1 "all_votes" (SpK (pAllVotes)) := by
  refine cal_pure (ps := ["voters"]) Df sc55 (fun _ _ _ _ _ _ us hl => match us, hl with | [_], _ => rfl) (fun vs H k ⟨_, e, _⟩ => by rw [e]; rfl) fun f cdv A outer s H vs E k hr ⟨n, e, hn, ek⟩ => ?_
  subst e ek
  refine gb_go fun Dn H1 s1 _ hR => ?_
  refine go_set 1 sc55.nd (gv_lstK (os := [.lst []]) (ga_cons (gv_lst (vs := []) ga_nil (Nat.le_of_ble_eq_true rfl)) ga_nil) (by decide)) fun w1 H2 s2 ⟨q, us, ew, fq, hq, ho⟩ => ?_
  subst ew
  refine go_forR (n := (n : Int)) 2 rfl sc55.nd B.range (gv_var 0) (by omega) (fun i σ' H' => Same H1 H' ∧ ∃ (q : Addr) (us : List V) (a b c d : Option V), H1 q = none ∧ H' q = some (.lst us) ∧ ObsAt us (obsV (Krdm.votes i)) H' ∧ σ' = [some (.int (n : Nat)), some (.ref q), a, b, c, d]) ⟨s2, q, us, none, none, none, none, fq, hq, ho, rfl⟩ ?_ ?_ PassesOwn.never
  · rintro i σ' H' hi ⟨sH, q, us, a0, b0, c0, d0, fq, hq, ho, rfl⟩
    have hlen : us.length = 6 ^ i := by rw [Paired.length ho]; unfold obsV; rw [List.length_map, Mt.votes_len]
    have h6 : 6 ^ i * 6 ≤ 7776 := by rw [← Nat.pow_succ]; exact p6 (by omega)
    refine go_setO 3 sc55.nd (gv_lst (vs := []) ga_nil (Nat.le_of_ble_eq_true rfl)) fun q2 H3 fq2 s3 hq2 => ?_
    have hq3 := s3 _ _ hq
    have ho3 := ho.same s3
    refine go_forL 4 rfl sc55.nd (gv_var 1) (.old (SqL.of hq3)) (fun a H4 s4 n4 ha4 => ?_) PassesOwn.never
    obtain rfl : a = q := by have : V.ref a = V.ref q := n4; injection this
    have fq2' : H1 q2 = none := sH.free fq2
    refine ⟨fun j σ' Hx => Same H' Hx ∧ ∃ us2 x y, Hx q2 = some (.lst us2) ∧ ObsAt us2 (obsV (longer ((Krdm.votes i).take j))) (del Hx q2) ∧ σ' = [some (.int (n : Nat)), some (.ref a), some (.int (i : Nat)), some (.ref q2), x, y], ⟨s3.trans s4, [], c0, d0, s4 _ _ hq2, .nil, rfl⟩, fun j σ' Hx _ w => SqL.of (w.1 _ _ hq), ?_, ?_⟩
    · rintro j v σ' Hx hvj ⟨sx, us2, x0, y0, hx2, ox, rfl⟩
      obtain ⟨o, hoj, r, rfl, hr⟩ := L2.paired_get ho hvj
      unfold obsV at hoj
      rw [List.getElem?_map, Option.map_eq_some_iff] at hoj
      obtain ⟨l, hl, rfl⟩ := hoj
      have hj : j < us.length := (List.getElem?_eq_some_iff.mp hvj).1
      have hll : l.length = i := (Mt.votes_ok i l (List.mem_of_getElem? hl)).1
      have hu2 : us2.length ≤ j * 6 := by
        rw [Paired.length ox]
        unfold obsV
        rw [List.length_map]
        have h7 := flat_len (g := fun v : List Nat => (List.range 6).map fun o => v ++ [o]) (m := 6) (l := (Krdm.votes i).take j) (fun x _ => by simp)
        have h8 : ((Krdm.votes i).take j).length ≤ j := by rw [List.length_take]; omega
        exact Nat.le_trans h7 (Nat.mul_le_mul_right 6 h8)
      refine go_ext (gv_var 3) hx2 (gv_lc rfl sc55.nd (pi_range1 rfl B.range pa_ rfl) (blkOk_by (own := [("order", 5)]) (N := ["voters", "votes", "voter", "longer", "vote", "order"]) (sc := defScope (top 55)) (by decide +kernel)) (fun _ _ _ _ _ => pg_name (i := 5) sc55.nd rfl (Or.inl rfl)) (fun _ _ _ _ _ => pts_nil)
        (glc_rngX (n := 6) (i0 := 5) (z := q2) (fun o => .lst (NV l ++ [.int (o : Nat)])) (by rw [hx2]; exact fun z => nomatch z) (gv_lenOrd B O) (by decide) (fun _ => rfl) (fun o _ => gv_cF fun _ _ _ _ _ => gv_catM (gv_var 4) (.inr ⟨r, rfl, sx _ _ hr⟩) (gv_lst (vs := [.int (o : Nat)]) (ga_cons (gv_var 5) ga_nil) (Nat.le_of_ble_eq_true rfl)) (.inl rfl) (by rw [NV_len]; show _ + 1 ≤ _; omega)) rfl)) fun w5 H5 s5 n5 => ?_
      obtain ⟨b, us5, rfl, fb, hb5, ho5⟩ := n5
      have hl5 : us5.length = 6 := by rw [Paired.length ho5]; simp
      refine ⟨b, us5, rfl, hb5, by omega, go_thru ⟨same_mut (sx.trans s5) fq2, us2 ++ us5, some (.ref r), y0, upd_same, ?_, rfl⟩⟩
      rw [del_upd, longer_succ hl, obsV_app]
      refine obsAt_app (ox.same (del_same s5)) ?_
      have e7 : obsV ((List.range 6).map fun o => l ++ [o]) = (List.range (6 : Int).toNat).map fun o => HO.lst (NV l ++ [.int (o : Nat)]) := by
        unfold obsV
        rw [List.map_map]
        apply List.map_congr_left
        intro o _
        show HO.lst _ = HO.lst _
        rw [NV_app]
      rw [e7]
      exact ho5
    · rintro σ' Hx ⟨sx, us2, x0, y0, hx2, ox, rfl⟩
      refine go_setV 1 sc55.nd (gv_var 3) (go_thru ⟨sH.trans sx, q2, us2, some (.int (i : Nat)), some (.ref q2), x0, y0, fq2', hx2, ?_, rfl⟩)
      have e : (Krdm.votes i).take us.length = Krdm.votes i := by rw [hlen, ← Mt.votes_len, List.take_length]
      rw [e] at ox
      rw [Mt.votes_r]
      exact ox.same del_le
  · rintro σ' H' ⟨sH, q, us, a0, b0, c0, d0, fq, hq, ho, rfl⟩
    have e : ((n : Int)).toNat = n := Int.toNat_natCast n
    rw [e] at ho
    exact go_ret (gv_var 1) fun v H7 s7 n7 => hR v H7 (sH.trans s7) ⟨q, us, n7, fq, s7 _ _ hq, ho.same s7⟩
end
end Sw
set_option Elab.async false
set_option linter.all false
set_option maxRecDepth 100000
set_option maxHeartbeats 2000000
set_option exponentiation.threshold 3000
namespace Sw
open PySem PySem.Spec PyProof.Rows L2 Kx
open Evl (given given_yes given_no given_len)
open Mt (W S swc pt)
section
variable {P : Program} {w : World} {K : PySem.W.Frag} {mg : Str → Option Value} {base : Heap} {C : Addr}
theorem map_getD {α β : Type} (l : List α) (d : α) (g : α → β) : (List.range l.length).map (fun i => g (l.getD i d)) = l.map g := by
  apply List.ext_getElem?
  intro i
  rw [List.getElem?_map, List.getElem?_map]
  by_cases h : i < l.length
  · rw [List.getElem?_range h, List.getElem?_eq_getElem h]
    simp [List.getD_eq_getElem?_getD, List.getElem?_eq_getElem h]
  · rw [List.getElem?_eq_none (by simp; omega), List.getElem?_eq_none (by omega)]
    rfl
theorem filter_getD {α : Type} (l : List α) (d : α) (p : α → Bool) : ((List.range l.length).filter fun i => p (l.getD i d)).length = (l.filter p).length := by
  conv => rhs; rw [← List.map_id l]
  have e := map_getD l d (id : α → α)
  rw [← e, List.filter_map, List.length_map]
  rfl
theorem getD_at {α : Type} {l : List α} {i : Nat} {x d : α} (h : l[i]? = some x) : l.getD i d = x := by rw [List.getD_eq_getElem?_getD, h]; rfl
theorem all_true {n : Nat} : (List.range n).filter (fun _ => true) = List.range n := List.filter_eq_self.mpr fun _ _ => rfl
/-! ### all_outcomes -/
def outO (f : Krdk.Answer) (l : List Nat) : HO := .tup (outV f l)
def pAllOut (K : PySem.W.Frag) (vs : List V) (H : Hp) (k : Kd) : Prop := ∃ (q : Nat) (f : Krdk.Answer), vs = [.int (f.n : Nat), .ref q] ∧ Seq K H q (SV f) ∧ W f ∧ k = .obs ((Krdm.votes f.n).map (outO f))
theorem gv_all_votes {X : Cx} {σ : L2.St} {H : Hp} {j : Nat} {e1 : Expr} {p pos : Pos} {n : Nat} (cc : Cal X.prog X.w X.K X.mg X.base 1 "all_votes" (SpK pAllVotes)) (hr : Room j X.A) (hj : 1 ≤ j) (h0 : Gv (cE X e1) σ H (.is (.int (n : Nat)))) (hn : n ≤ 5) (hg : Gl X "all_votes" := by rfl)
    (hs0 : starEach [e1] X.env = (false, eval e1 X.env) :: starEach [] X.env := by rfl) (hpl : (backTo pos (starEach [] X.env)).any (·.1) = false := by rfl) : Gv (cE X (.Call (.Name "all_votes" p) [e1] [] pos)) σ H (.obs (obsV (Krdm.votes n))) :=
  gv_calv (us := [.int (n : Nat)]) cc hr hj (ga_cons h0 ga_nil hs0) (fun _ s => ⟨n, rfl, hn, rfl⟩) hg (by decide) hs0 hpl
theorem obsV_get {vs : List (List Nat)} {i : Nat} {o : HO} (h : (obsV vs)[i]? = some o) : ∃ l, vs[i]? = some l ∧ o = .lst (NV l) := by
  unfold obsV at h
  rw [List.getElem?_map, Option.map_eq_some_iff] at h
  obtain ⟨l, hl, rfl⟩ := h
  exact ⟨l, hl, rfl⟩
theorem votes_le {n : Nat} (h : n ≤ 5) : (Krdm.votes n).length ≤ 100000 := by rw [Mt.votes_len]; exact Nat.le_trans (p6 h) (by decide)
/-! ### all_outcomes: 0:bits 1:says 2:vote -/
theorem sc56 : FnScope ["bits", "says", "vote"] ["bits", "says"] (defScope (top 56)) := ⟨rfl, rfl, rfl, by decide +kernel, rfl, by decide +kernel, by decide +kernel⟩
theorem c_all_outcomes (B : Bl mg) (ca : Cal P w K mg base 1 "all_votes" (SpK pAllVotes)) (co : Cal P w K mg base 1 "outcome" (SpK (pOutcome K))) (Df : DefAt K mg "all_outcomes" (top 56)) : Cal P w K mg base 2 "all_outcomes" (SpK (pAllOut K)) := by
  refine cal_pure (ps := ["bits", "says"]) Df sc56 (fun _ _ _ _ _ _ us hl => match us, hl with | [_, _], _ => rfl) (fun vs H k ⟨_, _, e, _⟩ => by rw [e]; rfl) fun f cdv A outer s H vs E k hr ⟨q, fa, e, hq, wf, ek⟩ => ?_
  subst e ek
  have hn := wf.n5
  refine gb_ret (gv_lc rfl sc56.nd (pi_list pe_) (blkOk_by (own := [("vote", 2)]) (N := ["bits", "says", "vote"]) (sc := defScope (top 56)) (by decide +kernel)) (fun _ _ _ _ _ => pg_name (i := 2) sc56.nd rfl (Or.inl rfl)) (fun _ _ _ _ _ => pts_nil)
    (glc_obs (i0 := 2) (fun _ => true) (fun i y H => ∃ q, y = V.ref q ∧ H q = some (outO fa ((Krdm.votes fa.n).getD i []))) item_ob (.obs ((Krdm.votes fa.n).map (outO fa))) (gv_all_votes ca hr (by decide) (gv_var 0) hn) (by unfold obsV; rw [List.length_map]; exact votes_le hn) (fun _ => rfl) (fun i o r H' hi s' hr' => ?_) (fun D H1 H' ys h1 h2 hp => ?_)))
  · obtain ⟨l, hl, rfl⟩ := obsV_get hi
    obtain ⟨h1, h2⟩ := Mt.votes_ok fa.n l (List.mem_of_getElem? hl)
    refine ⟨gt_yes, fun _ => ⟨.ob (outO fa ((Krdm.votes fa.n).getD i [])), ?_, gives_ob⟩⟩
    rw [getD_at hl]
    exact gv_cF fun _ _ _ _ _ => gv_outcome co hr (by decide) (gv_var 1) (gv_var 2) (hq.same s') (SqL.of hr') wf h1 h2
  · rw [all_true] at hp
    have e : (List.range (obsV (Krdm.votes fa.n)).length).map (fun i => outO fa ((Krdm.votes fa.n).getD i [])) = (Krdm.votes fa.n).map (outO fa) := by
      unfold obsV
      rw [List.length_map, map_getD]
    have z := paired_obs hp
    rw [e] at z
    exact ⟨D, ys, rfl, h1, h2, z⟩
theorem gv_all_out {X : Cx} {σ : L2.St} {H : Hp} {j : Nat} {e1 e2 : Expr} {p pos : Pos} {q : Nat} {f : Krdk.Answer} (cc : Cal X.prog X.w X.K X.mg X.base 2 "all_outcomes" (SpK (pAllOut X.K))) (hr : Room j X.A) (hj : 2 ≤ j) (h0 : Gv (cE X e1) σ H (.is (.int (f.n : Nat)))) (h1 : Gv (cE X e2) σ H (.is (.ref q))) (hq : Seq X.K H q (SV f)) (wf : W f) (hg : Gl X "all_outcomes" := by rfl)
    (hs0 : starEach [e1, e2] X.env = (false, eval e1 X.env) :: starEach [e2] X.env := by rfl) (hs1 : starEach [e2] X.env = (false, eval e2 X.env) :: starEach [] X.env := by rfl) (hpl : (backTo pos (starEach [e2] X.env)).any (·.1) = false := by rfl) : Gv (cE X (.Call (.Name "all_outcomes" p) [e1, e2] [] pos)) σ H (.obs ((Krdm.votes f.n).map (outO f))) :=
  gv_calv (us := [.int (f.n : Nat), .ref q]) cc hr hj (ga_cons h0 (ga_cons h1 ga_nil hs1) hs0) (fun _ s => ⟨q, f, rfl, hq.same s, wf, rfl⟩) hg (by decide) hs0 hpl
/-! ### first_thing -/
def pFirst (vs : List V) (_ : Hp) (k : Kd) : Prop := ∃ o : Nat, vs = [.int (o : Nat)] ∧ k = .is (.int ((o / 2 : Nat) : Int))
/-! ### first_thing: 0:order -/
theorem sc59 : FnScope ["order"] ["order"] (defScope (top 59)) := ⟨rfl, rfl, rfl, by decide +kernel, rfl, by decide +kernel, by decide +kernel⟩
theorem c_first_thing  (Df : DefAt K mg "first_thing" (top 59)) : Cal P w K mg base 1 "first_thing" (SpK (pFirst)) := by
  refine cal_pure (ps := ["order"]) Df sc59 (fun _ _ _ _ _ _ us hl => match us, hl with | [_], _ => rfl) (fun vs H k ⟨_, e, _⟩ => by rw [e]; rfl) fun f cdv A outer s H vs E k hr ⟨o, e, ek⟩ => ?_
  subst e ek
  refine gb_ret (Gv.is_to (gv_fdiv (gv_var 0) gv_int (wide_div (b := 2) (by decide) (by decide) (by decide) (by decide))) ?_)
  simp
theorem gv_first_thing {X : Cx} {σ : L2.St} {H : Hp} {j : Nat} {e1 : Expr} {p pos : Pos} {o : Nat} (cc : Cal X.prog X.w X.K X.mg X.base 1 "first_thing" (SpK (pFirst))) (hr : Room j X.A) (hj : 1 ≤ j) (h0 : Gv (cE X e1) σ H (.is (.int (o : Nat))))  (hg : Gl X "first_thing" := by rfl)
    (hs0 : starEach [e1] X.env = (false, eval e1 X.env) :: starEach [] X.env := by rfl) (hpl : (backTo pos (starEach [] X.env)).any (·.1) = false := by rfl) :
    Gv (cE X (.Call (.Name "first_thing" p) [e1] [] pos)) σ H (.is (.int ((o / 2 : Nat) : Int))) :=
  gv_calv (us := [.int (o : Nat)]) cc hr hj (ga_cons h0 ga_nil hs0) (fun _ s => ⟨o, rfl, rfl⟩) hg (by decide) hs0 hpl
/-! ### rounds -/
def pRounds (K : PySem.W.Frag) (vs : List V) (H : Hp) (k : Kd) : Prop := ∃ (q : Nat) (f : Krdk.Answer), vs = [.int (f.n : Nat), .ref q] ∧ Seq K H q (SV f) ∧ W f ∧ k = .is (.int (Krdm.many f : Nat))
theorem outO_get {f : Krdk.Answer} {vs : List (List Nat)} {i : Nat} {o : HO} (h : (vs.map (outO f))[i]? = some o) : ∃ l, vs[i]? = some l ∧ o = outO f l := by
  rw [List.getElem?_map, Option.map_eq_some_iff] at h
  obtain ⟨l, hl, rfl⟩ := h
  exact ⟨l, hl, rfl⟩
/-! ### rounds: 0:bits 1:says 2:found -/
theorem sc61 : FnScope ["bits", "says", "found"] ["bits", "says"] (defScope (top 61)) := ⟨rfl, rfl, rfl, by decide +kernel, rfl, by decide +kernel, by decide +kernel⟩
theorem c_rounds (B : Bl mg) (ca : Cal P w K mg base 2 "all_outcomes" (SpK (pAllOut K))) (co : Cal P w K mg base 1 "comes_round" (SpK (pRound K))) (Df : DefAt K mg "rounds" (top 61)) : Cal P w K mg base 3 "rounds" (SpK (pRounds K)) := by
  refine cal_pure (ps := ["bits", "says"]) Df sc61 (fun _ _ _ _ _ _ us hl => match us, hl with | [_, _], _ => rfl) (fun vs H k ⟨_, _, e, _⟩ => by rw [e]; rfl) fun f cdv A outer s H vs E k hr ⟨q, fa, e, hq, wf, ek⟩ => ?_
  subst e ek
  have hn := wf.n5
  refine gb_ret (Gv.is_to (gv_lenO (os := ((List.range (Krdm.votes fa.n).length).filter fun i => Krdm.rounds fa ((Krdm.votes fa.n).getD i [])).map fun i => outO fa ((Krdm.votes fa.n).getD i [])) B (gv_lc rfl sc61.nd (pi_list pe_) (blkOk_by (own := [("found", 2)]) (N := ["bits", "says", "found"]) (sc := defScope (top 61)) (by decide +kernel)) (fun _ _ _ _ _ => pg_name (i := 2) sc61.nd rfl (Or.inl rfl)) pts_c
    (glc_obs (i0 := 2) (fun i => Krdm.rounds fa ((Krdm.votes fa.n).getD i [])) (fun i y H => ∃ q, y = V.ref q ∧ H q = some (outO fa ((Krdm.votes fa.n).getD i []))) item_ob _ (gv_all_out ca hr (by decide) (gv_var 0) (gv_var 1) hq wf) (by rw [List.length_map]; exact votes_le hn) (fun _ => rfl) (fun i o r H' hi s' hr' => ?_) (fun D H1 H' ys h1 h2 hp => ?_)))) ?_)
  · obtain ⟨l, hl, rfl⟩ := outO_get hi
    refine ⟨?_, fun _ => ⟨.is (.ref r), gv_cF fun _ _ _ _ _ => gv_var 2, gives_old hr' (by rw [getD_at hl])⟩⟩
    rw [getD_at hl, Mt.rounds_B]
    exact gt_cF fun _ _ _ _ _ => gt_val (gv_round co hr (by decide) (gv_var 2) (.old (SqT.of hr')))
  · rw [List.length_map] at hp
    exact ⟨D, ys, rfl, h1, h2, paired_obs hp⟩
  · rw [List.length_map, filter_getD (p := Krdm.rounds fa)]
    rfl
theorem gv_rounds {X : Cx} {σ : L2.St} {H : Hp} {j : Nat} {e1 e2 : Expr} {p pos : Pos} {q : Nat} {f : Krdk.Answer} (cc : Cal X.prog X.w X.K X.mg X.base 3 "rounds" (SpK (pRounds X.K))) (hr : Room j X.A) (hj : 3 ≤ j) (h0 : Gv (cE X e1) σ H (.is (.int (f.n : Nat)))) (h1 : Gv (cE X e2) σ H (.is (.ref q))) (hq : Seq X.K H q (SV f)) (wf : W f) (hg : Gl X "rounds" := by rfl)
    (hs0 : starEach [e1, e2] X.env = (false, eval e1 X.env) :: starEach [e2] X.env := by rfl) (hs1 : starEach [e2] X.env = (false, eval e2 X.env) :: starEach [] X.env := by rfl) (hpl : (backTo pos (starEach [e2] X.env)).any (·.1) = false := by rfl) :
    Gv (cE X (.Call (.Name "rounds" p) [e1, e2] [] pos)) σ H (.is (.int (Krdm.many f : Nat))) :=
  gv_calv (us := [.int (f.n : Nat), .ref q]) cc hr hj (ga_cons h0 (ga_cons h1 ga_nil hs1) hs0) (fun _ s => ⟨q, f, rfl, hq.same s, wf, rfl⟩) hg (by decide) hs0 hpl
theorem many_le (f : Krdk.Answer) : Krdm.many f ≤ 6 ^ f.n := by
  unfold Krdm.many
  have h := List.length_filter_le (Krdm.rounds f) (Krdm.votes f.n)
  rw [Mt.votes_len] at h
  exact h
/-! ### byparts -/
def pByParts (K : PySem.W.Frag) (vs : List V) (H : Hp) (k : Kd) : Prop := ∃ (q : Nat) (f : Krdk.Answer), vs = [.int (f.n : Nat), .ref q] ∧ Seq K H q (SV f) ∧ W f ∧ k = .ob (.lst ((Krdk.fr (Krdm.byParts f)).map .int))
def bpT (f : Krdk.Answer) (s : Nat) : Int := pt f s * pt f s * (-1) ^ Krdk.bits f.n s * 3 ^ (f.n - Krdk.bits f.n s)
/-! ### byparts: 0:bits 1:says 2:certain 3:total 4:chosen 5:share 6:size -/
theorem sc64 : FnScope ["bits", "says", "certain", "total", "chosen", "share", "size"] ["bits", "says"] (defScope (top 64)) := ⟨rfl, rfl, rfl, by decide +kernel, rfl, by decide +kernel, by decide +kernel⟩
theorem c_byparts (B : Bl mg) (cl : Cal P w K mg base 1 "lowest" (SpK pLow)) (cp : Cal P w K mg base 1 "power" (SpK pPower)) (cb : Cal P w K mg base 1 "bits_set" (SpK pBits)) (ca : Cal P w K mg base 4 "all_parts" (SpK (pAllParts K))) (Df : DefAt K mg "byparts" (top 64)) : Cal P w K mg base 5 "byparts" (SpK (pByParts K)) := by
  refine cal_pure (ps := ["bits", "says"]) Df sc64 (fun _ _ _ _ _ _ us hl => match us, hl with | [_, _], _ => rfl) (fun vs H k ⟨_, _, e, _⟩ => by rw [e]; rfl) fun f cdv A outer s H vs E k hr ⟨q, fa, e, hq, wf, ek⟩ => ?_
  subst e ek
  have hn := wf.n5
  have h5 := p2le hn
  have bN : Lb ((2 ^ fa.n : Nat) : Int) 5 := lb_nat (by omega)
  have bp : ∀ s, Lb (pt fa s) 5 := fun s => ptb wf s
  have b3 : Lb (3 : Int) 2 := by unfold Lb; decide
  have b1 : Lb (-1 : Int) 0 := by unfold Lb; decide
  have b33 : ∀ m, m ≤ 5 → Lb ((3 : Int) ^ m) 10 := fun m hm => b3.powm (m := 5) hm
  have b11 : ∀ m, m ≤ 5 → Lb ((-1 : Int) ^ m) 0 := fun m hm => b1.powm (m := 5) hm
  have bt : ∀ s, Lb (bpT fa s) 20 := fun s => (((bp s).mul (bp s)).mul (b11 _ (Nat.le_trans (Mt.bits_le _ _) hn))).mul (b33 _ (by omega))
  have bs : ∀ i, i ≤ 32 → Lb (psum (bpT fa) i) 25 := fun i hi => Lb.sum (a := 20) (m := 5) (fun x hx => by
    obtain ⟨s, _, rfl⟩ := List.mem_map.mp hx
    exact bt s) (by simpa using hi)
  have bc : Lb (((2 ^ fa.n : Nat) : Int) * ((2 ^ fa.n : Nat) : Int) * 3 ^ fa.n) 20 := (bN.mul bN).mul (b33 _ hn)
  refine gb_go fun Dn H1 s1 _ hR => ?_
  have hq := hq.same s1
  refine go_setV (v := .int (((2 ^ fa.n : Nat) : Int) * ((2 ^ fa.n : Nat) : Int) * 3 ^ fa.n)) 2 sc64.nd (gv_mul (gv_mul (Gv.is_to (gv_lenS B (gv_var 1) hq) (by rw [SV_len wf])) (Gv.is_to (gv_lenS B (gv_var 1) hq) (by rw [SV_len wf])) (bN.cm bN (by decide))) (gv_power cp hr (by decide) gv_int (gv_var 0) (b3.fifty (by decide)) (by omega)) ((bN.mul bN).cm (b33 _ hn) (by decide))) ?_
  refine go_setV 3 sc64.nd gv_int ?_
  refine go_forEL 4 5 rfl sc64.nd B.enum (gv_allparts ca hr (by decide) (gv_var 1) hq wf) .new (fun a H3 s3 n ha => ?_) PassesOwn.never (pg2 4 5 rfl sc64.nd)
  refine ⟨fun i σ' H' => H' = H3 ∧ ∃ x y z, σ' = [some (.int (fa.n : Nat)), some (.ref q), some (.int (((2 ^ fa.n : Nat) : Int) * ((2 ^ fa.n : Nat) : Int) * 3 ^ fa.n)), some (.int (psum (bpT fa) i)), x, y, z], ⟨rfl, none, none, none, rfl⟩, fun i σ' H' _ w => by rw [w.1]; exact ha, ?_, ?_⟩
  · rintro i v σ' H' hv ⟨rfl, x0, y0, z0, rfl⟩
    obtain ⟨hi, rfl⟩ := ofV hv
    have hbl := Mt.bits_le fa.n i
    refine go_setV (v := .int (Krdk.bits fa.n i : Nat)) 6 sc64.nd (Gv.is_to (gv_bits cb hr (by decide) (gv_var 4) (Mt.p32 hn hi)) (by rw [Mt.bits_bc fa.n hn i hi])) ?_
    refine go_setV (v := .int (psum (bpT fa) (i + 1))) 3 sc64.nd (Gv.is_to (gv_add (gv_var 3) (gv_mul (gv_mul (gv_mul (gv_var 5) (gv_var 5) ((bp i).cm (bp i) (by decide))) (gv_power cp hr (by decide) (gv_neg gv_int) (gv_var 6) (b1.fifty (by decide)) (by omega)) (((bp i).mul (bp i)).cm (b11 _ (by omega)) (by decide))) (gv_power (n := fa.n - Krdk.bits fa.n i) cp hr (by decide) gv_int (Gv.is_to (gv_sub (gv_var 0) (gv_var 6)) (by congr 1; omega)) (b3.fifty (by decide)) (by omega)) ((((bp i).mul (bp i)).mul (b11 _ (by omega))).cm (b33 _ (by omega)) (by decide)))) (by rw [psum_succ]; rfl)) ?_
    exact go_thru ⟨rfl, some (.int (i : Nat)), some (.int (pt fa i)), some (.int (Krdk.bits fa.n i : Nat)), rfl⟩
  · rintro σ' H' ⟨rfl, x0, y0, z0, rfl⟩
    have el : (((Krdk.words fa.n).map (pt fa)).map V.int).length = 2 ^ fa.n := by simp [Krdk.words]
    rw [el]
    have bd := bc.mono (b := 25) (by decide)
    refine go_ret (Gv.to (gv_low cl hr (by decide) (gv_mul gv_int (gv_sub (gv_var 2) (gv_var 3)) (b3.cm (bd.sub (bs _ h5)) (by decide))) (gv_mul gv_int (gv_var 2) ((show Lb (4 : Int) 2 by unfold Lb; decide).cm bc (by decide))) (Int.mul_pos (by decide) (Int.mul_pos (Int.mul_pos (p2int _) (p2int _)) (Int.pow_pos (by decide)))) ((b3.mul (bd.sub (bs _ h5))).big (by decide)) (((show Lb (4 : Int) 2 by unfold Lb; decide).mul bc).big (by decide))) ?_) (ret_back hR s3)
    rw [← Mt.low_byparts]
    rfl
theorem gv_byparts {X : Cx} {σ : L2.St} {H : Hp} {j : Nat} {e1 e2 : Expr} {p pos : Pos} {q : Nat} {f : Krdk.Answer} (cc : Cal X.prog X.w X.K X.mg X.base 5 "byparts" (SpK (pByParts X.K))) (hr : Room j X.A) (hj : 5 ≤ j) (h0 : Gv (cE X e1) σ H (.is (.int (f.n : Nat)))) (h1 : Gv (cE X e2) σ H (.is (.ref q))) (hq : Seq X.K H q (SV f)) (wf : W f) (hg : Gl X "byparts" := by rfl)
    (hs0 : starEach [e1, e2] X.env = (false, eval e1 X.env) :: starEach [e2] X.env := by rfl) (hs1 : starEach [e2] X.env = (false, eval e2 X.env) :: starEach [] X.env := by rfl) (hpl : (backTo pos (starEach [e2] X.env)).any (·.1) = false := by rfl) :
    Gv (cE X (.Call (.Name "byparts" p) [e1, e2] [] pos)) σ H (.ob (.lst ((Krdk.fr (Krdm.byParts f)).map .int))) :=
  gv_calv (us := [.int (f.n : Nat), .ref q]) cc hr hj (ga_cons h0 (ga_cons h1 ga_nil hs1) hs0) (fun _ s => ⟨q, f, rfl, hq.same s, wf, rfl⟩) hg (by decide) hs0 hpl
end
end Sw
set_option Elab.async false
set_option linter.all false
set_option maxRecDepth 100000
set_option maxHeartbeats 2000000
set_option exponentiation.threshold 3000
namespace Sw
open PySem PySem.Spec PyProof.Rows L2 Kx
open Evl (given given_yes given_no given_len)
open Mt (W S swc pt)
section
variable {P : Program} {w : World} {K : PySem.W.Frag} {mg : Str → Option Value} {base : Heap} {C : Addr}
/-- a call's def that changes nothing, of a desk of four voters at most -/
def p4Tell (K : PySem.W.Frag) (C : Addr) (p nx nr : Nat) (vs : List V) (H : Hp) (k : Kd) : Prop := ∃ (d g : Addr) (D : Krdo.Data) (xs : List Int) (rs : List (List Int)), vs = [.ref d, .ref g] ∧ DkE K C H d D ∧ D.f.n ≤ 4 ∧ Gn K H g xs rs ∧ xs.length = nx ∧ rs.length = nr ∧
  (∀ x ∈ xs, NumOk x) ∧ (∀ r ∈ rs, r.length ≤ 255 ∧ ∀ x ∈ r, NumOk x) ∧ k = .ob (.lst ((ansP p D xs rs).map .int))
theorem three_ans {p : Nat} {D : Krdo.Data} {xs : List Int} {rs : List (List Int)} {c : Krdm.Call} (hn : D.f.n ≤ 4) (hc : KrdoNeutral.call (((p : Int) :: xs) :: rs) = .three c) : ansP p D xs rs = KrdoNeutral.told (Krdm.act (some D.f) c).2 := by
  unfold ansP actP
  rw [hc]
  show KrdoNeutral.told (if Krdm.mostVoters < D.f.n then _ else _ : Krdo.Abs × Krdo.Ans).2 = _
  rw [if_neg (show ¬ Krdm.mostVoters < D.f.n by show ¬ 4 < D.f.n; omega)]
theorem vote_m (l : List Nat) : KrdoNeutral.m [[(29 : Int)], Krdk.ints l] 1 = l := ints_nat l
/-! ### tell_vote: 0:desk 1:given 2:vote 3:found -/
theorem sc57 : FnScope ["desk", "given", "vote", "found"] ["desk", "given"] (defScope (top 57)) := ⟨rfl, rfl, rfl, by decide +kernel, rfl, by decide +kernel, by decide +kernel⟩
theorem c_tell_vote (T : ClD K C) (B : Bl mg) (Z : Ct mg) (Df : DefAt K mg "tell_vote" (top 57)) (cr : Cal P w K mg base 1 "refused" (SpK pRefused)) (cv : Cal P w K mg base 1 "vote_right" (SpK (pVoteRight K))) (co : Cal P w K mg base 1 "outcome" (SpK (pOutcome K))) (cc : Cal P w K mg base 1 "comes_round" (SpK (pRound K))) : Cal P w K mg base 2 "tell_vote" (SpK (p4Tell K C 29 0 1)) := by
  refine cal_pure (ps := ["desk", "given"]) Df sc57 (fun _ _ _ _ _ _ us hl => match us, hl with | [_, _], _ => rfl) (fun vs H k ⟨_, _, _, _, _, e, _⟩ => by rw [e]; rfl) fun f cdv A outer s H vs E k hr ⟨d, g, D, xs, rs, e, ⟨dx, ad, cd, sd, ld, sh, hD⟩, hn4, hG, hx, hrs, ok, okr, ek⟩ => ?_
  obtain rfl := nil_of hx
  obtain ⟨l, rfl, hl, hlm⟩ := one_rowN hrs okr
  obtain ⟨b, hq, hb⟩ := hG.row
  subst e ek
  have wf := hD.w
  have hQ : ansP 29 D [] [Krdk.ints l] = KrdoNeutral.told (if !Krdm.voteOk D.f.n l then Krdk.say (-22) else { num := if Krdm.rounds D.f l then 1 else 0, nums := (List.range 3).map fun q => if Krdm.result D.f l q then 1 else 0 }) := by
    have e := three_ans (p := 29) (xs := []) (rs := [Krdk.ints l]) (c := .vote l) hn4 (by show Krdo.Call.three (.vote ((Krdk.ints l).map Int.toNat)) = _; rw [ints_nat])
    exact e
  rw [hQ]
  refine gb_set 2 sc57.nd (gv_at (gv_var 1) hq rfl (by decide)) (gb_if (gt_not (gt_val (gv_vote_right cv hr (by decide) (gv_bitsD T (gv_var 0) hD) (gv_var 2) hb hl))) (fun h => ?_) (fun h => ?_))
  · rw [if_pos h]
    exact gb_ret (gv_ref cr hr (by decide) Z.notRight)
  · rw [if_neg (by rw [h]; decide)]
    obtain ⟨v1, v2⟩ := voteOk_of (n := D.f.n) (l := l) (by simpa using h)
    refine gb_setO 3 sc57.nd (gv_outcome co hr (by decide) (gv_saysD T (gv_var 0) hD) (gv_var 2) (.inr hD.says) hb wf v1 v2) fun t H1 ft s1 ht => ?_
    refine gb_ret (Gv.to (gv_cat (xs := [.int (if Krdm.rounds D.f l then 1 else 0)]) (gv_lst (vs := [.int (if Krdm.rounds D.f l then 1 else 0)]) (ga_cons (gv_ite (d := Krdm.rounds D.f l) (gt_val (gv_round cc hr (by decide) (gv_var 3) (.old (SqT.of ht)))) (fun h => gv_int.is_to ?_) (fun h => gv_int.is_to ?_)) ga_nil) (Nat.le_of_ble_eq_true rfl)) (gv_listT B (gv_var 3) (.old (SqT.of ht))) (.inl rfl) (Nat.le_of_ble_eq_true rfl)) ?_)
    · rw [if_pos h]
    · rw [if_neg (by rw [h]; decide)]
    · rfl
/-! ### tell_order: 0:desk 1:given 2:vote 3:order -/
theorem sc58 : FnScope ["desk", "given", "vote", "order"] ["desk", "given"] (defScope (top 58)) := ⟨rfl, rfl, rfl, by decide +kernel, rfl, by decide +kernel, by decide +kernel⟩
theorem c_tell_order (T : ClD K C) (B : Bl mg) (Z : Ct mg) (Df : DefAt K mg "tell_order" (top 58)) (cr : Cal P w K mg base 1 "refused" (SpK pRefused)) (cv : Cal P w K mg base 1 "vote_right" (SpK (pVoteRight K))) (co : Cal P w K mg base 1 "outcome" (SpK (pOutcome K))) (cc : Cal P w K mg base 1 "order_of" (SpK (pOrderOf K))) : Cal P w K mg base 2 "tell_order" (SpK (p4Tell K C 31 0 1)) := by
  refine cal_pure (ps := ["desk", "given"]) Df sc58 (fun _ _ _ _ _ _ us hl => match us, hl with | [_, _], _ => rfl) (fun vs H k ⟨_, _, _, _, _, e, _⟩ => by rw [e]; rfl) fun f cdv A outer s H vs E k hr ⟨d, g, D, xs, rs, e, ⟨dx, ad, cd, sd, ld, sh, hD⟩, hn4, hG, hx, hrs, ok, okr, ek⟩ => ?_
  obtain rfl := nil_of hx
  obtain ⟨l, rfl, hl, hlm⟩ := one_rowN hrs okr
  obtain ⟨b, hq, hb⟩ := hG.row
  subst e ek
  have wf := hD.w
  have hQ : ansP 31 D [] [Krdk.ints l] = KrdoNeutral.told (if !Krdm.voteOk D.f.n l then Krdk.say (-22) else match Krdm.order D.f l with
    | none => Krdk.say (-33)
    | some o => Krdk.nat o) := by
    have e := three_ans (p := 31) (xs := []) (rs := [Krdk.ints l]) (c := .order l) hn4 (by show Krdo.Call.three (.order ((Krdk.ints l).map Int.toNat)) = _; rw [ints_nat])
    exact e
  rw [hQ]
  refine gb_set 2 sc58.nd (gv_at (gv_var 1) hq rfl (by decide)) (gb_if (gt_not (gt_val (gv_vote_right cv hr (by decide) (gv_bitsD T (gv_var 0) hD) (gv_var 2) hb hl))) (fun h => ?_) (fun h => ?_))
  · rw [if_pos h]
    exact gb_ret (gv_ref cr hr (by decide) Z.notRight)
  · rw [if_neg (by rw [h]; decide)]
    obtain ⟨v1, v2⟩ := voteOk_of (n := D.f.n) (l := l) (by simpa using h)
    rw [Mt.order_B]
    refine gb_set (v := vOpt (Mt.ordB (Krdm.result D.f l 0) (Krdm.result D.f l 1) (Krdm.result D.f l 2))) 3 sc58.nd (gv_calk cc hr (by decide) (ga_cons (gv_outcome co hr (by decide) (gv_saysD T (gv_var 0) hD) (gv_var 2) (.inr hD.says) hb wf v1 v2) ga_nil) (fun vs H1 s1 z => ?_)) ?_
    · obtain ⟨u1, r1, rfl, ⟨t, rfl, ht⟩, rfl⟩ := z
      exact ⟨t, _, _, _, rfl, SqT.of ht, rfl⟩
    · cases Mt.ordB (Krdm.result D.f l 0) (Krdm.result D.f l 1) (Krdm.result D.f l 2) with
      | none => exact gb_if (d := true) (Gt.to (gt_isN (gv_var 3) gv_non) rfl) (fun _ => gb_ret (gv_ref cr hr (by decide) Z.noneFound)) (fun h => by cases h)
      | some o => exact gb_if (d := false) (Gt.to (gt_isN (gv_var 3) gv_non) rfl) (fun h => by cases h) (fun _ => gb_ret (gv_lst (vs := [.int (o : Nat)]) (ga_cons (gv_var 3) ga_nil) (Nat.le_of_ble_eq_true rfl)))
/-! ### tell_winner: 0:desk 1:given 2:vote 3:order -/
theorem sc60 : FnScope ["desk", "given", "vote", "order"] ["desk", "given"] (defScope (top 60)) := ⟨rfl, rfl, rfl, by decide +kernel, rfl, by decide +kernel, by decide +kernel⟩
theorem c_tell_winner (T : ClD K C) (B : Bl mg) (Z : Ct mg) (Df : DefAt K mg "tell_winner" (top 60)) (cr : Cal P w K mg base 1 "refused" (SpK pRefused)) (cv : Cal P w K mg base 1 "vote_right" (SpK (pVoteRight K))) (co : Cal P w K mg base 1 "outcome" (SpK (pOutcome K))) (cc : Cal P w K mg base 1 "order_of" (SpK (pOrderOf K))) (cf : Cal P w K mg base 1 "first_thing" (SpK pFirst)) : Cal P w K mg base 2 "tell_winner" (SpK (p4Tell K C 30 0 1)) := by
  refine cal_pure (ps := ["desk", "given"]) Df sc60 (fun _ _ _ _ _ _ us hl => match us, hl with | [_, _], _ => rfl) (fun vs H k ⟨_, _, _, _, _, e, _⟩ => by rw [e]; rfl) fun f cdv A outer s H vs E k hr ⟨d, g, D, xs, rs, e, ⟨dx, ad, cd, sd, ld, sh, hD⟩, hn4, hG, hx, hrs, ok, okr, ek⟩ => ?_
  obtain rfl := nil_of hx
  obtain ⟨l, rfl, hl, hlm⟩ := one_rowN hrs okr
  obtain ⟨b, hq, hb⟩ := hG.row
  subst e ek
  have wf := hD.w
  have hQ : ansP 30 D [] [Krdk.ints l] = KrdoNeutral.told (if !Krdm.voteOk D.f.n l then Krdk.say (-22) else match Krdm.winner D.f l with
    | none => Krdk.say (-33)
    | some o => Krdk.nat o) := by
    have e := three_ans (p := 30) (xs := []) (rs := [Krdk.ints l]) (c := .winner l) hn4 (by show Krdo.Call.three (.winner ((Krdk.ints l).map Int.toNat)) = _; rw [ints_nat])
    exact e
  rw [hQ]
  refine gb_set 2 sc60.nd (gv_at (gv_var 1) hq rfl (by decide)) (gb_if (gt_not (gt_val (gv_vote_right cv hr (by decide) (gv_bitsD T (gv_var 0) hD) (gv_var 2) hb hl))) (fun h => ?_) (fun h => ?_))
  · rw [if_pos h]
    exact gb_ret (gv_ref cr hr (by decide) Z.notRight)
  · rw [if_neg (by rw [h]; decide)]
    obtain ⟨v1, v2⟩ := voteOk_of (n := D.f.n) (l := l) (by simpa using h)
    rw [Mt.winner_B, Mt.win_ord]
    refine gb_set (v := vOpt (Mt.ordB (Krdm.result D.f l 0) (Krdm.result D.f l 1) (Krdm.result D.f l 2))) 3 sc60.nd (gv_calk cc hr (by decide) (ga_cons (gv_outcome co hr (by decide) (gv_saysD T (gv_var 0) hD) (gv_var 2) (.inr hD.says) hb wf v1 v2) ga_nil) (fun vs H1 s1 z => ?_)) ?_
    · obtain ⟨u1, r1, rfl, ⟨t, rfl, ht⟩, rfl⟩ := z
      exact ⟨t, _, _, _, rfl, SqT.of ht, rfl⟩
    · cases Mt.ordB (Krdm.result D.f l 0) (Krdm.result D.f l 1) (Krdm.result D.f l 2) with
      | none => exact gb_if (d := true) (Gt.to (gt_isN (gv_var 3) gv_non) rfl) (fun _ => gb_ret (gv_ref cr hr (by decide) Z.noneFound)) (fun h => by cases h)
      | some o => exact gb_if (d := false) (Gt.to (gt_isN (gv_var 3) gv_non) rfl) (fun h => by cases h) (fun _ => gb_ret (gv_lst (vs := [.int ((o / 2 : Nat) : Int)]) (ga_cons (gv_first_thing cf hr (by decide) (gv_var 3)) ga_nil) (Nat.le_of_ble_eq_true rfl)))
/-! ### tell_rounds: 0:desk 1:given -/
theorem sc62 : FnScope ["desk", "given"] ["desk", "given"] (defScope (top 62)) := ⟨rfl, rfl, rfl, by decide +kernel, rfl, by decide +kernel, by decide +kernel⟩
theorem c_tell_rounds (T : ClD K C) (B : Bl mg) (Z : Ct mg) (Df : DefAt K mg "tell_rounds" (top 62)) (cc : Cal P w K mg base 3 "rounds" (SpK (pRounds K))) : Cal P w K mg base 4 "tell_rounds" (SpK (p4Tell K C 32 0 0)) := by
  refine cal_pure (ps := ["desk", "given"]) Df sc62 (fun _ _ _ _ _ _ us hl => match us, hl with | [_, _], _ => rfl) (fun vs H k ⟨_, _, _, _, _, e, _⟩ => by rw [e]; rfl) fun f cdv A outer s H vs E k hr ⟨d, g, D, xs, rs, e, ⟨dx, ad, cd, sd, ld, sh, hD⟩, hn4, hG, hx, hrs, ok, okr, ek⟩ => ?_
  obtain rfl := nil_of hx
  obtain rfl := nil_of hrs
  have hq := hG.nums
  subst e ek
  have wf := hD.w
  have hQ : ansP 32 D [] [] = [((Krdm.many D.f : Nat) : Int)] := by
    have e := three_ans (p := 32) (xs := []) (rs := []) (c := .rounds) hn4 rfl
    exact e
  rw [hQ]
  exact gb_ret (gv_lst (vs := [.int _]) (ga_cons (gv_rounds cc hr (by decide) (gv_bitsD T (gv_var 0) hD) (gv_saysD T (gv_var 0) hD) (.inr hD.says) wf) ga_nil) (Nat.le_of_ble_eq_true rfl))
/-! ### tell_noround: 0:desk 1:given 2:votes -/
theorem sc63 : FnScope ["desk", "given", "votes"] ["desk", "given"] (defScope (top 63)) := ⟨rfl, rfl, rfl, by decide +kernel, rfl, by decide +kernel, by decide +kernel⟩
theorem c_tell_noround (T : ClD K C) (B : Bl mg) (Z : Ct mg) (Df : DefAt K mg "tell_noround" (top 63)) (O : Tb K mg "ORDERS" ordRows) (cl : Cal P w K mg base 1 "lowest" (SpK pLow)) (cp : Cal P w K mg base 1 "power" (SpK pPower)) (cc : Cal P w K mg base 3 "rounds" (SpK (pRounds K))) : Cal P w K mg base 4 "tell_noround" (SpK (p4Tell K C 33 0 0)) := by
  refine cal_pure (ps := ["desk", "given"]) Df sc63 (fun _ _ _ _ _ _ us hl => match us, hl with | [_, _], _ => rfl) (fun vs H k ⟨_, _, _, _, _, e, _⟩ => by rw [e]; rfl) fun f cdv A outer s H vs E k hr ⟨d, g, D, xs, rs, e, ⟨dx, ad, cd, sd, ld, sh, hD⟩, hn4, hG, hx, hrs, ok, okr, ek⟩ => ?_
  obtain rfl := nil_of hx
  obtain rfl := nil_of hrs
  have hq := hG.nums
  subst e ek
  have wf := hD.w
  have hQ : ansP 33 D [] [] = 0 :: Krdk.fr (Krdm.noRound D.f) := by
    have e := three_ans (p := 33) (xs := []) (rs := []) (c := .noround) hn4 rfl
    exact e
  rw [hQ, ← Mt.low_noround]
  have h1 := many_le D.f
  have h2 := p6 wf.n5
  have e6 : ((6 : Int) ^ D.f.n) = ((6 ^ D.f.n : Nat) : Int) := by simp
  have h3 : ((6 : Int) ^ D.f.n).natAbs ≤ 7776 := by rw [e6, Int.natAbs_natCast]; exact h2
  have h4 : ((6 : Int) ^ D.f.n - (Krdm.many D.f : Int)).natAbs ≤ 7776 := by rw [e6]; omega
  refine gb_set 2 sc63.nd (gv_power cp hr (by decide) (gv_lenOrd B O) (gv_bitsD T (gv_var 0) hD) (by decide) (by omega)) ?_
  exact gb_ret (gv_zero (gv_low cl hr (by decide) (gv_sub (gv_var 2) (gv_rounds cc hr (by decide) (gv_bitsD T (gv_var 0) hD) (gv_saysD T (gv_var 0) hD) (.inr hD.says) wf)) (gv_var 2) (Int.pow_pos (by decide)) (lowb (by omega)) (lowb (by omega))) (by rw [low_len]; decide))
/-! ### tell_byparts: 0:desk 1:given -/
theorem sc65 : FnScope ["desk", "given"] ["desk", "given"] (defScope (top 65)) := ⟨rfl, rfl, rfl, by decide +kernel, rfl, by decide +kernel, by decide +kernel⟩
theorem c_tell_byparts (T : ClD K C) (B : Bl mg) (Z : Ct mg) (Df : DefAt K mg "tell_byparts" (top 65)) (cc : Cal P w K mg base 5 "byparts" (SpK (pByParts K))) : Cal P w K mg base 6 "tell_byparts" (SpK (p4Tell K C 34 0 0)) := by
  refine cal_pure (ps := ["desk", "given"]) Df sc65 (fun _ _ _ _ _ _ us hl => match us, hl with | [_, _], _ => rfl) (fun vs H k ⟨_, _, _, _, _, e, _⟩ => by rw [e]; rfl) fun f cdv A outer s H vs E k hr ⟨d, g, D, xs, rs, e, ⟨dx, ad, cd, sd, ld, sh, hD⟩, hn4, hG, hx, hrs, ok, okr, ek⟩ => ?_
  obtain rfl := nil_of hx
  obtain rfl := nil_of hrs
  have hq := hG.nums
  subst e ek
  have wf := hD.w
  have hQ : ansP 34 D [] [] = 0 :: Krdk.fr (Krdm.byParts D.f) := by
    have e := three_ans (p := 34) (xs := []) (rs := []) (c := .byparts) hn4 rfl
    exact e
  rw [hQ]
  exact gb_ret (gv_zero (gv_byparts cc hr (by decide) (gv_bitsD T (gv_var 0) hD) (gv_saysD T (gv_var 0) hD) (.inr hD.says) wf) (by show 2 ≤ _; decide))
/-! ### tell_isodd: 0:desk 1:given 2:last 3:word 4:said -/
theorem sc66 : FnScope ["desk", "given", "last", "word", "said"] ["desk", "given"] (defScope (top 66)) := ⟨rfl, rfl, rfl, by decide +kernel, rfl, by decide +kernel, by decide +kernel⟩
theorem c_tell_isodd (T : ClD K C) (B : Bl mg) (Z : Ct mg) (Df : DefAt K mg "tell_isodd" (top 66))  : Cal P w K mg base 2 "tell_isodd" (SpK (p4Tell K C 35 0 0)) := by
  refine cal_pure (ps := ["desk", "given"]) Df sc66 (fun _ _ _ _ _ _ us hl => match us, hl with | [_, _], _ => rfl) (fun vs H k ⟨_, _, _, _, _, e, _⟩ => by rw [e]; rfl) fun f cdv A outer s H vs E k hr ⟨d, g, D, xs, rs, e, ⟨dx, ad, cd, sd, ld, sh, hD⟩, hn4, hG, hx, hrs, ok, okr, ek⟩ => ?_
  obtain rfl := nil_of hx
  obtain rfl := nil_of hrs
  have hq := hG.nums
  subst e ek
  have wf := hD.w
  have hn := wf.n5
  have h5 := p2le hn
  have hQ : ansP 35 D [] [] = KrdoNeutral.told (Krdk.ask (Krdm.odd D.f)) := by
    have e := three_ans (p := 35) (xs := []) (rs := []) (c := .odd) hn4 rfl
    exact e
  rw [hQ]
  have h2 : 0 < 2 ^ D.f.n := Nat.pow_pos (by decide)
  refine gb_set (v := .int ((2 ^ D.f.n - 1 : Nat) : Int)) 2 sc66.nd (Gv.is_to (gv_sub (gv_lenD T B (gv_var 0) hD) gv_int) (by congr 1; omega)) ?_
  refine gb_ret (Gv.to (gv_lst (vs := [.int (if Krdm.odd D.f then 1 else 0)]) (ga_cons (gv_ite (d := Krdm.odd D.f) (gt_val (Gv.is_to (gv_all (bs := (Krdk.words D.f.n).map fun x => D.f.at_ (Krdm.full D.f.n - x) != D.f.at_ x) rfl B (Gv.to (gv_lcES 3 4 rfl sc66.nd B.enum (gv_saysD T (gv_var 0) hD) (.inr hD.says) (SV_le wf) (blkOk_by (own := [("word", 3), ("said", 4)]) (N := ["desk", "given", "last", "word", "said"]) (sc := defScope (top 66)) (by decide +kernel)) (fun _ _ _ _ _ => pg2 3 4 rfl sc66.nd) (fun _ _ _ _ _ => pts_nil)
    (fun _ => true) (fun x => .bl (D.f.at_ (Krdm.full D.f.n - x) != D.f.at_ x)) (fun _ _ => rfl) (fun _ _ _ => gt_yes) (fun x v hv _ => ?_)) ?_) .new) ?_)) (fun h => gv_int.is_to ?_) (fun h => gv_int.is_to ?_)) ga_nil) (Nat.le_of_ble_eq_true rfl)) ?_)
  · obtain ⟨hx, rfl⟩ := SV_of wf hv
    refine gv_cF fun _ _ _ _ _ => Gv.is_to (gv_ne (gv_var 4) (gv_ixT (gv_saysD T (gv_var 0) hD) (.old hD.says) (Gv.is_to (w := .int ((2 ^ D.f.n - 1 - x : Nat) : Int)) (gv_sub (gv_var 2) (gv_var 3)) (by congr 1; omega)) (atI_nat (SV_at wf (by omega))))) ?_
    rw [b2i_ne]
    congr 1
    show (D.f.at_ x != D.f.at_ (2 ^ D.f.n - 1 - x)) = (D.f.at_ (2 ^ D.f.n - 1 - x) != D.f.at_ x)
    cases D.f.at_ x <;> cases D.f.at_ (2 ^ D.f.n - 1 - x) <;> rfl
  · rw [given_all, SV_len wf, List.map_map]; rfl
  · rw [all_map]; rfl
  · rw [if_pos h]
  · rw [if_neg (by rw [h]; decide)]
  · cases Krdm.odd D.f <;> rfl
/-! ### tell_alike: 0:desk 1:given 2:like 3:word 4:said -/
theorem sc67 : FnScope ["desk", "given", "like", "word", "said"] ["desk", "given"] (defScope (top 67)) := ⟨rfl, rfl, rfl, by decide +kernel, rfl, by decide +kernel, by decide +kernel⟩
theorem c_tell_alike (T : ClD K C) (B : Bl mg) (Z : Ct mg) (Df : DefAt K mg "tell_alike" (top 67)) (cb : Cal P w K mg base 1 "bits_set" (SpK pBits)) : Cal P w K mg base 2 "tell_alike" (SpK (p4Tell K C 36 0 0)) := by
  refine cal_pure (ps := ["desk", "given"]) Df sc67 (fun _ _ _ _ _ _ us hl => match us, hl with | [_, _], _ => rfl) (fun vs H k ⟨_, _, _, _, _, e, _⟩ => by rw [e]; rfl) fun f cdv A outer s H vs E k hr ⟨d, g, D, xs, rs, e, ⟨dx, ad, cd, sd, ld, sh, hD⟩, hn4, hG, hx, hrs, ok, okr, ek⟩ => ?_
  obtain rfl := nil_of hx
  obtain rfl := nil_of hrs
  have hq := hG.nums
  subst e ek
  have wf := hD.w
  have hn := wf.n5
  have h5 := p2le hn
  have hQ : ansP 36 D [] [] = KrdoNeutral.told (Krdk.ask (Krdm.alike D.f)) := by
    have e := three_ans (p := 36) (xs := []) (rs := []) (c := .alike) hn4 rfl
    exact e
  rw [hQ, Mt.alike_eq wf]
  generalize hA : ((Krdk.words D.f.n).all fun x => D.f.at_ x == D.f.at_ (2 ^ Krdk.bits D.f.n x - 1)) = A0
  refine gb_lcX 2 rfl sc67.nd (LcR.to (lc_ET 3 4 B.enum (gv_saysD T (gv_var 0) hD) (.old hD.says) (SV_le wf) (blkOk_by (own := [("word", 3), ("said", 4)]) (N := ["desk", "given", "like", "word", "said"]) (sc := defScope (top 67)) (by decide +kernel)) (fun _ _ _ _ _ => pg2 3 4 rfl sc67.nd) (fun _ _ _ _ _ => pts_nil)
    (fun _ => true) (fun x => .bl (D.f.at_ x == D.f.at_ (2 ^ Krdk.bits D.f.n x - 1))) (fun _ _ => rfl) (fun _ _ _ => gt_yes) (fun x v hv _ => ?_)) (k' := .ob (.lst (((Krdk.words D.f.n).map fun x => D.f.at_ x == D.f.at_ (2 ^ Krdk.bits D.f.n x - 1)).map .bl))) ?_) fun q H1 fq s1 hq1 => ?_
  · obtain ⟨hx, rfl⟩ := SV_of wf hv
    obtain ⟨c1, c2⟩ := Mt.class_of D.f.n hn x hx
    have hb1 : 0 < 2 ^ Krdk.bits D.f.n x := Nat.pow_pos (by decide)
    refine gv_cF fun _ _ _ _ _ => Gv.is_to (gv_eq (gv_var 4) (gv_ixT (gv_saysD T (gv_var 0) hD) (.old hD.says) (Gv.is_to (w := .int ((2 ^ Krdk.bits D.f.n x - 1 : Nat) : Int)) (gv_sub (gv_shlN (m := 1) (n := Krdk.bits D.f.n x) gv_int (Gv.is_to (gv_bits cb hr (by decide) (gv_var 3) (Mt.p32 hn hx)) (by rw [Mt.bits_bc D.f.n hn x hx])) (by decide) (by have := Mt.bits_le D.f.n x; omega)) gv_int) ?_) (atI_nat (SV_at wf c1)))) ?_
    · rw [shl1]
      congr 1
      omega
    · cases D.f.at_ x <;> cases D.f.at_ (2 ^ Krdk.bits D.f.n x - 1) <;> rfl
  · rw [given_all, SV_len wf, List.map_map]; rfl
  · refine gb_ret (Gv.to (gv_lst (vs := [.int (if A0 then 1 else 0)]) (ga_cons (gv_ite (d := A0) (gt_val (Gv.is_to (gv_all rfl B (gv_var 2) (.old (SqL.of hq1))) (by rw [all_map, hA]))) (fun h => gv_int.is_to (by rw [if_pos h])) (fun h => gv_int.is_to (by rw [if_neg (by rw [h]; decide)]))) ga_nil) (Nat.le_of_ble_eq_true rfl)) ?_)
    cases A0 <;> rfl
theorem findSome_first {α : Type} {N i : Nat} {p : Nat → Option α} {a : α} (h : p i = some a) (hi : i < N) (hf : ∀ j, j < i → p j = none) : (List.range N).findSome? p = some a := by
  induction N with
  | zero => omega
  | succ N ih =>
    rw [List.range_succ, List.findSome?_append]
    by_cases z : i < N
    · rw [ih z]; rfl
    · have e : i = N := by omega
      subst e
      have : (List.range i).findSome? p = none := by
        rw [List.findSome?_eq_none_iff]
        intro x hx
        exact hf x (List.mem_range.mp hx)
      rw [this]
      show [i].findSome? p = _
      rw [List.findSome?_cons, h]
theorem findSome_none {α : Type} {N : Nat} {p : Nat → Option α} (hf : ∀ j, j < N → p j = none) : (List.range N).findSome? p = none := by
  rw [List.findSome?_eq_none_iff]
  intro x hx
  exact hf x (List.mem_range.mp hx)
/-- whose voter i is it -/
def whoI (f : Krdk.Answer) (i : Nat) : Option (Nat × Bool) := if (Krdk.words f.n).all fun x => f.at_ x == x.testBit i then some (i, true) else if (Krdk.words f.n).all fun x => f.at_ x != x.testBit i then some (i, false) else none
/-! ### tell_whose: 0:desk 1:given 2:size 3:bit 4:count 5:word 6:said -/
theorem sc68 : FnScope ["desk", "given", "size", "bit", "count", "word", "said"] ["desk", "given"] (defScope (top 68)) := ⟨rfl, rfl, rfl, by decide +kernel, rfl, by decide +kernel, by decide +kernel⟩
theorem c_tell_whose (T : ClD K C) (B : Bl mg) (Z : Ct mg) (Df : DefAt K mg "tell_whose" (top 68)) (cr : Cal P w K mg base 1 "refused" (SpK pRefused)) : Cal P w K mg base 2 "tell_whose" (SpK (p4Tell K C 37 0 0)) := by
  refine cal_pure (ps := ["desk", "given"]) Df sc68 (fun _ _ _ _ _ _ us hl => match us, hl with | [_, _], _ => rfl) (fun vs H k ⟨_, _, _, _, _, e, _⟩ => by rw [e]; rfl) fun f cdv A outer s H vs E k hr ⟨d, g, D, xs, rs, e, ⟨dx, ad, cd, sd, ld, sh, hD⟩, hn4, hG, hx, hrs, ok, okr, ek⟩ => ?_
  obtain rfl := nil_of hx
  obtain rfl := nil_of hrs
  have hq := hG.nums
  subst e ek
  have wf := hD.w
  have hn := wf.n5
  have h5 := p2le hn
  have hQ : ansP 37 D [] [] = KrdoNeutral.told (match (List.range D.f.n).findSome? (whoI D.f) with
    | none => Krdk.say (-33)
    | some y => { num := y.1, nums := [if y.2 then 1 else 0] }) := by
    have e := three_ans (p := 37) (xs := []) (rs := []) (c := .whose) hn4 rfl
    exact e
  rw [hQ]
  have cnt : ∀ i, whoI D.f i = if ((Krdk.words D.f.n).filter fun x => D.f.at_ x == x.testBit i).length = 2 ^ D.f.n then some (i, true) else if ((Krdk.words D.f.n).filter fun x => D.f.at_ x == x.testBit i).length = 0 then some (i, false) else none := by
    intro i
    unfold whoI
    have e1 := Mt.all_count (fun x => D.f.at_ x == x.testBit i) (Krdk.words D.f.n)
    have e2 := Mt.none_count (fun x => D.f.at_ x == x.testBit i) (Krdk.words D.f.n)
    have e3 : (fun x => !(D.f.at_ x == x.testBit i)) = fun x => D.f.at_ x != x.testBit i := rfl
    have e4 : (Krdk.words D.f.n).length = 2 ^ D.f.n := by simp [Krdk.words]
    rw [e3] at e2
    rw [e1, e2, e4]
    simp only [beq_iff_eq]
  refine gb_set 2 sc68.nd (gv_lenD T B (gv_var 0) hD) ?_
  refine gb_forR (n := (D.f.n : Int)) 3 rfl sc68.nd B.range (gv_bitsD T (gv_var 0) hD) (by omega) (fun i σ' => (∀ j, j < i → whoI D.f j = none) ∧ ∃ x y, σ' = [some (.ref d), some (.ref g), some (.int ((2 ^ D.f.n : Nat) : Int)), x, y, none, none]) ⟨fun j h => absurd h (Nat.not_lt_zero j), none, none, rfl⟩ ?_ ?_ PassesOwn.never
  · rintro i σ' hi ⟨hf, x0, y0, rfl⟩
    have hi2 : i < D.f.n := by omega
    refine gb_set (v := .int ((((Krdk.words D.f.n).filter fun x => D.f.at_ x == x.testBit i).length : Nat) : Int)) 4 sc68.nd (Gv.is_to (gv_sumL (ns := ((Krdk.words D.f.n).filter fun x => D.f.at_ x == x.testBit i).map fun _ => (1 : Int)) rfl B (Gv.to (gv_lcES 5 6 rfl sc68.nd B.enum (gv_saysD T (gv_var 0) hD) (.inr hD.says) (SV_le wf) (blkOk_by (own := [("word", 5), ("said", 6)]) (N := ["desk", "given", "size", "bit", "count", "word", "said"]) (sc := defScope (top 68)) (by decide +kernel)) (fun _ _ _ _ _ => pg2 5 6 rfl sc68.nd) pts_c
      (fun x => D.f.at_ x == x.testBit i) (fun _ => .int 1) (fun _ _ => rfl) (fun x v hv => ?_) (fun x v hv _ => gv_cF fun _ _ _ _ _ => gv_int)) ?_) .new) ?_) ?_
    · obtain ⟨hx, rfl⟩ := SV_of wf hv
      refine gt_cF fun _ _ _ _ _ => Gt.to (gt_eq (gv_var 6) (gv_bandN (n := 1) (gv_shrN (gv_var 5) (gv_var 3)) gv_int)) ?_
      rw [Mt.shr_and x (Mt.p32 hn hx) i (by omega)]
      cases D.f.at_ x <;> cases x.testBit i <;> rfl
    · rw [SV_len wf]
      unfold given
      rw [List.map_map]; rfl
    · congr 1
      have : ∀ l : List Nat, (l.map fun _ => (1 : Int)).sum = (l.length : Int) := by
        intro l
        induction l with
        | nil => rfl
        | cons y l ih => rw [List.map_cons, List.sum_cons, ih, List.length_cons]; omega
      rw [this]
    · have ci := cnt i
      generalize ((Krdk.words D.f.n).filter fun x => D.f.at_ x == x.testBit i).length = c at ci
      refine gb_if (d := decide (c = 2 ^ D.f.n)) (Gt.to (gt_eq (gv_var 4) (gv_var 2)) ?_) (fun h => ?_) (fun h => ?_)
      · rw [Bool.eq_iff_iff, beq_iff_eq, decide_eq_true_eq]; exact Int.ofNat_inj
      · rw [if_pos (of_decide_eq_true h)] at ci
        have e : (List.range D.f.n).findSome? (whoI D.f) = some (i, true) := findSome_first ci hi2 hf
        rw [e]
        exact gb_ret (gv_lst (vs := [.int (i : Nat), .int 1]) (ga_cons (gv_var 3) (ga_cons gv_int ga_nil)) (Nat.le_of_ble_eq_true rfl))
      · rw [if_neg (of_decide_eq_false h)] at ci
        refine gb_if (d := decide (c = 0)) (Gt.to (gt_eq (gv_var 4) gv_int) ?_) (fun h => ?_) (fun h => ?_)
        · rw [Bool.eq_iff_iff]; simp
        · rw [if_pos (of_decide_eq_true h)] at ci
          have e : (List.range D.f.n).findSome? (whoI D.f) = some (i, false) := findSome_first ci hi2 hf
          rw [e]
          exact gb_ret (gv_lst (vs := [.int (i : Nat), .int 0]) (ga_cons (gv_var 3) (ga_cons gv_int ga_nil)) (Nat.le_of_ble_eq_true rfl))
        · rw [if_neg (of_decide_eq_false h)] at ci
          refine gb_nil ⟨fun j hj => ?_, some (.int (i : Nat)), some (.int (c : Nat)), rfl⟩
          by_cases z : j < i
          · exact hf j z
          · have : j = i := by omega
            rw [this]; exact ci
  · rintro σ' ⟨hf, x0, y0, rfl⟩
    have e : (List.range D.f.n).findSome? (whoI D.f) = none := findSome_none (fun j hj => hf j (by simpa using hj))
    rw [e]
    exact gb_ret (gv_ref cr hr (by decide) Z.noneFound)
end
end Sw
set_option Elab.async false
set_option linter.all false
set_option maxRecDepth 100000
set_option maxHeartbeats 2000000
set_option exponentiation.threshold 3000
namespace Sw
open PySem PySem.Spec PyProof.Rows L2 Kx
open Evl (given given_yes given_no given_len)
open Mt (W S swc pt)
section
variable {P : Program} {w : World} {K : PySem.W.Frag} {mg : Str → Option Value} {base : Heap} {C : Addr}
theorem find_at {α : Type} {l : List α} {i : Nat} {a : α} {p : α → Bool} (h : l[i]? = some a) (hp : p a = true) (hf : ∀ (j : Nat) (b : α), j < i → l[j]? = some b → p b = false) : l.find? p = some a := by
  have hi := (List.getElem?_eq_some_iff.mp h).1
  have e := (List.getElem?_eq_some_iff.mp h).2
  rw [List.find?_eq_some_iff_getElem]
  refine ⟨hp, i, hi, e, fun j hj => ?_⟩
  rw [hf j (l[j]'(by omega)) hj (List.getElem?_eq_getElem (by omega))]
  rfl
theorem find_no {α : Type} {l : List α} {p : α → Bool} (hf : ∀ (j : Nat) (b : α), j < l.length → l[j]? = some b → p b = false) : l.find? p = none := by
  rw [List.find?_eq_none]
  intro x hx
  obtain ⟨j, hj, e⟩ := List.mem_iff_getElem.mp hx
  rw [hf j x hj (by rw [← e]; exact List.getElem?_eq_getElem hj)]
  decide
/-! ### tell_first: 0:desk 1:given 2:vote -/
theorem sc69 : FnScope ["desk", "given", "vote"] ["desk", "given"] (defScope (top 69)) := ⟨rfl, rfl, rfl, by decide +kernel, rfl, by decide +kernel, by decide +kernel⟩
theorem c_tell_first (T : ClD K C) (B : Bl mg) (Z : Ct mg) (Df : DefAt K mg "tell_first" (top 69)) (cr : Cal P w K mg base 1 "refused" (SpK pRefused)) (ca : Cal P w K mg base 1 "all_votes" (SpK pAllVotes)) (co : Cal P w K mg base 1 "outcome" (SpK (pOutcome K))) (cc : Cal P w K mg base 1 "comes_round" (SpK (pRound K))) : Cal P w K mg base 2 "tell_first" (SpK (p4Tell K C 38 0 0)) := by
  refine cal_pure (ps := ["desk", "given"]) Df sc69 (fun _ _ _ _ _ _ us hl => match us, hl with | [_, _], _ => rfl) (fun vs H k ⟨_, _, _, _, _, e, _⟩ => by rw [e]; rfl) fun f cdv A outer s H vs E k hr ⟨d, g, D, xs, rs, e, ⟨dx, ad, cd, sd, ld, sh, hD⟩, hn4, hG, hx, hrs, ok, okr, ek⟩ => ?_
  obtain rfl := nil_of hx
  obtain rfl := nil_of hrs
  have hq := hG.nums
  subst e ek
  have wf := hD.w
  have hn := wf.n5
  have hQ : ansP 38 D [] [] = KrdoNeutral.told (match (Krdm.votes D.f.n).find? (Krdm.rounds D.f) with
    | none => Krdk.say (-33)
    | some l => Krdk.list l) := by
    have e := three_ans (p := 38) (xs := []) (rs := []) (c := .first) hn4 rfl
    exact e
  rw [hQ]
  refine gb_go fun Dn H1 s1 _ hR => ?_
  have hD := hD.same s1
  refine go_forO 2 rfl sc69.nd (gv_all_votes ca hr (by decide) (gv_bitsD T (gv_var 0) hD) hn) (fun a us H2 s2 ha hus => ?_) PassesOwn.never
  have hln : us.length = (Krdm.votes D.f.n).length := by rw [Paired.length hus]; unfold obsV; rw [List.length_map]
  refine ⟨fun i σ' H' => H' = H2 ∧ (∀ (j : Nat) (b : List Nat), j < i → (Krdm.votes D.f.n)[j]? = some b → Krdm.rounds D.f b = false) ∧ ∃ x, σ' = [some (.ref d), some (.ref g), x], ⟨rfl, fun j b h => absurd h (Nat.not_lt_zero j), none, rfl⟩, fun i σ' H' _ w => by rw [w.1]; exact SqL.of ha, ?_, ?_⟩
  · rintro i v σ' H' hv ⟨rfl, hf, x0, rfl⟩
    obtain ⟨o, ho, r, rfl, hr'⟩ := L2.paired_get hus hv
    obtain ⟨l, hl, rfl⟩ := obsV_get ho
    obtain ⟨h1, h2⟩ := Mt.votes_ok D.f.n l (List.mem_of_getElem? hl)
    have hD := hD.same s2
    refine go_if (d := Krdm.rounds D.f l) (Gt.to (gt_val (gv_round (a := Krdm.result D.f l 0) (b := Krdm.result D.f l 1) (c := Krdm.result D.f l 2) cc hr (by decide) (gv_outcome co hr (by decide) (gv_saysD T (gv_var 0) hD) (gv_var 2) (.inr hD.says) (SqL.of hr') wf h1 h2) .new)) rfl) (fun h nx => ?_) (fun h => ?_)
    · have e : (Krdm.votes D.f.n).find? (Krdm.rounds D.f) = some l := find_at hl h hf
      rw [e] at hR
      refine go_ret (Gv.to (gv_catM (xs := [.int (D.f.n : Nat)]) (gv_lst (vs := [.int (D.f.n : Nat)]) (ga_cons (gv_bitsD T (gv_var 0) hD) ga_nil) (Nat.le_of_ble_eq_true rfl)) (.inl rfl) (gv_var 2) (.inr ⟨r, rfl, hr'⟩) (by rw [NV_len]; show 1 + _ ≤ _; omega)) ?_) (ret_back hR s2)
      show _ = Kd.ob (.lst ((((l.length : Nat) : Int) :: Krdk.ints l).map .int))
      rw [NV_ints, h1]
      rfl
    · refine go_thru ⟨rfl, fun j b hj hb => ?_, some (.ref r), rfl⟩
      by_cases z : j < i
      · exact hf j b z hb
      · have : j = i := by omega
        subst this
        rw [hl] at hb
        rw [← Option.some.inj hb]
        exact h
  · rintro σ' H' ⟨rfl, hf, x0, rfl⟩
    have e : (Krdm.votes D.f.n).find? (Krdm.rounds D.f) = none := find_no (fun j b hj hb => hf j b (by rw [hln]; exact hj) hb)
    rw [e] at hR
    exact go_ret (gv_ref cr hr (by decide) Z.noneFound) (ret_back hR s2)
/-- the order that comes of the vote i -/
def ordI (f : Krdk.Answer) (l : List Nat) : Option Nat := Mt.ordB (Krdm.result f l 0) (Krdm.result f l 1) (Krdm.result f l 2)
theorem win_ordI (f : Krdk.Answer) (l : List Nat) (t : Nat) : (Krdm.winner f l == some t) = (match ordI f l with
  | none => false
  | some o => o / 2 == t) := by
  rw [Mt.winner_B, Mt.win_ord]
  unfold ordI
  cases Mt.ordB (Krdm.result f l 0) (Krdm.result f l 1) (Krdm.result f l 2) <;> rfl
/-! ### tell_wins: 0:desk 1:given 2:thing 3:orders 4:found 5:order -/
theorem sc70 : FnScope ["desk", "given", "thing", "orders", "found", "order"] ["desk", "given"] (defScope (top 70)) := ⟨rfl, rfl, rfl, by decide +kernel, rfl, by decide +kernel, by decide +kernel⟩
theorem c_tell_wins (T : ClD K C) (B : Bl mg) (Z : Ct mg) (Df : DefAt K mg "tell_wins" (top 70)) (cr : Cal P w K mg base 1 "refused" (SpK pRefused)) (ca : Cal P w K mg base 2 "all_outcomes" (SpK (pAllOut K))) (cc : Cal P w K mg base 1 "order_of" (SpK (pOrderOf K))) (cf : Cal P w K mg base 1 "first_thing" (SpK pFirst)) : Cal P w K mg base 3 "tell_wins" (SpK (p4Tell K C 39 1 0)) := by
  refine cal_pure (ps := ["desk", "given"]) Df sc70 (fun _ _ _ _ _ _ us hl => match us, hl with | [_, _], _ => rfl) (fun vs H k ⟨_, _, _, _, _, e, _⟩ => by rw [e]; rfl) fun f cdv A outer s H vs E k hr ⟨d, g, D, xs, rs, e, ⟨dx, ad, cd, sd, ld, sh, hD⟩, hn4, hG, hx, hrs, ok, okr, ek⟩ => ?_
  obtain ⟨x, rfl, hxm⟩ := one_num hx ok
  obtain rfl := nil_of hrs
  have hq := hG.nums
  subst e ek
  have wf := hD.w
  have hn := wf.n5
  have hQ : ansP 39 D [(x : Int)] [] = KrdoNeutral.told (if 2 < x then Krdk.say (-22) else Krdk.nat ((Krdm.votes D.f.n).filter fun l => Krdm.winner D.f l == some x).length) := by
    have e := three_ans (p := 39) (xs := [(x : Int)]) (rs := []) (c := .wins x) hn4 rfl
    exact e
  rw [hQ]
  refine gb_set 2 sc70.nd (gv_at (gv_var 1) hq rfl (by decide)) (gb_if (Gt.to (gt_gt (gv_var 2) (gv_glo Z.mostThing)) (dlt 2 x)) (fun h => ?_) (fun h => ?_))
  · rw [if_pos (of_decide_eq_true h)]
    exact gb_ret (gv_ref cr hr (by decide) Z.notRight)
  · rw [if_neg (of_decide_eq_false h)]
    refine gb_lcX 3 rfl sc70.nd ⟨_, _, _, _, pi_list pe_, (blkOk_by (own := [("found", 4)]) (N := ["desk", "given", "thing", "orders", "found", "order"]) (sc := defScope (top 70)) (by decide +kernel)), fun _ _ _ _ _ => pg_name (i := 4) sc70.nd rfl (Or.inl rfl), fun _ _ _ _ _ => pts_nil,
      glc_obs (i0 := 4) (fun _ => true) (fun i y _ => y = vOpt (ordI D.f ((Krdm.votes D.f.n).getD i []))) item_is (.ob (.lst ((Krdm.votes D.f.n).map fun l => vOpt (ordI D.f l)))) (gv_all_out ca hr (by decide) (gv_bitsD T (gv_var 0) hD) (gv_saysD T (gv_var 0) hD) (.inr hD.says) wf) (by rw [List.length_map]; exact votes_le hn) (fun _ => rfl) (fun i o r H' hi s' hr' => ?_) (fun D1 H1 H' ys h1 h2 hp => ?_)⟩ fun q H1 fq s1 hq1 => ?_
    · obtain ⟨l, hl, rfl⟩ := outO_get hi
      refine ⟨gt_yes, fun _ => ⟨.is (vOpt (ordI D.f l)), ?_, ?_⟩⟩
      · exact gv_cF fun _ _ _ _ _ => gv_calv (us := [.ref r]) cc hr (by decide) (ga_cons (gv_var 4) ga_nil) (fun H2 s2 => ⟨r, _, _, _, rfl, same_t s2 (SqT.of hr'), rfl⟩)
      · rw [← getD_at (d := []) hl]
        exact gives_is (v := fun i => vOpt (ordI D.f ((Krdm.votes D.f.n).getD i [])))
    · rw [List.length_map, all_true] at hp
      have e := paired_is (v := fun i => vOpt (ordI D.f ((Krdm.votes D.f.n).getD i []))) hp
      rw [map_getD (Krdm.votes D.f.n) [] (fun l => vOpt (ordI D.f l))] at e
      subst e
      exact ⟨D1, rfl, h1, h2⟩
    · refine gb_ret (Gv.to (gv_lst (vs := [.int (((Krdm.votes D.f.n).filter fun l => Krdm.winner D.f l == some x).length : Nat)]) (ga_cons (Gv.is_to (gv_lenL B (gv_lcL 5 rfl sc70.nd (gv_var 3) (.old (SqL.of hq1)) (by rw [List.length_map]; exact votes_le hn) (blkOk_by (own := [("order", 5)]) (N := ["desk", "given", "thing", "orders", "found", "order"]) (sc := defScope (top 70)) (by decide +kernel)) (fun _ _ _ _ _ => pg_name (i := 5) sc70.nd rfl (Or.inl rfl)) pts_c
        (fun i => Krdm.winner D.f ((Krdm.votes D.f.n).getD i []) == some x) (fun i => vOpt (ordI D.f ((Krdm.votes D.f.n).getD i []))) (fun _ => rfl) (fun i v hv => ?_) (fun i v hv _ => ?_)) .new) ?_) ga_nil) (Nat.le_of_ble_eq_true rfl)) rfl)
      · rw [List.getElem?_map, Option.map_eq_some_iff] at hv
        obtain ⟨l, hl, rfl⟩ := hv
        rw [getD_at hl, win_ordI]
        cases ordI D.f l with
        | none => exact gt_cF fun _ _ _ _ _ => Gt.to (gt_and2 (d1 := false) (d2 := false) (Gt.to (gt_notN (gv_var 5) gv_non) rfl) (fun h => by cases h)) rfl
        | some o =>
          refine gt_cF fun _ _ _ _ _ => Gt.to (gt_and2 (d1 := true) (Gt.to (gt_notN (gv_var 5) gv_non) rfl) (fun h => gt_eq (gv_first_thing cf hr (by decide) (gv_var (v := .int (o : Nat)) 5)) (gv_var 2))) ?_
          rw [Bool.true_and, Bool.eq_iff_iff]
          simp
          omega
      · rw [List.getElem?_map, Option.map_eq_some_iff] at hv
        obtain ⟨l, hl, rfl⟩ := hv
        rw [getD_at hl]
        exact gv_cF fun _ _ _ _ _ => gv_var 5
      · unfold given
        rw [List.length_map, List.length_map, filter_getD (p := fun l => Krdm.winner D.f l == some x)]
end
end Sw
set_option Elab.async false
set_option linter.all false
set_option maxRecDepth 100000
set_option maxHeartbeats 2000000
set_option exponentiation.threshold 3000
namespace Sw
open PySem PySem.Spec PyProof.Rows L2 Kx
open Evl (given given_yes given_no given_len)
open Mt (W S swc pt)
section
variable {P : Program} {w : World} {K : PySem.W.Frag} {mg : Str → Option Value} {base : Heap} {C : Addr}
/-! ### places of the shelf -/
theorem paired_set {α β : Type} {F : α → β → Prop} : ∀ {l : List α} {m : List β} (i : Nat) {a : α} {b : β}, Paired F l m → F a b → Paired F (l.set i a) (m.set i b)
  | _, _, _, _, _, .nil, _ => .nil
  | _, _, 0, _, _, .cons _ t, h => .cons h t
  | _, _, i + 1, _, _, .cons x t, h => .cons x (paired_set i t h)
/-- what stands at place i -/
theorem sh_at {H : Hp} {n : Nat} {sh : List V} {os : List (Option Krdk.Answer)} (h : ShAt K H n sh os) {i : Nat} (hi : i < os.length) : ∃ u, sh[i]? = some u ∧ match (os[i]?).join with
    | none => u = V.non
    | some g => W g ∧ g.n = n ∧ ∃ r, u = V.ref r ∧ SqT K H r (SV g) := by
  have hl : sh.length = os.length := Paired.length h
  have h1 : sh[i]? = some (sh[i]'(by omega)) := List.getElem?_eq_getElem (by omega)
  obtain ⟨o, ho, q⟩ := L2.paired_get h h1
  refine ⟨_, h1, ?_⟩
  rw [ho]
  cases o with
  | none => exact q
  | some g => exact q
/-- desk.shelf[place] -/
theorem gv_place {X : Cx} {σ : L2.St} {H : Hp} {e e2 : Expr} {pos p2 : Pos} {d dx ad cd sd ld : Addr} {D : Krdo.Data} {sh : List V} {i : Nat} {u : V} (T : ClD X.K C) (h : Gv (cE X e) σ H (.is (.ref d))) (k : Dk X.K C H d D dx ad cd sd ld sh) (hi : Gv (cE X e2) σ H (.is (.int (i : Nat)))) (hu : sh[i]? = some u) (hb : attributeBase e "shelf" X.env (eval e X.env) = eval e X.env := by rfl) (hp : PlainIx e2 := by exact fun _ _ => rfl) : Gv (cE X (.Subscript (.Attribute e "shelf" p2) e2 pos)) σ H (.is u) :=
  gv_ixT (gv_shD T h k hb) (.old k.shelf) hi (atI_nat hu) hp
theorem on_eq (D : Krdo.Data) (i : Nat) : D.on i = (D.shelf[i]?).join := rfl
theorem desk_act {p : Nat} {D : Krdo.Data} {xs : List Int} {rs : List (List Int)} {D' : Krdo.Data} {r : Krdk.Ans} (h : actP p D xs rs = (some (Krdo.changed ⟨D, []⟩ D'), r)) : ansP p D xs rs = KrdoNeutral.told r ∧ datP p D xs rs = D' := by
  unfold ansP datP
  rw [h]
  exact ⟨rfl, ch_d _ _⟩
theorem desk_no {p : Nat} {D : Krdo.Data} {xs : List Int} {rs : List (List Int)} {r : Krdk.Ans} (h : actP p D xs rs = (some ⟨D, []⟩, r)) : ansP p D xs rs = KrdoNeutral.told r ∧ datP p D xs rs = D := by
  unfold ansP datP
  rw [h]
  exact ⟨rfl, rfl⟩
/-! ### tell_put: 0:desk 1:given 2:place 3:stood 4:places -/
theorem sc132 : FnScope ["desk", "given", "place", "stood", "places"] ["desk", "given"] (defScope (top 132)) := ⟨rfl, rfl, rfl, by decide +kernel, rfl, by decide +kernel, by decide +kernel⟩
theorem c_tell_put (T : ClD K C) (B : Bl mg) (Z : Ct mg) (Df : DefAt K mg "tell_put" (top 132)) (cr : Cal P w K mg base 1 "refused" (SpK pRefused)) : Cal P w K mg base 2 "tell_put" (spMake K C 49 1 0) := by
  refine cal_of (ps := ["desk", "given"]) Df sc132 (fun _ _ _ _ _ _ us hl => match us, hl with | [_, _], _ => rfl) (fun vs H Q E ⟨_, _, _, _, _, _, _, _, _, _, _, e, _⟩ => by rw [e]; rfl) fun f cdv A outer s H vs Q E hr ⟨d, g, D, xs, rs, dx, ad, cd, sd, ld, sh, e, hD, hG, hx, hrs, ok, okr, hQ⟩ => ?_
  obtain ⟨x, rfl, hxm⟩ := one_num hx ok
  obtain rfl := nil_of hrs
  have hq := hG.nums
  subst e
  have wf := hD.w
  refine go_run ?_
  have hQ0 : actP 49 D [(x : Int)] [] = if 4 ≤ x then (some ⟨D, []⟩, Krdk.say (-2)) else (some (Krdo.changed ⟨D, []⟩ { D with shelf := D.shelf.set x (some D.f) }), Krdk.ask (D.on x).isSome) := rfl
  refine go_setV 2 sc132.nd (gv_at (gv_var 1) hq rfl (by decide)) (go_if (Gt.to (gt_ge (gv_var 2) (gv_glo Z.places)) (dle 4 x)) (fun h nx => ?_) (fun h => ?_))
  · rw [if_pos (of_decide_eq_true h)] at hQ0
    exact go_ret (gv_ref cr hr (by decide) Z.noSuch) (refuse hD hQ (desk_no hQ0))
  · rw [if_neg (of_decide_eq_false h)] at hQ0
    have hx4 : x < 4 := by have := of_decide_eq_false h; omega
    have e2 := desk_act hQ0
    obtain ⟨u, hu, hm⟩ := sh_at hD.sh (i := x) (by rw [hD.four]; exact hx4)
    have hl : sh.length = 4 := by rw [← hD.four]; exact Paired.length hD.sh
    refine go_setV 3 sc132.nd (gv_place T (gv_var 0) hD (gv_var 2) hu) ?_
    refine go_setO 4 sc132.nd (gv_listT B (gv_shD T (gv_var 0) hD) (.old hD.shelf)) fun q H1 fq s1 hq1 => ?_
    have hD1 := hD.same s1
    refine go_put (gv_var 4) hq1 (gv_var 2) (by omega) (gv_saysD T (gv_var 0) hD1) ?_
    have s2 : Same H (upd H1 q (.lst (sh.set x (.ref ad)))) := same_mut s1 fq
    refine go_fld (gv_var 0) (s2 _ _ hD.ins) T.cl T.n4 (by show 5 < 1000; decide) (gv_tupL B (gv_var 4) (.old (SqL.of upd_same))) fun w1 H2 s3 ⟨t, ew, ft, ht⟩ => ?_
    subst ew
    rw [putF_shelf]
    have z : But d H (upd H2 d (.ins C dx (dF D.f.n ad cd t ld))) := (But.of (s2.trans s3)).upd_
    have q2 : SqT K (upd H2 d (.ins C dx (dF D.f.n ad cd t ld))) t (sh.set x (.ref ad)) := (But.upd_ But.refl).seqT (s3 _ _ (s2 _ _ hD.ins)) (SqT.of ht)
    refine go_ret (Gv.to (gv_lst (vs := [.int (if (D.on x).isSome then 1 else 0)]) (ga_cons (gv_ite (d := !(D.on x).isSome) (Gt.to (gt_isN (gv_var 3) gv_non) ?_) (fun h => gv_int.is_to ?_) (fun h => gv_int.is_to ?_)) ga_nil) (Nat.le_of_ble_eq_true rfl)) (k' := .ob (.lst ((ansP 49 D [(x : Int)] []).map .int))) ?_) fun v H3 s4 n3 => hQ v H3 ⟨z.then_ s4, ⟨ad, cd, t, sh.set x (.ref ad), ?_⟩, new_but z hD.ins upd_same n3⟩
    · rw [on_eq]
      cases hj : (D.shelf[x]?).join with
      | none => rw [hj] at hm; rw [hm]; rfl
      | some g => rw [hj] at hm; obtain ⟨_, _, r, rfl, _⟩ := hm; rfl
    · have : (D.on x).isSome = false := by simpa using h
      rw [this]; rfl
    · have : (D.on x).isSome = true := by simpa using h
      rw [this]; rfl
    · rw [e2.1]
      cases (D.on x).isSome <;> rfl
    · rw [e2.2]
      have z2 := z.then_ s4
      exact ⟨s4 _ _ upd_same, wf, z2.seqT hD.ins hD.says, z2.seqT hD.ins hD.ch, hD.e, same_t s4 q2, paired_set x (hD.sh.but z2 hD.ins) ⟨wf, rfl, ad, rfl, z2.seqT hD.ins hD.says⟩, by rw [List.length_set]; exact hD.four⟩
/-! ### tell_take: 0:desk 1:given 2:place -/
theorem sc133 : FnScope ["desk", "given", "place"] ["desk", "given"] (defScope (top 133)) := ⟨rfl, rfl, rfl, by decide +kernel, rfl, by decide +kernel, by decide +kernel⟩
theorem c_tell_take (T : ClD K C) (B : Bl mg) (Z : Ct mg) (Df : DefAt K mg "tell_take" (top 133)) (cr : Cal P w K mg base 1 "refused" (SpK pRefused)) (cm : Cal P w K mg base 1 "made" (spMade K C)) : Cal P w K mg base 2 "tell_take" (spMake K C 50 1 0) := by
  refine cal_of (ps := ["desk", "given"]) Df sc133 (fun _ _ _ _ _ _ us hl => match us, hl with | [_, _], _ => rfl) (fun vs H Q E ⟨_, _, _, _, _, _, _, _, _, _, _, e, _⟩ => by rw [e]; rfl) fun f cdv A outer s H vs Q E hr ⟨d, g, D, xs, rs, dx, ad, cd, sd, ld, sh, e, hD, hG, hx, hrs, ok, okr, hQ⟩ => ?_
  obtain ⟨x, rfl, hxm⟩ := one_num hx ok
  obtain rfl := nil_of hrs
  have hq := hG.nums
  subst e
  have wf := hD.w
  refine go_run ?_
  have hQ0 : actP 50 D [(x : Int)] [] = if 4 ≤ x then (some ⟨D, []⟩, Krdk.say (-2)) else (match D.on x with
    | none => (some ⟨D, []⟩, Krdk.say (-6))
    | some g => (some (Krdo.changed ⟨D, []⟩ { D with f := g }), Krdk.nat g.yes)) := rfl
  refine go_setV 2 sc133.nd (gv_at (gv_var 1) hq rfl (by decide)) (go_if (Gt.to (gt_ge (gv_var 2) (gv_glo Z.places)) (dle 4 x)) (fun h nx => ?_) (fun h => ?_))
  · rw [if_pos (of_decide_eq_true h)] at hQ0
    exact go_ret (gv_ref cr hr (by decide) Z.noSuch) (refuse hD hQ (desk_no hQ0))
  · rw [if_neg (of_decide_eq_false h)] at hQ0
    have hx4 : x < 4 := by have := of_decide_eq_false h; omega
    obtain ⟨u, hu, hm⟩ := sh_at hD.sh (i := x) (by rw [hD.four]; exact hx4)
    rw [on_eq] at hQ0
    cases hj : (D.shelf[x]?).join with
    | none =>
      rw [hj] at hm hQ0
      subst hm
      refine go_if (d := true) (Gt.to (gt_isN (gv_place T (gv_var 0) hD (gv_var 2) hu) gv_non) rfl) (fun _ nx => go_ret (gv_ref cr hr (by decide) Z.nothing) (refuse hD hQ (desk_no hQ0))) (fun h => by cases h)
    | some g' =>
      rw [hj] at hm hQ0
      obtain ⟨wg, hgn, r, rfl, hr2⟩ := hm
      refine go_if (d := false) (Gt.to (gt_isN (gv_place T (gv_var 0) hD (gv_var 2) hu) gv_non) rfl) (fun h => by cases h) (fun _ => ?_)
      exact go_made cm hr (by decide) (gv_var 0) (gv_place T (gv_var 0) hD (gv_var 2) hu) (.inr ⟨r, rfl, .inr hr2⟩) wg hgn hD (accept hQ (desk_act hQ0))
/-! ### joined -/
def joinB (w : Nat) (a b : Bool) : Bool := if w = 0 then a && b else if w = 1 then a || b else a != b
def pJoined (vs : List V) (_ : Hp) (k : Kd) : Prop := ∃ (m : Nat) (a b : Bool), vs = [.int (m : Nat), .int (Mt.b2i a), .int (Mt.b2i b)] ∧ k = .is (.int (Mt.b2i (joinB m a b)))
def b2n (b : Bool) : Nat := if b then 1 else 0
theorem b2n_i (b : Bool) : Mt.b2i b = ((b2n b : Nat) : Int) := by cases b <;> rfl
/-! ### joined: 0:way 1:one 2:other -/
theorem sc134 : FnScope ["way", "one", "other"] ["way", "one", "other"] (defScope (top 134)) := ⟨rfl, rfl, rfl, by decide +kernel, rfl, by decide +kernel, by decide +kernel⟩
theorem c_joined  (Df : DefAt K mg "joined" (top 134)) : Cal P w K mg base 1 "joined" (SpK (pJoined)) := by
  refine cal_pure (ps := ["way", "one", "other"]) Df sc134 (fun _ _ _ _ _ _ us hl => match us, hl with | [_, _, _], _ => rfl) (fun vs H k ⟨_, _, _, e, _⟩ => by rw [e]; rfl) fun f cdv A outer s H vs E k hr ⟨m, a, b, e, ek⟩ => ?_
  subst e ek
  rw [b2n_i a, b2n_i b]
  refine gb_if (d := decide (m = 0)) (Gt.to (gt_eq (gv_var 0) gv_int) ?_) (fun h => gb_ret (Gv.is_to (gv_bandN (gv_var 1) (gv_var 2)) ?_)) (fun h => gb_if (d := decide (m = 1)) (Gt.to (gt_eq (gv_var 0) gv_int) ?_) (fun h2 => gb_ret (Gv.is_to (gv_borN (gv_var 1) (gv_var 2)) ?_)) (fun h2 => gb_ret (Gv.is_to (gv_xorN (gv_var 1) (gv_var 2)) ?_)))
  · rw [Bool.eq_iff_iff]; simp
  · unfold joinB
    rw [if_pos (of_decide_eq_true h)]
    cases a <;> cases b <;> rfl
  · rw [Bool.eq_iff_iff]; simp; omega
  · unfold joinB
    rw [if_neg (of_decide_eq_false h), if_pos (of_decide_eq_true h2)]
    cases a <;> cases b <;> rfl
  · unfold joinB
    rw [if_neg (of_decide_eq_false h), if_neg (of_decide_eq_false h2)]
    cases a <;> cases b <;> rfl
theorem gv_joined {X : Cx} {σ : L2.St} {H : Hp} {j : Nat} {e1 e2 e3 : Expr} {p pos : Pos} {m : Nat} {b1 b2 : Bool} (cc : Cal X.prog X.w X.K X.mg X.base 1 "joined" (SpK (pJoined))) (hr : Room j X.A) (hj : 1 ≤ j) (h0 : Gv (cE X e1) σ H (.is (.int (m : Nat)))) (h1 : Gv (cE X e2) σ H (.is (.int (Mt.b2i b1)))) (h2 : Gv (cE X e3) σ H (.is (.int (Mt.b2i b2))))  (hg : Gl X "joined" := by rfl)
    (hs0 : starEach [e1, e2, e3] X.env = (false, eval e1 X.env) :: starEach [e2, e3] X.env := by rfl) (hs1 : starEach [e2, e3] X.env = (false, eval e2 X.env) :: starEach [e3] X.env := by rfl) (hs2 : starEach [e3] X.env = (false, eval e3 X.env) :: starEach [] X.env := by rfl) (hpl : (backTo pos (starEach [e2, e3] X.env)).any (·.1) = false := by rfl) :
    Gv (cE X (.Call (.Name "joined" p) [e1, e2, e3] [] pos)) σ H (.is (.int (Mt.b2i (joinB m b1 b2)))) :=
  gv_calv (us := [.int (m : Nat), .int (Mt.b2i b1), .int (Mt.b2i b2)]) cc hr hj (ga_cons h0 (ga_cons h1 (ga_cons h2 ga_nil hs2) hs1) hs0) (fun _ s => ⟨m, b1, b2, rfl, rfl⟩) hg (by decide) hs0 hpl
/-! ### tell_join: 0:desk 1:given 2:way 3:place 4:other 5:word 6:said -/
theorem sc135 : FnScope ["desk", "given", "way", "place", "other", "word", "said"] ["desk", "given"] (defScope (top 135)) := ⟨rfl, rfl, rfl, by decide +kernel, rfl, by decide +kernel, by decide +kernel⟩
theorem c_tell_join (T : ClD K C) (B : Bl mg) (Z : Ct mg) (Df : DefAt K mg "tell_join" (top 135)) (cr : Cal P w K mg base 1 "refused" (SpK pRefused)) (cm : Cal P w K mg base 1 "made" (spMade K C)) (cj : Cal P w K mg base 1 "joined" (SpK pJoined)) : Cal P w K mg base 2 "tell_join" (spMake K C 51 2 0) := by
  refine cal_of (ps := ["desk", "given"]) Df sc135 (fun _ _ _ _ _ _ us hl => match us, hl with | [_, _], _ => rfl) (fun vs H Q E ⟨_, _, _, _, _, _, _, _, _, _, _, e, _⟩ => by rw [e]; rfl) fun f cdv A outer s H vs Q E hr ⟨d, g, D, xs, rs, dx, ad, cd, sd, ld, sh, e, hD, hG, hx, hrs, ok, okr, hQ⟩ => ?_
  obtain ⟨x, y, rfl, hxm, hym⟩ := two_num hx ok
  obtain rfl := nil_of hrs
  have hq := hG.nums
  subst e
  have wf := hD.w
  refine go_run ?_
  have h5 := p2le wf.n5
  have hQ0 : actP 51 D [(x : Int), (y : Int)] [] = if 4 ≤ y then (some ⟨D, []⟩, Krdk.say (-2)) else if 2 < x then (some ⟨D, []⟩, Krdk.say (-22)) else (match D.on y with
    | none => (some ⟨D, []⟩, Krdk.say (-6))
    | some g => (some (Krdo.changed ⟨D, []⟩ { D with f := Krdo.put x D.f g }), Krdk.nat (Krdo.put x D.f g).yes)) := rfl
  refine go_asg (pu2 2 3 rfl sc135.nd) (gv_var 1) fun w1 H1 s1 ew => ?_
  obtain rfl : w1 = .ref g := ew
  refine ⟨_, fun Qg q => u2_go (same_l s1 hq) q, ?_⟩
  have hD := hD.same s1
  have hQ : ∀ v H2, MadeR K C H1 d dx ld (datP 51 D [(x : Int), (y : Int)] []) (ansP 51 D [(x : Int), (y : Int)] []) v H2 → Q v H2 := fun v H2 m => hQ v H2 ⟨(But.of s1).trans m.but, m.dk, Kd.new_back m.ret s1 (Same.refl _)⟩
  refine go_if (Gt.to (gt_ge (gv_var 3) (gv_glo Z.places)) (dle 4 y)) (fun h nx => ?_) (fun h => ?_)
  · rw [if_pos (of_decide_eq_true h)] at hQ0
    exact go_ret (gv_ref cr hr (by decide) Z.noSuch) (refuse hD hQ (desk_no hQ0))
  · rw [if_neg (of_decide_eq_false h)] at hQ0
    have hy4 : y < 4 := by have := of_decide_eq_false h; omega
    refine go_if (Gt.to (gt_gt (gv_var 2) (gv_glo Z.mostWay)) (dlt 2 x)) (fun h nx => ?_) (fun h => ?_)
    · rw [if_pos (of_decide_eq_true h)] at hQ0
      exact go_ret (gv_ref cr hr (by decide) Z.notRight) (refuse hD hQ (desk_no hQ0))
    · rw [if_neg (of_decide_eq_false h)] at hQ0
      obtain ⟨u, hu, hm⟩ := sh_at hD.sh (i := y) (by rw [hD.four]; exact hy4)
      rw [on_eq] at hQ0
      refine go_setV 4 sc135.nd (gv_place T (gv_var 0) hD (gv_var 3) hu) ?_
      cases hj : (D.shelf[y]?).join with
      | none =>
        rw [hj] at hm hQ0
        subst hm
        refine go_if (d := true) (Gt.to (gt_isN (gv_var 4) gv_non) rfl) (fun _ nx => go_ret (gv_ref cr hr (by decide) Z.nothing) (refuse hD hQ (desk_no hQ0))) (fun h => by cases h)
      | some g' =>
        rw [hj] at hm hQ0
        obtain ⟨wg, hgn, r, rfl, hr2⟩ := hm
        refine go_if (d := false) (Gt.to (gt_isN (gv_var 4) gv_non) rfl) (fun h => by cases h) (fun _ => ?_)
        refine go_made cm hr (by decide) (gv_var 0) (Gv.to (gv_lcES 5 6 rfl sc135.nd B.enum (gv_saysD T (gv_var 0) hD) (.inr hD.says) (SV_le wf) (blkOk_by (own := [("word", 5), ("said", 6)]) (N := ["desk", "given", "way", "place", "other", "word", "said"]) (sc := defScope (top 135)) (by decide +kernel)) (fun _ _ _ _ _ => pg2 5 6 rfl sc135.nd) (fun _ _ _ _ _ => pts_nil)
          (fun _ => true) (fun v => .int (Mt.b2i (joinB x (D.f.at_ v) (g'.at_ v)))) (fun _ _ => rfl) (fun _ _ _ => gt_yes) (fun v z hv _ => ?_)) ?_) (.inl rfl) (Mt.of_W wf.n1 wf.n5 _) rfl hD (accept hQ (desk_act hQ0))
        · obtain ⟨hv2, rfl⟩ := SV_of wf hv
          exact gv_cF fun _ _ _ _ _ => gv_joined cj hr (by decide) (gv_var 2) (gv_var 6) (gv_ixT (gv_var 4) (.old hr2) (gv_var 5) (atI_nat (SV_at wg (by rw [hgn]; exact hv2))))
        · rw [given_all, SV_len wf]
          rw [SV_of_eq]
          rfl
/-! ### tell_same: 0:desk 1:given 2:place 3:other 4:like 5:word 6:said -/
theorem sc136 : FnScope ["desk", "given", "place", "other", "like", "word", "said"] ["desk", "given"] (defScope (top 136)) := ⟨rfl, rfl, rfl, by decide +kernel, rfl, by decide +kernel, by decide +kernel⟩
theorem c_tell_same (T : ClD K C) (B : Bl mg) (Z : Ct mg) (Df : DefAt K mg "tell_same" (top 136)) (cr : Cal P w K mg base 1 "refused" (SpK pRefused)) (cl : Cal P w K mg base 1 "lowest" (SpK pLow)) : Cal P w K mg base 2 "tell_same" (SpK (pTell K C 52 1 0)) := by
  refine cal_pure (ps := ["desk", "given"]) Df sc136 (fun _ _ _ _ _ _ us hl => match us, hl with | [_, _], _ => rfl) (fun vs H k ⟨_, _, _, _, _, e, _⟩ => by rw [e]; rfl) fun f cdv A outer s H vs E k hr ⟨d, g, D, xs, rs, e, ⟨dx, ad, cd, sd, ld, sh, hD⟩, hG, hx, hrs, ok, okr, ek⟩ => ?_
  obtain ⟨x, rfl, hxm⟩ := one_num hx ok
  obtain rfl := nil_of hrs
  have hq := hG.nums
  subst e ek
  have wf := hD.w
  have h5 := p2le wf.n5
  have hQ : ansP 52 D [(x : Int)] [] = KrdoNeutral.told (if 4 ≤ x then Krdk.say (-2) else match D.on x with
    | none => Krdk.say (-6)
    | some g => Krdk.frac (Krdo.same D.f g)) := rfl
  rw [hQ]
  refine gb_set 2 sc136.nd (gv_at (gv_var 1) hq rfl (by decide)) (gb_if (Gt.to (gt_ge (gv_var 2) (gv_glo Z.places)) (dle 4 x)) (fun h => ?_) (fun h => ?_))
  · rw [if_pos (of_decide_eq_true h)]
    exact gb_ret (gv_ref cr hr (by decide) Z.noSuch)
  · rw [if_neg (of_decide_eq_false h)]
    have hx4 : x < 4 := by have := of_decide_eq_false h; omega
    obtain ⟨u, hu, hm⟩ := sh_at hD.sh (i := x) (by rw [hD.four]; exact hx4)
    rw [on_eq]
    refine gb_set 3 sc136.nd (gv_place T (gv_var 0) hD (gv_var 2) hu) ?_
    cases hj : (D.shelf[x]?).join with
    | none =>
      rw [hj] at hm
      subst hm
      exact gb_if (d := true) (Gt.to (gt_isN (gv_var 3) gv_non) rfl) (fun _ => gb_ret (gv_ref cr hr (by decide) Z.nothing)) (fun h => by cases h)
    | some g' =>
      rw [hj] at hm
      obtain ⟨wg, hgn, r, rfl, hr2⟩ := hm
      refine gb_if (d := false) (Gt.to (gt_isN (gv_var 3) gv_non) rfl) (fun h => by cases h) (fun _ => ?_)
      have hcl := rf_len (2 ^ D.f.n) fun z => D.f.at_ z == g'.at_ z
      refine gb_lcX 4 rfl sc136.nd (lc_ET 5 6 B.enum (gv_saysD T (gv_var 0) hD) (.old hD.says) (SV_le wf) (blkOk_by (own := [("word", 5), ("said", 6)]) (N := ["desk", "given", "place", "other", "like", "word", "said"]) (sc := defScope (top 136)) (by decide +kernel)) (fun _ _ _ _ _ => pg2 5 6 rfl sc136.nd) pts_c
        (fun z => D.f.at_ z == g'.at_ z) (fun z => .int (z : Nat)) (fun _ _ => rfl) (fun v z hv => ?_) (fun v z hv _ => gv_cF fun _ _ _ _ _ => gv_var 5)) fun q H1 fq s1 hq1 => ?_
      · obtain ⟨hv2, rfl⟩ := SV_of wf hv
        refine gt_cF fun _ _ _ _ _ => Gt.to (gt_eq (gv_var 6) (gv_ixT (gv_var 3) (.old hr2) (gv_var 5) (atI_nat (SV_at wg (by rw [hgn]; exact hv2))))) ?_
        cases D.f.at_ v <;> cases g'.at_ v <;> rfl
      · have hD := hD.same s1
        refine gb_ret (Gv.to (gv_zero (gv_low (u := ((((Krdk.words D.f.n).filter fun z => D.f.at_ z == g'.at_ z).length : Nat) : Int)) cl hr (by decide) (Gv.is_to (gv_lenL B (gv_var 4) (.old (SqL.of hq1))) ?_) (gv_lenD T B (gv_var 0) hD) (p2int _) (lowb (by simp only [Int.natAbs_natCast]; unfold Krdk.words; omega)) (p2b wf.n5)) (by rw [low_len]; decide)) ?_)
        · unfold given
          rw [List.length_map, SV_len wf]; rfl
        · rfl
end
end Sw
set_option Elab.async false
set_option linter.all false
set_option maxRecDepth 100000
set_option maxHeartbeats 2000000
set_option exponentiation.threshold 3000
namespace Sw
open PySem PySem.Spec PyProof.Rows L2 Kx
open Evl (given given_yes given_no given_len)
open Mt (W S swc pt)
section
variable {P : Program} {w : World} {K : PySem.W.Frag} {mg : Str → Option Value} {base : Heap} {C : Addr}
/-! ### numbers of a fraction -/
structure Rb (r : Rat) : Prop where
  num : r.num.natAbs < 2 ^ 2000
  den : ((r.den : Int)).natAbs < 2 ^ 2000
theorem low_Rb {u l : Int} {r : Rat} (e : Mt.low u l = Krdk.fr r) (h0 : 0 < l) (hu : u.natAbs < 2 ^ 2000) (hl : l.natAbs < 2 ^ 2000) : Rb r := by
  rw [low_gcd u l h0] at e
  have e2 : [u / (Nat.gcd u.natAbs l.natAbs : Nat), l / (Nat.gcd u.natAbs l.natAbs : Nat)] = [r.num, (r.den : Int)] := e
  have e3 : u / (Nat.gcd u.natAbs l.natAbs : Nat) = r.num ∧ l / (Nat.gcd u.natAbs l.natAbs : Nat) = (r.den : Int) := by
    simp only [List.cons.injEq, and_true] at e2
    exact e2
  obtain ⟨e4, e5⟩ := e3
  refine ⟨?_, ?_⟩
  · rw [← e4]
    exact Nat.lt_of_le_of_lt (Int.natAbs_ediv_le_natAbs _ _) hu
  · rw [← e5]
    exact Nat.lt_of_le_of_lt (Int.natAbs_ediv_le_natAbs _ _) hl
theorem Rb_even {f : Krdk.Answer} (wf : W f) : Rb f.even_ := by
  have h5 := p2le wf.n5
  have hy := Mt.yes_le wf
  have m1 : ((4 : Int) * (f.yes : Int)).natAbs ≤ 128 := by omega
  have m2 : (((2 ^ f.n : Nat) : Int) - (f.yes : Int)).natAbs ≤ 32 := by omega
  have m3 := small_mul m1 m2
  have m4 := small_mul (x := ((2 ^ f.n : Nat) : Int)) (y := ((2 ^ f.n : Nat) : Int)) (m := 32) (n := 32) (by simp only [Int.natAbs_natCast]; omega) (by simp only [Int.natAbs_natCast]; omega)
  exact low_Rb (Mt.low_even f) (Int.mul_pos (p2int _) (p2int _)) (lowb (by omega)) (lowb (by omega))
theorem Rb_all {f : Krdk.Answer} (wf : W f) : Rb f.all := by
  have h := allsw_le wf
  exact low_Rb (Mt.low_all f) (p2int _) (lowb (by simp only [Int.natAbs_natCast]; omega)) (p2b wf.n5)
theorem Rb_stays {f : Krdk.Answer} (wf : W f) {e : Rat} {a b : Int} (h : Mt.Ch e a b) : Rb (Krdl.stays f e) := by
  have h5 := p2le wf.n5
  have hcn := cn_of h
  have h1 := sum32 wf (fun x => ry_b wf hcn x)
  have h3 := small_mul (x := ((2 ^ f.n : Nat) : Int)) (m := 32) (by simp only [Int.natAbs_natCast]; omega) (bpow_b hcn wf.n5)
  exact low_Rb (Mt.low_stays h f) (Int.mul_pos (p2int _) (bpos hcn _)) (lowb (by omega)) (lowb (by omega))
theorem Rb_byparts {f : Krdk.Answer} (wf : W f) : Rb (Krdm.byParts f) := by
  have hn := wf.n5
  have h5 := p2le hn
  have bN : Lb ((2 ^ f.n : Nat) : Int) 5 := lb_nat (by omega)
  have b3 : Lb (3 : Int) 2 := by unfold Lb; decide
  have b1 : Lb (-1 : Int) 0 := by unfold Lb; decide
  have bp : ∀ s, Lb (pt f s) 5 := fun s => ptb wf s
  have bc : Lb (((2 ^ f.n : Nat) : Int) * ((2 ^ f.n : Nat) : Int) * 3 ^ f.n) 20 := (bN.mul bN).mul (b3.powm (m := 5) hn)
  have bs : Lb ((Krdk.words f.n).map fun s => pt f s * pt f s * (-1) ^ Krdk.bits f.n s * 3 ^ (f.n - Krdk.bits f.n s)).sum 25 := Lb.sum (a := 20) (m := 5) (fun x hx => by
    obtain ⟨s, _, rfl⟩ := List.mem_map.mp hx
    exact (((bp s).mul (bp s)).mul (b1.powm (m := 5) (Nat.le_trans (Mt.bits_le f.n s) hn))).mul (b3.powm (m := 5) (by omega))) (by simpa [Krdk.words] using h5)
  exact low_Rb (Mt.low_byparts f) (Int.mul_pos (by decide) (Int.mul_pos (Int.mul_pos (p2int _) (p2int _)) (Int.pow_pos (by decide)))) ((b3.mul ((bc.mono (b := 25) (by decide)).sub bs)).big (by decide)) (((show Lb (4 : Int) 2 by unfold Lb; decide).mul bc).big (by decide))
theorem Rb_measure {D : Krdo.Data} {f : Krdk.Answer} (wf : W f) {a b : Int} (h : Mt.Ch D.e a b) (m : Nat) : Rb (Krdo.measure D m f) := by
  unfold Krdo.measure
  split
  · exact Rb_even wf
  · split
    · exact Rb_all wf
    · split
      · exact Rb_stays wf h
      · exact Rb_byparts wf
/-! ### measured -/
def pMeasured (K : PySem.W.Frag) (C : Addr) (vs : List V) (H : Hp) (k : Kd) : Prop := ∃ (d q m : Nat) (D : Krdo.Data) (f : Krdk.Answer), vs = [.ref d, .ref q, .int (m : Nat)] ∧ DkE K C H d D ∧ Seq K H q (SV f) ∧ W f ∧ f.n = D.f.n ∧ m ≤ 3 ∧ k = .ob (.lst ((Krdk.fr (Krdo.measure D m f)).map .int))
/-! ### measured: 0:desk 1:says 2:measure -/
theorem sc137 : FnScope ["desk", "says", "measure"] ["desk", "says", "measure"] (defScope (top 137)) := ⟨rfl, rfl, rfl, by decide +kernel, rfl, by decide +kernel, by decide +kernel⟩
theorem c_measured (T : ClD K C) (ce : Cal P w K mg base 2 "even" (SpK (pEven K))) (ct : Cal P w K mg base 5 "together" (SpK (pTogether K))) (cs : Cal P w K mg base 5 "stays" (SpK (pStays K))) (cb : Cal P w K mg base 5 "byparts" (SpK (pByParts K))) (Df : DefAt K mg "measured" (top 137)) : Cal P w K mg base 6 "measured" (SpK (pMeasured K C)) := by
  refine cal_pure (ps := ["desk", "says", "measure"]) Df sc137 (fun _ _ _ _ _ _ us hl => match us, hl with | [_, _, _], _ => rfl) (fun vs H k ⟨_, _, _, _, _, e, _⟩ => by rw [e]; rfl) fun f cdv A outer s H vs E k hr ⟨d, q, m, D, fa, e, hD, hq, wf, hn, hm, ek⟩ => ?_
  subst e ek
  obtain ⟨dx, ad, cd, sd, ld, sh, hD⟩ := hD
  have hbits : ∀ {σ : L2.St} {H1 : Hp} {p : Pos}, Same H H1 → σ[0]? = some (some (.ref d)) → Gv (cE (Bd P w K mg base ["desk", "says", "measure"] (top 137) f cdv A outer s H E) (.Attribute (.Name "desk" p) "bits" p)) σ H1 (.is (.int (fa.n : Nat))) → True := fun _ _ _ => trivial
  refine gb_if (d := decide (m = 0)) (Gt.to (gt_eq (gv_var 2) gv_int) ?_) (fun h => ?_) (fun h => gb_if (d := decide (m = 1)) (Gt.to (gt_eq (gv_var 2) gv_int) ?_) (fun h2 => ?_) (fun h2 => gb_if (d := decide (m = 2)) (Gt.to (gt_eq (gv_var 2) gv_int) ?_) (fun h3 => ?_) (fun h3 => ?_)))
  · rw [Bool.eq_iff_iff]; simp
  · unfold Krdo.measure
    rw [if_pos (of_decide_eq_true h)]
    exact gb_ret (gv_even ce hr (by decide) (gv_var 1) hq wf)
  · rw [Bool.eq_iff_iff]; simp; omega
  · unfold Krdo.measure
    rw [if_neg (of_decide_eq_false h), if_pos (of_decide_eq_true h2)]
    exact gb_ret (gv_together ct hr (by decide) (Gv.is_to (gv_bitsD T (gv_var 0) hD) (by rw [hn])) (gv_var 1) hq wf)
  · rw [Bool.eq_iff_iff]; simp; omega
  · unfold Krdo.measure
    rw [if_neg (of_decide_eq_false h), if_neg (of_decide_eq_false h2), if_pos (of_decide_eq_true h3)]
    exact gb_ret (gv_stays cs hr (by decide) (Gv.is_to (gv_bitsD T (gv_var 0) hD) (by rw [hn])) (gv_var 1) (gv_chD T (gv_var 0) hD) hq (.inr hD.ch) wf hD.e)
  · unfold Krdo.measure
    rw [if_neg (of_decide_eq_false h), if_neg (of_decide_eq_false h2), if_neg (of_decide_eq_false h3)]
    exact gb_ret (gv_byparts cb hr (by decide) (Gv.is_to (gv_bitsD T (gv_var 0) hD) (by rw [hn])) (gv_var 1) hq wf)
theorem gv_measured {X : Cx} {σ : L2.St} {H : Hp} {j : Nat} {e1 e2 e3 : Expr} {p pos : Pos} {C d q m : Nat} {D : Krdo.Data} {f : Krdk.Answer} (cc : Cal X.prog X.w X.K X.mg X.base 6 "measured" (SpK (pMeasured X.K C))) (hr : Room j X.A) (hj : 6 ≤ j) (h0 : Gv (cE X e1) σ H (.is (.ref d))) (h1 : Gv (cE X e2) σ H (.is (.ref q))) (h2 : Gv (cE X e3) σ H (.is (.int (m : Nat)))) (hD : DkE X.K C H d D) (hq : Seq X.K H q (SV f)) (wf : W f) (hn : f.n = D.f.n) (hm : m ≤ 3) (hg : Gl X "measured" := by rfl)
    (hs0 : starEach [e1, e2, e3] X.env = (false, eval e1 X.env) :: starEach [e2, e3] X.env := by rfl) (hs1 : starEach [e2, e3] X.env = (false, eval e2 X.env) :: starEach [e3] X.env := by rfl) (hs2 : starEach [e3] X.env = (false, eval e3 X.env) :: starEach [] X.env := by rfl) (hpl : (backTo pos (starEach [e2, e3] X.env)).any (·.1) = false := by rfl) :
    Gv (cE X (.Call (.Name "measured" p) [e1, e2, e3] [] pos)) σ H (.ob (.lst ((Krdk.fr (Krdo.measure D m f)).map .int))) :=
  gv_calv (us := [.ref d, .ref q, .int (m : Nat)]) cc hr hj (ga_cons h0 (ga_cons h1 (ga_cons h2 ga_nil hs2) hs1) hs0) (fun _ s => ⟨d, q, m, D, f, rfl, hD.same s, hq.same s, wf, hn, hm, rfl⟩) hg (by decide) hs0 hpl
/-! ### greater -/
def frV (r : Rat) : List V := (Krdk.fr r).map V.int
def pGreater (K : PySem.W.Frag) (vs : List V) (H : Hp) (k : Kd) : Prop := ∃ (a b : Nat) (r1 r2 : Rat), vs = [.ref a, .ref b] ∧ SqL K H a (frV r1) ∧ SqL K H b (frV r2) ∧ Rb r1 ∧ Rb r2 ∧ k = .is (.bl (decide (r2 < r1)))
/-! ### greater: 0:one 1:other -/
theorem sc138 : FnScope ["one", "other"] ["one", "other"] (defScope (top 138)) := ⟨rfl, rfl, rfl, by decide +kernel, rfl, by decide +kernel, by decide +kernel⟩
theorem c_greater  (Df : DefAt K mg "greater" (top 138)) : Cal P w K mg base 1 "greater" (SpK (pGreater K)) := by
  refine cal_pure (ps := ["one", "other"]) Df sc138 (fun _ _ _ _ _ _ us hl => match us, hl with | [_, _], _ => rfl) (fun vs H k ⟨_, _, _, _, e, _⟩ => by rw [e]; rfl) fun f cdv A outer s H vs E k hr ⟨a, b, r1, r2, e, ha, hb, b1, b2, ek⟩ => ?_
  subst e ek
  have cm : ∀ {x y : Int}, x.natAbs < 2 ^ 2000 → y.natAbs < 2 ^ 2000 → CMulW x y := fun h1 h2 => wide_mul h1 h2 (by decide) (by decide) (by decide)
  refine gb_ret (Gv.is_to (gv_gt (gv_mul (gv_ixL (v := .int r1.num) (gv_var 0) (.old ha) gv_int rfl) (gv_ixL (v := .int (r2.den : Int)) (gv_var 1) (.old hb) gv_int rfl) (cm b1.num b2.den)) (gv_mul (gv_ixL (v := .int r2.num) (gv_var 1) (.old hb) gv_int rfl) (gv_ixL (v := .int (r1.den : Int)) (gv_var 0) (.old ha) gv_int rfl) (cm b2.num b1.den))) (congrArg V.bl (decide_eq_decide.mpr ?_)))
  rw [Rat.lt_iff]
theorem gv_greater {X : Cx} {σ : L2.St} {H : Hp} {j : Nat} {e1 e2 : Expr} {p pos : Pos} {a b : Nat} {r1 r2 : Rat} (cc : Cal X.prog X.w X.K X.mg X.base 1 "greater" (SpK (pGreater X.K))) (hr : Room j X.A) (hj : 1 ≤ j) (h0 : Gv (cE X e1) σ H (.is (.ref a))) (h1 : Gv (cE X e2) σ H (.is (.ref b))) (ha : SqL X.K H a (frV r1)) (hb : SqL X.K H b (frV r2)) (b1 : Rb r1) (b2 : Rb r2) (hg : Gl X "greater" := by rfl)
    (hs0 : starEach [e1, e2] X.env = (false, eval e1 X.env) :: starEach [e2] X.env := by rfl) (hs1 : starEach [e2] X.env = (false, eval e2 X.env) :: starEach [] X.env := by rfl) (hpl : (backTo pos (starEach [e2] X.env)).any (·.1) = false := by rfl) :
    Gv (cE X (.Call (.Name "greater" p) [e1, e2] [] pos)) σ H (.is (.bl (decide (r2 < r1)))) :=
  gv_calv (us := [.ref a, .ref b]) cc hr hj (ga_cons h0 (ga_cons h1 ga_nil hs1) hs0) (fun _ s => ⟨a, b, r1, r2, rfl, same_l s ha, same_l s hb, b1, b2, rfl⟩) hg (by decide) hs0 hpl
/-! ### tell_more: 0:desk 1:given 2:measure 3:place 4:own 5:other -/
theorem sc139 : FnScope ["desk", "given", "measure", "place", "own", "other"] ["desk", "given"] (defScope (top 139)) := ⟨rfl, rfl, rfl, by decide +kernel, rfl, by decide +kernel, by decide +kernel⟩
theorem c_tell_more (T : ClD K C) (B : Bl mg) (Z : Ct mg) (Df : DefAt K mg "tell_more" (top 139)) (cr : Cal P w K mg base 1 "refused" (SpK pRefused)) (cm : Cal P w K mg base 6 "measured" (SpK (pMeasured K C))) (cg : Cal P w K mg base 1 "greater" (SpK (pGreater K))) : Cal P w K mg base 7 "tell_more" (SpK (pTell K C 53 2 0)) := by
  refine cal_pure (ps := ["desk", "given"]) Df sc139 (fun _ _ _ _ _ _ us hl => match us, hl with | [_, _], _ => rfl) (fun vs H k ⟨_, _, _, _, _, e, _⟩ => by rw [e]; rfl) fun f cdv A outer s H vs E k hr ⟨d, g, D, xs, rs, e, ⟨dx, ad, cd, sd, ld, sh, hD⟩, hG, hx, hrs, ok, okr, ek⟩ => ?_
  obtain ⟨x, y, rfl, hxm, hym⟩ := two_num hx ok
  obtain rfl := nil_of hrs
  have hq := hG.nums
  subst e ek
  have wf := hD.w
  have hQ : ansP 53 D [(x : Int), (y : Int)] [] = KrdoNeutral.told (if 4 ≤ y then Krdk.say (-2) else if 3 < x then Krdk.say (-22) else match D.on y with
    | none => Krdk.say (-6)
    | some g => { num := if Krdo.measure D x g < Krdo.measure D x D.f then 1 else 0, nums := Krdk.fr (Krdo.measure D x D.f) ++ Krdk.fr (Krdo.measure D x g) }) := rfl
  rw [hQ]
  refine gb_asg (pu2 2 3 rfl sc139.nd) (gv_var 1) fun w1 H1 H2 s1 s2 ew => ?_
  obtain rfl : w1 = .ref g := ew
  refine ⟨_, fun Qg q => u2_go (same_l (s1.trans s2) hq) q, ?_⟩
  have hD := hD.same (s1.trans s2)
  refine gb_if (Gt.to (gt_ge (gv_var 3) (gv_glo Z.places)) (dle 4 y)) (fun h => ?_) (fun h => ?_)
  · rw [if_pos (of_decide_eq_true h)]
    exact gb_ret (gv_ref cr hr (by decide) Z.noSuch)
  · rw [if_neg (of_decide_eq_false h)]
    have hy4 : y < 4 := by have := of_decide_eq_false h; omega
    refine gb_if (Gt.to (gt_gt (gv_var 2) (gv_glo Z.mostMeasure)) (dlt 3 x)) (fun h => ?_) (fun h => ?_)
    · rw [if_pos (of_decide_eq_true h)]
      exact gb_ret (gv_ref cr hr (by decide) Z.notRight)
    · rw [if_neg (of_decide_eq_false h)]
      have hx3 : x ≤ 3 := by have := of_decide_eq_false h; omega
      obtain ⟨u, hu, hm⟩ := sh_at hD.sh (i := y) (by rw [hD.four]; exact hy4)
      rw [on_eq]
      cases hj : (D.shelf[y]?).join with
      | none =>
        rw [hj] at hm
        subst hm
        exact gb_if (d := true) (Gt.to (gt_isN (gv_place T (gv_var 0) hD (gv_var 3) hu) gv_non) rfl) (fun _ => gb_ret (gv_ref cr hr (by decide) Z.nothing)) (fun h => by cases h)
      | some g' =>
        rw [hj] at hm
        obtain ⟨wg, hgn, r, rfl, hr2⟩ := hm
        refine gb_if (d := false) (Gt.to (gt_isN (gv_place T (gv_var 0) hD (gv_var 3) hu) gv_non) rfl) (fun h => by cases h) (fun _ => ?_)
        refine gb_setO 4 sc139.nd (gv_measured cm hr (by decide) (gv_var 0) (gv_saysD T (gv_var 0) hD) (gv_var 2) ⟨_, _, _, _, _, _, hD⟩ (.inr hD.says) wf rfl hx3) fun q1 H3 fq s3 hq1 => ?_
        have hD := hD.same s3
        refine gb_setO 5 sc139.nd (gv_measured cm hr (by decide) (gv_var 0) (gv_place T (gv_var 0) hD (gv_var 3) hu) (gv_var 2) ⟨_, _, _, _, _, _, hD⟩ (.inr (same_t s3 hr2)) wg hgn hx3) fun q2 H4 fq2 s4 hq2 => ?_
        have hq1 := s4 _ _ hq1
        refine gb_ret (Gv.to (gv_catM (gv_catM (xs := [.int (if Krdo.measure D x g' < Krdo.measure D x D.f then 1 else 0)]) (gv_lst (vs := [.int (if Krdo.measure D x g' < Krdo.measure D x D.f then 1 else 0)]) (ga_cons (gv_ite (gt_val (gv_greater cg hr (by decide) (gv_var 4) (gv_var 5) (SqL.of hq1) (SqL.of hq2) (Rb_measure wf hD.e x) (Rb_measure wg hD.e x))) (fun h => gv_int.is_to (by rw [if_pos (of_decide_eq_true h)])) (fun h => gv_int.is_to (by rw [if_neg (of_decide_eq_false h)]))) ga_nil) (Nat.le_of_ble_eq_true rfl)) (.inl rfl) (gv_var 4) (.inr ⟨q1, rfl, hq1⟩) (Nat.le_of_ble_eq_true rfl)) (.inl rfl) (gv_var 5) (.inr ⟨q2, rfl, hq2⟩) (Nat.le_of_ble_eq_true rfl)) ?_)
        rfl
/-! ### best -/
def bstep (D : Krdo.Data) (q : Nat) (m : Option (Nat × Rat)) (i : Nat) : Option (Nat × Rat) := match D.on i with
  | none => m
  | some g => match m with
    | none => some (i, Krdo.measure D q g)
    | some y => if y.2 < Krdo.measure D q g then some (i, Krdo.measure D q g) else some y
def bst (D : Krdo.Data) (q i : Nat) : Option (Nat × Rat) := (List.range i).foldl (bstep D q) none
theorem bst_succ (D : Krdo.Data) (q i : Nat) : bst D q (i + 1) = bstep D q (bst D q i) i := by
  unfold bst
  rw [List.range_succ, List.foldl_append]
  rfl
/-- what the loop of best holds -/
def bestW (d g x : Nat) (D : Krdo.Data) (o : Option (Nat × Rat)) (σ' : L2.St) (H' : Hp) : Prop := ∃ y z v, match o with
  | none => ∃ qf : Addr, σ' = [some (.ref d), some (.ref g), some (.int (x : Nat)), some .non, some (.ref qf), y, z, v]
  | some b => (∃ g0, W g0 ∧ b.2 = Krdo.measure D x g0) ∧ ∃ qf : Addr, H' qf = some (.lst (frV b.2)) ∧ σ' = [some (.ref d), some (.ref g), some (.int (x : Nat)), some (.int (b.1 : Nat)), some (.ref qf), y, z, v]
theorem bestW.same {d g x : Nat} {D : Krdo.Data} {o : Option (Nat × Rat)} {σ' : L2.St} {H H' : Hp} (h : bestW d g x D o σ' H) (s : Same H H') : bestW d g x D o σ' H' := by
  obtain ⟨y, z, v, h⟩ := h
  cases o with
  | none => exact ⟨y, z, v, h⟩
  | some b => obtain ⟨h1, qf, h2, h3⟩ := h; exact ⟨y, z, v, h1, qf, s _ _ h2, h3⟩
/-! ### tell_best: 0:desk 1:given 2:measure 3:best 4:found 5:place 6:says 7:share -/
theorem sc140 : FnScope ["desk", "given", "measure", "best", "found", "place", "says", "share"] ["desk", "given"] (defScope (top 140)) := ⟨rfl, rfl, rfl, by decide +kernel, rfl, by decide +kernel, by decide +kernel⟩
theorem c_tell_best (T : ClD K C) (B : Bl mg) (Z : Ct mg) (Df : DefAt K mg "tell_best" (top 140)) (cr : Cal P w K mg base 1 "refused" (SpK pRefused)) (cm : Cal P w K mg base 6 "measured" (SpK (pMeasured K C))) (cg : Cal P w K mg base 1 "greater" (SpK (pGreater K))) : Cal P w K mg base 7 "tell_best" (SpK (pTell K C 54 1 0)) := by
  refine cal_pure (ps := ["desk", "given"]) Df sc140 (fun _ _ _ _ _ _ us hl => match us, hl with | [_, _], _ => rfl) (fun vs H k ⟨_, _, _, _, _, e, _⟩ => by rw [e]; rfl) fun f cdv A outer s H vs E k hr ⟨d, g, D, xs, rs, e, ⟨dx, ad, cd, sd, ld, sh, hD⟩, hG, hx, hrs, ok, okr, ek⟩ => ?_
  obtain ⟨x, rfl, hxm⟩ := one_num hx ok
  obtain rfl := nil_of hrs
  have hq := hG.nums
  subst e ek
  have wf := hD.w
  have hQ : ansP 54 D [(x : Int)] [] = KrdoNeutral.told (if 3 < x then Krdk.say (-22) else match bst D x 4 with
    | none => Krdk.say (-6)
    | some y => { num := y.1, nums := Krdk.fr y.2 }) := rfl
  rw [hQ]
  refine gb_set 2 sc140.nd (gv_at (gv_var 1) hq rfl (by decide)) (gb_if (Gt.to (gt_gt (gv_var 2) (gv_glo Z.mostMeasure)) (dlt 3 x)) (fun h => ?_) (fun h => ?_))
  · rw [if_pos (of_decide_eq_true h)]
    exact gb_ret (gv_ref cr hr (by decide) Z.notRight)
  · rw [if_neg (of_decide_eq_false h)]
    have hx3 : x ≤ 3 := by have := of_decide_eq_false h; omega
    have hl : sh.length = 4 := by rw [← hD.four]; exact Paired.length hD.sh
    refine gb_go fun Dn H1 s1 _ hR => ?_
    have hD := hD.same s1
    refine go_setV 3 sc140.nd gv_non ?_
    refine go_setO 4 sc140.nd (gv_lst (vs := []) ga_nil (Nat.le_of_ble_eq_true rfl)) fun q0 H2 fq0 s2 hq0 => ?_
    have hD := hD.same s2
    refine go_forET (xs := sh) 5 6 rfl sc140.nd B.enum (gv_shD T (gv_var 0) hD) (.old hD.shelf) (fun a H3 s3 n3 ha => ?_) PassesOwn.never (pg2 5 6 rfl sc140.nd)
    have hD := hD.same s3
    refine ⟨fun i σ' H' => Same H3 H' ∧ bestW d g x D (bst D x i) σ' H', ⟨Same.refl _, none, none, none, q0, rfl⟩, fun i σ' H' _ w => same_t w.1 ha, ?_, ?_⟩
    · rintro i v σ' H' hv ⟨sH, hm⟩
      have hi4 : i < 4 := by have := (List.getElem?_eq_some_iff.mp hv).1; omega
      have hD := hD.same sH
      obtain ⟨u, hu, hmm⟩ := sh_at hD.sh (i := i) (by rw [hD.four]; exact hi4)
      rw [hv] at hu
      obtain rfl := Option.some.inj hu
      have eb := bst_succ D x i
      unfold bstep at eb
      rw [on_eq] at eb
      obtain ⟨y0, z0, v0, hm⟩ := hm
      show Go (thru Dn fun σ' H' => Same H3 H' ∧ bestW d g x D (bst D x (i + 1)) σ' H') _ _ _
      cases hj : (D.shelf[i]?).join with
      | none =>
        rw [hj] at hmm eb
        subst hmm
        have eb : bst D x (i + 1) = bst D x i := eb
        rw [eb]
        cases hb : bst D x i with
        | none =>
          rw [hb] at hm
          obtain ⟨qf, rfl⟩ := hm
          refine go_ifN (d := false) (fun σ' H' => Same H3 H' ∧ bestW d g x D none σ' H') (Gt.to (gt_notN (gv_var (v := .non) 6) gv_non) rfl) (fun h => by cases h) (fun _ => ?_) (fun σ' H' w => go_thru w)
          exact ⟨sH, some (.int (i : Nat)), some .non, v0, qf, rfl⟩
        | some b =>
          rw [hb] at hm
          obtain ⟨hbm, qf, hqf, rfl⟩ := hm
          refine go_ifN (d := false) (fun σ' H' => Same H3 H' ∧ bestW d g x D (some b) σ' H') (Gt.to (gt_notN (gv_var (v := .non) 6) gv_non) rfl) (fun h => by cases h) (fun _ => ?_) (fun σ' H' w => go_thru w)
          exact ⟨sH, some (.int (i : Nat)), some .non, v0, hbm, qf, hqf, rfl⟩
      | some g' =>
        rw [hj] at hmm eb
        obtain ⟨wg, hgn, r, rfl, hr2⟩ := hmm
        cases hb : bst D x i with
        | none =>
          rw [hb] at hm eb
          obtain ⟨qf, rfl⟩ := hm
          have eb : bst D x (i + 1) = some (i, Krdo.measure D x g') := eb
          rw [eb]
          refine go_ifN (d := true) (fun σ' H' => Same H3 H' ∧ bestW d g x D (some (i, Krdo.measure D x g')) σ' H') (Gt.to (gt_notN (gv_var (v := .ref r) 6) gv_non) rfl) (fun _ => ?_) (fun h => by cases h) (fun σ' H' w => go_thru w)
          refine go_setO 7 sc140.nd (gv_measured cm hr (by decide) (gv_var 0) (gv_var 6) (gv_var 2) ⟨_, _, _, _, _, _, hD⟩ (.inr hr2) wg hgn hx3) fun q3 H4 fq3 s4 hq3 => ?_
          refine go_ifN (d := true) (fun σ' H' => Same H3 H' ∧ bestW d g x D (some (i, Krdo.measure D x g')) σ' H') (Gt.to (gt_or2 (d1 := true) (d2 := true) (Gt.to (gt_isN (gv_var (v := .non) 3) gv_non) rfl) (fun h => by cases h)) rfl) (fun _ => ?_) (fun h => by cases h) (fun σ' H' w => go_thru w)
          refine go_setV 3 sc140.nd (gv_var 5) (go_setV 4 sc140.nd (gv_var 7) (go_thru ⟨sH.trans s4, some (.int (i : Nat)), some (.ref r), some (.ref q3), ⟨g', wg, rfl⟩, q3, hq3, rfl⟩))
        | some b =>
          rw [hb] at hm eb
          obtain ⟨⟨g0, w0, hb0⟩, qf, hqf, rfl⟩ := hm
          have eb : bst D x (i + 1) = if b.2 < Krdo.measure D x g' then some (i, Krdo.measure D x g') else some b := eb
          rw [eb]
          refine go_ifN (d := true) (fun σ' H' => Same H3 H' ∧ bestW d g x D (if b.2 < Krdo.measure D x g' then some (i, Krdo.measure D x g') else some b) σ' H') (Gt.to (gt_notN (gv_var (v := .ref r) 6) gv_non) rfl) (fun _ => ?_) (fun h => by cases h) (fun σ' H' w => go_thru w)
          refine go_setO 7 sc140.nd (gv_measured cm hr (by decide) (gv_var 0) (gv_var 6) (gv_var 2) ⟨_, _, _, _, _, _, hD⟩ (.inr hr2) wg hgn hx3) fun q3 H4 fq3 s4 hq3 => ?_
          have hqf := s4 _ _ hqf
          refine go_ifN (d := decide (b.2 < Krdo.measure D x g')) (fun σ' H' => Same H3 H' ∧ bestW d g x D (if b.2 < Krdo.measure D x g' then some (i, Krdo.measure D x g') else some b) σ' H') (Gt.to (gt_or2 (d1 := false) (Gt.to (gt_isN (gv_var (v := .int (b.1 : Nat)) 3) gv_non) rfl) (fun _ => gt_val (gv_greater cg hr (by decide) (gv_var 7) (gv_var 4) (SqL.of hq3) (SqL.of hqf) (Rb_measure wg hD.e x) (by rw [hb0]; exact Rb_measure w0 hD.e x)))) (Bool.false_or _)) (fun h => ?_) (fun h => ?_) (fun σ' H' w => go_thru w)
          · rw [if_pos (of_decide_eq_true h)]
            exact go_setV 3 sc140.nd (gv_var 5) (go_setV 4 sc140.nd (gv_var 7) (go_thru ⟨sH.trans s4, some (.int (i : Nat)), some (.ref r), some (.ref q3), ⟨g', wg, rfl⟩, q3, hq3, rfl⟩))
          · rw [if_neg (of_decide_eq_false h)]
            exact ⟨sH.trans s4, some (.int (i : Nat)), some (.ref r), some (.ref q3), ⟨g0, w0, hb0⟩, qf, hqf, rfl⟩
    · rintro σ' H' ⟨sH, y0, z0, v0, hm⟩
      have sA := (s2.trans s3).trans sH
      rw [hl] at hm
      cases hb : bst D x 4 with
      | none =>
        rw [hb] at hm hR
        obtain ⟨qf, rfl⟩ := hm
        exact go_if (d := true) (Gt.to (gt_isN (gv_var (v := .non) 3) gv_non) rfl) (fun _ nx => go_ret (gv_ref cr hr (by decide) Z.nothing) (ret_back (Dn := { Dn with nx := nx }) hR sA)) (fun h => by cases h)
      | some b =>
        rw [hb] at hm hR
        obtain ⟨_, qf, hqf, rfl⟩ := hm
        exact go_if (d := false) (Gt.to (gt_isN (gv_var (v := .int (b.1 : Nat)) 3) gv_non) rfl) (fun h => by cases h) (fun _ => go_ret (gv_cat (xs := [.int (b.1 : Nat)]) (gv_lst (vs := [.int (b.1 : Nat)]) (ga_cons (gv_var 3) ga_nil) (Nat.le_of_ble_eq_true rfl)) (gv_var 4) (.inr ⟨qf, rfl, hqf⟩) (Nat.le_of_ble_eq_true rfl)) (ret_back hR sA))
/-! ### shelf -/
def shI : Option Krdk.Answer → Int
  | none => -1
  | some g => (g.yes : Int)
/-! ### tell_shelf: 0:desk 1:given 2:counts 3:says 4:count -/
theorem sc141 : FnScope ["desk", "given", "counts", "says", "count"] ["desk", "given"] (defScope (top 141)) := ⟨rfl, rfl, rfl, by decide +kernel, rfl, by decide +kernel, by decide +kernel⟩
theorem c_tell_shelf (T : ClD K C) (B : Bl mg) (Z : Ct mg) (Df : DefAt K mg "tell_shelf" (top 141))  : Cal P w K mg base 2 "tell_shelf" (SpK (pTell K C 55 0 0)) := by
  refine cal_pure (ps := ["desk", "given"]) Df sc141 (fun _ _ _ _ _ _ us hl => match us, hl with | [_, _], _ => rfl) (fun vs H k ⟨_, _, _, _, _, e, _⟩ => by rw [e]; rfl) fun f cdv A outer s H vs E k hr ⟨d, g, D, xs, rs, e, ⟨dx, ad, cd, sd, ld, sh, hD⟩, hG, hx, hrs, ok, okr, ek⟩ => ?_
  obtain rfl := nil_of hx
  obtain rfl := nil_of hrs
  have hq := hG.nums
  subst e ek
  have wf := hD.w
  have hQ : ansP 55 D [] [] = (((D.shelf.filter Option.isSome).length : Nat) : Int) :: D.shelf.map shI := by
    show KrdoNeutral.told { num := (D.shelf.filter Option.isSome).length, nums := D.shelf.map fun o => match o with
      | none => -1
      | some g => (g.yes : Int) } = _
    unfold KrdoNeutral.told
    congr 1
  rw [hQ]
  have hl : sh.length = 4 := by rw [← hD.four]; exact Paired.length hD.sh
  have h4 := hD.four
  refine gb_lcX 2 rfl sc141.nd (LcR.to (lc_T 3 (gv_shD T (gv_var 0) hD) (.old hD.shelf) (by omega) (blkOk_by (own := [("says", 3)]) (N := ["desk", "given", "counts", "says", "count"]) (sc := defScope (top 141)) (by decide +kernel)) (fun _ _ _ _ _ => pg_name (i := 3) sc141.nd rfl (Or.inl rfl)) (fun _ _ _ _ _ => pts_nil)
    (fun _ => true) (fun i => .int (shI (D.shelf.getD i none))) (fun _ => rfl) (fun _ _ _ => gt_yes) (fun i v hv _ => ?_)) (k' := .ob (.lst ((D.shelf.map shI).map .int))) ?_) fun q H1 fq s1 hq1 => ?_
  · obtain ⟨o, ho, hm⟩ := L2.paired_get hD.sh hv
    rw [getD_at ho]
    cases o with
    | none =>
      have hm : v = V.non := hm
      subst hm
      exact gv_cF fun _ _ _ _ _ => gv_ite (d := true) (Gt.to (gt_isN (gv_var 3) gv_non) rfl) (fun _ => Gv.is_to (gv_neg gv_int) rfl) (fun h => by cases h)
    | some g' =>
      obtain ⟨wg, _, r, rfl, hr2⟩ := hm
      exact gv_cF fun _ _ _ _ _ => gv_ite (d := false) (Gt.to (gt_isN (gv_var 3) gv_non) rfl) (fun h => by cases h) (fun _ => Gv.is_to (gv_sumT (ns := S g') rfl B (gv_var 3) (.old hr2)) (by rw [Mt.S_sum wg]; rfl))
  · rw [given_all, hl, ← h4, mapV, map_getD D.shelf none shI]
  · refine gb_ret (gv_cat (xs := [.int (((D.shelf.filter Option.isSome).length : Nat) : Int)]) (gv_lst (vs := [.int (((D.shelf.filter Option.isSome).length : Nat) : Int)]) (ga_cons (Gv.is_to (gv_lenL B (gv_lcL 4 rfl sc141.nd (gv_var 2) (.old (SqL.of hq1)) (by simp; omega) (blkOk_by (own := [("count", 4)]) (N := ["desk", "given", "counts", "says", "count"]) (sc := defScope (top 141)) (by decide +kernel)) (fun _ _ _ _ _ => pg_name (i := 4) sc141.nd rfl (Or.inl rfl)) pts_c
      (fun i => (D.shelf.getD i none).isSome) (fun i => .int (shI (D.shelf.getD i none))) (fun _ => rfl) (fun i v hv => ?_) (fun i v hv _ => ?_)) .new) ?_) ga_nil) (Nat.le_of_ble_eq_true rfl)) (gv_var 2) (.inr ⟨q, rfl, hq1⟩) (by simp; omega))
    · rw [List.getElem?_map, List.getElem?_map, Option.map_eq_some_iff] at hv
      obtain ⟨z, hz, rfl⟩ := hv
      rw [Option.map_eq_some_iff] at hz
      obtain ⟨o, ho, rfl⟩ := hz
      rw [getD_at ho]
      refine gt_cF fun _ _ _ _ _ => Gt.to (gt_ge (gv_var 4) gv_int) ?_
      cases o with
      | none => rfl
      | some g' => exact decide_eq_true (Int.natCast_nonneg _)
    · rw [List.getElem?_map, List.getElem?_map, Option.map_eq_some_iff] at hv
      obtain ⟨z, hz, rfl⟩ := hv
      rw [Option.map_eq_some_iff] at hz
      obtain ⟨o, ho, rfl⟩ := hz
      rw [getD_at ho]
      exact gv_cF fun _ _ _ _ _ => gv_var 4
    · unfold given
      rw [List.length_map, List.length_map, List.length_map, filter_getD (p := Option.isSome)]
end
end Sw
set_option Elab.async false
set_option linter.all false
set_option maxRecDepth 100000
set_option maxHeartbeats 2000000
set_option exponentiation.threshold 3000
namespace Sw
open PySem PySem.Spec PyProof.Rows L2 Kx
open Evl (given given_yes given_no given_len)
open Mt (W S swc pt)
section
variable {P : Program} {w : World} {K : PySem.W.Frag} {mg : Str → Option Value} {base : Heap} {C : Addr}
/-! ### begin -/
def dG (v1 v2 v3 v4 v5 : V) : List (Str × V) := [("bits", v1), ("says", v2), ("chance", v3), ("shelf", v4), ("past", v5)]
theorem putG1 {v1 v2 v3 v4 v5 : V} (v : V) : putF "bits" v (dG v1 v2 v3 v4 v5) = dG v v2 v3 v4 v5 := if_pos rfl
theorem putG2 {v1 v2 v3 v4 v5 : V} (v : V) : putF "says" v (dG v1 v2 v3 v4 v5) = dG v1 v v3 v4 v5 := by
  unfold dG
  rw [putF, if_neg (by decide +kernel), putF, if_pos rfl]
theorem putG3 {v1 v2 v3 v4 v5 : V} (v : V) : putF "chance" v (dG v1 v2 v3 v4 v5) = dG v1 v2 v v4 v5 := by
  unfold dG
  rw [putF, if_neg (by decide +kernel), putF, if_neg (by decide +kernel), putF, if_pos rfl]
theorem putG4 {v1 v2 v3 v4 v5 : V} (v : V) : putF "shelf" v (dG v1 v2 v3 v4 v5) = dG v1 v2 v3 v v5 := by
  unfold dG
  rw [putF, if_neg (by decide +kernel), putF, if_neg (by decide +kernel), putF, if_neg (by decide +kernel), putF, if_pos rfl]
theorem putG5 {v1 v2 v3 v4 v5 : V} (v : V) : putF "past" v (dG v1 v2 v3 v4 v5) = dG v1 v2 v3 v4 v := by
  unfold dG
  rw [putF, if_neg (by decide +kernel), putF, if_neg (by decide +kernel), putF, if_neg (by decide +kernel), putF, if_neg (by decide +kernel), putF, if_pos rfl]
def dat0 (n : Nat) : Krdo.Data := ⟨Krdk.of n fun _ => false, 1 / 10, List.replicate 4 none⟩
/-- begun anew -/
structure BegunR (K : PySem.W.Frag) (C : Addr) (H : Hp) (d dx : Addr) (x : Nat) (v : V) (H2 : Hp) : Prop where
  but : But d H H2
  dk : ∃ a c s l sh, Dk K C H2 d (dat0 x) dx a c s l sh ∧ H l = none ∧ l ≠ d ∧ H2 l = some (.lst [])
  ret : (Kd.ob (.lst [.int 0])).new H v H2
def spBegin (K : PySem.W.Frag) (C : Addr) : Sp := fun vs H Q _ => ∃ (d g x dx : Nat) (v1 v2 v3 v4 v5 : V), vs = [.ref d, .ref g] ∧ H d = some (.ins C dx (dG v1 v2 v3 v4 v5)) ∧ SqL K H g [.int (x : Nat)] ∧
  ((x = 0 ∨ 5 < x) → ∀ v H2, Same H H2 → (Kd.ob (.lst [.int (-22)])).new H v H2 → Q v H2) ∧ (1 ≤ x ∧ x ≤ 5 → ∀ v H2, BegunR K C H d dx x v H2 → Q v H2)
theorem sc77 : FnScope ["desk", "given", "bits", "word", "place"] ["desk", "given"] (defScope (top 77)) := ⟨rfl, rfl, rfl, by decide +kernel, rfl, by decide +kernel, by decide +kernel⟩
theorem e10 : ((1 / 10 : Rat)).num = 1 ∧ ((1 / 10 : Rat)).den = 10 := by decide +kernel
theorem ch10 : Mt.Ch (1 / 10) ((1 / 10 : Rat)).num (((1 / 10 : Rat)).den : Int) := by
  have h1 := e10.1
  have h2 := e10.2
  refine ⟨?_, ?_, ?_, ?_, ?_⟩ <;> simp only [h1, h2]
  · rfl
  all_goals decide
/-- what the statement j stores -/
def asgV (b : List Stmt) (j : Nat) : Expr := match b.getD j (.Pass ⟨0, 0, 0, 0⟩) with
  | .Assign _ e _ => e
  | _ => .Constant .none 0 ⟨0, 0, 0, 0⟩
theorem c_begin (T : ClD K C) (B : Bl mg) (Z : Ct mg) (Df : DefAt K mg "begin" (top 77)) (cr : Cal P w K mg base 1 "refused" (SpK pRefused)) : Cal P w K mg base 2 "begin" (spBegin K C) := by
  refine cal_of (ps := ["desk", "given"]) Df sc77 (fun _ _ _ _ _ _ us hl => match us, hl with | [_, _], _ => rfl) (fun vs H Q E ⟨_, _, _, _, _, _, _, _, _, e, _⟩ => by rw [e]; rfl) fun f cdv A outer s H vs Q E hr ⟨d, g, x, dx, v1, v2, v3, v4, v5, e, hd, hg, hQ1, hQ2⟩ => ?_
  subst e
  refine go_run ?_
  refine go_setV 2 sc77.nd (gv_at (gv_var 1) hg rfl (by decide)) (go_if (d := decide (x < 1) || decide (5 < x)) (gt_or2 (Gt.to (gt_lt (gv_var 2) gv_int) (dlt x 1)) (fun _ => Gt.to (gt_gt (gv_var 2) (gv_glo Z.mostBits)) (dlt 5 x))) (fun h nx => ?_) (fun h => ?_))
  · exact go_ret (gv_ref cr hr (by decide) Z.notRight) (hQ1 (by simp at h; omega))
  · have hx : 1 ≤ x ∧ x ≤ 5 := by simp at h; omega
    have h5 := p2le hx.2
    have wd : W (Krdk.of x fun _ => false) := Mt.of_W hx.1 hx.2 _
    refine go_fld (gv_var 0) hd T.cl T.n1 (by show 5 < 1000; decide) (gv_var 2) fun w1 H1 s1 n1 => ?_
    obtain rfl : w1 = .int (x : Nat) := n1
    rw [putG1]
    have z1 : But d H (upd H1 d (.ins C dx (dG (.int (x : Nat)) v2 v3 v4 v5))) := (But.of s1).upd_
    have i1 : (upd H1 d (.ins C dx (dG (.int (x : Nat)) v2 v3 v4 v5))) d = some _ := upd_same
    generalize upd H1 d (.ins C dx (dG (.int (x : Nat)) v2 v3 v4 v5)) = G1 at z1 i1 ⊢
    refine go_fld (gv_var 0) i1 T.cl T.n2 (by show 5 < 1000; decide) (gv_tupL B (Gv.to (gv_lcR (N := ((2 ^ x : Nat) : Int)) 3 rfl sc77.nd B.range (Gv.is_to (gv_shlN (m := 1) (n := x) gv_int (gv_var 2) (by decide) (by omega)) (by rw [shl1])) ⟨Int.le_of_lt (p2int _), by omega⟩ (blkOk_by (own := [("word", 3)]) (N := ["desk", "given", "bits", "word", "place"]) (sc := defScope (top 77)) (by decide +kernel)) (fun _ _ _ _ _ => pg_name (i := 3) sc77.nd rfl (Or.inl rfl)) (fun _ _ _ _ _ => pts_nil)
      (fun _ => true) (fun _ => .int 0) (fun _ => rfl) (fun _ _ => gt_yes) (fun _ _ _ => gv_cF fun _ _ _ _ _ => gv_int)) (k' := .ob (.lst (SV (Krdk.of x fun _ => false)))) (by rw [given_all, Int.toNat_natCast, SV_of_eq]; rfl)) .new) fun w2 H2 s2 ⟨a, ew2, fa, ha⟩ => ?_
    subst ew2
    rw [putG2]
    have z2 : But d G1 (upd H2 d (.ins C dx (dG (.int (x : Nat)) (.ref a) v3 v4 v5))) := (But.of s2).upd_
    have a2 : SqT K (upd H2 d (.ins C dx (dG (.int (x : Nat)) (.ref a) v3 v4 v5))) a _ := (But.upd_ But.refl).seqT (s2 _ _ i1) (SqT.of ha)
    have i2 : (upd H2 d (.ins C dx (dG (.int (x : Nat)) (.ref a) v3 v4 v5))) d = some _ := upd_same
    generalize upd H2 d (.ins C dx (dG (.int (x : Nat)) (.ref a) v3 v4 v5)) = G2 at z2 a2 i2 ⊢
    refine go_fld (gv_var 0) i2 T.cl T.n3 (by show 5 < 1000; decide) (gv_tup (vs := [.int 1, .int 10]) (ga_cons gv_int (ga_cons gv_int ga_nil)) (Nat.le_of_ble_eq_true rfl)) fun w3 H3 s3 ⟨c, ew3, fc, hc⟩ => ?_
    subst ew3
    rw [putG3]
    have z3 : But d G2 (upd H3 d (.ins C dx (dG (.int (x : Nat)) (.ref a) (.ref c) v4 v5))) := (But.of s3).upd_
    have c3 : SqT K (upd H3 d (.ins C dx (dG (.int (x : Nat)) (.ref a) (.ref c) v4 v5))) c _ := (But.upd_ But.refl).seqT (s3 _ _ i2) (SqT.of hc)
    have a3 := z3.seqT i2 a2
    have i3 : (upd H3 d (.ins C dx (dG (.int (x : Nat)) (.ref a) (.ref c) v4 v5))) d = some _ := upd_same
    generalize upd H3 d (.ins C dx (dG (.int (x : Nat)) (.ref a) (.ref c) v4 v5)) = G3 at z3 c3 a3 i3 ⊢
    have gsh : Gv (cE (Bd P w K mg base ["desk", "given", "bits", "word", "place"] (top 77) f cdv A outer s H E) (asgV (defBody (top 77)) 5)) [some (.ref d), some (.ref g), some (.int (x : Nat)), none, none] G3 (.ob (.tup [.non, .non, .non, .non])) :=
      gv_tupL B (Gv.to (gv_lcR (N := 4) 4 rfl sc77.nd B.range (by exact gv_glo Z.places) (by decide) (blkOk_by (own := [("place", 4)]) (N := ["desk", "given", "bits", "word", "place"]) (sc := defScope (top 77)) (by decide +kernel)) (fun _ _ _ _ _ => pg_name (i := 4) sc77.nd rfl (Or.inl rfl)) (fun _ _ _ _ _ => pts_nil)
        (fun _ => true) (fun _ => .non) (fun _ => rfl) (fun _ _ => gt_yes) (fun _ _ _ => gv_cF fun _ _ _ _ _ => gv_non)) (k' := .ob (.lst [.non, .non, .non, .non])) rfl) .new
    refine go_fld (gv_var 0) i3 T.cl T.n4 (by show 5 < 1000; decide) gsh fun w4 H4 s4 ⟨sd, ew4, fs, hs⟩ => ?_
    subst ew4
    rw [putG4]
    have z4 : But d G3 (upd H4 d (.ins C dx (dG (.int (x : Nat)) (.ref a) (.ref c) (.ref sd) v5))) := (But.of s4).upd_
    have s4' : SqT K (upd H4 d (.ins C dx (dG (.int (x : Nat)) (.ref a) (.ref c) (.ref sd) v5))) sd _ := (But.upd_ But.refl).seqT (s4 _ _ i3) (SqT.of hs)
    have a4 := z4.seqT i3 a3
    have c4 := z4.seqT i3 c3
    have i4 : (upd H4 d (.ins C dx (dG (.int (x : Nat)) (.ref a) (.ref c) (.ref sd) v5))) d = some _ := upd_same
    generalize upd H4 d (.ins C dx (dG (.int (x : Nat)) (.ref a) (.ref c) (.ref sd) v5)) = G4 at z4 s4' a4 c4 i4 ⊢
    refine go_fld (gv_var 0) i4 T.cl T.n5 (by show 5 < 1000; decide) (gv_lst (vs := []) ga_nil (Nat.le_of_ble_eq_true rfl)) fun w5 H5 s5 ⟨l, ew5, fl, hl⟩ => ?_
    subst ew5
    rw [putG5]
    have z0 := ((z1.trans z2).trans z3).trans z4
    have nd : l ≠ d := by
      intro e
      rw [e, i4] at fl
      cases fl
    have fl0 : H l = none := by
      cases hz : H l with
      | none => rfl
      | some u => rw [z0 l u nd hz] at fl; cases fl
    have z5 : But d G4 (upd H5 d (.ins C dx (dG (.int (x : Nat)) (.ref a) (.ref c) (.ref sd) (.ref l)))) := (But.of s5).upd_
    have l5 : (upd H5 d (.ins C dx (dG (.int (x : Nat)) (.ref a) (.ref c) (.ref sd) (.ref l)))) l = some (.lst []) := by rw [upd_ne nd]; exact hl
    have a5 := z5.seqT i4 a4
    have c5 := z5.seqT i4 c4
    have s5' := z5.seqT i4 s4'
    have i5 : (upd H5 d (.ins C dx (dG (.int (x : Nat)) (.ref a) (.ref c) (.ref sd) (.ref l)))) d = some _ := upd_same
    generalize upd H5 d (.ins C dx (dG (.int (x : Nat)) (.ref a) (.ref c) (.ref sd) (.ref l))) = G5 at z5 l5 a5 c5 s5' i5 ⊢
    have zz := z0.trans z5
    refine go_ret (gv_lst (vs := [.int 0]) (ga_cons gv_int ga_nil) (Nat.le_of_ble_eq_true rfl)) fun v H6 s6 n6 => hQ2 hx v H6 ⟨zz.then_ s6, ⟨a, c, sd, l, [.non, .non, .non, .non], ⟨s6 _ _ i5, wd, same_t s6 a5, ?_, ch10, same_t s6 s5', .cons rfl (.cons rfl (.cons rfl (.cons rfl .nil))), rfl⟩, fl0, nd, s6 _ _ l5⟩, new_but zz hd i5 n6⟩
    show SqT K H6 c [.int ((1 / 10 : Rat)).num, .int (((1 / 10 : Rat)).den : Int)]
    rw [e10.1, e10.2]
    exact same_t s6 c5
end
end Sw
set_option Elab.async false
set_option linter.all false
set_option maxRecDepth 100000
set_option maxHeartbeats 2000000
set_option exponentiation.threshold 3000
namespace Sw
open PySem PySem.Spec PyProof.Rows L2 Kx
open Evl (given given_yes given_no given_len)
open Mt (W S swc pt)
section
variable {P : Program} {w : World} {K : PySem.W.Frag} {mg : Str → Option Value} {base : Heap} {C : Addr}
/-! ### the desk's data, compared -/
def dInts (ns : List Int) : PyData := .tuple (ns.map .int)
def dPl : Option Krdk.Answer → PyData
  | none => .none
  | some g => dInts (S g)
def dataOf (D : Krdo.Data) : PyData := .tuple [dInts (S D.f), dInts [D.e.num, (D.e.den : Int)], .tuple (D.shelf.map dPl)]
theorem ints_lay : ∀ ns : List Int, PyData.canLayAll0 (ns.map .int) = true
  | [] => by rw [List.map_nil, PyData.canLayAll0]
  | n :: ns => by rw [List.map_cons, PyData.canLayAll0, PyData.canLay0, ints_lay ns]; rfl
theorem ints_depth : ∀ ns : List Int, PyData.depthAll (ns.map .int) = 0
  | [] => by rw [List.map_nil, PyData.depthAll]
  | n :: ns => by rw [List.map_cons, PyData.depthAll, PyData.depth, ints_depth ns]; rfl
theorem pl_lay : ∀ os : List (Option Krdk.Answer), PyData.canLayAll0 (os.map dPl) = true
  | [] => by rw [List.map_nil, PyData.canLayAll0]
  | o :: os => by
    rw [List.map_cons, PyData.canLayAll0, pl_lay os]
    cases o with
    | none => rw [dPl, PyData.canLay0]; rfl
    | some g => rw [dPl, dInts, PyData.canLay0, ints_lay]; rfl
theorem pl_depth : ∀ os : List (Option Krdk.Answer), PyData.depthAll (os.map dPl) ≤ 1
  | [] => by rw [List.map_nil, PyData.depthAll]; decide
  | o :: os => by
    rw [List.map_cons, PyData.depthAll]
    have h := pl_depth os
    cases o with
    | none => rw [dPl, PyData.depth]; omega
    | some g => rw [dPl, dInts, PyData.depth, ints_depth]; omega
theorem dataOf_shaped (D : Krdo.Data) : SeqAt.shaped (dataOf D) = true := by
  unfold SeqAt.shaped dataOf
  rw [Bool.and_eq_true_iff]
  constructor
  · simp only [PyData.canLay0, PyData.canLayAll0, dInts, ints_lay, pl_lay, Bool.and_self]
  · apply decide_eq_true
    have h := pl_depth D.shelf
    simp only [PyData.depth, PyData.depthAll, dInts, ints_depth]
    omega
theorem eqv_ints : ∀ a b : List Int, PyData.eqvAll (a.map .int) (b.map .int) = decide (a = b)
  | [], [] => by rw [List.map_nil, PyData.eqvAll]; rfl
  | [], _ :: _ => by rw [List.map_nil, List.map_cons, PyData.eqvAll]; rfl
  | _ :: _, [] => by rw [List.map_nil, List.map_cons, PyData.eqvAll]; rfl
  | x :: a, y :: b => by
    rw [List.map_cons, List.map_cons, PyData.eqvAll, PyData.eqv, eqv_ints a b, Bool.eq_iff_iff]
    simp
theorem eqv_dInts (a b : List Int) : PyData.eqv (dInts a) (dInts b) = decide (a = b) := by
  unfold dInts
  rw [PyData.eqv, eqv_ints]
theorem S_eq {f g : Krdk.Answer} (wf : W f) (wg : W g) : S f = S g ↔ f = g := by
  constructor
  · intro h
    have e1 := congrArg List.length h
    rw [Mt.S_len wf, Mt.S_len wg] at e1
    have e2 : f.n = g.n := (Nat.pow_right_inj (show 1 < 2 by decide)).mp e1
    exact Mt.S_inj e2 h
  · intro h
    rw [h]
theorem eqv_pl {o p : Option Krdk.Answer} (ho : ∀ g, o = some g → W g) (hp : ∀ g, p = some g → W g) : PyData.eqv (dPl o) (dPl p) = decide (o = p) := by
  cases o with
  | none =>
    cases p with
    | none => rw [dPl, PyData.eqv]; rfl
    | some g => rw [dPl, dPl, dInts, PyData.eqv]; rfl
  | some f =>
    cases p with
    | none => rw [dPl, dPl, dInts, PyData.eqv]; rfl
    | some g =>
      rw [dPl, dPl, eqv_dInts]
      apply decide_eq_decide.mpr
      rw [S_eq (ho f rfl) (hp g rfl), Option.some.injEq]
theorem eqv_pls : ∀ {a b : List (Option Krdk.Answer)}, (∀ o ∈ a, ∀ g, o = some g → W g) → (∀ o ∈ b, ∀ g, o = some g → W g) → PyData.eqvAll (a.map dPl) (b.map dPl) = decide (a = b)
  | [], [], _, _ => by rw [List.map_nil, PyData.eqvAll]; rfl
  | [], _ :: _, _, _ => by rw [List.map_nil, List.map_cons, PyData.eqvAll]; rfl
  | _ :: _, [], _, _ => by rw [List.map_nil, List.map_cons, PyData.eqvAll]; rfl
  | x :: a, y :: b, ha, hb => by
    rw [List.map_cons, List.map_cons, PyData.eqvAll, eqv_pl (ha x (List.mem_cons_self ..)) (hb y (List.mem_cons_self ..)), eqv_pls (fun o ho => ha o (List.mem_cons_of_mem _ ho)) (fun o ho => hb o (List.mem_cons_of_mem _ ho)), Bool.eq_iff_iff]
    simp
structure GoodD (D : Krdo.Data) : Prop where
  f : W D.f
  sh : ∀ o ∈ D.shelf, ∀ g, o = some g → W g
theorem rat_eq {r s : Rat} : (r.num = s.num ∧ (r.den : Int) = (s.den : Int)) ↔ r = s := by
  constructor
  · rintro ⟨h1, h2⟩
    exact Rat.ext h1 (by exact_mod_cast h2)
  · intro h
    rw [h]
    exact ⟨rfl, rfl⟩
theorem eqv_data {D E : Krdo.Data} (hD : GoodD D) (hE : GoodD E) : PyData.eqv (dataOf D) (dataOf E) = decide (D = E) := by
  unfold dataOf
  rw [PyData.eqv, PyData.eqvAll, PyData.eqvAll, PyData.eqvAll, PyData.eqvAll, eqv_dInts, eqv_dInts, PyData.eqv, eqv_pls hD.sh hE.sh, Bool.eq_iff_iff]
  obtain ⟨f, e, sh⟩ := D
  obtain ⟨f', e', sh'⟩ := E
  have h1 := S_eq hD.f hE.f
  have h2 := @rat_eq e e'
  simp only [Bool.and_eq_true, decide_eq_true_eq, List.cons.injEq, and_true, Krdo.Data.mk.injEq]
  constructor
  · rintro ⟨a, b, c⟩
    exact ⟨h1.mp a, h2.mp b, c⟩
  · rintro ⟨a, b, c⟩
    exact ⟨h1.mpr a, h2.mpr b, c⟩
theorem dp_ints {H : Hp} : ∀ ns : List Int, DpAll K H (ns.map V.int) (ns.map PyData.int)
  | [] => .nil
  | n :: ns => .cons (.int n) (dp_ints ns)
theorem dp_tupI {H : Hp} {a : Addr} {ns : List Int} (h : SqT K H a (ns.map V.int)) : Dp K H (.ref a) (dInts ns) := .tup h (dp_ints ns)
theorem dp_pls {H : Hp} {n : Nat} : ∀ {vs : List V} {os : List (Option Krdk.Answer)}, ShAt K H n vs os → DpAll K H vs (os.map dPl)
  | _, _, .nil => .nil
  | _, o :: _, .cons h t => by
    refine .cons ?_ (dp_pls t)
    cases o with
    | none =>
      have h : _ = V.non := h
      rw [h]
      exact .non
    | some g =>
      obtain ⟨_, _, r, rfl, hr⟩ := h
      exact dp_tupI hr
theorem ShAt.good {H : Hp} {n : Nat} : ∀ {vs : List V} {os : List (Option Krdk.Answer)}, ShAt K H n vs os → ∀ o ∈ os, ∀ g, o = some g → W g
  | _, _, .nil, o, h, _, _ => by cases h
  | _, p :: _, .cons x t, o, h, g, e => by
    rcases List.mem_cons.mp h with z | z
    · subst z
      subst e
      exact x.1
    · exact ShAt.good t o z g e
/-- at t: the desk's data D, kept -/
structure BefAt (K : PySem.W.Frag) (H : Hp) (n : Nat) (t : Addr) (D : Krdo.Data) : Prop where
  hn : D.f.n = n
  ex : ∃ (a c s : Addr) (sh : List V), SqT K H t [.ref a, .ref c, .ref s] ∧ SqT K H a (SV D.f) ∧ SqT K H c [.int D.e.num, .int (D.e.den : Int)] ∧ SqT K H s sh ∧ ShAt K H D.f.n sh D.shelf
  w : W D.f
  e : Mt.Ch D.e D.e.num (D.e.den : Int)
  four : D.shelf.length = 4
theorem BefAt.good {H : Hp} {n : Nat} {t : Addr} {D : Krdo.Data} (h : BefAt K H n t D) : GoodD D := by
  obtain ⟨a, c, s, sh, _, _, _, _, q⟩ := h.ex
  exact ⟨h.w, q.good⟩
theorem Dk.good {H : Hp} {d : Addr} {D : Krdo.Data} {dx a c s l : Addr} {sh : List V} (h : Dk K C H d D dx a c s l sh) : GoodD D := ⟨h.w, h.sh.good⟩
theorem BefAt.dp {H : Hp} {n : Nat} {t : Addr} {D : Krdo.Data} (h : BefAt K H n t D) : Dp K H (.ref t) (dataOf D) := by
  obtain ⟨a, c, s, sh, h1, h2, h3, h4, h5⟩ := h.ex
  exact .tup h1 (.cons (dp_tupI h2) (.cons (dp_tupI (ns := [D.e.num, (D.e.den : Int)]) h3) (.cons (.tup h4 (dp_pls h5)) .nil)))
theorem BefAt.mapT {H H' : Hp} {n : Nat} {t : Addr} {D : Krdo.Data} (h : BefAt K H n t D) (g : ∀ (a : Addr) (xs : List V), SqT K H a xs → SqT K H' a xs) : BefAt K H' n t D := by
  obtain ⟨a, c, s, sh, h1, h2, h3, h4, h5⟩ := h.ex
  refine ⟨h.hn, ⟨a, c, s, sh, g _ _ h1, g _ _ h2, g _ _ h3, g _ _ h4, Paired.mapP h5 fun v o q => ?_⟩, h.w, h.e, h.four⟩
  cases o with
  | none => exact q
  | some x => obtain ⟨q1, q2, r, q3, q4⟩ := q; exact ⟨q1, q2, r, q3, g _ _ q4⟩
theorem BefAt.same {H H' : Hp} {n : Nat} {t : Addr} {D : Krdo.Data} (h : BefAt K H n t D) (s : Same H H') : BefAt K H' n t D := h.mapT fun a xs q => same_t s q
theorem Dk.bef {H : Hp} {d t : Addr} {D : Krdo.Data} {dx a c s l : Addr} {sh : List V} (h : Dk K C H d D dx a c s l sh) (ht : SqT K H t [.ref a, .ref c, .ref s]) : BefAt K H D.f.n t D := ⟨rfl, ⟨a, c, s, sh, ht, h.says, h.ch, h.shelf, h.sh⟩, h.w, h.e, h.four⟩
/-- the past at l, the newest last -/
def PastAt (K : PySem.W.Frag) (H : Hp) (n : Nat) (l : Addr) (ps : List Krdo.Data) : Prop := ∃ us, H l = some (.lst us) ∧ Paired (fun u D => ∃ t, u = V.ref t ∧ BefAt K H n t D) us ps.reverse
theorem PastAt.same {H H' : Hp} {n : Nat} {l : Addr} {ps : List Krdo.Data} (h : PastAt K H n l ps) (s : Same H H') : PastAt K H' n l ps := by
  obtain ⟨us, h1, h2⟩ := h
  exact ⟨us, s _ _ h1, Paired.mapP h2 fun u D ⟨t, e, q⟩ => ⟨t, e, q.same s⟩⟩
theorem Dk.but2 {H H' : Hp} {d q : Addr} {D : Krdo.Data} {dx a c s l l' : Addr} {sh : List V} {ys : List V} (h : Dk K C H d D dx a c s l sh) (z : But2 d q H H') (hq : H q = some (.lst ys)) (i : H' d = some (.ins C dx (dF D.f.n a c s l'))) : Dk K C H' d D dx a c s l' sh := by
  refine ⟨i, h.w, z.seqT h.ins hq h.says, z.seqT h.ins hq h.ch, h.e, z.seqT h.ins hq h.shelf, Paired.mapP h.sh fun v o p => ?_, h.four⟩
  cases o with
  | none => exact p
  | some x => obtain ⟨q1, q2, r, q3, q4⟩ := p; exact ⟨q1, q2, r, q3, z.seqT h.ins hq q4⟩
/-! ### as_it_is -/
def pAsIs (K : PySem.W.Frag) (C : Addr) (vs : List V) (H : Hp) (k : Kd) : Prop := ∃ (d : Nat) (D : Krdo.Data) (dx a c s l : Addr) (sh : List V), vs = [.ref d] ∧ Dk K C H d D dx a c s l sh ∧ k = .ob (.tup [.ref a, .ref c, .ref s])
/-! ### as_it_is: 0:desk -/
theorem sc19 : FnScope ["desk"] ["desk"] (defScope (top 19)) := ⟨rfl, rfl, rfl, by decide +kernel, rfl, by decide +kernel, by decide +kernel⟩
theorem c_as_it_is (T : ClD K C) (Df : DefAt K mg "as_it_is" (top 19)) : Cal P w K mg base 1 "as_it_is" (SpK (pAsIs K C)) := by
  refine cal_pure (ps := ["desk"]) Df sc19 (fun _ _ _ _ _ _ us hl => match us, hl with | [_], _ => rfl) (fun vs H k ⟨_, _, _, _, _, _, _, _, e, _⟩ => by rw [e]; rfl) fun f cdv A outer s H vs E k hr ⟨d, D, dx, ad, cd, sd, ld, sh, e, hD, ek⟩ => ?_
  subst e ek
  exact gb_ret (gv_tup (vs := [.ref ad, .ref cd, .ref sd]) (ga_cons (gv_saysD T (gv_var 0) hD) (ga_cons (gv_chD T (gv_var 0) hD) (ga_cons (gv_shD T (gv_var 0) hD) ga_nil))) (Nat.le_of_ble_eq_true rfl))
theorem gv_as_it_is {X : Cx} {σ : L2.St} {H : Hp} {j : Nat} {e1 : Expr} {p pos : Pos} {C d : Nat} {D : Krdo.Data} {dx a c s0 l : Addr} {sh : List V} (cc : Cal X.prog X.w X.K X.mg X.base 1 "as_it_is" (SpK (pAsIs X.K C))) (hr : Room j X.A) (hj : 1 ≤ j) (h0 : Gv (cE X e1) σ H (.is (.ref d))) (hD : Dk X.K C H d D dx a c s0 l sh) (hg : Gl X "as_it_is" := by rfl)
    (hs0 : starEach [e1] X.env = (false, eval e1 X.env) :: starEach [] X.env := by rfl) (hpl : (backTo pos (starEach [] X.env)).any (·.1) = false := by rfl) :
    Gv (cE X (.Call (.Name "as_it_is" p) [e1] [] pos)) σ H (.ob (.tup [.ref a, .ref c, .ref s0])) :=
  gv_calv (us := [.ref d]) cc hr hj (ga_cons h0 ga_nil hs0) (fun _ s => ⟨d, D, dx, a, c, s0, l, sh, rfl, hD.same s, rfl⟩) hg (by decide) hs0 hpl
end
end Sw
set_option Elab.async false
set_option linter.all false
set_option maxRecDepth 100000
set_option maxHeartbeats 2000000
set_option exponentiation.threshold 3000
namespace Sw
open PySem PySem.Spec PyProof.Rows L2 Kx
open Evl (given given_yes given_no given_len)
open Mt (W S swc pt)
section
variable {P : Program} {w : World} {K : PySem.W.Frag} {mg : Str → Option Value} {base : Heap} {C : Addr}
/-! ### keep_change -/
structure KeptR (K : PySem.W.Frag) (C : Addr) (H : Hp) (d dx l : Addr) (D0 D : Krdo.Data) (ps : List Krdo.Data) (H2 : Hp) : Prop where
  but : But2 d l H H2
  dk : ∃ a c s l' sh, Dk K C H2 d D dx a c s l' sh ∧ PastAt K H2 D.f.n l' (Krdo.changed ⟨D0, ps⟩ D).past ∧ (l' = l ∨ H l' = none) ∧ l' ≠ d
def spKeep (K : PySem.W.Frag) (C : Addr) : Sp := fun vs H Q _ => ∃ (d t : Addr) (D D0 : Krdo.Data) (ps : List Krdo.Data) (dx a c s l : Addr) (sh : List V), vs = [.ref d, .ref t] ∧ Dk K C H d D dx a c s l sh ∧ BefAt K H D.f.n t D0 ∧ PastAt K H D.f.n l ps ∧ ps.length ≤ 10 ∧ l ≠ d ∧ ∀ v H2, KeptR K C H d dx l D0 D ps H2 → Q v H2
theorem cut_last (xs : List V) : cutV xs (some (-10)) none = xs.drop (xs.length - 10) := by
  unfold cutV
  have e1 : HT.sIx xs.length 0 (some (-10)) = xs.length - 10 := by
    show (if (-10 : Int) < 0 then ((-10 : Int) + (xs.length : Int)).toNat else min (-10 : Int).toNat xs.length) = _
    rw [if_pos (by decide)]
    omega
  have e2 : HT.sIx xs.length xs.length none = xs.length := rfl
  rw [e1, e2, List.take_of_length_le]
  rw [List.length_drop]
  omega
theorem sc20 : FnScope ["desk", "before"] ["desk", "before"] (defScope (top 20)) := ⟨rfl, rfl, rfl, by decide +kernel, rfl, by decide +kernel, by decide +kernel⟩
theorem c_keep (T : ClD K C) (Z : Ct mg) (Df : DefAt K mg "keep_change" (top 20)) (ca : Cal P w K mg base 1 "as_it_is" (SpK (pAsIs K C))) : Cal P w K mg base 2 "keep_change" (spKeep K C) := by
  refine cal_of (ps := ["desk", "before"]) Df sc20 (fun _ _ _ _ _ _ us hl => match us, hl with | [_, _], _ => rfl) (fun vs H Q E ⟨_, _, _, _, _, _, _, _, _, _, _, e, _⟩ => by rw [e]; rfl) fun f cdv A outer s H vs Q E hr ⟨d, t, D, D0, ps, dx, ad, cd, sd, ld, sh, e, hD, hB, hP, hl10, hld, hQ⟩ => ?_
  subst e
  refine go_run ?_
  obtain ⟨us, hus, hpp⟩ := hP
  have hul : us.length = ps.length := by rw [Paired.length hpp, List.length_reverse]
  refine go_ifN (d := !decide (D = D0)) (fun σ' H' => KeptR K C H d dx ld D0 D ps H') (Gt.to (gt_neD (d1 := dataOf D) (d2 := dataOf D0) hr.units (gv_as_it_is ca hr (by decide) (gv_var 0) hD) (gv_var 1) (fun x H1 H2 H3 s1 n s2 s3 => ?_) (fun H1 s1 => (hB.same s1).dp) (dataOf_shaped D) (dataOf_shaped D0)) (by rw [eqv_data hD.good hB.good])) (fun h => ?_) (fun h => ?_) (fun σ' H' w => go_nil fun H1 s1 => hQ .non H1 ⟨w.but.then_ s1, by obtain ⟨a, c, s, l', sh', q1, q2, q3, q4⟩ := w.dk; exact ⟨a, c, s, l', sh', q1.same s1, q2.same s1, q3, q4⟩⟩)
  · obtain ⟨p, rfl, _, hp⟩ := n
    exact ((hD.same ((s1.trans s2).trans s3)).bef (same_t s3 (SqT.of hp))).dp
  · have hne : ¬ D = D0 := by simpa using h
    have ec : (Krdo.changed ⟨D0, ps⟩ D).past = (D0 :: ps).take 10 := by
      unfold Krdo.changed
      rw [if_neg hne]
      rfl
    refine go_app (gv_pastD T (gv_var 0) hD) hus (by omega) (gv_var (v := .ref t) 1) fun w1 H1 s1 n1 => ?_
    obtain rfl : w1 = .ref t := n1
    have z1 : But2 d ld H (upd H1 ld (.lst (us ++ [.ref t]))) := (But2.of s1).updQ
    have i1 : (upd H1 ld (.lst (us ++ [.ref t]))) d = some (.ins C dx (dF D.f.n ad cd sd ld)) := by rw [upd_ne (Ne.symm hld)]; exact s1 _ _ hD.ins
    have hD1 : Dk K C (upd H1 ld (.lst (us ++ [.ref t]))) d D dx ad cd sd ld sh := hD.but2 z1 hus i1
    have l1 : (upd H1 ld (.lst (us ++ [.ref t]))) ld = some (.lst (us ++ [.ref t])) := upd_same
    generalize upd H1 ld (.lst (us ++ [.ref t])) = G1 at z1 i1 hD1 l1 ⊢
    refine go_fld (gv_var 0) i1 T.cl T.n5 (by show 5 < 1000; decide) (gv_sliceL (gv_pastD T (gv_var 0) hD1) (SqL.of l1) (gv_neg (gv_glo Z.mostBack))) fun w2 H2 s2 ⟨l', ew, fl, hl'⟩ => ?_
    subst ew
    rw [putF_past]
    have nd : l' ≠ d := by
      intro e
      rw [e, i1] at fl
      cases fl
    have z2 : But2 d ld H (upd H2 d (.ins C dx (dF D.f.n ad cd sd l'))) := (z1.then_ s2).updP
    have i2 : (upd H2 d (.ins C dx (dF D.f.n ad cd sd l'))) d = some (.ins C dx (dF D.f.n ad cd sd l')) := upd_same
    have fl0 : H l' = none := by
      cases hz : H l' with
      | none => rfl
      | some u =>
        have n2 : l' ≠ ld := by
          intro e
          rw [e, l1] at fl
          cases fl
        rw [z1 l' u nd n2 hz] at fl
        cases fl
    have l2 : (upd H2 d (.ins C dx (dF D.f.n ad cd sd l'))) l' = some (HO.lst ((us ++ [V.ref t]).drop ((us ++ [V.ref t]).length - 10))) := by
      rw [upd_ne nd, hl', cut_last]
    refine go_thru ⟨z2, ad, cd, sd, l', sh, hD.but2 z2 hus i2, ?_, .inr fl0, nd⟩
    rw [ec]
    refine ⟨_, l2, ?_⟩
    have hp2 : Paired (fun u D_1 => ∃ t, u = V.ref t ∧ BefAt K (upd H2 d (.ins C dx (dF D.f.n ad cd sd l'))) D.f.n t D_1) (us ++ [.ref t]) (ps.reverse ++ [D0]) :=
      Paired.snoc (Paired.mapP hpp fun u D ⟨t, e, q⟩ => ⟨t, e, q.mapT fun a xs q => z2.seqT hD.ins hus q⟩) ⟨t, rfl, hB.mapT fun a xs q => z2.seqT hD.ins hus q⟩
    have er : ((D0 :: ps).take 10).reverse = (ps.reverse ++ [D0]).drop ((us ++ [V.ref t]).length - 10) := by
      rw [List.reverse_take, List.reverse_cons]
      congr 1
      simp
      omega
    rw [er]
    have dr : ∀ {α β : Type} {F : α → β → Prop} (n : Nat) {l : List α} {m : List β}, Paired F l m → Paired F (l.drop n) (m.drop n) := by
      intro α β F n
      induction n with
      | zero => intro l m h; exact h
      | succ n ih =>
        intro l m h
        cases h with
        | nil => exact .nil
        | cons a t => exact ih t
    exact dr _ hp2
  · have he : D = D0 := by simpa using h
    refine ⟨But2.refl, ad, cd, sd, ld, sh, hD, ?_, .inl rfl, hld⟩
    have ec : (Krdo.changed ⟨D0, ps⟩ D).past = ps := by
      unfold Krdo.changed
      rw [if_pos he]
    rw [ec]
    exact ⟨us, hus, hpp⟩
end
end Sw
set_option Elab.async false
set_option linter.all false
set_option maxRecDepth 100000
set_option maxHeartbeats 2000000
set_option exponentiation.threshold 3000
namespace Sw
open PySem PySem.Spec PyProof.Rows L2 Kx
open Evl (given given_yes given_no given_len)
open Mt (W S swc pt)
section
variable {P : Program} {w : World} {K : PySem.W.Frag} {mg : Str → Option Value} {base : Heap} {C : Addr}
/-! ### tell_back -/
theorem t3_go {K : PySem.W.Frag} {i j k g : Nat} {u x y : V} {σ : L2.St} {H : Hp} {Qg : L2.St → Hp → Prop} (h : SqT K H g [u, x, y]) (q : Qg (((σ.set i (some u)).set j (some x)).set k (some y)) H) : gTup K 3 (gCons (gName i) (gCons (gName j) (gCons (gName k) gNil))) (.ref g) σ H Qg :=
  ⟨g, [u, x, y], rfl, h, rfl, u, [x, y], rfl, x, [y], rfl, y, [], rfl, rfl, q⟩
theorem paired_last {α β : Type} {F : α → β → Prop} {x : β} : ∀ {m : List β} {l : List α}, Paired F l (m ++ [x]) → ∃ l' u, l = l' ++ [u] ∧ Paired F l' m ∧ F u x
  | [], _, .cons h .nil => ⟨[], _, rfl, .nil, h⟩
  | _ :: m, _, .cons h t => by
    obtain ⟨l', u, e, p, q⟩ := paired_last t
    exact ⟨_ :: l', u, by rw [e]; rfl, .cons h p, q⟩
def spBack (K : PySem.W.Frag) (C : Addr) : Sp := fun vs H Q _ => ∃ (d : Addr) (D : Krdo.Data) (ps : List Krdo.Data) (dx a c s l : Addr) (sh : List V), vs = [.ref d] ∧ Dk K C H d D dx a c s l sh ∧ PastAt K H D.f.n l ps ∧ ps.length ≤ 10 ∧ l ≠ d ∧
  (ps = [] → ∀ v H2, Same H H2 → (Kd.ob (.lst [.int (-6)])).new H v H2 → Q v H2) ∧
  ∀ x rest, ps = x :: rest → ∀ v H2, But2 d l H H2 → (∃ a c s sh, Dk K C H2 d x dx a c s l sh) → PastAt K H2 x.f.n l rest → (Kd.ob (.lst [.int (rest.length : Nat)])).new H v H2 → Q v H2
theorem sc21 : FnScope ["desk", "says", "chance", "shelf"] ["desk"] (defScope (top 21)) := ⟨rfl, rfl, rfl, by decide +kernel, rfl, by decide +kernel, by decide +kernel⟩
theorem c_back (T : ClD K C) (B : Bl mg) (Z : Ct mg) (Df : DefAt K mg "tell_back" (top 21)) (cr : Cal P w K mg base 1 "refused" (SpK pRefused)) : Cal P w K mg base 2 "tell_back" (spBack K C) := by
  refine cal_of (ps := ["desk"]) Df sc21 (fun _ _ _ _ _ _ us hl => match us, hl with | [_], _ => rfl) (fun vs H Q E ⟨_, _, _, _, _, _, _, _, _, e, _⟩ => by rw [e]; rfl) fun f cdv A outer s H vs Q E hr ⟨d, D, ps, dx, ad, cd, sd, ld, sh, e, hD, hP, hl10, hld, hQ1, hQ2⟩ => ?_
  subst e
  refine go_run ?_
  obtain ⟨us, hus, hpp⟩ := hP
  have hul : us.length = ps.length := by rw [Paired.length hpp, List.length_reverse]
  have glen : ∀ {p2 p3 p4 pos : Pos}, Gv (cE (Bd P w K mg base ["desk", "says", "chance", "shelf"] (top 21) f cdv A outer s H E) (.Call (.Name "len" p2) [.Attribute (.Name "desk" p3) "past" p4] [] pos)) [some (.ref d), none, none, none] H (.is (.int us.length)) := gv_lenL B (gv_pastD T (gv_var 0) hD) (.old (SqL.of hus))
  cases ps with
  | nil =>
    have hu0 : us.length = 0 := hul
    refine go_if (d := true) (Gt.to (gt_eq (Gv.is_to (gv_lenL B (gv_pastD T (gv_var 0) hD) (.old (SqL.of hus))) (by rw [hu0])) gv_int) rfl) (fun _ nx => go_ret (gv_ref cr hr (by decide) Z.nothing) (hQ1 rfl)) (fun h => by cases h)
  | cons x rest =>
    have hul : us.length = rest.length + 1 := hul
    refine go_if (d := false) (Gt.to (gt_eq (Gv.is_to (gv_lenL B (gv_pastD T (gv_var 0) hD) (.old (SqL.of hus))) (by rw [hul])) gv_int) (by rw [beq_eq_false_iff_ne]; omega)) (fun h => by cases h) (fun _ => ?_)
    rw [List.reverse_cons] at hpp
    obtain ⟨us', u, rfl, hp', ⟨t, rfl, hB⟩⟩ := paired_last hpp
    obtain ⟨a, c, s1, sh1, h1, h2, h3, h4, h5⟩ := hB.ex
    refine go_pop (w := .ref t) (pg_tup (n := 3) rfl (pgs_cons (pg_name (i := 1) sc21.nd rfl (Or.inl rfl)) (pgs_cons (pg_name (i := 2) sc21.nd rfl (Or.inl rfl)) (pgs_cons (pg_name (i := 3) sc21.nd rfl (Or.inl rfl)) pgs_nil)))) (gv_pastD T (gv_var 0) hD) hus (by simp) fun H1 sA => ?_
    rw [List.dropLast_concat]
    have z1 : But2 d ld H (upd H1 ld (.lst us')) := (But2.of sA).updQ
    have i1 : (upd H1 ld (.lst us')) d = some (.ins C dx (dF D.f.n ad cd sd ld)) := by rw [upd_ne (Ne.symm hld)]; exact sA _ _ hD.ins
    have l1 : (upd H1 ld (.lst us')) ld = some (.lst us') := upd_same
    generalize upd H1 ld (.lst us') = G1 at z1 i1 l1 ⊢
    have g1 := z1.seqT hD.ins hus h1
    refine ⟨_, fun Qg q => t3_go g1 q, ?_⟩
    refine go_fld (gv_var 0) i1 T.cl T.n2 (by show 5 < 1000; decide) (gv_var (v := .ref a) 1) fun w1 H2 sB n1 => ?_
    obtain rfl : w1 = .ref a := n1
    rw [putF_says]
    have z2 : But2 d ld G1 (upd H2 d (.ins C dx (dF D.f.n a cd sd ld))) := (But2.of sB).updP
    have i2 : (upd H2 d (.ins C dx (dF D.f.n a cd sd ld))) d = some (.ins C dx (dF D.f.n a cd sd ld)) := upd_same
    have l2 : (upd H2 d (.ins C dx (dF D.f.n a cd sd ld))) ld = some (.lst us') := by rw [upd_ne hld]; exact sB _ _ l1
    generalize upd H2 d (.ins C dx (dF D.f.n a cd sd ld)) = G2 at z2 i2 l2 ⊢
    refine go_fld (gv_var 0) i2 T.cl T.n3 (by show 5 < 1000; decide) (gv_var (v := .ref c) 2) fun w2 H3 sC n2 => ?_
    obtain rfl : w2 = .ref c := n2
    rw [putF_chance]
    have z3 : But2 d ld G2 (upd H3 d (.ins C dx (dF D.f.n a c sd ld))) := (But2.of sC).updP
    have i3 : (upd H3 d (.ins C dx (dF D.f.n a c sd ld))) d = some (.ins C dx (dF D.f.n a c sd ld)) := upd_same
    have l3 : (upd H3 d (.ins C dx (dF D.f.n a c sd ld))) ld = some (.lst us') := by rw [upd_ne hld]; exact sC _ _ l2
    generalize upd H3 d (.ins C dx (dF D.f.n a c sd ld)) = G3 at z3 i3 l3 ⊢
    refine go_fld (gv_var 0) i3 T.cl T.n4 (by show 5 < 1000; decide) (gv_var (v := .ref s1) 3) fun w3 H4 sD n3 => ?_
    obtain rfl : w3 = .ref s1 := n3
    rw [putF_shelf]
    have z4 : But2 d ld G3 (upd H4 d (.ins C dx (dF D.f.n a c s1 ld))) := (But2.of sD).updP
    have i4 : (upd H4 d (.ins C dx (dF D.f.n a c s1 ld))) d = some (.ins C dx (dF D.f.n a c s1 ld)) := upd_same
    have l4 : (upd H4 d (.ins C dx (dF D.f.n a c s1 ld))) ld = some (.lst us') := by rw [upd_ne hld]; exact sD _ _ l3
    generalize upd H4 d (.ins C dx (dF D.f.n a c s1 ld)) = G4 at z4 i4 l4 ⊢
    have zz := ((z1.trans z2).trans z3).trans z4
    have hB4 := hB.mapT (H' := G4) fun a xs q => zz.seqT hD.ins hus q
    have hD4 : Dk K C G4 d x dx a c s1 ld sh1 := by
      refine ⟨by rw [i4, hB.hn], hB.w, zz.seqT hD.ins hus h2, zz.seqT hD.ins hus h3, hB.e, zz.seqT hD.ins hus h4, Paired.mapP h5 fun v o q => ?_, hB.four⟩
      cases o with
      | none => exact q
      | some y => obtain ⟨q1, q2, r, q3, q4⟩ := q; exact ⟨q1, q2, r, q3, zz.seqT hD.ins hus q4⟩
    have hP4 : PastAt K G4 x.f.n ld rest := ⟨us', l4, Paired.mapP hp' fun u D ⟨t, e, q⟩ => ⟨t, e, by rw [hB.hn]; exact q.mapT fun a xs q => zz.seqT hD.ins hus q⟩⟩
    have hul' : us'.length = rest.length := by simpa using hul
    refine go_ret (Gv.to (gv_lst (vs := [.int (us'.length : Nat)]) (ga_cons (gv_lenL B (gv_pastD T (gv_var 0) hD4) (.old (SqL.of l4))) ga_nil) (Nat.le_of_ble_eq_true rfl)) (by rw [hul'])) fun v H5 s5 n5 => hQ2 x rest rfl v H5 (zz.then_ s5) ⟨a, c, s1, sh1, hD4.same s5⟩ (hP4.same s5) (new_but2 zz hD.ins i4 hus l4 n5)
end
end Sw
set_option Elab.async false
set_option linter.all false
set_option maxRecDepth 100000
set_option maxHeartbeats 2000000
set_option exponentiation.threshold 3000
namespace Sw
open PySem PySem.Spec PyProof.Rows L2 Kx
open Evl (given given_yes given_no given_len)
open Mt (W S swc pt)
section
variable {P : Program} {w : World} {K : PySem.W.Frag} {mg : Str → Option Value} {base : Heap} {C : Addr}
/-- the calls: name, how many numbers, how many rows -/
def cl0 : List (Str × Nat × Nat) := [("begin", 1, 0), ("told", 0, 1), ("least", 1, 1), ("odd", 1, 0), ("bit", 1, 0), ("not", 0, 0), ("turn", 1, 0), ("set", 2, 0), ("ask", 1, 0), ("mean", 0, 0), ("sway", 1, 0), ("all", 0, 0), ("even", 0, 0), ("part", 1, 0), ("parts", 0, 0), ("levels", 0, 0)]
def cl1 : List (Str × Nat × Nat) := [("sides", 0, 0), ("fewest", 0, 0), ("rising", 0, 0), ("idle", 0, 0), ("most", 0, 0), ("state", 0, 0), ("chance", 2, 0), ("heard", 2, 0), ("soft", 1, 0), ("stays", 0, 0), ("agree", 0, 0), ("worst", 0, 0), ("ifchance", 2, 0), ("vote", 0, 1), ("winner", 0, 1), ("order", 0, 1)]
def cl2 : List (Str × Nat × Nat) := [("rounds", 0, 0), ("noround", 0, 0), ("byparts", 0, 0), ("isodd", 0, 0), ("alike", 0, 0), ("whose", 0, 0), ("first", 0, 0), ("wins", 1, 0), ("yes", 2, 0), ("swayat", 3, 0), ("slope", 2, 0), ("sizes", 0, 0), ("half", 1, 0), ("width", 4, 0), ("tries", 3, 0), ("steepest", 1, 0)]
def cl3 : List (Str × Nat × Nat) := [("fixed", 1, 0), ("put", 1, 0), ("take", 1, 0), ("join", 2, 0), ("same", 1, 0), ("more", 2, 0), ("best", 1, 0), ("shelf", 0, 0), ("back", 0, 0)]
def clTbl : List (Str × Nat × Nat) := cl0 ++ (cl1 ++ (cl2 ++ (cl3)))
def tMk : List (Str × Str × Nat) := [("told", "make_told", 1), ("least", "make_least", 2), ("odd", "make_odd", 3), ("bit", "make_bit", 4), ("not", "make_not", 5), ("turn", "make_turn", 6), ("set", "make_set", 7), ("state", "tell_state", 21)]
def tSw : List (Str × Str × Nat) := [("ask", "tell_ask", 8), ("mean", "tell_mean", 9), ("sway", "tell_sway", 10), ("all", "tell_all", 11), ("even", "tell_even", 12), ("part", "tell_part", 13), ("parts", "tell_parts", 14), ("levels", "tell_levels", 15), ("sides", "tell_sides", 16), ("fewest", "tell_fewest", 17), ("rising", "tell_rising", 18), ("idle", "tell_idle", 19), ("most", "tell_most", 20)]
def tMi : List (Str × Str × Nat) := [("chance", "tell_chance", 22), ("heard", "tell_heard", 23), ("soft", "tell_soft", 24), ("stays", "tell_stays", 25), ("agree", "tell_agree", 26), ("worst", "tell_worst", 27), ("ifchance", "tell_ifchance", 28)]
def tCo : List (Str × Str × Nat) := [("vote", "tell_vote", 29), ("winner", "tell_winner", 30), ("order", "tell_order", 31), ("rounds", "tell_rounds", 32), ("noround", "tell_noround", 33), ("byparts", "tell_byparts", 34), ("isodd", "tell_isodd", 35), ("alike", "tell_alike", 36), ("whose", "tell_whose", 37), ("first", "tell_first", 38), ("wins", "tell_wins", 39)]
def tRi : List (Str × Str × Nat) := [("yes", "tell_yes", 40), ("swayat", "tell_swayat", 41), ("slope", "tell_slope", 42), ("sizes", "tell_sizes", 43), ("half", "tell_half", 44), ("width", "tell_width", 45), ("tries", "tell_tries", 46), ("steepest", "tell_steepest", 47), ("fixed", "tell_fixed", 48)]
def tSh : List (Str × Str × Nat) := [("put", "tell_put", 49), ("take", "tell_take", 50), ("join", "tell_join", 51), ("same", "tell_same", 52), ("more", "tell_more", 53), ("best", "tell_best", 54), ("shelf", "tell_shelf", 55)]
def nmP (p : Nat) : Str := (clTbl.getD p ("", 0, 0)).1
def nxP (p : Nat) : Nat := (clTbl.getD p ("", 0, 0)).2.1
def nrP (p : Nat) : Nat := (clTbl.getD p ("", 0, 0)).2.2
def kvs (t : List (Str × Str × Nat)) : List (Str × Str) := t.map fun q => (q.1, q.2.1)
/-- a dict of the module: by name, a def of the module -/
structure Dct (K : PySem.W.Frag) (w : World) (mg : Str → Option Value) (x : Str) (kv : List (Str × Str)) : Prop where
  ex : ∃ (d : Addr) (es : Array DictEntry) (n : Nat), mg x = some (.ref d) ∧ KDict K w d es n ∧ (∀ q ∈ kv, ∃ f : Addr, PySem.W.nsIn K d q.1 = some (some (.ref f)) ∧ mg q.2 = some (.ref f)) ∧ ∀ z, (∀ q ∈ kv, z ≠ q.1) → PySem.W.nsIn K d z = some none
/-- the call's numbers and rows stand, and what comes back is told -/
def Rst (K : PySem.W.Frag) (C : Addr) (d g p : Nat) (H : Hp) (Q : VK) (n : Nat) : Prop := ∃ (D : Krdo.Data) (xs : List Int) (rs : List (List Int)) (dx a c s l : Addr) (sh : List V), Dk K C H d D dx a c s l sh ∧ D.f.n ≤ n ∧ Gn K H g xs rs ∧ xs.length = nxP p ∧ rs.length = nrP p ∧
  (∀ x ∈ xs, NumOk x) ∧ (∀ r ∈ rs, r.length ≤ 255 ∧ ∀ x ∈ r, NumOk x) ∧ ∀ v H2, MadeR K C H d dx l (datP p D xs rs) (ansP p D xs rs) v H2 → Q v H2
theorem Rst.same {d g p : Nat} {H H' : Hp} {Q : VK} {n : Nat} (h : Rst K C d g p H Q n) (s : Same H H') : Rst K C d g p H' Q n := by
  obtain ⟨D, xs, rs, dx, a, c, s', l, sh, h1, h2, h3, h4, h5, h6, h7, h8⟩ := h
  exact ⟨D, xs, rs, dx, a, c, s', l, sh, h1.same s, h2, h3.same s, h4, h5, h6, h7, fun v H2 m => h8 v H2 ⟨(But.of s).trans m.but, m.dk, Kd.new_back m.ret s (Same.refl _)⟩⟩
def spP (K : PySem.W.Frag) (C : Addr) (p n : Nat) : Sp := fun vs H Q _ => ∃ d g : Nat, vs = [.ref d, .ref g] ∧ Rst K C d g p H Q n
def spN (K : PySem.W.Frag) (C : Addr) (tb : List (Str × Str × Nat)) : Sp := fun vs H Q _ => ∃ (d g p : Nat) (z f : Str), vs = [.ref d, .str z, .ref g] ∧ (z, f, p) ∈ tb ∧ Rst K C d g p H Q 5
/-- what stands under the names -/
structure Defs (P : Program) (w : World) (K : PySem.W.Frag) (mg : Str → Option Value) (base : Heap) (C : Addr) : Prop where
  mak : ∀ t ∈ tMk, Cal P w K mg base 7 t.2.1 (spP K C t.2.2 5)
  sw : ∀ t ∈ tSw, Cal P w K mg base 7 t.2.1 (spP K C t.2.2 5)
  mi : ∀ t ∈ tMi, Cal P w K mg base 7 t.2.1 (spP K C t.2.2 5)
  co : ∀ t ∈ tCo, Cal P w K mg base 7 t.2.1 (spP K C t.2.2 4)
  ri : ∀ t ∈ tRi, Cal P w K mg base 7 t.2.1 (spP K C t.2.2 5)
  sh : ∀ t ∈ tSh, Cal P w K mg base 7 t.2.1 (spP K C t.2.2 5)
theorem make_P {p nx nr lvl : Nat} {f : Str} (c : Cal P w K mg base lvl f (spMake K C p nx nr)) (h1 : nxP p = nx) (h2 : nrP p = nr) (hl : lvl ≤ 7) : Cal P w K mg base 7 f (spP K C p 5) :=
  (c.imp fun vs H Q E ⟨d, g, e, D, xs, rs, dx, a, c, s, l, sh, hD, _, hG, hx, hr, ok, okr, hQ⟩ => ⟨d, g, D, xs, rs, dx, a, c, s, l, sh, e, hD, hG, by rw [hx, h1], by rw [hr, h2], ok, okr, hQ⟩).mono hl
theorem tell_P {p nx nr lvl : Nat} {f : Str} (c : Cal P w K mg base lvl f (SpK (pTell K C p nx nr))) (h1 : nxP p = nx) (h2 : nrP p = nr) (hl : lvl ≤ 7) (hd : ∀ D xs rs, datP p D xs rs = D) : Cal P w K mg base 7 f (spP K C p 5) :=
  (c.imp fun vs H Q E ⟨d, g, e, D, xs, rs, dx, a, c, s, l, sh, hD, _, hG, hx, hr, ok, okr, hQ⟩ => ⟨_, ⟨d, g, D, xs, rs, e, ⟨dx, a, c, s, l, sh, hD⟩, hG, by rw [hx, h1], by rw [hr, h2], ok, okr, rfl⟩, fun v H2 s2 n => hQ v H2 ⟨But.of s2, ⟨a, c, s, sh, by rw [hd]; exact hD.same s2⟩, n⟩⟩).mono hl
theorem four_P {p nx nr lvl : Nat} {f : Str} (c : Cal P w K mg base lvl f (SpK (p4Tell K C p nx nr))) (h1 : nxP p = nx) (h2 : nrP p = nr) (hl : lvl ≤ 7) (hd : ∀ D xs rs, datP p D xs rs = D) : Cal P w K mg base 7 f (spP K C p 4) :=
  (c.imp fun vs H Q E ⟨d, g, e, D, xs, rs, dx, a, c, s, l, sh, hD, h4, hG, hx, hr, ok, okr, hQ⟩ => ⟨_, ⟨d, g, D, xs, rs, e, ⟨dx, a, c, s, l, sh, hD⟩, h4, hG, by rw [hx, h1], by rw [hr, h2], ok, okr, rfl⟩, fun v H2 s2 n => hQ v H2 ⟨But.of s2, ⟨a, c, s, sh, by rw [hd]; exact hD.same s2⟩, n⟩⟩).mono hl
section
variable {st : Stmt} {f : Addr} {cdv : Value} {A : Around} {outer : List Env} {s : Shared} {H0 : Hp} {E : XK} {j : Nat}
abbrev Bn (P : Program) (w : World) (K : PySem.W.Frag) (mg : Str → Option Value) (base : Heap) (st : Stmt) (f : Addr) (cdv : Value) (A : Around) (outer : List Env) (s : Shared) (H0 : Hp) (E : XK) : Cx := Bd P w K mg base ["desk", "name", "given"] st f cdv A outer s H0 E
theorem go_inD {d g p n : Nat} {x z ff : Str} {tb : List (Str × Str × Nat)} {H : Hp} {Dn : Ends} {rest : List Stmt} {p4 p5 p6 p7 p8 p9 p10 : Pos} (DD : Dct K w mg x (kvs tb)) (hc : ∀ t ∈ tb, Cal P w K mg base 7 t.2.1 (spP K C t.2.2 n)) (hm : (z, ff, p) ∈ tb) (hr : Room j (Bn P w K mg base st f cdv A outer s H0 E).A) (hj : 7 ≤ j) (hR : Rst K C d g p H Dn.rt n)
    (hg : Gl (Bn P w K mg base st f cdv A outer s H0 E) x) (hN : (Bn P w K mg base st f cdv A outer s H0 E).N = (["desk", "name", "given"] : List Str)) (v0 : Vis (Bn P w K mg base st f cdv A outer s H0 E).env.scope "desk") (v1 : Vis (Bn P w K mg base st f cdv A outer s H0 E).env.scope "name") (v2 : Vis (Bn P w K mg base st f cdv A outer s H0 E).env.scope "given") (hdb : (x == ("__debug__" : Str)) = false)
    (hp : PlainIx (.Name "name" p5)) (he : starEach [.Name "desk" p7, .Name "given" p8] (Bn P w K mg base st f cdv A outer s H0 E).env = (false, eval (.Name "desk" p7) (Bn P w K mg base st f cdv A outer s H0 E).env) :: starEach [.Name "given" p8] (Bn P w K mg base st f cdv A outer s H0 E).env) (he2 : starEach [.Name "given" p8] (Bn P w K mg base st f cdv A outer s H0 E).env = (false, eval (.Name "given" p8) (Bn P w K mg base st f cdv A outer s H0 E).env) :: starEach [] (Bn P w K mg base st f cdv A outer s H0 E).env)
    (hpl : (backTo p9 (starEach [.Name "given" p8] (Bn P w K mg base st f cdv A outer s H0 E).env)).any (·.1) = false)
    (hev : eval (.Call (.Subscript (.Name x p4) (.Name "name" p5) p6) [.Name "desk" p7, .Name "given" p8] [] p9) (Bn P w K mg base st f cdv A outer s H0 E).env = (do callWith p9 (← eval (.Subscript (.Name x p4) (.Name "name" p5) p6) (Bn P w K mg base st f cdv A outer s H0 E).env) [] (backTo p9 (starEach [.Name "desk" p7, .Name "given" p8] (Bn P w K mg base st f cdv A outer s H0 E).env)) (backToKw p9 (keywordEach [] (Bn P w K mg base st f cdv A outer s H0 E).env)))) :
    Go Dn (cSs (Bn P w K mg base st f cdv A outer s H0 E) (.Return (some (.Call (.Subscript (.Name x p4) (.Name "name" p5) p6) [.Name "desk" p7, .Name "given" p8] [] p9)) p10 :: rest)) [some (.ref d), some (.str z), some (.ref g)] H := by
  obtain ⟨da, es, nn, hmx, kd, hin, hno⟩ := DD.ex
  obtain ⟨fa, h1, h2⟩ := hin (z, ff) (List.mem_map.mpr ⟨_, hm, rfl⟩)
  refine go_retD (hc _ hm) h2 hr hj (gv_ixD kd h1 (gv_glo ⟨.ref da, hmx, rfl⟩ hg hdb) (gv_var 1 (by rw [hN]; rfl) (by rfl) v1) hp) (ga_cons (gv_var 0 (by rw [hN]; rfl) (by rfl) v0) (ga_cons (gv_var 2 (by rw [hN]; rfl) (by rfl) v2) ga_nil he2) he) (fun vs H1 E s z => ?_) he hpl hev
  obtain ⟨v1, r1, rfl, e1, v2, r2, rfl, e2, rfl⟩ := z
  obtain rfl : v1 = .ref d := e1
  obtain rfl : v2 = .ref g := e2
  exact ⟨d, g, rfl, hR.same s⟩
/-- it is in: the test is true -/
theorem gt_isin {d g p : Nat} {x z ff : Str} {tb : List (Str × Str × Nat)} {H : Hp} {p1 p2 p3 : Pos} (DD : Dct K w mg x (kvs tb)) (hm : (z, ff, p) ∈ tb) (hg : Gl (Bn P w K mg base st f cdv A outer s H0 E) x) (hN : (Bn P w K mg base st f cdv A outer s H0 E).N = (["desk", "name", "given"] : List Str)) (v1 : Vis (Bn P w K mg base st f cdv A outer s H0 E).env.scope "name") (hdb : (x == ("__debug__" : Str)) = false)
    (hb : behindInMarks .In (.Name x p2) = false) : Gt (cT (Bn P w K mg base st f cdv A outer s H0 E) (.Compare (.Name "name" p1) [.In] [.Name x p2] p3)) [some (.ref d), some (.str z), some (.ref g)] H true := by
  obtain ⟨da, es, nn, hmx, kd, hin, hno⟩ := DD.ex
  obtain ⟨fa, h1, h2⟩ := hin (z, ff) (List.mem_map.mpr ⟨_, hm, rfl⟩)
  refine Gt.to (gt_inD kd h1 ?_ ?_ hb) rfl
  · exact gv_var 1 (by rw [hN]; rfl) rfl v1
  · exact gv_glo ⟨.ref da, hmx, rfl⟩ hg hdb
theorem gt_notin {d g : Nat} {x z : Str} {tb : List (Str × Str × Nat)} {H : Hp} {p1 p2 p3 : Pos} (DD : Dct K w mg x (kvs tb)) (hm : ∀ q ∈ tb, z ≠ q.1) (hg : Gl (Bn P w K mg base st f cdv A outer s H0 E) x) (hN : (Bn P w K mg base st f cdv A outer s H0 E).N = (["desk", "name", "given"] : List Str)) (v1 : Vis (Bn P w K mg base st f cdv A outer s H0 E).env.scope "name") (hdb : (x == ("__debug__" : Str)) = false)
    (hb : behindInMarks .In (.Name x p2) = false) : Gt (cT (Bn P w K mg base st f cdv A outer s H0 E) (.Compare (.Name "name" p1) [.In] [.Name x p2] p3)) [some (.ref d), some (.str z), some (.ref g)] H false := by
  obtain ⟨da, es, nn, hmx, kd, hin, hno⟩ := DD.ex
  refine Gt.to (gt_inD kd (hno z fun q hq => ?_) ?_ ?_ hb) rfl
  · obtain ⟨t, ht, rfl⟩ := List.mem_map.mp hq
    exact hm t ht
  · exact gv_var 1 (by rw [hN]; rfl) rfl v1
  · exact gv_glo ⟨.ref da, hmx, rfl⟩ hg hdb
end
end
end Sw
set_option Elab.async false
set_option linter.all false
set_option maxRecDepth 100000
set_option maxHeartbeats 2000000
set_option exponentiation.threshold 3000
namespace Sw
open PySem PySem.Spec PyProof.Rows L2 Kx
open Evl (given given_yes given_no given_len)
open Mt (W S swc pt)
section
variable {P : Program} {w : World} {K : PySem.W.Frag} {mg : Str → Option Value} {base : Heap} {C : Addr}
theorem co_p : ∀ t ∈ tCo, 29 ≤ t.2.2 ∧ t.2.2 ≤ 39 := by decide +kernel
theorem three_call {p : Nat} (h : 29 ≤ p ∧ p ≤ 39) (xs : List Int) (rs : List (List Int)) : ∃ c, KrdoNeutral.call (((p : Int) :: xs) :: rs) = .three c := by
  have : p = 29 ∨ p = 30 ∨ p = 31 ∨ p = 32 ∨ p = 33 ∨ p = 34 ∨ p = 35 ∨ p = 36 ∨ p = 37 ∨ p = 38 ∨ p = 39 := by omega
  rcases this with rfl | rfl | rfl | rfl | rfl | rfl | rfl | rfl | rfl | rfl | rfl <;> exact ⟨_, rfl⟩
theorem three_many {p : Nat} {D : Krdo.Data} {xs : List Int} {rs : List (List Int)} (h : 29 ≤ p ∧ p ≤ 39) (hn : 4 < D.f.n) : ansP p D xs rs = [-75] ∧ datP p D xs rs = D := by
  obtain ⟨c, hc⟩ := three_call h xs rs
  refine desk_no (r := Krdk.say (-75)) ?_
  unfold actP
  rw [hc]
  show (if Krdm.mostVoters < D.f.n then _ else _ : Krdo.Abs × Krdo.Ans) = _
  rw [if_pos (show Krdm.mostVoters < D.f.n from hn)]
theorem sc72 : FnScope ["desk", "name", "given"] ["desk", "name", "given"] (defScope (top 72)) := ⟨rfl, rfl, rfl, by decide +kernel, rfl, by decide +kernel, by decide +kernel⟩
theorem c_compared (T : ClD K C) (Z : Ct mg) (Df : DefAt K mg "compared" (top 72)) (cr : Cal P w K mg base 1 "refused" (SpK pRefused)) (DD : Dct K w mg "COMPARING" (kvs tCo)) (hc : ∀ t ∈ tCo, Cal P w K mg base 7 t.2.1 (spP K C t.2.2 4)) : Cal P w K mg base 8 "compared" (spN K C tCo) := by
  refine cal_of (ps := ["desk", "name", "given"]) Df sc72 (fun _ _ _ _ _ _ us hl => match us, hl with | [_, _, _], _ => rfl) (fun vs H Q E ⟨_, _, _, _, _, e, _⟩ => by rw [e]; rfl) fun f cdv A outer s H vs Q E hr ⟨d, g, p, z, ff, e, hm, hR⟩ => ?_
  subst e
  refine go_run ?_
  obtain ⟨D, xs, rs, dx, ad, cd, sd, ld, sh, hD, h2, h3, h4, h5, h6, h7, h8⟩ := hR
  refine go_if (Gt.to (gt_gt (gv_bitsD T (gv_var 0) hD) (gv_glo Z.mostVoters)) (dlt 4 D.f.n)) (fun h nx => ?_) (fun h => ?_)
  · have e := three_many (xs := xs) (rs := rs) (co_p _ hm) (of_decide_eq_true h)
    exact go_ret (gv_ref cr hr (by decide) Z.tooMany) (refuse hD h8 e)
  · have hn : D.f.n ≤ 4 := by have := of_decide_eq_false h; omega
    exact go_inD DD hc hm hr (by decide) ⟨D, xs, rs, dx, ad, cd, sd, ld, sh, hD, hn, h3, h4, h5, h6, h7, h8⟩ rfl rfl (Or.inl rfl) (Or.inl rfl) (Or.inl rfl) (by decide) (fun _ _ => rfl) rfl rfl rfl rfl
/-! ### called -/
def tAll : List (Str × Str × Nat) := tMk ++ (tSw ++ (tMi ++ (tCo ++ (tRi ++ tSh))))
theorem apart : (∀ t ∈ tSw, ∀ u ∈ tMk, t.1 ≠ u.1) ∧ (∀ t ∈ tMi, (∀ u ∈ tMk, t.1 ≠ u.1) ∧ ∀ u ∈ tSw, t.1 ≠ u.1) ∧ (∀ t ∈ tCo, (∀ u ∈ tMk, t.1 ≠ u.1) ∧ (∀ u ∈ tSw, t.1 ≠ u.1) ∧ ∀ u ∈ tMi, t.1 ≠ u.1) ∧ (∀ t ∈ tRi, (∀ u ∈ tMk, t.1 ≠ u.1) ∧ (∀ u ∈ tSw, t.1 ≠ u.1) ∧ (∀ u ∈ tMi, t.1 ≠ u.1) ∧ ∀ u ∈ tCo, t.1 ≠ u.1) ∧ ∀ t ∈ tSh, (∀ u ∈ tMk, t.1 ≠ u.1) ∧ (∀ u ∈ tSw, t.1 ≠ u.1) ∧ (∀ u ∈ tMi, t.1 ≠ u.1) ∧ (∀ u ∈ tCo, t.1 ≠ u.1) ∧ ∀ u ∈ tRi, t.1 ≠ u.1 := by decide +kernel
/-- the dicts -/
structure Dcts (K : PySem.W.Frag) (w : World) (mg : Str → Option Value) : Prop where
  d1 : Dct K w mg "MAKING" (kvs tMk)
  d2 : Dct K w mg "SWAYING" (kvs tSw)
  d3 : Dct K w mg "MISHEARING" (kvs tMi)
  d4 : Dct K w mg "COMPARING" (kvs tCo)
  d5 : Dct K w mg "RISES" (kvs tRi)
  d6 : Dct K w mg "SHELVING" (kvs tSh)
theorem sc145 : FnScope ["desk", "name", "given"] ["desk", "name", "given"] (defScope (top 145)) := ⟨rfl, rfl, rfl, by decide +kernel, rfl, by decide +kernel, by decide +kernel⟩
theorem c_called (T : ClD K C) (Df : DefAt K mg "called" (top 145)) (DD : Dcts K w mg) (hc : Defs P w K mg base C) (cc : Cal P w K mg base 8 "compared" (spN K C tCo)) : Cal P w K mg base 9 "called" (spN K C tAll) := by
  refine cal_of (ps := ["desk", "name", "given"]) Df sc145 (fun _ _ _ _ _ _ us hl => match us, hl with | [_, _, _], _ => rfl) (fun vs H Q E ⟨_, _, _, _, _, e, _⟩ => by rw [e]; rfl) fun f cdv A outer s H vs Q E hr ⟨d, g, p, z, ff, e, hm, hR⟩ => ?_
  subst e
  refine go_run ?_
  obtain ⟨a1, a2, a3, a4, a5⟩ := apart
  have no : ∀ {x : Str} {tb : List (Str × Str × Nat)} {Dn : Ends} {A' rest : List Stmt} {p1 p2 p3 pp : Pos}, Dct K w mg x (kvs tb) → (∀ q ∈ tb, z ≠ q.1) → Gl (Bn P w K mg base (top 145) f cdv A outer s H E) x → (x == ("__debug__" : Str)) = false → behindInMarks .In (.Name x p2) = false →
      Go Dn (cSs (Bn P w K mg base (top 145) f cdv A outer s H E) rest) [some (.ref d), some (.str z), some (.ref g)] H → Go Dn (cSs (Bn P w K mg base (top 145) f cdv A outer s H E) (.If (.Compare (.Name "name" p1) [.In] [.Name x p2] p3) A' [] pp :: rest)) [some (.ref d), some (.str z), some (.ref g)] H :=
    fun DD hq hg hdb hb h => go_if (gt_notin DD hq hg rfl (Or.inl rfl) hdb hb) (fun h => by cases h) (fun _ => h)
  rcases List.mem_append.mp hm with m | m
  · exact go_if (gt_isin DD.d1 m rfl rfl (Or.inl rfl) (by decide) rfl) (fun _ nx => go_inD DD.d1 hc.mak m hr (by decide) hR rfl rfl (Or.inl rfl) (Or.inl rfl) (Or.inl rfl) (by decide) (fun _ _ => rfl) rfl rfl rfl rfl) (fun h => by cases h)
  · rcases List.mem_append.mp m with m | m
    · refine no DD.d1 (a1 _ m) rfl (by decide) rfl ?_
      exact go_if (gt_isin DD.d2 m rfl rfl (Or.inl rfl) (by decide) rfl) (fun _ nx => go_inD DD.d2 hc.sw m hr (by decide) hR rfl rfl (Or.inl rfl) (Or.inl rfl) (Or.inl rfl) (by decide) (fun _ _ => rfl) rfl rfl rfl rfl) (fun h => by cases h)
    · rcases List.mem_append.mp m with m | m
      · refine no DD.d1 (a2 _ m).1 rfl (by decide) rfl (no DD.d2 (a2 _ m).2 rfl (by decide) rfl ?_)
        exact go_if (gt_isin DD.d3 m rfl rfl (Or.inl rfl) (by decide) rfl) (fun _ nx => go_inD DD.d3 hc.mi m hr (by decide) hR rfl rfl (Or.inl rfl) (Or.inl rfl) (Or.inl rfl) (by decide) (fun _ _ => rfl) rfl rfl rfl rfl) (fun h => by cases h)
      · rcases List.mem_append.mp m with m | m
        · refine no DD.d1 (a3 _ m).1 rfl (by decide) rfl (no DD.d2 (a3 _ m).2.1 rfl (by decide) rfl (no DD.d3 (a3 _ m).2.2 rfl (by decide) rfl ?_))
          refine go_if (gt_isin DD.d4 m rfl rfl (Or.inl rfl) (by decide) rfl) (fun _ nx => ?_) (fun h => by cases h)
          refine go_retC cc hr (by decide) (ga_cons (gv_var 0) (ga_cons (gv_var 1) (ga_cons (gv_var 2) ga_nil))) (fun vs H1 E s y => ?_)
          obtain ⟨v1, r1, rfl, e1, v2, r2, rfl, e2, v3, r3, rfl, e3, rfl⟩ := y
          obtain rfl : v1 = .ref d := e1
          obtain rfl : v2 = .str z := e2
          obtain rfl : v3 = .ref g := e3
          exact ⟨d, g, p, z, ff, rfl, m, hR.same s⟩
        · rcases List.mem_append.mp m with m | m
          · refine no DD.d1 (a4 _ m).1 rfl (by decide) rfl (no DD.d2 (a4 _ m).2.1 rfl (by decide) rfl (no DD.d3 (a4 _ m).2.2.1 rfl (by decide) rfl (no DD.d4 (a4 _ m).2.2.2 rfl (by decide) rfl ?_)))
            exact go_if (gt_isin DD.d5 m rfl rfl (Or.inl rfl) (by decide) rfl) (fun _ nx => go_inD DD.d5 hc.ri m hr (by decide) hR rfl rfl (Or.inl rfl) (Or.inl rfl) (Or.inl rfl) (by decide) (fun _ _ => rfl) rfl rfl rfl rfl) (fun h => by cases h)
          · refine no DD.d1 (a5 _ m).1 rfl (by decide) rfl (no DD.d2 (a5 _ m).2.1 rfl (by decide) rfl (no DD.d3 (a5 _ m).2.2.1 rfl (by decide) rfl (no DD.d4 (a5 _ m).2.2.2.1 rfl (by decide) rfl (no DD.d5 (a5 _ m).2.2.2.2 rfl (by decide) rfl ?_))))
            exact go_inD DD.d6 hc.sh m hr (by decide) hR rfl rfl (Or.inl rfl) (Or.inl rfl) (Or.inl rfl) (by decide) (fun _ _ => rfl) rfl rfl rfl rfl
end
end Sw
set_option Elab.async false
set_option linter.all false
set_option maxRecDepth 100000
set_option maxHeartbeats 2000000
set_option exponentiation.threshold 3000
namespace Sw
open PySem PySem.Spec PyProof.Rows L2 Kx
open Evl (given given_yes given_no given_len)
open Mt (W S swc pt)
section
variable {P : Program} {w : World} {K : PySem.W.Frag} {mg : Str → Option Value} {base : Heap} {C : Addr}
/-! ### what a call makes of the desk, its past left out -/
theorem kact (f : Krdk.Answer) (c : Krdk.Call) (hb : ∀ n, c ≠ .begin_ n) : ∃ g r, Krdk.act (some f) c = (some g, r) ∧ g.n = f.n := by
  cases c with
  | begin_ n => exact absurd rfl (hb n)
  | told l =>
    show ∃ g r, (if decide (32 < l.length) || !(l.all fun w => !decide (2 ^ f.n ≤ w)) then _ else _) = _ ∧ _
    split
    · exact ⟨_, _, rfl, rfl⟩
    · exact ⟨_, _, rfl, rfl⟩
  | least q l =>
    show ∃ g r, (if l.length ≠ f.n || !(l.all fun v => decide (v ≤ 9)) then _ else _) = _ ∧ _
    split
    · exact ⟨_, _, rfl, rfl⟩
    · exact ⟨_, _, rfl, rfl⟩
  | odd s =>
    show ∃ g r, (if decide (2 ^ f.n ≤ s) then _ else _) = _ ∧ _
    split
    · exact ⟨_, _, rfl, rfl⟩
    · exact ⟨_, _, rfl, rfl⟩
  | bit i =>
    show ∃ g r, (if decide (f.n ≤ i) then _ else _) = _ ∧ _
    split
    · exact ⟨_, _, rfl, rfl⟩
    · exact ⟨_, _, rfl, rfl⟩
  | turn i =>
    show ∃ g r, (if decide (f.n ≤ i) then _ else _) = _ ∧ _
    split
    · exact ⟨_, _, rfl, rfl⟩
    · exact ⟨_, _, rfl, rfl⟩
  | set x b =>
    show ∃ g r, (if decide (2 ^ f.n ≤ x) || decide (1 < b) then _ else _) = _ ∧ _
    split
    · exact ⟨_, _, rfl, rfl⟩
    · exact ⟨_, _, rfl, rfl⟩
  | _ => exact ⟨_, _, rfl, rfl⟩
theorem ch_self (D : Krdo.Data) (ps : List Krdo.Data) : Krdo.changed ⟨D, ps⟩ D = ⟨D, ps⟩ := if_pos rfl
theorem lact (f : Krdk.Answer) (e : Rat) (c : Krdl.Call) (hb : ∀ b, c ≠ .base b) : ∃ (y : Krdl.Desk) (r : Krdk.Ans), Krdl.act (some ⟨f, e, none⟩) c = (some y, r) ∧ y.f.n = f.n := by
  cases c with
  | base b => exact absurd rfl (hb b)
  | chance a b =>
    show ∃ (y : Krdl.Desk) (r : Krdk.Ans), (if !Krdl.chanceOk a b then _ else _) = _ ∧ _
    split
    · exact ⟨_, _, rfl, rfl⟩
    · exact ⟨_, _, rfl, rfl⟩
  | _ => exact ⟨_, _, rfl, rfl⟩
theorem act_ch {D : Krdo.Data} (hsh : ∀ g, some g ∈ D.shelf → g.n = D.f.n) (c : Krdo.Call) (h1 : ∀ n, c ≠ .base (.begin_ n)) (h2 : c ≠ .back) (h3 : ∀ b, c ≠ .hear (.base b)) : ∃ (D' : Krdo.Data) (r : Krdk.Ans), D'.f.n = D.f.n ∧ ∀ ps, Krdo.act (some ⟨D, ps⟩) c = (some (Krdo.changed ⟨D, ps⟩ D'), r) := by
  have hon : ∀ i g, D.on i = some g → g.n = D.f.n := by
    intro i g h
    unfold Krdo.Data.on at h
    cases e : D.shelf[i]? with
    | none => rw [e] at h; cases h
    | some o =>
      rw [e] at h
      have h : o = some g := h
      subst h
      exact hsh g (List.mem_of_getElem? e)
  cases c with
  | base b =>
    obtain ⟨g, r, e, hn⟩ := kact D.f b (fun n z => h1 n (by rw [z]))
    refine ⟨{ D with f := g }, r, hn, fun ps => ?_⟩
    cases b with
    | begin_ n => exact absurd rfl (h1 n)
    | _ => simp only [Krdo.act, e]
  | hear b =>
    obtain ⟨y, r, e, hn⟩ := lact D.f D.e b (fun n z => h3 n (by rw [z]))
    refine ⟨{ D with f := y.f, e := y.e }, r, hn, fun ps => ?_⟩
    simp only [Krdo.act, e]
  | three b =>
    by_cases z : Krdm.mostVoters < D.f.n
    · exact ⟨D, Krdk.say (-75), rfl, fun ps => by rw [ch_self]; show (if Krdm.mostVoters < D.f.n then _ else _ : Krdo.Abs × Krdo.Ans) = _; rw [if_pos z]⟩
    · exact ⟨D, (Krdm.act (some D.f) b).2, rfl, fun ps => by rw [ch_self]; show (if Krdm.mostVoters < D.f.n then _ else _ : Krdo.Abs × Krdo.Ans) = _; rw [if_neg z]⟩
  | rise b => exact ⟨D, (Krdo.act (some ⟨D, []⟩) (.rise b)).2, rfl, fun ps => by rw [ch_self]; rfl⟩
  | put_ i =>
    by_cases z : Krdo.places ≤ i
    · exact ⟨D, Krdk.say (-2), rfl, fun ps => by rw [ch_self]; show (if Krdo.places ≤ i then _ else _ : Krdo.Abs × Krdo.Ans) = _; rw [if_pos z]⟩
    · exact ⟨{ D with shelf := D.shelf.set i (some D.f) }, Krdk.ask (D.on i).isSome, rfl, fun ps => by show (if Krdo.places ≤ i then _ else _ : Krdo.Abs × Krdo.Ans) = _; rw [if_neg z]⟩
  | take_ i =>
    by_cases z : Krdo.places ≤ i
    · exact ⟨D, Krdk.say (-2), rfl, fun ps => by rw [ch_self]; show (if Krdo.places ≤ i then _ else _ : Krdo.Abs × Krdo.Ans) = _; rw [if_pos z]⟩
    · cases e : D.on i with
      | none => exact ⟨D, Krdk.say (-6), rfl, fun ps => by rw [ch_self]; simp only [Krdo.act, if_neg z, e]⟩
      | some g => exact ⟨{ D with f := g }, Krdk.nat g.yes, hon i g e, fun ps => by simp only [Krdo.act, if_neg z, e]⟩
  | join op i =>
    by_cases z : Krdo.places ≤ i
    · exact ⟨D, Krdk.say (-2), rfl, fun ps => by rw [ch_self]; simp only [Krdo.act, if_pos z]⟩
    · by_cases y : 2 < op
      · exact ⟨D, Krdk.say (-22), rfl, fun ps => by rw [ch_self]; simp only [Krdo.act, if_neg z, if_pos y]⟩
      · cases e : D.on i with
        | none => exact ⟨D, Krdk.say (-6), rfl, fun ps => by rw [ch_self]; simp only [Krdo.act, if_neg z, if_neg y, e]⟩
        | some g => exact ⟨{ D with f := Krdo.put op D.f g }, Krdk.nat (Krdo.put op D.f g).yes, rfl, fun ps => by simp only [Krdo.act, if_neg z, if_neg y, e]⟩
  | same i => exact ⟨D, (Krdo.act (some ⟨D, []⟩) (.same i)).2, rfl, fun ps => by rw [ch_self]; rfl⟩
  | more q i => exact ⟨D, (Krdo.act (some ⟨D, []⟩) (.more q i)).2, rfl, fun ps => by rw [ch_self]; rfl⟩
  | best q => exact ⟨D, (Krdo.act (some ⟨D, []⟩) (.best q)).2, rfl, fun ps => by rw [ch_self]; rfl⟩
  | shelf => exact ⟨D, (Krdo.act (some ⟨D, []⟩) (.shelf )).2, rfl, fun ps => by rw [ch_self]; rfl⟩
  | back => exact absurd rfl h2
/-- neither begin nor back -/
def midC : Krdo.Call → Bool
  | .base (.begin_ _) => false
  | .back => false
  | .hear (.base _) => false
  | _ => true
theorem mid_call : ∀ (p : Nat), 1 ≤ p → p ≤ 55 → ∀ (xs : List Int) (rs : List (List Int)), midC (KrdoNeutral.call (((p : Int) :: xs) :: rs)) = true
  | 0, h, _, _, _ => absurd h (by decide)
  | 1, _, _, _, _ => rfl
  | 2, _, _, _, _ => rfl
  | 3, _, _, _, _ => rfl
  | 4, _, _, _, _ => rfl
  | 5, _, _, _, _ => rfl
  | 6, _, _, _, _ => rfl
  | 7, _, _, _, _ => rfl
  | 8, _, _, _, _ => rfl
  | 9, _, _, _, _ => rfl
  | 10, _, _, _, _ => rfl
  | 11, _, _, _, _ => rfl
  | 12, _, _, _, _ => rfl
  | 13, _, _, _, _ => rfl
  | 14, _, _, _, _ => rfl
  | 15, _, _, _, _ => rfl
  | 16, _, _, _, _ => rfl
  | 17, _, _, _, _ => rfl
  | 18, _, _, _, _ => rfl
  | 19, _, _, _, _ => rfl
  | 20, _, _, _, _ => rfl
  | 21, _, _, _, _ => rfl
  | 22, _, _, _, _ => rfl
  | 23, _, _, _, _ => rfl
  | 24, _, _, _, _ => rfl
  | 25, _, _, _, _ => rfl
  | 26, _, _, _, _ => rfl
  | 27, _, _, _, _ => rfl
  | 28, _, _, _, _ => rfl
  | 29, _, _, _, _ => rfl
  | 30, _, _, _, _ => rfl
  | 31, _, _, _, _ => rfl
  | 32, _, _, _, _ => rfl
  | 33, _, _, _, _ => rfl
  | 34, _, _, _, _ => rfl
  | 35, _, _, _, _ => rfl
  | 36, _, _, _, _ => rfl
  | 37, _, _, _, _ => rfl
  | 38, _, _, _, _ => rfl
  | 39, _, _, _, _ => rfl
  | 40, _, _, _, _ => rfl
  | 41, _, _, _, _ => rfl
  | 42, _, _, _, _ => rfl
  | 43, _, _, _, _ => rfl
  | 44, _, _, _, _ => rfl
  | 45, _, _, _, _ => rfl
  | 46, _, _, _, _ => rfl
  | 47, _, _, _, _ => rfl
  | 48, _, _, _, _ => rfl
  | 49, _, _, _, _ => rfl
  | 50, _, _, _, _ => rfl
  | 51, _, _, _, _ => rfl
  | 52, _, _, _, _ => rfl
  | 53, _, _, _, _ => rfl
  | 54, _, _, _, _ => rfl
  | 55, _, _, _, _ => rfl
  | n + 56, _, h, _, _ => absurd h (by omega)
theorem call_mid {p : Nat} (h : 1 ≤ p ∧ p ≤ 55) (xs : List Int) (rs : List (List Int)) : (∀ n, KrdoNeutral.call (((p : Int) :: xs) :: rs) ≠ .base (.begin_ n)) ∧ KrdoNeutral.call (((p : Int) :: xs) :: rs) ≠ .back ∧ ∀ b, KrdoNeutral.call (((p : Int) :: xs) :: rs) ≠ .hear (.base b) := by
  have e := mid_call p h.1 h.2 xs rs
  generalize KrdoNeutral.call (((p : Int) :: xs) :: rs) = c at e ⊢
  refine ⟨fun n z => ?_, fun z => ?_, fun b z => ?_⟩ <;> (rw [z] at e; cases e)
theorem act_past {p : Nat} (h : 1 ≤ p ∧ p ≤ 55) {D : Krdo.Data} (hsh : ∀ g, some g ∈ D.shelf → g.n = D.f.n) (xs : List Int) (rs : List (List Int)) (ps : List Krdo.Data) :
    (datP p D xs rs).f.n = D.f.n ∧ (Krdo.act (some ⟨D, ps⟩) (KrdoNeutral.call (((p : Int) :: xs) :: rs))).1 = some (Krdo.changed ⟨D, ps⟩ (datP p D xs rs)) ∧ KrdoNeutral.told (Krdo.act (some ⟨D, ps⟩) (KrdoNeutral.call (((p : Int) :: xs) :: rs))).2 = ansP p D xs rs := by
  obtain ⟨h1, h2, h3⟩ := call_mid h xs rs
  obtain ⟨D', r, hn, he⟩ := act_ch hsh _ h1 h2 h3
  have e := desk_act (p := p) (D := D) (xs := xs) (rs := rs) (he [])
  rw [he ps, e.1, e.2]
  exact ⟨hn, rfl, rfl⟩
end
end Sw
set_option Elab.async false
set_option linter.all false
set_option maxRecDepth 100000
set_option maxHeartbeats 2000000
set_option exponentiation.threshold 3000
namespace Sw
open PySem PySem.Spec PyProof.Rows L2 Kx
open Evl (given given_yes given_no given_len)
open Mt (W S swc pt)
section
variable {P : Program} {w : World} {K : PySem.W.Frag} {mg : Str → Option Value} {base : Heap} {C : Addr}
/-! ### the desk between the calls -/
def DeskAt (K : PySem.W.Frag) (C : Addr) (Hf H : Hp) (d : Addr) : Krdo.Abs → Prop
  | none => ∃ (dx : Addr) (v2 v3 v4 v5 : V), H d = some (.ins C dx (dG (.int 0) v2 v3 v4 v5))
  | some b => ∃ (dx a c s l : Addr) (sh : List V), Dk K C H d b.d dx a c s l sh ∧ PastAt K H b.d.f.n l b.past ∧ b.past.length ≤ 10 ∧ l ≠ d ∧ Hf l = none
theorem DeskAt.same {Hf H H' : Hp} {d : Addr} {s : Krdo.Abs} (h : DeskAt K C Hf H d s) (z : Same H H') : DeskAt K C Hf H' d s := by
  cases s with
  | none => obtain ⟨dx, v2, v3, v4, v5, q⟩ := h; exact ⟨dx, v2, v3, v4, v5, z _ _ q⟩
  | some b => obtain ⟨dx, a, c, s, l, sh, q1, q2, q3, q4, q5⟩ := h; exact ⟨dx, a, c, s, l, sh, q1.same z, q2.same z, q3, q4, q5⟩
theorem DeskAt.ins {Hf H : Hp} {d : Addr} {s : Krdo.Abs} (h : DeskAt K C Hf H d s) : ∃ dx v1 v2 v3 v4 v5, H d = some (.ins C dx (dG v1 v2 v3 v4 v5)) := by
  cases s with
  | none => obtain ⟨dx, v2, v3, v4, v5, q⟩ := h; exact ⟨dx, _, v2, v3, v4, v5, q⟩
  | some b => obtain ⟨dx, a, c, s, l, sh, q1, _⟩ := h; exact ⟨dx, _, _, _, _, _, q1.ins⟩
theorem but_same {p : Addr} {Hf H H' : Hp} (s : Same Hf H) (f : Hf p = none) (b : But p H H') : Same Hf H' := fun a u q => b a u (ne_of_none q f) (s _ _ q)
theorem but2_same {p q : Addr} {Hf H H' : Hp} (s : Same Hf H) (f : Hf p = none) (g : Hf q = none) (b : But2 p q H H') : Same Hf H' := fun a u z => b a u (ne_of_none z f) (ne_of_none z g) (s _ _ z)
def spAns (K : PySem.W.Frag) (C : Addr) : Sp := fun vs H Q _ => ∃ (d g p : Nat) (Hf : Hp) (s : Krdo.Abs) (xs : List Int) (rs : List (List Int)), vs = [.ref d, .str (nmP p), .ref g] ∧ p < 57 ∧ Same Hf H ∧ Hf d = none ∧ DeskAt K C Hf H d s ∧ Gn K Hf g xs rs ∧ xs.length = nxP p ∧ rs.length = nrP p ∧
  (∀ x ∈ xs, NumOk x) ∧ (∀ r ∈ rs, r.length ≤ 255 ∧ ∀ x ∈ r, NumOk x) ∧
  ∀ v H2, Same Hf H2 → DeskAt K C Hf H2 d (Krdo.act s (KrdoNeutral.call (((p : Int) :: xs) :: rs))).1 → (Kd.ob (.lst ((KrdoNeutral.told (Krdo.act s (KrdoNeutral.call (((p : Int) :: xs) :: rs))).2).map .int))).new H v H2 → Q v H2
theorem nm_begin : ∀ p, p < 57 → (nmP p == ("begin" : Str)) = decide (p = 0) := by decide +kernel
theorem nm_back : ∀ p, p < 57 → (nmP p == ("back" : Str)) = decide (p = 56) := by decide +kernel
theorem nm_mid : ∀ p, p < 56 → 1 ≤ p → (tAll.any fun t => t.1 == nmP p && t.2.2 == p) = true := by decide +kernel
theorem act_none (c : Krdo.Call) (h : ∀ n, c ≠ .base (.begin_ n)) : Krdo.act none c = (none, Krdk.say (-11)) := by
  cases c with
  | base b =>
    cases b with
    | begin_ n => exact absurd rfl (h n)
    | _ => rfl
  | _ => rfl
theorem act_begin (s : Krdo.Abs) (n : Nat) : Krdo.act s (.base (.begin_ n)) = if n = 0 || decide (5 < n) then (s, Krdk.say (-22)) else (some ⟨dat0 n, []⟩, Krdk.say 0) := by
  have e : Krdk.act none (.begin_ n) = if n = 0 || decide (5 < n) then (none, Krdk.say (-22)) else (some (Krdk.of n fun _ => false), Krdk.say 0) := rfl
  by_cases h : (n = 0 || decide (5 < n)) = true
  · rw [if_pos h] at e ⊢
    simp only [Krdo.act, e]
  · rw [if_neg h] at e ⊢
    simp only [Krdo.act, e]
    rfl
theorem not_begin {p : Nat} (h : p < 57) (h0 : p ≠ 0) (xs : List Int) (rs : List (List Int)) : ∀ n, KrdoNeutral.call (((p : Int) :: xs) :: rs) ≠ .base (.begin_ n) := by
  by_cases z : p ≤ 55
  · exact (call_mid (by omega) xs rs).1
  · have : p = 56 := by omega
    subst this
    intro n e
    cases e
theorem shelf_n {H : Hp} {d : Addr} {D : Krdo.Data} {dx a c s l : Addr} {sh : List V} (h : Dk K C H d D dx a c s l sh) : ∀ g, some g ∈ D.shelf → g.n = D.f.n := by
  have key : ∀ {vs : List V} {os : List (Option Krdk.Answer)}, ShAt K H D.f.n vs os → ∀ g, some g ∈ os → g.n = D.f.n := by
    intro vs os q
    induction q with
    | nil => intro g hg; cases hg
    | @cons v o _ _ x _ ih =>
      intro g hg
      rcases List.mem_cons.mp hg with z | z
      · subst z
        exact x.2.1
      · exact ih g z
  exact key h.sh
theorem sc146 : FnScope ["desk", "name", "given", "before", "numbers"] ["desk", "name", "given"] (defScope (top 146)) := ⟨rfl, rfl, rfl, by decide +kernel, rfl, by decide +kernel, by decide +kernel⟩
theorem c_answered (T : ClD K C) (Z : Ct mg) (Df : DefAt K mg "answered" (top 146)) (cr : Cal P w K mg base 1 "refused" (SpK pRefused)) (cb : Cal P w K mg base 2 "begin" (spBegin K C)) (ck : Cal P w K mg base 2 "tell_back" (spBack K C)) (ca : Cal P w K mg base 1 "as_it_is" (SpK (pAsIs K C))) (cc : Cal P w K mg base 9 "called" (spN K C tAll)) (cp : Cal P w K mg base 2 "keep_change" (spKeep K C)) : Cal P w K mg base 10 "answered" (spAns K C) := by
  refine cal_of (ps := ["desk", "name", "given"]) Df sc146 (fun _ _ _ _ _ _ us hl => match us, hl with | [_, _, _], _ => rfl) (fun vs H Q E ⟨_, _, _, _, _, _, _, e, _⟩ => by rw [e]; rfl) fun f cdv A outer s H vs Q E hr ⟨d, g, p, Hf, st, xs, rs, e, hp, sf, fd, hD, hG, hx, hrs, ok, okr, hQ⟩ => ?_
  subst e
  refine go_run ?_
  have hG1 := hG.same sf
  refine go_if (Gt.to (gt_eqS (gv_var 1) gv_str) (nm_begin p hp)) (fun h nx => ?_) (fun h => ?_)
  · have hp0 : p = 0 := of_decide_eq_true h
    subst hp0
    obtain ⟨x, rfl, hxm⟩ := one_num hx ok
    obtain rfl := nil_of hrs
    have hq := hG1.nums
    have ec : KrdoNeutral.call ((((0 : Nat) : Int) :: [(x : Int)]) :: []) = .base (.begin_ x) := rfl
    rw [ec, act_begin] at hQ
    refine go_retC cb hr (by decide) (ga_cons (gv_var 0) (ga_cons (gv_var 2) ga_nil)) (fun vs H1 E s z => ?_)
    obtain ⟨u1, r1, rfl, e1, u2, r2, rfl, e2, rfl⟩ := z
    obtain rfl : u1 = .ref d := e1
    obtain rfl : u2 = .ref g := e2
    obtain ⟨dx, v1, v2, v3, v4, v5, hd⟩ := (hD.same s).ins
    refine ⟨d, g, x, dx, v1, v2, v3, v4, v5, rfl, hd, same_l s hq, fun hb v H2 s2 n2 => ?_, fun hg v H2 m => ?_⟩
    · rw [if_pos (show (x = 0 || decide (5 < x)) = true by simp; omega)] at hQ
      exact hQ v H2 ((sf.trans s).trans s2) (hD.same (s.trans s2)) (Kd.new_back n2 s (Same.refl _))
    · rw [if_neg (show ¬ (x = 0 || decide (5 < x)) = true by simp; omega)] at hQ
      obtain ⟨a, c, sd, l, sh, hDk, hl0, hld, hl⟩ := m.dk
      exact hQ v H2 (but_same (sf.trans s) fd m.but) ⟨dx, a, c, sd, l, sh, hDk, ⟨[], hl, .nil⟩, by show 0 ≤ 10; decide, hld, (sf.trans s).free hl0⟩ (Kd.new_back m.ret s (Same.refl _))
  · have hp0 : p ≠ 0 := of_decide_eq_false h
    have hnb := not_begin hp hp0 xs rs
    cases st with
    | none =>
      obtain ⟨dx, v2, v3, v4, v5, hd⟩ := hD
      refine go_if (d := true) (Gt.to (gt_eq (gv_fld (gv_var 0) hd T.cl T.n1 lk_here) gv_int) rfl) (fun _ nx => ?_) (fun h => by cases h)
      refine go_ret (gv_ref cr hr (by decide) Z.notBegun) fun v H2 s2 n2 => hQ v H2 (sf.trans s2) ?_ ?_
      · rw [act_none _ hnb]
        exact ⟨dx, v2, v3, v4, v5, s2 _ _ hd⟩
      · rw [act_none _ hnb]
        exact n2
    | some b =>
      obtain ⟨D, ps⟩ := b
      obtain ⟨dx, ad, cd, sd, ld, sh, hDk, hP, hl10, hld, hfl⟩ := hD
      have hDk : Dk K C H d D dx ad cd sd ld sh := hDk
      have hP : PastAt K H D.f.n ld ps := hP
      have hl10 : ps.length ≤ 10 := hl10
      have hn1 := hDk.w.n1
      refine go_if (d := false) (Gt.to (gt_eq (gv_bitsD T (gv_var 0) hDk) gv_int) (by rw [beq_eq_false_iff_ne]; omega)) (fun h => by cases h) (fun _ => ?_)
      refine go_if (Gt.to (gt_eqS (gv_var 1) gv_str) (nm_back p hp)) (fun h nx => ?_) (fun h => ?_)
      · have hp6 : p = 56 := of_decide_eq_true h
        subst hp6
        have ec : KrdoNeutral.call ((((56 : Nat) : Int) :: xs) :: rs) = .back := rfl
        rw [ec] at hQ
        refine go_retC ck hr (by decide) (ga_cons (gv_var 0) ga_nil) (fun vs H1 E s z => ?_)
        obtain ⟨u1, r1, rfl, e1, rfl⟩ := z
        obtain rfl : u1 = .ref d := e1
        refine ⟨d, D, ps, dx, ad, cd, sd, ld, sh, rfl, hDk.same s, hP.same s, hl10, hld, fun h0 v H2 s2 n2 => ?_, fun x rest h0 v H2 b2 hdk hpa n2 => ?_⟩
        · subst h0
          exact hQ v H2 ((sf.trans s).trans s2) ⟨dx, ad, cd, sd, ld, sh, hDk.same (s.trans s2), hP.same (s.trans s2), hl10, hld, hfl⟩ (Kd.new_back n2 s (Same.refl _))
        · subst h0
          obtain ⟨a, c, s0, sh0, hdk⟩ := hdk
          have hl9 : rest.length ≤ 10 := by have : rest.length + 1 ≤ 10 := hl10; omega
          exact hQ v H2 (but2_same (sf.trans s) fd hfl b2) ⟨dx, a, c, s0, ld, sh0, hdk, hpa, hl9, hld, hfl⟩ (Kd.new_back n2 s (Same.refl _))
      · have hp6 : p ≠ 56 := of_decide_eq_false h
        have hpm : 1 ≤ p ∧ p ≤ 55 := by omega
        obtain ⟨a1, a2, a3⟩ := act_past hpm (shelf_n hDk) xs rs ps
        rw [a2, a3] at hQ
        obtain ⟨t0, ht0, ht1⟩ := List.any_eq_true.mp (nm_mid p (by omega) hpm.1)
        obtain ⟨z0, ff, p0⟩ := t0
        obtain ⟨q1, q2⟩ := Bool.and_eq_true_iff.mp ht1
        obtain rfl : p0 = p := eq_of_beq q2
        obtain rfl : z0 = nmP p0 := eq_of_beq q1
        refine go_setO 3 sc146.nd (gv_as_it_is ca hr (by decide) (gv_var 0) hDk) fun t H1 ft s1 ht => ?_
        refine go_setC 4 sc146.nd cc hr (by decide) (ga_cons (gv_var 0) (ga_cons (gv_var 1) (ga_cons (gv_var 2) ga_nil))) (fun vs H2 E s2 z => ?_)
        obtain ⟨u1, r1, rfl, e1, u2, r2, rfl, e2, u3, r3, rfl, e3, rfl⟩ := z
        obtain rfl : u1 = .ref d := e1
        obtain rfl : u2 = .str (nmP p0) := e2
        obtain rfl : u3 = .ref g := e3
        have hDk2 := hDk.same (s1.trans s2)
        have hB2 := (hDk.same s1).bef (SqT.of ht)
        have hB2 := hB2.same s2
        have hP2 := hP.same (s1.trans s2)
        refine ⟨d, g, p0, nmP p0, ff, rfl, ht0, D, xs, rs, dx, ad, cd, sd, ld, sh, hDk2, hDk2.w.n5, hG1.same (s1.trans s2), hx, hrs, ok, okr, fun v H3 m => ?_⟩
        refine go_run ?_
        obtain ⟨am, cm, sm, shm, hDk3⟩ := m.dk
        obtain ⟨q, rfl, fq, hq3⟩ := m.ret
        have hB3 : BefAt K H3 D.f.n t D := hB2.mapT fun a xs q => m.but.seqT hDk2.ins q
        obtain ⟨us, hus, hpp⟩ := hP2
        have hus3 : H3 ld = some (.lst us) := m.but _ _ hld hus
        have hP3 : PastAt K H3 D.f.n ld ps := ⟨us, hus3, Paired.mapP hpp fun u D ⟨t, e, q⟩ => ⟨t, e, q.mapT fun a xs q => m.but.seqT hDk2.ins q⟩⟩
        have sf3 : Same Hf H3 := but_same ((sf.trans s1).trans s2) fd m.but
        refine go_expC cp hr (by decide) (ga_cons (gv_var 0) (ga_cons (gv_var 3) ga_nil)) (fun vs H4 E s4 z => ?_)
        obtain ⟨u1, r1, rfl, e1, u2, r2, rfl, e2, rfl⟩ := z
        obtain rfl : u1 = .ref d := e1
        obtain rfl : u2 = .ref t := e2
        refine ⟨d, t, datP p0 D xs rs, D, ps, dx, am, cm, sm, ld, shm, rfl, hDk3.same s4, by rw [a1]; exact hB3.same s4, by rw [a1]; exact hP3.same s4, hl10, hld, fun v H5 k => ?_⟩
        refine go_run ?_
        have sf5 : Same Hf H5 := but2_same (sf3.trans s4) fd hfl k.but
        have n1 : q ≠ d := by
          intro e
          rw [e, hDk2.ins] at fq
          cases fq
        have n2 : q ≠ ld := by
          intro e
          rw [e, hus] at fq
          cases fq
        have hq5 : H5 q = some _ := k.but _ _ n1 n2 (s4 _ _ hq3)
        refine go_ret (gv_var (v := .ref q) 4) fun v H6 s6 n6 => hQ v H6 (sf5.trans s6) ?_ ⟨q, n6, (s1.trans s2).free fq, s6 _ _ hq5⟩
        obtain ⟨a, c, s0, l', sh', k1, k2, k3, k4⟩ := k.dk
        have ed : (Krdo.changed ⟨D, ps⟩ (datP p0 D xs rs)).d = datP p0 D xs rs := ch_d _ _
        have elen : (Krdo.changed ⟨D, ps⟩ (datP p0 D xs rs)).past.length ≤ 10 := by
          unfold Krdo.changed
          split
          · exact hl10
          · show ((D :: ps).take 10).length ≤ 10
            rw [List.length_take]
            omega
        refine ⟨dx, a, c, s0, l', sh', ?_, ?_, elen, k4, ?_⟩
        · rw [ed]
          exact k1.same s6
        · rw [ed]
          exact k2.same s6
        · rcases k3 with rfl | k3
          · exact hfl
          · exact (sf3.trans s4).free k3
end
end Sw
set_option Elab.async false
set_option linter.all false
set_option maxRecDepth 100000
set_option maxHeartbeats 2000000
set_option exponentiation.threshold 3000
namespace Sw
open PySem PySem.Spec PyProof.Rows L2 Kx
open Evl (given given_yes given_no given_len)
open Mt (W S swc pt)
section
variable {P : Program} {w : World} {K : PySem.W.Frag} {mg : Str → Option Value} {base : Heap} {C : Addr}
/-! ### the calls of the list -/
theorem shape_nat : ∀ p : Nat, p < 57 → PyKrdo.shape (p : Int) = some (nxP p, nrP p) := by decide +kernel
theorem nr_le : ∀ p : Nat, p < 57 → nrP p ≤ 1 := by decide +kernel
theorem nx_le : ∀ p : Nat, p < 57 → nxP p ≤ 4 := by decide +kernel
theorem shape_no {x : Int} (h : ¬ (0 ≤ x ∧ x < 57)) : PyKrdo.shape x = none := by
  unfold PyKrdo.shape
  iterate 57 rw [if_neg (by omega)]
theorem shape_of {x : Int} {n k : Nat} (h : PyKrdo.shape x = some (n, k)) : ∃ p : Nat, p < 57 ∧ x = (p : Int) ∧ n = nxP p ∧ k = nrP p := by
  by_cases z : 0 ≤ x ∧ x < 57
  · obtain ⟨p, rfl⟩ := Int.eq_ofNat_of_zero_le z.1
    have hp : p < 57 := by omega
    rw [shape_nat p hp] at h
    injection h with h
    injection h with h1 h2
    exact ⟨p, hp, rfl, h1.symm, h2.symm⟩
  · rw [shape_no z] at h
    cases h
theorem call_of {x : Int} {r : List Int} {c : List (List Int)} {t : List Int} (h : PyFlat.call PyKrdo.shape (x :: r) = some (c, t)) :
    ∃ (p : Nat) (rs : List (List Int)), p < 57 ∧ x = (p : Int) ∧ nxP p ≤ r.length ∧ c = ((p : Int) :: r.take (nxP p)) :: rs ∧ PyFlat.rows (nrP p) (r.drop (nxP p)) = some (rs, t) := by
  unfold PyFlat.call at h
  dsimp only at h
  cases hs : PyKrdo.shape x with
  | none => rw [hs] at h; cases h
  | some nk =>
    obtain ⟨n, k⟩ := nk
    rw [hs] at h
    dsimp only at h
    obtain ⟨p, hp, rfl, rfl, rfl⟩ := shape_of hs
    by_cases hl : r.length < nxP p
    · rw [if_pos hl] at h; cases h
    · rw [if_neg hl] at h
      cases hr : PyFlat.rows (nrP p) (r.drop (nxP p)) with
      | none => rw [hr] at h; cases h
      | some q =>
        obtain ⟨rs, t'⟩ := q
        rw [hr] at h
        dsimp only at h
        injection h with h
        injection h with h1 h2
        subst h1
        subst h2
        exact ⟨p, rs, hp, rfl, by omega, rfl, hr⟩
theorem rows_succ {k : Nat} {r : List Int} {rs : List (List Int)} {t : List Int} (h : PyFlat.rows (k + 1) r = some (rs, t)) :
    ∃ (m : Nat) (r' : List Int) (rs' : List (List Int)), r = (m : Int) :: r' ∧ m ≤ r'.length ∧ rs = r'.take m :: rs' ∧ PyFlat.rows k (r'.drop m) = some (rs', t) := by
  unfold PyFlat.rows at h
  cases r with
  | nil => cases h
  | cons n r' =>
    unfold PyFlat.row at h
    by_cases z : 0 ≤ n ∧ n.toNat ≤ r'.length
    · dsimp only at h
      rw [if_pos z] at h
      dsimp only at h
      cases hr : PyFlat.rows k (r'.drop n.toNat) with
      | none => rw [hr] at h; cases h
      | some q =>
        obtain ⟨xs, t'⟩ := q
        rw [hr] at h
        dsimp only at h
        injection h with h
        injection h with h1 h2
        subst h1
        subst h2
        exact ⟨n.toNat, r', xs, by rw [Int.toNat_of_nonneg z.1], z.2, rfl, hr⟩
    · dsimp only at h
      rw [if_neg z] at h
      cases h
theorem rows_zero {r : List Int} {rs : List (List Int)} {t : List Int} (h : PyFlat.rows 0 r = some (rs, t)) : rs = [] ∧ t = r := by
  unfold PyFlat.rows at h
  injection h with h
  injection h with h1 h2
  exact ⟨h1.symm, h2.symm⟩
theorem rows_len : ∀ {k : Nat} {r : List Int} {rs : List (List Int)} {t : List Int}, PyFlat.rows k r = some (rs, t) → rs.length = k
  | 0, _, _, _, h => by rw [(rows_zero h).1]; rfl
  | k + 1, _, _, _, h => by
    obtain ⟨m, r', rs', _, _, rfl, h2⟩ := rows_succ h
    rw [List.length_cons, rows_len h2]
theorem calls_cons {f : Nat} {x : Int} {r : List Int} {raw : List (List (List Int))} (h : PyFlat.calls PyKrdo.shape f (x :: r) = some raw) :
    ∃ (f' : Nat) (c : List (List Int)) (t : List Int) (rest : List (List (List Int))), f = f' + 1 ∧ PyFlat.call PyKrdo.shape (x :: r) = some (c, t) ∧ PyFlat.calls PyKrdo.shape f' t = some rest ∧ raw = c :: rest := by
  cases f with
  | zero => cases h
  | succ f' =>
    unfold PyFlat.calls at h
    cases hc : PyFlat.call PyKrdo.shape (x :: r) with
    | none => rw [hc] at h; cases h
    | some q =>
      obtain ⟨c, t⟩ := q
      rw [hc] at h
      dsimp only at h
      cases hr : PyFlat.calls PyKrdo.shape f' t with
      | none => rw [hr] at h; cases h
      | some rest =>
        rw [hr] at h
        dsimp only at h
        injection h with h
        exact ⟨f', c, t, rest, rfl, rfl, hr, h.symm⟩
theorem calls_nil {f : Nat} {raw : List (List (List Int))} (h : PyFlat.calls PyKrdo.shape f [] = some raw) : raw = [] := by
  cases f with
  | zero => unfold PyFlat.calls at h; injection h with h; exact h.symm
  | succ f' => unfold PyFlat.calls at h; injection h with h; exact h.symm
/-! ### CALLS -/
def callRow (p : Nat) : List V := [.str (nmP p), .int (nxP p : Nat), .int (nrP p : Nat)]
def callRowsV : List (List V) := (List.range 57).map callRow
section
variable {X : Cx} {σ : L2.St} {H : Hp} {e : Expr} {p0 pos : Pos}
theorem gv_calls1 (O : Tb X.K X.mg "CALLS" callRowsV) {p : Nat} (hp : p < 57) (hg : Gl X "CALLS" := by rfl) : ∃ a : Addr, (∀ H, SqT X.K H a (callRow p)) ∧ ∀ {σ : L2.St} {H : Hp} {e : Expr} {p0 pos : Pos}, PlainIx e → Gv (cE X e) σ H (.is (.int (p : Nat))) → Gv (cE X (.Subscript (.Name "CALLS" p0) e pos)) σ H (.is (.ref a)) := by
  obtain ⟨T, as, hm, hl, h⟩ := O.ex
  have hl : as.length = 57 := hl
  have ha : as[p]? = some (as[p]'(by omega)) := List.getElem?_eq_getElem (by omega)
  refine ⟨as[p]'(by omega), fun H => (h H).2 p _ (callRow p) ha (by unfold callRowsV; rw [List.getElem?_map, List.getElem?_range hp]; rfl), fun {σ H e p0 pos} hi g => gv_ixT (k := .is (.ref T)) (by exact gv_glo (v := .ref T) ⟨.ref T, hm, rfl⟩ hg (by decide)) (.old ((h H).1)) g (atI_nat ?_) hi⟩
  rw [List.getElem?_map, ha]; rfl
end
/-! ### the new part of a heap -/
def New (H H2 : Hp) : Hp := fun a => match H a with
  | none => H2 a
  | some _ => none
theorem new_of {H H2 : Hp} {a : Addr} (h : H a = none) : New H H2 a = H2 a := by
  unfold New
  rw [h]
theorem new_old {H H2 : Hp} {a : Addr} {u : HO} (h : H a = some u) : New H H2 a = none := by
  unfold New
  rw [h]
theorem new_le {H H2 : Hp} : Same (New H H2) H2 := fun a u q => by
  cases h : H a with
  | none => rw [new_of h] at q; exact q
  | some v => rw [new_old h] at q; cases q
theorem new_in {H H2 : Hp} {a q : Addr} {o : HO} (h : H a = none) (n : a ≠ q) (e : H2 a = some o) : del (New H H2) q a = some o := by
  rw [del_at n, new_of h]
  exact e
theorem new_mono {H H1 H2 : Hp} {q : Addr} (h : But q H1 H2) : Same (del (New H H1) q) (del (New H H2) q) := fun a u e => by
  by_cases n : a = q
  · rw [n, del_p] at e
    cases e
  · rw [del_at n] at e ⊢
    cases z : H a with
    | none =>
      rw [new_of z] at e ⊢
      exact h a u n e
    | some v => rw [new_old z] at e; cases e
/-- a call, cut out -/
def ItemAt (K : PySem.W.Frag) (H : Hp) (u : V) (c : List (List Int)) : Prop := ∃ (t g p : Nat) (xs : List Int) (rs : List (List Int)), u = V.ref t ∧ H t = some (.tup [.str (nmP p), .ref g]) ∧ Gn K H g xs rs ∧ p < 57 ∧ c = ((p : Int) :: xs) :: rs ∧ xs.length = nxP p ∧ rs.length = nrP p
theorem ItemAt.same {H H' : Hp} {u : V} {c : List (List Int)} (h : ItemAt K H u c) (s : Same H H') : ItemAt K H' u c := by
  obtain ⟨t, g, p, xs, rs, h1, h2, h3, h4⟩ := h
  exact ⟨t, g, p, xs, rs, h1, s _ _ h2, h3.same s, h4⟩
def spCut (K : PySem.W.Frag) : Sp := fun vs H Q _ => ∃ (q : Addr) (l : List Int) (raw : List (List (List Int))), vs = [.ref q] ∧ SqL K H q (l.map V.int) ∧ PyFlat.calls PyKrdo.shape l.length l = some raw ∧ raw.length ≤ 50 ∧
  ∀ (qf : Addr) (us : List V) (H2 : Hp), Same H H2 → H qf = none → H2 qf = some (.lst us) → Paired (ItemAt K (New H H2)) us raw → Q (.ref qf) H2
theorem cutV_nat (l : List Int) (a n : Nat) (h : a + n ≤ l.length) : cutV (l.map V.int) (some (a : Nat)) (some ((a + n : Nat) : Int)) = ((l.drop a).take n).map V.int := by
  unfold cutV
  have key : ∀ b : Nat, b ≤ l.length → ∀ d, HT.sIx (l.map V.int).length d (some (b : Int)) = b := by
    intro b hb d
    show (if ((b : Nat) : Int) < 0 then (((b : Nat) : Int) + ((l.map V.int).length : Int)).toNat else min ((b : Nat) : Int).toNat (l.map V.int).length) = _
    rw [if_neg (by omega), List.length_map, Int.toNat_natCast]
    omega
  rw [key a (by omega), key (a + n) h, List.map_take, List.map_drop]
  congr 1
  omega
theorem drop_get {l : List Int} {a : Nat} {x : Int} {r : List Int} (h : l.drop a = x :: r) : a < l.length ∧ (l.map V.int)[a]? = some (.int x) ∧ l.drop (a + 1) = r := by
  have h1 : a < l.length := by
    apply Classical.byContradiction
    intro z
    rw [List.drop_eq_nil_of_le (by omega)] at h
    cases h
  rw [List.drop_eq_getElem_cons h1] at h
  injection h with h2 h3
  exact ⟨h1, by rw [List.getElem?_map, List.getElem?_eq_getElem h1, h2]; rfl, h3⟩
theorem sc2 : FnScope ["calls", "found", "at", "name", "plain", "rows", "given", "row", "size"] ["calls"] (defScope (top 2)) := ⟨rfl, rfl, rfl, by decide +kernel, rfl, by decide +kernel, by decide +kernel⟩
def RowI (H0 H : Hp) (qf g : Addr) (u : V) (r : List Int) : Prop := ∃ b, u = V.ref b ∧ b ≠ qf ∧ b ≠ g ∧ H0 b = none ∧ H b = some (.lst (r.map V.int))
theorem c_cut (B : Bl mg) (O : Tb K mg "CALLS" callRowsV) (Df : DefAt K mg "cut" (top 2)) : Cal P w K mg base 1 "cut" (spCut K) := by
  refine cal_of (ps := ["calls"]) Df sc2 (fun _ _ _ _ _ _ us hl => match us, hl with | [_], _ => rfl) (fun vs H Q E ⟨_, _, _, e, _⟩ => by rw [e]; rfl) fun f cdv A outer s H vs Q E hr ⟨q, l, raw, e, hq, hc, h50, hQ⟩ => ?_
  subst e
  refine go_run ?_
  refine go_setO 1 sc2.nd (gv_lst (vs := []) ga_nil (Nat.le_of_ble_eq_true rfl)) fun qf H1 fq s1 hf => ?_
  refine go_setV 2 sc2.nd gv_int ?_
  refine go_while PassesOwn.never (fun m σ' H' => ∃ (a fu : Nat) (dn rest : List (List (List Int))) (us : List V) (z3 z4 z5 z6 z7 z8 : Option V), m = l.length - a ∧ a ≤ l.length ∧ PyFlat.calls PyKrdo.shape fu (l.drop a) = some rest ∧ raw = dn ++ rest ∧ Same H H' ∧ H' qf = some (.lst us) ∧ Paired (ItemAt K (del (New H H') qf)) us dn ∧ σ' = [some (.ref q), some (.ref qf), some (.int (a : Nat)), z3, z4, z5, z6, z7, z8]) l.length ⟨0, l.length, [], raw, [], none, none, none, none, none, none, rfl, Nat.zero_le _, hc, rfl, s1, hf, .nil, rfl⟩ ?_
  rintro m σ' Hx ⟨a, fu, dn, rest, us, z3, z4, z5, z6, z7, z8, rfl, ha, hcl, hraw, sH, hqf, hit, rfl⟩
  have hul : us.length = dn.length := Paired.length hit
  have hrl : raw.length = dn.length + rest.length := by rw [hraw, List.length_append]
  refine ⟨decide (a < l.length), Gt.to (gt_lt (gv_var 2) (gv_lenL B (gv_var 0) (.old (same_l sH hq)))) ?_, fun h => ?_, fun h => ?_⟩
  · rw [List.length_map]
    exact dlt _ _
  · have hlt : a < l.length := of_decide_eq_true h
    have hxr := List.drop_eq_getElem_cons hlt
    generalize l[a] = x at hxr
    generalize hre : l.drop (a + 1) = r at hxr
    rw [hxr] at hcl
    obtain ⟨fu', c, t, rest', rfl, h1, h2, rfl⟩ := calls_cons hcl
    obtain ⟨p, rs, hp, rfl, hnx, rfl, hrs⟩ := call_of h1
    obtain ⟨_, hga, _⟩ := drop_get hxr
    have hrl2 : r.length = l.length - (a + 1) := by rw [← hre, List.length_drop]
    have hx4 := nx_le p hp
    have hr1 := nr_le p hp
    have hrsl := rows_len hrs
    obtain ⟨ar, har, gar⟩ := gv_calls1 (X := Bd P w K mg base ["calls", "found", "at", "name", "plain", "rows", "given", "row", "size"] (top 2) f cdv A outer s H E) O hp
    refine go_asg (pg_tup (n := 3) rfl (pgs_cons (pg_name (i := 3) sc2.nd rfl (Or.inl rfl)) (pgs_cons (pg_name (i := 4) sc2.nd rfl (Or.inl rfl)) (pgs_cons (pg_name (i := 5) sc2.nd rfl (Or.inl rfl)) pgs_nil)))) (gar (by exact fun _ _ => rfl) (gv_ixL (gv_var 0) (.old (same_l sH hq)) (gv_var 2) (atI_nat hga))) fun w0 H2 s2 n2 => ?_
    obtain rfl : w0 = .ref ar := n2
    refine ⟨_, fun Qg q => t3_go (har H2) q, ?_⟩
    refine go_setV (v := .int ((a + 1 : Nat) : Int)) 2 sc2.nd (gv_addN (m := a) (n := 1) (gv_var 2) gv_int) ?_
    refine go_setO 6 sc2.nd (gv_sliceLH (i := ((a + 1 : Nat) : Int)) (j := ((a + 1 + nxP p : Nat) : Int)) (gv_var 0) (same_l (sH.trans s2) hq) (gv_var 2) (gv_addN (gv_var 2) (gv_var 4))) fun g H3 fg s3 hg => ?_
    rw [cutV_nat _ _ _ (by omega), hre] at hg
    refine go_setV (v := .int ((a + 1 + nxP p : Nat) : Int)) 2 sc2.nd (gv_addN (gv_var 2) (gv_var 4)) ?_
    have s13 : Same Hx H3 := s2.trans s3
    have fgx : Hx g = none := s2.free fg
    have ngf : g ≠ qf := by
      intro e
      rw [e, hqf] at fgx
      cases fgx
    refine go_forR (n := (nrP p : Int)) 7 rfl sc2.nd B.range (gv_var 5) (by omega) (fun i σ' H' => ∃ (b : Nat) (rv : List V) (r1 r2 : List (List Int)) (z7 z8 : Option V), Same Hx H' ∧ b ≤ l.length ∧ a < b ∧ H' g = some (.lst (((r.take (nxP p)).map V.int) ++ rv)) ∧ rs = r1 ++ r2 ∧ Paired (RowI H H' qf g) rv r1 ∧ PyFlat.rows (nrP p - i) (l.drop b) = some (r2, t) ∧
      σ' = [some (.ref q), some (.ref qf), some (.int (b : Nat)), some (.str (nmP p)), some (.int (nxP p : Nat)), some (.int (nrP p : Nat)), some (.ref g), z7, z8]) ⟨a + 1 + nxP p, [], [], rs, z7, z8, s13, by omega, by omega, by rw [List.append_nil]; exact hg, rfl, .nil, ?_, rfl⟩ ?_ ?_ PassesOwn.never
    · rw [Nat.sub_zero, ← List.drop_drop, hre]
      exact hrs
    · rintro i σ' H' hi ⟨b, rv, r1, r2, y7, y8, sX, hb, hab, hgx, hrs2, hpr, hrw, rfl⟩
      obtain ⟨k, hk⟩ : ∃ k, nrP p - i = k + 1 := ⟨nrP p - i - 1, by omega⟩
      rw [hk] at hrw
      obtain ⟨mm, r', rs', hd, hm, rfl, hrw2⟩ := rows_succ hrw
      obtain ⟨hbl, hgb, hd1⟩ := drop_get hd
      have hr'l : r'.length = l.length - (b + 1) := by rw [← hd1, List.length_drop]
      have hrvl : rv.length = r1.length := Paired.length hpr
      have hr1l : r1.length ≤ 1 := by
        have := hrsl
        rw [hrs2, List.length_append] at this
        omega
      have hql := same_l (sH.trans sX) hq
      refine go_setV (v := .int (mm : Nat)) 8 sc2.nd (gv_ixL (gv_var 0) (.old hql) (gv_var 2) (atI_nat hgb)) ?_
      refine go_setV (v := .int ((b + 1 : Nat) : Int)) 2 sc2.nd (gv_addN (m := b) (n := 1) (gv_var 2) gv_int) ?_
      refine go_app (gv_var 6) hgx (by rw [List.length_append, List.length_map, List.length_take]; omega) (gv_sliceLH (i := ((b + 1 : Nat) : Int)) (j := ((b + 1 + mm : Nat) : Int)) (gv_var 0) hql (gv_var 2) (gv_addN (gv_var 2) (gv_var 8))) fun w1 H4 s4 ⟨b1, ew, fb, hb1⟩ => ?_
      subst ew
      rw [cutV_nat _ _ _ (by omega), hd1] at hb1
      have nbg : b1 ≠ g := by
        intro e
        rw [e, hgx] at fb
        cases fb
      have nbf : b1 ≠ qf := by
        intro e
        rw [e, sX _ _ hqf] at fb
        cases fb
      refine go_setV (v := .int ((b + 1 + mm : Nat) : Int)) 2 sc2.nd (gv_addN (gv_var 2) (gv_var 8)) (go_thru ⟨b + 1 + mm, rv ++ [.ref b1], r1 ++ [r'.take mm], rs', _, _, same_mut (sX.trans s4) fgx, by omega, by omega, ?_, ?_, ?_, ?_, rfl⟩)
      · rw [upd_same, List.append_assoc]
      · rw [hrs2, List.append_assoc]
        rfl
      · refine Paired.snoc (Paired.mapP hpr fun u r ⟨b0, e, n1, n2, f0, hb0⟩ => ⟨b0, e, n1, n2, f0, by rw [upd_ne n2]; exact s4 _ _ hb0⟩) ⟨b1, rfl, nbf, nbg, (sH.trans sX).free fb, by rw [upd_ne nbg]; exact hb1⟩
      · have ek : nrP p - (i + 1) = k := by omega
        rw [ek, ← List.drop_drop, hd1]
        exact hrw2
    · rintro σ' H' ⟨b, rv, r1, r2, y7, y8, sX, hb, hab, hgx, hrs2, hpr, hrw, rfl⟩
      have ez : nrP p - (nrP p : Int).toNat = 0 := by omega
      rw [ez] at hrw
      obtain ⟨e1, e2⟩ := rows_zero hrw
      subst e1
      subst e2
      rw [List.append_nil] at hrs2
      subst hrs2
      refine go_app (gv_var 1) (sX _ _ hqf) (by omega) (gv_tup (vs := [.str (nmP p), .ref g]) (ga_cons (gv_var 3) (ga_cons (gv_var 6) ga_nil)) (Nat.le_of_ble_eq_true rfl)) fun w1 H4 s4 ⟨t1, ew, ft, ht⟩ => ?_
      subst ew
      have ntf : t1 ≠ qf := by
        intro e
        rw [e, sX _ _ hqf] at ft
        cases ft
      have bx : But qf Hx (upd H4 qf (.lst (us ++ [.ref t1]))) := (But.of (sX.trans s4)).upd_
      refine go_thru ⟨l.length - b, by omega, b, fu', dn ++ [((p : Int) :: r.take (nxP p)) :: rs], rest', us ++ [.ref t1], _, _, _, _, _, _, rfl, hb, h2, ?_, same_mut ((sH.trans sX).trans s4) fq, upd_same, ?_, rfl⟩
      · rw [hraw, List.append_assoc]
        rfl
      · refine Paired.snoc (Paired.mapP hit fun u c h => h.same (new_mono bx)) ⟨t1, g, p, r.take (nxP p), rs, rfl, new_in ((sH.trans sX).free ft) ntf (by rw [upd_ne ntf]; exact ht), ⟨rv, SqL.of (new_in (sH.free fgx) ngf (by rw [upd_ne ngf]; exact s4 _ _ hgx)), Paired.mapP hpr fun u r ⟨b0, e, n1, n2, f0, hb0⟩ => ⟨b0, e, SqL.of (new_in f0 n1 (by rw [upd_ne n1]; exact s4 _ _ hb0))⟩⟩, hp, rfl, ?_, hrsl⟩
        rw [List.length_take]
        omega
  · have hal : a = l.length := by
      have := of_decide_eq_false h
      omega
    rw [hal, List.drop_length] at hcl
    have := calls_nil hcl
    subst this
    rw [List.append_nil] at hraw
    subst hraw
    refine go_ret (gv_var (v := .ref qf) 1) fun v H2 s2 n2 => ?_
    obtain rfl : v = .ref qf := n2
    exact hQ qf us H2 (sH.trans s2) fq (s2 _ _ hqf) (Paired.mapP hit fun u c h => h.same ((new_mono (But.of s2)).trans del_le))
end
end Sw
set_option Elab.async false
set_option linter.all false
set_option maxRecDepth 100000
set_option maxHeartbeats 2000000
set_option exponentiation.threshold 3000
namespace Sw
open PySem PySem.Spec PyProof.Rows L2 Kx
open Evl (given given_yes given_no given_len)
open Mt (W S swc pt)
section
variable {P : Program} {w : World} {K : PySem.W.Frag} {mg : Str → Option Value} {base : Heap} {C : Addr}
/-! ### a new desk -/
theorem scI : FnScope ["self"] ["self"] (defScope sInit) := ⟨rfl, rfl, rfl, by decide +kernel, rfl, by decide +kernel, by decide +kernel⟩
def spInit (C : Addr) : Sp := fun vs H Q _ => ∃ x dx : Addr, vs = [.ref x] ∧ H x = some (.ins C dx []) ∧ ∀ (H2 : Hp) (v2 v3 v4 v5 : V), But x H H2 → H2 x = some (.ins C dx (dG (.int 0) v2 v3 v4 v5)) → Q .non H2
abbrev dH1 (a : V) : List (Str × V) := [("bits", a)]
abbrev dH2 (a b : V) : List (Str × V) := [("bits", a), ("says", b)]
abbrev dH3 (a b c : V) : List (Str × V) := [("bits", a), ("says", b), ("chance", c)]
abbrev dH4 (a b c d : V) : List (Str × V) := [("bits", a), ("says", b), ("chance", c), ("shelf", d)]
theorem putI2 {a v : V} : putF "says" v (dH1 a) = dH2 a v := by
  rw [putF, if_neg (by decide +kernel), putF]
theorem putI3 {a b v : V} : putF "chance" v (dH2 a b) = dH3 a b v := by
  rw [putF, if_neg (by decide +kernel), putF, if_neg (by decide +kernel), putF]
theorem putI4 {a b c v : V} : putF "shelf" v (dH3 a b c) = dH4 a b c v := by
  rw [putF, if_neg (by decide +kernel), putF, if_neg (by decide +kernel), putF, if_neg (by decide +kernel), putF]
theorem putI5 {a b c d v : V} : putF "past" v (dH4 a b c d) = dG a b c d v := by
  rw [putF, if_neg (by decide +kernel), putF, if_neg (by decide +kernel), putF, if_neg (by decide +kernel), putF, if_neg (by decide +kernel), putF]
  rfl
theorem ok_init {f : Addr} {fd : FuncData} (T : ClD K C) (F : FunD K "__init__" "Desk.__init__" (defArgs sInit) (defBody sInit) (defScope sInit) [] [] f fd) : FnOk P w K mg base CX0 1 f fd ["self"] (spInit C) := by
  refine F.ok scI (fun vs H Q E ⟨_, _, e, _⟩ => by rw [e]; rfl) fun cdv A outer s H vs Q E hr ⟨x, dx, e, hx, hQ⟩ => ⟨_, PSs.nox pss_, ?_⟩
  subst e
  refine go_run ?_
  refine go_fld (gv_var 0) hx T.cl T.n1 (by show 0 < 1000; decide) gv_int fun w1 H1 s1 n1 => ?_
  obtain rfl : w1 = .int 0 := n1
  have b1 : But x H (upd H1 x (.ins C dx (dH1 (.int 0)))) := (But.of s1).upd_
  have i1 : upd H1 x (.ins C dx (dH1 (.int 0))) x = some (.ins C dx (dH1 (.int 0))) := upd_same
  rw [show putF "bits" (.int 0) [] = dH1 (.int 0) from rfl]
  generalize upd H1 x (.ins C dx (dH1 (.int 0))) = G1 at b1 i1 ⊢
  refine go_fld (gv_var 0) i1 T.cl T.n2 (by show 1 < 1000; decide) (gv_tup (vs := []) ga_nil (Nat.le_of_ble_eq_true rfl)) fun w2 H2 s2 n2 => ?_
  rw [putI2]
  have b2 : But x H (upd H2 x (.ins C dx (dH2 (.int 0) w2))) := (b1.then_ s2).upd_
  have i2 : upd H2 x (.ins C dx (dH2 (.int 0) w2)) x = some (.ins C dx (dH2 (.int 0) w2)) := upd_same
  generalize upd H2 x (.ins C dx (dH2 (.int 0) w2)) = G2 at b2 i2 ⊢
  refine go_fld (gv_var 0) i2 T.cl T.n3 (by show 2 < 1000; decide) (gv_tup (vs := []) ga_nil (Nat.le_of_ble_eq_true rfl)) fun w3 H3 s3 n3 => ?_
  rw [putI3]
  have b3 : But x H (upd H3 x (.ins C dx (dH3 (.int 0) w2 w3))) := (b2.then_ s3).upd_
  have i3 : upd H3 x (.ins C dx (dH3 (.int 0) w2 w3)) x = some (.ins C dx (dH3 (.int 0) w2 w3)) := upd_same
  generalize upd H3 x (.ins C dx (dH3 (.int 0) w2 w3)) = G3 at b3 i3 ⊢
  refine go_fld (gv_var 0) i3 T.cl T.n4 (by show 3 < 1000; decide) (gv_tup (vs := []) ga_nil (Nat.le_of_ble_eq_true rfl)) fun w4 H4 s4 n4 => ?_
  rw [putI4]
  have b4 : But x H (upd H4 x (.ins C dx (dH4 (.int 0) w2 w3 w4))) := (b3.then_ s4).upd_
  have i4 : upd H4 x (.ins C dx (dH4 (.int 0) w2 w3 w4)) x = some (.ins C dx (dH4 (.int 0) w2 w3 w4)) := upd_same
  generalize upd H4 x (.ins C dx (dH4 (.int 0) w2 w3 w4)) = G4 at b4 i4 ⊢
  refine go_fld (gv_var 0) i4 T.cl T.n5 (by show 4 < 1000; decide) (gv_lst (vs := []) ga_nil (Nat.le_of_ble_eq_true rfl)) fun w5 H5 s5 n5 => ?_
  rw [putI5]
  exact go_nil fun H6 s6 => hQ H6 w2 w3 w4 w5 ((b4.then_ s5).upd_.then_ s6) (s6 _ _ upd_same)
section
variable {X : Cx} {σ : L2.St} {H H' : Hp} {D : Ends} {e : Expr} {es : List Expr} {body rest : List Stmt} {pos p cp xp px py tp : Pos} {x y f : Str}
/-- x = C() -/
theorem go_mk {C fi : Addr} {fdi : FuncData} {sp : Sp} {k : Nat} (i : Nat) (hN : X.N.Nodup) (M : Mk X.K C fi) (F : FnOk X.prog X.w X.K X.mg X.base CX0 k fi fdi ["self"] sp) (hr : Room (k + 1) X.A) (hm : X.mg f = some (.ref C)) (hb : Binds X.K fdi ["self"] [])
    (h : ∀ H1, Same H H1 → ∀ x dx : Addr, H1 x = none → H1 dx = none → dx ≠ x → sp [.ref x] (upd (upd H1 dx (.own x)) x (.ins C dx [])) (fun v H2 => v = .non ∧ cSs X rest D (σ.set i (some (.ref x))) H2) E0)
    (hg : Gl X f := by rfl) (hdb : (f == ("__debug__" : Str)) = false := by decide) (hi : X.N[i]? = some x := by rfl) (hx : Loc X.env.scope x := by first | exact Or.inl rfl | exact Or.inr rfl)
    (hs : swapsWithSole [.Name x xp] (.Call (.Name f p) [] [] cp) pos.line X.env = pure false := by rfl) (hw : swappedStores [.Name x xp] (.Call (.Name f p) [] [] cp) X.env = pure none := by rfl) (h1 : (assignEach [.Name x xp] X.env).map (·.2) = [assign (.Name x xp) X.env] := by rfl)
    (hf : X.fn x = true ∨ X.env.scope.names.lookup x = some .local := by first | exact .inl rfl | exact .inr rfl) :
    Go D (cSs X (.Assign [.Name x xp] (.Call (.Name f p) [] [] cp) pos :: rest)) σ H := fun H1 s =>
  cSs_of (pss_cons (ps_asg (pe_make0 M F hr hg hm hb .nil pass0 hdb) (pg_name (i := i) hN hi hx hf) hs hw h1) pss_) fun x dx nx nd ne => h H1 s x dx nx nd ne
/-- for x, y in f(e, ..) -/
theorem go_forC {ks : List Kd} {sp : Sp} {m j kt : Nat} (i0 j0 : Nat) (c : Cal X.prog X.w X.K X.mg X.base m f sp) (hr : Room j X.A) (hk : m ≤ j) (hcm : X.calm = true) (ha : Ga (cA X (e :: es)) σ H ks) (n : Nat)
    (h : ∀ vs H1 (Q : VK) (E : XK), Same H H1 → KsAt ks vs H1 → (∀ (a : Addr) (xs : List V) (H2 : Hp) (W : Nat → L2.St → Hp → Prop), xs.length = n → SqL X.K H2 a xs → W 0 σ H2 → (∀ i σ' H', W i σ' H' → SqL X.K H' a xs) →
      (∀ i v σ' H', xs[i]? = some v → W i σ' H' → ∃ u x t, v = .ref t ∧ SqT X.K H' t [u, x] ∧ Go (thru D (W (i + 1))) (cSs X body) ((σ'.set i0 (some u)).set j0 (some x)) H') →
      (∀ σ' H', W n σ' H' → Go D (cSs X rest) σ' H') → Q (.ref a) H2) → sp vs H1 Q E)
    (hgt : PG X (.Tuple [.Name x px, .Name y py] kt tp) (g2 X.K i0 j0)) (hp : PassesOwn (model X.prog X.w) X.A X.env X.xe)
    (hg : Gl X f := by rfl) (hdb : (f == ("__debug__" : Str)) = false := by decide) (he : starEach (e :: es) X.env = (false, eval e X.env) :: starEach es X.env := by rfl) (hpl : (backTo cp (starEach es X.env)).any (·.1) = false := by rfl)
    (hfs : ∀ z, foldedSetIterable (.Call (.Name f p) (e :: es) [] cp) X.env z = pure z := by intro _; rfl) :
    Go D (cSs X (.For (.Tuple [.Name x px, .Name y py] kt tp) (.Call (.Name f p) (e :: es) [] cp) body [] pos :: rest)) σ H := by
  obtain ⟨fa, fd, ps, F, hm, kp, b⟩ := c.ex
  refine go_forW (n := n) hcm (pi_list (pe_call F (hr.mono hk) hg hm kp b .nil pass0 pa_ hdb he hpl)) hgt (fun H1 s R q => ha H1 s _ fun vs H2 s2 z => ?_) hp hfs
  show sp (vs ++ []) H2 _ E0
  rw [List.append_nil]
  refine h vs H2 _ E0 (s.trans s2) z fun a xs H3 W hn hL w0 wk wb wd => ?_
  subst hn
  exact ⟨a, rfl, ⟨xs, hL⟩, q (Itl X.K a) H3 _ _ W (walk_list (xs := xs)) ⟨H3, w0, Same.refl _⟩ (fun i σ' H' hin w H4 s4 => same_l s4 (wk i σ' H' w)) (fun i z σ' H' H4 H5 hin w sb y => by
    obtain ⟨rfl, hxi⟩ := y
    obtain ⟨u, x, t, rfl, ht, go⟩ := wb i z σ' H' hxi w
    exact ⟨_, Same.refl _, fun Qg q => t2_go (same_t sb ht) q, go⟩) wd⟩
end
/-! ### what is asked -/
theorem whole_ok : ∀ (p : Nat) (xs : List Int) (rs : List (List Int)), p < 57 → xs.length = nxP p → rs.length = nrP p → PyKrdo.whole (((p : Int) :: xs) :: rs) = ((p : Int) :: xs) :: rs
  | 0, xs, rs, _, hx, hr => by
    have hx : xs.length = 1 := hx
    have hr : rs.length = 0 := hr
    match xs, hx, rs, hr with
    | [x0], _, [], _ => rfl
  | 1, xs, rs, _, hx, hr => by
    have hx : xs.length = 0 := hx
    have hr : rs.length = 1 := hr
    match xs, hx, rs, hr with
    | [], _, [r0], _ => rfl
  | 2, xs, rs, _, hx, hr => by
    have hx : xs.length = 1 := hx
    have hr : rs.length = 1 := hr
    match xs, hx, rs, hr with
    | [x0], _, [r0], _ => rfl
  | 3, xs, rs, _, hx, hr => by
    have hx : xs.length = 1 := hx
    have hr : rs.length = 0 := hr
    match xs, hx, rs, hr with
    | [x0], _, [], _ => rfl
  | 4, xs, rs, _, hx, hr => by
    have hx : xs.length = 1 := hx
    have hr : rs.length = 0 := hr
    match xs, hx, rs, hr with
    | [x0], _, [], _ => rfl
  | 5, xs, rs, _, hx, hr => by
    have hx : xs.length = 0 := hx
    have hr : rs.length = 0 := hr
    match xs, hx, rs, hr with
    | [], _, [], _ => rfl
  | 6, xs, rs, _, hx, hr => by
    have hx : xs.length = 1 := hx
    have hr : rs.length = 0 := hr
    match xs, hx, rs, hr with
    | [x0], _, [], _ => rfl
  | 7, xs, rs, _, hx, hr => by
    have hx : xs.length = 2 := hx
    have hr : rs.length = 0 := hr
    match xs, hx, rs, hr with
    | [x0, x1], _, [], _ => rfl
  | 8, xs, rs, _, hx, hr => by
    have hx : xs.length = 1 := hx
    have hr : rs.length = 0 := hr
    match xs, hx, rs, hr with
    | [x0], _, [], _ => rfl
  | 9, xs, rs, _, hx, hr => by
    have hx : xs.length = 0 := hx
    have hr : rs.length = 0 := hr
    match xs, hx, rs, hr with
    | [], _, [], _ => rfl
  | 10, xs, rs, _, hx, hr => by
    have hx : xs.length = 1 := hx
    have hr : rs.length = 0 := hr
    match xs, hx, rs, hr with
    | [x0], _, [], _ => rfl
  | 11, xs, rs, _, hx, hr => by
    have hx : xs.length = 0 := hx
    have hr : rs.length = 0 := hr
    match xs, hx, rs, hr with
    | [], _, [], _ => rfl
  | 12, xs, rs, _, hx, hr => by
    have hx : xs.length = 0 := hx
    have hr : rs.length = 0 := hr
    match xs, hx, rs, hr with
    | [], _, [], _ => rfl
  | 13, xs, rs, _, hx, hr => by
    have hx : xs.length = 1 := hx
    have hr : rs.length = 0 := hr
    match xs, hx, rs, hr with
    | [x0], _, [], _ => rfl
  | 14, xs, rs, _, hx, hr => by
    have hx : xs.length = 0 := hx
    have hr : rs.length = 0 := hr
    match xs, hx, rs, hr with
    | [], _, [], _ => rfl
  | 15, xs, rs, _, hx, hr => by
    have hx : xs.length = 0 := hx
    have hr : rs.length = 0 := hr
    match xs, hx, rs, hr with
    | [], _, [], _ => rfl
  | 16, xs, rs, _, hx, hr => by
    have hx : xs.length = 0 := hx
    have hr : rs.length = 0 := hr
    match xs, hx, rs, hr with
    | [], _, [], _ => rfl
  | 17, xs, rs, _, hx, hr => by
    have hx : xs.length = 0 := hx
    have hr : rs.length = 0 := hr
    match xs, hx, rs, hr with
    | [], _, [], _ => rfl
  | 18, xs, rs, _, hx, hr => by
    have hx : xs.length = 0 := hx
    have hr : rs.length = 0 := hr
    match xs, hx, rs, hr with
    | [], _, [], _ => rfl
  | 19, xs, rs, _, hx, hr => by
    have hx : xs.length = 0 := hx
    have hr : rs.length = 0 := hr
    match xs, hx, rs, hr with
    | [], _, [], _ => rfl
  | 20, xs, rs, _, hx, hr => by
    have hx : xs.length = 0 := hx
    have hr : rs.length = 0 := hr
    match xs, hx, rs, hr with
    | [], _, [], _ => rfl
  | 21, xs, rs, _, hx, hr => by
    have hx : xs.length = 0 := hx
    have hr : rs.length = 0 := hr
    match xs, hx, rs, hr with
    | [], _, [], _ => rfl
  | 22, xs, rs, _, hx, hr => by
    have hx : xs.length = 2 := hx
    have hr : rs.length = 0 := hr
    match xs, hx, rs, hr with
    | [x0, x1], _, [], _ => rfl
  | 23, xs, rs, _, hx, hr => by
    have hx : xs.length = 2 := hx
    have hr : rs.length = 0 := hr
    match xs, hx, rs, hr with
    | [x0, x1], _, [], _ => rfl
  | 24, xs, rs, _, hx, hr => by
    have hx : xs.length = 1 := hx
    have hr : rs.length = 0 := hr
    match xs, hx, rs, hr with
    | [x0], _, [], _ => rfl
  | 25, xs, rs, _, hx, hr => by
    have hx : xs.length = 0 := hx
    have hr : rs.length = 0 := hr
    match xs, hx, rs, hr with
    | [], _, [], _ => rfl
  | 26, xs, rs, _, hx, hr => by
    have hx : xs.length = 0 := hx
    have hr : rs.length = 0 := hr
    match xs, hx, rs, hr with
    | [], _, [], _ => rfl
  | 27, xs, rs, _, hx, hr => by
    have hx : xs.length = 0 := hx
    have hr : rs.length = 0 := hr
    match xs, hx, rs, hr with
    | [], _, [], _ => rfl
  | 28, xs, rs, _, hx, hr => by
    have hx : xs.length = 2 := hx
    have hr : rs.length = 0 := hr
    match xs, hx, rs, hr with
    | [x0, x1], _, [], _ => rfl
  | 29, xs, rs, _, hx, hr => by
    have hx : xs.length = 0 := hx
    have hr : rs.length = 1 := hr
    match xs, hx, rs, hr with
    | [], _, [r0], _ => rfl
  | 30, xs, rs, _, hx, hr => by
    have hx : xs.length = 0 := hx
    have hr : rs.length = 1 := hr
    match xs, hx, rs, hr with
    | [], _, [r0], _ => rfl
  | 31, xs, rs, _, hx, hr => by
    have hx : xs.length = 0 := hx
    have hr : rs.length = 1 := hr
    match xs, hx, rs, hr with
    | [], _, [r0], _ => rfl
  | 32, xs, rs, _, hx, hr => by
    have hx : xs.length = 0 := hx
    have hr : rs.length = 0 := hr
    match xs, hx, rs, hr with
    | [], _, [], _ => rfl
  | 33, xs, rs, _, hx, hr => by
    have hx : xs.length = 0 := hx
    have hr : rs.length = 0 := hr
    match xs, hx, rs, hr with
    | [], _, [], _ => rfl
  | 34, xs, rs, _, hx, hr => by
    have hx : xs.length = 0 := hx
    have hr : rs.length = 0 := hr
    match xs, hx, rs, hr with
    | [], _, [], _ => rfl
  | 35, xs, rs, _, hx, hr => by
    have hx : xs.length = 0 := hx
    have hr : rs.length = 0 := hr
    match xs, hx, rs, hr with
    | [], _, [], _ => rfl
  | 36, xs, rs, _, hx, hr => by
    have hx : xs.length = 0 := hx
    have hr : rs.length = 0 := hr
    match xs, hx, rs, hr with
    | [], _, [], _ => rfl
  | 37, xs, rs, _, hx, hr => by
    have hx : xs.length = 0 := hx
    have hr : rs.length = 0 := hr
    match xs, hx, rs, hr with
    | [], _, [], _ => rfl
  | 38, xs, rs, _, hx, hr => by
    have hx : xs.length = 0 := hx
    have hr : rs.length = 0 := hr
    match xs, hx, rs, hr with
    | [], _, [], _ => rfl
  | 39, xs, rs, _, hx, hr => by
    have hx : xs.length = 1 := hx
    have hr : rs.length = 0 := hr
    match xs, hx, rs, hr with
    | [x0], _, [], _ => rfl
  | 40, xs, rs, _, hx, hr => by
    have hx : xs.length = 2 := hx
    have hr : rs.length = 0 := hr
    match xs, hx, rs, hr with
    | [x0, x1], _, [], _ => rfl
  | 41, xs, rs, _, hx, hr => by
    have hx : xs.length = 3 := hx
    have hr : rs.length = 0 := hr
    match xs, hx, rs, hr with
    | [x0, x1, x2], _, [], _ => rfl
  | 42, xs, rs, _, hx, hr => by
    have hx : xs.length = 2 := hx
    have hr : rs.length = 0 := hr
    match xs, hx, rs, hr with
    | [x0, x1], _, [], _ => rfl
  | 43, xs, rs, _, hx, hr => by
    have hx : xs.length = 0 := hx
    have hr : rs.length = 0 := hr
    match xs, hx, rs, hr with
    | [], _, [], _ => rfl
  | 44, xs, rs, _, hx, hr => by
    have hx : xs.length = 1 := hx
    have hr : rs.length = 0 := hr
    match xs, hx, rs, hr with
    | [x0], _, [], _ => rfl
  | 45, xs, rs, _, hx, hr => by
    have hx : xs.length = 4 := hx
    have hr : rs.length = 0 := hr
    match xs, hx, rs, hr with
    | [x0, x1, x2, x3], _, [], _ => rfl
  | 46, xs, rs, _, hx, hr => by
    have hx : xs.length = 3 := hx
    have hr : rs.length = 0 := hr
    match xs, hx, rs, hr with
    | [x0, x1, x2], _, [], _ => rfl
  | 47, xs, rs, _, hx, hr => by
    have hx : xs.length = 1 := hx
    have hr : rs.length = 0 := hr
    match xs, hx, rs, hr with
    | [x0], _, [], _ => rfl
  | 48, xs, rs, _, hx, hr => by
    have hx : xs.length = 1 := hx
    have hr : rs.length = 0 := hr
    match xs, hx, rs, hr with
    | [x0], _, [], _ => rfl
  | 49, xs, rs, _, hx, hr => by
    have hx : xs.length = 1 := hx
    have hr : rs.length = 0 := hr
    match xs, hx, rs, hr with
    | [x0], _, [], _ => rfl
  | 50, xs, rs, _, hx, hr => by
    have hx : xs.length = 1 := hx
    have hr : rs.length = 0 := hr
    match xs, hx, rs, hr with
    | [x0], _, [], _ => rfl
  | 51, xs, rs, _, hx, hr => by
    have hx : xs.length = 2 := hx
    have hr : rs.length = 0 := hr
    match xs, hx, rs, hr with
    | [x0, x1], _, [], _ => rfl
  | 52, xs, rs, _, hx, hr => by
    have hx : xs.length = 1 := hx
    have hr : rs.length = 0 := hr
    match xs, hx, rs, hr with
    | [x0], _, [], _ => rfl
  | 53, xs, rs, _, hx, hr => by
    have hx : xs.length = 2 := hx
    have hr : rs.length = 0 := hr
    match xs, hx, rs, hr with
    | [x0, x1], _, [], _ => rfl
  | 54, xs, rs, _, hx, hr => by
    have hx : xs.length = 1 := hx
    have hr : rs.length = 0 := hr
    match xs, hx, rs, hr with
    | [x0], _, [], _ => rfl
  | 55, xs, rs, _, hx, hr => by
    have hx : xs.length = 0 := hx
    have hr : rs.length = 0 := hr
    match xs, hx, rs, hr with
    | [], _, [], _ => rfl
  | 56, xs, rs, _, hx, hr => by
    have hx : xs.length = 0 := hx
    have hr : rs.length = 0 := hr
    match xs, hx, rs, hr with
    | [], _, [], _ => rfl
  | p + 57, _, _, h, _, _ => absurd h (by omega)
theorem calls_shape : ∀ {f : Nat} {l : List Int} {raw : List (List (List Int))}, PyFlat.calls PyKrdo.shape f l = some raw → raw.map PyKrdo.whole = raw
  | f, [], _, h => by
    obtain rfl := calls_nil h
    rfl
  | f, x :: r, raw, h => by
    obtain ⟨f', c, t, rest, e, h1, h2, rfl⟩ := calls_cons h
    subst e
    obtain ⟨p, rs, hp, rfl, hn, rfl, hr⟩ := call_of h1
    rw [List.map_cons, calls_shape h2, whole_ok p _ _ hp (by rw [List.length_take]; omega) (rows_len hr)]
theorem answers_of {l : List Int} {raw : List (List (List Int))} (h : PyFlat.calls PyKrdo.shape l.length l = some raw) : PyKrdo.answers l = PyFlat.told (PyFlat.played KrdoNeutral.step KrdoNeutral.start raw) := by
  unfold PyKrdo.answers PyKrdo.calls
  rw [h]
  dsimp only
  rw [calls_shape h]
theorem asked_of {l : List Int} (h : PyKrdo.answers_asked l = true) : ∃ raw, PyFlat.calls PyKrdo.shape l.length l = some raw ∧ raw.length ≤ 50 ∧ (∀ c ∈ raw, PyInside.call PyKrdo.bound c = true) ∧ (PyFlat.told (PyFlat.played KrdoNeutral.step KrdoNeutral.start raw)).length ≤ 10000000 := by
  unfold PyKrdo.answers_asked at h
  cases hc : PyFlat.calls PyKrdo.shape l.length l with
  | none => rw [hc] at h; cases h
  | some raw =>
    rw [hc] at h
    dsimp only at h
    rw [Bool.and_eq_true, Bool.and_eq_true, Bool.and_eq_true, Bool.and_eq_true] at h
    obtain ⟨⟨⟨⟨_, h1⟩, h2⟩, _⟩, h4⟩ := h
    refine ⟨raw, rfl, of_decide_eq_true h1, fun c hm => List.all_eq_true.mp h2 c hm, ?_⟩
    rw [answers_of hc] at h4
    exact of_decide_eq_true h4
theorem bound_1 : ∀ p : Nat, p < 57 → (PyKrdo.bound (p : Int)).1 = List.replicate (nxP p) ((0, 4294967295) : Int × Int) := by decide +kernel
theorem bound_2 : ∀ p : Nat, p < 57 → (PyKrdo.bound (p : Int)).2 = List.replicate (nrP p) ((0, 4294967295, 0, 255) : Int × Int × Nat × Nat) := by decide +kernel
theorem within_ok {x : Int} (h : PyInside.within 0 4294967295 x = true) : NumOk x := by
  unfold PyInside.within at h
  rw [Bool.and_eq_true] at h
  exact ⟨of_decide_eq_true h.1, of_decide_eq_true h.2⟩
theorem each_ok : ∀ {n : Nat} {xs : List Int}, PyInside.each (List.replicate n (0, 4294967295)) xs = true → xs.length = n → ∀ x ∈ xs, NumOk x
  | _, [], _, _ => fun x hx => by cases hx
  | 0, _ :: _, _, h => by cases h
  | n + 1, y :: ys, h, hl => fun x hx => by
    have h : (PyInside.within 0 4294967295 y && PyInside.each (List.replicate n (0, 4294967295)) ys) = true := h
    rw [Bool.and_eq_true] at h
    rcases List.mem_cons.mp hx with rfl | hx
    · exact within_ok h.1
    · exact each_ok h.2 (Nat.succ.inj hl) x hx
theorem lists_ok : ∀ {n : Nat} {rs : List (List Int)}, PyInside.lists (List.replicate n (0, 4294967295, 0, 255)) rs = true → rs.length = n → ∀ r ∈ rs, r.length ≤ 255 ∧ ∀ x ∈ r, NumOk x
  | _, [], _, _ => fun x hx => by cases hx
  | 0, _ :: _, _, h => by cases h
  | n + 1, y :: ys, h, hl => fun x hx => by
    have h : (decide (0 ≤ y.length) && decide (y.length ≤ 255) && y.all (PyInside.within 0 4294967295) && PyInside.lists (List.replicate n (0, 4294967295, 0, 255)) ys) = true := h
    rw [Bool.and_eq_true, Bool.and_eq_true, Bool.and_eq_true] at h
    rcases List.mem_cons.mp hx with rfl | hx
    · exact ⟨of_decide_eq_true h.1.1.2, fun z hz => within_ok (List.all_eq_true.mp h.1.2 z hz)⟩
    · exact lists_ok h.2 (Nat.succ.inj hl) x hx
theorem call_ok {p : Nat} (hp : p < 57) {xs : List Int} {rs : List (List Int)} (h : PyInside.call PyKrdo.bound (((p : Int) :: xs) :: rs) = true) (hx : xs.length = nxP p) (hr : rs.length = nrP p) : (∀ x ∈ xs, NumOk x) ∧ ∀ r ∈ rs, r.length ≤ 255 ∧ ∀ x ∈ r, NumOk x := by
  have h : (PyInside.each (PyKrdo.bound (p : Int)).1 xs && PyInside.lists (PyKrdo.bound (p : Int)).2 rs) = true := h
  rw [bound_1 p hp, bound_2 p hp, Bool.and_eq_true] at h
  exact ⟨each_ok h.1 hx, lists_ok h.2 hr⟩
theorem DeskAt.app {Hf H H' : Hp} {d p : Addr} {s : Krdo.Abs} {t t' : List V} (h : DeskAt K C (upd Hf p (.lst t)) H d s) (hp : H p = some (.lst t)) (b : But p H H') : DeskAt K C (upd Hf p (.lst t')) H' d s := by
  cases s with
  | none =>
    obtain ⟨dx, v2, v3, v4, v5, q⟩ := h
    have n : d ≠ p := by
      intro e
      rw [e, hp] at q
      cases q
    exact ⟨dx, v2, v3, v4, v5, b _ _ n q⟩
  | some g =>
    obtain ⟨dx, a, c, s, l, sh, q1, q2, q3, q4, q5⟩ := h
    have n : d ≠ p := by
      intro e
      have := q1.ins
      rw [e, hp] at this
      cases this
    have nl : l ≠ p := by
      intro e
      rw [e, upd_same] at q5
      cases q5
    have b2 : But2 d p H H' := fun a u _ m z => b a u m z
    obtain ⟨us, hus, hpp⟩ := q2
    refine ⟨dx, a, c, s, l, sh, q1.but2 b2 hp (b _ _ n q1.ins), ⟨us, b _ _ nl hus, Paired.mapP hpp fun u D ⟨t, e, q⟩ => ⟨t, e, q.mapT fun a xs q => b2.seqT q1.ins hp q⟩⟩, q3, q4, ?_⟩
    rw [upd_ne nl] at q5 ⊢
    exact q5
def spTop (K : PySem.W.Frag) : Sp := fun vs H Q _ => ∃ (q : Addr) (l : List Int), vs = [.ref q] ∧ SqL K H q (l.map V.int) ∧ PyKrdo.answers_asked l = true ∧ ∀ (p : Addr) (H2 : Hp), H2 p = some (.lst ((PyKrdo.answers l).map V.int)) → Q (.ref p) H2
theorem sc147 : FnScope ["calls", "desk", "told", "name", "given", "numbers"] ["calls"] (defScope (top 147)) := ⟨rfl, rfl, rfl, by decide +kernel, rfl, by decide +kernel, by decide +kernel⟩
theorem ok_answers (T : ClD K C) (B : Bl mg) (hmC : mg "Desk" = some (.ref C)) {fi : Addr} {fdi : FuncData} (M : Mk K C fi) (FI : FunD K "__init__" "Desk.__init__" (defArgs sInit) (defBody sInit) (defScope sInit) [] [] fi fdi) (bI : Binds K fdi ["self"] []) (cc : Cal P w K mg base 1 "cut" (spCut K)) (ca : Cal P w K mg base 10 "answered" (spAns K C)) {f : Addr} {fd : FuncData} (F : FunD K "answers" "answers" (defArgs (top 147)) (defBody (top 147)) (defScope (top 147)) [] [] f fd) : FnOk P w K mg base CX0 11 f fd ["calls"] (spTop K) := by
  refine F.ok sc147 (fun vs H Q E ⟨_, _, e, _⟩ => by rw [e]; rfl) fun cdv A outer s H vs Q E hr ⟨q, l, e, hq, hask, hQ⟩ => ⟨_, PSs.nox pss_, ?_⟩
  subst e
  obtain ⟨raw, hraw, h50, hin, hlen⟩ := asked_of hask
  rw [answers_of hraw] at hQ
  refine go_run ?_
  refine go_mk 1 sc147.nd M (ok_init T FI) (hr.mono (by decide)) hmC bI fun H1 s1 d dx fd0 fdx ne => ⟨d, dx, rfl, upd_same, fun H2 v2 v3 v4 v5 b2 hd2 => ⟨rfl, go_run ?_⟩⟩
  have s12 : Same H1 H2 := fun a u z => by
    have n1 : a ≠ d := ne_of_none z fd0
    have n2 : a ≠ dx := ne_of_none z fdx
    exact b2 a u n1 (by rw [upd_ne n1, upd_ne n2]; exact z)
  refine go_setO 2 sc147.nd (gv_lst (vs := []) ga_nil (Nat.le_of_ble_eq_true rfl)) fun p H3 fp s3 hp3 => ?_
  refine go_forC 3 4 cc hr (by decide) rfl (ga_cons (gv_var 0) ga_nil) raw.length (fun vs H4 Q2 E s4 z hW => ?_) (pg2 3 4 rfl sc147.nd) PassesOwn.never
  obtain ⟨u1, r1, rfl, e1, rfl⟩ := z
  obtain rfl : u1 = .ref q := e1
  refine ⟨q, l, raw, rfl, same_l (((s1.trans s12).trans s3).trans s4) hq, hraw, h50, fun qf us H5 s5 fqf hqf hit => ?_⟩
  have hd4 : H4 d = some (.ins C dx (dG (.int 0) v2 v3 v4 v5)) := (s3.trans s4) _ _ hd2
  have hp4 : H4 p = some (.lst []) := s4 _ _ hp3
  have ndp : d ≠ p := by
    intro e
    rw [e, hp4] at hd4
    cases hd4
  have hul : us.length = raw.length := Paired.length hit
  have fNd : New H4 H5 d = none := new_old hd4
  have fNp : New H4 H5 p = none := new_old hp4
  have hNq : New H4 H5 qf = some (.lst us) := by rw [new_of fqf]; exact hqf
  have sN : Same (New H4 H5) H5 := new_le
  generalize New H4 H5 = Hf at hit fNd fNp hNq sN
  refine hW qf us H5 (fun i σ' H' => ∃ (st : Krdo.Abs) (dn : List Int) (z3 z4 z5 : Option V), σ' = [some (.ref q), some (.ref d), some (.ref p), z3, z4, z5] ∧ Same Hf H' ∧ H' p = some (.lst (dn.map V.int)) ∧ DeskAt K C (upd Hf p (.lst (dn.map V.int))) H' d st ∧
    PyFlat.told (PyFlat.played KrdoNeutral.step KrdoNeutral.start raw) = dn ++ PyFlat.told (PyFlat.played KrdoNeutral.step st (raw.drop i))) hul (SqL.of hqf) ⟨none, [], none, none, none, rfl, sN, s5 _ _ hp4, ⟨dx, v2, v3, v4, v5, s5 _ _ hd4⟩, rfl⟩ (fun i σ' H' ⟨st, dn, z3, z4, z5, _, sf, _⟩ => SqL.of (sf _ _ hNq)) ?_ ?_
  · rintro i v σ' H' hv ⟨st, dn, z3, z4, z5, rfl, sf, hpT, hDk, heq⟩
    obtain ⟨c, hci, t, g, pp, xs, rs, rfl, ht, hG, hpp, rfl, hxl, hrl⟩ := L2.paired_get hit hv
    obtain ⟨ok, okr⟩ := call_ok hpp (hin _ (List.mem_of_getElem? hci)) hxl hrl
    refine ⟨.str (nmP pp), .ref g, t, rfl, SqT.of (sf _ _ ht), ?_⟩
    have hil : i < raw.length := (List.getElem?_eq_some_iff.mp hci).1
    have hdr : raw.drop i = (((pp : Int) :: xs) :: rs) :: raw.drop (i + 1) := by
      rw [List.drop_eq_getElem_cons hil]
      congr 1
      rw [List.getElem?_eq_getElem hil] at hci
      exact Option.some.inj hci
    rw [hdr] at heq
    have heq : PyFlat.told (PyFlat.played KrdoNeutral.step KrdoNeutral.start raw) = dn ++ ((((KrdoNeutral.told (Krdo.act st (KrdoNeutral.call (((pp : Int) :: xs) :: rs))).2).length : Int) :: (KrdoNeutral.told (Krdo.act st (KrdoNeutral.call (((pp : Int) :: xs) :: rs))).2)) ++ PyFlat.told (PyFlat.played KrdoNeutral.step (Krdo.act st (KrdoNeutral.call (((pp : Int) :: xs) :: rs))).1 (raw.drop (i + 1)))) := heq
    have hl2 : dn.length + 1 + (KrdoNeutral.told (Krdo.act st (KrdoNeutral.call (((pp : Int) :: xs) :: rs))).2).length ≤ 10000000 := by
      have := hlen
      rw [heq, List.length_append, List.length_append, List.length_cons] at this
      omega
    refine go_setC 5 sc147.nd ca hr (by decide) (ga_cons (gv_var 1) (ga_cons (gv_var 3) (ga_cons (gv_var 4) ga_nil))) (fun vs H6 E s6 z => ?_)
    obtain ⟨u1, r1, rfl, e1, u2, r2, rfl, e2, u3, r3, rfl, e3, rfl⟩ := z
    obtain rfl : u1 = .ref d := e1
    obtain rfl : u2 = .str (nmP pp) := e2
    obtain rfl : u3 = .ref g := e3
    refine ⟨d, g, pp, upd Hf p (.lst (dn.map V.int)), st, xs, rs, rfl, hpp, same_upd (sf.trans s6) (s6 _ _ hpT), by rw [upd_ne ndp]; exact fNd, hDk.same s6, hG.same (same_new fNp), hxl, hrl, ok, okr, fun v H7 s7 hD7 n7 => ?_⟩
    obtain ⟨qn, rfl, fqn, hqn⟩ := n7
    refine go_run ?_
    have hp7 : H7 p = some (.lst (dn.map V.int)) := s7 _ _ upd_same
    have sf7 : Same Hf H7 := (same_new fNp).trans s7
    have nqp : qn ≠ p := by
      intro e
      rw [e, s6 _ _ hpT] at fqn
      cases fqn
    generalize KrdoNeutral.told (Krdo.act st (KrdoNeutral.call (((pp : Int) :: xs) :: rs))).2 = ns at heq hl2 hqn
    generalize (Krdo.act st (KrdoNeutral.call (((pp : Int) :: xs) :: rs))).1 = st' at heq hD7
    refine go_app (gv_var 2) hp7 (by rw [List.length_map]; omega) (gv_lenL B (gv_var (v := .ref qn) 5) (.old (SqL.of hqn))) fun w8 H8 s8 n8 => ?_
    obtain rfl : w8 = .int ((ns.map V.int).length : Nat) := n8
    rw [List.length_map]
    have b8 : But p H7 (upd H8 p (.lst (dn.map V.int ++ [.int (ns.length : Nat)]))) := (But.of s8).upd_
    have hp8 : upd H8 p (.lst (dn.map V.int ++ [.int (ns.length : Nat)])) p = some (.lst (dn.map V.int ++ [.int (ns.length : Nat)])) := upd_same
    generalize upd H8 p (.lst (dn.map V.int ++ [.int (ns.length : Nat)])) = G8 at b8 hp8 ⊢
    refine go_ext (gv_var 2) hp8 (gv_var (v := .ref qn) 5) fun w9 H9 s9 n9 => ?_
    obtain rfl : w9 = .ref qn := n9
    refine ⟨qn, ns.map V.int, rfl, s9 _ _ (b8 _ _ nqp hqn), by rw [List.length_append, List.length_map, List.length_map, List.length_singleton]; omega, ?_⟩
    have b9 : But p H7 (upd H9 p (.lst (dn.map V.int ++ [.int (ns.length : Nat)] ++ ns.map V.int))) := (b8.then_ s9).upd_
    have e9 : dn.map V.int ++ [.int (ns.length : Nat)] ++ ns.map V.int = (dn ++ ((ns.length : Int) :: ns)).map V.int := by
      rw [List.map_append, List.map_cons, List.append_assoc]
      rfl
    rw [e9] at b9 ⊢
    refine go_thru ⟨st', dn ++ ((ns.length : Int) :: ns), _, _, _, rfl, fun a u z => b9 a u (ne_of_none z fNp) (sf7 a u z), upd_same, hD7.app hp7 b9, ?_⟩
    rw [heq, List.append_assoc]
  · rintro σ' H' ⟨st, dn, z3, z4, z5, rfl, sf, hpT, hDk, heq⟩
    rw [List.drop_length] at heq
    have heq : PyFlat.told (PyFlat.played KrdoNeutral.step KrdoNeutral.start raw) = dn ++ [] := heq
    rw [List.append_nil] at heq
    rw [heq] at hQ
    refine go_ret (gv_var (v := .ref p) 2) fun v H6 s6 n6 => ?_
    obtain rfl : v = .ref p := n6
    exact hQ p H6 (s6 _ _ hpT)
end
end Sw
set_option Elab.async false
set_option linter.all false
set_option maxRecDepth 100000
set_option maxHeartbeats 2000000
set_option exponentiation.threshold 3000
namespace Sw
open PySem PySem.Spec PyProof.Rows L2 Kx
open Evl (given given_yes given_no given_len)
open Mt (W S swc pt)
/-! ### calls that change nothing -/
def tellK : Krdk.Call → Bool
  | .begin_ _ => false
  | .told _ => false
  | .least _ _ => false
  | .odd _ => false
  | .bit _ => false
  | .not_ => false
  | .turn _ => false
  | .set _ _ => false
  | _ => true
def tellL : Krdl.Call → Bool
  | .base _ => false
  | .chance _ _ => false
  | .keep => false
  | _ => true
def tellC : Krdo.Call → Bool
  | .base b => tellK b
  | .hear b => tellL b
  | .three _ => true
  | .rise _ => true
  | .same _ => true
  | .more _ _ => true
  | .best _ => true
  | .shelf => true
  | _ => false
theorem keep_ch (D : Krdo.Data) : some (Krdo.changed ⟨D, []⟩ D) = some ⟨D, []⟩ := congrArg some (if_pos rfl)
theorem keep_act {D : Krdo.Data} (c : Krdo.Call) (h : tellC c = true) : (Krdo.act (some ⟨D, []⟩) c).1 = some ⟨D, []⟩ := by
  cases c with
  | base b =>
    cases b with
    | begin_ _ => cases h
    | told _ => cases h
    | least _ _ => cases h
    | odd _ => cases h
    | bit _ => cases h
    | not_ => cases h
    | turn _ => cases h
    | set _ _ => cases h
    | _ => exact keep_ch D
  | hear b =>
    cases b with
    | base _ => cases h
    | chance _ _ => cases h
    | keep => cases h
    | _ => exact keep_ch D
  | three b =>
    show (if Krdm.mostVoters < D.f.n then _ else _ : Krdo.Abs × Krdo.Ans).1 = _
    split <;> rfl
  | rise b => rfl
  | same i => rfl
  | more q i => rfl
  | best q => rfl
  | shelf => rfl
  | put_ _ => cases h
  | take_ _ => cases h
  | join _ _ => cases h
  | back => cases h
theorem keep_dat {p : Nat} {D : Krdo.Data} {xs : List Int} {rs : List (List Int)} (h : tellC (KrdoNeutral.call (((p : Int) :: xs) :: rs)) = true) : datP p D xs rs = D := by
  unfold datP actP
  rw [keep_act _ h]
section
variable {P : Program} {w : World} {K : PySem.W.Frag} {mg : Str → Option Value} {base : Heap} {C : Addr}
/-! ### all that the module has -/
theorem the_calls (T : ClD K C) (B : Bl mg) (Z : Ct mg) (O : Tb K mg "ORDERS" ordRows) (O2 : Tb K mg "CALLS" callRowsV) (D : ∀ (g : Str) (i : Nat), (g, i) ∈ dl → DefAt K mg g (top i)) (DD : Dcts K w mg) : Cal P w K mg base 1 "cut" (spCut K) ∧ Cal P w K mg base 10 "answered" (spAns K C) := by
  have h_refused : Cal P w K mg base 1 "refused" (SpK pRefused) := c_refused (D "refused" 11 (by decide +kernel))
  have h_made : Cal P w K mg base 1 "made" (spMade K C) := c_made T B (D "made" 78 (by decide +kernel))
  have h_make_told : Cal P w K mg base 2 "make_told" (spMake K C 1 0 1) := c_make_told T B Z (D "make_told" 79 (by decide +kernel)) h_refused h_made
  have h_weight : Cal P w K mg base 1 "weight" (SpK (pWeight K)) := c_weight B (D "weight" 80 (by decide +kernel))
  have h_make_least : Cal P w K mg base 2 "make_least" (spMake K C 2 1 1) := c_make_least T B Z (D "make_least" 81 (by decide +kernel)) h_refused h_made h_weight
  have h_bits_set : Cal P w K mg base 1 "bits_set" (SpK pBits) := c_bits (D "bits_set" 12 (by decide +kernel))
  have h_meets_oddly : Cal P w K mg base 2 "meets_oddly" (SpK pOdd) := c_odd (D "meets_oddly" 14 (by decide +kernel)) h_bits_set
  have h_make_odd : Cal P w K mg base 3 "make_odd" (spMake K C 3 1 0) := c_make_odd T B Z (D "make_odd" 82 (by decide +kernel)) h_refused h_made h_meets_oddly
  have h_make_bit : Cal P w K mg base 2 "make_bit" (spMake K C 4 1 0) := c_make_bit T B Z (D "make_bit" 83 (by decide +kernel)) h_refused h_made
  have h_make_not : Cal P w K mg base 2 "make_not" (spMake K C 5 0 0) := c_make_not T B Z (D "make_not" 84 (by decide +kernel)) h_made
  have h_turned : Cal P w K mg base 1 "turned" (SpK pTurned) := c_turned (D "turned" 13 (by decide +kernel))
  have h_make_turn : Cal P w K mg base 2 "make_turn" (spMake K C 6 1 0) := c_make_turn T B Z (D "make_turn" 85 (by decide +kernel)) h_refused h_made h_turned
  have h_make_set : Cal P w K mg base 2 "make_set" (spMake K C 7 2 0) := c_make_set T B Z (D "make_set" 86 (by decide +kernel)) h_refused h_made
  have h_tell_state : Cal P w K mg base 2 "tell_state" (SpK (pTell K C 21 0 0)) := c_tell_state T B Z (D "tell_state" 87 (by decide +kernel))
  have h_tell_ask : Cal P w K mg base 2 "tell_ask" (SpK (pTell K C 8 1 0)) := c_tell_ask T B Z (D "tell_ask" 23 (by decide +kernel)) h_refused
  have h_lowest : Cal P w K mg base 1 "lowest" (SpK pLow) := c_low B (D "lowest" 16 (by decide +kernel))
  have h_tell_mean : Cal P w K mg base 2 "tell_mean" (SpK (pTell K C 9 0 0)) := c_tell_mean T B Z (D "tell_mean" 24 (by decide +kernel)) h_lowest
  have h_swayed : Cal P w K mg base 2 "swayed" (SpK (pSwayed K)) := c_swayed B (D "swayed" 25 (by decide +kernel)) h_turned
  have h_sways : Cal P w K mg base 3 "sways" (SpK (pSways K)) := c_sways B (D "sways" 26 (by decide +kernel)) h_swayed
  have h_tell_sway : Cal P w K mg base 4 "tell_sway" (SpK (pTell K C 10 1 0)) := c_tell_sway T B Z (D "tell_sway" 28 (by decide +kernel)) h_refused h_lowest h_sways
  have h_all_sways : Cal P w K mg base 4 "all_sways" (SpK (pAllSways K)) := c_allsways B (D "all_sways" 27 (by decide +kernel)) h_sways
  have h_together : Cal P w K mg base 5 "together" (SpK (pTogether K)) := c_together B (D "together" 29 (by decide +kernel)) h_all_sways h_lowest
  have h_tell_all : Cal P w K mg base 6 "tell_all" (SpK (pTell K C 11 0 0)) := c_tell_all T B Z (D "tell_all" 30 (by decide +kernel)) h_together
  have h_even : Cal P w K mg base 2 "even" (SpK (pEven K)) := c_even B (D "even" 31 (by decide +kernel)) h_lowest
  have h_tell_even : Cal P w K mg base 3 "tell_even" (SpK (pTell K C 12 0 0)) := c_tell_even T B Z (D "tell_even" 32 (by decide +kernel)) h_even
  have h_part : Cal P w K mg base 3 "part" (SpK (pPart K)) := c_part B (D "part" 33 (by decide +kernel)) h_meets_oddly
  have h_tell_part : Cal P w K mg base 4 "tell_part" (SpK (pTell K C 13 1 0)) := c_tell_part T B Z (D "tell_part" 35 (by decide +kernel)) h_refused h_lowest h_part
  have h_all_parts : Cal P w K mg base 4 "all_parts" (SpK (pAllParts K)) := c_allparts B (D "all_parts" 34 (by decide +kernel)) h_part
  have h_tell_parts : Cal P w K mg base 5 "tell_parts" (SpK (pTell K C 14 0 0)) := c_tell_parts T B Z (D "tell_parts" 36 (by decide +kernel)) h_lowest h_all_parts
  have h_tell_levels : Cal P w K mg base 5 "tell_levels" (SpK (pTell K C 15 0 0)) := c_tell_levels T B Z (D "tell_levels" 37 (by decide +kernel)) h_bits_set h_lowest h_all_parts
  have h_sides : Cal P w K mg base 5 "sides" (SpK (pSides K)) := c_sides B (D "sides" 38 (by decide +kernel)) h_all_sways
  have h_tell_sides : Cal P w K mg base 6 "tell_sides" (SpK (pTell K C 16 0 0)) := c_tell_sides T B Z (D "tell_sides" 39 (by decide +kernel)) h_sides
  have h_tell_fewest : Cal P w K mg base 6 "tell_fewest" (SpK (pTell K C 17 0 0)) := c_tell_fewest T B Z (D "tell_fewest" 40 (by decide +kernel)) h_sides
  have h_falls : Cal P w K mg base 1 "falls" (SpK (pFalls K)) := c_falls B (D "falls" 41 (by decide +kernel))
  have h_tell_rising : Cal P w K mg base 2 "tell_rising" (SpK (pTell K C 18 0 0)) := c_tell_rising T B Z (D "tell_rising" 42 (by decide +kernel)) h_falls
  have h_tell_idle : Cal P w K mg base 6 "tell_idle" (SpK (pTell K C 19 0 0)) := c_tell_idle T B Z (D "tell_idle" 43 (by decide +kernel)) h_all_sways
  have h_tell_most : Cal P w K mg base 6 "tell_most" (SpK (pTell K C 20 0 0)) := c_tell_most T B Z (D "tell_most" 44 (by decide +kernel)) h_lowest h_all_sways
  have h_chance_right_mishearing : Cal P w K mg base 1 "chance_right_mishearing" (SpK (pChR K)) := c_chance_right_mishearing Z (D "chance_right_mishearing" 91 (by decide +kernel))
  have h_tell_chance : Cal P w K mg base 2 "tell_chance" (spMake K C 22 2 0) := c_tell_chance T B Z (D "tell_chance" 93 (by decide +kernel)) h_refused h_lowest h_chance_right_mishearing
  have h_power : Cal P w K mg base 1 "power" (SpK pPower) := c_power B (D "power" 15 (by decide +kernel))
  have h_whole : Cal P w K mg base 2 "whole" (SpK (pWhole K)) := c_whole h_power (D "whole" 94 (by decide +kernel))
  have h_heard : Cal P w K mg base 2 "heard" (SpK (pHeard K)) := c_heard B h_power (D "heard" 95 (by decide +kernel))
  have h_tell_heard : Cal P w K mg base 3 "tell_heard" (SpK (pTell K C 23 2 0)) := c_tell_heard T B Z (D "tell_heard" 96 (by decide +kernel)) h_refused h_lowest h_bits_set h_whole h_heard
  have h_yes_said : Cal P w K mg base 2 "yes_said" (SpK (pYesSaid K)) := c_yes_said B h_bits_set (D "yes_said" 97 (by decide +kernel))
  have h_all_yes_said : Cal P w K mg base 3 "all_yes_said" (SpK (pAllYes K)) := c_all_yes_said B h_heard h_yes_said (D "all_yes_said" 98 (by decide +kernel))
  have h_tell_soft : Cal P w K mg base 4 "tell_soft" (SpK (pTell K C 24 1 0)) := c_tell_soft T B Z (D "tell_soft" 100 (by decide +kernel)) h_refused h_lowest h_whole h_all_yes_said
  have h_all_rightly : Cal P w K mg base 4 "all_rightly" (SpK (pAllRight K)) := c_all_rightly B h_whole h_all_yes_said (D "all_rightly" 99 (by decide +kernel))
  have h_stays : Cal P w K mg base 5 "stays" (SpK (pStays K)) := c_stays B h_lowest h_whole h_all_rightly (D "stays" 101 (by decide +kernel))
  have h_tell_stays : Cal P w K mg base 6 "tell_stays" (SpK (pTell K C 25 0 0)) := c_tell_stays T B Z (D "tell_stays" 102 (by decide +kernel)) h_stays
  have h_tell_agree : Cal P w K mg base 4 "tell_agree" (SpK (pTell K C 26 0 0)) := c_tell_agree T B Z (D "tell_agree" 103 (by decide +kernel)) h_lowest h_whole h_all_yes_said
  have h_tell_worst : Cal P w K mg base 5 "tell_worst" (SpK (pTell K C 27 0 0)) := c_tell_worst T B Z (D "tell_worst" 104 (by decide +kernel)) h_lowest h_whole h_all_rightly
  have h_tell_ifchance : Cal P w K mg base 6 "tell_ifchance" (SpK (pTell K C 28 2 0)) := c_tell_ifchance T B Z (D "tell_ifchance" 105 (by decide +kernel)) h_refused h_chance_right_mishearing h_stays
  have h_vote_right : Cal P w K mg base 1 "vote_right" (SpK (pVoteRight K)) := c_vote_right B O (D "vote_right" 51 (by decide +kernel))
  have h_outcome : Cal P w K mg base 1 "outcome" (SpK (pOutcome K)) := c_outcome Z B O (D "outcome" 52 (by decide +kernel))
  have h_comes_round : Cal P w K mg base 1 "comes_round" (SpK (pRound K)) := c_comes_round Z B (D "comes_round" 53 (by decide +kernel))
  have h_tell_vote : Cal P w K mg base 2 "tell_vote" (SpK (p4Tell K C 29 0 1)) := c_tell_vote T B Z (D "tell_vote" 57 (by decide +kernel)) h_refused h_vote_right h_outcome h_comes_round
  have h_order_of : Cal P w K mg base 1 "order_of" (SpK (pOrderOf K)) := c_order_of B O (D "order_of" 54 (by decide +kernel))
  have h_first_thing : Cal P w K mg base 1 "first_thing" (SpK (pFirst)) := c_first_thing (D "first_thing" 59 (by decide +kernel))
  have h_tell_winner : Cal P w K mg base 2 "tell_winner" (SpK (p4Tell K C 30 0 1)) := c_tell_winner T B Z (D "tell_winner" 60 (by decide +kernel)) h_refused h_vote_right h_outcome h_order_of h_first_thing
  have h_tell_order : Cal P w K mg base 2 "tell_order" (SpK (p4Tell K C 31 0 1)) := c_tell_order T B Z (D "tell_order" 58 (by decide +kernel)) h_refused h_vote_right h_outcome h_order_of
  have h_all_votes : Cal P w K mg base 1 "all_votes" (SpK (pAllVotes)) := c_all_votes B O (D "all_votes" 55 (by decide +kernel))
  have h_all_outcomes : Cal P w K mg base 2 "all_outcomes" (SpK (pAllOut K)) := c_all_outcomes B h_all_votes h_outcome (D "all_outcomes" 56 (by decide +kernel))
  have h_rounds : Cal P w K mg base 3 "rounds" (SpK (pRounds K)) := c_rounds B h_all_outcomes h_comes_round (D "rounds" 61 (by decide +kernel))
  have h_tell_rounds : Cal P w K mg base 4 "tell_rounds" (SpK (p4Tell K C 32 0 0)) := c_tell_rounds T B Z (D "tell_rounds" 62 (by decide +kernel)) h_rounds
  have h_tell_noround : Cal P w K mg base 4 "tell_noround" (SpK (p4Tell K C 33 0 0)) := c_tell_noround T B Z (D "tell_noround" 63 (by decide +kernel)) O h_lowest h_power h_rounds
  have h_byparts : Cal P w K mg base 5 "byparts" (SpK (pByParts K)) := c_byparts B h_lowest h_power h_bits_set h_all_parts (D "byparts" 64 (by decide +kernel))
  have h_tell_byparts : Cal P w K mg base 6 "tell_byparts" (SpK (p4Tell K C 34 0 0)) := c_tell_byparts T B Z (D "tell_byparts" 65 (by decide +kernel)) h_byparts
  have h_tell_isodd : Cal P w K mg base 2 "tell_isodd" (SpK (p4Tell K C 35 0 0)) := c_tell_isodd T B Z (D "tell_isodd" 66 (by decide +kernel))
  have h_tell_alike : Cal P w K mg base 2 "tell_alike" (SpK (p4Tell K C 36 0 0)) := c_tell_alike T B Z (D "tell_alike" 67 (by decide +kernel)) h_bits_set
  have h_tell_whose : Cal P w K mg base 2 "tell_whose" (SpK (p4Tell K C 37 0 0)) := c_tell_whose T B Z (D "tell_whose" 68 (by decide +kernel)) h_refused
  have h_tell_first : Cal P w K mg base 2 "tell_first" (SpK (p4Tell K C 38 0 0)) := c_tell_first T B Z (D "tell_first" 69 (by decide +kernel)) h_refused h_all_votes h_outcome h_comes_round
  have h_tell_wins : Cal P w K mg base 3 "tell_wins" (SpK (p4Tell K C 39 1 0)) := c_tell_wins T B Z (D "tell_wins" 70 (by decide +kernel)) h_refused h_all_outcomes h_order_of h_first_thing
  have h_lower_right : Cal P w K mg base 1 "lower_right" (SpK (pLR)) := c_lower_right Z (D "lower_right" 110 (by decide +kernel))
  have h_chance_right_rises : Cal P w K mg base 2 "chance_right_rises" (SpK (pCR)) := c_chance_right_rises h_lower_right (D "chance_right_rises" 111 (by decide +kernel))
  have h_sizes : Cal P w K mg base 2 "sizes" (SpK (pSizes K)) := c_sizes B h_bits_set (D "sizes" 113 (by decide +kernel))
  have h_counts_of : Cal P w K mg base 3 "counts_of" (SpK (pCountsOf K C)) := c_counts_of T h_sizes (D "counts_of" 114 (by decide +kernel))
  have h_all_set : Cal P w K mg base 2 "all_set" (SpK (pAllSet K)) := c_all_set B h_power (D "all_set" 115 (by decide +kernel))
  have h_tell_yes : Cal P w K mg base 4 "tell_yes" (SpK (pTell K C 40 2 0)) := c_tell_yes T B Z (D "tell_yes" 116 (by decide +kernel)) h_refused h_lowest h_power h_chance_right_rises h_counts_of h_all_set
  have h_tell_swayat : Cal P w K mg base 4 "tell_swayat" (SpK (pTell K C 41 3 0)) := c_tell_swayat T B Z (D "tell_swayat" 117 (by decide +kernel)) h_refused h_lowest h_power h_swayed h_sizes h_chance_right_rises h_all_set
  have h_fast : Cal P w K mg base 2 "fast" (SpK (pFast K)) := c_fast B h_power (D "fast" 118 (by decide +kernel))
  have h_tell_slope : Cal P w K mg base 4 "tell_slope" (SpK (pTell K C 42 2 0)) := c_tell_slope T B Z (D "tell_slope" 119 (by decide +kernel)) h_refused h_lowest h_power h_chance_right_rises h_counts_of h_fast
  have h_tell_sizes : Cal P w K mg base 4 "tell_sizes" (SpK (pTell K C 43 0 0)) := c_tell_sizes T B Z (D "tell_sizes" 120 (by decide +kernel)) h_counts_of
  have h_least_for : Cal P w K mg base 3 "least_for" (SpK (pLeast K)) := c_least_for B h_power h_all_set (D "least_for" 121 (by decide +kernel))
  have h_tell_half : Cal P w K mg base 4 "tell_half" (SpK (pTell K C 44 1 0)) := c_tell_half T B Z (D "tell_half" 122 (by decide +kernel)) h_refused h_lower_right h_counts_of h_least_for
  have h_tell_width : Cal P w K mg base 4 "tell_width" (SpK (pTell K C 45 4 0)) := c_tell_width T B Z (D "tell_width" 123 (by decide +kernel)) h_refused h_lower_right h_chance_right_rises h_counts_of h_least_for
  have h_once : Cal P w K mg base 2 "once" (SpK (pOnce)) := c_once h_power (D "once" 124 (by decide +kernel))
  have h_tell_tries : Cal P w K mg base 4 "tell_tries" (SpK (pTell K C 46 3 0)) := c_tell_tries T B Z (D "tell_tries" 125 (by decide +kernel)) h_refused h_lowest h_power h_chance_right_rises h_counts_of h_all_set h_once
  have h_tell_steepest : Cal P w K mg base 4 "tell_steepest" (SpK (pTell K C 47 1 0)) := c_tell_steepest T B Z (D "tell_steepest" 126 (by decide +kernel)) h_refused h_lowest h_power h_lower_right h_counts_of h_fast
  have h_tell_fixed : Cal P w K mg base 4 "tell_fixed" (SpK (pTell K C 48 1 0)) := c_tell_fixed T B Z (D "tell_fixed" 127 (by decide +kernel)) h_refused h_power h_lower_right h_counts_of h_all_set
  have h_tell_put : Cal P w K mg base 2 "tell_put" (spMake K C 49 1 0) := c_tell_put T B Z (D "tell_put" 132 (by decide +kernel)) h_refused
  have h_tell_take : Cal P w K mg base 2 "tell_take" (spMake K C 50 1 0) := c_tell_take T B Z (D "tell_take" 133 (by decide +kernel)) h_refused h_made
  have h_joined : Cal P w K mg base 1 "joined" (SpK (pJoined)) := c_joined (D "joined" 134 (by decide +kernel))
  have h_tell_join : Cal P w K mg base 2 "tell_join" (spMake K C 51 2 0) := c_tell_join T B Z (D "tell_join" 135 (by decide +kernel)) h_refused h_made h_joined
  have h_tell_same : Cal P w K mg base 2 "tell_same" (SpK (pTell K C 52 1 0)) := c_tell_same T B Z (D "tell_same" 136 (by decide +kernel)) h_refused h_lowest
  have h_measured : Cal P w K mg base 6 "measured" (SpK (pMeasured K C)) := c_measured T h_even h_together h_stays h_byparts (D "measured" 137 (by decide +kernel))
  have h_greater : Cal P w K mg base 1 "greater" (SpK (pGreater K)) := c_greater (D "greater" 138 (by decide +kernel))
  have h_tell_more : Cal P w K mg base 7 "tell_more" (SpK (pTell K C 53 2 0)) := c_tell_more T B Z (D "tell_more" 139 (by decide +kernel)) h_refused h_measured h_greater
  have h_tell_best : Cal P w K mg base 7 "tell_best" (SpK (pTell K C 54 1 0)) := c_tell_best T B Z (D "tell_best" 140 (by decide +kernel)) h_refused h_measured h_greater
  have h_tell_shelf : Cal P w K mg base 2 "tell_shelf" (SpK (pTell K C 55 0 0)) := c_tell_shelf T B Z (D "tell_shelf" 141 (by decide +kernel))
  have q_tMk : ∀ t ∈ tMk, Cal P w K mg base 7 t.2.1 (spP K C t.2.2 5) := by
    intro t ht
    unfold tMk at ht
    rcases List.mem_cons.mp ht with rfl | ht
    · exact make_P h_make_told rfl rfl (by decide)
    rcases List.mem_cons.mp ht with rfl | ht
    · exact make_P h_make_least rfl rfl (by decide)
    rcases List.mem_cons.mp ht with rfl | ht
    · exact make_P h_make_odd rfl rfl (by decide)
    rcases List.mem_cons.mp ht with rfl | ht
    · exact make_P h_make_bit rfl rfl (by decide)
    rcases List.mem_cons.mp ht with rfl | ht
    · exact make_P h_make_not rfl rfl (by decide)
    rcases List.mem_cons.mp ht with rfl | ht
    · exact make_P h_make_turn rfl rfl (by decide)
    rcases List.mem_cons.mp ht with rfl | ht
    · exact make_P h_make_set rfl rfl (by decide)
    rcases List.mem_cons.mp ht with rfl | ht
    · exact tell_P h_tell_state rfl rfl (by decide) (fun _ _ _ => keep_dat rfl)
    cases ht
  have q_tSw : ∀ t ∈ tSw, Cal P w K mg base 7 t.2.1 (spP K C t.2.2 5) := by
    intro t ht
    unfold tSw at ht
    rcases List.mem_cons.mp ht with rfl | ht
    · exact tell_P h_tell_ask rfl rfl (by decide) (fun _ _ _ => keep_dat rfl)
    rcases List.mem_cons.mp ht with rfl | ht
    · exact tell_P h_tell_mean rfl rfl (by decide) (fun _ _ _ => keep_dat rfl)
    rcases List.mem_cons.mp ht with rfl | ht
    · exact tell_P h_tell_sway rfl rfl (by decide) (fun _ _ _ => keep_dat rfl)
    rcases List.mem_cons.mp ht with rfl | ht
    · exact tell_P h_tell_all rfl rfl (by decide) (fun _ _ _ => keep_dat rfl)
    rcases List.mem_cons.mp ht with rfl | ht
    · exact tell_P h_tell_even rfl rfl (by decide) (fun _ _ _ => keep_dat rfl)
    rcases List.mem_cons.mp ht with rfl | ht
    · exact tell_P h_tell_part rfl rfl (by decide) (fun _ _ _ => keep_dat rfl)
    rcases List.mem_cons.mp ht with rfl | ht
    · exact tell_P h_tell_parts rfl rfl (by decide) (fun _ _ _ => keep_dat rfl)
    rcases List.mem_cons.mp ht with rfl | ht
    · exact tell_P h_tell_levels rfl rfl (by decide) (fun _ _ _ => keep_dat rfl)
    rcases List.mem_cons.mp ht with rfl | ht
    · exact tell_P h_tell_sides rfl rfl (by decide) (fun _ _ _ => keep_dat rfl)
    rcases List.mem_cons.mp ht with rfl | ht
    · exact tell_P h_tell_fewest rfl rfl (by decide) (fun _ _ _ => keep_dat rfl)
    rcases List.mem_cons.mp ht with rfl | ht
    · exact tell_P h_tell_rising rfl rfl (by decide) (fun _ _ _ => keep_dat rfl)
    rcases List.mem_cons.mp ht with rfl | ht
    · exact tell_P h_tell_idle rfl rfl (by decide) (fun _ _ _ => keep_dat rfl)
    rcases List.mem_cons.mp ht with rfl | ht
    · exact tell_P h_tell_most rfl rfl (by decide) (fun _ _ _ => keep_dat rfl)
    cases ht
  have q_tMi : ∀ t ∈ tMi, Cal P w K mg base 7 t.2.1 (spP K C t.2.2 5) := by
    intro t ht
    unfold tMi at ht
    rcases List.mem_cons.mp ht with rfl | ht
    · exact make_P h_tell_chance rfl rfl (by decide)
    rcases List.mem_cons.mp ht with rfl | ht
    · exact tell_P h_tell_heard rfl rfl (by decide) (fun _ _ _ => keep_dat rfl)
    rcases List.mem_cons.mp ht with rfl | ht
    · exact tell_P h_tell_soft rfl rfl (by decide) (fun _ _ _ => keep_dat rfl)
    rcases List.mem_cons.mp ht with rfl | ht
    · exact tell_P h_tell_stays rfl rfl (by decide) (fun _ _ _ => keep_dat rfl)
    rcases List.mem_cons.mp ht with rfl | ht
    · exact tell_P h_tell_agree rfl rfl (by decide) (fun _ _ _ => keep_dat rfl)
    rcases List.mem_cons.mp ht with rfl | ht
    · exact tell_P h_tell_worst rfl rfl (by decide) (fun _ _ _ => keep_dat rfl)
    rcases List.mem_cons.mp ht with rfl | ht
    · exact tell_P h_tell_ifchance rfl rfl (by decide) (fun _ _ _ => keep_dat rfl)
    cases ht
  have q_tCo : ∀ t ∈ tCo, Cal P w K mg base 7 t.2.1 (spP K C t.2.2 4) := by
    intro t ht
    unfold tCo at ht
    rcases List.mem_cons.mp ht with rfl | ht
    · exact four_P h_tell_vote rfl rfl (by decide) (fun _ _ _ => keep_dat rfl)
    rcases List.mem_cons.mp ht with rfl | ht
    · exact four_P h_tell_winner rfl rfl (by decide) (fun _ _ _ => keep_dat rfl)
    rcases List.mem_cons.mp ht with rfl | ht
    · exact four_P h_tell_order rfl rfl (by decide) (fun _ _ _ => keep_dat rfl)
    rcases List.mem_cons.mp ht with rfl | ht
    · exact four_P h_tell_rounds rfl rfl (by decide) (fun _ _ _ => keep_dat rfl)
    rcases List.mem_cons.mp ht with rfl | ht
    · exact four_P h_tell_noround rfl rfl (by decide) (fun _ _ _ => keep_dat rfl)
    rcases List.mem_cons.mp ht with rfl | ht
    · exact four_P h_tell_byparts rfl rfl (by decide) (fun _ _ _ => keep_dat rfl)
    rcases List.mem_cons.mp ht with rfl | ht
    · exact four_P h_tell_isodd rfl rfl (by decide) (fun _ _ _ => keep_dat rfl)
    rcases List.mem_cons.mp ht with rfl | ht
    · exact four_P h_tell_alike rfl rfl (by decide) (fun _ _ _ => keep_dat rfl)
    rcases List.mem_cons.mp ht with rfl | ht
    · exact four_P h_tell_whose rfl rfl (by decide) (fun _ _ _ => keep_dat rfl)
    rcases List.mem_cons.mp ht with rfl | ht
    · exact four_P h_tell_first rfl rfl (by decide) (fun _ _ _ => keep_dat rfl)
    rcases List.mem_cons.mp ht with rfl | ht
    · exact four_P h_tell_wins rfl rfl (by decide) (fun _ _ _ => keep_dat rfl)
    cases ht
  have q_tRi : ∀ t ∈ tRi, Cal P w K mg base 7 t.2.1 (spP K C t.2.2 5) := by
    intro t ht
    unfold tRi at ht
    rcases List.mem_cons.mp ht with rfl | ht
    · exact tell_P h_tell_yes rfl rfl (by decide) (fun _ _ _ => keep_dat rfl)
    rcases List.mem_cons.mp ht with rfl | ht
    · exact tell_P h_tell_swayat rfl rfl (by decide) (fun _ _ _ => keep_dat rfl)
    rcases List.mem_cons.mp ht with rfl | ht
    · exact tell_P h_tell_slope rfl rfl (by decide) (fun _ _ _ => keep_dat rfl)
    rcases List.mem_cons.mp ht with rfl | ht
    · exact tell_P h_tell_sizes rfl rfl (by decide) (fun _ _ _ => keep_dat rfl)
    rcases List.mem_cons.mp ht with rfl | ht
    · exact tell_P h_tell_half rfl rfl (by decide) (fun _ _ _ => keep_dat rfl)
    rcases List.mem_cons.mp ht with rfl | ht
    · exact tell_P h_tell_width rfl rfl (by decide) (fun _ _ _ => keep_dat rfl)
    rcases List.mem_cons.mp ht with rfl | ht
    · exact tell_P h_tell_tries rfl rfl (by decide) (fun _ _ _ => keep_dat rfl)
    rcases List.mem_cons.mp ht with rfl | ht
    · exact tell_P h_tell_steepest rfl rfl (by decide) (fun _ _ _ => keep_dat rfl)
    rcases List.mem_cons.mp ht with rfl | ht
    · exact tell_P h_tell_fixed rfl rfl (by decide) (fun _ _ _ => keep_dat rfl)
    cases ht
  have q_tSh : ∀ t ∈ tSh, Cal P w K mg base 7 t.2.1 (spP K C t.2.2 5) := by
    intro t ht
    unfold tSh at ht
    rcases List.mem_cons.mp ht with rfl | ht
    · exact make_P h_tell_put rfl rfl (by decide)
    rcases List.mem_cons.mp ht with rfl | ht
    · exact make_P h_tell_take rfl rfl (by decide)
    rcases List.mem_cons.mp ht with rfl | ht
    · exact make_P h_tell_join rfl rfl (by decide)
    rcases List.mem_cons.mp ht with rfl | ht
    · exact tell_P h_tell_same rfl rfl (by decide) (fun _ _ _ => keep_dat rfl)
    rcases List.mem_cons.mp ht with rfl | ht
    · exact tell_P h_tell_more rfl rfl (by decide) (fun _ _ _ => keep_dat rfl)
    rcases List.mem_cons.mp ht with rfl | ht
    · exact tell_P h_tell_best rfl rfl (by decide) (fun _ _ _ => keep_dat rfl)
    rcases List.mem_cons.mp ht with rfl | ht
    · exact tell_P h_tell_shelf rfl rfl (by decide) (fun _ _ _ => keep_dat rfl)
    cases ht
  have hD : Defs P w K mg base C := ⟨q_tMk, q_tSw, q_tMi, q_tCo, q_tRi, q_tSh⟩
  have h_compared : Cal P w K mg base 8 "compared" (spN K C tCo) := c_compared T Z (D "compared" 72 (by decide +kernel)) h_refused DD.d4 hD.co
  have h_called : Cal P w K mg base 9 "called" (spN K C tAll) := c_called T (D "called" 145 (by decide +kernel)) DD hD h_compared
  have h_as_it_is : Cal P w K mg base 1 "as_it_is" (SpK (pAsIs K C)) := c_as_it_is T (D "as_it_is" 19 (by decide +kernel))
  have h_keep_change : Cal P w K mg base 2 "keep_change" (spKeep K C) := c_keep T Z (D "keep_change" 20 (by decide +kernel)) h_as_it_is
  have h_tell_back : Cal P w K mg base 2 "tell_back" (spBack K C) := c_back T B Z (D "tell_back" 21 (by decide +kernel)) h_refused
  have h_begin : Cal P w K mg base 2 "begin" (spBegin K C) := c_begin T B Z (D "begin" 77 (by decide +kernel)) h_refused
  have h_answered : Cal P w K mg base 10 "answered" (spAns K C) := c_answered T Z (D "answered" 146 (by decide +kernel)) h_refused h_begin h_tell_back h_as_it_is h_called h_keep_change
  have h_cut : Cal P w K mg base 1 "cut" (spCut K) := c_cut B O2 (D "cut" 2 (by decide +kernel))
  exact ⟨h_cut, h_answered⟩
end
end Sw
set_option Elab.async false
set_option linter.all false
set_option maxRecDepth 100000
set_option maxHeartbeats 2000000
set_option exponentiation.threshold 3000
namespace Sw
open PySem PySem.Spec PyProof.Rows L2 Kx
open Evl (given given_yes given_no given_len)
section
variable {P : Program} {w : World} {K : PySem.W.Frag} {h : Heap} {mg : Str → Option Value}
/-! ### from what the head saw to what the module has -/
theorem fact_of (c : SaysM w K) {f : He.Fa} (hf : f ∈ faL) : f.ok K = true := by
  obtain ⟨i, hi⟩ := List.mem_iff_getElem?.mp hf
  exact He.SaysD.fact (He.SaysT.d c.1) i hi
theorem def_of (c : SaysM w K) {d : He.DefD} (hd : d ∈ fnL) : ∃ fd, FunD K d.name d.qual d.params d.body d.scope (d.dvs K) (d.kws K) (He.fAd K d.at_) fd := by
  obtain ⟨i, hi⟩ := List.mem_iff_getElem?.mp hd
  exact He.SaysD.def_ (He.SaysT.d c.1) i hi
theorem noat_l {x : Str} (h : x ∈ atl) : He.Fa.noat "Desk" x ∈ faL :=
  List.mem_cons_of_mem _ (List.mem_cons_of_mem _ (List.mem_cons_of_mem _ (List.mem_append_left _ (List.mem_map.mpr ⟨x, h, rfl⟩))))
theorem free_fl {x : Str} (h : x ∈ fl) : He.Fa.free x ∈ faL :=
  List.mem_cons_of_mem _ (List.mem_cons_of_mem _ (List.mem_cons_of_mem _ (List.mem_append_right _ (List.mem_append_left _ (List.mem_map.mpr ⟨x, h, rfl⟩)))))
theorem int_il {x : Str} {i : Int} (h : (x, i) ∈ il) : He.Fa.int x i ∈ faL :=
  List.mem_cons_of_mem _ (List.mem_cons_of_mem _ (List.mem_cons_of_mem _ (List.mem_append_right _ (List.mem_append_right _ (List.mem_append_left _ (List.mem_map.mpr ⟨(x, i), h, rfl⟩))))))
theorem glo_dl {g : Str} {i : Nat} (h : (g, i) ∈ dl) : He.Fa.glo g ∈ faL :=
  List.mem_cons_of_mem _ (List.mem_cons_of_mem _ (List.mem_cons_of_mem _ (List.mem_append_right _ (List.mem_append_right _ (List.mem_append_right _ (List.mem_append_left _ (List.mem_map.mpr ⟨(g, i), h, rfl⟩)))))))
theorem glo_dict {x : Str} {kv : List (Str × Str)} (h : (x, kv) ∈ dicts) : He.Fa.glo x ∈ faL :=
  List.mem_cons_of_mem _ (List.mem_cons_of_mem _ (List.mem_cons_of_mem _ (List.mem_append_right _ (List.mem_append_right _ (List.mem_append_right _ (List.mem_append_right _ (List.mem_map.mpr ⟨(x, kv), h, rfl⟩)))))))
theorem defAt_of (X : K.In h) (G : h.Ns mainGlobals mg) (c : SaysM w K) (g : Str) (i : Nat) (hm : (g, i) ∈ dl) : DefAt K mg g (top i) := by
  obtain ⟨fd, F⟩ := def_of c (d := dOf (g, i)) (List.mem_cons_of_mem _ (List.mem_map.mpr ⟨(g, i), hm, rfl⟩))
  exact ⟨He.ga K g, fd, F, He.glo_ok X G (fact_of c (glo_dl hm))⟩
theorem bl_of (X : K.In h) (G : h.Ns mainGlobals mg) (c : SaysM w K) : Bl mg := by
  have f : ∀ x : Str, x ∈ fl → mg x = none := fun x hx => He.free_ok X G (fact_of c (free_fl hx))
  exact ⟨f "len" (by decide +kernel), f "sum" (by decide +kernel), f "range" (by decide +kernel), f "enumerate" (by decide +kernel), f "tuple" (by decide +kernel), f "list" (by decide +kernel), f "any" (by decide +kernel), f "all" (by decide +kernel), f "abs" (by decide +kernel), f "max" (by decide +kernel), f "min" (by decide +kernel)⟩
theorem ct_of (X : K.In h) (G : h.Ns mainGlobals mg) (c : SaysM w K) : Ct mg := by
  have f : ∀ (x : Str) (i : Int), (x, i) ∈ il → Con mg x i := fun x i hx => by
    obtain ⟨t, ht⟩ := He.int_ok X G (fact_of c (int_il hx))
    exact ⟨_, ht, ⟨t, rfl⟩⟩
  exact ⟨f "NO_SUCH" 2 (by decide +kernel), f "NOTHING_THERE" 6 (by decide +kernel), f "NOT_BEGUN" 11 (by decide +kernel), f "NOT_RIGHT" 22 (by decide +kernel), f "NONE_FOUND" 33 (by decide +kernel), f "TOO_MANY" 75 (by decide +kernel), f "PLACES" 4 (by decide +kernel), f "MOST_BACK" 10 (by decide +kernel), f "MOST_VOTERS" 4 (by decide +kernel), f "MOST_THING" 2 (by decide +kernel), f "COMPARISONS" 3 (by decide +kernel), f "MOST_BITS" 5 (by decide +kernel), f "MOST_TOLD" 32 (by decide +kernel), f "MOST_WEIGHT" 9 (by decide +kernel), f "MOST_LOWER_mishearing" 20 (by decide +kernel), f "MOST_LOWER_rises" 100 (by decide +kernel), f "MOST_TRIES" 6 (by decide +kernel), f "MOST_WAY" 2 (by decide +kernel), f "MOST_MEASURE" 3 (by decide +kernel)⟩
theorem cl_of (c : SaysM w K) : ClD K (He.ga K "Desk") := by
  have f : ∀ x : Str, x ∈ atl → NoAttr K (He.ga K "Desk") x := fun x hx => He.noat_ok (fact_of c (noat_l hx))
  exact ⟨He.cls_ok (fact_of c (f := .cls "Desk") (List.mem_cons_self ..)), f "bits" (by decide +kernel), f "says" (by decide +kernel), f "chance" (by decide +kernel), f "shelf" (by decide +kernel), f "past" (by decide +kernel)⟩
theorem mk_of (c : SaysM w K) : Mk K (He.ga K "Desk") (He.ma K (He.ga K "Desk") "__init__") := He.mkr_ok (fact_of c (f := .mkr "Desk") (List.mem_cons_of_mem _ (List.mem_cons_self ..)))
theorem tb_of {x : Str} {rows : List (List He.Dv)} {rs : List (List V)} (t : Tups K mg x rows) (e : rows.map (List.map (He.Dv.v K)) = rs) : Tb K mg x rs := by
  obtain ⟨T, as, h1, h2, h3⟩ := t.ex
  refine ⟨T, as, h1, by rw [h2, ← e, List.length_map], fun H => ⟨(h3 H).1, fun i a r ha hr => ?_⟩⟩
  rw [← e, List.getElem?_map] at hr
  cases hq : rows[i]? with
  | none => rw [hq] at hr; cases hr
  | some r0 =>
    rw [hq] at hr
    have hr : r0.map (He.Dv.v K) = r := Option.some.inj hr
    subst hr
    exact (h3 H).2 i a r0 ha hq
theorem rows_orders : orderRows.map (List.map (He.Dv.v K)) = ordRows := rfl
theorem rows_calls : callRows.map (List.map (He.Dv.v K)) = callRowsV := rfl
theorem ns_none {a : Addr} {ks : List Str} (h : He.dicW K a = some (He.keysIn w.params ks)) {z : Str} (hz : ∀ k ∈ ks, z ≠ k) : PySem.W.nsIn K a z = some none := by
  unfold He.dicW at h
  cases q : K.lookup a with
  | none =>
    rw [q] at h
    cases h
  | some o =>
    obtain ⟨ocl, odi, dta, slo⟩ := o
    rw [q] at h
    cases ocl with
    | type cn =>
      cases odi with
      | none =>
        cases dta with
        | dict ents n =>
          have hw1 : (match decide (cn = "dict") && (slo.isEmpty && !(a == sysModules)) with
            | true => some (ents.toList.map He.keyOf)
            | false => none) = some (He.keysIn w.params ks) := h
          cases yes0 : decide (cn = "dict") && (slo.isEmpty && !(a == sysModules)) with
          | false =>
            rw [yes0] at hw1
            cases hw1
          | true =>
            rw [yes0] at hw1
            have h2 : ents.toList.map He.keyOf = He.keysIn w.params ks := Option.some.inj hw1
            have key : ∀ e ∈ ents.toList, ∃ x t, e.key = .str x t ∧ x ∈ ks := fun e he => by
              have m : He.keyOf e ∈ He.keysIn w.params ks := by
                rw [← h2]
                exact List.mem_map.mpr ⟨e, he, rfl⟩
              obtain ⟨k, hk, ek⟩ := List.mem_map.mp m
              unfold He.keyOf at ek
              split at ek
              · rename_i x t e1
                have := Option.some.inj ek
                injection this with e2 e3
                exact ⟨x, t, e1, e2 ▸ hk⟩
              · cases ek
            have f1 : ents.toList.find? (·.key.isStr z) = none := List.find?_eq_none.mpr fun e he => by
              obtain ⟨x, t, e1, hx⟩ := key e he
              rw [e1]
              show ¬ ((x == z) = true)
              intro e2
              exact hz x hx (eq_of_beq e2).symm
            have f2 : ents.toList.any (·.refKey) = false := List.any_eq_false.mpr fun e he => by
              obtain ⟨x, t, e1, hx⟩ := key e he
              unfold DictEntry.refKey
              rw [e1]
              intro z2
              cases z2
            unfold PySem.W.nsIn
            rw [q]
            dsimp only
            rw [f1]
            dsimp only
            rw [f2]
            rfl
        | _ => cases h
      | some b => cases dta <;> cases h
    | _ => cases odi <;> cases dta <;> cases h
theorem dct_of (X : K.In h) (G : h.Ns mainGlobals mg) (c : SaysM w K) (i : Nat) {x : Str} {kv : List (Str × Str)} (hi : dicts[i]? = some (x, kv)) (hk : (kv.all fun q => dl.any fun d => d.1 == q.2) = true) : Dct K w mg x kv := by
  have hmem : (x, kv) ∈ dicts := List.mem_of_getElem? hi
  have ht : tabL[i]? = some ((fun K => He.ga K x, kv.map (·.1)) : He.Tab) := by
    unfold tabL
    rw [List.getElem?_map, hi]
    rfl
  obtain ⟨es, n, hK⟩ := He.SaysT.tab c.1 i ht
  have hd : He.dicW K (He.ga K x) = some (He.keysIn w.params (kv.map (·.1))) := by
    have e : tabL.map (fun t => He.dicW K (t.1 K)) = tabL.map fun t => some (He.keysIn w.params t.2) := congrArg (fun z : He.AlT => z.2) c.1
    have e2 : (tabL.map fun t => He.dicW K (t.1 K))[i]? = (tabL.map fun t => some (He.keysIn w.params t.2))[i]? := by rw [e]
    rw [List.getElem?_map, List.getElem?_map, ht] at e2
    exact Option.some.inj e2
  have hv : He.valsB K (He.ga K x) (kv.map fun p => (p.1, He.Dv.glo p.2)) = true := by
    have h1 := (He.ba (He.ba (show (tupsB K "CALLS" callRows && (tupsB K "ORDERS" orderRows && dicts.all fun q => He.valsB K (He.ga K q.1) (q.2.map fun p => (p.1, He.Dv.glo p.2)))) = true from c.2)).2).2
    exact List.all_eq_true.mp h1 (x, kv) hmem
  refine ⟨He.ga K x, es, n, He.glo_ok X G (fact_of c (glo_dict hmem)), hK, fun q hq => ?_, fun z hz => ns_none hd fun k hk => ?_⟩
  · obtain ⟨u, hu, hr⟩ := He.valsB_ok hv (q := (q.1, He.Dv.glo q.2)) (List.mem_map.mpr ⟨q, hq, rfl⟩)
    obtain ⟨⟨g, j⟩, hg, e⟩ := List.any_eq_true.mp (List.all_eq_true.mp hk q hq)
    obtain rfl : g = q.2 := eq_of_beq e
    have hr : u = .ref (He.ga K q.2) := hr
    exact ⟨He.ga K q.2, by rw [hu, hr], He.glo_ok X G (fact_of c (glo_dl hg))⟩
  · obtain ⟨q, hq, e⟩ := List.mem_map.mp hk
    rw [← e]
    exact hz q hq
theorem dcts_of (X : K.In h) (G : h.Ns mainGlobals mg) (c : SaysM w K) : Dcts K w mg :=
  ⟨dct_of X G c 2 (kv := kvs tMk) rfl (by decide +kernel), dct_of X G c 0 (kv := kvs tSw) rfl (by decide +kernel), dct_of X G c 3 (kv := kvs tMi) rfl (by decide +kernel), dct_of X G c 1 (kv := kvs tCo) rfl (by decide +kernel), dct_of X G c 4 (kv := kvs tRi) rfl (by decide +kernel), dct_of X G c 5 (kv := kvs tSh) rfl (by decide +kernel)⟩
theorem facts (X : K.In h) (G : h.Ns mainGlobals mg) (c : SaysM w K) {fa : Addr} (hfa : mg "answers" = some (.ref fa)) : ∃ fd : FuncData, (∀ (s : Shared) (us : List Value), us.length = (["calls"] : List Str).length → BindsTo s fd ⟨us, []⟩ ((["calls"] : List Str).zip us)) ∧ ∀ base : Heap, K.In base → base.Ns mainGlobals mg → FnOk P w K mg base CX0 11 fa fd ["calls"] (spTop K) := by
  have hx := He.ba (show (tupsB K "CALLS" callRows && (tupsB K "ORDERS" orderRows && dicts.all fun q => He.valsB K (He.ga K q.1) (q.2.map fun p => (p.1, He.Dv.glo p.2)))) = true from c.2)
  have hm : (("answers" : Str), (147 : Nat)) ∈ dl := by decide +kernel
  obtain ⟨fd, F⟩ := def_of c (d := dOf ("answers", 147)) (List.mem_cons_of_mem _ (List.mem_map.mpr ⟨("answers", 147), hm, rfl⟩))
  have e : fa = He.ga K "answers" := by
    have e := hfa.symm.trans (He.glo_ok X G (fact_of c (glo_dl hm)))
    injection e with e
    injection e
  subst e
  obtain ⟨fdi, FI⟩ := def_of c (d := dInit) (List.mem_cons_self ..)
  have hmC : mg "Desk" = some (.ref (He.ga K "Desk")) := He.glo_ok X G (fact_of c (f := .glo "Desk") (List.mem_cons_of_mem _ (List.mem_cons_of_mem _ (List.mem_cons_self ..))))
  have B := bl_of X G c
  refine ⟨fd, fun s us hl => FunD.bindsA (ps := ["calls"]) F (fun _ _ _ _ _ _ us hl => match us, hl with | [_], _ => rfl) s us hl, fun base _ _ => ?_⟩
  obtain ⟨h1, h2⟩ := the_calls (P := P) (base := base) (cl_of c) B (ct_of X G c) (tb_of (tups_ok X G (He.ba hx.2).1) rows_orders) (tb_of (tups_ok X G hx.1) rows_calls) (defAt_of X G c) (dcts_of X G c)
  exact ok_answers (cl_of c) B hmC (mk_of c) FI (FunD.bindsN (ps := ["self"]) FI fun _ _ _ _ _ _ us hl => match us, hl with | [_], _ => rfl) h1 h2 F
end
end Sw
set_option Elab.async false
set_option linter.all false
set_option maxRecDepth 100000
set_option maxHeartbeats 2000000
set_option exponentiation.threshold 3000
namespace Sw
open PySem PySem.Spec PySem.W PyProof.Rows L2 Kx
open Evl (given given_yes given_no given_len)
/-- the walk that the head leaves, where the frozen part is known by the head's own facts -/
theorem walk_facts {row : OpenSpec} {lvl : Nat} {vp : Program} {names0 : List Str} {X0 : (Str → Option Value) → Heap → Prop} {Y0 : World → Heap → Prop} {dr : DefRec} {cx : CXT} {pars : List Str}
    (hw0 : row.wellSaid = true) (hd0 : dr.params.defaults = []) (hl0 : row.args.length = pars.length) (room : Room lvl callerA)
    (known : ∀ (w : World) (mg : Str → Option Value) (fa : Addr) (hp : Heap), Y0 w hp → hp.Ns mainGlobals mg → mg dr.name = some (.ref fa) → ∃ (K : PySem.W.Frag) (fd : FuncData) (sp : Sp), K.In hp ∧ (∀ (s : Shared) (us : List Value), us.length = pars.length → BindsTo s fd ⟨us, []⟩ (pars.zip us)) ∧
      (∀ (H : Hp) (xs : List V) (z : Codec.denoteAll row.args), OnlyF H → Codec.withinAll row.args z = true → Codec.app row.args row.asked z = true → DwAll K H xs (Codec.encAll row.args z) → sp xs H (fun v H' => Dw K H' v (row.ret.enc (Codec.app row.args row.f z))) fun _ _ _ => False) ∧
      ∀ bs : Heap, K.In bs → bs.Ns mainGlobals mg → FnOk row.prog w K mg bs cx lvl fa fd pars sp)
    (none0 : ∀ (H : Hp) (s : Shared) (e : Value) (s2 : Shared), cx [] H s (fun _ _ _ => False) e s2 → False) : PySem.W.WalkOS vp names0 X0 Y0 row dr [] (fun f vs => PySem.call f vs) := by
  intro w sA sB mg mb gr y fa o pm cd doc dV kV hob hdt hco hDf hmg hgn given0 us0 as0 hpr hly hrd hwl hlw
  obtain ⟨z, ez, eask⟩ := PySem.W.os_pre_some hpr
  obtain ⟨enc, hin⟩ := Codec.encAll_of_decAll row.args given0 z ez
  subst enc
  obtain ⟨K, fd, sp, hK, hbd, hsp, hfn⟩ := known w mg fa _ y gr.T.g hmg
  have run := spec_call (R := []) (cl := classAt sA.heap) (d0 := row.ret.enc (Codec.app row.args row.f z)) hK gr.T.g gr.T.b gr.T.builtins gr.T.nolimit hgn hwl (pl_encAll _ _) (layable_weight hly) room hfn hbd (by rw [encAll_len]; exact hl0) (fun H xs hO hS => hsp H xs z hO hin eask hS) fun H e s2 => none0 H sB e s2
  refine PySem.W.enter_call (codeAny_mono run fun r2 sC hq => ?_)
  obtain ⟨u, asC, rfl, k1, k2, k3, k4⟩ := hq
  refine ⟨.inl ⟨u, _, asC, rfl, fun _ => rfl, k1, ?_, fun f0 => ?_⟩, k2, k3, k4⟩
  · exact (OpenSpec.post_iff hw0 hin _ _).mpr rfl
  · exact Bool.noConfusion (show false = true from f0)
end Sw
open PySem PySem.W PySem.Calls PyProof.Rows
theorem PySem.Challenge.cw_swaybits_s01_answers_holds : PySem.Challenge.rw_swaybits_s01_answers.Holds := by
  w_on
  refine HandSHeadRun.head_spec (r := Sw.R) (q := Sw.qv) (H := Sw.hookM) (ob := Sw.obT) (M := 5200) (loose := Sw.names) (d := HandSHeadRun.topDef Sw.R.prog 147) (kwd := []) Sw.obT_eq (by kernel_rfl) (fun s => by kernel_rfl) Sw.run (by kernel_rfl) (by kernel_rfl) (by kernel_rfl) os_shapes (by decide +kernel) (by decide +kernel) ⟨rfl, rfl, rfl, rfl, rfl, by decide +kernel⟩ ?hw ?hc
  case hw => exact ⟨[.list [.int 9]], by decide +kernel, by decide +kernel⟩
  case hc =>
    refine Sw.walk_facts (row := Sw.R) (lvl := 11) (cx := L2.CX0) (pars := ["calls"]) (by decide +kernel) (by kernel_rfl) rfl ⟨rfl, by decide, by decide⟩ ?known (fun _ _ _ _ z => z)
    intro w mg fa h Y G hmg0
    obtain ⟨K, KX, c⟩ := Y
    have hmg : mg ("answers" : PySem.Str) = some (.ref fa) := by
      have e : (HandSHeadRun.topDef Sw.R.prog 147).name = ("answers" : PySem.Str) := by kernel_rfl
      rw [← e]
      exact hmg0
    obtain ⟨fd, hb, hF⟩ := Sw.facts (P := Sw.R.prog) (w := w) KX G c hmg
    refine ⟨K, fd, Sw.spTop K, KX, hb, fun H xs a hO hwi hask hx => ?_, hF⟩
    cases hx with
    | cons h1 h2 =>
      cases h2
      cases h1 with
      | lst hs ha =>
        have e := L2.ints_dw a.1 _ ha
        subst e
        exact ⟨_, a.1, rfl, hs, hask, fun p H2 hp => .lst (L2.SqL.of hp) (L2.dw_ints _)⟩
