import PyProof.Rows.All
import Wide.All
import OpenK.AllK
import Wide.FinOn
import Open.SpecLaws
import KE.OsGo
import HandS.ForSpec
import HandS.ForMost
import HandS.SortInts
import HandS.SetFor
import HandS.Conv
import HandS.CallLocal
import HandS.Evl
import HandS.Iter
import HandS.Dict
import KE.GoesMore
import KE.KTurns
import PySem.Challenge.RW_ballscover_s01_answers
set_option Elab.async false
set_option maxRecDepth 100000
set_option maxHeartbeats 4000000
set_option linter.unusedVariables false
/-! The mathematics of words, of balls and of what close and fill put in. -/
namespace BC
/-- the weight of a word of at most six bits -/
def wt (x : Nat) : Nat := Kh407.weight 6 x
theorem wt_zero : wt 0 = 0 := by decide +kernel
theorem wt_all : ∀ x < 64, 0 < x → wt x = x % 2 + wt (x / 2) := by decide +kernel
theorem wt_step {x : Nat} (h : x < 64) (h0 : 0 < x) : wt x = x % 2 + wt (x / 2) := wt_all x h h0
theorem wt_le_all : ∀ x < 64, wt x ≤ 6 := by decide +kernel
theorem weight_all : ∀ n < 7, ∀ x < 2 ^ n, Kh407.weight n x = wt x := by decide +kernel
theorem plus_all : ∀ n < 7, ∀ x < 2 ^ n, ∀ y < 2 ^ n, Kh407.plus n x y = x ^^^ y := by decide +kernel
theorem meet_all : ∀ n < 7, ∀ x < 2 ^ n, ∀ y < 2 ^ n, Kh407.meet n x y = x &&& y := by decide +kernel
theorem xor_lt {n x y : Nat} (hx : x < 2 ^ n) (hy : y < 2 ^ n) : x ^^^ y < 2 ^ n := Nat.xor_lt_two_pow hx hy
theorem pow_le {n : Nat} (h : n ≤ 6) : 2 ^ n ≤ 64 := Nat.pow_le_pow_right (by decide) h
theorem plus_eq {n x y : Nat} (hn : n ≤ 6) (hx : x < 2 ^ n) (hy : y < 2 ^ n) : Kh407.plus n x y = x ^^^ y := plus_all n (by omega) x hx y hy
theorem dist_eq {n x y : Nat} (hn : n ≤ 6) (hx : x < 2 ^ n) (hy : y < 2 ^ n) : Kh407.dist n x y = wt (x ^^^ y) := by
  unfold Kh407.dist
  rw [plus_eq hn hx hy, weight_all n (by omega) _ (xor_lt hx hy)]
theorem wt_zero_iff_all : ∀ x < 64, wt x = 0 → x = 0 := by decide +kernel
theorem ball_all : ∀ n < 7, ∀ r < 7, ((List.range (2 ^ n)).filter fun x => decide (wt x ≤ r)).length = Kh409.ball n r := by decide +kernel

/-! ### canonical lists -/
/-- rising, without a word twice, all of n bits -/
structure Canon (n : Nat) (c : List Nat) : Prop where
  lt : ∀ x ∈ c, x < 2 ^ n
  up : c.Pairwise (· < ·)
theorem Canon.nodup {n : Nat} {c : List Nat} (h : Canon n c) : c.Nodup := h.up.imp (fun h => Nat.ne_of_lt h)
theorem up_ext : ∀ {a b : List Nat}, a.Pairwise (· < ·) → b.Pairwise (· < ·) → (∀ x, x ∈ a ↔ x ∈ b) → a = b
  | [], [], _, _, _ => rfl
  | [], y :: b, _, _, h => by have := (h y).mpr (List.mem_cons_self ..); cases this
  | x :: a, [], _, _, h => by have := (h x).mp (List.mem_cons_self ..); cases this
  | x :: a, y :: b, ha, hb, h => by
    rw [List.pairwise_cons] at ha hb
    have e : x = y := by
      have h1 := (h x).mp (List.mem_cons_self ..)
      have h2 := (h y).mpr (List.mem_cons_self ..)
      rcases List.mem_cons.mp h1 with e | e
      · exact e
      · rcases List.mem_cons.mp h2 with e2 | e2
        · exact e2.symm
        · have := hb.1 x e; have := ha.1 y e2; omega
    subst e
    refine congrArg _ (up_ext ha.2 hb.2 fun z => ⟨fun hz => ?_, fun hz => ?_⟩)
    · rcases List.mem_cons.mp ((h z).mp (List.mem_cons_of_mem _ hz)) with e | e
      · have := ha.1 z hz; omega
      · exact e
    · rcases List.mem_cons.mp ((h z).mpr (List.mem_cons_of_mem _ hz)) with e | e
      · have := hb.1 z hz; omega
      · exact e
theorem range_up (n : Nat) : (List.range n).Pairwise (· < ·) := List.pairwise_lt_range
theorem sorted_mem {n : Nat} {c : List Nat} {x : Nat} : x ∈ Kh407.sorted n c ↔ x < 2 ^ n ∧ x ∈ c := by
  unfold Kh407.sorted Kh407.words
  rw [List.mem_filter, List.mem_range, List.contains_iff_mem]
theorem sorted_canon (n : Nat) (c : List Nat) : Canon n (Kh407.sorted n c) := ⟨fun _ h => (sorted_mem.mp h).1, (range_up _).filter _⟩
/-- what sorted hands over of words none of which stands there twice -/
theorem perm_sorted {n : Nat} {c l : List Nat} (p : l.Perm c) (s : l.Pairwise (· ≤ ·)) (nd : c.Nodup) (hl : ∀ x ∈ c, x < 2 ^ n) : l = Kh407.sorted n c := by
  have ndl : l.Nodup := p.nodup_iff.mpr nd
  refine up_ext ?_ (sorted_canon n c).up fun x => ?_
  · have h2 : l.Pairwise (fun a b => a ≤ b ∧ a ≠ b) := List.pairwise_and_iff.mpr ⟨s, ndl⟩
    exact h2.imp (fun h => Nat.lt_of_le_of_ne h.1 h.2)
  · rw [sorted_mem, p.mem_iff]
    exact ⟨fun h => ⟨hl x h, h⟩, fun h => h.2⟩
theorem canon_sorted {n : Nat} {c : List Nat} (h : Canon n c) : Kh407.sorted n c = c :=
  (perm_sorted (List.Perm.refl c) (h.up.imp (fun h => Nat.le_of_lt h)) h.nodup h.lt).symm
theorem canon_nil (n : Nat) : Canon n [] := ⟨fun _ h => (List.not_mem_nil h).elim, .nil⟩
theorem Canon.filter {n : Nat} {c : List Nat} (h : Canon n c) (p : Nat → Bool) : Canon n (c.filter p) := ⟨fun x hx => h.lt x (List.mem_filter.mp hx).1, h.up.filter _⟩
theorem Canon.erase {n : Nat} {c : List Nat} (h : Canon n c) (x : Nat) : Canon n (c.erase x) := ⟨fun y hy => h.lt y (List.mem_of_mem_erase hy), h.up.sublist List.erase_sublist⟩
theorem erase_filter {c : List Nat} (nd : c.Nodup) (x : Nat) : c.erase x = c.filter (fun w => decide (w ≠ x)) := by
  rw [nd.erase_eq_filter]
  refine List.filter_congr fun y _ => ?_
  by_cases e : y = x <;> simp [e]
theorem nodup_sub : ∀ {l m : List Nat}, l.Nodup → (∀ x ∈ l, x ∈ m) → l.length ≤ m.length
  | [], m, _, _ => Nat.zero_le _
  | x :: l, m, nd, h => by
    rw [List.nodup_cons] at nd
    have hx := h x (List.mem_cons_self ..)
    have ih := nodup_sub (l := l) (m := m.erase x) nd.2 fun y hy => by
      have hy2 := h y (List.mem_cons_of_mem _ hy)
      have ne : y ≠ x := fun e => nd.1 (e ▸ hy)
      exact (List.mem_erase_of_ne ne).mpr hy2
    rw [List.length_erase_of_mem hx] at ih
    have : 0 < m.length := List.length_pos_of_mem hx
    show l.length + 1 ≤ m.length
    omega
theorem nodup_len {n : Nat} {l : List Nat} (nd : l.Nodup) (h : ∀ x ∈ l, x < n) : l.length ≤ n := by
  have := nodup_sub (m := List.range n) nd fun x hx => List.mem_range.mpr (h x hx)
  rwa [List.length_range] at this
theorem Canon.len {n : Nat} {c : List Nat} (h : Canon n c) : c.length ≤ 2 ^ n := nodup_len h.nodup h.lt
theorem Canon.len64 {n : Nat} {c : List Nat} (h : Canon n c) (hn : n ≤ 6) : c.length ≤ 64 := Nat.le_trans h.len (pow_le hn)
/-- so many different words are all words -/
theorem nodup_full {n : Nat} {l : List Nat} (nd : l.Nodup) (h : ∀ x ∈ l, x < n) (hl : l.length = n) (x : Nat) (hx : x < n) : x ∈ l := by
  by_cases e : x ∈ l
  · exact e
  · have := nodup_len (n := n) (l := x :: l) (List.nodup_cons.mpr ⟨e, nd⟩) fun y hy => by
      rcases List.mem_cons.mp hy with q | q
      · rw [q]; exact hx
      · exact h y q
    rw [List.length_cons] at this
    omega
end BC

namespace BC
/-! ### close -/
/-- one step of close -/
def pairs (n : Nat) (c : List Nat) : List Nat := Kh407.sorted n (c ++ c.flatMap fun x => c.map fun y => Kh407.plus n x y)
def reps (n : Nat) : Nat → List Nat → List Nat
  | 0, c => c
  | k + 1, c => reps n k (pairs n c)
theorem closing_reps (n : Nat) : ∀ (k : Nat) (c : List Nat), Kh407.closing k ⟨n, c⟩ = ⟨n, reps n k c⟩
  | 0, _ => rfl
  | k + 1, c => by
    show Kh407.closing k ⟨n, pairs n c⟩ = ⟨n, reps n k (pairs n c)⟩
    exact closing_reps n k (pairs n c)
theorem reps_succ (n : Nat) : ∀ (k : Nat) (c : List Nat), reps n (k + 1) c = pairs n (reps n k c)
  | 0, _ => rfl
  | k + 1, c => by
    show reps n (k + 1) (pairs n c) = pairs n (reps n k (pairs n c))
    exact reps_succ n k (pairs n c)
theorem pairs_canon (n : Nat) (c : List Nat) : Canon n (pairs n c) := sorted_canon _ _
theorem reps_canon {n : Nat} {c : List Nat} (h : Canon n c) : ∀ k, Canon n (reps n k c)
  | 0 => h
  | k + 1 => by rw [reps_succ]; exact pairs_canon _ _
theorem pairs_mem {n : Nat} {c : List Nat} (hn : n ≤ 6) (h : ∀ x ∈ c, x < 2 ^ n) {z : Nat} : z ∈ pairs n c ↔ z ∈ c ∨ ∃ x ∈ c, ∃ y ∈ c, z = x ^^^ y := by
  unfold pairs
  rw [sorted_mem, List.mem_append, List.mem_flatMap]
  constructor
  · rintro ⟨_, e | ⟨x, hx, hz⟩⟩
    · exact .inl e
    · obtain ⟨y, hy, rfl⟩ := List.mem_map.mp hz
      exact .inr ⟨x, hx, y, hy, plus_eq hn (h x hx) (h y hy)⟩
  · rintro (e | ⟨x, hx, y, hy, rfl⟩)
    · exact ⟨h z e, .inl e⟩
    · exact ⟨xor_lt (h x hx) (h y hy), .inr ⟨x, hx, List.mem_map.mpr ⟨y, hy, plus_eq hn (h x hx) (h y hy)⟩⟩⟩
/-- closed: two words together are there -/
def Shut (c : List Nat) : Prop := ∀ x ∈ c, ∀ y ∈ c, x ^^^ y ∈ c
theorem pairs_shut {n : Nat} {c : List Nat} (hn : n ≤ 6) (h : Canon n c) (s : Shut c) : pairs n c = c := by
  refine up_ext (pairs_canon n c).up h.up fun z => ?_
  rw [pairs_mem hn h.lt]
  refine ⟨fun q => ?_, .inl⟩
  rcases q with q | ⟨x, hx, y, hy, rfl⟩
  · exact q
  · exact s x hx y hy
theorem xor_self_left (x y : Nat) : x ^^^ (x ^^^ y) = y := by rw [← Nat.xor_assoc, Nat.xor_self, Nat.zero_xor]
theorem xor_inj {x u v : Nat} (h : x ^^^ u = x ^^^ v) : u = v := by rw [← xor_self_left x u, h, xor_self_left]
theorem xor_four (x u v : Nat) : (x ^^^ u) ^^^ (x ^^^ v) = u ^^^ v := by
  rw [Nat.xor_comm x u, Nat.xor_assoc, xor_self_left]
structure Space (k : Nat) (V S : List Nat) : Prop where
  nd : V.Nodup
  len : V.length = 2 ^ k
  shut : Shut V
  sub : ∀ x ∈ V, x ∈ S
theorem reps_sub {n : Nat} {c : List Nat} (hn : n ≤ 6) (h : Canon n c) {k : Nat} {x : Nat} (hx : x ∈ reps n k c) : x ∈ reps n (k + 1) c := by
  rw [reps_succ]
  exact (pairs_mem hn (reps_canon h k).lt).mpr (.inl hx)
theorem reps_has {n : Nat} {c : List Nat} (hn : n ≤ 6) (h : Canon n c) {x : Nat} (hx : x ∈ c) : ∀ k, x ∈ reps n k c
  | 0 => hx
  | k + 1 => reps_sub hn h (reps_has hn h hx k)
theorem reps_in {n : Nat} {c V : List Nat} (hn : n ≤ 6) (h : Canon n c) (s : Shut V) (hc : ∀ x ∈ c, x ∈ V) : ∀ k, ∀ x ∈ reps n k c, x ∈ V
  | 0 => hc
  | k + 1 => fun x hx => by
    rw [reps_succ] at hx
    rcases (pairs_mem hn (reps_canon h k).lt).mp hx with q | ⟨y, hy, z, hz, rfl⟩
    · exact reps_in hn h s hc k x q
    · exact s y (reps_in hn h s hc k y hy) z (reps_in hn h s hc k z hz)
/-- behind k + 1 steps either all is closed or a closed set of 2 ^ k words is there -/
theorem grows {n : Nat} {c : List Nat} (hn : n ≤ 6) (h : Canon n c) {x0 : Nat} (h0 : x0 ∈ c) : ∀ k, Shut (reps n (k + 1) c) ∨ ∃ V, Space k V (reps n (k + 1) c)
  | 0 => by
    refine .inr ⟨[0], ⟨by simp, rfl, ?_, ?_⟩⟩
    · intro x hx y hy
      rw [List.mem_singleton] at hx hy
      subst hx hy
      simp
    · intro x hx
      rw [List.mem_singleton] at hx
      subst hx
      rw [reps_succ]
      exact (pairs_mem hn h.lt).mpr (.inr ⟨x0, h0, x0, h0, (Nat.xor_self x0).symm⟩)
  | k + 1 => by
    rcases grows hn h h0 k with s | ⟨V, v⟩
    · left
      rw [reps_succ, pairs_shut hn (reps_canon h _) s]
      exact s
    · by_cases all : ∀ x ∈ c, x ∈ V
      · left
        have e : ∀ z, z ∈ reps n (k + 1) c ↔ z ∈ V := fun z => ⟨reps_in hn h v.shut all (k + 1) z, v.sub z⟩
        have s : Shut (reps n (k + 1) c) := fun x hx y hy => (e _).mpr (v.shut x ((e x).mp hx) y ((e y).mp hy))
        rw [reps_succ, pairs_shut hn (reps_canon h _) s]
        exact s
      · right
        have ⟨x, hx⟩ := Classical.not_forall.mp all
        have ⟨hx, hv⟩ := Classical.not_imp.mp hx
        refine ⟨V ++ V.map (x ^^^ ·), ?_, ?_, ?_, ?_⟩
        · rw [List.nodup_append]
          refine ⟨v.nd, ?_, ?_⟩
          · exact List.Pairwise.map _ (fun a b ne e => ne (xor_inj e)) v.nd
          · intro a ha b hb e
            obtain ⟨u, hu, rfl⟩ := List.mem_map.mp hb
            refine hv ?_
            have := v.shut a ha u hu
            rw [e, Nat.xor_assoc, Nat.xor_self, Nat.xor_zero] at this
            exact this
        · rw [List.length_append, List.length_map, v.len, Nat.pow_succ]
          omega
        · intro a ha b hb
          rw [List.mem_append] at ha hb ⊢
          rcases ha with ha | ha <;> rcases hb with hb | hb
          · exact .inl (v.shut a ha b hb)
          · obtain ⟨u, hu, rfl⟩ := List.mem_map.mp hb
            refine .inr (List.mem_map.mpr ⟨a ^^^ u, v.shut a ha u hu, ?_⟩)
            show x ^^^ (a ^^^ u) = a ^^^ (x ^^^ u)
            rw [← Nat.xor_assoc, ← Nat.xor_assoc, Nat.xor_comm x a]
          · obtain ⟨u, hu, rfl⟩ := List.mem_map.mp ha
            refine .inr (List.mem_map.mpr ⟨u ^^^ b, v.shut u hu b hb, ?_⟩)
            show x ^^^ (u ^^^ b) = (x ^^^ u) ^^^ b
            rw [Nat.xor_assoc]
          · obtain ⟨u, hu, rfl⟩ := List.mem_map.mp ha
            obtain ⟨w, hw, rfl⟩ := List.mem_map.mp hb
            left
            show (x ^^^ u) ^^^ (x ^^^ w) ∈ V
            rw [xor_four]
            exact v.shut u hu w hw
        · intro a ha
          rcases List.mem_append.mp ha with ha | ha
          · exact reps_sub hn h (v.sub a ha)
          · obtain ⟨u, hu, rfl⟩ := List.mem_map.mp ha
            rw [reps_succ]
            exact (pairs_mem hn (reps_canon h _).lt).mpr (.inr ⟨x, reps_has hn h hx _, u, v.sub u hu, rfl⟩)
theorem reps_nil (n : Nat) : ∀ k, reps n k [] = []
  | 0 => rfl
  | k + 1 => by
    rw [reps_succ, reps_nil n k]
    show Kh407.sorted n [] = []
    exact canon_sorted (canon_nil n)
theorem reps_shut {n : Nat} {c : List Nat} (hn : n ≤ 6) (h : Canon n c) : Shut (reps n (n + 1) c) := by
  cases e : c with
  | nil =>
    rw [reps_nil]
    intro x hx
    cases hx
  | cons x0 r =>
    rw [← e]
    rcases grows hn h (x0 := x0) (by rw [e]; exact List.mem_cons_self ..) n with s | ⟨V, v⟩
    · exact s
    · intro x hx y hy
      have cn := reps_canon h (n + 1)
      exact v.sub _ (nodup_full v.nd (fun z hz => cn.lt z (v.sub z hz)) v.len _ (xor_lt (cn.lt x hx) (cn.lt y hy)))
theorem reps_fix {n : Nat} {c : List Nat} (hn : n ≤ 6) (h : Canon n c) : pairs n (reps n (n + 1) c) = reps n (n + 1) c := pairs_shut hn (reps_canon h _) (reps_shut hn h)
theorem reps_from {n : Nat} {c : List Nat} {k : Nat} (e : pairs n (reps n k c) = reps n k c) : ∀ j, reps n (k + j) c = reps n k c
  | 0 => rfl
  | j + 1 => by
    show reps n ((k + j) + 1) c = _
    rw [reps_succ, reps_from e j, e]
/-- where a step changes nothing any more close is through -/
theorem reps_end {n : Nat} {c : List Nat} (hn : n ≤ 6) (h : Canon n c) {k : Nat} (e : reps n (k + 1) c = reps n k c) : reps n k c = reps n (n + 1) c := by
  rw [reps_succ] at e
  rcases Nat.le_total k (n + 1) with q | q
  · have := reps_from e (n + 1 - k)
    rw [show k + (n + 1 - k) = n + 1 by omega] at this
    exact this.symm
  · have := reps_from (reps_fix hn h) (k - (n + 1))
    rw [show n + 1 + (k - (n + 1)) = k by omega] at this
    exact this
theorem reps_late {n : Nat} {c : List Nat} (hn : n ≤ 6) (h : Canon n c) {k : Nat} (q : n + 1 ≤ k) : reps n (k + 1) c = reps n k c := by
  have a := reps_from (reps_fix hn h) (k - (n + 1))
  have b := reps_from (reps_fix hn h) (k + 1 - (n + 1))
  rw [show n + 1 + (k - (n + 1)) = k by omega] at a
  rw [show n + 1 + (k + 1 - (n + 1)) = k + 1 by omega] at b
  rw [a, b]
end BC

namespace BC
/-! ### balls -/
theorem hits_eq {n : Nat} {c : List Nat} (hn : n ≤ 6) (h : Canon n c) {r x : Nat} (hx : x < 2 ^ n) : (c.filter fun w => decide (wt (w ^^^ x) ≤ r)).length = Kh409.hits ⟨n, c⟩ r x := by
  unfold Kh409.hits
  refine congrArg List.length (List.filter_congr fun y hy => ?_)
  show decide (wt (y ^^^ x) ≤ r) = decide (Kh407.dist n x y ≤ r)
  rw [dist_eq hn hx (h.lt y hy), Nat.xor_comm]
/-- how often each word is hit -/
def hitsOf (n : Nat) (c : List Nat) (r : Nat) : List Nat := (List.range (2 ^ n)).map (Kh409.hits ⟨n, c⟩ r)
def zs (l : List Nat) : List Int := l.map Int.ofNat
theorem ints_len (l : List Nat) : (zs l).length = l.length := List.length_map ..
theorem ints_append (a b : List Nat) : zs (a ++ b) = zs a ++ zs b := List.map_append ..
theorem mem_ints {l : List Nat} {z : Int} : z ∈ zs l ↔ ∃ k ∈ l, z = (k : Int) := by
  unfold zs
  rw [List.mem_map]
  exact ⟨fun ⟨k, h, e⟩ => ⟨k, h, e.symm⟩, fun ⟨k, h, e⟩ => ⟨k, h, e.symm⟩⟩
theorem ints_count (m : Nat) : ∀ l : List Nat, (zs l).count (m : Int) = l.count m
  | [] => rfl
  | x :: l => by
    show ((x : Int) :: zs l).count (m : Int) = (x :: l).count m
    rw [List.count_cons, List.count_cons, ints_count m l]
    by_cases e : x = m
    · simp [e]
    · have : ¬ (x : Int) = (m : Int) := by omega
      simp [e, this]
theorem count_map {α : Type} (f : α → Nat) (m : Nat) : ∀ l : List α, (l.map f).count m = (l.filter fun x => f x == m).length
  | [] => rfl
  | x :: l => by
    rw [List.map_cons, List.count_cons, count_map f m l, List.filter_cons]
    cases e : f x == m <;> simp
theorem times_eq (n : Nat) (c : List Nat) (r m : Nat) : (hitsOf n c r).count m = ((Kh407.words n).filter fun x => Kh409.hits ⟨n, c⟩ r x == m).length := count_map _ _ _
theorem hitsOf_mem {n : Nat} {c : List Nat} {r k : Nat} : k ∈ hitsOf n c r ↔ ∃ x < 2 ^ n, Kh409.hits ⟨n, c⟩ r x = k := by
  unfold hitsOf
  rw [List.mem_map]
  exact ⟨fun ⟨x, h, e⟩ => ⟨x, List.mem_range.mp h, e⟩, fun ⟨x, h, e⟩ => ⟨x, List.mem_range.mpr h, e⟩⟩
theorem hits_in {n : Nat} {c : List Nat} {r x : Nat} (hx : x < 2 ^ n) : Kh409.hits ⟨n, c⟩ r x ∈ hitsOf n c r := hitsOf_mem.mpr ⟨x, hx, rfl⟩
theorem hitsOf_len (n : Nat) (c : List Nat) (r : Nat) : (hitsOf n c r).length = 2 ^ n := by
  unfold hitsOf
  rw [List.length_map, List.length_range]
theorem covers_min {n : Nat} {c : List Nat} {r : Nat} {m : Int} (h1 : m ∈ zs (hitsOf n c r)) (h2 : ∀ y, y ∈ zs (hitsOf n c r) → m ≤ y) : decide (1 ≤ m) = Kh409.covers ⟨n, c⟩ r := by
  obtain ⟨k, hk, rfl⟩ := mem_ints.mp h1
  obtain ⟨x, hx, rfl⟩ := hitsOf_mem.mp hk
  unfold Kh409.covers Kh407.words
  rw [Bool.eq_iff_iff, decide_eq_true_eq, List.all_eq_true]
  constructor
  · intro q y hy
    have := h2 _ (mem_ints.mpr ⟨_, hits_in (c := c) (r := r) (List.mem_range.mp hy), rfl⟩)
    rw [decide_eq_true_eq]
    omega
  · intro q
    have := q x (List.mem_range.mpr hx)
    rw [decide_eq_true_eq] at this
    omega
theorem apart_max {n : Nat} {c : List Nat} {r : Nat} {m : Int} (h1 : m ∈ zs (hitsOf n c r)) (h2 : ∀ y, y ∈ zs (hitsOf n c r) → y ≤ m) : decide (m ≤ 1) = Kh409.apart ⟨n, c⟩ r := by
  obtain ⟨k, hk, rfl⟩ := mem_ints.mp h1
  obtain ⟨x, hx, rfl⟩ := hitsOf_mem.mp hk
  unfold Kh409.apart Kh407.words
  rw [Bool.eq_iff_iff, decide_eq_true_eq, List.all_eq_true]
  constructor
  · intro q y hy
    have := h2 _ (mem_ints.mpr ⟨_, hits_in (c := c) (r := r) (List.mem_range.mp hy), rfl⟩)
    rw [decide_eq_true_eq]
    omega
  · intro q
    have := q x (List.mem_range.mpr hx)
    rw [decide_eq_true_eq] at this
    omega
theorem hits_le {n : Nat} {c : List Nat} {r x : Nat} : Kh409.hits ⟨n, c⟩ r x ≤ c.length := List.length_filter_le ..

/-! ### fill -/
def farB (n r : Nat) (c : List Nat) (x : Nat) : Bool := c.all fun y => decide (2 * r < Kh407.dist n x y)
def fillStep (n r : Nat) (c : List Nat) (x : Nat) : List Nat := if farB n r c x then c ++ [x] else c
def fillTo (n r : Nat) (c : List Nat) (i : Nat) : List Nat := (List.range i).foldl (fillStep n r) c
theorem fillTo_zero (n r : Nat) (c : List Nat) : fillTo n r c 0 = c := rfl
theorem fillTo_succ (n r : Nat) (c : List Nat) (i : Nat) : fillTo n r c (i + 1) = fillStep n r (fillTo n r c i) i := by
  unfold fillTo
  rw [List.range_succ, List.foldl_append]
  rfl
theorem filled_eq (n r : Nat) (c : List Nat) : Kh409.filled ⟨n, c⟩ r = Kh407.sorted n (fillTo n r c (2 ^ n)) := rfl
structure Good (n : Nat) (c : List Nat) : Prop where
  lt : ∀ x ∈ c, x < 2 ^ n
  nd : c.Nodup
theorem Canon.good {n : Nat} {c : List Nat} (h : Canon n c) : Good n c := ⟨h.lt, h.nodup⟩
theorem Good.len {n : Nat} {c : List Nat} (h : Good n c) : c.length ≤ 2 ^ n := nodup_len h.nd h.lt
theorem far_notin {n r : Nat} {c : List Nat} (hn : n ≤ 6) {x : Nat} (hx : x < 2 ^ n) (f : farB n r c x = true) : x ∉ c := by
  intro hm
  have := List.all_eq_true.mp f x hm
  rw [decide_eq_true_eq, dist_eq hn hx hx, Nat.xor_self, wt_zero] at this
  omega
theorem fillTo_good {n r : Nat} {c : List Nat} (hn : n ≤ 6) (h : Good n c) : ∀ i, i ≤ 2 ^ n → Good n (fillTo n r c i)
  | 0, _ => h
  | i + 1, hi => by
    have ih := fillTo_good (r := r) hn h i (by omega)
    rw [fillTo_succ]
    unfold fillStep
    split
    · rename_i f
      have ni := far_notin hn (by omega : i < 2 ^ n) f
      refine ⟨fun x hx => ?_, ?_⟩
      · rcases List.mem_append.mp hx with q | q
        · exact ih.lt x q
        · rw [List.mem_singleton.mp q]; omega
      · rw [List.nodup_append]
        refine ⟨ih.nd, by simp, fun a ha b hb e => ?_⟩
        rw [List.mem_singleton] at hb
        rw [e, hb] at ha
        exact ni ha
    · exact ih
theorem far_eq {n r : Nat} {c : List Nat} (hn : n ≤ 6) (h : ∀ x ∈ c, x < 2 ^ n) {x : Nat} (hx : x < 2 ^ n) : (c.map fun w => decide (2 * r < wt (x ^^^ w))).all id = farB n r c x := by
  unfold farB
  rw [List.all_map, Bool.eq_iff_iff, List.all_eq_true, List.all_eq_true]
  constructor
  · intro q y hy
    rw [dist_eq hn hx (h y hy)]
    exact q y hy
  · intro q y hy
    have := q y hy
    rw [dist_eq hn hx (h y hy)] at this
    exact this
/-! ### sorted of whole numbers is sorted of words -/
theorem ints_perm {c : List Nat} {l : List Int} (p : l.Perm (zs c)) : ∃ m : List Nat, l = zs m ∧ m.Perm c := by
  refine ⟨l.map Int.toNat, ?_, ?_⟩
  · unfold zs
    rw [List.map_map]
    have : ∀ z ∈ l, (Int.ofNat ∘ Int.toNat) z = z := fun z hz => by
      obtain ⟨k, _, rfl⟩ := mem_ints.mp (p.mem_iff.mp hz)
      rfl
    rw [List.map_congr_left this, List.map_id']
  · have q := p.map Int.toNat
    unfold zs at q
    rw [List.map_map] at q
    have e : c.map (Int.toNat ∘ Int.ofNat) = c := (List.map_congr_left (g := fun x => x) (fun x _ => rfl)).trans (List.map_id' _)
    rw [e] at q
    exact q
theorem ints_sorted {n : Nat} {c : List Nat} (g : Good n c) {l : List Int} (p : l.Perm (zs c)) (s : l.Pairwise (· ≤ ·)) : l = zs (Kh407.sorted n c) := by
  obtain ⟨m, rfl, q⟩ := ints_perm p
  refine congrArg zs (perm_sorted q ?_ g.nd g.lt)
  unfold zs at s
  rw [List.pairwise_map] at s
  exact s.imp (fun h => Int.ofNat_le.mp h)
/-! ### put, take, move -/
theorem put_good {n : Nat} {c : List Nat} (h : Canon n c) {x : Nat} (hx : x < 2 ^ n) (ni : x ∉ c) : Good n (c ++ [x]) := by
  refine ⟨fun y hy => ?_, ?_⟩
  · rcases List.mem_append.mp hy with q | q
    · exact h.lt y q
    · rw [List.mem_singleton.mp q]; exact hx
  · rw [List.nodup_append]
    refine ⟨h.nodup, by simp, fun a ha b hb e => ?_⟩
    rw [List.mem_singleton] at hb
    rw [e, hb] at ha
    exact ni ha
theorem put_eq {n : Nat} {c : List Nat} (x : Nat) : Kh407.sorted n (c ++ [x]) = Kh407.sorted n (x :: c) := by
  unfold Kh407.sorted
  refine List.filter_congr fun y _ => ?_
  rw [Bool.eq_iff_iff, List.contains_iff_mem, List.contains_iff_mem, List.mem_append, List.mem_singleton, List.mem_cons]
  exact Or.comm
theorem sorted_len {n : Nat} {c : List Nat} (g : Good n c) : (Kh407.sorted n c).length = c.length := by
  have hp : (Kh407.sorted n c).Perm c := by
    refine (List.perm_ext_iff_of_nodup (sorted_canon n c).nodup g.nd).mpr fun x => ?_
    rw [sorted_mem]
    exact ⟨fun h => h.2, fun h => ⟨g.lt x h, h⟩⟩
  exact hp.length_eq
theorem move_good {n : Nat} {c : List Nat} (h : Canon n c) {y : Nat} (hy : y < 2 ^ n) : Good n (c.map (· ^^^ y)) := by
  refine ⟨fun z hz => ?_, ?_⟩
  · obtain ⟨x, hx, rfl⟩ := List.mem_map.mp hz
    exact xor_lt (h.lt x hx) hy
  · refine List.Pairwise.map _ (fun a b ne e => ne ?_) h.nodup
    rw [Nat.xor_comm a y, Nat.xor_comm b y] at e
    exact xor_inj e
theorem move_eq {n : Nat} {c : List Nat} (hn : n ≤ 6) (h : Canon n c) {y : Nat} (hy : y < 2 ^ n) : c.map (Kh407.plus n y) = c.map (· ^^^ y) :=
  List.map_congr_left fun x hx => by rw [plus_eq hn hy (h.lt x hx), Nat.xor_comm]
end BC

namespace BC
/-! ### the calls of one list -/
theorem whole_id (c : List (List Int)) : PyKh409.whole c = c := by
  unfold PyKh409.whole
  split <;> rfl
theorem map_whole (cs : List (List (List Int))) : cs.map PyKh409.whole = cs := (List.map_congr_left (g := fun x => x) (fun x _ => whole_id x)).trans (List.map_id' _)
/-- how many numbers are handed to each call -/
def handed : List Nat := [1, 1, 1, 1, 0, 1, 0, 1, 2, 1, 1, 1, 1, 1, 2, 1, 1, 0, 0, 1, 1, 1, 1, 0]
theorem shape_nat : ∀ p < 24, PyKh409.shape ((p : Nat) : Int) = some (handed.getD p 0, 0) := by decide +kernel
theorem shape_some {p : Int} {n k : Nat} (h : PyKh409.shape p = some (n, k)) : ∃ q : Nat, q < 24 ∧ p = (q : Int) ∧ n = handed.getD q 0 ∧ k = 0 := by
  by_cases hp : 0 ≤ p ∧ p < 24
  · obtain ⟨h0, h1⟩ := hp
    refine ⟨p.toNat, by omega, by omega, ?_⟩
    have e := shape_nat p.toNat (by omega)
    rw [show ((p.toNat : Nat) : Int) = p by omega, h] at e
    injection e with e
    injection e with e1 e2
    exact ⟨e1, e2⟩
  · unfold PyKh409.shape at h
    repeat rw [if_neg (by omega)] at h
    cases h
theorem calls_nil {f : Nat} : PyFlat.calls PyKh409.shape f [] = some [] := by cases f <;> rfl
theorem calls_cons {f : Nat} {p : Int} {r : List Int} {cs : List (List (List Int))} (h : PyFlat.calls PyKh409.shape f (p :: r) = some cs) :
    ∃ (g q : Nat) (cs' : List (List (List Int))), q < 24 ∧ p = (q : Int) ∧ handed.getD q 0 ≤ r.length ∧ cs = [p :: r.take (handed.getD q 0)] :: cs' ∧ PyFlat.calls PyKh409.shape g (r.drop (handed.getD q 0)) = some cs' := by
  cases f with
  | zero => cases h
  | succ g =>
    unfold PyFlat.calls at h
    cases e : PyFlat.call PyKh409.shape (p :: r) with
    | none =>
      rw [e] at h
      cases h
    | some ct =>
      obtain ⟨c, t⟩ := ct
      rw [e] at h
      unfold PyFlat.call at e
      dsimp only at e
      cases s : PyKh409.shape p with
      | none =>
        rw [s] at e
        cases e
      | some nk =>
        obtain ⟨n, k⟩ := nk
        obtain ⟨q, hq, hp, rfl, rfl⟩ := shape_some s
        rw [s] at e
        dsimp only at e h
        by_cases hl : r.length < handed.getD q 0
        · rw [if_pos hl] at e
          cases e
        · rw [if_neg hl] at e
          unfold PyFlat.rows at e
          dsimp only at e
          injection e with e
          injection e with e1 e2
          subst e1 e2
          cases z : PyFlat.calls PyKh409.shape g (r.drop (handed.getD q 0)) with
          | none =>
            rw [z] at h
            cases h
          | some cs' =>
            rw [z] at h
            dsimp only at h
            injection h with h
            exact ⟨g, q, cs', hq, hp, by omega, h.symm, z⟩
/-- what is asked of the numbers handed to a call -/
def Fits (c : List (List Int)) : Prop := ∀ (q : Nat) (xs : List Int), q < 24 → c = [(q : Int) :: xs] → ∀ x ∈ xs, 0 ≤ x ∧ x < 2147483648
theorem heads_len : ∀ q < 24, (Kh409Neutral.heads.getD q []).length = handed.getD q 0 := by decide +kernel
theorem heads_false : ∀ q < 24, ∀ b ∈ Kh409Neutral.heads.getD q [], b = false := by decide +kernel
theorem zip_all {f : Bool × Int → Bool} : ∀ {bs : List Bool} {xs : List Int}, bs.length = xs.length → (bs.zip xs).all f = true → ∀ x ∈ xs, ∃ b ∈ bs, f (b, x) = true
  | [], [], _, _, x, hx => by cases hx
  | b :: bs, y :: ys, hl, h, x, hx => by
    rw [List.zip_cons_cons, List.all_cons, Bool.and_eq_true] at h
    rcases List.mem_cons.mp hx with e | e
    · exact ⟨b, List.mem_cons_self .., by rw [e]; exact h.1⟩
    · obtain ⟨b', hb, q⟩ := zip_all (bs := bs) (xs := ys) (by simpa using hl) h.2 x e
      exact ⟨b', List.mem_cons_of_mem _ hb, q⟩
  | [], _ :: _, hl, _, _, _ => by cases hl
  | _ :: _, [], hl, _, _, _ => by cases hl
theorem asked_fits {c : List (List Int)} (h : Kh409Neutral.asked1 c = true) : Fits c := by
  intro q xs hq e x hx
  subst e
  have h2 : (Kh409Neutral.within (q : Int) 0 23 && (((q : Int) :: xs).length == 1 + (Kh409Neutral.heads.getD (Kh409Neutral.nat (q : Int)) []).length && (((Kh409Neutral.heads.getD (Kh409Neutral.nat (q : Int)) []).zip xs).all (fun x => Kh409Neutral.okNum x.1 x.2) && _))) = true := h
  rw [Bool.and_eq_true, Bool.and_eq_true, Bool.and_eq_true] at h2
  obtain ⟨_, hl, ha, _⟩ := h2
  have en : Kh409Neutral.nat (q : Int) = q := rfl
  rw [en] at hl ha
  rw [beq_iff_eq, List.length_cons] at hl
  obtain ⟨b, hb, ok⟩ := zip_all (by omega) ha x hx
  have := heads_false q hq b hb
  subst this
  have ok2 : (decide (0 ≤ x) && decide (x < 2 ^ 31)) = true := ok
  rw [Bool.and_eq_true, decide_eq_true_eq, decide_eq_true_eq] at ok2
  exact ⟨ok2.1, by omega⟩
/-- what answers gives, from some state and the calls that are left -/
def rest (s : Kh409Neutral.S) (cs : List (List (List Int))) : List Int := PyFlat.told (PyFlat.played Kh409Neutral.step s cs)
theorem rest_nil (s : Kh409Neutral.S) : rest s [] = [] := rfl
theorem rest_cons (s : Kh409Neutral.S) (c : List (List Int)) (cs : List (List (List Int))) :
    rest s (c :: cs) = ((Kh409Neutral.step s c).2.length : Int) :: (Kh409Neutral.step s c).2 ++ rest (Kh409Neutral.step s c).1 cs := by
  show PyFlat.told ((Kh409Neutral.step s c).2 :: PyFlat.played Kh409Neutral.step (Kh409Neutral.step s c).1 cs) = _
  unfold PyFlat.told
  rw [List.flatMap_cons]
  rfl
/-- what is asked, in a form that a walk takes -/
structure Asked (l : List Int) (cs : List (List (List Int))) : Prop where
  calls : PyFlat.calls PyKh409.shape l.length l = some cs
  fits : ∀ c ∈ cs, Fits c
  ans : PyKh409.answers l = rest Kh409Neutral.start cs
  short : (PyKh409.answers l).length ≤ 10000000
theorem asked_of {l : List Int} (h : PyKh409.answers_asked l = true) : ∃ cs, Asked l cs := by
  unfold PyKh409.answers_asked at h
  cases e : PyFlat.calls PyKh409.shape l.length l with
  | none =>
    rw [e] at h
    cases h
  | some cs =>
    rw [e] at h
    dsimp only at h
    rw [Bool.and_eq_true, Bool.and_eq_true, map_whole] at h
    obtain ⟨⟨_, ha⟩, hs⟩ := h
    refine ⟨cs, e, ?_, ?_, ?_⟩
    · unfold Kh409Neutral.asked at ha
      rw [Bool.and_eq_true, List.all_eq_true] at ha
      exact fun c hc => asked_fits (ha.2 c hc)
    · unfold PyKh409.answers PyKh409.calls
      rw [e]
      dsimp only
      rw [map_whole]
      rfl
    · unfold PyFlat.short at hs
      exact decide_eq_true_eq.mp hs
end BC

namespace BC
/-! ### each call, as the specification answers it -/
def stp (k : Nat) (s : Option Kh409.Abs) (xs : List Nat) : Option Kh409.Abs × List Int := Kh409Neutral.step s [(k : Int) :: zs xs]
/-- a call on an object that is begun -/
theorem stp_some {k : Nat} {a : Kh409.Abs} {xs : List Nat} {c : Kh409.Call} (e : Kh409Neutral.callOf1 [(k : Int) :: zs xs] = c) (nb : ∀ n, c ≠ .begin_ n) : stp k (some a) xs = (some (Kh409.does a c).1, (Kh409.does a c).2.ret :: (Kh409.does a c).2.out) := by
  unfold stp Kh409Neutral.step
  rw [e]
  cases c <;> first | rfl | exact absurd rfl (nb _)
theorem stp0 (s : Option Kh409.Abs) {n : Nat} (h1 : 1 ≤ n) (h6 : n ≤ 6) : stp 0 s [n] = (some ⟨n, []⟩, [0]) := by
  have e : Kh407.doing none (.begin_ n) = (some ⟨n, []⟩, Kh407.say 0) := if_neg (by show ¬ (n < 1 ∨ 6 < n); omega)
  have e2 : Kh409.doing s (.begin_ n) = (some ⟨n, []⟩, Kh409.say 0) := by
    unfold Kh409.doing
    dsimp only
    rw [e]
  show (let r := Kh409.doing s (.begin_ n); (r.1, r.2.ret :: r.2.out)) = _
  rw [e2]
  rfl
theorem isW_lt {a : Kh409.Abs} {x : Nat} (h : x < 2 ^ a.n) : ¬ Kh407.isW a x = false := by
  show ¬ decide (x < 2 ^ a.n) = false
  rw [decide_eq_true h]
  decide
theorem stp1_in {a : Kh409.Abs} {x : Nat} (h : x < 2 ^ a.n) (m : x ∈ a.c) : stp 1 (some a) [x] = (some a, [-17]) := by
  rw [stp_some (c := .put x) rfl (by intro n h; cases h)]
  have e : Kh407.does a (.put x) = (a, Kh407.say (-17)) := by
    show (if Kh407.isW a x = false then _ else if a.c.contains x = true then _ else _) = _
    rw [if_neg (isW_lt h), if_pos (List.contains_iff_mem.mpr m)]
  unfold Kh409.does
  dsimp only
  rw [e]
  rfl
theorem stp1_new {a : Kh409.Abs} {x : Nat} (h : x < 2 ^ a.n) (m : x ∉ a.c) : stp 1 (some a) [x] = (some ⟨a.n, Kh407.sorted a.n (x :: a.c)⟩, [((a.c.length + 1 : Nat) : Int)]) := by
  rw [stp_some (c := .put x) rfl (by intro n h; cases h)]
  have e : Kh407.does a (.put x) = ({ a with c := Kh407.sorted a.n (x :: a.c) }, Kh407.say (a.c.length + 1 : Nat)) := by
    show (if Kh407.isW a x = false then _ else if a.c.contains x = true then _ else _) = _
    rw [if_neg (isW_lt h), if_neg (fun z => m (List.contains_iff_mem.mp z))]
  unfold Kh409.does
  dsimp only
  rw [e]
  rfl
theorem stp2_not {a : Kh409.Abs} {x : Nat} (h : x < 2 ^ a.n) (m : x ∉ a.c) : stp 2 (some a) [x] = (some a, [-2]) := by
  rw [stp_some (c := .take x) rfl (by intro n h; cases h)]
  have e : Kh407.does a (.take x) = (a, Kh407.say (-2)) := by
    show (if Kh407.isW a x = false then _ else if a.c.contains x = false then _ else _) = _
    rw [if_neg (isW_lt h), if_pos (by cases z : a.c.contains x; rfl; exact absurd (List.contains_iff_mem.mp z) m)]
  unfold Kh409.does
  dsimp only
  rw [e]
  rfl
theorem stp2_in {a : Kh409.Abs} {x : Nat} (h : x < 2 ^ a.n) (m : x ∈ a.c) : stp 2 (some a) [x] = (some ⟨a.n, a.c.erase x⟩, [((a.c.length - 1 : Nat) : Int)]) := by
  rw [stp_some (c := .take x) rfl (by intro n h; cases h)]
  have e : Kh407.does a (.take x) = ({ a with c := a.c.erase x }, Kh407.say (a.c.length - 1 : Nat)) := by
    show (if Kh407.isW a x = false then _ else if a.c.contains x = false then _ else _) = _
    rw [if_neg (isW_lt h), if_neg (by rw [List.contains_iff_mem.mpr m]; decide)]
  unfold Kh409.does
  dsimp only
  rw [e]
  rfl
theorem stp3 {a : Kh409.Abs} {y : Nat} (h : y < 2 ^ a.n) : stp 3 (some a) [y] = (some ⟨a.n, Kh407.sorted a.n (a.c.map (Kh407.plus a.n y))⟩, [0]) := by
  rw [stp_some (c := .move y) rfl (by intro n h; cases h)]
  have e : Kh407.does a (.move y) = ({ a with c := Kh407.sorted a.n (a.c.map (Kh407.plus a.n y)) }, Kh407.say 0) := by
    show (if Kh407.isW a y = false then _ else _) = _
    rw [if_neg (isW_lt h)]
  unfold Kh409.does
  dsimp only
  rw [e]
  rfl
theorem stp4 {n : Nat} {c : List Nat} : stp 4 (some ⟨n, c⟩) [] = (some ⟨n, reps n (n + 1) c⟩, [((reps n (n + 1) c).length : Int)]) := by
  rw [stp_some (c := .close) rfl (by intro n h; cases h)]
  have e : Kh407.does ⟨n, c⟩ .close = (⟨n, reps n (n + 1) c⟩, Kh407.say (reps n (n + 1) c).length) := by
    show (Kh407.closing (n + 1) ⟨n, c⟩, Kh407.say (Kh407.closing (n + 1) ⟨n, c⟩).c.length) = _
    rw [closing_reps]
  unfold Kh409.does
  dsimp only
  rw [e]
  rfl
theorem stp5 {a : Kh409.Abs} {r : Nat} (h : r ≤ a.n) : stp 5 (some a) [r] = (some ⟨a.n, Kh409.filled a r⟩, [((Kh409.filled a r).length : Int)]) := by
  rw [stp_some (c := .fill r) rfl (by intro n h; cases h)]
  have e : Kh409.does a (.fill r) = ({ a with c := Kh409.filled a r }, Kh409.say (Kh409.filled a r).length) := if_neg (by omega)
  rw [e]
  rfl
theorem stp6 {a : Kh409.Abs} : stp 6 (some a) [] = (some a, (a.c.length : Int) :: zs a.c) := stp_some (c := .words) rfl (by intro n h; cases h)
theorem r_ok {a : Kh409.Abs} {r : Nat} (h : r ≤ a.n) (f : Unit → Kh409.Ans) : Kh409.r_ a r f = f () := if_neg (by omega)
theorem stp7 {a : Kh409.Abs} {r : Nat} (h : r ≤ a.n) : stp 7 (some a) [r] = (some a, [(Kh409.ball a.n r : Int)]) := by
  rw [stp_some (c := .ball r) rfl (by intro n h; cases h)]
  unfold Kh409.does
  dsimp only
  rw [r_ok h]
  rfl
theorem stp8 {a : Kh409.Abs} {r x : Nat} (h : r ≤ a.n) (hx : x < 2 ^ a.n) : stp 8 (some a) [r, x] = (some a, [(Kh409.hits a r x : Int)]) := by
  rw [stp_some (c := .hits r x) rfl (by intro n h; cases h)]
  unfold Kh409.does
  dsimp only
  rw [if_neg (fun z => z.elim (fun q => by omega) (isW_lt hx))]
  rfl
theorem stp9 {a : Kh409.Abs} {r : Nat} (h : r ≤ a.n) : stp 9 (some a) [r] = (some a, ((a.c.length + 1 : Nat) : Int) :: zs ((List.range (a.c.length + 1)).map fun m => ((Kh407.words a.n).filter fun x => Kh409.hits a r x == m).length)) := by
  rw [stp_some (c := .times r) rfl (by intro n h; cases h)]
  unfold Kh409.does
  dsimp only
  rw [r_ok h]
  rfl
theorem stp10 {a : Kh409.Abs} {r : Nat} (h : r ≤ a.n) : stp 10 (some a) [r] = (some a, [if Kh409.covers a r then 1 else 0]) := by
  rw [stp_some (c := .covers r) rfl (by intro n h; cases h)]
  unfold Kh409.does
  dsimp only
  rw [r_ok h]
  rfl
theorem stp11 {a : Kh409.Abs} {r : Nat} (h : r ≤ a.n) : stp 11 (some a) [r] = (some a, [if Kh409.apart a r then 1 else 0]) := by
  rw [stp_some (c := .apart r) rfl (by intro n h; cases h)]
  unfold Kh409.does
  dsimp only
  rw [r_ok h]
  rfl
/-! ### the refusals -/
theorem stp_none {k : Nat} (hk : k ≠ 0) (h24 : k < 24) (xs : List Nat) : stp k none xs = (none, [-61]) := by
  have all : ∀ c : Kh409.Call, (∀ n, c ≠ .begin_ n) → Kh409.doing none c = (none, Kh409.say (-61)) := fun c nb => by
    cases c <;> first | rfl | exact absurd rfl (nb _)
  have ne : ∀ n, Kh409Neutral.callOf1 [(k : Int) :: zs xs] ≠ .begin_ n := by
    intro n
    match k, hk, h24 with
    | 1, _, _ | 2, _, _ | 3, _, _ | 4, _, _ | 5, _, _ | 6, _, _ | 7, _, _ | 8, _, _ | 9, _, _ | 10, _, _ | 11, _, _ | 12, _, _ | 13, _, _ | 14, _, _ | 15, _, _ | 16, _, _ | 17, _, _ | 18, _, _ | 19, _, _ | 20, _, _ | 21, _, _ | 22, _, _ | 23, _, _ => intro h; cases h
    | m + 24, _, h => omega
  unfold stp Kh409Neutral.step
  rw [all _ ne]
  rfl
/-- what is handed to each call, a letter for each number -/
def letters : List (List Nat) := [[98], [120], [120], [120], [], [114], [], [114], [114, 120], [114], [114], [114], [114], [114], [114, 105], [114], [114], [], [], [114], [120], [114], [114], []]
def wrong (b l v : Nat) : Bool := if l = 98 then decide (v < 1) || decide (6 < v) else if l = 120 then decide (2 ^ b ≤ v) else decide (b < v)
/-- one of the numbers is refused; b: the bits (0: not begun) -/
def wrongs (b k : Nat) (xs : List Nat) : Bool := ((letters.getD k []).zip xs).any fun p => wrong b p.1 p.2
theorem wrong_begin (s : Option Kh409.Abs) (b : Nat) {xs : List Nat} (hl : xs.length = 1) (h : wrongs b 0 xs = true) : stp 0 s xs = (s, [-22]) := by
  match xs, hl with
  | [n], _ =>
    have h2 : ((decide (n < 1) || decide (6 < n)) || false) = true := h
    rw [Bool.or_false, Bool.or_eq_true, decide_eq_true_eq, decide_eq_true_eq] at h2
    have e : Kh407.doing none (.begin_ n) = (none, Kh407.say (-22)) := if_pos h2
    have e2 : Kh409.doing s (.begin_ n) = (s, Kh409.say (-22)) := by
      unfold Kh409.doing
      dsimp only
      rw [e]
    show (let r := Kh409.doing s (.begin_ n); (r.1, r.2.ret :: r.2.out)) = _
    rw [e2]
    rfl
theorem isW_ge {a : Kh409.Abs} {x : Nat} (h : 2 ^ a.n ≤ x) : Kh407.isW a x = false := decide_eq_false (by omega)
theorem wx {b v : Nat} (h : wrong b 120 v = true) : 2 ^ b ≤ v := decide_eq_true_eq.mp h
theorem wr {b v : Nat} (h : wrong b 114 v = true) : b < v := decide_eq_true_eq.mp h
theorem wi {b v : Nat} (h : wrong b 105 v = true) : b < v := decide_eq_true_eq.mp h
theorem one_of {b l v : Nat} (h : (wrong b l v || false) = true) : wrong b l v = true := by rwa [Bool.or_false] at h
/-- the specification refuses just so, where a call is handed a wrong number -/
theorem wrong_some (a : Kh409.Abs) {k : Nat} (hk : k ≠ 0) (h24 : k < 24) {xs : List Nat} (hl : xs.length = handed.getD k 0) (h : wrongs a.n k xs = true) : stp k (some a) xs = (some a, [-22]) := by
  have fin : ∀ c, Kh409Neutral.callOf1 [(k : Int) :: zs xs] = c → (∀ n, c ≠ .begin_ n) → Kh409.does a c = (a, Kh409.say (-22)) → stp k (some a) xs = (some a, [-22]) := fun c e nb d => by
    rw [stp_some e nb, d]
    rfl
  have rr : ∀ (r : Nat) (f : Unit → Kh409.Ans), a.n < r → Kh409.r_ a r f = Kh409.say (-22) := fun r f z => if_pos z
  match k, hk, h24, xs, hl with
  | 1, _, _, [x], _ => exact fin (.put x) rfl (by intro n h; cases h) (by show Kh409.of407 (if Kh407.isW a x = false then _ else _) = _; rw [if_pos (isW_ge (wx (one_of h)))]; rfl)
  | 2, _, _, [x], _ => exact fin (.take x) rfl (by intro n h; cases h) (by show Kh409.of407 (if Kh407.isW a x = false then _ else _) = _; rw [if_pos (isW_ge (wx (one_of h)))]; rfl)
  | 3, _, _, [x], _ => exact fin (.move x) rfl (by intro n h; cases h) (by show Kh409.of407 (if Kh407.isW a x = false then _ else _) = _; rw [if_pos (isW_ge (wx (one_of h)))]; rfl)
  | 4, _, _, [], _ => cases h
  | 5, _, _, [r], _ => exact fin (.fill r) rfl (by intro n h; cases h) (if_pos (wr (one_of h)))
  | 6, _, _, [], _ => cases h
  | 7, _, _, [r], _ => exact fin (.ball r) rfl (by intro n h; cases h) (congrArg (Prod.mk a) (rr r _ (wr (one_of h))))
  | 8, _, _, [r, x], _ =>
    have h2 : (wrong a.n 114 r || (wrong a.n 120 x || false)) = true := h
    rw [Bool.or_false, Bool.or_eq_true] at h2
    exact fin (.hits r x) rfl (by intro n h; cases h) (congrArg (Prod.mk a) (if_pos (h2.elim (fun z => .inl (wr z)) fun z => .inr (isW_ge (wx z)))))
  | 9, _, _, [r], _ => exact fin (.times r) rfl (by intro n h; cases h) (congrArg (Prod.mk a) (rr r _ (wr (one_of h))))
  | 10, _, _, [r], _ => exact fin (.covers r) rfl (by intro n h; cases h) (congrArg (Prod.mk a) (rr r _ (wr (one_of h))))
  | 11, _, _, [r], _ => exact fin (.apart r) rfl (by intro n h; cases h) (congrArg (Prod.mk a) (rr r _ (wr (one_of h))))
  | 12, _, _, [r], _ => exact fin (.fills r) rfl (by intro n h; cases h) (congrArg (Prod.mk a) (rr r _ (wr (one_of h))))
  | 13, _, _, [r], _ => exact fin (.evenly r) rfl (by intro n h; cases h) (congrArg (Prod.mk a) (rr r _ (wr (one_of h))))
  | 14, _, _, [r, i], _ =>
    have h2 : (wrong a.n 114 r || (wrong a.n 105 i || false)) = true := h
    rw [Bool.or_false, Bool.or_eq_true] at h2
    exact fin (.round r i) rfl (by intro n h; cases h) (congrArg (Prod.mk a) (if_pos (h2.elim (fun z => .inl (wr z)) fun z => .inr (wi z))))
  | 15, _, _, [r], _ => exact fin (.zeros r) rfl (by intro n h; cases h) (congrArg (Prod.mk a) (rr r _ (wr (one_of h))))
  | 16, _, _, [r], _ => exact fin (.inTheWay r) rfl (by intro n h; cases h) (congrArg (Prod.mk a) (rr r _ (wr (one_of h))))
  | 17, _, _, [], _ => cases h
  | 18, _, _, [], _ => cases h
  | 19, _, _, [r], _ => exact fin (.uncovered r) rfl (by intro n h; cases h) (congrArg (Prod.mk a) (rr r _ (wr (one_of h))))
  | 20, _, _, [x], _ => exact fin (.mend x) rfl (by intro n h; cases h) (congrArg (Prod.mk a) (if_pos (isW_ge (wx (one_of h)))))
  | 21, _, _, [r], _ => exact fin (.cover r) rfl (by intro n h; cases h) (congrArg (Prod.mk a) (rr r _ (wr (one_of h))))
  | 22, _, _, [r], _ => exact fin (.needed r) rfl (by intro n h; cases h) (congrArg (Prod.mk a) (rr r _ (wr (one_of h))))
  | 23, _, _, [], _ => cases h
  | m + 24, _, h, _, _ => omega
/-! ### where no number is refused -/
def Fine (k : Nat) (s : Option Kh409.Abs) (xs : List Nat) : Prop := xs.length = handed.getD k 0 ∧ ((k = 0 ∧ ∃ b, wrongs b 0 xs = false) ∨ (k ≠ 0 ∧ ∃ a, s = some a ∧ wrongs a.n k xs = false))
theorem len1 {α : Type} {xs : List α} (h : xs.length = 1) : ∃ x, xs = [x] := match xs, h with | [x], _ => ⟨x, rfl⟩
theorem len2 {α : Type} {xs : List α} (h : xs.length = 2) : ∃ x y, xs = [x, y] := match xs, h with | [x, y], _ => ⟨x, y, rfl⟩
theorem Fine.some {k : Nat} {s : Option Kh409.Abs} {xs : List Nat} (h : Fine k s xs) (hk : k ≠ 0) : ∃ a, s = some a ∧ xs.length = handed.getD k 0 ∧ wrongs a.n k xs = false := by
  obtain ⟨hl, ⟨z, _⟩ | ⟨_, a, e, q⟩⟩ := h
  · exact absurd z hk
  · exact ⟨a, e, hl, q⟩
theorem Fine.b {s : Option Kh409.Abs} {xs : List Nat} (h : Fine 0 s xs) : ∃ n, xs = [n] ∧ 1 ≤ n ∧ n ≤ 6 := by
  obtain ⟨hl, ⟨_, b, q⟩ | ⟨z, _⟩⟩ := h
  · obtain ⟨n, rfl⟩ := len1 hl
    have h2 : ((decide (n < 1) || decide (6 < n)) || false) = false := q
    rw [Bool.or_false, Bool.or_eq_false_iff, decide_eq_false_iff_not, decide_eq_false_iff_not] at h2
    exact ⟨n, rfl, by omega, by omega⟩
  · exact absurd rfl z
theorem Fine.x {k : Nat} {s : Option Kh409.Abs} {xs : List Nat} (h : Fine k s xs) (hk : k ≠ 0) (hl : letters.getD k [] = [120]) (hh : handed.getD k 0 = 1) : ∃ a x, s = .some a ∧ xs = [x] ∧ x < 2 ^ a.n := by
  obtain ⟨a, e, l, q⟩ := h.some hk
  rw [hh] at l
  obtain ⟨x, rfl⟩ := len1 l
  unfold wrongs at q
  rw [hl] at q
  have h2 : (decide (2 ^ a.n ≤ x) || false) = false := q
  rw [Bool.or_false, decide_eq_false_iff_not] at h2
  exact ⟨a, x, e, rfl, by omega⟩
theorem Fine.r {k : Nat} {s : Option Kh409.Abs} {xs : List Nat} (h : Fine k s xs) (hk : k ≠ 0) (hl : letters.getD k [] = [114]) (hh : handed.getD k 0 = 1) : ∃ a r, s = .some a ∧ xs = [r] ∧ r ≤ a.n := by
  obtain ⟨a, e, l, q⟩ := h.some hk
  rw [hh] at l
  obtain ⟨x, rfl⟩ := len1 l
  unfold wrongs at q
  rw [hl] at q
  have h2 : (decide (a.n < x) || false) = false := q
  rw [Bool.or_false, decide_eq_false_iff_not] at h2
  exact ⟨a, x, e, rfl, by omega⟩
theorem Fine.e {k : Nat} {s : Option Kh409.Abs} {xs : List Nat} (h : Fine k s xs) (hk : k ≠ 0) (hh : handed.getD k 0 = 0) : ∃ a, s = .some a ∧ xs = [] := by
  obtain ⟨a, e, l, q⟩ := h.some hk
  rw [hh] at l
  exact ⟨a, e, List.length_eq_zero_iff.mp l⟩
theorem Fine.rx {s : Option Kh409.Abs} {xs : List Nat} (h : Fine 8 s xs) : ∃ a r x, s = .some a ∧ xs = [r, x] ∧ r ≤ a.n ∧ x < 2 ^ a.n := by
  obtain ⟨a, e, l, q⟩ := h.some (by decide)
  obtain ⟨r, x, rfl⟩ := len2 l
  have h2 : (decide (a.n < r) || (decide (2 ^ a.n ≤ x) || false)) = false := q
  rw [Bool.or_false, Bool.or_eq_false_iff, decide_eq_false_iff_not, decide_eq_false_iff_not] at h2
  exact ⟨a, r, x, e, rfl, by omega, by omega⟩
theorem Fine.ri {s : Option Kh409.Abs} {xs : List Nat} (h : Fine 14 s xs) : ∃ a r i, s = .some a ∧ xs = [r, i] ∧ r ≤ a.n ∧ i ≤ a.n := by
  obtain ⟨a, e, l, q⟩ := h.some (by decide)
  obtain ⟨r, x, rfl⟩ := len2 l
  have h2 : (decide (a.n < r) || (decide (a.n < x) || false)) = false := q
  rw [Bool.or_false, Bool.or_eq_false_iff, decide_eq_false_iff_not, decide_eq_false_iff_not] at h2
  exact ⟨a, r, x, e, rfl, by omega, by omega⟩
end BC

namespace BC
/-! ### the other twelve calls, as the specification answers them -/
theorem stp12 {a : Kh409.Abs} {r : Nat} (h : r ≤ a.n) : stp 12 (some a) [r] = (some a, [if Kh409.covers a r && Kh409.apart a r then 1 else 0]) := by
  rw [stp_some (c := .fills r) rfl (by intro n h; cases h)]
  unfold Kh409.does
  dsimp only
  rw [r_ok h]
  rfl
theorem stp13_not {a : Kh409.Abs} {r : Nat} (h : r ≤ a.n) (e : Kh409.evenly a r = none) : stp 13 (some a) [r] = (some a, [-33]) := by
  rw [stp_some (c := .evenly r) rfl (by intro n h; cases h)]
  unfold Kh409.does
  dsimp only
  rw [r_ok h, e]
  rfl
theorem stp13_so {a : Kh409.Abs} {r m : Nat} (h : r ≤ a.n) (e : Kh409.evenly a r = some m) : stp 13 (some a) [r] = (some a, [(m : Int)]) := by
  rw [stp_some (c := .evenly r) rfl (by intro n h; cases h)]
  unfold Kh409.does
  dsimp only
  rw [r_ok h, e]
  rfl
theorem stp14 {a : Kh409.Abs} {r i : Nat} (h : r ≤ a.n) (hi : i ≤ a.n) : stp 14 (some a) [r, i] = (some a, [0, Kh409.round a.n r i]) := by
  rw [stp_some (c := .round r i) rfl (by intro n h; cases h)]
  unfold Kh409.does
  dsimp only
  rw [if_neg (by omega)]
theorem stp15 {a : Kh409.Abs} {r : Nat} (h : r ≤ a.n) : stp 15 (some a) [r] = (some a, ((Kh409.zeros a.n r).length : Int) :: zs (Kh409.zeros a.n r)) := by
  rw [stp_some (c := .zeros r) rfl (by intro n h; cases h)]
  unfold Kh409.does
  dsimp only
  rw [r_ok h]
  rfl
theorem stp16 {a : Kh409.Abs} {r : Nat} (h : r ≤ a.n) : stp 16 (some a) [r] = (some a, ((Kh409.inTheWay a r).length : Int) :: zs (Kh409.inTheWay a r)) := by
  rw [stp_some (c := .inTheWay r) rfl (by intro n h; cases h)]
  unfold Kh409.does
  dsimp only
  rw [r_ok h]
  rfl
theorem stp17_none {a : Kh409.Abs} (e : (List.range (a.n + 1)).find? (Kh409.covers a) = none) : stp 17 (some a) [] = (some a, [-6]) := by
  rw [stp_some (c := .radius) rfl (by intro n h; cases h)]
  unfold Kh409.does
  dsimp only
  rw [e]
  rfl
theorem stp17_some {a : Kh409.Abs} {r : Nat} (e : (List.range (a.n + 1)).find? (Kh409.covers a) = some r) : stp 17 (some a) [] = (some a, [(r : Int)]) := by
  rw [stp_some (c := .radius) rfl (by intro n h; cases h)]
  unfold Kh409.does
  dsimp only
  rw [e]
  rfl
theorem stp18_some {a : Kh409.Abs} {r : Nat} (e : (List.range (a.n + 1)).reverse.find? (Kh409.apart a) = some r) : stp 18 (some a) [] = (some a, [(r : Int)]) := by
  rw [stp_some (c := .reach) rfl (by intro n h; cases h)]
  unfold Kh409.does
  dsimp only
  rw [e]
  rfl
theorem stp19 {a : Kh409.Abs} {r : Nat} (h : r ≤ a.n) : stp 19 (some a) [r] = (some a, (((Kh407.words a.n).filter fun x => Kh409.hits a r x == 0).length : Int) :: zs ((Kh407.words a.n).filter fun x => Kh409.hits a r x == 0)) := by
  rw [stp_some (c := .uncovered r) rfl (by intro n h; cases h)]
  unfold Kh409.does
  dsimp only
  rw [r_ok h]
  rfl
theorem stp20_none {a : Kh409.Abs} {x : Nat} (h : x < 2 ^ a.n) (e : Kh409.nearest a x = []) : stp 20 (some a) [x] = (some a, [-6]) := by
  rw [stp_some (c := .mend x) rfl (by intro n h; cases h)]
  unfold Kh409.does
  dsimp only
  rw [if_neg (isW_lt h), e]
  rfl
theorem stp20_some {a : Kh409.Abs} {x y : Nat} {l : List Nat} (h : x < 2 ^ a.n) (e : Kh409.nearest a x = y :: l) : stp 20 (some a) [x] = (some a, [(y : Int), (Kh407.dist a.n x y : Int), ((l.length + 1 : Nat) : Int)]) := by
  rw [stp_some (c := .mend x) rfl (by intro n h; cases h)]
  unfold Kh409.does
  dsimp only
  rw [if_neg (isW_lt h), e]
  rfl
theorem stp21 {a : Kh409.Abs} {r : Nat} (h : r ≤ a.n) : stp 21 (some a) [r] = (some a, ((Kh409.cover (2 ^ a.n) a.n r (Kh407.words a.n)).length : Int) :: zs (Kh409.cover (2 ^ a.n) a.n r (Kh407.words a.n))) := by
  rw [stp_some (c := .cover r) rfl (by intro n h; cases h)]
  unfold Kh409.does
  dsimp only
  rw [r_ok h]
  rfl
theorem stp22_not {a : Kh409.Abs} {r : Nat} (h : r ≤ a.n) (e : Kh409.covers a r = false) : stp 22 (some a) [r] = (some a, [-33]) := by
  rw [stp_some (c := .needed r) rfl (by intro n h; cases h)]
  unfold Kh409.does
  dsimp only
  rw [r_ok h, if_pos e]
  rfl
theorem stp22_so {a : Kh409.Abs} {r : Nat} (h : r ≤ a.n) (e : Kh409.covers a r = true) : stp 22 (some a) [r] = (some a, ((a.c.filter fun y => !Kh409.covers ⟨a.n, a.c.erase y⟩ r).length : Int) :: zs (a.c.filter fun y => !Kh409.covers ⟨a.n, a.c.erase y⟩ r)) := by
  rw [stp_some (c := .needed r) rfl (by intro n h; cases h)]
  unfold Kh409.does
  dsimp only
  rw [r_ok h, if_neg (by rw [e]; decide)]
  rfl
theorem stp23 {a : Kh409.Abs} : stp 23 (some a) [] = (some a, [(a.n : Int), (a.c.length : Int)]) := stp_some (c := .told) rfl (by intro n h; cases h)

/-! ### searching a range -/
theorem find_least {n r : Nat} {p : Nat → Bool} (hr : r < n) (h : p r = true) (hl : ∀ j < r, p j = false) : (List.range n).find? p = some r := by
  rw [List.find?_range_eq_some]
  exact ⟨h, List.mem_range.mpr hr, fun j hj => by rw [hl j hj]; rfl⟩
theorem find_none {n : Nat} {p : Nat → Bool} (h : ∀ j < n, p j = false) : (List.range n).find? p = none := by
  rw [List.find?_eq_none]
  intro x hx
  rw [h x (List.mem_range.mp hx)]
  decide
theorem find_greatest {p : Nat → Bool} {r : Nat} (h : p r = true) : ∀ n, r < n → (∀ j < n, r < j → p j = false) → (List.range n).reverse.find? p = some r
  | 0, hr, _ => absurd hr (Nat.not_lt_zero _)
  | n + 1, hr, hg => by
    rw [List.range_succ, List.reverse_append]
    show List.find? p (n :: (List.range n).reverse) = some r
    rw [List.find?_cons]
    by_cases e : r = n
    · subst e
      rw [h]
    · rw [hg n (by omega) (by omega)]
      exact find_greatest h n (by omega) fun j hj => hg j (by omega)
/-! ### all words are within n of each other -/
theorem wt_all_le : ∀ n < 7, ∀ x < 2 ^ n, wt x ≤ n := by decide +kernel
theorem hits_full {a : Kh409.Abs} (hn : a.n ≤ 6) (hc : Canon a.n a.c) {x : Nat} (hx : x < 2 ^ a.n) : Kh409.hits a a.n x = a.c.length := by
  rw [← hits_eq hn hc hx]
  refine congrArg List.length (List.filter_eq_self.mpr fun y hy => decide_eq_true ?_)
  exact wt_all_le a.n (by omega) _ (xor_lt (hc.lt y hy) hx)
theorem covers_full {a : Kh409.Abs} (hn : a.n ≤ 6) (hc : Canon a.n a.c) (h : a.c ≠ []) : Kh409.covers a a.n = true := by
  unfold Kh409.covers Kh407.words
  rw [List.all_eq_true]
  intro x hx
  rw [hits_full hn hc (List.mem_range.mp hx), decide_eq_true_eq]
  exact List.length_pos_iff.mpr h
theorem covers_nil {n r : Nat} : Kh409.covers ⟨n, []⟩ r = false := by
  unfold Kh409.covers Kh407.words
  rw [Bool.eq_false_iff]
  intro h
  have z := decide_eq_true_eq.mp (List.all_eq_true.mp h 0 (List.mem_range.mpr (Nat.pow_pos (by decide))))
  exact absurd (show 1 ≤ 0 from z) (by decide)
theorem wt0 {x : Nat} (h : x < 64) (e : wt x = 0) : x = 0 := wt_zero_iff_all x h e
theorem apart_zero {a : Kh409.Abs} (hn : a.n ≤ 6) (hc : Canon a.n a.c) : Kh409.apart a 0 = true := by
  unfold Kh409.apart Kh407.words
  rw [List.all_eq_true]
  intro x hx
  have hx := List.mem_range.mp hx
  rw [decide_eq_true_eq, ← hits_eq hn hc hx]
  have e : (a.c.filter fun w => decide (wt (w ^^^ x) ≤ 0)) = a.c.filter fun w => w == x := by
    refine List.filter_congr fun y hy => ?_
    rw [Bool.eq_iff_iff, decide_eq_true_eq, beq_iff_eq]
    constructor
    · intro z
      have := wt0 (Nat.lt_of_lt_of_le (xor_lt (hc.lt y hy) hx) (pow_le hn)) (by omega)
      have k : x ^^^ (y ^^^ x) = x ^^^ 0 := by rw [this]
      rw [Nat.xor_comm y x, xor_self_left, Nat.xor_zero] at k
      exact k
    · intro z
      subst z
      rw [Nat.xor_self, wt_zero]
      exact Nat.le_refl _
  rw [e, ← List.countP_eq_length_filter]
  show a.c.count x ≤ 1
  exact List.nodup_iff_count.mp hc.nodup x
/-! ### a cover taken greedily -/
theorem best_is {n r x : Nat} {left : List Nat} (hx : x < 2 ^ n) (h1 : ∀ y < 2 ^ n, Kh409.gain n r left y ≤ Kh409.gain n r left x) (h2 : ∀ y < x, Kh409.gain n r left y < Kh409.gain n r left x) : Kh409.bestWord n r left = x := by
  unfold Kh409.bestWord Kh407.words
  rw [find_least hx]
  · rfl
  · rw [List.all_eq_true]
    exact fun y hy => decide_eq_true (h1 y (List.mem_range.mp hy))
  · intro j hj
    rw [Bool.eq_false_iff]
    intro z
    have := decide_eq_true_eq.mp (List.all_eq_true.mp z x (List.mem_range.mpr hx))
    have := h2 j hj
    omega
/-- some word is best -/
theorem best_ex (n r : Nat) (left : List Nat) : ∃ x, x < 2 ^ n ∧ (∀ y < 2 ^ n, Kh409.gain n r left y ≤ Kh409.gain n r left x) ∧ ∀ y < x, Kh409.gain n r left y < Kh409.gain n r left x := by
  have aux : ∀ m, 0 < m → ∃ x, x < m ∧ (∀ y < m, Kh409.gain n r left y ≤ Kh409.gain n r left x) ∧ ∀ y < x, Kh409.gain n r left y < Kh409.gain n r left x := by
    intro m
    induction m with
    | zero => intro h; exact absurd h (Nat.lt_irrefl _)
    | succ m ih =>
      intro _
      rcases Nat.eq_zero_or_pos m with e | e
      · subst e
        refine ⟨0, by omega, fun y hy => ?_, fun y hy => absurd hy (Nat.not_lt_zero _)⟩
        rw [show y = 0 by omega]
        exact Nat.le_refl _
      · obtain ⟨x, hx, h1, h2⟩ := ih e
        by_cases q : Kh409.gain n r left m ≤ Kh409.gain n r left x
        · refine ⟨x, by omega, fun y hy => ?_, h2⟩
          rcases Nat.lt_succ_iff_lt_or_eq.mp hy with z | z
          · exact h1 y z
          · rw [z]; exact q
        · refine ⟨m, by omega, fun y hy => ?_, fun y hy => ?_⟩
          · rcases Nat.lt_succ_iff_lt_or_eq.mp hy with z | z
            · have := h1 y z; omega
            · rw [z]; exact Nat.le_refl _
          · have := h1 y hy; omega
  exact aux _ (Nat.pow_pos (by decide))
theorem best_lt (n r : Nat) (left : List Nat) : Kh409.bestWord n r left < 2 ^ n := by
  obtain ⟨x, hx, h1, h2⟩ := best_ex n r left
  rw [best_is hx h1 h2]
  exact hx
theorem cover_nil (f n r : Nat) : Kh409.cover f n r [] = [] := by cases f <;> rfl
theorem cover_cons {f n r : Nat} {left : List Nat} (h : left ≠ []) : Kh409.cover (f + 1) n r left = Kh409.bestWord n r left :: Kh409.cover f n r (left.filter fun y => decide (r < Kh407.dist n (Kh409.bestWord n r left) y)) := by
  cases left with
  | nil => exact absurd rfl h
  | cons x l => rfl
/-- a step takes one word from what is left, at least -/
theorem cover_less {n r : Nat} {left : List Nat} (hn : n ≤ 6) (h : left ≠ []) (hl : ∀ x ∈ left, x < 2 ^ n) : (left.filter fun y => decide (r < Kh407.dist n (Kh409.bestWord n r left) y)).length < left.length := by
  obtain ⟨x, hx, h1, h2⟩ := best_ex n r left
  rw [best_is hx h1 h2]
  have pos : 0 < Kh409.gain n r left x := by
    obtain ⟨z, hz⟩ := List.exists_mem_of_ne_nil left h
    have hz2 := hl z hz
    have : 0 < Kh409.gain n r left z := by
      unfold Kh409.gain
      refine List.length_pos_of_mem (a := z) (List.mem_filter.mpr ⟨hz, decide_eq_true ?_⟩)
      rw [dist_eq hn hz2 hz2, Nat.xor_self, wt_zero]
      exact Nat.zero_le _
    exact Nat.lt_of_lt_of_le this (h1 z hz2)
  unfold Kh409.gain at pos
  obtain ⟨z, hz⟩ := List.exists_mem_of_ne_nil _ (List.ne_nil_of_length_pos pos)
  obtain ⟨hz1, hz2⟩ := List.mem_filter.mp hz
  refine List.length_filter_lt_length_iff_exists.mpr ⟨z, hz1, ?_⟩
  have := decide_eq_true_eq.mp hz2
  rw [decide_eq_true_eq]
  omega
/-- enough fuel is enough -/
theorem cover_fuel {n r : Nat} (hn : n ≤ 6) : ∀ (f g : Nat) (left : List Nat), (∀ x ∈ left, x < 2 ^ n) → left.length ≤ f → left.length ≤ g → Kh409.cover f n r left = Kh409.cover g n r left := by
  intro f
  induction f with
  | zero =>
    intro g left _ h1 _
    have : left = [] := List.length_eq_zero_iff.mp (by omega)
    rw [this, cover_nil, cover_nil]
  | succ f ih =>
    intro g left hl h1 h2
    by_cases e : left = []
    · rw [e, cover_nil, cover_nil]
    · have pos := List.length_pos_iff.mpr e
      cases g with
      | zero => omega
      | succ g =>
        have less := cover_less (r := r) hn e hl
        rw [cover_cons e, cover_cons e]
        exact congrArg _ (ih g _ (fun x hx => hl x (List.mem_filter.mp hx).1) (by omega) (by omega))
/-! ### the nearest words -/
theorem off_is {a : Kh409.Abs} {x d : Nat} (hd : d ≤ a.n) (h : ∃ y ∈ a.c, Kh407.dist a.n x y = d) (h2 : ∀ y ∈ a.c, d ≤ Kh407.dist a.n x y) : Kh407.off a x = some d := by
  refine find_least (by omega) ?_ fun j hj => ?_
  · obtain ⟨y, hy, e⟩ := h
    exact List.any_eq_true.mpr ⟨y, hy, by rw [e]; exact beq_self_eq_true d⟩
  · rw [Bool.eq_false_iff]
    intro z
    obtain ⟨y, hy, e⟩ := List.any_eq_true.mp z
    have := beq_iff_eq.mp e
    have := h2 y hy
    omega
theorem nearest_is {a : Kh409.Abs} {x d : Nat} (hd : d ≤ a.n) (h : ∃ y ∈ a.c, Kh407.dist a.n x y = d) (h2 : ∀ y ∈ a.c, d ≤ Kh407.dist a.n x y) : Kh409.nearest a x = a.c.filter fun y => Kh407.dist a.n x y == d := by
  unfold Kh409.nearest
  rw [off_is hd h h2]
theorem nearest_nil {n x : Nat} : Kh409.nearest ⟨n, []⟩ x = [] := by
  unfold Kh409.nearest
  cases Kh407.off ⟨n, []⟩ x <;> rfl
/-! ### sums -/
theorem foldl_add : ∀ (l : List Int) (z : Int), l.foldl (· + ·) z = z + l.sum
  | [], z => by simp
  | x :: l, z => by
    rw [List.foldl_cons, foldl_add l, List.sum_cons]
    omega
theorem foldl_sum (l : List Int) : l.foldl (· + ·) 0 = l.sum := by rw [foldl_add]; omega
end BC

namespace BC
/-! ### sums of signs -/
def sgN (x : Nat) : Int := if wt x % 2 = 0 then 1 else -1
def ssN (n k i : Nat) : Int := (((List.range (2 ^ n)).filter fun p => decide (wt p = k)).map fun p => sgN (p &&& (2 ^ i - 1))).sum
theorem ss_all : ∀ n < 7, ∀ k < 7, ∀ i < n + 1, ssN n k i = Kh407.sign n k i := by decide +kernel
def rsN (n r i : Nat) : Int := ((List.range (r + 1)).map fun k => ssN n k i).sum
theorem rs_eq {n r i : Nat} (hn : n ≤ 6) (hr : r ≤ n) (hi : i ≤ n) : rsN n r i = Kh409.round n r i := by
  unfold rsN Kh409.round
  rw [foldl_sum]
  exact congrArg List.sum (List.map_congr_left fun k hk => ss_all n (by omega) k (by have := List.mem_range.mp hk; omega) i (by omega))
def rzN (n r : Nat) : List Nat := ((List.range n).filter fun j => decide (rsN n r (j + 1) = 0)).map Nat.succ
theorem rz_eq {n r : Nat} (hn : n ≤ 6) (hr : r ≤ n) : rzN n r = Kh409.zeros n r := by
  unfold rzN Kh409.zeros
  rw [List.range_succ_eq_map, List.filter_cons, if_neg (by simp), List.filter_map]
  refine congrArg (List.map Nat.succ) (List.filter_congr fun j hj => ?_)
  have hj := List.mem_range.mp hj
  show _ = (decide (1 ≤ j + 1) && decide (Kh409.round n r (j + 1) = 0))
  rw [← rs_eq hn hr (by omega), decide_eq_true (show 1 ≤ j + 1 by omega), Bool.true_and]
def tiN (c : List Nat) (p : Nat) : Int := (c.map fun y => sgN (y &&& p)).sum
theorem ti_eq {a : Kh409.Abs} {p : Nat} (hn : a.n ≤ 6) (hc : Canon a.n a.c) (hp : p < 2 ^ a.n) : tiN a.c p = Kh407.tilt a p := by
  unfold tiN Kh407.tilt
  rw [foldl_sum]
  refine congrArg List.sum (List.map_congr_left fun y hy => ?_)
  rw [meet_all a.n (by omega) y (hc.lt y hy) p hp, weight_all a.n (by omega) _ (Nat.and_lt_two_pow y hp)]
  rfl
/-- the sets that tilt; of these those in the way -/
def tgN (n : Nat) (c : List Nat) : List Nat := ((List.range (2 ^ n - 1)).filter fun j => decide (tiN c (j + 1) ≠ 0)).map Nat.succ
def itN (n : Nat) (c : List Nat) (r : Nat) : List Nat := (tgN n c).filter fun p => decide (rsN n r (wt p) ≠ 0)
theorem range_pos {m : Nat} (h : 0 < m) : List.range m = 0 :: (List.range (m - 1)).map Nat.succ := by
  rw [← List.range_succ_eq_map]
  exact congrArg List.range (by omega)
theorem bne_dec (x y : Int) : (x != y) = decide (x ≠ y) := by
  by_cases h : x = y
  · subst h
    simp
  · simp [h]
theorem it_eq {a : Kh409.Abs} {r : Nat} (hn : a.n ≤ 6) (hr : r ≤ a.n) (hc : Canon a.n a.c) : itN a.n a.c r = Kh409.inTheWay a r := by
  unfold itN tgN Kh409.inTheWay Kh407.words
  rw [range_pos (Nat.pow_pos (by decide) : 0 < 2 ^ a.n), List.filter_cons, if_neg (by simp), List.filter_map, List.filter_map, List.filter_filter]
  refine congrArg (List.map Nat.succ) (List.filter_congr fun j hj => ?_)
  have hj := List.mem_range.mp hj
  have hj2 : j + 1 < 2 ^ a.n := by omega
  have hw := weight_all a.n (by omega) _ hj2
  have hw2 : wt (j + 1) ≤ a.n := wt_all_le a.n (by omega) _ hj2
  show (decide (rsN a.n r (wt (j + 1)) ≠ 0) && decide (tiN a.c (j + 1) ≠ 0)) = ((j + 1) != 0 && (Kh407.tilt a (j + 1) != 0 && Kh409.round a.n r (Kh407.weight a.n (j + 1)) != 0))
  rw [hw, ← rs_eq hn hr hw2, ← ti_eq hn hc hj2, bne_dec, bne_dec, Bool.and_comm]
  rfl
theorem tg_mem {n : Nat} {c : List Nat} {p : Nat} (h : p ∈ tgN n c) : p < 2 ^ n := by
  unfold tgN at h
  obtain ⟨j, hj, rfl⟩ := List.mem_map.mp h
  have := List.mem_range.mp (List.mem_filter.mp hj).1
  show j + 1 < 2 ^ n
  omega
theorem tg_len {n : Nat} {c : List Nat} : (tgN n c).length ≤ 2 ^ n := by
  unfold tgN
  rw [List.length_map]
  have h := List.length_filter_le (fun j => decide (tiN c (j + 1) ≠ 0)) (List.range (2 ^ n - 1))
  rw [List.length_range] at h
  exact Nat.le_trans h (Nat.sub_le _ _)
theorem it_len {n : Nat} {c : List Nat} {r : Nat} : (itN n c r).length ≤ 2 ^ n := Nat.le_trans (List.length_filter_le _ _) tg_len
theorem rz_len {n r : Nat} : (rzN n r).length ≤ n := by
  unfold rzN
  rw [List.length_map]
  have h := List.length_filter_le (fun j => decide (rsN n r (j + 1) = 0)) (List.range n)
  rwa [List.length_range] at h
/-! ### radius, reach -/
theorem radius_ex {a : Kh409.Abs} (hn : a.n ≤ 6) (hc : Canon a.n a.c) (h : a.c ≠ []) : ∃ R, (List.range (a.n + 1)).find? (Kh409.covers a) = some R ∧ Kh409.covers a R = true ∧ ∀ j < R, Kh409.covers a j = false := by
  cases e : (List.range (a.n + 1)).find? (Kh409.covers a) with
  | none =>
    have := List.find?_eq_none.mp e a.n (List.mem_range.mpr (by omega))
    exact absurd (covers_full hn hc h) this
  | some R =>
    obtain ⟨h1, _, h3⟩ := List.find?_range_eq_some.mp e
    refine ⟨R, rfl, h1, fun j hj => ?_⟩
    have := h3 j hj
    cases z : Kh409.covers a j with
    | false => rfl
    | true => rw [z] at this; cases this
theorem hits_mono {a : Kh409.Abs} {r s x : Nat} (h : r ≤ s) : Kh409.hits a r x ≤ Kh409.hits a s x := by
  unfold Kh409.hits
  rw [← List.countP_eq_length_filter, ← List.countP_eq_length_filter]
  refine List.countP_mono_left fun y _ q => ?_
  rw [decide_eq_true_eq] at q ⊢
  omega
theorem apart_mono {a : Kh409.Abs} {r s : Nat} (h : r ≤ s) (q : Kh409.apart a s = true) : Kh409.apart a r = true := by
  unfold Kh409.apart at q ⊢
  rw [List.all_eq_true] at q ⊢
  intro x hx
  have := decide_eq_true_eq.mp (q x hx)
  have := hits_mono (a := a) (x := x) h
  rw [decide_eq_true_eq]
  omega
theorem reach_ex {a : Kh409.Abs} (hn : a.n ≤ 6) (hc : Canon a.n a.c) : ∃ R, R ≤ a.n ∧ (∀ j < R, Kh409.apart a (j + 1) = true) ∧ (R < a.n → Kh409.apart a (R + 1) = false) ∧ (List.range (a.n + 1)).reverse.find? (Kh409.apart a) = some R := by
  have aux : ∀ m, ∃ R, R ≤ m ∧ (∀ j < R, Kh409.apart a (j + 1) = true) ∧ (R < m → Kh409.apart a (R + 1) = false) := by
    intro m
    induction m with
    | zero => exact ⟨0, Nat.le_refl _, fun j hj => absurd hj (Nat.not_lt_zero _), fun h => absurd h (Nat.lt_irrefl _)⟩
    | succ m ih =>
      obtain ⟨R, h1, h2, h3⟩ := ih
      by_cases e : R < m
      · exact ⟨R, by omega, h2, fun _ => h3 e⟩
      · have e : R = m := by omega
        subst e
        cases z : Kh409.apart a (R + 1) with
        | false => exact ⟨R, by omega, h2, fun _ => z⟩
        | true =>
          refine ⟨R + 1, Nat.le_refl _, fun j hj => ?_, fun h => absurd h (Nat.lt_irrefl _)⟩
          rcases Nat.lt_succ_iff_lt_or_eq.mp hj with q | q
          · exact h2 j q
          · rw [q]; exact z
  obtain ⟨R, h1, h2, h3⟩ := aux a.n
  refine ⟨R, h1, h2, h3, find_greatest ?_ (a.n + 1) (by omega) fun j hj hR => ?_⟩
  · cases R with
    | zero => exact apart_zero hn hc
    | succ R => exact h2 R (by omega)
  · cases z : Kh409.apart a j with
    | false => rfl
    | true =>
      have := apart_mono (show R + 1 ≤ j by omega) z
      rw [h3 (by omega)] at this
      cases this
/-! ### a cover taken greedily, by what is covered -/
def opn (n : Nat) (ks : List Nat) : List Nat := (List.range (2 ^ n)).filter fun x => decide (x ∉ ks)
def brN (n y r : Nat) : List Nat := (List.range (2 ^ n)).filter fun x => decide (wt (y ^^^ x) ≤ r)
def coN (l ks : List Nat) : Nat := (l.filter fun x => decide (x ∉ ks)).length
theorem opn_nil (n : Nat) : opn n [] = Kh407.words n := List.filter_eq_self.mpr fun _ _ => decide_eq_true (List.not_mem_nil)
theorem opn_lt {n : Nat} {ks : List Nat} : ∀ x ∈ opn n ks, x < 2 ^ n := fun x hx => List.mem_range.mp (List.mem_filter.mp hx).1
theorem opn_len {n : Nat} {ks : List Nat} : (opn n ks).length ≤ 2 ^ n := by
  have h := List.length_filter_le (fun x => decide (x ∉ ks)) (List.range (2 ^ n))
  rwa [List.length_range] at h
theorem br_lt {n y r : Nat} : ∀ x ∈ brN n y r, x < 2 ^ n := fun x hx => List.mem_range.mp (List.mem_filter.mp hx).1
theorem br_len {n y r : Nat} : (brN n y r).length ≤ 2 ^ n := by
  have h := List.length_filter_le (fun x => decide (wt (y ^^^ x) ≤ r)) (List.range (2 ^ n))
  rwa [List.length_range] at h
theorem gain_eq {n y r : Nat} {ks : List Nat} (hn : n ≤ 6) (hy : y < 2 ^ n) : coN (brN n y r) ks = Kh409.gain n r (opn n ks) y := by
  unfold coN brN Kh409.gain opn
  rw [List.filter_filter, List.filter_filter]
  refine congrArg List.length (List.filter_congr fun x hx => ?_)
  rw [dist_eq hn hy (List.mem_range.mp hx), Bool.and_comm]
theorem opn_next {n b r : Nat} {ks ks' : List Nat} (hn : n ≤ 6) (hb : b < 2 ^ n) (h : ∀ x, x ∈ ks' ↔ x ∈ ks ∨ x ∈ brN n b r) : opn n ks' = (opn n ks).filter fun y => decide (r < Kh407.dist n b y) := by
  unfold opn
  rw [List.filter_filter]
  refine List.filter_congr fun x hx => ?_
  have hx2 := List.mem_range.mp hx
  rw [dist_eq hn hb hx2, Bool.eq_iff_iff, Bool.and_eq_true, decide_eq_true_eq, decide_eq_true_eq, decide_eq_true_eq, h x]
  have m : x ∈ brN n b r ↔ wt (b ^^^ x) ≤ r := by
    unfold brN
    rw [List.mem_filter, decide_eq_true_eq]
    exact ⟨fun q => q.2, fun q => ⟨hx, q⟩⟩
  rw [m]
  constructor
  · intro q
    exact ⟨by
      rcases Nat.lt_or_ge r (wt (b ^^^ x)) with z | z
      · exact z
      · exact absurd (.inr z) q, fun z => q (.inl z)⟩
  · rintro ⟨q1, q2⟩ (z | z)
    · exact q2 z
    · omega
theorem opn_full {n : Nat} {ks : List Nat} (nd : ks.Nodup) (lt : ∀ x ∈ ks, x < 2 ^ n) : ks.length < 2 ^ n ↔ opn n ks ≠ [] := by
  constructor
  · intro h e
    have all : ∀ x ∈ List.range (2 ^ n), x ∈ ks := fun x hx => by
      by_cases z : x ∈ ks
      · exact z
      · have : x ∈ opn n ks := List.mem_filter.mpr ⟨hx, decide_eq_true z⟩
        rw [e] at this
        cases this
    have := nodup_sub List.nodup_range all
    rw [List.length_range] at this
    omega
  · intro h
    have le := nodup_len nd lt
    rcases Nat.lt_or_ge ks.length (2 ^ n) with z | z
    · exact z
    · obtain ⟨x, hx⟩ := List.exists_mem_of_ne_nil _ h
      have := nodup_full nd lt (by omega) x (opn_lt x hx)
      exact absurd this (decide_eq_true_eq.mp (List.mem_filter.mp hx).2)
theorem cover_len (n r : Nat) : ∀ (f : Nat) (l : List Nat), (Kh409.cover f n r l).length ≤ f
  | 0, _ => Nat.le_refl _
  | f + 1, [] => Nat.zero_le _
  | f + 1, x :: l => by
    have := cover_len n r f ((x :: l).filter fun y => decide (r < Kh407.dist n (Kh409.bestWord n r (x :: l)) y))
    show _ + 1 ≤ f + 1
    omega
theorem cover_step {n r : Nat} {left : List Nat} (hn : n ≤ 6) (h : left ≠ []) (hl : ∀ x ∈ left, x < 2 ^ n) (hz : left.length ≤ 2 ^ n) :
    Kh409.cover (2 ^ n) n r left = Kh409.bestWord n r left :: Kh409.cover (2 ^ n) n r (left.filter fun y => decide (r < Kh407.dist n (Kh409.bestWord n r left) y)) := by
  have pos : 0 < 2 ^ n := Nat.pow_pos (by decide)
  have less := cover_less (r := r) hn h hl
  have e : 2 ^ n = (2 ^ n - 1) + 1 := by omega
  have c := cover_cons (f := 2 ^ n - 1) (n := n) (r := r) h
  rw [← e] at c
  rw [c]
  refine congrArg _ (cover_fuel hn _ _ _ (fun x hx => hl x (List.mem_filter.mp hx).1) (by omega) (by omega))
/-! ### needed -/
theorem hc_erase {c : List Nat} {r x y : Nat} (hy : y ∈ c) : (c.filter fun z => decide (wt (z ^^^ x) ≤ r)).length = (if wt (y ^^^ x) ≤ r then 1 else 0) + ((c.erase y).filter fun z => decide (wt (z ^^^ x) ≤ r)).length := by
  rw [((List.perm_cons_erase hy).filter fun z => decide (wt (z ^^^ x) ≤ r)).length_eq, List.filter_cons]
  by_cases h : wt (y ^^^ x) ≤ r
  · rw [if_pos h, if_pos (decide_eq_true h), List.length_cons]
    omega
  · rw [if_neg h, if_neg (by rw [decide_eq_false h]; decide)]
    omega
theorem needed_eq {a : Kh409.Abs} {r : Nat} (hn : a.n ≤ 6) (hc : Canon a.n a.c) (cov : Kh409.covers a r = true) {y : Nat} (hy : y ∈ a.c) :
    (!Kh409.covers ⟨a.n, a.c.erase y⟩ r) = ((List.range (2 ^ a.n)).filter fun x => decide ((a.c.filter fun z => decide (wt (z ^^^ x) ≤ r)).length = 1)).any fun x => decide (wt (y ^^^ x) ≤ r) := by
  have h1 : ∀ x < 2 ^ a.n, 1 ≤ Kh409.hits a r x := fun x hx => decide_eq_true_eq.mp (List.all_eq_true.mp cov x (List.mem_range.mpr hx))
  have h2 : ∀ x < 2 ^ a.n, Kh409.hits a r x = (if wt (y ^^^ x) ≤ r then 1 else 0) + Kh409.hits ⟨a.n, a.c.erase y⟩ r x := fun x hx => by
    rw [← hits_eq hn hc hx, ← hits_eq (n := a.n) (c := a.c.erase y) hn (hc.erase y) hx]
    exact hc_erase hy
  rw [Bool.eq_iff_iff, List.any_eq_true, Bool.not_eq_true']
  constructor
  · intro z
    have ⟨x, hx, q⟩ : ∃ x, x < 2 ^ a.n ∧ ¬ 1 ≤ Kh409.hits ⟨a.n, a.c.erase y⟩ r x := by
      by_cases k : ∃ x, x < 2 ^ a.n ∧ ¬ 1 ≤ Kh409.hits ⟨a.n, a.c.erase y⟩ r x
      · exact k
      · have : Kh409.covers ⟨a.n, a.c.erase y⟩ r = true := by
          unfold Kh409.covers Kh407.words
          rw [List.all_eq_true]
          intro x hx
          have hx := List.mem_range.mp hx
          rw [decide_eq_true_eq]
          by_cases l : 1 ≤ Kh409.hits ⟨a.n, a.c.erase y⟩ r x
          · exact l
          · exact absurd ⟨x, hx, l⟩ k
        rw [this] at z
        cases z
    have e := h2 x hx
    have g := h1 x hx
    have w : wt (y ^^^ x) ≤ r := by
      by_cases k : wt (y ^^^ x) ≤ r
      · exact k
      · rw [if_neg k] at e
        omega
    rw [if_pos w] at e
    refine ⟨x, List.mem_filter.mpr ⟨List.mem_range.mpr hx, decide_eq_true ?_⟩, decide_eq_true w⟩
    rw [hits_eq hn hc hx]
    show Kh409.hits a r x = 1
    omega
  · rintro ⟨x, hx, w⟩
    obtain ⟨hx, k⟩ := List.mem_filter.mp hx
    have hx := List.mem_range.mp hx
    have w := decide_eq_true_eq.mp w
    have k := decide_eq_true_eq.mp k
    rw [hits_eq hn hc hx] at k
    have k : Kh409.hits a r x = 1 := k
    have e := h2 x hx
    rw [if_pos w] at e
    rw [Bool.eq_false_iff]
    intro z
    have := decide_eq_true_eq.mp (List.all_eq_true.mp z x (List.mem_range.mpr hx))
    omega
end BC

namespace BC
open PySem PySem.Spec PyProof.Rows L2
/-! ### the text by places -/
def top (i : Nat) : Stmt := PySem.Challenge.pw_ballscover_s01_answers.main.body.getD i (.Pass ⟨0, 0, 0, 0⟩)
abbrev sWc : Stmt := top 1
abbrev sWt : Stmt := top 2
abbrev sDi : Stmt := top 3
/-! ### word_count, weight, distance -/
def spWc : Sp := fun vs H Q _ => ∃ n : Nat, vs = [.int (n : Int)] ∧ n ≤ 6 ∧ Q (.int ((2 ^ n : Nat) : Int)) H
def spWt : Sp := fun vs H Q _ => ∃ x : Nat, vs = [.int (x : Int)] ∧ x < 64 ∧ Q (.int (wt x : Nat)) H
def spDi : Sp := fun vs H Q _ => ∃ x y : Nat, vs = [.int (x : Int), .int (y : Int)] ∧ x < 64 ∧ y < 64 ∧ Q (.int (wt (x ^^^ y) : Nat)) H
theorem xor_nat (x y : Nat) : Builtin.bitXor (x : Int) (y : Int) = ((x ^^^ y : Nat) : Int) := Bits.bitXor_pp (Int.natCast_nonneg x) (Int.natCast_nonneg y)
section
variable {P : Program} {w : World} {K : PySem.W.Frag} {mg : Str → Option Value} {base : Heap}
theorem scWc : FnScope ["bits"] ["bits"] (defScope sWc) := ⟨rfl, rfl, rfl, by decide +kernel, rfl, by decide +kernel, by decide +kernel⟩
theorem okWc {f : Addr} {fd : FuncData} (F : Fun K "word_count" "word_count" sWc f fd) : FnOk P w K mg base CX0 1 f fd ["bits"] spWc := by
  refine F.ok scWc (fun vs H Q E h => ?_) (fun cdv A outer s H vs Q E hr h => ?_)
  · obtain ⟨n, rfl, _⟩ := h
    rfl
  · obtain ⟨n, rfl, hn, q⟩ := h
    refine ⟨_, pss_one (ps_ret (pe_op op_shl pe_int (pv 0))), ?_⟩
    refine ⟨_, rfl, _, _, rfl, rfl, ⟨Int.natCast_nonneg n, by omega, by decide⟩, ?_⟩
    have e : (1 : Int) * 2 ^ ((n : Int)).toNat = ((2 ^ n : Nat) : Int) := by simp
    show Q (.int ((1 : Int) * 2 ^ ((n : Int)).toNat)) H
    rw [e]
    exact q
theorem scWt : FnScope ["word", "ones", "rest"] ["word"] (defScope sWt) := ⟨rfl, rfl, rfl, by decide +kernel, rfl, by decide +kernel, by decide +kernel⟩
theorem okWt {f : Addr} {fd : FuncData} (F : Fun K "weight" "weight" sWt f fd) : FnOk P w K mg base CX0 1 f fd ["word"] spWt := by
  refine F.ok scWt (fun vs H Q E h => ?_) (fun cdv A outer s H vs Q E hr h => ?_)
  · obtain ⟨n, rfl, _⟩ := h
    rfl
  · obtain ⟨x, rfl, hx, q⟩ := h
    refine ⟨_, pss_cons (ps_set (i := 1) scWt.nd rfl (Or.inl rfl) pe_int) (pss_cons (ps_set (i := 2) scWt.nd rfl (Or.inl rfl) (pv 0))
      (pss_cons (ps_while PassesOwn.never (pt_cmpR op_gt (pv 2) pe_int (nomark _))
        (pss_cons (ps_aug (i := 1) scWt.nd rfl (Or.inl rfl) (pe_op op_mod (pv 2) pe_int) ip_add) (pss_one (ps_set (i := 2) scWt.nd rfl (Or.inl rfl) (pe_op op_fdiv (pv 2) pe_int)))))
      (pss_one (ps_ret (pv 1))))), ?_⟩
    refine ⟨_, rfl, ?_⟩
    refine while_by (fun σ H' => ∃ a b : Nat, σ = [some (.int (x : Int)), some (.int (a : Int)), some (.int (b : Int))] ∧ H' = H ∧ b < 64 ∧ a + wt b = wt x)
      (fun σ _ => match σ with | [_, _, some (.int b)] => b.toNat | _ => 0) ⟨0, x, rfl, rfl, hx, by omega⟩ ?_ ?_
    · rintro σ H' ⟨a, b, rfl, rfl, hb, e⟩
      refine ⟨_, rfl, _, _, rfl, rfl, _, rfl, ?_⟩
      refine ite2 (fun c => ?_) (fun c => ?_)
      · have c : (0 : Int) < b := decide_eq_true_eq.mp c
        have h2 := wt_step hb (by omega : 0 < b)
        refine ⟨_, rfl, _, rfl, _, _, rfl, rfl, (by show (0 : Int) < 2; decide), _, _, rfl, rfl, ?_⟩
        refine ⟨_, rfl, _, _, rfl, rfl, ⟨by decide, by decide⟩, ?_⟩
        refine ⟨⟨a + b % 2, b / 2, rfl, rfl, by omega, by omega⟩, ?_⟩
        show (((b : Int) / 2)).toNat < ((b : Int)).toNat
        omega
      · have c : ¬ (0 : Int) < b := fun z => c (decide_eq_true z)
        have hb0 : b = 0 := by omega
        subst hb0
        refine ⟨_, rfl, ?_⟩
        rw [wt_zero] at e
        rw [show a = wt x by omega]
        exact q
    · intro σ H Q Q' hq h
      obtain ⟨v, e, i, j, e1, e2, c, e3, h⟩ := h
      exact ⟨v, e, i, j, e1, e2, c, e3, hq _ _ h⟩
theorem scDi : FnScope ["one", "other"] ["one", "other"] (defScope sDi) := ⟨rfl, rfl, rfl, by decide +kernel, rfl, by decide +kernel, by decide +kernel⟩
theorem okDi {f fW : Addr} {fd fdW : FuncData} (F : Fun K "distance" "distance" sDi f fd) (GW : FnOk P w K mg base CX0 1 fW fdW ["word"] spWt) (bW : Binds K fdW ["word"] []) (gW : mg "weight" = some (.ref fW)) (kW : PySem.W.keepIn K (.ref fW) = true) :
    FnOk P w K mg base CX0 2 f fd ["one", "other"] spDi := by
  refine F.ok scDi (fun vs H Q E h => ?_) (fun cdv A outer s H vs Q E hr h => ?_)
  · obtain ⟨x, y, rfl, _⟩ := h
    rfl
  · obtain ⟨x, y, rfl, hx, hy, q⟩ := h
    refine ⟨_, pss_one (ps_ret (pe_call GW hr rfl gW kW bW .nil pass0 (pa_cons (pe_op op_xor (pv 0) (pv 1)) pa_nil))), ?_⟩
    refine ⟨_, rfl, _, rfl, _, _, rfl, rfl, x ^^^ y, ?_, xor_lt (n := 6) hx hy, q⟩
    show [V.int (Builtin.bitXor (x : Int) (y : Int))] = _
    rw [xor_nat]
end
end BC

namespace BC
open PySem PySem.Spec PyProof.Rows L2 Evl
abbrev sBs : Stmt := top 5
abbrev sHc : Stmt := top 6
abbrev sHs : Stmt := top 7
abbrev sWh : Stmt := top 8
abbrev sBc : Stmt := top 10
abbrev sBa : Stmt := top 11
/-! ### a def that is called by its name; the built-in names that the top leaves alone -/
structure Cl (P : Program) (w : World) (K : PySem.W.Frag) (mg : Str → Option Value) (base : Heap) (k : Nat) (x : Str) (sp : Sp) : Prop where
  ex : ∃ (f : Addr) (fd : FuncData) (ps : List Str), FnOk P w K mg base CX0 k f fd ps sp ∧ mg x = some (.ref f) ∧ PySem.W.keepIn K (.ref f) = true ∧ Binds K fd ps []
theorem pe_k {X : Cx} {k j : Nat} {x : Str} {sp : Sp} {p pos : Pos} {e : Expr} {es : List Expr} {t : TA} (c : Cl X.prog X.w X.K X.mg X.base k x sp) (hr : Room j X.A) (hk : k ≤ j) (hg : Gl X x) (ha : PA X (e :: es) t) (d1 : (x == ("__debug__" : Str)) = false := by decide)
    (d2 : starEach (e :: es) X.env = (false, eval e X.env) :: starEach es X.env := by rfl) (d3 : (backTo pos (starEach es X.env)).any (·.1) = false := by rfl) : PE X (.Call (.Name x p) (e :: es) [] pos) (tCall sp [] E0 t) := by
  obtain ⟨f, fd, ps, F, m, kp, b⟩ := c.ex
  exact pe_call F (hr.mono hk) hg m kp b .nil pass0 ha d1 d2 d3
structure Bt (mg : Str → Option Value) : Prop where
  len : mg "len" = none
  range : mg "range" = none
  min : mg "min" = none
  max : mg "max" = none
  sorted : mg "sorted" = none
  list : mg "list" = none
  all : mg "all" = none
  any : mg "any" = none
  zip : mg "zip" = none
/-! ### lists of words in the heap -/
def vl (c : List Nat) : List V := (zs c).map V.int
theorem vl_len (c : List Nat) : (vl c).length = c.length := by
  unfold vl
  rw [List.length_map, ints_len]
theorem vl_get {c : List Nat} {i : Nat} {v : V} (h : (vl c)[i]? = some v) : ∃ x, c[i]? = some x ∧ v = .int (x : Int) := by
  unfold vl zs at h
  rw [List.map_map, List.getElem?_map] at h
  cases e : c[i]? with
  | none =>
    rw [e] at h
    cases h
  | some x =>
    rw [e] at h
    exact ⟨x, rfl, (Option.some.inj h).symm⟩
theorem vl_map (c : List Nat) : vl c = c.map fun (x : Nat) => V.int (x : Int) := by
  unfold vl zs
  rw [List.map_map]
  rfl
theorem vl_append (a b : List Nat) : vl (a ++ b) = vl a ++ vl b := by
  unfold vl
  rw [ints_append, List.map_append]
theorem range_getD (c : List Nat) : (List.range c.length).map (fun i => c.getD i 0) = c := by
  refine List.ext_getElem (by simp) fun i h1 h2 => ?_
  simp [List.getD, List.getElem?_eq_getElem h2]
theorem given_list (c : List Nat) (p : Nat → Bool) (g : Nat → V) : given c.length (fun i => p (c.getD i 0)) (fun i => g (c.getD i 0)) = (c.filter p).map g := by
  unfold given
  conv => rhs; rw [← range_getD c]
  rw [List.filter_map, List.map_map]
  rfl
theorem getD_of {c : List Nat} {i x : Nat} (h : c[i]? = some x) : c.getD i 0 = x := by
  unfold List.getD
  rw [h]
  rfl
theorem mem_of {c : List Nat} {i x : Nat} (h : c[i]? = some x) : x ∈ c := List.mem_of_getElem? h
theorem nat_le (a b : Nat) : decide ((a : Int) ≤ (b : Int)) = decide (a ≤ b) := by
  by_cases h : a ≤ b
  · rw [decide_eq_true h, decide_eq_true (Int.ofNat_le.mpr h)]
  · rw [decide_eq_false h, decide_eq_false fun z => h (Int.ofNat_le.mp z)]
theorem nat_lt (a b : Nat) : decide ((a : Int) < (b : Int)) = decide (a < b) := by
  by_cases h : a < b
  · rw [decide_eq_true h, decide_eq_true (Int.ofNat_lt.mpr h)]
  · rw [decide_eq_false h, decide_eq_false fun z => h (Int.ofNat_lt.mp z)]
/-! ### what the defs so far are worth -/
theorem wcV {H : Hp} {n : Nat} (hn : n ≤ 6) : SpV spWc [.int (n : Int)] H (.int ((2 ^ n : Nat) : Int)) := fun H1 _ _ q _ => ⟨n, rfl, hn, q H1 (Ex.refl H1)⟩
theorem wtV {H : Hp} {x : Nat} (hx : x < 64) : SpV spWt [.int (x : Int)] H (.int (wt x : Nat)) := fun H1 _ _ q _ => ⟨x, rfl, hx, q H1 (Ex.refl H1)⟩
theorem diV {H : Hp} {x y : Nat} (hx : x < 64) (hy : y < 64) : SpV spDi [.int (x : Int), .int (y : Int)] H (.int (wt (x ^^^ y) : Nat)) := fun H1 _ _ q _ => ⟨x, y, rfl, hx, hy, q H1 (Ex.refl H1)⟩
/-! ### ball_size -/
def bsN (n r : Nat) : Nat := ((List.range (2 ^ n)).filter fun x => decide (wt x ≤ r)).length
def spBs : Sp := fun vs H Q _ => ∃ n r : Nat, vs = [.int (n : Int), .int (r : Int)] ∧ n ≤ 6 ∧ RetV (.int (bsN n r : Nat)) H Q
section
variable {P : Program} {w : World} {K : PySem.W.Frag} {mg : Str → Option Value} {base : Heap}
theorem scBs : FnScope ["bits", "r", "word"] ["bits", "r"] (defScope sBs) := ⟨rfl, rfl, rfl, by decide +kernel, rfl, by decide +kernel, by decide +kernel⟩
theorem okBs {f : Addr} {fd : FuncData} (F : Fun K "ball_size" "ball_size" sBs f fd) (B : Bt mg) (cW : Cl P w K mg base 1 "word_count" spWc) (cT : Cl P w K mg base 1 "weight" spWt) : FnOk P w K mg base CX0 2 f fd ["bits", "r"] spBs := by
  refine F.ok scBs (fun vs H Q E h => ?_) (fun cdv A outer s H vs Q E hr h => ?_)
  · obtain ⟨n, r, rfl, _⟩ := h
    rfl
  · obtain ⟨n, r, rfl, hn, q⟩ := h
    refine ⟨_, pss_one (ps_ret (pe_callB call_len_seq (by rfl) B.len PySem.boot_len (pa_cons
      (pe_lc (own := [("word", 2)]) (g := gName 2) rfl scBs.nd (pi_range1 rfl B.range (pa_cons (pe_k cW hr (by decide) rfl (pa_cons (pv 0) pa_nil)) pa_nil))
        (blkOk_by (own := [("word", 2)]) (N := ["bits", "r", "word"]) (sc := defScope sBs) (by decide +kernel)) (fun _ _ _ _ _ => pg_name (i := 2) scBs.nd rfl (Or.inl rfl))
        (fun _ _ _ _ _ => pts_one (pt_cmpR op_le (pe_k cT hr (by decide) rfl (pa_cons (pv 2) pa_nil)) (pv 1) (nomark _))) (fun _ _ _ _ _ => pv 2)) pa_nil))), ?_⟩
    have h64 := pow_le hn
    refine s_ret (ev_is (ev_lenN (el_lcR1 (n := ((2 ^ n : Nat) : Int)) (fun i => decide (wt i ≤ r)) (fun i => .int (i : Int)) (ea_cons (ev_call (ea_cons (ev_var rfl) ea_nil) (wcV hn)) ea_nil) ⟨Int.natCast_nonneg _, by omega⟩ (fun x => rfl) ?_ ?_)) ?_) (fun H1 e => q H1 e)
    · intro i H1 e hi
      refine et_is (et_test (ev_op (ev_call (ea_cons (ev_var rfl) ea_nil) (wtV (by omega))) (ev_var rfl) rv_I0)) (nat_le _ _)
    · intro i H1 e hi _
      exact ev_var rfl
    · unfold given bsN
      rw [List.length_map]
      rfl
/-! ### hit_count, hit_counts -/
def hcN (c : List Nat) (r x : Nat) : Nat := (c.filter fun y => decide (wt (y ^^^ x) ≤ r)).length
/-- words that stand in the heap -/
structure Ws (K : PySem.W.Frag) (H : Hp) (a : Addr) (c : List Nat) : Prop where
  at_ : SqL K H a (vl c)
  lt : ∀ x ∈ c, x < 64
  len : c.length ≤ 64
theorem Ws.ex {H H' : Hp} {a : Addr} {c : List Nat} (h : Ws K H a c) (e : Ex H H') : Ws K H' a c := ⟨ex_l e h.at_, h.lt, h.len⟩
def spHc (K : PySem.W.Frag) : Sp := fun vs H Q _ => ∃ (a : Addr) (c : List Nat) (r x : Nat), vs = [.ref a, .int (r : Int), .int (x : Int)] ∧ Ws K H a c ∧ x < 64 ∧ RetV (.int (hcN c r x : Nat)) H Q
theorem scHc : FnScope ["there", "r", "x", "word"] ["there", "r", "x"] (defScope sHc) := ⟨rfl, rfl, rfl, by decide +kernel, rfl, by decide +kernel, by decide +kernel⟩
theorem okHc {f : Addr} {fd : FuncData} (F : Fun K "hit_count" "hit_count" sHc f fd) (B : Bt mg) (cD : Cl P w K mg base 2 "distance" spDi) : FnOk P w K mg base CX0 3 f fd ["there", "r", "x"] (spHc K) := by
  refine F.ok scHc (fun vs H Q E h => ?_) (fun cdv A outer s H vs Q E hr h => ?_)
  · obtain ⟨a, c, r, x, rfl, _⟩ := h
    rfl
  · obtain ⟨a, c, r, x, rfl, W, hx, q⟩ := h
    refine ⟨_, pss_one (ps_ret (pe_callB call_len_seq (by rfl) B.len PySem.boot_len (pa_cons
      (pe_lc (own := [("word", 3)]) (g := gName 3) rfl scHc.nd (pi_list (pv 0))
        (blkOk_by (own := [("word", 3)]) (N := ["there", "r", "x", "word"]) (sc := defScope sHc) (by decide +kernel)) (fun _ _ _ _ _ => pg_name (i := 3) scHc.nd rfl (Or.inl rfl))
        (fun _ _ _ _ _ => pts_one (pt_cmpR op_le (pe_k cD hr (by decide) rfl (pa_cons (pv 3) (pa_cons (pv 2) pa_nil))) (pv 1) (nomark _))) (fun _ _ _ _ _ => pv 3)) pa_nil))), ?_⟩
    have hl := W.len
    refine s_ret (ev_is (ev_lenN (el_lcL (xs := vl c) (fun i => decide (wt (c.getD i 0 ^^^ x) ≤ r)) (fun i => .int (c.getD i 0 : Nat)) (ev_var rfl) W.at_ (by rw [vl_len]; omega) (fun x => rfl) ?_ ?_)) ?_) (fun H1 e => q H1 e)
    · intro i v H1 e hi
      obtain ⟨y, hy, rfl⟩ := vl_get hi
      rw [getD_of hy]
      exact et_is (et_test (ev_op (ev_call (ea_cons (ev_var rfl) (ea_cons (ev_var rfl) ea_nil)) (diV (W.lt y (mem_of hy)) hx)) (ev_var rfl) rv_I0)) (nat_le _ _)
    · intro i v H1 e hi _
      obtain ⟨y, hy, rfl⟩ := vl_get hi
      rw [getD_of hy]
      exact ev_var rfl
    · rw [vl_len, given_list c (fun y => decide (wt (y ^^^ x) ≤ r)) (fun y => .int (y : Nat)), List.length_map]
      rfl
theorem hcV {H : Hp} {a : Addr} {c : List Nat} {r x : Nat} (W : Ws K H a c) (hx : x < 64) : SpV (spHc K) [.ref a, .int (r : Int), .int (x : Int)] H (.int (hcN c r x : Nat)) := fun _ e _ q _ => ⟨a, c, r, x, rfl, W.ex e, hx, q⟩
def hsN (n : Nat) (c : List Nat) (r : Nat) : List Nat := (List.range (2 ^ n)).map (hcN c r)
theorem hsN_len (n : Nat) (c : List Nat) (r : Nat) : (hsN n c r).length = 2 ^ n := by
  unfold hsN
  rw [List.length_map, List.length_range]
def spHs (K : PySem.W.Frag) : Sp := fun vs H Q _ => ∃ (n : Nat) (a : Addr) (c : List Nat) (r : Nat), vs = [.int (n : Int), .ref a, .int (r : Int)] ∧ n ≤ 6 ∧ Ws K H a c ∧ RetL (vl (hsN n c r)) H Q
theorem scHs : FnScope ["bits", "there", "r", "x"] ["bits", "there", "r"] (defScope sHs) := ⟨rfl, rfl, rfl, by decide +kernel, rfl, by decide +kernel, by decide +kernel⟩
theorem given_all (n : Nat) (v : Nat → V) : given n (fun _ => true) v = (List.range n).map v := by
  unfold given
  rw [List.filter_eq_self.mpr fun _ _ => rfl]
theorem el_is {te : TE} {σ : L2.St} {H : Hp} {xs ys : List V} (h : EvL te σ H xs) (e : xs = ys) : EvL te σ H ys := e ▸ h
theorem et_yes {σ : L2.St} {H : Hp} : EvT tYes σ H true := fun H1 _ _ q => q H1 (Ex.refl H1)
theorem okHs {f : Addr} {fd : FuncData} (F : Fun K "hit_counts" "hit_counts" sHs f fd) (B : Bt mg) (cW : Cl P w K mg base 1 "word_count" spWc) (cH : Cl P w K mg base 3 "hit_count" (spHc K)) : FnOk P w K mg base CX0 4 f fd ["bits", "there", "r"] (spHs K) := by
  refine F.ok scHs (fun vs H Q E h => ?_) (fun cdv A outer s H vs Q E hr h => ?_)
  · obtain ⟨n, a, c, r, rfl, _⟩ := h
    rfl
  · obtain ⟨n, a, c, r, rfl, hn, W, q⟩ := h
    refine ⟨_, pss_one (ps_ret (pe_lc (own := [("x", 3)]) (g := gName 3) rfl scHs.nd (pi_range1 rfl B.range (pa_cons (pe_k cW hr (by decide) rfl (pa_cons (pv 0) pa_nil)) pa_nil))
        (blkOk_by (own := [("x", 3)]) (N := ["bits", "there", "r", "x"]) (sc := defScope sHs) (by decide +kernel)) (fun _ _ _ _ _ => pg_name (i := 3) scHs.nd rfl (Or.inl rfl))
        (fun _ _ _ _ _ => pts_nil) (fun _ _ _ _ _ => pe_k cH hr (by decide) rfl (pa_cons (pv 1) (pa_cons (pv 2) (pa_cons (pv 3) pa_nil)))))), ?_⟩
    have h64 := pow_le hn
    refine s_retL (el_is (el_lcR1 (n := ((2 ^ n : Nat) : Int)) (fun _ => true) (fun i => .int (hcN c r i : Nat)) (ea_cons (ev_call (ea_cons (ev_var rfl) ea_nil) (wcV hn)) ea_nil) ⟨Int.natCast_nonneg _, by omega⟩ (fun x => rfl)
      (fun i H1 e hi => et_yes) (fun i H1 e hi _ => ev_call (ea_cons (ev_var rfl) (ea_cons (ev_var rfl) (ea_cons (ev_var rfl) ea_nil))) (hcV (W.ex e) (by omega)))) ?_) fun p H1 hp e h1 => q p H1 hp e h1
    rw [given_all, vl_map]
    unfold hsN
    rw [List.map_map]
    rfl
theorem hsV {H : Hp} {n : Nat} {a : Addr} {c : List Nat} {r : Nat} (hn : n ≤ 6) (W : Ws K H a c) : SpL (spHs K) [.int (n : Int), .ref a, .int (r : Int)] H (vl (hsN n c r)) := fun _ e _ q _ => ⟨n, a, c, r, rfl, hn, W.ex e, q⟩
/-! ### words_by_hits -/
def whN (n : Nat) (c : List Nat) (r : Nat) : List Nat := (List.range (c.length + 1)).map fun m => (hsN n c r).count m
def spWh (K : PySem.W.Frag) : Sp := fun vs H Q _ => ∃ (n : Nat) (a : Addr) (c : List Nat) (r : Nat), vs = [.int (n : Int), .ref a, .int (r : Int)] ∧ n ≤ 6 ∧ Ws K H a c ∧ RetL (vl (whN n c r)) H Q
theorem scWh : FnScope ["bits", "there", "r", "counts", "often"] ["bits", "there", "r"] (defScope sWh) := ⟨rfl, rfl, rfl, by decide +kernel, rfl, by decide +kernel, by decide +kernel⟩
theorem ev_cnt {ta tb : TE} {σ : L2.St} {H : Hp} {p : Addr} {ns : List Int} {k : Int} (ha : Ev ta σ H (.ref p)) (hb : Ev tb σ H (.int k)) (h : SqL K H p (ns.map V.int)) : Ev (tBM K "list" (rCntI K) ta (tCons tb tNil)) σ H (.int (ns.count k : Nat)) := fun H1 e Q q =>
  ha H1 e _ fun H2 e2 => ⟨.inl ⟨rfl, _, ex_l (e.trans e2) h⟩, hb H2 (e.trans e2) _ fun H3 e3 => ⟨p, ns, k, rfl, rfl, ex_l ((e.trans e2).trans e3) h, q H3 (e2.trans e3)⟩⟩
theorem okWh {f : Addr} {fd : FuncData} (F : Fun K "words_by_hits" "words_by_hits" sWh f fd) (B : Bt mg) (cH : Cl P w K mg base 4 "hit_counts" (spHs K)) : FnOk P w K mg base CX0 5 f fd ["bits", "there", "r"] (spWh K) := by
  refine F.ok scWh (fun vs H Q E h => ?_) (fun cdv A outer s H vs Q E hr h => ?_)
  · obtain ⟨n, a, c, r, rfl, _⟩ := h
    rfl
  · obtain ⟨n, a, c, r, rfl, hn, W, q⟩ := h
    refine ⟨_, pss_cons (ps_set (i := 3) scWh.nd rfl (Or.inr rfl) (pe_k cH hr (by decide) rfl (pa_cons (pv 0) (pa_cons (pv 1) (pa_cons (pv 2) pa_nil)))))
      (pss_one (ps_ret (pe_lc (own := [("often", 4)]) (g := gName 4) (te := tBM K "list" (rCntI K) (tVar 3) (tCons (tVar 4) tNil)) rfl scWh.nd (pi_range1 rfl B.range (pa_cons (pe_op op_add (pe_callB call_len_seq (by rfl) B.len PySem.boot_len (pa_cons (pv 1) pa_nil)) pe_int) pa_nil))
        (blkOk_by (own := [("often", 4)]) (N := ["bits", "there", "r", "counts", "often"]) (sc := defScope sWh) (by decide +kernel)) (fun _ _ _ _ _ => pg_name (i := 4) scWh.nd rfl (Or.inl rfl))
        (fun _ _ _ _ _ => pts_nil) (fun _ _ _ _ _ => pe_bm PySem.F.plainAttrs_list PySem.F.slot_list_count PySem.F.type_list_count mt_lcount (pv 3) (pa_cons (pv 4) pa_nil))))), ?_⟩
    refine q_asgL (el_call (ea_cons (ev_var rfl) (ea_cons (ev_var rfl) (ea_cons (ev_var rfl) ea_nil))) (hsV hn W)) fun p H1 hp e h1 => ?_
    have hl := W.len
    refine s_retL (el_is (el_lcR1 (n := ((c.length + 1 : Nat) : Int)) (fun _ => true) (fun i => .int ((hsN n c r).count i : Nat))
      (ea_cons (ev_is (ev_op (ev_len (ev_var (i := 1) rfl) (W.ex e).at_) (ev_c (v := .int 1)) (rv_I0 (g := fun i j => .int (i + j)))) (by rw [vl_len]; rfl)) ea_nil) ⟨Int.natCast_nonneg _, by omega⟩ (fun x => rfl)
      (fun i H2 e2 hi => et_yes) (fun i H2 e2 hi _ => ev_is (ev_cnt (ev_var rfl) (ev_var rfl) (sq_of (e2 p _ h1))) (by rw [ints_count]))) ?_) fun p2 H2 hp2 e2 h2 => q.go e hp2 e2 h2
    rw [given_all, vl_map]
    unfold whN
    rw [List.map_map]
    rfl
theorem whV {H : Hp} {n : Nat} {a : Addr} {c : List Nat} {r : Nat} (hn : n ≤ 6) (W : Ws K H a c) : SpL (spWh K) [.int (n : Int), .ref a, .int (r : Int)] H (vl (whN n c r)) := fun _ e _ q _ => ⟨n, a, c, r, rfl, hn, W.ex e, q⟩
/-! ### balls_cover, balls_apart -/
/-- told by the list of hits -/
def bcN (n : Nat) (c : List Nat) (r : Nat) : Bool := (hsN n c r).all fun k => decide (1 ≤ k)
def baN (n : Nat) (c : List Nat) (r : Nat) : Bool := (hsN n c r).all fun k => decide (k ≤ 1)
theorem min_ge {l : List Nat} {m : Int} (h1 : m ∈ zs l) (h2 : ∀ y, y ∈ zs l → m ≤ y) : decide (1 ≤ m) = l.all fun k => decide (1 ≤ k) := by
  obtain ⟨k, hk, rfl⟩ := mem_ints.mp h1
  rw [Bool.eq_iff_iff, decide_eq_true_eq, List.all_eq_true]
  constructor
  · intro z j hj
    have := h2 j (mem_ints.mpr ⟨j, hj, rfl⟩)
    rw [decide_eq_true_eq]
    omega
  · intro z
    have := z k hk
    rw [decide_eq_true_eq] at this
    omega
theorem max_le {l : List Nat} {m : Int} (h1 : m ∈ zs l) (h2 : ∀ y, y ∈ zs l → y ≤ m) : decide (m ≤ 1) = l.all fun k => decide (k ≤ 1) := by
  obtain ⟨k, hk, rfl⟩ := mem_ints.mp h1
  rw [Bool.eq_iff_iff, decide_eq_true_eq, List.all_eq_true]
  constructor
  · intro z j hj
    have := h2 j (mem_ints.mpr ⟨j, hj, rfl⟩)
    rw [decide_eq_true_eq]
    omega
  · intro z
    have := z k hk
    rw [decide_eq_true_eq] at this
    omega
theorem ev_min {ta : TE} {σ : L2.St} {H : Hp} {ns : List Int} {g : Int → Int → V} {r : R2} {k : Int} {v : V} (hr : r = rI0 g) (ha : EvL ta σ H (ns.map V.int)) (h0 : 0 < ns.length) (hv : ∀ m, m ∈ ns → (∀ y, y ∈ ns → m ≤ y) → g m k = v) :
    Ev (tOp r (tCB (rMin K) (tCons ta tNil)) (tC (.int k))) σ H v := fun H1 e Q q => ha H1 e _ fun p H2 _ e2 h2 => ⟨p, ns, rfl, sq_of h2, h0, fun m hm hle => by
  subst hr
  refine ⟨m, k, rfl, rfl, ?_⟩
  rw [hv m hm hle]
  exact q H2 e2⟩
theorem ev_max {ta : TE} {σ : L2.St} {H : Hp} {ns : List Int} {g : Int → Int → V} {r : R2} {k : Int} {v : V} (hr : r = rI0 g) (ha : EvL ta σ H (ns.map V.int)) (h0 : 0 < ns.length) (hv : ∀ m, m ∈ ns → (∀ y, y ∈ ns → y ≤ m) → g m k = v) :
    Ev (tOp r (tCB (rMax K) (tCons ta tNil)) (tC (.int k))) σ H v := fun H1 e Q q => ha H1 e _ fun p H2 _ e2 h2 => ⟨p, ns, rfl, sq_of h2, h0, fun m hm hle => by
  subst hr
  refine ⟨m, k, rfl, rfl, ?_⟩
  rw [hv m hm hle]
  exact q H2 e2⟩
theorem two_pos (n : Nat) : 0 < 2 ^ n := Nat.pow_pos (by decide)
def spBc (K : PySem.W.Frag) (g : Nat → List Nat → Nat → Bool) : Sp := fun vs H Q _ => ∃ (n : Nat) (a : Addr) (c : List Nat) (r : Nat), vs = [.int (n : Int), .ref a, .int (r : Int)] ∧ n ≤ 6 ∧ Ws K H a c ∧ RetV (.bl (g n c r)) H Q
theorem scBc : FnScope ["bits", "there", "r"] ["bits", "there", "r"] (defScope sBc) := ⟨rfl, rfl, rfl, by decide +kernel, rfl, by decide +kernel, by decide +kernel⟩
theorem okBc {f : Addr} {fd : FuncData} (F : Fun K "balls_cover" "balls_cover" sBc f fd) (B : Bt mg) (cH : Cl P w K mg base 4 "hit_counts" (spHs K)) : FnOk P w K mg base CX0 5 f fd ["bits", "there", "r"] (spBc K bcN) := by
  refine F.ok scBc (fun vs H Q E h => ?_) (fun cdv A outer s H vs Q E hr h => ?_)
  · obtain ⟨n, a, c, r, rfl, _⟩ := h
    rfl
  · obtain ⟨n, a, c, r, rfl, hn, W, q⟩ := h
    refine ⟨_, pss_one (ps_ret (pe_cmpR op_ge (pe_callB (cr_min rfl) (by rfl) B.min (by decide +kernel) (pa_cons (pe_k cH hr (by decide) rfl (pa_cons (pv 0) (pa_cons (pv 1) (pa_cons (pv 2) pa_nil)))) pa_nil)) pe_int (nomark _))), ?_⟩
    refine s_ret (ev_min rfl (el_call (ea_cons (ev_var rfl) (ea_cons (ev_var rfl) (ea_cons (ev_var rfl) ea_nil))) (hsV hn W)) (by rw [ints_len, hsN_len]; exact two_pos n) fun m h1 h2 => ?_) (fun H1 e => q H1 e)
    exact congrArg V.bl (min_ge h1 h2)
theorem scBa : FnScope ["bits", "there", "r"] ["bits", "there", "r"] (defScope sBa) := ⟨rfl, rfl, rfl, by decide +kernel, rfl, by decide +kernel, by decide +kernel⟩
theorem okBa {f : Addr} {fd : FuncData} (F : Fun K "balls_apart" "balls_apart" sBa f fd) (B : Bt mg) (cH : Cl P w K mg base 4 "hit_counts" (spHs K)) : FnOk P w K mg base CX0 5 f fd ["bits", "there", "r"] (spBc K baN) := by
  refine F.ok scBa (fun vs H Q E h => ?_) (fun cdv A outer s H vs Q E hr h => ?_)
  · obtain ⟨n, a, c, r, rfl, _⟩ := h
    rfl
  · obtain ⟨n, a, c, r, rfl, hn, W, q⟩ := h
    refine ⟨_, pss_one (ps_ret (pe_cmpR op_le (pe_callB (cr_max rfl) (by rfl) B.max (by decide +kernel) (pa_cons (pe_k cH hr (by decide) rfl (pa_cons (pv 0) (pa_cons (pv 1) (pa_cons (pv 2) pa_nil)))) pa_nil)) pe_int (nomark _))), ?_⟩
    refine s_ret (ev_max rfl (el_call (ea_cons (ev_var rfl) (ea_cons (ev_var rfl) (ea_cons (ev_var rfl) ea_nil))) (hsV hn W)) (by rw [ints_len, hsN_len]; exact two_pos n) fun m h1 h2 => ?_) (fun H1 e => q H1 e)
    exact congrArg V.bl (max_le h1 h2)
theorem bcV {g : Nat → List Nat → Nat → Bool} {H : Hp} {n : Nat} {a : Addr} {c : List Nat} {r : Nat} (hn : n ≤ 6) (W : Ws K H a c) : SpV (spBc K g) [.int (n : Int), .ref a, .int (r : Int)] H (.bl (g n c r)) := fun _ e _ q _ => ⟨n, a, c, r, rfl, hn, W.ex e, q⟩
end
end BC

namespace BC
open PySem PySem.Spec PyProof.Rows L2 Evl
abbrev sWn : Stmt := top 9
abbrev sBf : Stmt := top 12
abbrev sNw : Stmt := top 13
abbrev sCr : Stmt := top 14
abbrev sAr : Stmt := top 15
section
variable {P : Program} {w : World} {K : PySem.W.Frag} {mg : Str → Option Value} {base : Heap}
/-! ### a comprehension over enumerate of a new list -/
theorem el_lcE {σ : L2.St} {H : Hp} {tl : TE} {t : TT} {te : TE} {ys : List V} {j k : Nat} {vs : List Nat} (f : Nat → Bool) (v : Nat → V) (h : EvL tl σ H ys) (hz : ys.length ≤ 40000)
    (hw : ∀ u1 u2, wipe (((wipe σ vs).set j (some u1)).set k (some u2)) vs = wipe σ vs)
    (ht : ∀ (i : Nat) (y : V) H1, Ex H H1 → ys[i]? = some y → EvT t (((wipe σ vs).set j (some (.int (i : Int)))).set k (some y)) H1 (f i))
    (he : ∀ (i : Nat) (y : V) H1, Ex H H1 → ys[i]? = some y → f i = true → Ev te (((wipe σ vs).set j (some (.int (i : Int)))).set k (some y)) H1 (v i)) :
    EvL (tLc (iEnum K (tCons tl tNil)) (gTup K 2 (gCons (gName j) (gCons (gName k) gNil))) t te vs) σ H (given ys.length f v) := fun H0 e Q q => h H0 e _ fun b H1 hb e1 hy => ⟨b, ys, rfl, sq_of hy, fun Dl hD => by
  refine ⟨fun i m H' => m = ys.length - i ∧ i ≤ ys.length ∧ Cw H1 f v Dl i H', ⟨ys.length, rfl, Nat.zero_le _, hD, Ex.new hD, upd_same⟩, ?_⟩
  rintro i m H' ⟨rfl, hi, p⟩
  have hy' : SqL K H' b ys := sq_of (p.2.1 _ _ hy)
  by_cases lt : i < ys.length
  · refine .inr ⟨⟨ys, ys[i], hy', by simp [lt]⟩, Cw H1 f v Dl (i + 1), fun H'' p' => ⟨ys.length - (i + 1), by omega, rfl, lt, p'⟩, ?_⟩
    rintro u H'' ⟨T, y, rfl, nT, rfl, hyy⟩
    have hyi := hyy ys hy'
    refine ⟨T, _, rfl, st_of upd_same, rfl, _, _, rfl, _, _, rfl, rfl, hw _ _, ?_⟩
    have neD : Dl ≠ T := fun z => by
      have := p.2.2
      rw [z, nT] at this
      cases this
    have p2 : Cw H1 f v Dl i (upd H' T (.tup [.int (i : Int), y])) := ⟨p.1, p.2.1.trans (Ex.new nT), by rw [upd_ne neD]; exact p.2.2⟩
    exact cw_turn p2 (by omega) (ht i y H1 (e.trans e1) hyi) (fun hf => he i y H1 (e.trans e1) hyi hf)
  · have ei : i = ys.length := by omega
    subst ei
    exact .inl ⟨⟨ys, hy', Nat.le_refl _⟩, q Dl H' (fresh_back e1 p.1) (e1.trans p.2.1) p.2.2⟩⟩
/-! ### words_hit -/
theorem dec_nat (a b : Nat) : decide (V.int (a : Int) = V.int (b : Int)) = decide (a = b) := by
  by_cases h : a = b
  · rw [decide_eq_true h, decide_eq_true (by rw [h])]
  · rw [decide_eq_false h, decide_eq_false fun z => h (by injection z with z; omega)]
def wnN (n : Nat) (c : List Nat) (r m : Nat) : List Nat := (List.range (2 ^ n)).filter fun x => decide (hcN c r x = m)
theorem wnN_lt {n : Nat} {c : List Nat} {r m : Nat} (hn : n ≤ 6) : ∀ x ∈ wnN n c r m, x < 64 := fun x hx => Nat.lt_of_lt_of_le (List.mem_range.mp (List.mem_filter.mp hx).1) (pow_le hn)
theorem wnN_len {n : Nat} {c : List Nat} {r m : Nat} (hn : n ≤ 6) : (wnN n c r m).length ≤ 64 := by
  have h := List.length_filter_le (fun x => decide (hcN c r x = m)) (List.range (2 ^ n))
  rw [List.length_range] at h
  exact Nat.le_trans h (pow_le hn)
def spWn (K : PySem.W.Frag) : Sp := fun vs H Q _ => ∃ (n : Nat) (a : Addr) (c : List Nat) (r m : Nat), vs = [.int (n : Int), .ref a, .int (r : Int), .int (m : Int)] ∧ n ≤ 6 ∧ Ws K H a c ∧ RetL (vl (wnN n c r m)) H Q
theorem scWn : FnScope ["bits", "there", "r", "often", "x", "count"] ["bits", "there", "r", "often"] (defScope sWn) := ⟨rfl, rfl, rfl, by decide +kernel, rfl, by decide +kernel, by decide +kernel⟩
theorem hs_at {n : Nat} {c : List Nat} {r i : Nat} {y : V} (h : (vl (hsN n c r))[i]? = some y) : i < 2 ^ n ∧ y = .int (hcN c r i : Nat) := by
  obtain ⟨k, hk, rfl⟩ := vl_get h
  unfold hsN at hk
  rw [List.getElem?_map] at hk
  have hi : i < 2 ^ n := by
    rcases Nat.lt_or_ge i (2 ^ n) with z | z
    · exact z
    · rw [List.getElem?_eq_none (by rw [List.length_range]; exact z)] at hk
      cases hk
  rw [List.getElem?_range hi] at hk
  have : hcN c r i = k := Option.some.inj hk
  exact ⟨hi, by rw [this]⟩
theorem okWn {f : Addr} {fd : FuncData} (F : Fun K "words_hit" "words_hit" sWn f fd) (zE : mg "enumerate" = none) (cH : Cl P w K mg base 4 "hit_counts" (spHs K)) : FnOk P w K mg base CX0 5 f fd ["bits", "there", "r", "often"] (spWn K) := by
  refine F.ok scWn (fun vs H Q E h => ?_) (fun cdv A outer_ s H vs Q E hr h => ?_)
  · obtain ⟨n, a, c, r, m, rfl, _⟩ := h
    rfl
  · obtain ⟨n, a, c, r, m, rfl, hn, W, q⟩ := h
    refine ⟨_, pss_one (ps_ret (pe_lc (own := [("x", 4), ("count", 5)]) (g := gTup K 2 (gCons (gName 4) (gCons (gName 5) gNil))) rfl scWn.nd (pi_enum rfl zE (pa_cons (pe_k cH hr (by decide) rfl (pa_cons (pv 0) (pa_cons (pv 1) (pa_cons (pv 2) pa_nil)))) pa_nil))
        (blkOk_by (own := [("x", 4), ("count", 5)]) (N := ["bits", "there", "r", "often", "x", "count"]) (sc := defScope sWn) (by decide +kernel))
        (fun _ _ _ _ _ => pg_tup rfl (pgs_cons (pg_name (i := 4) scWn.nd rfl (Or.inl rfl)) (pgs_cons (pg_name (i := 5) scWn.nd rfl (Or.inl rfl)) pgs_nil)))
        (fun _ _ _ _ _ => pts_one (pt_cmpR op_eq (pv 5) (pv 3) (nomark _))) (fun _ _ _ _ _ => pv 4))), ?_⟩
    have h64 := pow_le hn
    refine s_retL (el_is (el_lcE (K := K) (ys := vl (hsN n c r)) (fun i => decide (hcN c r i = m)) (fun i => .int (i : Int)) (el_call (ea_cons (ev_var rfl) (ea_cons (ev_var rfl) (ea_cons (ev_var rfl) ea_nil))) (hsV hn W)) (by rw [vl_len, hsN_len]; omega) (fun u1 u2 => rfl) ?_ ?_) ?_) fun p H1 hp e h1 => q p H1 hp e h1
    · intro i y H1 e hy
      obtain ⟨hi, rfl⟩ := hs_at hy
      exact et_is (et_test (ev_op (ev_var rfl) (ev_var rfl) (rv_eq rfl))) (dec_nat _ _)
    · intro i y H1 e hy _
      exact ev_var rfl
    · rw [vl_len, hsN_len, vl_map]
      rfl
theorem wnV {H : Hp} {n : Nat} {a : Addr} {c : List Nat} {r m : Nat} (hn : n ≤ 6) (W : Ws K H a c) : SpL (spWn K) [.int (n : Int), .ref a, .int (r : Int), .int (m : Int)] H (vl (wnN n c r m)) := fun _ e _ q _ => ⟨n, a, c, r, m, rfl, hn, W.ex e, q⟩
/-! ### balls_fill -/
def bfN (n : Nat) (c : List Nat) (r : Nat) : Bool := bcN n c r && baN n c r
theorem scBf : FnScope ["bits", "there", "r"] ["bits", "there", "r"] (defScope sBf) := ⟨rfl, rfl, rfl, by decide +kernel, rfl, by decide +kernel, by decide +kernel⟩
theorem okBf {f : Addr} {fd : FuncData} (F : Fun K "balls_fill" "balls_fill" sBf f fd) (cC : Cl P w K mg base 5 "balls_cover" (spBc K bcN)) (cA : Cl P w K mg base 5 "balls_apart" (spBc K baN)) : FnOk P w K mg base CX0 6 f fd ["bits", "there", "r"] (spBc K bfN) := by
  refine F.ok scBf (fun vs H Q E h => ?_) (fun cdv A outer_ s H vs Q E hr h => ?_)
  · obtain ⟨n, a, c, r, rfl, _⟩ := h
    rfl
  · obtain ⟨n, a, c, r, rfl, hn, W, q⟩ := h
    refine ⟨_, pss_one (ps_ret (pe_and (pe_k cC hr (by decide) rfl (pa_cons (pv 0) (pa_cons (pv 1) (pa_cons (pv 2) pa_nil)))) (pe_one (pe_k cA hr (by decide) rfl (pa_cons (pv 0) (pa_cons (pv 1) (pa_cons (pv 2) pa_nil))))))), ?_⟩
    exact s_ret (ev_andV (ev_call (ea_cons (ev_var rfl) (ea_cons (ev_var rfl) (ea_cons (ev_var rfl) ea_nil))) (bcV hn W)) fun _ => ev_call (ea_cons (ev_var rfl) (ea_cons (ev_var rfl) (ea_cons (ev_var rfl) ea_nil))) (bcV hn W)) (fun H1 e => q H1 e)
/-! ### needed_words -/
theorem ev_any {ta : TE} {σ : L2.St} {H : Hp} {bs : List Bool} (ha : EvL ta σ H (bs.map V.bl)) : Ev (tCB (rAny K) (tCons ta tNil)) σ H (.bl (bs.any id)) := fun H1 e _ q =>
  ha H1 e _ fun p H2 _ e2 h2 => ⟨p, bs, rfl, sq_of h2, q H2 e2⟩
theorem given_map (c : List Nat) (g : Nat → V) : given c.length (fun _ => true) (fun i => g (c.getD i 0)) = c.map g := by
  have := given_list c (fun _ => true) g
  rw [List.filter_eq_self.mpr fun _ _ => rfl] at this
  exact this
def nwSc : Scope := { kind := .function, names := [(".0", .local), ("word", .cell), ("any", .globalImplicit), ("once", .cell), ("r", .cell)], isGenerator := false, isCoroutine := false }
def nwN (n : Nat) (c : List Nat) (r : Nat) : List Nat := c.filter fun y => (wnN n c r 1).any fun x => decide (wt (y ^^^ x) ≤ r)
def spNw (K : PySem.W.Frag) : Sp := fun vs H Q _ => ∃ (n : Nat) (a : Addr) (c : List Nat) (r : Nat), vs = [.int (n : Int), .ref a, .int (r : Int)] ∧ n ≤ 6 ∧ Ws K H a c ∧ RetL (vl (nwN n c r)) H Q
theorem scNw : FnScope ["bits", "there", "r", "once", "word", "x"] ["bits", "there", "r"] (defScope sNw) := ⟨rfl, rfl, rfl, by decide +kernel, rfl, by decide +kernel, by decide +kernel⟩
theorem okNw {f : Addr} {fd : FuncData} (F : Fun K "needed_words" "needed_words" sNw f fd) (B : Bt mg) (cN : Cl P w K mg base 5 "words_hit" (spWn K)) (cD : Cl P w K mg base 2 "distance" spDi) : FnOk P w K mg base CX0 6 f fd ["bits", "there", "r"] (spNw K) := by
  refine F.ok scNw (fun vs H Q E h => ?_) (fun cdv A outer_ s H vs Q E hr h => ?_)
  · obtain ⟨n, a, c, r, rfl, _⟩ := h
    rfl
  · obtain ⟨n, a, c, r, rfl, hn, W, q⟩ := h
    refine ⟨_, pss_cons (ps_set (i := 3) scNw.nd rfl (Or.inr rfl) (pe_k cN hr (by decide) rfl (pa_cons (pv 0) (pa_cons (pv 1) (pa_cons (pv 2) (pa_cons pe_int pa_nil))))))
      (pss_one (ps_ret (pe_lc (own := [("word", 4)]) (g := gName 4) (tt := tB (tCB (rAny K) (tCons (tLc (iList K (tVar 3)) (gName 5) tYes (tOp (rI0 fun i j => .bl (decide (i ≤ j))) (tCall spDi [] E0 (tCons (tVar 4) (tCons (tVar 5) tNil))) (tVar 2)) [5]) tNil))) rfl scNw.nd (pi_list (pv 1))
        (blkOk_by (own := [("word", 4)]) (N := ["bits", "there", "r", "once", "word", "x"]) (sc := defScope sNw) (by decide +kernel)) (fun _ _ _ _ _ => pg_name (i := 4) scNw.nd rfl (Or.inr rfl))
        (fun _ _ _ _ _ => pts_one (pt_val (pe_callB (cr_any rfl) (by rfl) B.any (by decide +kernel) (pa_cons (pe_lc (own := [("x", 5)]) (g := gName 5) (tt := tYes) rfl scNw.nd (pi_list (pv 3))
            (blkOk_by (own := [("x", 5)]) (N := ["bits", "there", "r", "once", "word", "x"]) (sc := nwSc) (by decide +kernel)) (fun _ _ _ _ _ => pg_name (i := 5) scNw.nd rfl (Or.inl rfl))
            (fun _ _ _ _ _ => pts_nil) (fun _ _ _ _ _ => pe_cmpR op_le (pe_k cD hr (by decide) rfl (pa_cons (pv 4) (pa_cons (pv 5) pa_nil))) (pv 2) (nomark _))) pa_nil)))) (fun _ _ _ _ _ => pv 4)))), ?_⟩
    have hl := W.len
    have hl2 := wnN_len (c := c) (r := r) (m := 1) hn
    refine q_asgL (el_call (ea_cons (ev_var rfl) (ea_cons (ev_var rfl) (ea_cons (ev_var rfl) (ea_cons (ev_is ev_c (w := .int ((1 : Nat) : Int)) rfl) ea_nil)))) (wnV (m := 1) hn W)) fun p H1 hp e1 h1 => ?_
    refine s_retL (el_is (el_lcL (xs := vl c) (fun i => (wnN n c r 1).any fun x => decide (wt (c.getD i 0 ^^^ x) ≤ r)) (fun i => .int (c.getD i 0 : Nat)) (ev_var rfl) (W.ex e1).at_ (by rw [vl_len]; omega) (fun x => rfl) ?_ ?_) ?_) fun p2 H2 hp2 e2 h2 => q.go e1 hp2 e2 h2
    · intro i v H2 e2 hi
      obtain ⟨y, hy, rfl⟩ := vl_get hi
      rw [getD_of hy]
      have hy64 := W.lt y (mem_of hy)
      refine et_is (et_B (ev_any (bs := (wnN n c r 1).map fun x => decide (wt (y ^^^ x) ≤ r)) (el_is (el_lcL (xs := vl (wnN n c r 1)) (fun _ => true) (fun i => .bl (decide (wt (y ^^^ (wnN n c r 1).getD i 0) ≤ r))) (ev_var rfl) (sq_of (e2 _ _ h1)) (by rw [vl_len]; omega) (fun x => rfl) (fun i v H1 e hi => et_yes) ?_) ?_))) ?_
      · intro i v H3 e3 hi _
        obtain ⟨x, hx, rfl⟩ := vl_get hi
        rw [getD_of hx]
        exact ev_is (ev_op (ev_call (ea_cons (ev_var rfl) (ea_cons (ev_var rfl) ea_nil)) (diV hy64 (wnN_lt hn x (mem_of hx)))) (ev_var rfl) rv_I0) (congrArg V.bl (nat_le _ _))
      · rw [vl_len, given_map (wnN n c r 1) (fun x => V.bl (decide (wt (y ^^^ x) ≤ r))), List.map_map]
        rfl
      · rw [List.any_map]
        rfl
    · intro i v H2 e2 hi _
      obtain ⟨y, hy, rfl⟩ := vl_get hi
      rw [getD_of hy]
      exact ev_var rfl
    · rw [vl_len, given_list c (fun y => (wnN n c r 1).any fun x => decide (wt (y ^^^ x) ≤ r)) (fun y => .int (y : Nat)), vl_map]
      rfl
theorem nwV {H : Hp} {n : Nat} {a : Addr} {c : List Nat} {r : Nat} (hn : n ≤ 6) (W : Ws K H a c) : SpL (spNw K) [.int (n : Int), .ref a, .int (r : Int)] H (vl (nwN n c r)) := fun _ e _ q _ => ⟨n, a, c, r, rfl, hn, W.ex e, q⟩
/-! ### covering_radius, apart_reach -/
def spCr (K : PySem.W.Frag) : Sp := fun vs H Q _ => ∃ (n : Nat) (a : Addr) (c : List Nat) (R : Nat), vs = [.int (n : Int), .ref a] ∧ n ≤ 6 ∧ Ws K H a c ∧ bcN n c R = true ∧ (∀ j < R, bcN n c j = false) ∧ RetV (.int (R : Int)) H Q
theorem scCr : FnScope ["bits", "there", "r"] ["bits", "there"] (defScope sCr) := ⟨rfl, rfl, rfl, by decide +kernel, rfl, by decide +kernel, by decide +kernel⟩
theorem okCr {f : Addr} {fd : FuncData} (F : Fun K "covering_radius" "covering_radius" sCr f fd) (cC : Cl P w K mg base 5 "balls_cover" (spBc K bcN)) : FnOk P w K mg base CX0 6 f fd ["bits", "there"] (spCr K) := by
  refine F.ok scCr (fun vs H Q E h => ?_) (fun cdv A outer_ s H vs Q E hr h => ?_)
  · obtain ⟨n, a, c, R, rfl, _⟩ := h
    rfl
  · obtain ⟨n, a, c, R, rfl, hn, W, h1, h2, q⟩ := h
    refine ⟨_, pss_cons (ps_set (i := 2) scCr.nd rfl (Or.inl rfl) pe_int)
      (pss_cons (ps_while PassesOwn.never (pt_not (pt_val (pe_k cC hr (by decide) rfl (pa_cons (pv 0) (pa_cons (pv 1) (pa_cons (pv 2) pa_nil))))))
        (pss_one (ps_aug (i := 2) scCr.nd rfl (Or.inl rfl) pe_int ip_add)))
      (pss_one (ps_ret (pv 2)))), ?_⟩
    refine q_asg ev_c fun H1 e1 => ?_
    refine q_while (fun m σ' H' => ∃ k : Nat, σ' = [some (.int (n : Int)), some (.ref a), some (.int (k : Int))] ∧ Ex H H' ∧ k ≤ R ∧ m = R - k) R ⟨0, rfl, e1, Nat.zero_le _, rfl⟩ ?_
    rintro m σ' H' ⟨k, rfl, e, hk, rfl⟩
    refine ⟨_, et_not (et_B (ev_call (ea_cons (ev_var rfl) (ea_cons (ev_var rfl) (ea_cons (ev_var rfl) ea_nil))) (bcV hn (W.ex e)))), fun hb H2 e2 => ?_, fun hb H2 e2 => ?_⟩
    · have hb : bcN n c k = false := by
        cases z : bcN n c k with
        | false => rfl
        | true => rw [z] at hb; cases hb
      have lt : k < R := by
        rcases Nat.lt_or_ge k R with z | z
        · exact z
        · have : k = R := by omega
          rw [this, h1] at hb
          cases hb
      refine ⟨fun σ2 H2 => σ2 = [some (.int (n : Int)), some (.ref a), some (.int ((k + 1 : Nat) : Int))] ∧ Ex H H2, ?_, ?_⟩
      · rintro σ2 H2 ⟨rfl, x1⟩
        exact ⟨R - (k + 1), by omega, k + 1, rfl, x1, lt, rfl⟩
      · exact s_aug rfl ev_c fun H3 e3 => ⟨rfl, (e.trans e2).trans e3⟩
    · have hb : bcN n c k = true := by
        cases z : bcN n c k with
        | true => rfl
        | false => rw [z] at hb; cases hb
      have : k = R := by
        rcases Nat.lt_or_ge k R with z | z
        · rw [h2 k z] at hb
          cases hb
        · omega
      subst this
      exact s_ret (ev_var rfl) fun H3 e3 => q.go ((e.trans e2).trans e3)
theorem crV {H : Hp} {n : Nat} {a : Addr} {c : List Nat} {R : Nat} (hn : n ≤ 6) (W : Ws K H a c) (h1 : bcN n c R = true) (h2 : ∀ j < R, bcN n c j = false) : SpV (spCr K) [.int (n : Int), .ref a] H (.int (R : Int)) := fun _ e _ q _ => ⟨n, a, c, R, rfl, hn, W.ex e, h1, h2, q⟩
def spAr (K : PySem.W.Frag) : Sp := fun vs H Q _ => ∃ (n : Nat) (a : Addr) (c : List Nat) (R : Nat), vs = [.int (n : Int), .ref a] ∧ n ≤ 6 ∧ Ws K H a c ∧ R ≤ n ∧ (∀ j < R, baN n c (j + 1) = true) ∧ (R < n → baN n c (R + 1) = false) ∧ RetV (.int (R : Int)) H Q
theorem scAr : FnScope ["bits", "there", "r"] ["bits", "there"] (defScope sAr) := ⟨rfl, rfl, rfl, by decide +kernel, rfl, by decide +kernel, by decide +kernel⟩
theorem okAr {f : Addr} {fd : FuncData} (F : Fun K "apart_reach" "apart_reach" sAr f fd) (cA : Cl P w K mg base 5 "balls_apart" (spBc K baN)) : FnOk P w K mg base CX0 6 f fd ["bits", "there"] (spAr K) := by
  refine F.ok scAr (fun vs H Q E h => ?_) (fun cdv A outer_ s H vs Q E hr h => ?_)
  · obtain ⟨n, a, c, R, rfl, _⟩ := h
    rfl
  · obtain ⟨n, a, c, R, rfl, hn, W, hR, h1, h2, q⟩ := h
    refine ⟨_, pss_cons (ps_set (i := 2) scAr.nd rfl (Or.inl rfl) pe_int)
      (pss_cons (ps_while PassesOwn.never (PW.pt (pw_and (pt_cmpR op_lt (pv 2) (pv 0) (nomark _)) (pw_and1 (pt_val (pe_k cA hr (by decide) rfl (pa_cons (pv 0) (pa_cons (pv 1) (pa_cons (pe_op op_add (pv 2) pe_int) pa_nil))))))))
        (pss_one (ps_aug (i := 2) scAr.nd rfl (Or.inl rfl) pe_int ip_add)))
      (pss_one (ps_ret (pv 2)))), ?_⟩
    refine q_asg ev_c fun H1 e1 => ?_
    refine q_while (fun m σ' H' => ∃ k : Nat, σ' = [some (.int (n : Int)), some (.ref a), some (.int (k : Int))] ∧ Ex H H' ∧ k ≤ R ∧ m = R - k) R ⟨0, rfl, e1, Nat.zero_le _, rfl⟩ ?_
    rintro m σ' H' ⟨k, rfl, e, hk, rfl⟩
    refine ⟨_, et_and (a := decide (k < n)) (b := baN n c (k + 1)) (et_is (et_test (ev_op (ev_var rfl) (ev_var rfl) rv_I0)) (nat_lt _ _))
      (fun _ => et_B (ev_call (ea_cons (ev_var rfl) (ea_cons (ev_var rfl) (ea_cons (ev_is (ev_op (ev_var rfl) ev_c (rv_I0 (g := fun i j => .int (i + j)))) (w := .int ((k + 1 : Nat) : Int)) rfl) ea_nil))) (bcV hn (W.ex e)))), fun hb H2 e2 => ?_, fun hb H2 e2 => ?_⟩
    · rw [Bool.and_eq_true, decide_eq_true_eq] at hb
      have lt : k < R := by
        rcases Nat.lt_or_ge k R with z | z
        · exact z
        · have : k = R := by omega
          have hb2 := hb.2
          rw [this, h2 (by omega)] at hb2
          cases hb2
      refine ⟨fun σ2 H2 => σ2 = [some (.int (n : Int)), some (.ref a), some (.int ((k + 1 : Nat) : Int))] ∧ Ex H H2, ?_, ?_⟩
      · rintro σ2 H2 ⟨rfl, x1⟩
        exact ⟨R - (k + 1), by omega, k + 1, rfl, x1, lt, rfl⟩
      · exact s_aug rfl ev_c fun H3 e3 => ⟨rfl, (e.trans e2).trans e3⟩
    · have : k = R := by
        rcases Nat.lt_or_ge k R with z | z
        · rw [h1 k z, decide_eq_true (show k < n by omega)] at hb
          cases hb
        · omega
      subst this
      exact s_ret (ev_var rfl) fun H3 e3 => q.go ((e.trans e2).trans e3)
theorem arV {H : Hp} {n : Nat} {a : Addr} {c : List Nat} {R : Nat} (hn : n ≤ 6) (W : Ws K H a c) (hR : R ≤ n) (h1 : ∀ j < R, baN n c (j + 1) = true) (h2 : R < n → baN n c (R + 1) = false) : SpV (spAr K) [.int (n : Int), .ref a] H (.int (R : Int)) := fun _ e _ q _ => ⟨n, a, c, R, rfl, hn, W.ex e, hR, h1, h2, q⟩
end
end BC

namespace BC
open PySem PySem.Spec PyProof.Rows L2 Evl
abbrev sWp : Stmt := top 22
abbrev sCd : Stmt := top 23
abbrev sFr : Stmt := top 24
abbrev sFd : Stmt := top 25
/-! ### a dict of words, each with True -/
def dk (ks : List Nat) : List (Key × V) := ks.map fun (k : Nat) => (Sum.inl (k : Int), V.bl true)
def insK (ks : List Nat) (k : Nat) : List Nat := if k ∈ ks then ks else ks ++ [k]
theorem dk_len (ks : List Nat) : (dk ks).length = ks.length := List.length_map ..
theorem dk_any (ks : List Nat) (k : Nat) : ((dk ks).any fun kv => decide (kv.1 = Sum.inl (k : Int))) = decide (k ∈ ks) := by
  unfold dk
  rw [List.any_map, Bool.eq_iff_iff, List.any_eq_true, decide_eq_true_eq]
  constructor
  · rintro ⟨x, hx, e⟩
    have e2 : (Sum.inl (x : Int) : Key) = Sum.inl (k : Int) := decide_eq_true_eq.mp e
    injection e2 with e3
    have : x = k := by omega
    exact this ▸ hx
  · intro h
    exact ⟨k, h, decide_eq_true rfl⟩
theorem dk_put (ks : List Nat) (k : Nat) : putK (dk ks) (Sum.inl (k : Int)) (.bl true) = dk (insK ks k) := by
  unfold putK insK
  rw [dk_any]
  by_cases h : k ∈ ks
  · rw [if_pos (decide_eq_true h), if_pos h]
    unfold dk
    rw [List.map_map]
    refine List.map_congr_left fun x _ => ?_
    show (if (Sum.inl (x : Int) : Key) = Sum.inl (k : Int) then ((Sum.inl (x : Int), V.bl true) : Key × V) else (Sum.inl (x : Int), V.bl true)) = _
    split <;> rfl
  · rw [if_neg (by rw [decide_eq_false h]; decide), if_neg h]
    unfold dk
    rw [List.map_append]
    rfl
theorem dk_keys (ks : List Nat) : (dk ks).map (fun kv => kV kv.1) = vl ks := by
  rw [vl_map]
  unfold dk
  rw [List.map_map]
  rfl
theorem insK_mem {ks : List Nat} {k x : Nat} : x ∈ insK ks k ↔ x ∈ ks ∨ x = k := by
  unfold insK
  split
  · rename_i h
    exact ⟨.inl, fun q => q.elim id fun e => e ▸ h⟩
  · rw [List.mem_append, List.mem_singleton]
theorem insK_nd {ks : List Nat} {k : Nat} (h : ks.Nodup) : (insK ks k).Nodup := by
  unfold insK
  split
  · exact h
  · rename_i q
    rw [List.nodup_append]
    refine ⟨h, by simp, fun a ha b hb e => ?_⟩
    rw [List.mem_singleton] at hb
    rw [e, hb] at ha
    exact q ha
/-- the inner loop behind j words, the outer one behind i -/
def inner (one : Nat) (ks l : List Nat) : List Nat := l.foldl (fun k o => insK k (one ^^^ o)) ks
def outer (c ks l : List Nat) : List Nat := l.foldl (fun k one => inner one (insK k one) c) ks
theorem inner_mem {one x : Nat} : ∀ {l ks : List Nat}, x ∈ inner one ks l ↔ x ∈ ks ∨ ∃ o ∈ l, x = one ^^^ o
  | [], ks => by
    show x ∈ ks ↔ _
    exact ⟨.inl, fun q => q.elim id fun ⟨_, h, _⟩ => by cases h⟩
  | o :: l, ks => by
    show x ∈ inner one (insK ks (one ^^^ o)) l ↔ _
    rw [inner_mem, insK_mem]
    constructor
    · rintro ((h | h) | ⟨p, hp, h⟩)
      · exact .inl h
      · exact .inr ⟨o, List.mem_cons_self .., h⟩
      · exact .inr ⟨p, List.mem_cons_of_mem _ hp, h⟩
    · rintro (h | ⟨p, hp, h⟩)
      · exact .inl (.inl h)
      · rcases List.mem_cons.mp hp with e | e
        · exact .inl (.inr (e ▸ h))
        · exact .inr ⟨p, e, h⟩
theorem inner_nd {one : Nat} : ∀ {l ks : List Nat}, ks.Nodup → (inner one ks l).Nodup
  | [], _, h => h
  | o :: l, ks, h => by
    show (inner one (insK ks (one ^^^ o)) l).Nodup
    exact inner_nd (insK_nd h)
theorem outer_mem {c : List Nat} {x : Nat} : ∀ {l ks : List Nat}, x ∈ outer c ks l ↔ x ∈ ks ∨ x ∈ l ∨ ∃ a ∈ l, ∃ b ∈ c, x = a ^^^ b
  | [], ks => by
    show x ∈ ks ↔ _
    constructor
    · exact .inl
    · rintro (h | h | ⟨_, h, _⟩)
      · exact h
      · cases h
      · cases h
  | o :: l, ks => by
    show x ∈ outer c (inner o (insK ks o) c) l ↔ _
    rw [outer_mem, inner_mem, insK_mem]
    constructor
    · rintro (((h | h) | ⟨p, hp, h⟩) | h | ⟨a, ha, b, hb, h⟩)
      · exact .inl h
      · exact .inr (.inl (h ▸ List.mem_cons_self ..))
      · exact .inr (.inr ⟨o, List.mem_cons_self .., p, hp, h⟩)
      · exact .inr (.inl (List.mem_cons_of_mem _ h))
      · exact .inr (.inr ⟨a, List.mem_cons_of_mem _ ha, b, hb, h⟩)
    · rintro (h | h | ⟨a, ha, b, hb, h⟩)
      · exact .inl (.inl (.inl h))
      · rcases List.mem_cons.mp h with e | e
        · exact .inl (.inl (.inr e))
        · exact .inr (.inl e)
      · rcases List.mem_cons.mp ha with e | e
        · exact .inl (.inr ⟨b, hb, e ▸ h⟩)
        · exact .inr (.inr ⟨a, e, b, hb, h⟩)
theorem outer_nd {c : List Nat} : ∀ {l ks : List Nat}, ks.Nodup → (outer c ks l).Nodup
  | [], _, h => h
  | o :: l, ks, h => by
    show (outer c (inner o (insK ks o) c) l).Nodup
    exact outer_nd (inner_nd (insK_nd h))
theorem take_more {l : List Nat} {i x : Nat} (h : l[i]? = some x) : l.take (i + 1) = l.take i ++ [x] := by
  rw [List.take_add_one, h]
  rfl
theorem inner_more {one i x : Nat} {ks l : List Nat} (h : l[i]? = some x) : inner one ks (l.take (i + 1)) = insK (inner one ks (l.take i)) (one ^^^ x) := by
  unfold inner
  rw [take_more h, List.foldl_append]
  rfl
theorem outer_more {i x : Nat} {c ks l : List Nat} (h : l[i]? = some x) : outer c ks (l.take (i + 1)) = inner x (insK (outer c ks (l.take i)) x) c := by
  unfold outer
  rw [take_more h, List.foldl_append]
  rfl
theorem outer_pairs {n : Nat} {c : List Nat} (hn : n ≤ 6) (h : Canon n c) : Good n (outer c [] c) ∧ Kh407.sorted n (outer c [] c) = pairs n c := by
  have m : ∀ x, x ∈ outer c [] c ↔ x ∈ pairs n c := fun x => by
    rw [outer_mem, pairs_mem hn h.lt]
    constructor
    · rintro (q | q | q)
      · cases q
      · exact .inl q
      · exact .inr q
    · exact .inr
  refine ⟨⟨fun x hx => (pairs_canon n c).lt x ((m x).mp hx), outer_nd List.nodup_nil⟩, ?_⟩
  refine up_ext (sorted_canon _ _).up (pairs_canon n c).up fun x => ?_
  rw [sorted_mem, m]
  exact ⟨fun q => q.2, fun q => ⟨(pairs_canon n c).lt x q, q⟩⟩
/-- all words in such dicts are below 64, so there are at most 64 -/
theorem nd64 {ks : List Nat} (nd : ks.Nodup) (h : ∀ x ∈ ks, x < 64) : ks.length ≤ 64 := nodup_len nd h
theorem inner_lt {one : Nat} {ks l : List Nat} (h1 : one < 64) (h2 : ∀ x ∈ ks, x < 64) (h3 : ∀ x ∈ l, x < 64) : ∀ x ∈ inner one ks l, x < 64 := fun x hx => by
  rcases inner_mem.mp hx with q | ⟨o, ho, rfl⟩
  · exact h2 x q
  · exact xor_lt (n := 6) h1 (h3 o ho)
theorem outer_lt {c ks l : List Nat} (h1 : ∀ x ∈ c, x < 64) (h2 : ∀ x ∈ ks, x < 64) (h3 : ∀ x ∈ l, x < 64) : ∀ x ∈ outer c ks l, x < 64 := fun x hx => by
  rcases outer_mem.mp hx with q | q | ⟨a, ha, b, hb, rfl⟩
  · exact h2 x q
  · exact h3 x q
  · exact xor_lt (n := 6) (h3 a ha) (h1 b hb)
theorem insK_lt {ks : List Nat} {k : Nat} (h : ∀ x ∈ ks, x < 64) (hk : k < 64) : ∀ x ∈ insK ks k, x < 64 := fun x hx => by
  rcases insK_mem.mp hx with q | q
  · exact h x q
  · rw [q]; exact hk
section
variable {P : Program} {w : World} {K : PySem.W.Frag} {mg : Str → Option Value} {base : Heap}
theorem ws_of {H : Hp} {a : Addr} {n : Nat} {c : List Nat} (h : SqL K H a (vl c)) (hn : n ≤ 6) (g : Good n c) : Ws K H a c :=
  ⟨h, fun x hx => Nat.lt_of_lt_of_le (g.lt x hx) (pow_le hn), Nat.le_trans g.len (pow_le hn)⟩
/-- sorted of a new list of words -/
theorem el_sorted {ta : TE} {σ : L2.St} {H : Hp} {n : Nat} {c : List Nat} (ha : EvL ta σ H (vl c)) (g : Good n c) : EvL (tCB (rSortedI K) (tCons ta tNil)) σ H (vl (Kh407.sorted n c)) := fun H1 e Q q =>
  ha H1 e _ fun p H2 hp e2 h2 => ⟨p, zs c, rfl, sq_of h2, fun ns' p2 pm sr hp2 => by
    rw [ints_sorted g pm sr]
    exact q p2 _ (fresh_back e2 hp2) (e2.trans (Ex.new hp2)) upd_same⟩
/-! ### with_pairs -/
def spWp (K : PySem.W.Frag) : Sp := fun vs H Q _ => ∃ (a : Addr) (n : Nat) (c : List Nat), vs = [.ref a] ∧ SqL K H a (vl c) ∧ n ≤ 6 ∧ Canon n c ∧ RetL (vl (pairs n c)) H Q
theorem scWp : FnScope ["there", "found", "one", "other"] ["there"] (defScope sWp) := ⟨rfl, rfl, rfl, by decide +kernel, rfl, by decide +kernel, by decide +kernel⟩
theorem okWp {f : Addr} {fd : FuncData} (F : Fun K "with_pairs" "with_pairs" sWp f fd) (B : Bt mg) : FnOk P w K mg base CX0 1 f fd ["there"] (spWp K) := by
  refine F.ok scWp (fun vs H Q E h => ?_) (fun cdv A outer_ s H vs Q E hr h => ?_)
  · obtain ⟨a, n, c, rfl, _⟩ := h
    rfl
  · obtain ⟨a, n, c, rfl, hS, hn, hc, q⟩ := h
    have hu := hu_of hr
    refine ⟨_, pss_cons (ps_set (i := 1) scWp.nd rfl (Or.inl rfl) pe_dnewK)
      (pss_cons (ps_for PassesOwn.never rfl (pi_list (pv 0)) (pg_name (i := 2) scWp.nd rfl (Or.inl rfl))
        (pss_cons (ps_dput hu (pv 1) (pv 2) pe_bl rfl)
          (pss_one (ps_for PassesOwn.never rfl (pi_list (pv 0)) (pg_name (i := 3) scWp.nd rfl (Or.inl rfl)) (pss_one (ps_dput hu (pv 1) (pe_op op_xor (pv 2) (pv 3)) pe_bl rfl))))))
      (pss_one (ps_ret (pe_callB cr_sortedI (by rfl) B.sorted (by decide +kernel) (pa_cons (pe_callTy (call_list_dK rfl) (by rfl) B.list (by decide +kernel) (pa_cons (pv 1) pa_nil)) pa_nil))))), ?_⟩
    have W := ws_of hS hn hc.good
    intro p np
    refine q_forLn (xs := vl c) (ev_var rfl) (ex_l (Ex.new np) hS) (fun i σ' H' => ∃ v2 v3 : Option V, σ' = [some (.ref a), some (.ref p), v2, v3] ∧ Ex H H' ∧ H' p = some (.dK (dk (outer c [] (c.take i)))))
      (fun H1 e => ⟨none, none, rfl, (Ex.new np).trans e, e p _ upd_same⟩) (fun i σ' H' _ h => by
        obtain ⟨_, _, _, e, _⟩ := h
        exact ex_l e hS) ?_ ?_
    · rintro i v σ' H' hi ⟨v2, v3, rfl, e, hp⟩
      obtain ⟨x, hx, rfl⟩ := vl_get hi
      have hx64 := W.lt x (mem_of hx)
      have lt1 : ∀ y ∈ outer c [] (c.take i), y < 64 := outer_lt W.lt (fun _ h => by cases h) fun y hy => W.lt y (List.mem_of_mem_take hy)
      have nd1 : (outer c [] (c.take i)).Nodup := outer_nd List.nodup_nil
      have l1 := nd64 nd1 lt1
      refine ⟨_, rfl, _, rfl, p, _, rfl, DPut.k (k := Sum.inl (x : Int)) hp (by rw [dk_len]; exact sz_lt (by omega)), ?_⟩
      rw [dk_put]
      refine s_forLn (xs := vl c) (ev_var rfl) (ex_l (Ex.mut e np) hS) (fun j σ2 H2 => ∃ v3 : Option V, σ2 = [some (.ref a), some (.ref p), some (.int (x : Int)), v3] ∧ Ex H H2 ∧ H2 p = some (.dK (dk (inner x (insK (outer c [] (c.take i)) x) (c.take j)))))
        (fun H1 e1 => ⟨v3, rfl, (Ex.mut e np).trans e1, e1 p _ upd_same⟩) (fun j σ2 H2 _ h => by
          obtain ⟨_, _, e2, _⟩ := h
          exact ex_l e2 hS) ?_ ?_
      · rintro j v σ2 H2 hj ⟨w3, rfl, e2, hp2⟩
        obtain ⟨y, hy, rfl⟩ := vl_get hj
        have hy64 := W.lt y (mem_of hy)
        have l2 := nd64 (inner_nd (one := x) (l := c.take j) (insK_nd (k := x) nd1)) (inner_lt hx64 (insK_lt lt1 hx64) fun y hy => W.lt y (List.mem_of_mem_take hy))
        refine ⟨_, rfl, _, rfl, _, rfl, _, _, rfl, rfl, p, upd H2 p (.dK (putK (dk (inner x (insK (outer c [] (c.take i)) x) (c.take j))) (Sum.inl ((x ^^^ y : Nat) : Int)) (.bl true))), rfl, ?_, ?_⟩
        · have k := DPut.k (k := Sum.inl ((x ^^^ y : Nat) : Int)) (v := .bl true) hp2 (by rw [dk_len]; exact sz_lt (by omega))
          show DPut H2 p (.int (Builtin.bitXor (x : Int) (y : Int))) (.bl true) _
          rw [xor_nat]
          exact k
        · rw [dk_put, ← inner_more hy]
          exact ⟨_, rfl, Ex.mut e2 np, upd_same⟩
      · rintro σ2 H2 ⟨w3, rfl, e2, hp2⟩
        rw [vl_len, List.take_length, ← outer_more hx] at hp2
        exact ⟨_, _, rfl, e2, hp2⟩
    · rintro σ' H' ⟨v2, v3, rfl, e, hp⟩
      rw [vl_len, List.take_length] at hp
      obtain ⟨g, e2⟩ := outer_pairs hn hc
      refine s_retL (el_is (el_sorted (c := outer c [] c) ?_ g) (by rw [e2])) fun p2 H2 hp2 e2 h2 => q.go e hp2 e2 h2
      intro H1 e1 Q1 q1
      refine ⟨_, rfl, p, _, rfl, e1 p _ hp, fun l hl => ?_⟩
      rw [dk_keys]
      exact q1 l _ hl (Ex.new hl) upd_same
theorem wpV {H : Hp} {a : Addr} {n : Nat} {c : List Nat} (h : SqL K H a (vl c)) (hn : n ≤ 6) (hc : Canon n c) : SpL (spWp K) [.ref a] H (vl (pairs n c)) := fun _ e _ q _ => ⟨a, n, c, rfl, ex_l e h, hn, hc, q⟩
/-! ### closed -/
theorem dp_all {H : Hp} : ∀ ns : List Int, DpAll K H (ns.map V.int) (ns.map PyData.int)
  | [] => .nil
  | n :: r => .cons (.int n) (dp_all r)
theorem eqv_zs : ∀ a b : List Nat, PyData.eqvAll ((zs a).map PyData.int) ((zs b).map PyData.int) = decide (a = b)
  | [], [] => rfl
  | [], _ :: _ => rfl
  | _ :: _, [] => rfl
  | x :: a, y :: b => by
    show (PyData.eqv (.int (x : Int)) (.int (y : Int)) && PyData.eqvAll ((zs a).map PyData.int) ((zs b).map PyData.int)) = _
    rw [eqv_zs a b]
    show (((x : Int) == (y : Int)) && decide (a = b)) = _
    by_cases h : x = y
    · subst h
      by_cases h2 : a = b
      · subst h2
        simp
      · simp [h2]
    · have : ¬ (x : Int) = (y : Int) := by omega
      simp [h, this]
theorem ev_ne {ta tb : TE} {σ : L2.St} {H : Hp} {p q : Addr} {a b : List Nat} (ha : Ev ta σ H (.ref p)) (hb : Ev tb σ H (.ref q)) (h1 : SqL K H p (vl a)) (h2 : SqL K H q (vl b)) : Ev (tOp (rNeD K) ta tb) σ H (.bl (!decide (a = b))) := fun H1 e Q k =>
  ha H1 e _ fun H2 e2 => hb H2 (e.trans e2) _ fun H3 e3 => by
    refine ⟨_, _, .lst (ex_l ((e.trans e2).trans e3) h1) (dp_all _), .lst (ex_l ((e.trans e2).trans e3) h2) (dp_all _), PySem.W.shaped_ints _, PySem.W.shaped_ints _, ?_⟩
    show Q (.bl (!PyData.eqvAll _ _)) H3
    rw [eqv_zs]
    exact k H3 (e2.trans e3)
def spCd (K : PySem.W.Frag) : Sp := fun vs H Q _ => ∃ (a : Addr) (n : Nat) (c : List Nat), vs = [.ref a] ∧ SqL K H a (vl c) ∧ n ≤ 6 ∧ Canon n c ∧ RetL (vl (reps n (n + 1) c)) H Q
theorem scCd : FnScope ["there", "before", "grown"] ["there"] (defScope sCd) := ⟨rfl, rfl, rfl, by decide +kernel, rfl, by decide +kernel, by decide +kernel⟩
theorem okCd {f : Addr} {fd : FuncData} (F : Fun K "closed" "closed" sCd f fd) (B : Bt mg) (cP : Cl P w K mg base 1 "with_pairs" (spWp K)) : FnOk P w K mg base CX0 2 f fd ["there"] (spCd K) := by
  refine F.ok scCd (fun vs H Q E h => ?_) (fun cdv A outer_ s H vs Q E hr h => ?_)
  · obtain ⟨a, n, c, rfl, _⟩ := h
    rfl
  · obtain ⟨a, n, c, rfl, hS, hn, hc, q⟩ := h
    refine ⟨_, pss_cons (ps_set (i := 1) scCd.nd rfl (Or.inl rfl) (pe_lst pa_nil))
      (pss_cons (ps_set (i := 2) scCd.nd rfl (Or.inl rfl) (pe_callTy call_list_of (by rfl) B.list (by decide +kernel) (pa_cons (pv 0) pa_nil)))
      (pss_cons (ps_while PassesOwn.never (pt_cmpR (op_neD hr.units) (pv 2) (pv 1) (nomark _))
        (pss_cons (ps_set (i := 1) scCd.nd rfl (Or.inl rfl) (pv 2)) (pss_one (ps_set (i := 2) scCd.nd rfl (Or.inl rfl) (pe_k cP hr (by decide) rfl (pa_cons (pv 1) pa_nil))))))
      (pss_one (ps_ret (pv 2))))), ?_⟩
    refine q_asgL (el_lst ea_nil (Nat.zero_le _)) fun pb H1 _ e1 h1 => ?_
    refine q_asgL (el_list (ev_var rfl) (ex_l e1 hS)) fun pg H2 n2 e2 h2 => ?_
    have e12 := e1.trans e2
    refine q_while (fun m σ' H' => ∃ (b g : Addr) (cb : List Nat) (k : Nat), σ' = [some (.ref a), some (.ref b), some (.ref g)] ∧ Ex H H' ∧ H' b = some (.lst (vl cb)) ∧ H' g = some (.lst (vl (reps n k c))) ∧ H g = none ∧ m = n + 3 - k ∧ k ≤ n + 2 ∧ ((k = 0 ∧ cb = []) ∨ ∃ j, k = j + 1 ∧ cb = reps n j c))
      (n + 3) ⟨pb, pg, [], 0, rfl, e12, e2 _ _ h1, h2, fresh_back e1 n2, rfl, by omega, .inl ⟨rfl, rfl⟩⟩ ?_
    rintro m σ' H' ⟨b, g, cb, k, rfl, e, hb, hg, ng, rfl, hk, hcb⟩
    refine ⟨_, et_test (ev_ne (ev_var rfl) (ev_var rfl) (sq_of hg) (sq_of hb)), fun hne H3 e3 => ?_, fun heq H3 e3 => ?_⟩
    · have hne : reps n k c ≠ cb := fun z => by simp [z] at hne
      have hk1 : k ≤ n + 1 := by
        rcases hcb with ⟨rfl, _⟩ | ⟨j, rfl, rfl⟩
        · omega
        · rcases Nat.lt_or_ge j (n + 1) with z | z
          · omega
          · exact absurd (reps_late hn hc z) hne
      refine ⟨fun σ2 H2 => ∃ (b g : Addr), σ2 = [some (.ref a), some (.ref b), some (.ref g)] ∧ Ex H H2 ∧ H2 b = some (.lst (vl (reps n k c))) ∧ H2 g = some (.lst (vl (reps n (k + 1) c))) ∧ H g = none, ?_, ?_⟩
      · rintro σ2 H2 ⟨b, g, rfl, x1, x2, x3, x4⟩
        exact ⟨n + 3 - (k + 1), by omega, b, g, _, k + 1, rfl, x1, x2, x3, x4, rfl, by omega, .inr ⟨k, rfl, rfl⟩⟩
      · refine q_asg (ev_var rfl) fun H4 e4 => ?_
        have e5 := (e.trans e3).trans e4
        have hg4 := e4 _ _ (e3 _ _ hg)
        refine s_asgL (el_call (ea_cons (ev_var rfl) ea_nil) (wpV (n := n) (sq_of hg4) hn (reps_canon hc k))) fun p5 H5 n5 x5 h5 => ?_
        refine ⟨g, p5, rfl, e5.trans x5, x5 _ _ hg4, ?_, fresh_back e5 n5⟩
        rw [reps_succ]
        exact h5
    · have heq : reps n k c = cb := by
        by_cases z : reps n k c = cb
        · exact z
        · simp [z] at heq
      have fin : reps n k c = reps n (n + 1) c := by
        rcases hcb with ⟨rfl, rfl⟩ | ⟨j, rfl, rfl⟩
        · have : c = [] := heq
          rw [this, reps_nil, reps_nil]
        · rw [heq]
          exact reps_end hn hc heq
      refine s_ret (ev_var rfl) fun H4 e4 => ?_
      rw [fin] at hg
      exact q g H4 ng ((e.trans e3).trans e4) (e4 _ _ (e3 _ _ hg))
theorem cdV {H : Hp} {a : Addr} {n : Nat} {c : List Nat} (h : SqL K H a (vl c)) (hn : n ≤ 6) (hc : Canon n c) : SpL (spCd K) [.ref a] H (vl (reps n (n + 1) c)) := fun _ e _ q _ => ⟨a, n, c, rfl, ex_l e h, hn, hc, q⟩
/-! ### is_far -/
def frN (x : Nat) (c : List Nat) (b : Nat) : Bool := (c.map fun y => decide (b < wt (x ^^^ y))).all id
def spFr (K : PySem.W.Frag) : Sp := fun vs H Q _ => ∃ (x : Nat) (a : Addr) (c : List Nat) (b : Nat), vs = [.int (x : Int), .ref a, .int (b : Int)] ∧ Ws K H a c ∧ x < 64 ∧ RetV (.bl (frN x c b)) H Q
theorem scFr : FnScope ["x", "there", "bound", "word"] ["x", "there", "bound"] (defScope sFr) := ⟨rfl, rfl, rfl, by decide +kernel, rfl, by decide +kernel, by decide +kernel⟩
/-- all of a new list of truths -/
theorem ev_all {ta : TE} {σ : L2.St} {H : Hp} {bs : List Bool} (ha : EvL ta σ H (bs.map V.bl)) : Ev (tCB (rAll K) (tCons ta tNil)) σ H (.bl (bs.all id)) := fun H1 e _ q =>
  ha H1 e _ fun p H2 _ e2 h2 => ⟨p, bs, rfl, sq_of h2, q H2 e2⟩
theorem okFr {f : Addr} {fd : FuncData} (F : Fun K "is_far" "is_far" sFr f fd) (B : Bt mg) (cD : Cl P w K mg base 2 "distance" spDi) : FnOk P w K mg base CX0 3 f fd ["x", "there", "bound"] (spFr K) := by
  refine F.ok scFr (fun vs H Q E h => ?_) (fun cdv A outer_ s H vs Q E hr h => ?_)
  · obtain ⟨x, a, c, b, rfl, _⟩ := h
    rfl
  · obtain ⟨x, a, c, b, rfl, W, hx, q⟩ := h
    refine ⟨_, pss_one (ps_ret (pe_callB (cr_all rfl) (by rfl) B.all (by decide +kernel) (pa_cons
      (pe_lc (own := [("word", 3)]) (g := gName 3) rfl scFr.nd (pi_list (pv 1))
        (blkOk_by (own := [("word", 3)]) (N := ["x", "there", "bound", "word"]) (sc := defScope sFr) (by decide +kernel)) (fun _ _ _ _ _ => pg_name (i := 3) scFr.nd rfl (Or.inl rfl))
        (fun _ _ _ _ _ => pts_nil) (fun _ _ _ _ _ => pe_cmpR op_gt (pe_k cD hr (by decide) rfl (pa_cons (pv 0) (pa_cons (pv 3) pa_nil))) (pv 2) (nomark _))) pa_nil))), ?_⟩
    have hl := W.len
    refine s_ret (ev_all (bs := c.map fun y => decide (b < wt (x ^^^ y))) (el_is (el_lcL (xs := vl c) (fun _ => true) (fun i => .bl (decide (b < wt (x ^^^ c.getD i 0)))) (ev_var rfl) W.at_ (by rw [vl_len]; omega) (fun x => rfl) (fun i v H1 e hi => et_yes) ?_) ?_)) (fun H1 e => q H1 e)
    · intro i v H1 e hi _
      obtain ⟨y, hy, rfl⟩ := vl_get hi
      rw [getD_of hy]
      exact ev_is (ev_op (ev_call (ea_cons (ev_var rfl) (ea_cons (ev_var rfl) ea_nil)) (diV hx (W.lt y (mem_of hy)))) (ev_var rfl) rv_I0) (congrArg V.bl (nat_lt _ _))
    · rw [vl_len, given_map c (fun y => V.bl (decide (b < wt (x ^^^ y)))), List.map_map]
      rfl
theorem frV {H : Hp} {x : Nat} {a : Addr} {c : List Nat} {b : Nat} (W : Ws K H a c) (hx : x < 64) : SpV (spFr K) [.int (x : Int), .ref a, .int (b : Int)] H (.bl (frN x c b)) := fun _ e _ q _ => ⟨x, a, c, b, rfl, W.ex e, hx, q⟩
/-! ### filled -/
def spFd (K : PySem.W.Frag) : Sp := fun vs H Q _ => ∃ (n : Nat) (a : Addr) (c : List Nat) (r : Nat), vs = [.int (n : Int), .ref a, .int (r : Int)] ∧ SqL K H a (vl c) ∧ n ≤ 6 ∧ r ≤ 6 ∧ Canon n c ∧ RetL (vl (Kh409.filled ⟨n, c⟩ r)) H Q
theorem scFd : FnScope ["bits", "there", "r", "grown", "x"] ["bits", "there", "r"] (defScope sFd) := ⟨rfl, rfl, rfl, by decide +kernel, rfl, by decide +kernel, by decide +kernel⟩
/-- sorted of a list of words that stands there -/
theorem el_sortedAt {ta : TE} {σ : L2.St} {H : Hp} {p : Addr} {n : Nat} {c : List Nat} (ha : Ev ta σ H (.ref p)) (h : SqL K H p (vl c)) (g : Good n c) : EvL (tCB (rSortedI K) (tCons ta tNil)) σ H (vl (Kh407.sorted n c)) := fun H1 e Q q =>
  ha H1 e _ fun H2 e2 => ⟨p, zs c, rfl, ex_l (e.trans e2) h, fun ns' p2 pm sr hp2 => by
    rw [ints_sorted g pm sr]
    exact q p2 _ (fresh_back e2 hp2) (e2.trans (Ex.new hp2)) upd_same⟩
theorem okFd {f : Addr} {fd : FuncData} (F : Fun K "filled" "filled" sFd f fd) (B : Bt mg) (cW : Cl P w K mg base 1 "word_count" spWc) (cR : Cl P w K mg base 3 "is_far" (spFr K)) : FnOk P w K mg base CX0 4 f fd ["bits", "there", "r"] (spFd K) := by
  refine F.ok scFd (fun vs H Q E h => ?_) (fun cdv A outer_ s H vs Q E hr h => ?_)
  · obtain ⟨n, a, c, r, rfl, _⟩ := h
    rfl
  · obtain ⟨n, a, c, r, rfl, hS, hn, hr6, hc, q⟩ := h
    refine ⟨_, pss_cons (ps_set (i := 3) scFd.nd rfl (Or.inl rfl) (pe_callTy call_list_of (by rfl) B.list (by decide +kernel) (pa_cons (pv 1) pa_nil)))
      (pss_cons (ps_for PassesOwn.never rfl (pi_range1 rfl B.range (pa_cons (pe_k cW hr (by decide) rfl (pa_cons (pv 0) pa_nil)) pa_nil)) (pg_name (i := 4) scFd.nd rfl (Or.inl rfl))
        (pss_one (ps_if (pt_val (pe_k cR hr (by decide) rfl (pa_cons (pv 4) (pa_cons (pv 3) (pa_cons (pe_op op_mul pe_int (pv 2)) pa_nil)))))
          (pss_one (ps_expr (pe_bm PySem.F.plainAttrs_list PySem.F.slot_list_append PySem.F.type_list_append mt_append (pv 3) (pa_cons (pv 4) pa_nil)))) pss_nil)))
      (pss_one (ps_ret (pe_callB cr_sortedI (by rfl) B.sorted (by decide +kernel) (pa_cons (pv 3) pa_nil))))), ?_⟩
    have h64 := pow_le hn
    refine q_asgL (el_list (ev_var rfl) hS) fun p H1 np e1 h1 => ?_
    refine q_forR1 (n := ((2 ^ n : Nat) : Int)) (ea_cons (ev_call (ea_cons (ev_var rfl) ea_nil) (wcV hn)) ea_nil) ⟨Int.natCast_nonneg _, by omega⟩
      (fun i σ' H' => ∃ v : Option V, σ' = [some (.int (n : Int)), some (.ref a), some (.int (r : Int)), some (.ref p), v] ∧ Ex H H' ∧ H' p = some (.lst (vl (fillTo n r c i))))
      (fun H2 e2 => ⟨none, rfl, e1.trans e2, e2 _ _ h1⟩) ?_ ?_
    · rintro i σ' H' hi ⟨v, rfl, e, hp⟩
      have hi2 : i < 2 ^ n := by omega
      have g := fillTo_good (r := r) hn hc.good i (by omega)
      have W := ws_of (K := K) (sq_of hp) hn g
      have hl := W.len
      refine s_when (et_B (ev_call (ea_cons (ev_var rfl) (ea_cons (ev_var rfl) (ea_cons (ev_is (ev_op ev_c (ev_var rfl) (rv_I (.inl ⟨by decide, by decide⟩))) (w := .int ((2 * r : Nat) : Int)) (by rfl)) ea_nil))) (frV W (by omega)))) (fun hb H2 e2 => ?_) (fun hb H2 e2 => ?_)
      · refine s_app (xs := vl (fillTo n r c i)) (e2 _ _ hp) (ev_var rfl) (ev_var rfl) (by rw [vl_len]; omega) fun H3 e3 => ?_
        refine ⟨_, rfl, Ex.mut ((e.trans e2).trans e3) np, ?_⟩
        rw [upd_same, fillTo_succ]
        unfold fillStep
        rw [if_pos (by rw [← far_eq hn g.lt hi2]; exact hb), vl_append]
        rfl
      · refine ⟨_, rfl, e.trans e2, ?_⟩
        rw [fillTo_succ]
        unfold fillStep
        rw [if_neg (by rw [← far_eq hn g.lt hi2]; show ¬ frN i _ (2 * r) = true; rw [hb]; decide)]
        exact e2 _ _ hp
    · rintro σ' H' ⟨v, rfl, e, hp⟩
      have hp : H' p = some (.lst (vl (fillTo n r c (2 ^ n)))) := hp
      refine s_retL (el_sortedAt (ev_var rfl) (sq_of hp) (fillTo_good (r := r) hn hc.good (2 ^ n) (Nat.le_refl _))) fun p2 H2 hp2 e2 h2 => q.go e hp2 e2 h2
theorem fdV {H : Hp} {n : Nat} {a : Addr} {c : List Nat} {r : Nat} (h : SqL K H a (vl c)) (hn : n ≤ 6) (hr : r ≤ 6) (hc : Canon n c) : SpL (spFd K) [.int (n : Int), .ref a, .int (r : Int)] H (vl (Kh409.filled ⟨n, c⟩ r)) := fun _ e _ q _ => ⟨n, a, c, r, rfl, ex_l e h, hn, hr, hc, q⟩
end
end BC

namespace BC
open PySem PySem.Spec PyProof.Rows L2 Evl
abbrev sNe : Stmt := top 17
abbrev sBr : Stmt := top 18
abbrev sCo : Stmt := top 19
abbrev sGc : Stmt := top 20
section
variable {P : Program} {w : World} {K : PySem.W.Frag} {mg : Str → Option Value} {base : Heap}
/-! ### nearest_words -/
def neN (c : List Nat) (x d : Nat) : List Nat := c.filter fun y => decide (wt (y ^^^ x) = d)
def spNe (K : PySem.W.Frag) : Sp := fun vs H Q _ => ∃ (a : Addr) (c : List Nat) (x d : Nat), vs = [.ref a, .int (x : Int)] ∧ Ws K H a c ∧ x < 64 ∧ (∃ y ∈ c, wt (y ^^^ x) = d) ∧ (∀ y ∈ c, d ≤ wt (y ^^^ x)) ∧ RetL (vl (neN c x d)) H Q
theorem scNe : FnScope ["there", "x", "least", "word"] ["there", "x"] (defScope sNe) := ⟨rfl, rfl, rfl, by decide +kernel, rfl, by decide +kernel, by decide +kernel⟩
theorem ev_minN {ta : TE} {σ : L2.St} {H : Hp} {ns : List Int} {d : Int} (ha : EvL ta σ H (ns.map V.int)) (h1 : d ∈ ns) (h2 : ∀ y ∈ ns, d ≤ y) : Ev (tCB (rMin K) (tCons ta tNil)) σ H (.int d) := fun H1 e Q q => ha H1 e _ fun p H2 _ e2 h => ⟨p, ns, rfl, sq_of h, List.length_pos_of_mem h1, fun m hm hle => by
  have : m = d := Int.le_antisymm (hle d h1) (h2 m hm)
  rw [this]
  exact q H2 e2⟩
theorem okNe {f : Addr} {fd : FuncData} (F : Fun K "nearest_words" "nearest_words" sNe f fd) (B : Bt mg) (cD : Cl P w K mg base 2 "distance" spDi) : FnOk P w K mg base CX0 3 f fd ["there", "x"] (spNe K) := by
  refine F.ok scNe (fun vs H Q E h => ?_) (fun cdv A outer_ s H vs Q E hr h => ?_)
  · obtain ⟨a, c, x, d, rfl, _⟩ := h
    rfl
  · obtain ⟨a, c, x, d, rfl, W, hx, hd1, hd2, q⟩ := h
    refine ⟨_, pss_cons (ps_set (i := 2) scNe.nd rfl (Or.inr rfl) (pe_callB (cr_min rfl) (by rfl) B.min (by decide +kernel) (pa_cons
      (pe_lc (own := [("word", 3)]) (g := gName 3) rfl scNe.nd (pi_list (pv 0))
        (blkOk_by (own := [("word", 3)]) (N := ["there", "x", "least", "word"]) (sc := defScope sNe) (by decide +kernel)) (fun _ _ _ _ _ => pg_name (i := 3) scNe.nd rfl (Or.inl rfl))
        (fun _ _ _ _ _ => pts_nil) (fun _ _ _ _ _ => pe_k cD hr (by decide) rfl (pa_cons (pv 3) (pa_cons (pv 1) pa_nil)))) pa_nil)))
      (pss_one (ps_ret (pe_lc (own := [("word", 3)]) (g := gName 3) rfl scNe.nd (pi_list (pv 0))
        (blkOk_by (own := [("word", 3)]) (N := ["there", "x", "least", "word"]) (sc := defScope sNe) (by decide +kernel)) (fun _ _ _ _ _ => pg_name (i := 3) scNe.nd rfl (Or.inl rfl))
        (fun _ _ _ _ _ => pts_one (pt_cmpR op_eq (pe_k cD hr (by decide) rfl (pa_cons (pv 3) (pa_cons (pv 1) pa_nil))) (pv 2) (nomark _))) (fun _ _ _ _ _ => pv 3)))), ?_⟩
    have hl := W.len
    refine q_asg (v := .int (d : Int)) (ev_minN (ns := zs (c.map fun y => wt (y ^^^ x))) (el_is (el_lcL (xs := vl c) (fun _ => true) (fun i => .int (wt (c.getD i 0 ^^^ x) : Nat)) (ev_var rfl) W.at_ (by rw [vl_len]; omega) (fun x => rfl) (fun i v H1 e hi => et_yes) ?_) ?_) ?_ ?_) fun H1 e1 => ?_
    · intro i v H1 e hi _
      obtain ⟨y, hy, rfl⟩ := vl_get hi
      rw [getD_of hy]
      exact ev_call (ea_cons (ev_var rfl) (ea_cons (ev_var rfl) ea_nil)) (diV (W.lt y (mem_of hy)) hx)
    · rw [vl_len, given_map c (fun y => V.int (wt (y ^^^ x) : Nat))]
      show _ = vl (c.map fun y => wt (y ^^^ x))
      rw [vl_map, List.map_map]
      rfl
    · obtain ⟨y, hy, e⟩ := hd1
      exact mem_ints.mpr ⟨d, List.mem_map.mpr ⟨y, hy, e⟩, rfl⟩
    · intro z hz
      obtain ⟨k, hk, rfl⟩ := mem_ints.mp hz
      obtain ⟨y, hy, rfl⟩ := List.mem_map.mp hk
      exact Int.ofNat_le.mpr (hd2 y hy)
    · refine s_retL (el_is (el_lcL (xs := vl c) (fun i => decide (wt (c.getD i 0 ^^^ x) = d)) (fun i => .int (c.getD i 0 : Nat)) (ev_var rfl) (W.ex e1).at_ (by rw [vl_len]; omega) (fun x => rfl) ?_ ?_) ?_) fun p2 H2 hp2 e2 h2 => q.go e1 hp2 e2 h2
      · intro i v H2 e2 hi
        obtain ⟨y, hy, rfl⟩ := vl_get hi
        rw [getD_of hy]
        exact et_is (et_test (ev_op (ev_call (ea_cons (ev_var rfl) (ea_cons (ev_var rfl) ea_nil)) (diV (W.lt y (mem_of hy)) hx)) (ev_var rfl) (rv_eq rfl))) (dec_nat _ _)
      · intro i v H2 e2 hi _
        obtain ⟨y, hy, rfl⟩ := vl_get hi
        rw [getD_of hy]
        exact ev_var rfl
      · rw [vl_len, given_list c (fun y => decide (wt (y ^^^ x) = d)) (fun y => .int (y : Nat)), vl_map]
        rfl
theorem neV {H : Hp} {a : Addr} {c : List Nat} {x d : Nat} (W : Ws K H a c) (hx : x < 64) (h1 : ∃ y ∈ c, wt (y ^^^ x) = d) (h2 : ∀ y ∈ c, d ≤ wt (y ^^^ x)) : SpL (spNe K) [.ref a, .int (x : Int)] H (vl (neN c x d)) := fun _ e _ q _ => ⟨a, c, x, d, rfl, W.ex e, hx, h1, h2, q⟩
/-! ### ball_round -/
def spBr : Sp := fun vs H Q _ => ∃ n y r : Nat, vs = [.int (n : Int), .int (y : Int), .int (r : Int)] ∧ n ≤ 6 ∧ y < 64 ∧ RetL (vl (brN n y r)) H Q
theorem scBr : FnScope ["bits", "word", "r", "x"] ["bits", "word", "r"] (defScope sBr) := ⟨rfl, rfl, rfl, by decide +kernel, rfl, by decide +kernel, by decide +kernel⟩
theorem okBr {f : Addr} {fd : FuncData} (F : Fun K "ball_round" "ball_round" sBr f fd) (B : Bt mg) (cW : Cl P w K mg base 1 "word_count" spWc) (cD : Cl P w K mg base 2 "distance" spDi) : FnOk P w K mg base CX0 3 f fd ["bits", "word", "r"] spBr := by
  refine F.ok scBr (fun vs H Q E h => ?_) (fun cdv A outer_ s H vs Q E hr h => ?_)
  · obtain ⟨n, y, r, rfl, _⟩ := h
    rfl
  · obtain ⟨n, y, r, rfl, hn, hy, q⟩ := h
    refine ⟨_, pss_one (ps_ret (pe_lc (own := [("x", 3)]) (g := gName 3) rfl scBr.nd (pi_range1 rfl B.range (pa_cons (pe_k cW hr (by decide) rfl (pa_cons (pv 0) pa_nil)) pa_nil))
        (blkOk_by (own := [("x", 3)]) (N := ["bits", "word", "r", "x"]) (sc := defScope sBr) (by decide +kernel)) (fun _ _ _ _ _ => pg_name (i := 3) scBr.nd rfl (Or.inl rfl))
        (fun _ _ _ _ _ => pts_one (pt_cmpR op_le (pe_k cD hr (by decide) rfl (pa_cons (pv 1) (pa_cons (pv 3) pa_nil))) (pv 2) (nomark _))) (fun _ _ _ _ _ => pv 3))), ?_⟩
    have h64 := pow_le hn
    refine s_retL (el_is (el_lcR1 (n := ((2 ^ n : Nat) : Int)) (fun i => decide (wt (y ^^^ i) ≤ r)) (fun i => .int (i : Int)) (ea_cons (ev_call (ea_cons (ev_var rfl) ea_nil) (wcV hn)) ea_nil) ⟨Int.natCast_nonneg _, by omega⟩ (fun x => rfl) ?_ ?_) ?_) fun p H1 hp e h1 => q p H1 hp e h1
    · intro i H1 e hi
      exact et_is (et_test (ev_op (ev_call (ea_cons (ev_var rfl) (ea_cons (ev_var rfl) ea_nil)) (diV hy (by omega))) (ev_var rfl) rv_I0)) (nat_le _ _)
    · intro i H1 e hi _
      exact ev_var rfl
    · rw [vl_map]
      rfl
theorem brV {H : Hp} {n y r : Nat} (hn : n ≤ 6) (hy : y < 64) : SpL spBr [.int (n : Int), .int (y : Int), .int (r : Int)] H (vl (brN n y r)) := fun _ _ _ q _ => ⟨n, y, r, rfl, hn, hy, q⟩
/-! ### count_open -/
theorem dk_val (ks : List Nat) (x : Nat) : (valV (dk ks) (Sum.inl (x : Int))).isSome = decide (x ∈ ks) := by
  rw [← dk_any ks x, valV_any]
theorem ev_dni {ta tb : TE} {σ : L2.St} {H : Hp} {d : Addr} {ks : List Nat} {x : Nat} (ha : Ev ta σ H (.int (x : Int))) (hb : Ev tb σ H (.ref d)) (h : H d = some (.dK (dk ks))) : Ev (tDNotIn ta tb) σ H (.bl (decide (x ∉ ks))) := fun H1 e Q q =>
  ha H1 e _ fun H2 e2 => hb H2 (e.trans e2) _ fun H3 e3 => ⟨d, _, rfl, DGet.k (k := Sum.inl (x : Int)) (((e.trans e2).trans e3) _ _ h), by
    rw [dk_val, ← decide_not]
    exact q H3 (e2.trans e3)⟩
def spCo (K : PySem.W.Frag) : Sp := fun vs H Q _ => ∃ (b d : Addr) (l ks : List Nat), vs = [.ref b, .ref d] ∧ SqL K H b (vl l) ∧ l.length ≤ 64 ∧ H d = some (.dK (dk ks)) ∧ RetV (.int (coN l ks : Nat)) H Q
theorem scCo : FnScope ["ball", "covered", "x"] ["ball", "covered"] (defScope sCo) := ⟨rfl, rfl, rfl, by decide +kernel, rfl, by decide +kernel, by decide +kernel⟩
theorem okCo {f : Addr} {fd : FuncData} (F : Fun K "count_open" "count_open" sCo f fd) (B : Bt mg) : FnOk P w K mg base CX0 1 f fd ["ball", "covered"] (spCo K) := by
  refine F.ok scCo (fun vs H Q E h => ?_) (fun cdv A outer_ s H vs Q E hr h => ?_)
  · obtain ⟨b, d, l, ks, rfl, _⟩ := h
    rfl
  · obtain ⟨b, d, l, ks, rfl, hb, hl, hd, q⟩ := h
    have hu := hu_of hr
    refine ⟨_, pss_one (ps_ret (pe_callB call_len_seq (by rfl) B.len PySem.boot_len (pa_cons
      (pe_lc (own := [("x", 2)]) (g := gName 2) rfl scCo.nd (pi_list (pv 0))
        (blkOk_by (own := [("x", 2)]) (N := ["ball", "covered", "x"]) (sc := defScope sCo) (by decide +kernel)) (fun _ _ _ _ _ => pg_name (i := 2) scCo.nd rfl (Or.inl rfl))
        (fun _ _ _ _ _ => pts_one (pt_cmp (pc_dnotin hu (pv 2) (pv 1)))) (fun _ _ _ _ _ => pv 2)) pa_nil))), ?_⟩
    refine s_ret (ev_is (ev_lenN (el_lcL (xs := vl l) (fun i => decide (l.getD i 0 ∉ ks)) (fun i => .int (l.getD i 0 : Nat)) (ev_var rfl) hb (by rw [vl_len]; omega) (fun x => rfl) ?_ ?_)) ?_) (fun H1 e => q H1 e)
    · intro i v H1 e hi
      obtain ⟨y, hy, rfl⟩ := vl_get hi
      rw [getD_of hy]
      exact et_B (ev_dni (ev_var rfl) (ev_var rfl) (e _ _ hd))
    · intro i v H1 e hi _
      obtain ⟨y, hy, rfl⟩ := vl_get hi
      rw [getD_of hy]
      exact ev_var rfl
    · rw [vl_len, given_list l (fun y => decide (y ∉ ks)) (fun y => .int (y : Nat)), List.length_map]
      rfl
theorem coV {H : Hp} {b d : Addr} {l ks : List Nat} (hb : SqL K H b (vl l)) (hl : l.length ≤ 64) (hd : H d = some (.dK (dk ks))) : SpV (spCo K) [.ref b, .ref d] H (.int (coN l ks : Nat)) := fun _ e _ q _ => ⟨b, d, l, ks, rfl, ex_l e hb, hl, e _ _ hd, q⟩
/-! ### a comprehension over range whose items are new lists -/
theorem q_lists {σ : L2.St} {H : Hp} {te : TE} {ta : TA} {i0 j : Nat} {vs : List Nat} {N : Nat} {D : Ends} {tz : TS} (L : Nat → List V) (h : EvA ta σ H [.int ((N : Nat) : Int)]) (hN : N ≤ 40000) (hw : ∀ x, wipe ((wipe σ vs).set j (some x)) vs = wipe σ vs)
    (he : ∀ (i : Nat) H1, Ex H H1 → i < N → EvL te ((wipe σ vs).set j (some (.int (i : Int)))) H1 (L i))
    (k : ∀ p H2 (bs : List Addr), H p = none → Ex H H2 → H2 p = some (.lst (bs.map V.ref)) → bs.length = N → (∀ i b, bs[i]? = some b → H2 b = some (.lst (L i))) → tz D (σ.set i0 (some (.ref p))) H2) :
    tSeq (tAsg (tLc (iRng1 ta) (gName j) tYes te vs) (gName i0)) tz D σ H := by
  refine h H (Ex.refl H) _ fun H1 e1 => ⟨(N : Int), rfl, by omega, by omega, fun Dl hD => ?_⟩
  refine lc_range (lo := 0) (n := ((N : Nat) : Int).toNat) (fun i H' => H1 Dl = none ∧ Ex H1 H' ∧ ∃ bs : List Addr, H' Dl = some (.lst (bs.map V.ref)) ∧ bs.length = i ∧ ∀ k b, bs[k]? = some b → b ≠ Dl ∧ H' b = some (.lst (L k)))
    ⟨hD, Ex.new hD, [], upd_same, rfl, fun k b z => by cases z⟩ (fun i H' hi p => ?_) (fun H' p => ?_)
  · obtain ⟨p1, p2, bs, p3, p4, p5⟩ := p
    have hi : i < N := by omega
    have e0 : (0 : Int) + (i : Int) = (i : Int) := Int.zero_add _
    refine ⟨hw _, ?_⟩
    show te ((wipe σ vs).set j (some (.int ((0 : Int) + (i : Int))))) H' _
    rw [e0]
    refine he i H1 e1 hi H' p2 _ fun b H4 nb e4 h4 => ⟨bs.map V.ref, e4 _ _ p3, sz_lt (by rw [List.length_map]; omega), p1, Ex.mut (p2.trans e4) p1, bs ++ [b], ?_, by rw [List.length_append]; show bs.length + 1 = i + 1; omega, fun k b' hk => ?_⟩
    · rw [upd_same, List.map_append]
      rfl
    · have neD : b ≠ Dl := fun z => by
        rw [z, p3] at nb
        cases nb
      by_cases lt : k < bs.length
      · rw [List.getElem?_append_left lt] at hk
        obtain ⟨q1, q2⟩ := p5 k b' hk
        exact ⟨q1, by rw [upd_ne q1]; exact e4 _ _ q2⟩
      · have hk2 : k < (bs ++ [b]).length := (List.getElem?_eq_some_iff.mp hk).1
        rw [List.length_append] at hk2
        have : k = bs.length := by
          have : k < bs.length + 1 := hk2
          omega
        subst this
        rw [List.getElem?_append_right (Nat.le_refl _), Nat.sub_self] at hk
        have : b = b' := Option.some.inj hk
        subst this
        exact ⟨neD, by rw [upd_ne neD, h4, p4]⟩
  · obtain ⟨p1, p2, bs, p3, p4, p5⟩ := p
    exact k Dl H' bs (fresh_back e1 p1) (e1.trans p2) p3 (by omega) fun i b hb => (p5 i b hb).2
end
end BC

namespace BC
open PySem PySem.Spec PyProof.Rows L2 Evl
/-! ### what a ball puts in -/
def covK (ks l : List Nat) : List Nat := l.foldl insK ks
theorem covK_mem {x : Nat} : ∀ {l ks : List Nat}, x ∈ covK ks l ↔ x ∈ ks ∨ x ∈ l
  | [], ks => ⟨.inl, fun q => q.elim id fun h => by cases h⟩
  | y :: l, ks => by
    show x ∈ covK (insK ks y) l ↔ _
    rw [covK_mem, insK_mem, List.mem_cons, or_assoc]
theorem covK_nd : ∀ {l ks : List Nat}, ks.Nodup → (covK ks l).Nodup
  | [], _, h => h
  | y :: l, ks, h => by
    show (covK (insK ks y) l).Nodup
    exact covK_nd (insK_nd h)
theorem covK_more {ks l : List Nat} {i x : Nat} (h : l[i]? = some x) : covK ks (l.take (i + 1)) = insK (covK ks (l.take i)) x := by
  unfold covK
  rw [take_more h, List.foldl_append]
  rfl
section
variable {P : Program} {w : World} {K : PySem.W.Frag} {mg : Str → Option Value} {base : Heap}
theorem flat_zs (c : List Nat) : (vl c).all flatV = true := by
  rw [vl_map, List.all_map, List.all_eq_true]
  exact fun _ _ => rfl
theorem vl_at {c : List Nat} {i x : Nat} (h : c[i]? = some x) : (vl c)[i]? = some (.int (x : Int)) := by
  rw [vl_map, List.getElem?_map, h]
  rfl
theorem ev_idxmax {σ : L2.St} {H : Hp} {p : Addr} {gs : List Nat} {i b gb : Nat} (hi : σ[i]? = some (some (.ref p))) (h : SqL K H p (vl gs)) (hb : gs[b]? = some gb) (h1 : ∀ k ∈ gs, k ≤ gb) (h2 : ∀ m z, m < b → gs[m]? = some z → z < gb) :
    Ev (tBM K "list" (rIndex K) (tVar i) (tCons (tCB (rMax K) (tCons (tVar i) tNil)) tNil)) σ H (.int (b : Int)) := fun H1 e Q q => by
  have hm := List.mem_of_getElem? hb
  refine ⟨_, hi, .inl ⟨rfl, _, ex_l e h⟩, _, hi, p, zs gs, rfl, ex_l e h, by rw [ints_len]; exact List.length_pos_of_mem hm, fun m hmz hle => ?_⟩
  obtain ⟨k, hk, rfl⟩ := mem_ints.mp hmz
  have k1 := h1 k hk
  have k2 := hle gb (mem_ints.mpr ⟨gb, hm, rfl⟩)
  have ek : k = gb := by omega
  subst ek
  refine ⟨p, vl gs, .int (k : Int), b, .int (k : Int), rfl, rfl, ex_l e h, rfl, flat_zs gs, vl_at hb, beq_self_eq_true (k : Int), fun m' z' hm' hz' => ?_, q H1 (Ex.refl H1)⟩
  obtain ⟨x, hx, rfl⟩ := vl_get hz'
  have := h2 m' x hm' hx
  show ((x : Int) == (k : Int)) = false
  rw [beq_eq_false_iff_ne]
  omega
theorem ev_lenD {ta : TE} {σ : L2.St} {H : Hp} {d : Addr} {ks : List Nat} (ha : Ev ta σ H (.ref d)) (h : H d = some (.dK (dk ks))) : Ev (tCB (fun xs H Q => ∃ a kvs, xs = [V.ref a] ∧ H a = some (.dK kvs) ∧ Q (.int kvs.length) H) (tCons ta tNil)) σ H (.int (ks.length : Nat)) := fun H1 e Q q =>
  ha H1 e _ fun H2 e2 => ⟨d, dk ks, rfl, (e.trans e2) _ _ h, by
    rw [dk_len]
    exact q H2 e2⟩
/-! ### greedy_cover -/
def spGc : Sp := fun vs H Q _ => ∃ n r : Nat, vs = [.int (n : Int), .int (r : Int)] ∧ n ≤ 6 ∧ RetL (vl (Kh409.cover (2 ^ n) n r (Kh407.words n))) H Q
theorem scGc : FnScope ["bits", "r", "balls", "covered", "taken", "gains", "best", "x", "word", "ball"] ["bits", "r"] (defScope sGc) := ⟨rfl, rfl, rfl, by decide +kernel, rfl, by decide +kernel, by decide +kernel⟩
theorem okGc {f : Addr} {fd : FuncData} (F : Fun K "greedy_cover" "greedy_cover" sGc f fd) (B : Bt mg) (cW : Cl P w K mg base 1 "word_count" spWc) (cB : Cl P w K mg base 3 "ball_round" spBr) (cC : Cl P w K mg base 1 "count_open" (spCo K)) : FnOk P w K mg base CX0 4 f fd ["bits", "r"] spGc := by
  refine F.ok scGc (fun vs H Q E h => ?_) (fun cdv A outer_ s H vs Q E hr h => ?_)
  · obtain ⟨n, r, rfl, _⟩ := h
    rfl
  · obtain ⟨n, r, rfl, hn, q⟩ := h
    have hu := hu_of hr
    refine ⟨_, pss_cons (ps_setLc (i := 2) (own := [("word", 8)]) (g := gName 8) (by rfl) scGc.nd rfl rfl (sw_true rfl rfl rfl (by decide +kernel)) (pi_range1 rfl B.range (pa_cons (pe_k cW hr (by decide) rfl (pa_cons (pv 0) pa_nil)) pa_nil))
        (blkOk_by (own := [("word", 8)]) (N := ["bits", "r", "balls", "covered", "taken", "gains", "best", "x", "word", "ball"]) (sc := defScope sGc) (by decide +kernel)) (fun _ _ _ _ _ => pg_name (i := 8) scGc.nd rfl (Or.inl rfl))
        (fun _ _ _ _ _ => pts_nil) (fun _ _ _ _ _ => pe_k cB hr (by decide) rfl (pa_cons (pv 0) (pa_cons (pv 8) (pa_cons (pv 1) pa_nil)))))
      (pss_cons (ps_set (i := 3) scGc.nd rfl (Or.inr rfl) pe_dnewK)
      (pss_cons (ps_set (i := 4) scGc.nd rfl (Or.inl rfl) (pe_lst pa_nil))
      (pss_cons (ps_while PassesOwn.never (pt_cmpR op_lt (pe_callB call_lenD (by rfl) B.len PySem.boot_len (pa_cons (pv 3) pa_nil)) (pe_k cW hr (by decide) rfl (pa_cons (pv 0) pa_nil)) (nomark _))
        (pss_cons (ps_setLc (i := 5) (own := [("ball", 9)]) (g := gName 9) (by rfl) scGc.nd rfl rfl (sw_true rfl rfl rfl (by decide +kernel)) (pi_list (pv 2))
          (blkOk_by (own := [("ball", 9)]) (N := ["bits", "r", "balls", "covered", "taken", "gains", "best", "x", "word", "ball"]) (sc := defScope sGc) (by decide +kernel)) (fun _ _ _ _ _ => pg_name (i := 9) scGc.nd rfl (Or.inl rfl))
          (fun _ _ _ _ _ => pts_nil) (fun _ _ _ _ _ => pe_k cC hr (by decide) rfl (pa_cons (pv 9) (pa_cons (pv 3) pa_nil))))
        (pss_cons (ps_set (i := 6) scGc.nd rfl (Or.inl rfl) (pe_bm PySem.F.plainAttrs_list PySem.F.slot_list_index PySem.F.type_list_index mt_index (pv 5) (pa_cons (pe_callB (cr_max rfl) (by rfl) B.max (by decide +kernel) (pa_cons (pv 5) pa_nil)) pa_nil)))
        (pss_cons (ps_expr (pe_bm PySem.F.plainAttrs_list PySem.F.slot_list_append PySem.F.type_list_append mt_append (pv 4) (pa_cons (pv 6) pa_nil)))
        (pss_one (ps_for PassesOwn.never rfl (pi_list (pe_ix ix_list (pv 2) (pv 6) (fun _ _ => rfl))) (pg_name (i := 7) scGc.nd rfl (Or.inl rfl)) (pss_one (ps_dput hu (pv 3) (pv 7) pe_bl rfl))))))))
      (pss_one (ps_ret (pv 4)))))), ?_⟩
    have h64 := pow_le hn
    refine q_lists (N := 2 ^ n) (fun i => vl (brN n i r)) (ea_cons (ev_call (ea_cons (ev_var rfl) ea_nil) (wcV hn)) ea_nil) (by omega) (fun x => rfl) (fun i H1 e hi => el_call (ea_cons (ev_var rfl) (ea_cons (ev_var rfl) (ea_cons (ev_var rfl) ea_nil))) (brV hn (by omega))) fun pb H2 bs npb e2 hpb hbl hbs => ?_
    intro pc npc
    refine q_asgL (el_lst ea_nil (Nat.zero_le _)) fun pt H4 npt e4 h4 => ?_
    have npt2 : H2 pt = none := fresh_back (Ex.new npc) npt
    have ne : pt ≠ pc := fun z => by
      rw [z, upd_same] at npt
      cases npt
    have hbs2 : ∀ i, i < 2 ^ n → ∃ b, bs[i]? = some b ∧ H2 b = some (.lst (vl (brN n i r))) := fun i hi => by
      have : i < bs.length := by omega
      exact ⟨bs[i], List.getElem?_eq_getElem this, hbs i _ (List.getElem?_eq_getElem this)⟩
    refine q_while (fun m σ' H' => ∃ (ks tk : List Nat) (v5 v6 v7 : Option V), σ' = [some (.int (n : Int)), some (.int (r : Int)), some (.ref pb), some (.ref pc), some (.ref pt), v5, v6, v7, none, none] ∧ Ex H2 H' ∧ H' pc = some (.dK (dk ks)) ∧ H' pt = some (.lst (vl tk)) ∧
        ks.Nodup ∧ (∀ x ∈ ks, x < 2 ^ n) ∧ tk ++ Kh409.cover (2 ^ n) n r (opn n ks) = Kh409.cover (2 ^ n) n r (Kh407.words n) ∧ m = (opn n ks).length)
      (opn n []).length ⟨[], [], none, none, none, rfl, (Ex.new npc).trans e4, e4 _ _ upd_same, h4, List.nodup_nil, fun x hx => (by cases hx), (by rw [opn_nil, List.nil_append]), rfl⟩ ?_
    rintro m σ' H' ⟨ks, tk, v5, v6, v7, rfl, e, hpc, hpt, nd, lt, cov, rfl⟩
    refine ⟨decide (ks.length < 2 ^ n), et_is (et_test (ev_op (ev_lenD (ev_var rfl) hpc) (ev_call (ea_cons (ev_var rfl) ea_nil) (wcV hn)) rv_I0)) (nat_lt _ _), fun hb HA eA => ?_, fun hb HA eA => ?_⟩
    · have hne := (opn_full nd lt).mp (decide_eq_true_eq.mp hb)
      obtain ⟨bx, hbx, g1, g2⟩ := best_ex n r (opn n ks)
      have hbest := best_is hbx g1 g2
      have step := cover_step (r := r) hn hne opn_lt opn_len
      have less := cover_less (r := r) hn hne opn_lt
      rw [hbest] at step less
      have mem : ∀ x, x ∈ covK ks (brN n bx r) ↔ x ∈ ks ∨ x ∈ brN n bx r := fun x => covK_mem
      have next := opn_next hn hbx mem
      have tkl : tk.length ≤ 2 ^ n := by
        have h1 := cover_len n r (2 ^ n) (Kh407.words n)
        rw [← cov, List.length_append] at h1
        omega
      refine ⟨fun σ2 H2' => ∃ (v5 v6 v7 : Option V), σ2 = [some (.int (n : Int)), some (.int (r : Int)), some (.ref pb), some (.ref pc), some (.ref pt), v5, v6, v7, none, none] ∧ Ex H2 H2' ∧ H2' pc = some (.dK (dk (covK ks (brN n bx r)))) ∧ H2' pt = some (.lst (vl (tk ++ [bx]))), ?_, ?_⟩
      · rintro σ2 H2' ⟨v5, v6, v7, rfl, x1, x2, x3⟩
        refine ⟨(opn n (covK ks (brN n bx r))).length, ?_, covK ks (brN n bx r), tk ++ [bx], v5, v6, v7, rfl, x1, x2, x3, covK_nd nd, fun x hx => ?_, ?_, rfl⟩
        · rw [next]
          exact less
        · rcases covK_mem.mp hx with z | z
          · exact lt x z
          · exact br_lt x z
        · rw [next, List.append_assoc]
          show tk ++ (bx :: Kh409.cover (2 ^ n) n r _) = _
          rw [← step]
          exact cov
      · have eA2 := e.trans eA
        refine q_asgL (el_is (el_lcL (xs := bs.map V.ref) (fun _ => true) (fun i => .int (coN (brN n i r) ks : Nat)) (ev_var rfl) (sq_of (eA2 _ _ hpb)) (by rw [List.length_map, hbl]; omega) (fun x => rfl) (fun i v H1 e hi => et_yes) ?_) (ys := vl ((List.range (2 ^ n)).map fun i => coN (brN n i r) ks)) ?_) fun pg HB npg eB hpg => ?_
        · intro i v H1 e1 hi _
          rw [List.getElem?_map] at hi
          cases hb : bs[i]? with
          | none => rw [hb] at hi; cases hi
          | some b =>
            rw [hb] at hi
            have : v = .ref b := (Option.some.inj hi).symm
            subst this
            exact ev_call (ea_cons (ev_var rfl) (ea_cons (ev_var rfl) ea_nil)) (coV (sq_of (e1 _ _ (eA2 _ _ (hbs i b hb)))) (Nat.le_trans br_len h64) (e1 _ _ (eA _ _ hpc)))
        · rw [List.length_map, hbl, given_all, vl_map, List.map_map]
          rfl
        · refine q_asg (v := .int (bx : Int)) (ev_idxmax (gb := coN (brN n bx r) ks) rfl (sq_of hpg) ?_ ?_ ?_) fun HC eC => ?_
          · rw [List.getElem?_map, List.getElem?_range hbx]
            rfl
          · intro k hk
            obtain ⟨y, hy, rfl⟩ := List.mem_map.mp hk
            have hy := List.mem_range.mp hy
            rw [gain_eq hn hy, gain_eq hn hbx]
            exact g1 y hy
          · intro y z hy hz
            have hy2 : y < 2 ^ n := Nat.lt_trans hy hbx
            rw [List.getElem?_map, List.getElem?_range hy2] at hz
            have : coN (brN n y r) ks = z := Option.some.inj hz
            rw [← this, gain_eq hn hy2, gain_eq hn hbx]
            exact g2 y hy
          · have eC2 := (eA2.trans eB).trans eC
            have hptC := eC _ _ (eB _ _ (eA _ _ hpt))
            have hpcC := eC _ _ (eB _ _ (eA _ _ hpc))
            refine q_app (xs := vl tk) hptC (ev_var rfl) (ev_var rfl) (by rw [vl_len]; omega) fun HD eD => ?_
            obtain ⟨b, hb1, hb2⟩ := hbs2 bx hbx
            have eD2 := eC2.trans eD
            have eE : Ex H2 (upd HD pt (.lst (vl tk ++ [.int (bx : Int)]))) := Ex.mut eD2 npt2
            refine s_forLn (a := b) (xs := vl (brN n bx r)) (ev_op (ev_var rfl) (ev_var rfl) (rv_ixL (sq_of (eE _ _ hpb)) (atI_nat (by rw [List.getElem?_map, hb1]; rfl)))) (sq_of (eE _ _ hb2))
              (fun i σ2 H2' => ∃ (v7 : Option V), σ2 = [some (.int (n : Int)), some (.int (r : Int)), some (.ref pb), some (.ref pc), some (.ref pt), some (.ref pg), some (.int (bx : Int)), v7, none, none] ∧ Ex H2 H2' ∧ H2' pc = some (.dK (dk (covK ks ((brN n bx r).take i)))) ∧ H2' pt = some (.lst (vl (tk ++ [bx]))))
              (fun H1 e1 => ⟨v7, rfl, eE.trans e1, e1 _ _ (by rw [upd_ne (Ne.symm ne)]; exact eD _ _ hpcC), e1 _ _ (by rw [upd_same, vl_append]; rfl)⟩) (fun i σ2 H2' _ h => by
                obtain ⟨_, _, e5, _⟩ := h
                exact sq_of (e5 _ _ hb2)) ?_ ?_
            · rintro i v σ2 H2' hi ⟨w7, rfl, e5, k1, k2⟩
              obtain ⟨x, hx, rfl⟩ := vl_get hi
              have l1 := nodup_len (n := 2 ^ n) (covK_nd (l := (brN n bx r).take i) nd) fun y hy => by
                rcases covK_mem.mp hy with z | z
                · exact lt y z
                · exact br_lt y (List.mem_of_mem_take z)
              refine ⟨_, rfl, _, rfl, pc, _, rfl, DPut.k (k := Sum.inl (x : Int)) k1 (by rw [dk_len]; exact sz_lt (by omega)), ?_⟩
              rw [dk_put, ← covK_more hx]
              exact ⟨_, rfl, Ex.mut e5 npc, upd_same, by rw [upd_ne ne]; exact k2⟩
            · rintro σ2 H2' ⟨w7, rfl, e5, k1, k2⟩
              rw [vl_len, List.take_length] at k1
              exact ⟨_, _, _, rfl, e5, k1, k2⟩
    · have hem : opn n ks = [] := by
        by_cases z : opn n ks = []
        · exact z
        · exact absurd ((opn_full nd lt).mpr z) (decide_eq_false_iff_not.mp hb)
      rw [hem, cover_nil, List.append_nil] at cov
      rw [cov] at hpt
      exact s_ret (ev_var rfl) fun HB eB => q pt HB (fresh_back e2 npt2) (((e2.trans e).trans eA).trans eB) (eB _ _ (eA _ _ hpt))
theorem gcV {H : Hp} {n r : Nat} (hn : n ≤ 6) : SpL spGc [.int (n : Int), .int (r : Int)] H (vl (Kh409.cover (2 ^ n) n r (Kh407.words n))) := fun _ _ _ q _ => ⟨n, r, rfl, hn, q⟩
end
end BC

namespace BC
open PySem PySem.Spec PyProof.Rows L2 Evl
abbrev sSg : Stmt := top 27
abbrev sSs : Stmt := top 28
abbrev sRs : Stmt := top 29
abbrev sRz : Stmt := top 30
abbrev sTi : Stmt := top 31
abbrev sPw : Stmt := top 32
theorem and_nat (x y : Nat) : Builtin.bitAnd (x : Int) (y : Int) = ((x &&& y : Nat) : Int) := by simp [Builtin.bitAnd]
theorem and_lt64 {x y : Nat} (h : x < 64) : x &&& y < 64 := Nat.lt_of_le_of_lt Nat.and_le_left h
section
variable {P : Program} {w : World} {K : PySem.W.Frag} {mg : Str → Option Value} {base : Heap}
/-! ### readings: the sum of a new list, a comprehension over range(lo, hi) -/
theorem ev_sum {ta : TE} {σ : L2.St} {H : Hp} {ns : List Int} (ha : EvL ta σ H (ns.map V.int)) : Ev (tCB (rSum K) (tCons ta tNil)) σ H (.int ns.sum) := fun H1 e _ q =>
  ha H1 e _ fun p H2 _ e2 h2 => ⟨p, ns, rfl, sq_of h2, q H2 e2⟩
theorem el_lcR2 {σ : L2.St} {H : Hp} {t : TT} {te : TE} {ta : TA} {j : Nat} {vs : List Nat} {n : Int} (f : Nat → Bool) (v : Nat → V) (h : EvA ta σ H [.int 1, .int n]) (hn : 1 ≤ n ∧ n ≤ 40000) (hw : ∀ x, wipe ((wipe σ vs).set j (some x)) vs = wipe σ vs)
    (ht : ∀ (i : Nat) H1, Ex H H1 → ((i + 1 : Nat) : Int) < n → EvT t ((wipe σ vs).set j (some (.int ((i + 1 : Nat) : Int)))) H1 (f i)) (he : ∀ (i : Nat) H1, Ex H H1 → ((i + 1 : Nat) : Int) < n → f i = true → Ev te ((wipe σ vs).set j (some (.int ((i + 1 : Nat) : Int)))) H1 (v i)) :
    EvL (tLc (iRng2 ta) (gName j) t te vs) σ H (given (n - 1).toNat f v) := fun H0 e Q q => h H0 e _ fun H1 e1 => ⟨1, n, rfl, ⟨by omega, by omega, by omega, by omega⟩, fun Dl hD =>
  lc_range (lo := 1) (n := (n - 1).toNat) (Cw H1 f v Dl) ⟨hD, Ex.new hD, upd_same⟩ (fun i H' hi p => by
    have e0 : (1 : Int) + (i : Int) = ((i + 1 : Nat) : Int) := by omega
    show wipe ((wipe σ vs).set j (some (.int ((1 : Int) + (i : Int))))) vs = wipe σ vs ∧ t ((wipe σ vs).set j (some (.int ((1 : Int) + (i : Int))))) H' fun b H3 => if b = true then te ((wipe σ vs).set j (some (.int ((1 : Int) + (i : Int))))) H3 fun y H4 => ∃ acc, H4 Dl = some (.lst acc) ∧ acc.length < sizeLine ∧ Cw H1 f v Dl (i + 1) (upd H4 Dl (.lst (acc ++ [y]))) else Cw H1 f v Dl (i + 1) H3
    rw [e0]
    exact ⟨hw _, cw_turn p (by omega) (ht i H1 (e.trans e1) (by omega)) (fun hf => he i H1 (e.trans e1) (by omega) hf)⟩) (fun H' p => q Dl H' (fresh_back e1 p.1) (e1.trans p.2.1) p.2.2)⟩
theorem dec_i (a b : Int) : decide (V.int a = V.int b) = decide (a = b) := by
  by_cases h : a = b
  · rw [decide_eq_true h, decide_eq_true (by rw [h])]
  · rw [decide_eq_false h, decide_eq_false fun z => h (by injection z)]
/-! ### sign -/
def spSg : Sp := fun vs H Q _ => ∃ x : Nat, vs = [.int (x : Int)] ∧ x < 64 ∧ RetV (.int (sgN x)) H Q
theorem scSg : FnScope ["word"] ["word"] (defScope sSg) := ⟨rfl, rfl, rfl, by decide +kernel, rfl, by decide +kernel, by decide +kernel⟩
theorem okSg {f : Addr} {fd : FuncData} (F : Fun K "sign" "sign" sSg f fd) (cT : Cl P w K mg base 1 "weight" spWt) : FnOk P w K mg base CX0 2 f fd ["word"] spSg := by
  refine F.ok scSg (fun vs H Q E h => ?_) (fun cdv A outer_ s H vs Q E hr h => ?_)
  · obtain ⟨x, rfl, _⟩ := h
    rfl
  · obtain ⟨x, rfl, hx, q⟩ := h
    refine ⟨_, pss_one (ps_ret (pe_ifExp (pt_cmpR op_eq (pe_op op_mod (pe_k cT hr (by decide) rfl (pa_cons (pv 0) pa_nil)) pe_int) pe_int (nomark _)) pe_int (pe_un un_neg pe_int))), ?_⟩
    refine s_ret (ev_if (b := decide (wt x % 2 = 0)) (et_is (et_test (ev_op (ev_op (ev_call (ea_cons (ev_var rfl) ea_nil) (wtV hx)) ev_c (rv_I (by show (0 : Int) < 2; decide))) ev_c (rv_eq rfl))) ?_) (fun hb => ev_is ev_c ?_) (fun hb => ev_is (ev_un ev_c ru_neg) ?_)) (fun H1 e => q H1 e)
    · rw [dec_i]
      by_cases z : wt x % 2 = 0
      · rw [decide_eq_true z, decide_eq_true (by omega)]
      · rw [decide_eq_false z, decide_eq_false (by omega)]
    · unfold sgN
      rw [if_pos (decide_eq_true_eq.mp hb)]
    · unfold sgN
      rw [if_neg (decide_eq_false_iff_not.mp hb)]
theorem sgV {H : Hp} {x : Nat} (hx : x < 64) : SpV spSg [.int (x : Int)] H (.int (sgN x)) := fun _ _ _ q _ => ⟨x, rfl, hx, q⟩
/-! ### sign_sum, round_sum -/
def spSs : Sp := fun vs H Q _ => ∃ n k i : Nat, vs = [.int (n : Int), .int (k : Int), .int (i : Int)] ∧ n ≤ 6 ∧ i ≤ 6 ∧ RetV (.int (ssN n k i)) H Q
theorem scSs : FnScope ["bits", "k", "i", "lowest", "places"] ["bits", "k", "i"] (defScope sSs) := ⟨rfl, rfl, rfl, by decide +kernel, rfl, by decide +kernel, by decide +kernel⟩
theorem okSs {f : Addr} {fd : FuncData} (F : Fun K "sign_sum" "sign_sum" sSs f fd) (B : Bt mg) (zS : mg "sum" = none) (cW : Cl P w K mg base 1 "word_count" spWc) (cT : Cl P w K mg base 1 "weight" spWt) (cS : Cl P w K mg base 2 "sign" spSg) : FnOk P w K mg base CX0 3 f fd ["bits", "k", "i"] spSs := by
  refine F.ok scSs (fun vs H Q E h => ?_) (fun cdv A outer_ s H vs Q E hr h => ?_)
  · obtain ⟨n, k, i, rfl, _⟩ := h
    rfl
  · obtain ⟨n, k, i, rfl, hn, hi6, q⟩ := h
    refine ⟨_, pss_cons (ps_set (i := 3) scSs.nd rfl (Or.inr rfl) (pe_op op_sub (pe_k cW hr (by decide) rfl (pa_cons (pv 2) pa_nil)) pe_int))
      (pss_one (ps_ret (pe_callB (cr_sum rfl) (by rfl) zS (by decide +kernel) (pa_cons
      (pe_lc (own := [("places", 4)]) (g := gName 4) rfl scSs.nd (pi_range1 rfl B.range (pa_cons (pe_k cW hr (by decide) rfl (pa_cons (pv 0) pa_nil)) pa_nil))
        (blkOk_by (own := [("places", 4)]) (N := ["bits", "k", "i", "lowest", "places"]) (sc := defScope sSs) (by decide +kernel)) (fun _ _ _ _ _ => pg_name (i := 4) scSs.nd rfl (Or.inl rfl))
        (fun _ _ _ _ _ => pts_one (pt_cmpR op_eq (pe_k cT hr (by decide) rfl (pa_cons (pv 4) pa_nil)) (pv 1) (nomark _))) (fun _ _ _ _ _ => pe_k cS hr (by decide) rfl (pa_cons (pe_op op_and (pv 4) (pv 3)) pa_nil))) pa_nil)))), ?_⟩
    have h64 := pow_le hn
    have pos : 0 < 2 ^ i := Nat.pow_pos (by decide)
    refine q_asg (ev_is (ev_op (ev_call (ea_cons (ev_var rfl) ea_nil) (wcV hi6)) ev_c (rv_I0 (g := fun i j => .int (i - j)))) (w := .int ((2 ^ i - 1 : Nat) : Int)) (congrArg V.int (by omega))) fun H1 e1 => ?_
    refine s_ret (ev_sum (ns := ((List.range (2 ^ n)).filter fun p => decide (wt p = k)).map fun p => sgN (p &&& (2 ^ i - 1))) (el_is (el_lcR1 (n := ((2 ^ n : Nat) : Int)) (fun p => decide (wt p = k)) (fun p => .int (sgN (p &&& (2 ^ i - 1)))) (ea_cons (ev_call (ea_cons (ev_var rfl) ea_nil) (wcV hn)) ea_nil) ⟨Int.natCast_nonneg _, by omega⟩ (fun x => rfl) ?_ ?_) ?_)) (fun H2 e2 => q.go (e1.trans e2))
    · intro p H2 e2 hp
      exact et_is (et_test (ev_op (ev_call (ea_cons (ev_var rfl) ea_nil) (wtV (by omega))) (ev_var rfl) (rv_eq rfl))) (dec_nat _ _)
    · intro p H2 e2 hp _
      exact ev_call (ea_cons (ev_is (ev_op (ev_var rfl) (ev_var rfl) rv_I0) (congrArg V.int (and_nat p (2 ^ i - 1)))) ea_nil) (sgV (and_lt64 (by omega)))
    · rw [List.map_map]
      rfl
theorem ssV {H : Hp} {n k i : Nat} (hn : n ≤ 6) (hi : i ≤ 6) : SpV spSs [.int (n : Int), .int (k : Int), .int (i : Int)] H (.int (ssN n k i)) := fun _ _ _ q _ => ⟨n, k, i, rfl, hn, hi, q⟩
def spRs : Sp := fun vs H Q _ => ∃ n r i : Nat, vs = [.int (n : Int), .int (r : Int), .int (i : Int)] ∧ n ≤ 6 ∧ r ≤ 6 ∧ i ≤ 6 ∧ RetV (.int (rsN n r i)) H Q
theorem scRs : FnScope ["bits", "r", "i", "k"] ["bits", "r", "i"] (defScope sRs) := ⟨rfl, rfl, rfl, by decide +kernel, rfl, by decide +kernel, by decide +kernel⟩
theorem okRs {f : Addr} {fd : FuncData} (F : Fun K "round_sum" "round_sum" sRs f fd) (B : Bt mg) (zS : mg "sum" = none) (cS : Cl P w K mg base 3 "sign_sum" spSs) : FnOk P w K mg base CX0 4 f fd ["bits", "r", "i"] spRs := by
  refine F.ok scRs (fun vs H Q E h => ?_) (fun cdv A outer_ s H vs Q E hr h => ?_)
  · obtain ⟨n, r, i, rfl, _⟩ := h
    rfl
  · obtain ⟨n, r, i, rfl, hn, hr6, hi6, q⟩ := h
    refine ⟨_, pss_one (ps_ret (pe_callB (cr_sum rfl) (by rfl) zS (by decide +kernel) (pa_cons
      (pe_lc (own := [("k", 3)]) (g := gName 3) rfl scRs.nd (pi_range1 rfl B.range (pa_cons (pe_op op_add (pv 1) pe_int) pa_nil))
        (blkOk_by (own := [("k", 3)]) (N := ["bits", "r", "i", "k"]) (sc := defScope sRs) (by decide +kernel)) (fun _ _ _ _ _ => pg_name (i := 3) scRs.nd rfl (Or.inl rfl))
        (fun _ _ _ _ _ => pts_nil) (fun _ _ _ _ _ => pe_k cS hr (by decide) rfl (pa_cons (pv 0) (pa_cons (pv 3) (pa_cons (pv 2) pa_nil))))) pa_nil))), ?_⟩
    refine s_ret (ev_sum (ns := (List.range (r + 1)).map fun k => ssN n k i) (el_is (el_lcR1 (n := ((r + 1 : Nat) : Int)) (fun _ => true) (fun k => .int (ssN n k i)) (ea_cons (ev_is (ev_op (ev_var (i := 1) rfl) (ev_c (v := .int 1)) (rv_I0 (g := fun i j => .int (i + j)))) rfl) ea_nil) ⟨Int.natCast_nonneg _, by omega⟩ (fun x => rfl)
      (fun k H1 e hk => et_yes) (fun k H1 e hk _ => ev_call (ea_cons (ev_var rfl) (ea_cons (ev_var rfl) (ea_cons (ev_var rfl) ea_nil))) (ssV hn hi6))) ?_)) (fun H2 e2 => q.go e2)
    rw [given_all, List.map_map]
    rfl
theorem rsV {H : Hp} {n r i : Nat} (hn : n ≤ 6) (hr : r ≤ 6) (hi : i ≤ 6) : SpV spRs [.int (n : Int), .int (r : Int), .int (i : Int)] H (.int (rsN n r i)) := fun _ _ _ q _ => ⟨n, r, i, rfl, hn, hr, hi, q⟩
/-! ### round_zeros -/
def spRz : Sp := fun vs H Q _ => ∃ n r : Nat, vs = [.int (n : Int), .int (r : Int)] ∧ n ≤ 6 ∧ r ≤ 6 ∧ RetL (vl (rzN n r)) H Q
theorem scRz : FnScope ["bits", "r", "i"] ["bits", "r"] (defScope sRz) := ⟨rfl, rfl, rfl, by decide +kernel, rfl, by decide +kernel, by decide +kernel⟩
theorem okRz {f : Addr} {fd : FuncData} (F : Fun K "round_zeros" "round_zeros" sRz f fd) (B : Bt mg) (cR : Cl P w K mg base 4 "round_sum" spRs) : FnOk P w K mg base CX0 5 f fd ["bits", "r"] spRz := by
  refine F.ok scRz (fun vs H Q E h => ?_) (fun cdv A outer_ s H vs Q E hr h => ?_)
  · obtain ⟨n, r, rfl, _⟩ := h
    rfl
  · obtain ⟨n, r, rfl, hn, hr6, q⟩ := h
    refine ⟨_, pss_one (ps_ret (pe_lc (own := [("i", 2)]) (g := gName 2) rfl scRz.nd (pi_range2 rfl B.range (pa_cons pe_int (pa_cons (pe_op op_add (pv 0) pe_int) pa_nil)))
        (blkOk_by (own := [("i", 2)]) (N := ["bits", "r", "i"]) (sc := defScope sRz) (by decide +kernel)) (fun _ _ _ _ _ => pg_name (i := 2) scRz.nd rfl (Or.inl rfl))
        (fun _ _ _ _ _ => pts_one (pt_cmpR op_eq (pe_k cR hr (by decide) rfl (pa_cons (pv 0) (pa_cons (pv 1) (pa_cons (pv 2) pa_nil)))) pe_int (nomark _))) (fun _ _ _ _ _ => pv 2))), ?_⟩
    refine s_retL (el_is (el_lcR2 (n := ((n + 1 : Nat) : Int)) (fun j => decide (rsN n r (j + 1) = 0)) (fun j => .int ((j + 1 : Nat) : Int)) (ea_cons ev_c (ea_cons (ev_is (ev_op (ev_var (i := 0) rfl) (ev_c (v := .int 1)) (rv_I0 (g := fun i j => .int (i + j)))) rfl) ea_nil)) ⟨by omega, by omega⟩ (fun x => rfl) ?_ ?_) ?_) fun p H1 hp e h1 => q p H1 hp e h1
    · intro j H1 e hj
      exact et_is (et_test (ev_op (ev_call (ea_cons (ev_var rfl) (ea_cons (ev_var rfl) (ea_cons (ev_var rfl) ea_nil))) (rsV hn hr6 (by omega))) ev_c (rv_eq rfl))) (dec_i _ _)
    · intro j H1 e hj _
      exact ev_var rfl
    · have z : (((n + 1 : Nat) : Int) - 1).toNat = n := by omega
      rw [z, vl_map]
      unfold rzN
      rw [List.map_map]
      rfl
theorem rzV {H : Hp} {n r : Nat} (hn : n ≤ 6) (hr : r ≤ 6) : SpL spRz [.int (n : Int), .int (r : Int)] H (vl (rzN n r)) := fun _ _ _ q _ => ⟨n, r, rfl, hn, hr, q⟩
/-! ### tilt -/
def spTi (K : PySem.W.Frag) : Sp := fun vs H Q _ => ∃ (a : Addr) (c : List Nat) (p : Nat), vs = [.ref a, .int (p : Int)] ∧ Ws K H a c ∧ RetV (.int (tiN c p)) H Q
theorem scTi : FnScope ["there", "places", "word"] ["there", "places"] (defScope sTi) := ⟨rfl, rfl, rfl, by decide +kernel, rfl, by decide +kernel, by decide +kernel⟩
theorem okTi {f : Addr} {fd : FuncData} (F : Fun K "tilt" "tilt" sTi f fd) (zS : mg "sum" = none) (cS : Cl P w K mg base 2 "sign" spSg) : FnOk P w K mg base CX0 3 f fd ["there", "places"] (spTi K) := by
  refine F.ok scTi (fun vs H Q E h => ?_) (fun cdv A outer_ s H vs Q E hr h => ?_)
  · obtain ⟨a, c, p, rfl, _⟩ := h
    rfl
  · obtain ⟨a, c, p, rfl, W, q⟩ := h
    refine ⟨_, pss_one (ps_ret (pe_callB (cr_sum rfl) (by rfl) zS (by decide +kernel) (pa_cons
      (pe_lc (own := [("word", 2)]) (g := gName 2) rfl scTi.nd (pi_list (pv 0))
        (blkOk_by (own := [("word", 2)]) (N := ["there", "places", "word"]) (sc := defScope sTi) (by decide +kernel)) (fun _ _ _ _ _ => pg_name (i := 2) scTi.nd rfl (Or.inl rfl))
        (fun _ _ _ _ _ => pts_nil) (fun _ _ _ _ _ => pe_k cS hr (by decide) rfl (pa_cons (pe_op op_and (pv 2) (pv 1)) pa_nil))) pa_nil))), ?_⟩
    have hl := W.len
    refine s_ret (ev_sum (ns := c.map fun y => sgN (y &&& p)) (el_is (el_lcL (xs := vl c) (fun _ => true) (fun i => .int (sgN (c.getD i 0 &&& p))) (ev_var rfl) W.at_ (by rw [vl_len]; omega) (fun x => rfl) (fun i v H1 e hi => et_yes) ?_) ?_)) (fun H2 e2 => q.go e2)
    · intro i v H1 e hi _
      obtain ⟨y, hy, rfl⟩ := vl_get hi
      rw [getD_of hy]
      exact ev_call (ea_cons (ev_is (ev_op (ev_var rfl) (ev_var rfl) rv_I0) (congrArg V.int (and_nat y p))) ea_nil) (sgV (and_lt64 (W.lt y (mem_of hy))))
    · rw [vl_len, given_map c (fun y => V.int (sgN (y &&& p))), List.map_map]
      rfl
theorem tiV {H : Hp} {a : Addr} {c : List Nat} {p : Nat} (W : Ws K H a c) : SpV (spTi K) [.ref a, .int (p : Int)] H (.int (tiN c p)) := fun _ e _ q _ => ⟨a, c, p, rfl, W.ex e, q⟩
/-! ### places_in_the_way -/
def spPw (K : PySem.W.Frag) : Sp := fun vs H Q _ => ∃ (n : Nat) (a : Addr) (c : List Nat) (r : Nat), vs = [.int (n : Int), .ref a, .int (r : Int)] ∧ n ≤ 6 ∧ r ≤ 6 ∧ Ws K H a c ∧ RetL (vl (itN n c r)) H Q
theorem scPw : FnScope ["bits", "there", "r", "sums", "tilting", "i", "places"] ["bits", "there", "r"] (defScope sPw) := ⟨rfl, rfl, rfl, by decide +kernel, rfl, by decide +kernel, by decide +kernel⟩
theorem okPw {f : Addr} {fd : FuncData} (F : Fun K "places_in_the_way" "places_in_the_way" sPw f fd) (B : Bt mg) (cW : Cl P w K mg base 1 "word_count" spWc) (cX : Cl P w K mg base 1 "weight" spWt) (cR : Cl P w K mg base 4 "round_sum" spRs) (cT : Cl P w K mg base 3 "tilt" (spTi K)) :
    FnOk P w K mg base CX0 5 f fd ["bits", "there", "r"] (spPw K) := by
  refine F.ok scPw (fun vs H Q E h => ?_) (fun cdv A outer_ s H vs Q E hr h => ?_)
  · obtain ⟨n, a, c, r, rfl, _⟩ := h
    rfl
  · obtain ⟨n, a, c, r, rfl, hn, hr6, W, q⟩ := h
    refine ⟨_, pss_cons (ps_set (i := 3) scPw.nd rfl (Or.inr rfl) (pe_lc (own := [("i", 5)]) (g := gName 5) rfl scPw.nd (pi_range1 rfl B.range (pa_cons (pe_op op_add (pv 0) pe_int) pa_nil))
        (blkOk_by (own := [("i", 5)]) (N := ["bits", "there", "r", "sums", "tilting", "i", "places"]) (sc := defScope sPw) (by decide +kernel)) (fun _ _ _ _ _ => pg_name (i := 5) scPw.nd rfl (Or.inl rfl))
        (fun _ _ _ _ _ => pts_nil) (fun _ _ _ _ _ => pe_k cR hr (by decide) rfl (pa_cons (pv 0) (pa_cons (pv 2) (pa_cons (pv 5) pa_nil))))))
      (pss_cons (ps_setLc (i := 4) (own := [("places", 6)]) (g := gName 6) (by rfl) scPw.nd rfl rfl (sw_true rfl rfl rfl (by decide +kernel)) (pi_range2 rfl B.range (pa_cons pe_int (pa_cons (pe_k cW hr (by decide) rfl (pa_cons (pv 0) pa_nil)) pa_nil)))
        (blkOk_by (own := [("places", 6)]) (N := ["bits", "there", "r", "sums", "tilting", "i", "places"]) (sc := defScope sPw) (by decide +kernel)) (fun _ _ _ _ _ => pg_name (i := 6) scPw.nd rfl (Or.inl rfl))
        (fun _ _ _ _ _ => pts_one (pt_cmpR op_ne (pe_k cT hr (by decide) rfl (pa_cons (pv 1) (pa_cons (pv 6) pa_nil))) pe_int (nomark _))) (fun _ _ _ _ _ => pv 6))
      (pss_one (ps_ret (pe_lc (own := [("places", 6)]) (g := gName 6) (tt := tTest (tOp rNe (tOp (rIxL K) (tVar 3) (tCall spWt [] E0 (tCons (tVar 6) tNil))) (tC (.int 0)))) rfl scPw.nd (pi_list (pv 4))
        (blkOk_by (own := [("places", 6)]) (N := ["bits", "there", "r", "sums", "tilting", "i", "places"]) (sc := defScope sPw) (by decide +kernel)) (fun _ _ _ _ _ => pg_name (i := 6) scPw.nd rfl (Or.inl rfl))
        (fun _ _ _ _ _ => pts_one (pt_cmpR op_ne (pe_ix ix_list (pv 3) (pe_k cX hr (by decide) rfl (pa_cons (pv 6) pa_nil)) (fun _ _ => rfl)) pe_int (nomark _))) (fun _ _ _ _ _ => pv 6))))), ?_⟩
    have h64 := pow_le hn
    have pos : 0 < 2 ^ n := Nat.pow_pos (by decide)
    refine q_asgL (el_is (el_lcR1 (n := ((n + 1 : Nat) : Int)) (fun _ => true) (fun i => .int (rsN n r i)) (ea_cons (ev_is (ev_op (ev_var (i := 0) rfl) (ev_c (v := .int 1)) (rv_I0 (g := fun i j => .int (i + j)))) rfl) ea_nil) ⟨Int.natCast_nonneg _, by omega⟩ (fun x => rfl)
      (fun i H1 e hi => et_yes) (fun i H1 e hi _ => ev_call (ea_cons (ev_var rfl) (ea_cons (ev_var rfl) (ea_cons (ev_var rfl) ea_nil))) (rsV hn hr6 (by omega)))) (ys := (List.range (n + 1)).map fun i => V.int (rsN n r i)) (given_all _ _)) fun ps H1 np1 e1 h1 => ?_
    refine q_asgL (el_is (el_lcR2 (n := ((2 ^ n : Nat) : Int)) (fun j => decide (tiN c (j + 1) ≠ 0)) (fun j => .int ((j + 1 : Nat) : Int)) (ea_cons ev_c (ea_cons (ev_call (ea_cons (ev_var rfl) ea_nil) (wcV hn)) ea_nil)) ⟨by omega, by omega⟩ (fun x => rfl) ?_ ?_) (ys := vl (tgN n c)) ?_) fun pt H2 np2 e2 h2 => ?_
    · intro j H2 e2 hj
      refine et_is (et_test (ev_op (ev_call (ea_cons (ev_var rfl) (ea_cons (ev_var rfl) ea_nil)) (tiV (W.ex (e1.trans e2)))) ev_c (rv_ne rfl))) ?_
      rw [dec_i, ← decide_not]
    · intro j H2 e2 hj _
      exact ev_var rfl
    · have z : (((2 ^ n : Nat) : Int) - 1).toNat = 2 ^ n - 1 := by omega
      rw [z, vl_map]
      unfold tgN
      rw [List.map_map]
      rfl
    · have hl : (tgN n c).length ≤ 2 ^ n := tg_len
      refine s_retL (el_is (el_lcL (xs := vl (tgN n c)) (fun i => decide (rsN n r (wt ((tgN n c).getD i 0)) ≠ 0)) (fun i => .int ((tgN n c).getD i 0 : Nat)) (ev_var rfl) (sq_of h2) (by rw [vl_len]; omega) (fun x => rfl) ?_ ?_) ?_) fun p3 H3 hp3 e3 h3 => q.go (e1.trans e2) hp3 e3 h3
      · intro i v H3 e3 hi
        obtain ⟨y, hy, rfl⟩ := vl_get hi
        rw [getD_of hy]
        have y2 : y < 2 ^ n := tg_mem (mem_of hy)
        have yw : wt y ≤ n := wt_all_le n (by omega) y y2
        refine et_is (et_test (ev_op (ev_op (ev_var rfl) (ev_call (ea_cons (ev_var rfl) ea_nil) (wtV (by omega))) (rv_ixL (v := .int (rsN n r (wt y))) (sq_of (e3 _ _ (e2 _ _ h1))) (atI_nat ?_))) ev_c (rv_ne rfl))) ?_
        · rw [List.getElem?_map, List.getElem?_range (by omega)]
          rfl
        · rw [dec_i, ← decide_not]
      · intro i v H3 e3 hi _
        obtain ⟨y, hy, rfl⟩ := vl_get hi
        rw [getD_of hy]
        exact ev_var rfl
      · rw [vl_len, given_list (tgN n c) (fun y => decide (rsN n r (wt y) ≠ 0)) (fun y => .int (y : Nat)), vl_map]
        rfl
theorem pwV {H : Hp} {n : Nat} {a : Addr} {c : List Nat} {r : Nat} (hn : n ≤ 6) (hr : r ≤ 6) (W : Ws K H a c) : SpL (spPw K) [.int (n : Int), .ref a, .int (r : Int)] H (vl (itN n c r)) := fun _ e _ q _ => ⟨n, a, c, r, rfl, hn, hr, W.ex e, q⟩
end
end BC

namespace BC
open PySem PySem.Spec PyProof.Rows L2 Evl
abbrev sIn : Stmt := inClass (top 35) 0
abbrev sC0 : Stmt := top 37
abbrev sC1 : Stmt := top 38
abbrev sC2 : Stmt := top 39
abbrev sC3 : Stmt := top 40
abbrev sC4 : Stmt := top 41
abbrev sC5 : Stmt := top 42
abbrev sC6 : Stmt := top 43
abbrev sC7 : Stmt := top 44
abbrev sC8 : Stmt := top 45
abbrev sC9 : Stmt := top 46
abbrev sC10 : Stmt := top 47
abbrev sC11 : Stmt := top 48
abbrev sC12 : Stmt := top 49
abbrev sC13 : Stmt := top 50
abbrev sC14 : Stmt := top 51
abbrev sC15 : Stmt := top 52
abbrev sC16 : Stmt := top 53
abbrev sC17 : Stmt := top 54
abbrev sC18 : Stmt := top 55
abbrev sC19 : Stmt := top 56
abbrev sC20 : Stmt := top 57
abbrev sC21 : Stmt := top 58
abbrev sC22 : Stmt := top 59
abbrev sC23 : Stmt := top 60
abbrev sCt : Stmt := top 36
/-! ### the object -/
def sF (n : Nat) (q : Addr) : List (Str × V) := [("bits", .int (n : Int)), ("there", .ref q)]
theorem lk_here {k : Str} {v : V} {r : List (Str × V)} : List.lookup k ((k, v) :: r) = some v := by
  have e : (k == k) = true := beq_self_eq_true k
  simp only [List.lookup, e]
theorem lk_past {k g : Str} {v : V} {r : List (Str × V)} (h : (k == g) = false) : List.lookup k ((g, v) :: r) = List.lookup k r := by
  simp only [List.lookup, h]
theorem sF_bits (n : Nat) (q : Addr) : (sF n q).lookup ("bits" : Str) = some (.int (n : Int)) := lk_here
theorem sF_there (n : Nat) (q : Addr) : (sF n q).lookup ("there" : Str) = some (.ref q) := (lk_past (by decide +kernel)).trans lk_here
theorem put_here {f : Str} {v x : V} {r : List (Str × V)} : putF f v ((f, x) :: r) = (f, v) :: r := if_pos rfl
theorem put_past {f g : Str} {v x : V} {r : List (Str × V)} (h : ¬ g = f) : putF f v ((g, x) :: r) = (g, x) :: putF f v r := if_neg h
theorem sF_setB (n m : Nat) (q : Addr) : putF "bits" (.int (m : Int)) (sF n q) = sF m q := put_here
theorem sF_setT (n : Nat) (q p : Addr) : putF "there" (.ref p) (sF n q) = sF n p := (put_past (by decide +kernel)).trans (congrArg _ put_here)
/-- the object at p: so many bits, the words there are in the list at q -/
def StAt (C : Addr) (H : Hp) (p q : Addr) (n : Nat) (c : List Nat) : Prop := ∃ dx, H p = some (.ins C dx (sF n q)) ∧ H q = some (.lst (vl c))
/-- .. told as the specification tells it -/
def StA (C : Addr) (H : Hp) (p q : Addr) : Option Kh409.Abs → Prop
  | none => StAt C H p q 0 []
  | some a => StAt C H p q a.n a.c ∧ 1 ≤ a.n ∧ a.n ≤ 6 ∧ Canon a.n a.c
/-- all but the object at p is as it was -/
def Kp (H : Hp) (p : Addr) (H' : Hp) : Prop := ∀ b o, H b = some o → b ≠ p → H' b = some o
theorem Kp.of {H H' : Hp} {p : Addr} (e : Ex H H') : Kp H p H' := fun b o h _ => e b o h
theorem Kp.trans {H H1 H2 : Hp} {p : Addr} (a : Kp H p H1) (b : Kp H1 p H2) : Kp H p H2 := fun x o h n => b x o (a x o h n) n
theorem Kp.upd {H H' : Hp} {p : Addr} {o : HO} (a : Kp H p H') : Kp H p (upd H' p o) := fun x u h n => by
  rw [upd_ne n]
  exact a x u h n
theorem Kp.fresh {H H' : Hp} {p l : Addr} {o : HO} (a : Kp H p H') (hp : H' p = some o) (n : H' l = none) : H l = none := by
  cases e : H l with
  | none => rfl
  | some u =>
    by_cases z : l = p
    · rw [z, hp] at n
      cases n
    · rw [a l u e z] at n
      cases n
theorem StAt.ex {C : Addr} {H H' : Hp} {p q : Addr} {n : Nat} {c : List Nat} (h : StAt C H p q n c) (e : Ex H H') : StAt C H' p q n c := by
  obtain ⟨dx, h1, h2⟩ := h
  exact ⟨dx, e _ _ h1, e _ _ h2⟩
theorem StA.ex {C : Addr} {H H' : Hp} {p q : Addr} {s : Option Kh409.Abs} (h : StA C H p q s) (e : Ex H H') : StA C H' p q s := by
  cases s with
  | none => exact StAt.ex h e
  | some a => exact ⟨h.1.ex e, h.2⟩
/-! ### what a call's def promises, in the specification's words -/
def spC (K : PySem.W.Frag) (C : Addr) (k : Nat) : Sp := fun vs H Q _ => ∃ (p q h : Addr) (s : Option Kh409.Abs) (xs : List Nat), vs = [.ref p, .ref h] ∧ StA C H p q s ∧ SqL K H h (vl xs) ∧ Fine k s xs ∧
  ∀ (H' : Hp) (l q' : Addr), StA C H' p q' (stp k s xs).1 → Kp H p H' → (q' = q ∨ H q' = none) → H l = none → H' l = some (.lst ((stp k s xs).2.map V.int)) → Q (.ref l) H'
theorem spC_len {K : PySem.W.Frag} {C : Addr} {k : Nat} {vs : List V} {H : Hp} {Q : VK} {E : XK} (h : spC K C k vs H Q E) : vs.length = 2 := by
  obtain ⟨_, _, _, _, _, rfl, _⟩ := h
  rfl
structure Txt (K : PySem.W.Frag) (C : Addr) : Prop where
  cl : Cls K C
  nB : NoAttr K C "bits"
  nT : NoAttr K C "there"
section
variable {P : Program} {w : World} {K : PySem.W.Frag} {mg : Str → Option Value} {base : Heap} {C : Addr}
/-! ### readings that the calls share -/
variable {σ : L2.St} {H : Hp} {ta tb te : TE}
theorem ev_fld {p dx : Addr} {fs : List (Str × V)} {f : Str} {v : V} (ha : Ev ta σ H (.ref p)) (h : H p = some (.ins C dx fs)) (c : Cls K C) (n : NoAttr K C f) (l : fs.lookup f = some v) : Ev (tFld K ta f) σ H v := fun H1 e Q q =>
  ha H1 e _ fun H2 e2 => ⟨p, C, dx, fs, v, rfl, (e.trans e2) _ _ h, c, n, l, q H2 e2⟩
theorem ev_bits (T : Txt K C) {p dx q : Addr} {n : Nat} (ha : Ev ta σ H (.ref p)) (h : H p = some (.ins C dx (sF n q))) : Ev (tFld K ta "bits") σ H (.int (n : Int)) := ev_fld ha h T.cl T.nB (sF_bits n q)
theorem ev_there (T : Txt K C) {p dx q : Addr} {n : Nat} (ha : Ev ta σ H (.ref p)) (h : H p = some (.ins C dx (sF n q))) : Ev (tFld K ta "there") σ H (.ref q) := ev_fld ha h T.cl T.nT (sF_there n q)
theorem ev_at {h : Addr} {xs : List Nat} {i x : Nat} (ha : Ev ta σ H (.ref h)) (hs : SqL K H h (vl xs)) (hx : xs[i]? = some x) : Ev (tOp (rIxL K) ta (tC (.int (i : Int)))) σ H (.int (x : Int)) :=
  ev_op ha ev_c (rv_ixL hs (atI_nat (by
    rw [vl_map, List.getElem?_map, hx]
    rfl)))
theorem ev_at0 {h : Addr} {x : Nat} {r : List Nat} (ha : Ev ta σ H (.ref h)) (hs : SqL K H h (vl (x :: r))) : Ev (tOp (rIxL K) ta (tC (.int 0))) σ H (.int (x : Int)) := ev_at (i := 0) ha hs rfl
theorem ev_at1 {h : Addr} {x y : Nat} {r : List Nat} (ha : Ev ta σ H (.ref h)) (hs : SqL K H h (vl (x :: y :: r))) : Ev (tOp (rIxL K) ta (tC (.int 1))) σ H (.int (y : Int)) := ev_at (i := 1) ha hs rfl
theorem in_vl (x : Nat) (c : List Nat) : inV (.int (x : Int)) (vl c) = decide (x ∈ c) := by
  unfold inV
  rw [vl_map, List.any_map, Bool.eq_iff_iff, List.any_eq_true, decide_eq_true_eq]
  constructor
  · rintro ⟨y, hy, e⟩
    have e2 : ((y : Int) == (x : Int)) = true := e
    have : y = x := by
      have := beq_iff_eq.mp e2
      omega
    exact this ▸ hy
  · intro hx
    exact ⟨x, hx, beq_self_eq_true (x : Int)⟩
theorem flat_vl (c : List Nat) : (vl c).all flatV = true := by
  rw [vl_map, List.all_map, List.all_eq_true]
  exact fun _ _ => rfl
theorem ev_in {p : Addr} {x : Nat} {c : List Nat} (ha : Ev ta σ H (.int (x : Int))) (hb : Ev tb σ H (.ref p)) (h : SqL K H p (vl c)) : Ev (tOp (rIn K false) ta tb) σ H (.bl (decide (x ∈ c))) :=
  ev_is (ev_op ha hb (rv_isL h rfl (flat_vl c))) (by rw [in_vl])
theorem ev_notin {p : Addr} {x : Nat} {c : List Nat} (ha : Ev ta σ H (.int (x : Int))) (hb : Ev tb σ H (.ref p)) (h : SqL K H p (vl c)) : Ev (tOp (rIn K true) ta tb) σ H (.bl (!decide (x ∈ c))) :=
  ev_is (ev_op ha hb (rv_niL h rfl (flat_vl c))) (by rw [in_vl])
/-- xs + [..], xs a list that stands there -/
theorem el_cat {l : Addr} {xs ys : List V} (ha : Ev ta σ H (.ref l)) (h : H l = some (.lst xs)) (hb : EvL tb σ H ys) (hz : xs.length + ys.length ≤ 100000) : EvL (tOp rCat ta tb) σ H (xs ++ ys) := fun H1 e Q q =>
  ha H1 e _ fun H2 e2 => hb H2 (e.trans e2) _ fun p H3 np e3 h3 => ⟨l, p, xs, ys, rfl, rfl, e3 _ _ ((e.trans e2) _ _ h), h3, sz_of hz, fun p2 hp2 => q p2 _ (fresh_back (e2.trans e3) hp2) ((e2.trans e3).trans (Ex.new hp2)) upd_same⟩
/-- [..] + xs -/
theorem el_cat' {l : Addr} {xs ys : List V} (ha : EvL ta σ H xs) (hb : Ev tb σ H (.ref l)) (h : H l = some (.lst ys)) (hz : xs.length + ys.length ≤ 100000) : EvL (tOp rCat ta tb) σ H (xs ++ ys) := fun H1 e Q q =>
  ha H1 e _ fun p H2 np e2 h2 => hb H2 (e.trans e2) _ fun H3 e3 => ⟨p, l, xs, ys, rfl, rfl, e3 _ _ h2, ((e.trans e2).trans e3) _ _ h, sz_of hz, fun p2 hp2 => q p2 _ (fresh_back (e2.trans e3) hp2) ((e2.trans e3).trans (Ex.new hp2)) upd_same⟩
/-- o.there = a new list; o.bits = e -/
theorem s_setT (T : Txt K C) {D : Ends} {p dx q : Addr} {n : Nat} {xs : List V} (ho : Ev ta σ H (.ref p)) (h : H p = some (.ins C dx (sF n q))) (he : EvL te σ H xs)
    (k : ∀ l H1, H l = none → Ex H H1 → H1 l = some (.lst xs) → D.nx σ (upd H1 p (.ins C dx (sF n l)))) : sFld K ta te "there" D σ H := he H (Ex.refl H) _ fun l H1 nl e1 h1 => ho H1 e1 _ fun H2 e2 => by
  refine ⟨p, C, dx, _, rfl, (e1.trans e2) _ _ h, T.cl, T.nT, (by show 2 < 1000; decide), ?_⟩
  rw [sF_setT]
  exact k l H2 nl (e1.trans e2) (e2 _ _ h1)
theorem s_setB (T : Txt K C) {D : Ends} {p dx q : Addr} {n m : Nat} (ho : Ev ta σ H (.ref p)) (h : H p = some (.ins C dx (sF n q))) (he : Ev te σ H (.int (m : Int)))
    (k : ∀ H1, Ex H H1 → D.nx σ (upd H1 p (.ins C dx (sF m q)))) : sFld K ta te "bits" D σ H := he H (Ex.refl H) _ fun H1 e1 => ho H1 e1 _ fun H2 e2 => by
  refine ⟨p, C, dx, _, rfl, (e1.trans e2) _ _ h, T.cl, T.nB, (by show 2 < 1000; decide), ?_⟩
  rw [sF_setB]
  exact k H2 (e1.trans e2)
theorem q_setT (T : Txt K C) {D : Ends} {tz : TS} {p dx q : Addr} {n : Nat} {xs : List V} (ho : Ev ta σ H (.ref p)) (h : H p = some (.ins C dx (sF n q))) (he : EvL te σ H xs)
    (k : ∀ l H1, H l = none → Ex H H1 → H1 l = some (.lst xs) → tz D σ (upd H1 p (.ins C dx (sF n l)))) : tSeq (sFld K ta te "there") tz D σ H := s_setT (D := { D with nx := tz D }) T ho h he k
theorem q_setB (T : Txt K C) {D : Ends} {tz : TS} {p dx q : Addr} {n m : Nat} (ho : Ev ta σ H (.ref p)) (h : H p = some (.ins C dx (sF n q))) (he : Ev te σ H (.int (m : Int)))
    (k : ∀ H1, Ex H H1 → tz D σ (upd H1 p (.ins C dx (sF m q)))) : tSeq (sFld K ta te "bits") tz D σ H := s_setB (D := { D with nx := tz D }) T ho h he k
/-- the object behind a store of new words -/
theorem st_new {p dx l : Addr} {n : Nat} {c : List Nat} {H1 : Hp} (h1 : H1 l = some (.lst (vl c))) (ne : l ≠ p) : StAt C (upd H1 p (.ins C dx (sF n l))) p l n c :=
  ⟨dx, upd_same, by rw [upd_ne ne]; exact h1⟩
/-! ### counted -/
def spCt : Sp := fun vs H Q _ => ∃ (a : Addr) (xs : List V), vs = [.ref a] ∧ H a = some (.lst xs) ∧ xs.length ≤ 1000 ∧ RetL (.int (xs.length : Nat) :: xs) H Q
theorem scCt : FnScope ["found"] ["found"] (defScope sCt) := ⟨rfl, rfl, rfl, by decide +kernel, rfl, by decide +kernel, by decide +kernel⟩
theorem okCt {f : Addr} {fd : FuncData} (F : Fun K "counted" "counted" sCt f fd) (B : Bt mg) : FnOk P w K mg base CX0 1 f fd ["found"] spCt := by
  refine F.ok scCt (fun vs H Q E h => ?_) (fun cdv A outer_ s H vs Q E hr h => ?_)
  · obtain ⟨a, xs, rfl, _⟩ := h
    rfl
  · obtain ⟨a, xs, rfl, ha, hl, q⟩ := h
    refine ⟨_, pss_one (ps_ret (pe_op op_cat (pe_lst (pa_cons (pe_callB call_len_seq (by rfl) B.len PySem.boot_len (pa_cons (pv 0) pa_nil)) pa_nil)) (pv 0))), ?_⟩
    exact s_retL (el_cat' (el_lst (ea_cons (ev_len (ev_var rfl) (sq_of ha)) ea_nil) (by show 1 ≤ 100000; decide)) (ev_var rfl) ha (by show 1 + _ ≤ _; omega)) fun l H2 nl e2 h2 => q l H2 nl e2 h2
/-- counted of a list that stands there, of a new list -/
theorem ctV {H : Hp} {a : Addr} {xs : List V} (h : H a = some (.lst xs)) (hl : xs.length ≤ 1000) : SpL spCt [.ref a] H (.int (xs.length : Nat) :: xs) := fun _ e _ q _ => ⟨a, xs, rfl, e _ _ h, hl, q⟩
theorem el_ct {xs : List V} {E : XK} (h : EvL te σ H xs) (hl : xs.length ≤ 1000) : EvL (tCall spCt [] E (tCons te tNil)) σ H (.int (xs.length : Nat) :: xs) := fun H1 e Q q =>
  h H1 e _ fun p H2 np e2 h2 => ⟨p, xs, rfl, h2, hl, fun l H3 nl e3 h3 => q l H3 (fresh_back e2 nl) (e2.trans e3) h3⟩
/-! ### __init__ -/
def spIn (C : Addr) : Sp := fun vs H Q _ => ∃ (p dx : Addr), vs = [.ref p] ∧ H p = some (.ins C dx []) ∧ ∀ (H' : Hp) (q : Addr), StAt C H' p q 0 [] → Kp H p H' → H q = none → Q .non H'
theorem scIn : FnScope ["self"] ["self"] (defScope sIn) := ⟨rfl, rfl, rfl, by decide +kernel, rfl, by decide +kernel, by decide +kernel⟩
theorem okIn {f : Addr} {fd : FuncData} (F : Fun K "__init__" "State.__init__" sIn f fd) (T : Txt K C) : FnOk P w K mg base CX0 1 f fd ["self"] (spIn C) := by
  refine F.ok scIn (fun vs H Q E h => ?_) (fun cdv A outer_ s H vs Q E hr h => ?_)
  · obtain ⟨p, dx, rfl, _⟩ := h
    rfl
  · obtain ⟨p, dx, rfl, hp, k⟩ := h
    refine ⟨_, pss_cons (ps_fld (pv 0) pe_int rfl) (pss_one (ps_fld (pv 0) (pe_lst pa_nil) rfl)), ?_⟩
    refine ⟨_, rfl, p, C, dx, [], rfl, hp, T.cl, T.nB, (by show 0 < 1000; decide), ?_⟩
    refine ⟨sz_of (Nat.zero_le _), fun l hl => ⟨_, rfl, p, C, dx, putF "bits" (.int 0) [], rfl, ?_, T.cl, T.nT, (by show 1 < 1000; decide), ?_⟩⟩
    · rw [upd_ne (ne_of_none (upd_same) hl)]
      exact upd_same
    · have ne : l ≠ p := (ne_of_none (upd_same) hl).symm
      refine k _ l ⟨dx, ?_, ?_⟩ ?_ ?_
      · rw [upd_same]
        exact congrArg (fun q => some (HO.ins C dx q)) (put_past (by decide +kernel))
      · rw [upd_ne ne, upd_same]
        rfl
      · intro b o hb nb
        rw [upd_ne nb]
        have h2 : (upd H p (.ins C dx (putF "bits" (.int 0) []))) b = some o := by
          rw [upd_ne nb]
          exact hb
        rw [upd_ne (ne_of_none h2 hl)]
        exact h2
      · rw [← hl, upd_ne ne]
end
end BC

namespace BC
open PySem PySem.Spec PyProof.Rows L2 Evl
section
variable {P : Program} {w : World} {K : PySem.W.Frag} {mg : Str → Option Value} {base : Heap} {C : Addr}
theorem StA.at {H : Hp} {p q : Addr} {s : Option Kh409.Abs} (h : StA C H p q s) : ∃ n c, StAt C H p q n c := by
  cases s with
  | none => exact ⟨_, _, h⟩
  | some a => exact ⟨_, _, h.1⟩
/-- the words of the object, ready for the defs that look at them -/
theorem ws_a {H : Hp} {q : Addr} {a : Kh409.Abs} (h : H q = some (.lst (vl a.c))) (hn : a.n ≤ 6) (hc : Canon a.n a.c) : Ws K H q a.c := ws_of (sq_of h) hn hc.good
/-- a call that changes nothing -/
theorem look_end {k : Nat} {a : Kh409.Abs} {xs : List Nat} {ans : List Int} {H : Hp} {p q : Addr} {Q : VK} (e : stp k (some a) xs = (some a, ans)) (st : StA C H p q (some a))
    (kk : ∀ (H' : Hp) (l q' : Addr), StA C H' p q' (stp k (some a) xs).1 → Kp H p H' → (q' = q ∨ H q' = none) → H l = none → H' l = some (.lst ((stp k (some a) xs).2.map V.int)) → Q (.ref l) H') {H1 : Hp} {l : Addr} (e1 : Ex H H1) (nl : H l = none) (h1 : H1 l = some (.lst (ans.map V.int))) : Q (.ref l) H1 := by
  rw [e] at kk
  exact kk H1 l q (st.ex e1) (Kp.of e1) (.inl rfl) nl h1
theorem ne_old {H : Hp} {p l : Addr} {o : HO} (h : H p = some o) (n : H l = none) : l ≠ p := fun z => by
  rw [z, h] at n
  cases n
theorem le1 {v : V} : [v].length ≤ 100000 := by
  show 1 ≤ 100000
  decide
/-! ### begin -/
theorem sc0 : FnScope ["state", "handed"] ["state", "handed"] (defScope sC0) := ⟨rfl, rfl, rfl, by decide +kernel, rfl, by decide +kernel, by decide +kernel⟩
theorem ok0 {f : Addr} {fd : FuncData} (F : Fun K "begin" "begin" sC0 f fd) (T : Txt K C) : FnOk P w K mg base CX0 1 f fd ["state", "handed"] (spC K C 0) := by
  refine F.ok sc0 (fun vs H Q E h => spC_len h) (fun cdv A outer_ s H vs Q E hr h => ?_)
  obtain ⟨p, q, hh, st, xs, rfl, hst, hS, fine, kk⟩ := h
  obtain ⟨n, rfl, h1, h6⟩ := fine.b
  rw [stp0 st h1 h6] at kk
  refine ⟨_, pss_cons (ps_fld (pv 0) (pe_ix ix_list (pv 1) pe_int (fun _ _ => rfl)) rfl) (pss_cons (ps_fld (pv 0) (pe_lst pa_nil) rfl) (pss_one (ps_ret (pe_lst (pa_cons pe_int pa_nil))))), ?_⟩
  obtain ⟨n0, c0, dx, hp, hq⟩ := hst.at
  refine q_setB T (ev_var rfl) hp (ev_at0 (ev_var rfl) hS) fun H1 e1 => ?_
  refine q_setT T (ev_var rfl) upd_same (el_lst ea_nil (Nat.zero_le _)) fun l H2 nl e2 h2 => ?_
  have ne := ne_old upd_same nl
  refine s_retL (el_lst (ea_cons ev_c ea_nil) le1) fun l2 H3 n3 e3 h3 => ?_
  refine kk H3 l2 l ⟨(st_new (c := []) h2 ne).ex e3, h1, h6, canon_nil n⟩ ?_ (.inr ?_) ((((Kp.of e1).upd.trans (Kp.of e2)).upd).fresh upd_same n3) h3
  · exact ((Kp.of e1).upd.trans (Kp.of e2)).upd.trans (Kp.of e3)
  · rw [upd_ne ne] at nl
    exact fresh_back e1 nl
/-! ### put -/
theorem sc1 : FnScope ["state", "handed"] ["state", "handed"] (defScope sC1) := ⟨rfl, rfl, rfl, by decide +kernel, rfl, by decide +kernel, by decide +kernel⟩
theorem ok1 {f : Addr} {fd : FuncData} (F : Fun K "put" "put" sC1 f fd) (T : Txt K C) (B : Bt mg) : FnOk P w K mg base CX0 1 f fd ["state", "handed"] (spC K C 1) := by
  refine F.ok sc1 (fun vs H Q E h => spC_len h) (fun cdv A outer_ s H vs Q E hr h => ?_)
  obtain ⟨p, q, hh, st, xs, rfl, hst, hS, fine, kk⟩ := h
  obtain ⟨a, x, rfl, rfl, hx⟩ := fine.x (by decide) rfl rfl
  refine ⟨_, pss_cons (ps_if (pt_cmpR op_in_seq (pe_ix ix_list (pv 1) pe_int (fun _ _ => rfl)) (pe_fld (pv 0) rfl) (by rfl)) (pss_one (ps_ret (pe_lst (pa_cons (pe_un un_neg pe_int) pa_nil)))) pss_nil)
    (pss_cons (ps_fld (pv 0) (pe_callB cr_sortedI (by rfl) B.sorted (by decide +kernel) (pa_cons (pe_op op_cat (pe_fld (pv 0) rfl) (pe_lst (pa_cons (pe_ix ix_list (pv 1) pe_int (fun _ _ => rfl)) pa_nil))) pa_nil)) rfl)
    (pss_one (ps_ret (pe_lst (pa_cons (pe_callB call_len_seq (by rfl) B.len PySem.boot_len (pa_cons (pe_fld (pv 0) rfl) pa_nil)) pa_nil))))), ?_⟩
  have hst' := hst
  obtain ⟨⟨dx, hp, hq⟩, h1, h6, hc⟩ := hst
  have hl := hc.len64 h6
  refine q_when (et_test (ev_in (ev_at0 (ev_var rfl) hS) (ev_there T (ev_var rfl) hp) (sq_of hq))) (fun hb H1 e1 => ?_) (fun hb H1 e1 => ?_)
  · refine s_retL (el_lst (ea_cons (ev_un ev_c ru_neg) ea_nil) le1) fun l H2 nl e2 h2 => ?_
    exact look_end (stp1_in hx (decide_eq_true_eq.mp hb)) hst' kk (e1.trans e2) (fresh_back e1 nl) h2
  · have ni : x ∉ a.c := decide_eq_false_iff_not.mp hb
    rw [stp1_new hx ni] at kk
    have g := put_good hc hx ni
    refine q_setT T (xs := vl (Kh407.sorted a.n (a.c ++ [x]))) (ev_var rfl) (e1 _ _ hp) (el_sorted (c := a.c ++ [x]) (el_is (el_cat (ev_there T (ev_var rfl) (e1 _ _ hp)) (e1 _ _ hq) (el_lst (ea_cons (ev_at0 (ev_var rfl) (ex_l e1 hS)) ea_nil) le1) (by rw [vl_len]; show _ + 1 ≤ _; omega)) (by rw [vl_append]; rfl)) g) fun l H2 nl e2 h2 => ?_
    have ne := ne_old (e1 _ _ hp) nl
    refine s_retL (el_lst (ea_cons (ev_len (ev_there T (ev_var rfl) upd_same) (sq_of (by rw [upd_ne ne]; exact h2))) ea_nil) le1) fun l2 H3 n3 e3 h3 => ?_
    rw [put_eq] at h2
    refine kk H3 l2 l ⟨(st_new h2 ne).ex e3, h1, h6, sorted_canon _ _⟩ (((Kp.of e1).trans (Kp.of e2)).upd.trans (Kp.of e3)) (.inr (fresh_back e1 nl)) (((Kp.of e1).trans (Kp.of e2)).upd.fresh upd_same n3) ?_
    rw [h3, vl_len, sorted_len g, List.length_append]
    rfl
/-! ### take -/
theorem sc2 : FnScope ["state", "handed", "word"] ["state", "handed"] (defScope sC2) := ⟨rfl, rfl, rfl, by decide +kernel, rfl, by decide +kernel, by decide +kernel⟩
theorem ok2 {f : Addr} {fd : FuncData} (F : Fun K "take" "take" sC2 f fd) (T : Txt K C) (B : Bt mg) : FnOk P w K mg base CX0 1 f fd ["state", "handed"] (spC K C 2) := by
  refine F.ok sc2 (fun vs H Q E h => spC_len h) (fun cdv A outer_ s H vs Q E hr h => ?_)
  obtain ⟨p, q, hh, st, xs, rfl, hst, hS, fine, kk⟩ := h
  obtain ⟨a, x, rfl, rfl, hx⟩ := fine.x (by decide) rfl rfl
  refine ⟨_, pss_cons (ps_if (pt_cmpR op_notIn_seq (pe_ix ix_list (pv 1) pe_int (fun _ _ => rfl)) (pe_fld (pv 0) rfl) (by rfl)) (pss_one (ps_ret (pe_lst (pa_cons (pe_un un_neg pe_int) pa_nil)))) pss_nil)
    (pss_cons (ps_fld (pv 0) (pe_lc (own := [("word", 2)]) (g := gName 2) (tt := tTest (tOp rNe (tVar 2) (tOp (rIxL K) (tVar 1) (tC (.int 0))))) rfl sc2.nd (pi_list (pe_fld (pv 0) rfl))
        (blkOk_by (own := [("word", 2)]) (N := ["state", "handed", "word"]) (sc := defScope sC2) (by decide +kernel)) (fun _ _ _ _ _ => pg_name (i := 2) sc2.nd rfl (Or.inl rfl))
        (fun _ _ _ _ _ => pts_one (pt_cmpR op_ne (pv 2) (pe_ix ix_list (pv 1) pe_int (fun _ _ => rfl)) (nomark _))) (fun _ _ _ _ _ => pv 2)) rfl)
    (pss_one (ps_ret (pe_lst (pa_cons (pe_callB call_len_seq (by rfl) B.len PySem.boot_len (pa_cons (pe_fld (pv 0) rfl) pa_nil)) pa_nil))))), ?_⟩
  have hst' := hst
  obtain ⟨⟨dx, hp, hq⟩, h1, h6, hc⟩ := hst
  have hl := hc.len64 h6
  refine q_when (et_test (ev_notin (ev_at0 (ev_var rfl) hS) (ev_there T (ev_var rfl) hp) (sq_of hq))) (fun hb H1 e1 => ?_) (fun hb H1 e1 => ?_)
  · refine s_retL (el_lst (ea_cons (ev_un ev_c ru_neg) ea_nil) le1) fun l H2 nl e2 h2 => ?_
    exact look_end (stp2_not hx (fun z => by rw [decide_eq_true z] at hb; cases hb)) hst' kk (e1.trans e2) (fresh_back e1 nl) h2
  · have hi : x ∈ a.c := by
      by_cases z : x ∈ a.c
      · exact z
      · rw [decide_eq_false z] at hb
        cases hb
    rw [stp2_in hx hi] at kk
    have er := erase_filter hc.nodup x
    refine q_setT T (xs := vl (a.c.erase x)) (ev_var rfl) (e1 _ _ hp) (el_is (el_lcL (xs := vl a.c) (fun i => decide (a.c.getD i 0 ≠ x)) (fun i => .int (a.c.getD i 0 : Nat)) (ev_there T (ev_var rfl) (e1 _ _ hp)) (sq_of (e1 _ _ hq)) (by rw [vl_len]; omega) (fun x => rfl) ?_ ?_) ?_) fun l H2 nl e2 h2 => ?_
    · intro i v H2 e2 hi
      obtain ⟨y, hy, rfl⟩ := vl_get hi
      rw [getD_of hy]
      refine et_is (et_test (ev_op (ev_var rfl) (ev_at0 (ev_var rfl) (ex_l (e1.trans e2) hS)) (rv_ne rfl))) ?_
      by_cases z : y = x
      · subst z
        simp
      · have : ¬ (V.int (y : Int) = V.int (x : Int)) := fun k => z (by injection k with k; omega)
        simp [z, this]
    · intro i v H2 e2 hi _
      obtain ⟨y, hy, rfl⟩ := vl_get hi
      rw [getD_of hy]
      exact ev_var rfl
    · rw [vl_len, given_list a.c (fun y => decide (y ≠ x)) (fun y => .int (y : Nat)), ← er, ← vl_map]
    · have ne := ne_old (e1 _ _ hp) nl
      refine s_retL (el_lst (ea_cons (ev_len (ev_there T (ev_var rfl) upd_same) (sq_of (by rw [upd_ne ne]; exact h2))) ea_nil) le1) fun l2 H3 n3 e3 h3 => ?_
      refine kk H3 l2 l ⟨(st_new h2 ne).ex e3, h1, h6, hc.erase x⟩ (((Kp.of e1).trans (Kp.of e2)).upd.trans (Kp.of e3)) (.inr (fresh_back e1 nl)) (((Kp.of e1).trans (Kp.of e2)).upd.fresh upd_same n3) ?_
      rw [h3, vl_len, List.length_erase_of_mem hi]
      rfl
/-! ### move -/
theorem sc3 : FnScope ["state", "handed", "word"] ["state", "handed"] (defScope sC3) := ⟨rfl, rfl, rfl, by decide +kernel, rfl, by decide +kernel, by decide +kernel⟩
theorem ok3 {f : Addr} {fd : FuncData} (F : Fun K "move" "move" sC3 f fd) (T : Txt K C) (B : Bt mg) : FnOk P w K mg base CX0 1 f fd ["state", "handed"] (spC K C 3) := by
  refine F.ok sc3 (fun vs H Q E h => spC_len h) (fun cdv A outer_ s H vs Q E hr h => ?_)
  obtain ⟨p, q, hh, st, xs, rfl, hst, hS, fine, kk⟩ := h
  obtain ⟨a, y, rfl, rfl, hy⟩ := fine.x (by decide) rfl rfl
  refine ⟨_, pss_cons (ps_fld (pv 0) (pe_callB cr_sortedI (by rfl) B.sorted (by decide +kernel) (pa_cons
      (pe_lc (own := [("word", 2)]) (g := gName 2) (te := tOp (rI0 fun i j => .int (Builtin.bitXor i j)) (tVar 2) (tOp (rIxL K) (tVar 1) (tC (.int 0)))) rfl sc3.nd (pi_list (pe_fld (pv 0) rfl))
        (blkOk_by (own := [("word", 2)]) (N := ["state", "handed", "word"]) (sc := defScope sC3) (by decide +kernel)) (fun _ _ _ _ _ => pg_name (i := 2) sc3.nd rfl (Or.inl rfl))
        (fun _ _ _ _ _ => pts_nil) (fun _ _ _ _ _ => pe_op op_xor (pv 2) (pe_ix ix_list (pv 1) pe_int (fun _ _ => rfl)))) pa_nil)) rfl)
    (pss_one (ps_ret (pe_lst (pa_cons pe_int pa_nil)))), ?_⟩
  obtain ⟨⟨dx, hp, hq⟩, h1, h6, hc⟩ := hst
  have hl := hc.len64 h6
  have g := move_good hc hy
  rw [stp3 hy] at kk
  refine q_setT T (xs := vl (Kh407.sorted a.n (a.c.map (· ^^^ y)))) (ev_var rfl) hp (el_sorted (c := a.c.map (· ^^^ y)) (el_is (el_lcL (xs := vl a.c) (fun _ => true) (fun i => .int ((a.c.getD i 0 ^^^ y : Nat) : Int)) (ev_there T (ev_var rfl) hp) (sq_of hq) (by rw [vl_len]; omega) (fun x => rfl) (fun i v H1 e hi => et_yes) ?_) ?_) g) fun l H2 nl e2 h2 => ?_
  · intro i v H1 e1 hi _
    obtain ⟨x, hx, rfl⟩ := vl_get hi
    rw [getD_of hx]
    exact ev_is (ev_op (ev_var rfl) (ev_at0 (ev_var rfl) (ex_l e1 hS)) rv_I0) (congrArg V.int (xor_nat x y))
  · rw [vl_len, given_map a.c (fun x => V.int ((x ^^^ y : Nat) : Int)), vl_map, List.map_map]
    rfl
  · have ne := ne_old hp nl
    refine s_retL (el_lst (ea_cons ev_c ea_nil) le1) fun l2 H3 n3 e3 h3 => ?_
    rw [← move_eq h6 hc hy] at h2
    exact kk H3 l2 l ⟨(st_new h2 ne).ex e3, h1, h6, sorted_canon _ _⟩ ((Kp.of e2).upd.trans (Kp.of e3)) (.inr nl) ((Kp.of e2).upd.fresh upd_same n3) h3
/-! ### close, fill -/
theorem sc4 : FnScope ["state", "handed"] ["state", "handed"] (defScope sC4) := ⟨rfl, rfl, rfl, by decide +kernel, rfl, by decide +kernel, by decide +kernel⟩
theorem ok4 {f : Addr} {fd : FuncData} (F : Fun K "close" "close" sC4 f fd) (T : Txt K C) (B : Bt mg) (cC : Cl P w K mg base 2 "closed" (spCd K)) : FnOk P w K mg base CX0 3 f fd ["state", "handed"] (spC K C 4) := by
  refine F.ok sc4 (fun vs H Q E h => spC_len h) (fun cdv A outer_ s H vs Q E hr h => ?_)
  obtain ⟨p, q, hh, st, xs, rfl, hst, hS, fine, kk⟩ := h
  obtain ⟨⟨n, c⟩, rfl, rfl⟩ := fine.e (by decide) rfl
  refine ⟨_, pss_cons (ps_fld (pv 0) (pe_k cC hr (by decide) rfl (pa_cons (pe_fld (pv 0) rfl) pa_nil)) rfl)
    (pss_one (ps_ret (pe_lst (pa_cons (pe_callB call_len_seq (by rfl) B.len PySem.boot_len (pa_cons (pe_fld (pv 0) rfl) pa_nil)) pa_nil)))), ?_⟩
  obtain ⟨⟨dx, hp, hq⟩, h1, h6, hc⟩ := hst
  rw [stp4] at kk
  refine q_setT T (xs := vl (reps n (n + 1) c)) (ev_var rfl) hp (el_call (ea_cons (ev_there T (ev_var rfl) hp) ea_nil) (cdV (sq_of hq) h6 hc)) fun l H2 nl e2 h2 => ?_
  have ne := ne_old hp nl
  refine s_retL (el_lst (ea_cons (ev_len (ev_there T (ev_var rfl) upd_same) (sq_of (by rw [upd_ne ne]; exact h2))) ea_nil) le1) fun l2 H3 n3 e3 h3 => ?_
  refine kk H3 l2 l ⟨(st_new h2 ne).ex e3, h1, h6, reps_canon hc _⟩ ((Kp.of e2).upd.trans (Kp.of e3)) (.inr nl) ((Kp.of e2).upd.fresh upd_same n3) ?_
  rw [h3, vl_len]
  rfl
theorem sc5 : FnScope ["state", "handed"] ["state", "handed"] (defScope sC5) := ⟨rfl, rfl, rfl, by decide +kernel, rfl, by decide +kernel, by decide +kernel⟩
theorem ok5 {f : Addr} {fd : FuncData} (F : Fun K "fill" "fill" sC5 f fd) (T : Txt K C) (B : Bt mg) (cC : Cl P w K mg base 4 "filled" (spFd K)) : FnOk P w K mg base CX0 5 f fd ["state", "handed"] (spC K C 5) := by
  refine F.ok sc5 (fun vs H Q E h => spC_len h) (fun cdv A outer_ s H vs Q E hr h => ?_)
  obtain ⟨p, q, hh, st, xs, rfl, hst, hS, fine, kk⟩ := h
  obtain ⟨a, r, rfl, rfl, hr6⟩ := fine.r (by decide) rfl rfl
  refine ⟨_, pss_cons (ps_fld (pv 0) (pe_k cC hr (by decide) rfl (pa_cons (pe_fld (pv 0) rfl) (pa_cons (pe_fld (pv 0) rfl) (pa_cons (pe_ix ix_list (pv 1) pe_int (fun _ _ => rfl)) pa_nil)))) rfl)
    (pss_one (ps_ret (pe_lst (pa_cons (pe_callB call_len_seq (by rfl) B.len PySem.boot_len (pa_cons (pe_fld (pv 0) rfl) pa_nil)) pa_nil)))), ?_⟩
  obtain ⟨⟨dx, hp, hq⟩, h1, h6, hc⟩ := hst
  rw [stp5 hr6] at kk
  refine q_setT T (xs := vl (Kh409.filled a r)) (ev_var rfl) hp (el_call (ea_cons (ev_bits T (ev_var rfl) hp) (ea_cons (ev_there T (ev_var rfl) hp) (ea_cons (ev_at0 (ev_var rfl) hS) ea_nil))) (fdV (sq_of hq) h6 (by omega) hc)) fun l H2 nl e2 h2 => ?_
  have ne := ne_old hp nl
  refine s_retL (el_lst (ea_cons (ev_len (ev_there T (ev_var rfl) upd_same) (sq_of (by rw [upd_ne ne]; exact h2))) ea_nil) le1) fun l2 H3 n3 e3 h3 => ?_
  refine kk H3 l2 l ⟨(st_new h2 ne).ex e3, h1, h6, sorted_canon _ _⟩ ((Kp.of e2).upd.trans (Kp.of e3)) (.inr nl) ((Kp.of e2).upd.fresh upd_same n3) ?_
  rw [h3, vl_len]
  rfl
end
end BC

namespace BC
open PySem PySem.Spec PyProof.Rows L2 Evl
/-! ### the defs' values are the specification's -/
theorem hs_eq {a : Kh409.Abs} (hn : a.n ≤ 6) (hc : Canon a.n a.c) (r : Nat) : hsN a.n a.c r = (List.range (2 ^ a.n)).map (Kh409.hits a r) :=
  List.map_congr_left fun x hx => hits_eq hn hc (List.mem_range.mp hx)
theorem wh_eq {a : Kh409.Abs} (hn : a.n ≤ 6) (hc : Canon a.n a.c) (r : Nat) : whN a.n a.c r = (List.range (a.c.length + 1)).map fun m => ((Kh407.words a.n).filter fun x => Kh409.hits a r x == m).length := by
  unfold whN
  rw [hs_eq hn hc]
  exact List.map_congr_left fun m _ => count_map _ _ _
theorem bc_eq {a : Kh409.Abs} (hn : a.n ≤ 6) (hc : Canon a.n a.c) (r : Nat) : bcN a.n a.c r = Kh409.covers a r := by
  unfold bcN
  rw [hs_eq hn hc, List.all_map]
  rfl
theorem ba_eq {a : Kh409.Abs} (hn : a.n ≤ 6) (hc : Canon a.n a.c) (r : Nat) : baN a.n a.c r = Kh409.apart a r := by
  unfold baN
  rw [hs_eq hn hc, List.all_map]
  rfl
theorem bs_eq {n r : Nat} (hn : n ≤ 6) (hr : r ≤ n) : bsN n r = Kh409.ball n r := ball_all n (by omega) r (by omega)
section
variable {P : Program} {w : World} {K : PySem.W.Frag} {mg : Str → Option Value} {base : Heap} {C : Addr}
theorem bsV {H : Hp} {n r : Nat} (hn : n ≤ 6) : SpV spBs [.int (n : Int), .int (r : Int)] H (.int (bsN n r : Nat)) := fun _ _ _ q _ => ⟨n, r, rfl, hn, q⟩
/-! ### words -/
theorem sc6 : FnScope ["state", "handed"] ["state", "handed"] (defScope sC6) := ⟨rfl, rfl, rfl, by decide +kernel, rfl, by decide +kernel, by decide +kernel⟩
theorem ok6 {f : Addr} {fd : FuncData} (F : Fun K "words" "words" sC6 f fd) (T : Txt K C) (cC : Cl P w K mg base 1 "counted" spCt) : FnOk P w K mg base CX0 2 f fd ["state", "handed"] (spC K C 6) := by
  refine F.ok sc6 (fun vs H Q E h => spC_len h) (fun cdv A outer_ s H vs Q E hr h => ?_)
  obtain ⟨p, q, hh, st, xs, rfl, hst, hS, fine, kk⟩ := h
  obtain ⟨a, rfl, rfl⟩ := fine.e (by decide) rfl
  refine ⟨_, pss_one (ps_ret (pe_k cC hr (by decide) rfl (pa_cons (pe_fld (pv 0) rfl) pa_nil))), ?_⟩
  have hst' := hst
  obtain ⟨⟨dx, hp, hq⟩, h1, h6, hc⟩ := hst
  have hl := hc.len64 h6
  refine s_retL (el_call (ea_cons (ev_there T (ev_var rfl) hp) ea_nil) (ctV hq (by rw [vl_len]; omega))) fun l H2 nl e2 h2 => ?_
  refine look_end stp6 hst' kk e2 nl ?_
  rw [h2, vl_len]
  rfl
/-! ### ball, hits -/
theorem sc7 : FnScope ["state", "handed"] ["state", "handed"] (defScope sC7) := ⟨rfl, rfl, rfl, by decide +kernel, rfl, by decide +kernel, by decide +kernel⟩
theorem ok7 {f : Addr} {fd : FuncData} (F : Fun K "ball" "ball" sC7 f fd) (T : Txt K C) (cB : Cl P w K mg base 2 "ball_size" spBs) : FnOk P w K mg base CX0 3 f fd ["state", "handed"] (spC K C 7) := by
  refine F.ok sc7 (fun vs H Q E h => spC_len h) (fun cdv A outer_ s H vs Q E hr h => ?_)
  obtain ⟨p, q, hh, st, xs, rfl, hst, hS, fine, kk⟩ := h
  obtain ⟨a, r, rfl, rfl, hra⟩ := fine.r (by decide) rfl rfl
  refine ⟨_, pss_one (ps_ret (pe_lst (pa_cons (pe_k cB hr (by decide) rfl (pa_cons (pe_fld (pv 0) rfl) (pa_cons (pe_ix ix_list (pv 1) pe_int (fun _ _ => rfl)) pa_nil))) pa_nil))), ?_⟩
  have hst' := hst
  obtain ⟨⟨dx, hp, hq⟩, h1, h6, hc⟩ := hst
  refine s_retL (el_lst (ea_cons (ev_call (ea_cons (ev_bits T (ev_var rfl) hp) (ea_cons (ev_at0 (ev_var rfl) hS) ea_nil)) (bsV h6)) ea_nil) le1) fun l H2 nl e2 h2 => ?_
  refine look_end (stp7 hra) hst' kk e2 nl ?_
  rw [h2, bs_eq h6 hra]
  rfl
theorem sc8 : FnScope ["state", "handed"] ["state", "handed"] (defScope sC8) := ⟨rfl, rfl, rfl, by decide +kernel, rfl, by decide +kernel, by decide +kernel⟩
theorem ok8 {f : Addr} {fd : FuncData} (F : Fun K "hits" "hits" sC8 f fd) (T : Txt K C) (cH : Cl P w K mg base 3 "hit_count" (spHc K)) : FnOk P w K mg base CX0 4 f fd ["state", "handed"] (spC K C 8) := by
  refine F.ok sc8 (fun vs H Q E h => spC_len h) (fun cdv A outer_ s H vs Q E hr h => ?_)
  obtain ⟨p, q, hh, st, xs, rfl, hst, hS, fine, kk⟩ := h
  obtain ⟨a, r, x, rfl, rfl, hra, hx⟩ := fine.rx
  refine ⟨_, pss_one (ps_ret (pe_lst (pa_cons (pe_k cH hr (by decide) rfl (pa_cons (pe_fld (pv 0) rfl) (pa_cons (pe_ix ix_list (pv 1) pe_int (fun _ _ => rfl)) (pa_cons (pe_ix ix_list (pv 1) pe_int (fun _ _ => rfl)) pa_nil)))) pa_nil))), ?_⟩
  have hst' := hst
  obtain ⟨⟨dx, hp, hq⟩, h1, h6, hc⟩ := hst
  refine s_retL (el_lst (ea_cons (ev_call (ea_cons (ev_there T (ev_var rfl) hp) (ea_cons (ev_at0 (ev_var rfl) hS) (ea_cons (ev_at1 (ev_var rfl) hS) ea_nil))) (hcV (ws_a hq h6 hc) (Nat.lt_of_lt_of_le hx (pow_le h6)))) ea_nil) le1) fun l H2 nl e2 h2 => ?_
  refine look_end (stp8 hra hx) hst' kk e2 nl ?_
  rw [h2]
  show some (HO.lst [V.int ((hcN a.c r x : Nat) : Int)]) = some (HO.lst [V.int (Kh409.hits a r x : Nat)])
  rw [show hcN a.c r x = Kh409.hits a r x from hits_eq h6 hc hx]
/-! ### times -/
theorem sc9 : FnScope ["state", "handed"] ["state", "handed"] (defScope sC9) := ⟨rfl, rfl, rfl, by decide +kernel, rfl, by decide +kernel, by decide +kernel⟩
theorem ok9 {f : Addr} {fd : FuncData} (F : Fun K "times" "times" sC9 f fd) (T : Txt K C) (cC : Cl P w K mg base 1 "counted" spCt) (cW : Cl P w K mg base 5 "words_by_hits" (spWh K)) : FnOk P w K mg base CX0 6 f fd ["state", "handed"] (spC K C 9) := by
  refine F.ok sc9 (fun vs H Q E h => spC_len h) (fun cdv A outer_ s H vs Q E hr h => ?_)
  obtain ⟨p, q, hh, st, xs, rfl, hst, hS, fine, kk⟩ := h
  obtain ⟨a, r, rfl, rfl, hra⟩ := fine.r (by decide) rfl rfl
  refine ⟨_, pss_one (ps_ret (pe_k cC hr (by decide) rfl (pa_cons (pe_k cW hr (by decide) rfl (pa_cons (pe_fld (pv 0) rfl) (pa_cons (pe_fld (pv 0) rfl) (pa_cons (pe_ix ix_list (pv 1) pe_int (fun _ _ => rfl)) pa_nil)))) pa_nil))), ?_⟩
  have hst' := hst
  obtain ⟨⟨dx, hp, hq⟩, h1, h6, hc⟩ := hst
  have hl := hc.len64 h6
  have hw : (whN a.n a.c r).length = a.c.length + 1 := by
    unfold whN
    rw [List.length_map, List.length_range]
  refine s_retL (el_ct (el_call (ea_cons (ev_bits T (ev_var rfl) hp) (ea_cons (ev_there T (ev_var rfl) hp) (ea_cons (ev_at0 (ev_var rfl) hS) ea_nil))) (whV h6 (ws_a hq h6 hc))) (by rw [vl_len, hw]; omega)) fun l H2 nl e2 h2 => ?_
  refine look_end (stp9 hra) hst' kk e2 nl ?_
  rw [h2, vl_len, hw, wh_eq h6 hc]
  rfl
/-! ### covers, apart -/
theorem ev_10 {tt : TT} {σ : L2.St} {H : Hp} {b : Bool} (h : EvT tt σ H b) : Ev (tIf tt (tC (.int 1)) (tC (.int 0))) σ H (.int (if b then 1 else 0)) :=
  ev_if h (fun e => by subst e; exact ev_c) (fun e => by subst e; exact ev_c)
theorem sc10 : FnScope ["state", "handed"] ["state", "handed"] (defScope sC10) := ⟨rfl, rfl, rfl, by decide +kernel, rfl, by decide +kernel, by decide +kernel⟩
theorem ok10 {f : Addr} {fd : FuncData} (F : Fun K "covers" "covers" sC10 f fd) (T : Txt K C) (cB : Cl P w K mg base 5 "balls_cover" (spBc K bcN)) : FnOk P w K mg base CX0 6 f fd ["state", "handed"] (spC K C 10) := by
  refine F.ok sc10 (fun vs H Q E h => spC_len h) (fun cdv A outer_ s H vs Q E hr h => ?_)
  obtain ⟨p, q, hh, st, xs, rfl, hst, hS, fine, kk⟩ := h
  obtain ⟨a, r, rfl, rfl, hra⟩ := fine.r (by decide) rfl rfl
  refine ⟨_, pss_one (ps_ret (pe_lst (pa_cons (pe_ifExp (pt_val (pe_k cB hr (by decide) rfl (pa_cons (pe_fld (pv 0) rfl) (pa_cons (pe_fld (pv 0) rfl) (pa_cons (pe_ix ix_list (pv 1) pe_int (fun _ _ => rfl)) pa_nil))))) pe_int pe_int) pa_nil))), ?_⟩
  have hst' := hst
  obtain ⟨⟨dx, hp, hq⟩, h1, h6, hc⟩ := hst
  refine s_retL (el_lst (ea_cons (ev_10 (et_B (ev_call (ea_cons (ev_bits T (ev_var rfl) hp) (ea_cons (ev_there T (ev_var rfl) hp) (ea_cons (ev_at0 (ev_var rfl) hS) ea_nil))) (bcV h6 (ws_a hq h6 hc))))) ea_nil) le1) fun l H2 nl e2 h2 => ?_
  refine look_end (stp10 hra) hst' kk e2 nl ?_
  rw [h2, bc_eq h6 hc]
  rfl
theorem sc11 : FnScope ["state", "handed"] ["state", "handed"] (defScope sC11) := ⟨rfl, rfl, rfl, by decide +kernel, rfl, by decide +kernel, by decide +kernel⟩
theorem ok11 {f : Addr} {fd : FuncData} (F : Fun K "apart" "apart" sC11 f fd) (T : Txt K C) (cB : Cl P w K mg base 5 "balls_apart" (spBc K baN)) : FnOk P w K mg base CX0 6 f fd ["state", "handed"] (spC K C 11) := by
  refine F.ok sc11 (fun vs H Q E h => spC_len h) (fun cdv A outer_ s H vs Q E hr h => ?_)
  obtain ⟨p, q, hh, st, xs, rfl, hst, hS, fine, kk⟩ := h
  obtain ⟨a, r, rfl, rfl, hra⟩ := fine.r (by decide) rfl rfl
  refine ⟨_, pss_one (ps_ret (pe_lst (pa_cons (pe_ifExp (pt_val (pe_k cB hr (by decide) rfl (pa_cons (pe_fld (pv 0) rfl) (pa_cons (pe_fld (pv 0) rfl) (pa_cons (pe_ix ix_list (pv 1) pe_int (fun _ _ => rfl)) pa_nil))))) pe_int pe_int) pa_nil))), ?_⟩
  have hst' := hst
  obtain ⟨⟨dx, hp, hq⟩, h1, h6, hc⟩ := hst
  refine s_retL (el_lst (ea_cons (ev_10 (et_B (ev_call (ea_cons (ev_bits T (ev_var rfl) hp) (ea_cons (ev_there T (ev_var rfl) hp) (ea_cons (ev_at0 (ev_var rfl) hS) ea_nil))) (bcV h6 (ws_a hq h6 hc))))) ea_nil) le1) fun l H2 nl e2 h2 => ?_
  refine look_end (stp11 hra) hst' kk e2 nl ?_
  rw [h2, ba_eq h6 hc]
  rfl
end
end BC

namespace BC
open PySem PySem.Spec PyProof.Rows L2 Evl
/-! ### the defs' values are the specification's -/
theorem wn_eq {a : Kh409.Abs} (hn : a.n ≤ 6) (hc : Canon a.n a.c) (r m : Nat) : wnN a.n a.c r m = (Kh407.words a.n).filter fun x => Kh409.hits a r x == m := by
  unfold wnN Kh407.words
  refine List.filter_congr fun x hx => ?_
  have e : hcN a.c r x = Kh409.hits a r x := hits_eq hn hc (List.mem_range.mp hx)
  rw [e]
  rfl
theorem nw_eq {a : Kh409.Abs} {r : Nat} (hn : a.n ≤ 6) (hc : Canon a.n a.c) (cov : Kh409.covers a r = true) : nwN a.n a.c r = a.c.filter fun y => !Kh409.covers ⟨a.n, a.c.erase y⟩ r := by
  unfold nwN
  exact List.filter_congr fun y hy => (needed_eq hn hc cov hy).symm
theorem nw_len {n r : Nat} {c : List Nat} : (nwN n c r).length ≤ c.length := List.length_filter_le _ _
theorem min_ex (g : Nat → Nat) : ∀ c : List Nat, c ≠ [] → ∃ d, (∃ y ∈ c, g y = d) ∧ ∀ y ∈ c, d ≤ g y
  | [], h => absurd rfl h
  | [x], _ => ⟨g x, ⟨x, List.mem_cons_self .., rfl⟩, fun y hy => by rw [List.mem_singleton.mp hy]; exact Nat.le_refl _⟩
  | x :: z :: c, _ => by
    obtain ⟨d, ⟨y, hy, e⟩, h2⟩ := min_ex g (z :: c) (by simp)
    by_cases k : g x ≤ d
    · refine ⟨g x, ⟨x, List.mem_cons_self .., rfl⟩, fun y hy => ?_⟩
      rcases List.mem_cons.mp hy with q | q
      · rw [q]; exact Nat.le_refl _
      · exact Nat.le_trans k (h2 y q)
    · refine ⟨d, ⟨y, List.mem_cons_of_mem _ hy, e⟩, fun y hy => ?_⟩
      rcases List.mem_cons.mp hy with q | q
      · rw [q]; omega
      · exact h2 y q
theorem ne_eq {a : Kh409.Abs} {x d : Nat} (hn : a.n ≤ 6) (hc : Canon a.n a.c) (hx : x < 2 ^ a.n) (h1 : ∃ y ∈ a.c, wt (y ^^^ x) = d) (h2 : ∀ y ∈ a.c, d ≤ wt (y ^^^ x)) : Kh409.nearest a x = neN a.c x d := by
  have de : ∀ y ∈ a.c, Kh407.dist a.n x y = wt (y ^^^ x) := fun y hy => by rw [dist_eq hn hx (hc.lt y hy), Nat.xor_comm]
  obtain ⟨y, hy, e⟩ := h1
  have hd : d ≤ a.n := by
    rw [← e]
    exact wt_all_le a.n (by omega) _ (xor_lt (hc.lt y hy) hx)
  rw [nearest_is hd ⟨y, hy, (de y hy).trans e⟩ fun z hz => by rw [de z hz]; exact h2 z hz]
  unfold neN
  refine List.filter_congr fun z hz => ?_
  rw [de z hz]
  rfl
def evN (gs : List Nat) : Bool := gs.all fun k => k == gs.headD 0
theorem hs_head {a : Kh409.Abs} (hn : a.n ≤ 6) (hc : Canon a.n a.c) (r : Nat) : (hsN a.n a.c r).headD 0 = Kh409.hits a r 0 ∧ (hsN a.n a.c r)[0]? = some (Kh409.hits a r 0) := by
  rw [hs_eq hn hc, range_pos (two_pos a.n)]
  exact ⟨rfl, rfl⟩
theorem ev_eq {a : Kh409.Abs} (hn : a.n ≤ 6) (hc : Canon a.n a.c) (r : Nat) : Kh409.evenly a r = if evN (hsN a.n a.c r) = true then some (Kh409.hits a r 0) else none := by
  have e : evN (hsN a.n a.c r) = (Kh407.words a.n).all fun x => Kh409.hits a r x == Kh409.hits a r 0 := by
    unfold evN
    rw [(hs_head hn hc r).1, hs_eq hn hc, List.all_map]
    rfl
  rw [e]
  rfl
section
variable {P : Program} {w : World} {K : PySem.W.Frag} {mg : Str → Option Value} {base : Heap} {C : Addr}
theorem le2 {v u : V} : [v, u].length ≤ 100000 := by
  show 2 ≤ 100000
  decide
theorem le3 {v u t : V} : [v, u, t].length ≤ 100000 := by
  show 3 ≤ 100000
  decide
/-! ### fills -/
theorem sc12 : FnScope ["state", "handed"] ["state", "handed"] (defScope sC12) := ⟨rfl, rfl, rfl, by decide +kernel, rfl, by decide +kernel, by decide +kernel⟩
theorem ok12 {f : Addr} {fd : FuncData} (F : Fun K "fills" "fills" sC12 f fd) (T : Txt K C) (cB : Cl P w K mg base 6 "balls_fill" (spBc K bfN)) : FnOk P w K mg base CX0 7 f fd ["state", "handed"] (spC K C 12) := by
  refine F.ok sc12 (fun vs H Q E h => spC_len h) (fun cdv A outer_ s H vs Q E hr h => ?_)
  obtain ⟨p, q, hh, st, xs, rfl, hst, hS, fine, kk⟩ := h
  obtain ⟨a, r, rfl, rfl, hra⟩ := fine.r (by decide) rfl rfl
  refine ⟨_, pss_one (ps_ret (pe_lst (pa_cons (pe_ifExp (pt_val (pe_k cB hr (by decide) rfl (pa_cons (pe_fld (pv 0) rfl) (pa_cons (pe_fld (pv 0) rfl) (pa_cons (pe_ix ix_list (pv 1) pe_int (fun _ _ => rfl)) pa_nil))))) pe_int pe_int) pa_nil))), ?_⟩
  have hst' := hst
  obtain ⟨⟨dx, hp, hq⟩, h1, h6, hc⟩ := hst
  refine s_retL (el_lst (ea_cons (ev_10 (et_B (ev_call (ea_cons (ev_bits T (ev_var rfl) hp) (ea_cons (ev_there T (ev_var rfl) hp) (ea_cons (ev_at0 (ev_var rfl) hS) ea_nil))) (bcV h6 (ws_a hq h6 hc))))) ea_nil) le1) fun l H2 nl e2 h2 => ?_
  refine look_end (stp12 hra) hst' kk e2 nl ?_
  rw [h2]
  unfold bfN
  rw [bc_eq h6 hc, ba_eq h6 hc]
  rfl
/-! ### evenly -/
theorem ev_mm {σ : L2.St} {H : Hp} {p : Addr} {gs : List Nat} {i : Nat} (hi : σ[i]? = some (some (.ref p))) (h : SqL K H p (vl gs)) (h0 : 0 < gs.length) :
    Ev (tOp rNe (tCB (rMin K) (tCons (tVar i) tNil)) (tCB (rMax K) (tCons (tVar i) tNil))) σ H (.bl (!evN gs)) := fun H1 e Q q => by
  refine ⟨_, hi, p, zs gs, rfl, ex_l e h, by rw [ints_len]; exact h0, fun m hm hle => ⟨_, hi, p, zs gs, rfl, ex_l e h, by rw [ints_len]; exact h0, fun M hM hge => ⟨rfl, ?_⟩⟩⟩
  obtain ⟨km, hkm, rfl⟩ := mem_ints.mp hm
  obtain ⟨kM, hkM, rfl⟩ := mem_ints.mp hM
  have le1 : ∀ k ∈ gs, km ≤ k := fun k hk => by
    have := hle k (mem_ints.mpr ⟨k, hk, rfl⟩)
    omega
  have le2 : ∀ k ∈ gs, k ≤ kM := fun k hk => by
    have := hge k (mem_ints.mpr ⟨k, hk, rfl⟩)
    omega
  have hd : gs.headD 0 ∈ gs := by
    cases gs with
    | nil => exact absurd h0 (Nat.lt_irrefl _)
    | cons x l => exact List.mem_cons_self ..
  have e2 : decide (V.int (km : Int) = V.int (kM : Int)) = evN gs := by
    rw [dec_nat, Bool.eq_iff_iff, decide_eq_true_eq]
    unfold evN
    rw [List.all_eq_true]
    constructor
    · intro z k hk
      have a1 := le1 k hk
      have a2 := le2 k hk
      have a3 := le1 _ hd
      have a4 := le2 _ hd
      rw [beq_iff_eq]
      omega
    · intro z
      have a1 := beq_iff_eq.mp (z km hkm)
      have a2 := beq_iff_eq.mp (z kM hkM)
      omega
  rw [e2]
  exact q H1 (Ex.refl H1)
theorem sc13 : FnScope ["state", "handed", "counts"] ["state", "handed"] (defScope sC13) := ⟨rfl, rfl, rfl, by decide +kernel, rfl, by decide +kernel, by decide +kernel⟩
theorem ok13 {f : Addr} {fd : FuncData} (F : Fun K "evenly" "evenly" sC13 f fd) (T : Txt K C) (B : Bt mg) (cH : Cl P w K mg base 4 "hit_counts" (spHs K)) : FnOk P w K mg base CX0 5 f fd ["state", "handed"] (spC K C 13) := by
  refine F.ok sc13 (fun vs H Q E h => spC_len h) (fun cdv A outer_ s H vs Q E hr h => ?_)
  obtain ⟨p, q, hh, st, xs, rfl, hst, hS, fine, kk⟩ := h
  obtain ⟨a, r, rfl, rfl, hra⟩ := fine.r (by decide) rfl rfl
  refine ⟨_, pss_cons (ps_set (i := 2) sc13.nd rfl (Or.inl rfl) (pe_k cH hr (by decide) rfl (pa_cons (pe_fld (pv 0) rfl) (pa_cons (pe_fld (pv 0) rfl) (pa_cons (pe_ix ix_list (pv 1) pe_int (fun _ _ => rfl)) pa_nil)))))
    (pss_cons (ps_if (pt_cmpR op_ne (pe_callB (cr_min rfl) (by rfl) B.min (by decide +kernel) (pa_cons (pv 2) pa_nil)) (pe_callB (cr_max rfl) (by rfl) B.max (by decide +kernel) (pa_cons (pv 2) pa_nil)) (nomark _)) (pss_one (ps_ret (pe_lst (pa_cons (pe_un un_neg pe_int) pa_nil)))) pss_nil)
    (pss_one (ps_ret (pe_lst (pa_cons (pe_ix ix_list (pv 2) pe_int (fun _ _ => rfl)) pa_nil))))), ?_⟩
  have hst' := hst
  obtain ⟨⟨dx, hp, hq⟩, h1, h6, hc⟩ := hst
  refine q_asgL (el_call (ea_cons (ev_bits T (ev_var rfl) hp) (ea_cons (ev_there T (ev_var rfl) hp) (ea_cons (ev_at0 (ev_var rfl) hS) ea_nil))) (hsV h6 (ws_a hq h6 hc))) fun pc H1 np e1 hpc => ?_
  refine q_when (et_test (ev_mm rfl (sq_of hpc) (by rw [hsN_len]; exact two_pos _))) (fun hb H2 e2 => ?_) (fun hb H2 e2 => ?_)
  · refine s_retL (el_lst (ea_cons (ev_un ev_c ru_neg) ea_nil) le1) fun l H3 nl e3 h3 => ?_
    refine look_end (stp13_not hra ?_) hst' kk ((e1.trans e2).trans e3) (fresh_back (e1.trans e2) nl) h3
    rw [ev_eq h6 hc, if_neg]
    intro z
    rw [z] at hb
    cases hb
  · refine s_retL (el_lst (ea_cons (ev_at (i := 0) (ev_var rfl) (sq_of (e2 _ _ hpc)) (hs_head h6 hc r).2) ea_nil) le1) fun l H3 nl e3 h3 => ?_
    refine look_end (stp13_so hra ?_) hst' kk ((e1.trans e2).trans e3) (fresh_back (e1.trans e2) nl) h3
    rw [ev_eq h6 hc, if_pos]
    cases z : evN (hsN a.n a.c r) with
    | true => rfl
    | false => rw [z] at hb; cases hb
/-! ### round -/
theorem sc14 : FnScope ["state", "handed"] ["state", "handed"] (defScope sC14) := ⟨rfl, rfl, rfl, by decide +kernel, rfl, by decide +kernel, by decide +kernel⟩
theorem ok14 {f : Addr} {fd : FuncData} (F : Fun K "round_of" "round_of" sC14 f fd) (T : Txt K C) (cR : Cl P w K mg base 4 "round_sum" spRs) : FnOk P w K mg base CX0 5 f fd ["state", "handed"] (spC K C 14) := by
  refine F.ok sc14 (fun vs H Q E h => spC_len h) (fun cdv A outer_ s H vs Q E hr h => ?_)
  obtain ⟨p, q, hh, st, xs, rfl, hst, hS, fine, kk⟩ := h
  obtain ⟨a, r, i, rfl, rfl, hra, hia⟩ := fine.ri
  refine ⟨_, pss_one (ps_ret (pe_lst (pa_cons pe_int (pa_cons (pe_k cR hr (by decide) rfl (pa_cons (pe_fld (pv 0) rfl) (pa_cons (pe_ix ix_list (pv 1) pe_int (fun _ _ => rfl)) (pa_cons (pe_ix ix_list (pv 1) pe_int (fun _ _ => rfl)) pa_nil)))) pa_nil)))), ?_⟩
  have hst' := hst
  obtain ⟨⟨dx, hp, hq⟩, h1, h6, hc⟩ := hst
  refine s_retL (el_lst (ea_cons ev_c (ea_cons (ev_call (ea_cons (ev_bits T (ev_var rfl) hp) (ea_cons (ev_at0 (ev_var rfl) hS) (ea_cons (ev_at1 (ev_var rfl) hS) ea_nil))) (rsV h6 (by omega) (by omega))) ea_nil)) le2) fun l H2 nl e2 h2 => ?_
  refine look_end (stp14 hra hia) hst' kk e2 nl ?_
  rw [h2, rs_eq h6 hra hia]
  rfl
/-! ### zeros, in_the_way -/
theorem sc15 : FnScope ["state", "handed"] ["state", "handed"] (defScope sC15) := ⟨rfl, rfl, rfl, by decide +kernel, rfl, by decide +kernel, by decide +kernel⟩
theorem ok15 {f : Addr} {fd : FuncData} (F : Fun K "zeros" "zeros" sC15 f fd) (T : Txt K C) (cC : Cl P w K mg base 1 "counted" spCt) (cR : Cl P w K mg base 5 "round_zeros" spRz) : FnOk P w K mg base CX0 6 f fd ["state", "handed"] (spC K C 15) := by
  refine F.ok sc15 (fun vs H Q E h => spC_len h) (fun cdv A outer_ s H vs Q E hr h => ?_)
  obtain ⟨p, q, hh, st, xs, rfl, hst, hS, fine, kk⟩ := h
  obtain ⟨a, r, rfl, rfl, hra⟩ := fine.r (by decide) rfl rfl
  refine ⟨_, pss_one (ps_ret (pe_k cC hr (by decide) rfl (pa_cons (pe_k cR hr (by decide) rfl (pa_cons (pe_fld (pv 0) rfl) (pa_cons (pe_ix ix_list (pv 1) pe_int (fun _ _ => rfl)) pa_nil))) pa_nil))), ?_⟩
  have hst' := hst
  obtain ⟨⟨dx, hp, hq⟩, h1, h6, hc⟩ := hst
  have hl := rz_len (n := a.n) (r := r)
  refine s_retL (el_ct (el_call (ea_cons (ev_bits T (ev_var rfl) hp) (ea_cons (ev_at0 (ev_var rfl) hS) ea_nil)) (rzV h6 (by omega))) (by rw [vl_len]; omega)) fun l H2 nl e2 h2 => ?_
  refine look_end (stp15 hra) hst' kk e2 nl ?_
  rw [h2, vl_len, rz_eq h6 hra]
  rfl
theorem sc16 : FnScope ["state", "handed"] ["state", "handed"] (defScope sC16) := ⟨rfl, rfl, rfl, by decide +kernel, rfl, by decide +kernel, by decide +kernel⟩
theorem ok16 {f : Addr} {fd : FuncData} (F : Fun K "in_the_way" "in_the_way" sC16 f fd) (T : Txt K C) (cC : Cl P w K mg base 1 "counted" spCt) (cR : Cl P w K mg base 5 "places_in_the_way" (spPw K)) : FnOk P w K mg base CX0 6 f fd ["state", "handed"] (spC K C 16) := by
  refine F.ok sc16 (fun vs H Q E h => spC_len h) (fun cdv A outer_ s H vs Q E hr h => ?_)
  obtain ⟨p, q, hh, st, xs, rfl, hst, hS, fine, kk⟩ := h
  obtain ⟨a, r, rfl, rfl, hra⟩ := fine.r (by decide) rfl rfl
  refine ⟨_, pss_one (ps_ret (pe_k cC hr (by decide) rfl (pa_cons (pe_k cR hr (by decide) rfl (pa_cons (pe_fld (pv 0) rfl) (pa_cons (pe_fld (pv 0) rfl) (pa_cons (pe_ix ix_list (pv 1) pe_int (fun _ _ => rfl)) pa_nil)))) pa_nil))), ?_⟩
  have hst' := hst
  obtain ⟨⟨dx, hp, hq⟩, h1, h6, hc⟩ := hst
  have hl := it_len (n := a.n) (c := a.c) (r := r)
  have h64 := pow_le h6
  refine s_retL (el_ct (el_call (ea_cons (ev_bits T (ev_var rfl) hp) (ea_cons (ev_there T (ev_var rfl) hp) (ea_cons (ev_at0 (ev_var rfl) hS) ea_nil))) (pwV h6 (by omega) (ws_a hq h6 hc))) (by rw [vl_len]; omega)) fun l H2 nl e2 h2 => ?_
  refine look_end (stp16 hra) hst' kk e2 nl ?_
  rw [h2, vl_len, it_eq h6 hra hc]
  rfl
/-! ### radius, reach -/
theorem ev_eq0 {ta tb : TE} {σ : L2.St} {H : Hp} {p : Addr} {c : List Nat} (ha : Ev ta σ H (.ref p)) (hb : EvL tb σ H []) (h1 : SqL K H p (vl c)) : Ev (tOp (rEqD K) ta tb) σ H (.bl (decide (c = []))) := fun H1 e Q k =>
  ha H1 e _ fun H2 e2 => hb H2 (e.trans e2) _ fun l H3 _ e3 h3 => by
    refine ⟨_, _, .lst (ex_l ((e.trans e2).trans e3) h1) (dp_all _), .lst (sq_of h3) (dp_all []), PySem.W.shaped_ints _, PySem.W.shaped_ints _, ?_⟩
    show Q (.bl (PyData.eqvAll ((zs c).map PyData.int) ((zs []).map PyData.int))) H3
    rw [eqv_zs]
    exact k H3 (e2.trans e3)
theorem sc17 : FnScope ["state", "handed"] ["state", "handed"] (defScope sC17) := ⟨rfl, rfl, rfl, by decide +kernel, rfl, by decide +kernel, by decide +kernel⟩
theorem ok17 {f : Addr} {fd : FuncData} (F : Fun K "radius" "radius" sC17 f fd) (T : Txt K C) (cR : Cl P w K mg base 6 "covering_radius" (spCr K)) : FnOk P w K mg base CX0 7 f fd ["state", "handed"] (spC K C 17) := by
  refine F.ok sc17 (fun vs H Q E h => spC_len h) (fun cdv A outer_ s H vs Q E hr h => ?_)
  obtain ⟨p, q, hh, st, xs, rfl, hst, hS, fine, kk⟩ := h
  obtain ⟨a, rfl, rfl⟩ := fine.e (by decide) rfl
  refine ⟨_, pss_cons (ps_if (pt_cmpR (op_eqD hr.units) (pe_fld (pv 0) rfl) (pe_lst pa_nil) (nomark _)) (pss_one (ps_ret (pe_lst (pa_cons (pe_un un_neg pe_int) pa_nil)))) pss_nil)
    (pss_one (ps_ret (pe_lst (pa_cons (pe_k cR hr (by decide) rfl (pa_cons (pe_fld (pv 0) rfl) (pa_cons (pe_fld (pv 0) rfl) pa_nil))) pa_nil)))), ?_⟩
  have hst' := hst
  obtain ⟨⟨dx, hp, hq⟩, h1, h6, hc⟩ := hst
  refine q_when (et_test (ev_eq0 (ev_there T (ev_var rfl) hp) (el_lst ea_nil (Nat.zero_le _)) (sq_of hq))) (fun hb H1 e1 => ?_) (fun hb H1 e1 => ?_)
  · refine s_retL (el_lst (ea_cons (ev_un ev_c ru_neg) ea_nil) le1) fun l H2 nl e2 h2 => ?_
    refine look_end (stp17_none ?_) hst' kk (e1.trans e2) (fresh_back e1 nl) h2
    obtain ⟨n, c⟩ := a
    have hb : c = [] := decide_eq_true_eq.mp hb
    subst hb
    exact find_none fun j _ => covers_nil
  · obtain ⟨R, f1, f2, f3⟩ := radius_ex h6 hc (decide_eq_false_iff_not.mp hb)
    refine s_retL (el_lst (ea_cons (ev_call (ea_cons (ev_bits T (ev_var rfl) (e1 _ _ hp)) (ea_cons (ev_there T (ev_var rfl) (e1 _ _ hp)) ea_nil)) (crV (R := R) h6 (ws_a (e1 _ _ hq) h6 hc) (by rw [bc_eq h6 hc]; exact f2) (fun j hj => by rw [bc_eq h6 hc]; exact f3 j hj))) ea_nil) le1) fun l H2 nl e2 h2 => ?_
    exact look_end (stp17_some f1) hst' kk (e1.trans e2) (fresh_back e1 nl) h2
theorem sc18 : FnScope ["state", "handed"] ["state", "handed"] (defScope sC18) := ⟨rfl, rfl, rfl, by decide +kernel, rfl, by decide +kernel, by decide +kernel⟩
theorem ok18 {f : Addr} {fd : FuncData} (F : Fun K "reach" "reach" sC18 f fd) (T : Txt K C) (cR : Cl P w K mg base 6 "apart_reach" (spAr K)) : FnOk P w K mg base CX0 7 f fd ["state", "handed"] (spC K C 18) := by
  refine F.ok sc18 (fun vs H Q E h => spC_len h) (fun cdv A outer_ s H vs Q E hr h => ?_)
  obtain ⟨p, q, hh, st, xs, rfl, hst, hS, fine, kk⟩ := h
  obtain ⟨a, rfl, rfl⟩ := fine.e (by decide) rfl
  refine ⟨_, pss_one (ps_ret (pe_lst (pa_cons (pe_k cR hr (by decide) rfl (pa_cons (pe_fld (pv 0) rfl) (pa_cons (pe_fld (pv 0) rfl) pa_nil))) pa_nil))), ?_⟩
  have hst' := hst
  obtain ⟨⟨dx, hp, hq⟩, h1, h6, hc⟩ := hst
  obtain ⟨R, f1, f2, f3, f4⟩ := reach_ex h6 hc
  refine s_retL (el_lst (ea_cons (ev_call (ea_cons (ev_bits T (ev_var rfl) hp) (ea_cons (ev_there T (ev_var rfl) hp) ea_nil)) (arV (R := R) h6 (ws_a hq h6 hc) f1 (fun j hj => by rw [ba_eq h6 hc]; exact f2 j hj) (fun hR => by rw [ba_eq h6 hc]; exact f3 hR))) ea_nil) le1) fun l H2 nl e2 h2 => ?_
  exact look_end (stp18_some f4) hst' kk e2 nl h2
/-! ### uncovered -/
theorem sc19 : FnScope ["state", "handed"] ["state", "handed"] (defScope sC19) := ⟨rfl, rfl, rfl, by decide +kernel, rfl, by decide +kernel, by decide +kernel⟩
theorem ok19 {f : Addr} {fd : FuncData} (F : Fun K "uncovered" "uncovered" sC19 f fd) (T : Txt K C) (cC : Cl P w K mg base 1 "counted" spCt) (cN : Cl P w K mg base 5 "words_hit" (spWn K)) : FnOk P w K mg base CX0 6 f fd ["state", "handed"] (spC K C 19) := by
  refine F.ok sc19 (fun vs H Q E h => spC_len h) (fun cdv A outer_ s H vs Q E hr h => ?_)
  obtain ⟨p, q, hh, st, xs, rfl, hst, hS, fine, kk⟩ := h
  obtain ⟨a, r, rfl, rfl, hra⟩ := fine.r (by decide) rfl rfl
  refine ⟨_, pss_one (ps_ret (pe_k cC hr (by decide) rfl (pa_cons (pe_k cN hr (by decide) rfl (pa_cons (pe_fld (pv 0) rfl) (pa_cons (pe_fld (pv 0) rfl) (pa_cons (pe_ix ix_list (pv 1) pe_int (fun _ _ => rfl)) (pa_cons pe_int pa_nil))))) pa_nil))), ?_⟩
  have hst' := hst
  obtain ⟨⟨dx, hp, hq⟩, h1, h6, hc⟩ := hst
  have hl := wnN_len (c := a.c) (r := r) (m := 0) h6
  refine s_retL (el_ct (el_call (ea_cons (ev_bits T (ev_var rfl) hp) (ea_cons (ev_there T (ev_var rfl) hp) (ea_cons (ev_at0 (ev_var rfl) hS) (ea_cons (ev_is ev_c (w := .int ((0 : Nat) : Int)) rfl) ea_nil)))) (wnV (m := 0) h6 (ws_a hq h6 hc))) (by rw [vl_len]; omega)) fun l H2 nl e2 h2 => ?_
  refine look_end (stp19 hra) hst' kk e2 nl ?_
  rw [h2, vl_len, wn_eq h6 hc]
  rfl
/-! ### mend -/
theorem sc20 : FnScope ["state", "handed", "near"] ["state", "handed"] (defScope sC20) := ⟨rfl, rfl, rfl, by decide +kernel, rfl, by decide +kernel, by decide +kernel⟩
theorem ok20 {f : Addr} {fd : FuncData} (F : Fun K "mend" "mend" sC20 f fd) (T : Txt K C) (B : Bt mg) (cN : Cl P w K mg base 3 "nearest_words" (spNe K)) (cD : Cl P w K mg base 2 "distance" spDi) : FnOk P w K mg base CX0 4 f fd ["state", "handed"] (spC K C 20) := by
  refine F.ok sc20 (fun vs H Q E h => spC_len h) (fun cdv A outer_ s H vs Q E hr h => ?_)
  obtain ⟨p, q, hh, st, xs, rfl, hst, hS, fine, kk⟩ := h
  obtain ⟨a, x, rfl, rfl, hx⟩ := fine.x (by decide) rfl rfl
  refine ⟨_, pss_cons (ps_if (pt_cmpR (op_eqD hr.units) (pe_fld (pv 0) rfl) (pe_lst pa_nil) (nomark _)) (pss_one (ps_ret (pe_lst (pa_cons (pe_un un_neg pe_int) pa_nil)))) pss_nil)
    (pss_cons (ps_set (i := 2) sc20.nd rfl (Or.inl rfl) (pe_k cN hr (by decide) rfl (pa_cons (pe_fld (pv 0) rfl) (pa_cons (pe_ix ix_list (pv 1) pe_int (fun _ _ => rfl)) pa_nil))))
    (pss_one (ps_ret (pe_lst (pa_cons (pe_ix ix_list (pv 2) pe_int (fun _ _ => rfl)) (pa_cons (pe_k cD hr (by decide) rfl (pa_cons (pe_ix ix_list (pv 2) pe_int (fun _ _ => rfl)) (pa_cons (pe_ix ix_list (pv 1) pe_int (fun _ _ => rfl)) pa_nil)))
      (pa_cons (pe_callB call_len_seq (by rfl) B.len PySem.boot_len (pa_cons (pv 2) pa_nil)) pa_nil))))))), ?_⟩
  have hst' := hst
  obtain ⟨⟨dx, hp, hq⟩, h1, h6, hc⟩ := hst
  have h64 := pow_le h6
  refine q_when (et_test (ev_eq0 (ev_there T (ev_var rfl) hp) (el_lst ea_nil (Nat.zero_le _)) (sq_of hq))) (fun hb H1 e1 => ?_) (fun hb H1 e1 => ?_)
  · refine s_retL (el_lst (ea_cons (ev_un ev_c ru_neg) ea_nil) le1) fun l H2 nl e2 h2 => ?_
    refine look_end (stp20_none hx ?_) hst' kk (e1.trans e2) (fresh_back e1 nl) h2
    obtain ⟨n, c⟩ := a
    have hb : c = [] := decide_eq_true_eq.mp hb
    subst hb
    exact nearest_nil
  · obtain ⟨d, d1, d2⟩ := min_ex (fun y => wt (y ^^^ x)) a.c (decide_eq_false_iff_not.mp hb)
    have en := ne_eq h6 hc hx d1 d2
    have nn : ∃ y l, neN a.c x d = y :: l := by
      obtain ⟨y, hy, e⟩ := d1
      have m : y ∈ neN a.c x d := List.mem_filter.mpr ⟨hy, decide_eq_true e⟩
      cases z : neN a.c x d with
      | nil => rw [z] at m; cases m
      | cons y l => exact ⟨y, l, rfl⟩
    obtain ⟨y, l, hyl⟩ := nn
    have my : y ∈ neN a.c x d := by
      rw [hyl]
      exact List.mem_cons_self ..
    have hy2 := hc.lt y (List.mem_filter.mp my).1
    refine q_asgL (el_call (ea_cons (ev_there T (ev_var rfl) (e1 _ _ hp)) (ea_cons (ev_at0 (ev_var rfl) (ex_l e1 hS)) ea_nil)) (neV (d := d) (ws_a (e1 _ _ hq) h6 hc) (by omega) d1 d2)) fun pn H2 np e2 hpn => ?_
    rw [hyl] at hpn
    refine s_retL (el_lst (ea_cons (ev_at0 (ev_var rfl) (sq_of hpn)) (ea_cons (ev_call (ea_cons (ev_at0 (ev_var rfl) (sq_of hpn)) (ea_cons (ev_at0 (ev_var rfl) (ex_l (e1.trans e2) hS)) ea_nil)) (diV (by omega) (by omega))) (ea_cons (ev_len (ev_var rfl) (sq_of hpn)) ea_nil))) le3) fun l2 H3 nl e3 h3 => ?_
    rw [hyl] at en
    refine look_end (stp20_some hx en) hst' kk ((e1.trans e2).trans e3) (fresh_back (e1.trans e2) nl) ?_
    rw [h3, vl_len, dist_eq h6 hx hy2, Nat.xor_comm y x]
    rfl
/-! ### cover, needed, told -/
theorem sc21 : FnScope ["state", "handed"] ["state", "handed"] (defScope sC21) := ⟨rfl, rfl, rfl, by decide +kernel, rfl, by decide +kernel, by decide +kernel⟩
theorem ok21 {f : Addr} {fd : FuncData} (F : Fun K "cover" "cover" sC21 f fd) (T : Txt K C) (cC : Cl P w K mg base 1 "counted" spCt) (cG : Cl P w K mg base 4 "greedy_cover" spGc) : FnOk P w K mg base CX0 5 f fd ["state", "handed"] (spC K C 21) := by
  refine F.ok sc21 (fun vs H Q E h => spC_len h) (fun cdv A outer_ s H vs Q E hr h => ?_)
  obtain ⟨p, q, hh, st, xs, rfl, hst, hS, fine, kk⟩ := h
  obtain ⟨a, r, rfl, rfl, hra⟩ := fine.r (by decide) rfl rfl
  refine ⟨_, pss_one (ps_ret (pe_k cC hr (by decide) rfl (pa_cons (pe_k cG hr (by decide) rfl (pa_cons (pe_fld (pv 0) rfl) (pa_cons (pe_ix ix_list (pv 1) pe_int (fun _ _ => rfl)) pa_nil))) pa_nil))), ?_⟩
  have hst' := hst
  obtain ⟨⟨dx, hp, hq⟩, h1, h6, hc⟩ := hst
  have hl := cover_len a.n r (2 ^ a.n) (Kh407.words a.n)
  have h64 := pow_le h6
  refine s_retL (el_ct (el_call (ea_cons (ev_bits T (ev_var rfl) hp) (ea_cons (ev_at0 (ev_var rfl) hS) ea_nil)) (gcV h6)) (by rw [vl_len]; omega)) fun l H2 nl e2 h2 => ?_
  refine look_end (stp21 hra) hst' kk e2 nl ?_
  rw [h2, vl_len]
  rfl
theorem sc22 : FnScope ["state", "handed"] ["state", "handed"] (defScope sC22) := ⟨rfl, rfl, rfl, by decide +kernel, rfl, by decide +kernel, by decide +kernel⟩
theorem ok22 {f : Addr} {fd : FuncData} (F : Fun K "needed" "needed" sC22 f fd) (T : Txt K C) (cC : Cl P w K mg base 1 "counted" spCt) (cB : Cl P w K mg base 5 "balls_cover" (spBc K bcN)) (cN : Cl P w K mg base 6 "needed_words" (spNw K)) : FnOk P w K mg base CX0 7 f fd ["state", "handed"] (spC K C 22) := by
  refine F.ok sc22 (fun vs H Q E h => spC_len h) (fun cdv A outer_ s H vs Q E hr h => ?_)
  obtain ⟨p, q, hh, st, xs, rfl, hst, hS, fine, kk⟩ := h
  obtain ⟨a, r, rfl, rfl, hra⟩ := fine.r (by decide) rfl rfl
  refine ⟨_, pss_cons (ps_if (pt_not (pt_val (pe_k cB hr (by decide) rfl (pa_cons (pe_fld (pv 0) rfl) (pa_cons (pe_fld (pv 0) rfl) (pa_cons (pe_ix ix_list (pv 1) pe_int (fun _ _ => rfl)) pa_nil)))))) (pss_one (ps_ret (pe_lst (pa_cons (pe_un un_neg pe_int) pa_nil)))) pss_nil)
    (pss_one (ps_ret (pe_k cC hr (by decide) rfl (pa_cons (pe_k cN hr (by decide) rfl (pa_cons (pe_fld (pv 0) rfl) (pa_cons (pe_fld (pv 0) rfl) (pa_cons (pe_ix ix_list (pv 1) pe_int (fun _ _ => rfl)) pa_nil)))) pa_nil)))), ?_⟩
  have hst' := hst
  obtain ⟨⟨dx, hp, hq⟩, h1, h6, hc⟩ := hst
  refine q_when (et_not (et_B (ev_call (ea_cons (ev_bits T (ev_var rfl) hp) (ea_cons (ev_there T (ev_var rfl) hp) (ea_cons (ev_at0 (ev_var rfl) hS) ea_nil))) (bcV h6 (ws_a hq h6 hc))))) (fun hb H1 e1 => ?_) (fun hb H1 e1 => ?_)
  · refine s_retL (el_lst (ea_cons (ev_un ev_c ru_neg) ea_nil) le1) fun l H2 nl e2 h2 => ?_
    refine look_end (stp22_not hra ?_) hst' kk (e1.trans e2) (fresh_back e1 nl) h2
    rw [← bc_eq h6 hc]
    cases z : bcN a.n a.c r with
    | false => rfl
    | true => rw [z] at hb; cases hb
  · have cov : Kh409.covers a r = true := by
      rw [← bc_eq h6 hc]
      cases z : bcN a.n a.c r with
      | true => rfl
      | false => rw [z] at hb; cases hb
    have hl := hc.len64 h6
    have hl2 := nw_len (n := a.n) (r := r) (c := a.c)
    refine s_retL (el_ct (el_call (ea_cons (ev_bits T (ev_var rfl) (e1 _ _ hp)) (ea_cons (ev_there T (ev_var rfl) (e1 _ _ hp)) (ea_cons (ev_at0 (ev_var rfl) (ex_l e1 hS)) ea_nil))) (nwV h6 (ws_a (e1 _ _ hq) h6 hc))) (by rw [vl_len]; omega)) fun l H2 nl e2 h2 => ?_
    refine look_end (stp22_so hra cov) hst' kk (e1.trans e2) (fresh_back e1 nl) ?_
    rw [h2, vl_len, nw_eq h6 hc cov]
    rfl
theorem sc23 : FnScope ["state", "handed"] ["state", "handed"] (defScope sC23) := ⟨rfl, rfl, rfl, by decide +kernel, rfl, by decide +kernel, by decide +kernel⟩
theorem ok23 {f : Addr} {fd : FuncData} (F : Fun K "told" "told" sC23 f fd) (T : Txt K C) (B : Bt mg) : FnOk P w K mg base CX0 1 f fd ["state", "handed"] (spC K C 23) := by
  refine F.ok sc23 (fun vs H Q E h => spC_len h) (fun cdv A outer_ s H vs Q E hr h => ?_)
  obtain ⟨p, q, hh, st, xs, rfl, hst, hS, fine, kk⟩ := h
  obtain ⟨a, rfl, rfl⟩ := fine.e (by decide) rfl
  refine ⟨_, pss_one (ps_ret (pe_lst (pa_cons (pe_fld (pv 0) rfl) (pa_cons (pe_callB call_len_seq (by rfl) B.len PySem.boot_len (pa_cons (pe_fld (pv 0) rfl) pa_nil)) pa_nil)))), ?_⟩
  have hst' := hst
  obtain ⟨⟨dx, hp, hq⟩, h1, h6, hc⟩ := hst
  refine s_retL (el_lst (ea_cons (ev_bits T (ev_var rfl) hp) (ea_cons (ev_len (ev_there T (ev_var rfl) hp) (sq_of hq)) ea_nil)) le2) fun l H2 nl e2 h2 => ?_
  refine look_end stp23 hst' kk e2 nl ?_
  rw [h2, vl_len]
  rfl
end
end BC

/-! ### zip of a text and a list -/
namespace BC
open PySem PySem.Spec PyProof.Rows L2 Evl
/-- the text's signs and the items of the list at b, in new pairs -/
def ItX (K : PySem.W.Frag) (x : Str) (b : Addr) : It where
  go := fun i H => ∃ (ys : List V) (c : Nat) (y : V), SqL K H b ys ∧ x.cps[i]? = some c ∧ ys[i]? = some y
  yld := fun i H v H' => ∃ (T : Addr) (c : Nat) (y : V), v = .ref T ∧ H T = none ∧ H' = upd H T (.tup [.str ⟨#[c]⟩, y]) ∧ x.cps[i]? = some c ∧ ∀ ys, SqL K H b ys → ys[i]? = some y
  stop := fun i H => ∃ ys : List V, SqL K H b ys ∧ i ≤ x.cps.size ∧ i ≤ ys.length ∧ (i = x.cps.size ∨ i = ys.length)
/-- the five cells of the zip, where i turns are taken -/
structure ZX (x : Str) (t : Tok) (b z TI TO i1 i2 : Addr) (i : Nat) (h : Heap) : Prop where
  z : IsZip h z TI TO .none
  ti : IsTupOf2 h TI (.ref i1) (.ref i2)
  to_ : ∃ u v, IsTupOf2 h TO u v
  sx : h.IsStrIter i1 (strIterType x) x t i
  sl : h.IsListIter i2 b i
theorem sep_of {b z TI TO i1 i2 : Addr} (D : ZipApart z TI TO i1 i2 b b) : ZipSep2 z TI TO i1 i2 [i1] [i2, b] where
  TIz := D.TIz
  TOz := D.TOz
  TITO := D.TITO
  TIi1 := D.TIi1
  mem1 := by simp
  zf1 := by simpa using D.i1z.symm
  Tf1 := by simpa using D.TOi1
  TIi2 := D.TIi2
  mem2 := by simp
  zf2 := by simpa using ⟨D.i2z.symm, D.l2z.symm⟩
  Tf2 := by simpa using ⟨D.TOi2, D.l2TO.symm⟩
  sep1_2 := by simpa using ⟨D.i12, D.l2i1.symm⟩
  sep2_1 := by simpa using D.i12.symm
theorem five {c z TI TO i1 i2 : Addr} (h : c ∈ [z, TI, TO, i1, i2]) : c = z ∨ c = TI ∨ c = TO ∨ c = i1 ∨ c = i2 := by simpa using h
theorem turnX {P : Program} {w : World} {K : PySem.W.Frag} {elts : List Expr} {kk : Nat} {tpos : Pos} {x : Str} {t : Tok} {b z TI TO i1 i2 : Addr} (D : ZipApart z TI TO i1 i2 b b) :
    Turn P w K (.Tuple elts kk tpos) (ItX K x b) [z, TI, TO, i1, i2] z (ZX x t b z TI TO i1 i2) where
  mem := List.mem_cons_self ..
  obj := fun i h st c hc => by
    obtain ⟨hz, hTI, ⟨u, v, hTO⟩, ⟨o1, e1, -, d1⟩, ⟨o2, e2, -, d2⟩⟩ := st
    obtain q | q | q | q | q := five hc <;> subst q
    · exact ⟨_, hz, fun _ q => nomatch q⟩
    · exact ⟨_, hTI, fun _ q => nomatch q⟩
    · exact ⟨_, hTO, fun _ q => nomatch q⟩
    · exact ⟨o1, e1, fun _ q => nomatch d1.symm.trans q⟩
    · exact ⟨o2, e2, fun _ q => nomatch d2.symm.trans q⟩
  keep := fun i h h' st k => by
    obtain ⟨hz, hTI, ⟨u, v, hTO⟩, ⟨o1, e1, r1⟩, ⟨o2, e2, r2⟩⟩ := st
    exact ⟨k z (by simp) _ hz, k TI (by simp) _ hTI, ⟨u, v, k TO (by simp) _ hTO⟩, ⟨o1, k i1 (by simp) o1 e1, r1⟩, ⟨o2, k i2 (by simp) o2 e2, r2⟩⟩
  item := by
    intro X hP hw hK hc i pins s σ H E I hf st hg
    subst hP hw hK
    have hh : X.A.in1.handled = none := I.ok.hd hc
    obtain ⟨hz, hTI, ⟨u0, v0, hTO⟩, h1, h2⟩ := id st
    obtain ⟨ys, c, y, hqy, hcx, hy⟩ := hg
    obtain ⟨its, rv, pl, -⟩ := I.list hqy
    obtain ⟨u2, hu2, ru2⟩ := rv.get hy
    have zl : z < s.heap.objs.size := Heap.lt_size hz
    have n1 : i < x.cps.size := (Array.getElem?_eq_some_iff.mp hcx).1
    have n2 : i < its.toArray.size := by
      have a1 := (List.getElem?_eq_some_iff.mp hy).1
      have a2 := rv.length
      simp only [List.size_toArray]
      omega
    refine wpAny_pyNext_zipD2_item (sep_of D) (Draws.text hh i1 x t) (Draws.list hh i2 b D.l2i2 its.toArray) hz hTI hTO h1 ⟨h2, pl.isList⟩ n1 n2 fun x1 x2 h' tk p1 p2 z' TO' s1' s2' hT hsz hk => ?_
    obtain ⟨c1, tu, hc1, rfl⟩ := p1
    have ec : c1 = c := Option.some.inj (hc1.symm.trans hcx)
    subst ec
    have e2 : x2 = u2 := by
      have a1 : its[i]? = some x2 := by simpa using p2
      exact Option.some.inj (a1.symm.trans hu2)
    subst e2
    refine ⟨_, rfl, wpAny_letOwnedTupleGo_zip (s := { s with heap := h', toks := tk }) z' fun h'' z'' sb => ?_⟩
    have keepAll : ∀ d o, d ∉ [z, TI, TO, i1, i2] → s.heap.get? d = some o → h''.get? d = some o := fun d o hd q =>
      (sb.2 d fun q' => hd (by simp [q'])).trans (hk d o (fun q' => hd (by simp [q'])) (fun q' => hd (by simp [q'])) (fun q' => hd (by simp [q'])) (fun q' => hd (by simp [q'])) q)
    have hT2 : h''.get? s.heap.objs.size = some { cls := .type "tuple", data := .seq #[.str ⟨#[c1]⟩ tu, x2] } := (sb.2 _ (Nat.ne_of_gt zl)).trans hT
    have ok : ObjOk X.prog X.w (upd H s.heap.objs.size (.tup [.str ⟨#[c1]⟩, y])) h'' s.heap.objs.size (.tup [.str ⟨#[c1]⟩, y]) :=
      ⟨sz_of (n := 2) (by decide), [.str ⟨#[c1]⟩ tu, x2], .cons ⟨tu, rfl⟩ (.cons ru2 .nil), ⟨_, hT2, rfl, _, rfl⟩⟩
    have I1 := I.turnedNew (t' := tk) (h' := h'') keepAll hf (Nat.le_refl _) ok
    refine ⟨.ref s.heap.objs.size, _, I1, rfl, ⟨_, c1, y, rfl, I.hok.fresh (Nat.le_refl _), rfl, hcx, fun l hl => ?_⟩, ⟨z'', ?_, ⟨_, _, (sb.2 _ D.TOz).trans TO'⟩, ?_, ?_⟩, fun d hd => ?_⟩
    · rw [I.list_inj hl hqy]
      exact hy
    · exact (sb.2 _ D.TIz).trans (hk _ _ D.TIz D.TITO D.TIi1 D.TIi2 hTI)
    · obtain ⟨o, eo, r⟩ := s1'
      exact ⟨o, (sb.2 _ D.i1z).trans eo, r⟩
    · obtain ⟨o, eo, r⟩ := s2'.1
      exact ⟨o, (sb.2 _ D.i2z).trans eo, r⟩
    · have lt : d < s.heap.objs.size := by
        obtain ⟨o1, e1, -⟩ := h1
        obtain ⟨o2, e2, -⟩ := h2
        obtain q | q | q | q | q := five hd <;> subst q
        · exact zl
        · exact Heap.lt_size hTI
        · exact Heap.lt_size hTO
        · exact Heap.lt_size e1
        · exact Heap.lt_size e2
      rw [upd_ne (Nat.ne_of_lt lt)]
      exact (hf d hd).1
  done := by
    intro X hP hw hK hc i pins s σ H E I hf st hg
    subst hP hw hK
    have hh : X.A.in1.handled = none := I.ok.hd hc
    obtain ⟨hz, hTI, ⟨u0, v0, hTO⟩, h1, h2⟩ := st
    obtain ⟨ys, hqy, l1, l2, le⟩ := hg
    obtain ⟨its, rv, pl, -⟩ := I.list hqy
    have a2 := rv.length
    have sz : its.toArray.size = ys.length := by simp only [List.size_toArray]; omega
    refine wpAny_pyNext_zipD2_end (sep_of D) (Draws.text hh i1 x t) (Draws.list hh i2 b D.l2i2 its.toArray) hz hTI hTO h1 ⟨h2, pl.isList⟩ l1 (by omega) (by omega) fun h' tk hk => ⟨rfl, ?_⟩
    exact I.turnedL (t' := tk) (ch := [z, TI, TO, i1, i2]) (fun d o hd q => hk d o (fun q' => hd (by simp [q'])) (fun q' => hd (by simp [q'])) (fun q' => hd (by simp [q'])) (fun q' => hd (by simp [q'])) q) hf
  self := fun A i s Q E st h => wpAny_pyIter_zip st.z h
def iZipX (K : PySem.W.Frag) (ta : TA) : TI := fun σ H R => ta σ H fun vs H1 => ∃ (x : Str) (b : Addr) (ys : List V), vs = [.str x, .ref b] ∧ SqL K H1 b ys ∧ R (ItX K x b) H1
theorem pi_zipX {X : Cx} {e e2 : Expr} {ta : TA} {p pos tpos : Pos} {elts : List Expr} {kk : Nat} (hg : Gl X "zip") (hm : X.mg "zip" = none) (ha : PA X [e, e2] ta)
    (d1 : starEach [e, e2] X.env = (false, eval e X.env) :: starEach [e2] X.env := by rfl) (d2 : (backTo pos (starEach [e2] X.env)).any (·.1) = false := by rfl) :
    PI X (.Tuple elts kk tpos) (.Call (.Name "zip" p) [e, e2] [] pos) (iZipX X.K ta) := by
  refine ⟨fun pins s σ H R I h => Call_ (ld_blt I hg hm PyProof.Rows.boot_zip (PyProof.Rows.callWith_type1 (thn (ha.run pos pins s σ H _ I h) fun us s1 ⟨vs, H1, I1, r1, q1⟩ => ?_) d1 d2))⟩
  obtain ⟨x, b, ys, rfl, hqy, q⟩ := q1
  cases r1 with
  | cons r rr => cases rr with
    | cons r' rr =>
      cases rr
      cases r'
      obtain ⟨t, rfl⟩ := r
      obtain ⟨its, rv, pl, -⟩ := I1.list hqy
      refine zip_begins2 (begins_text x t) (begins_list b its.toArray) trivial pl.isList fun h' hz hTI hTO h1 h2 hsz hk => wpAny_pyIter_zip hz ?_
      refine ⟨s1.heap.objs.size + 4, [s1.heap.objs.size + 4, s1.heap.objs.size + 2, s1.heap.objs.size + 3, s1.heap.objs.size, s1.heap.objs.size + 1], _, _, H1, rfl, I1.kept (t' := s1.toks) hk, turnX (PySem.W.ktu_apart s1.heap.objs.size b b pl.lt pl.lt),
        ⟨hz, hTI, ⟨_, _, hTO⟩, ⟨_, h1, rfl, rfl⟩, ⟨_, h2, rfl, rfl⟩⟩, fun d hd => ?_, q⟩
      have le : s1.heap.objs.size ≤ d := by
        obtain z | z | z | z | z := five hd <;> subst z <;> omega
      exact I1.fpOk le (I1.hok.fresh le)
/-! ### a comprehension over it: which turns give, and what -/
theorem el_lcX {K : PySem.W.Frag} {σ : L2.St} {H : Hp} {ta : TA} {t : TT} {te : TE} {b : Addr} {x : Str} {ys : List V} {j k : Nat} {vs : List Nat} (f : Nat → Bool) (v : Nat → V) (h : EvA ta σ H [.str x, .ref b]) (hy : SqL K H b ys) (hl : x.cps.size = ys.length) (hz : ys.length ≤ 40000)
    (hw : ∀ u1 u2, wipe (((wipe σ vs).set j (some u1)).set k (some u2)) vs = wipe σ vs)
    (ht : ∀ (i c : Nat) (y : V) H1, Ex H H1 → x.cps[i]? = some c → ys[i]? = some y → EvT t (((wipe σ vs).set j (some (.str ⟨#[c]⟩))).set k (some y)) H1 (f i))
    (he : ∀ (i c : Nat) (y : V) H1, Ex H H1 → x.cps[i]? = some c → ys[i]? = some y → f i = true → Ev te (((wipe σ vs).set j (some (.str ⟨#[c]⟩))).set k (some y)) H1 (v i)) :
    EvL (tLc (iZipX K ta) (gTup K 2 (gCons (gName j) (gCons (gName k) gNil))) t te vs) σ H (given ys.length f v) := fun H0 e Q q => h H0 e _ fun H1 e1 => ⟨x, b, ys, rfl, ex_l (e.trans e1) hy, fun Dl hD => by
  refine ⟨fun i m H' => m = ys.length - i ∧ i ≤ ys.length ∧ Cw H1 f v Dl i H', ⟨ys.length, rfl, Nat.zero_le _, hD, Ex.new hD, upd_same⟩, ?_⟩
  rintro i m H' ⟨rfl, hi, p⟩
  have hy' : SqL K H' b ys := ex_l ((e.trans e1).trans p.2.1) hy
  by_cases lt : i < ys.length
  · refine .inr ⟨⟨ys, x.cps[i]'(by omega), ys[i], hy', by simp [show i < x.cps.size by omega], by simp [lt]⟩, Cw H1 f v Dl (i + 1), fun H'' p' => ⟨ys.length - (i + 1), by omega, rfl, lt, p'⟩, ?_⟩
    rintro u H'' ⟨T, c, y, rfl, nT, rfl, hc, hyy⟩
    have hyi := hyy ys hy'
    refine ⟨T, _, rfl, st_of upd_same, rfl, _, _, rfl, _, _, rfl, rfl, hw _ _, ?_⟩
    have neD : Dl ≠ T := fun z => by
      have := p.2.2
      rw [z, nT] at this
      cases this
    have p2 : Cw H1 f v Dl i (upd H' T (.tup [.str ⟨#[c]⟩, y])) := ⟨p.1, p.2.1.trans (Ex.new nT), by rw [upd_ne neD]; exact p.2.2⟩
    exact cw_turn p2 (by omega) (ht i c y H1 (e.trans e1) hc hyi) (fun hf => he i c y H1 (e.trans e1) hc hyi hf)
  · have ei : i = ys.length := by omega
    subst ei
    exact .inl ⟨⟨ys, hy', by omega, Nat.le_refl _, .inr rfl⟩, q Dl H' (fresh_back e1 p.1) (e1.trans p.2.1) p.2.2⟩⟩
end BC

namespace BC
open PySem PySem.Spec PyProof.Rows L2 Evl
abbrev sIw : Stmt := top 63
abbrev sAw : Stmt := top 64
abbrev sAn : Stmt := top 65
abbrev sAs : Stmt := top 66
/-- the texts of the table, by their codes -/
def txt (l : List Nat) : Str := ⟨l.toArray⟩
theorem ofS_b : (Str.ofString "b") = txt [98] := by decide +kernel
theorem ofS_x : (Str.ofString "x") = txt [120] := by decide +kernel
theorem txt_inj {a b : Nat} (h : txt [a] = txt [b]) : a = b := by
  unfold txt at h
  injection h with h
  injection h with h
  injection h with h
theorem dec_txt (l m : Nat) : decide (V.str (txt [l]) = V.str (txt [m])) = decide (l = m) := by
  by_cases h : l = m
  · subst h
    simp
  · have : ¬ V.str (txt [l]) = V.str (txt [m]) := fun z => h (txt_inj (by injection z))
    simp [h, this]
section
variable {P : Program} {w : World} {K : PySem.W.Frag} {mg : Str → Option Value} {base : Heap} {C : Addr}
/-! ### is_wrong -/
def spIw : Sp := fun vs H Q _ => ∃ n l v : Nat, vs = [.int (n : Int), .str (txt [l]), .int (v : Int)] ∧ n ≤ 6 ∧ RetV (.bl (wrong n l v)) H Q
theorem scIw : FnScope ["bits", "letter", "value"] ["bits", "letter", "value"] (defScope sIw) := ⟨rfl, rfl, rfl, by decide +kernel, rfl, by decide +kernel, by decide +kernel⟩
theorem okIw {f : Addr} {fd : FuncData} (F : Fun K "is_wrong" "is_wrong" sIw f fd) {t : Tok} (gM : mg "MOST_BITS" = some (.int 6 t)) (cW : Cl P w K mg base 1 "word_count" spWc) : FnOk P w K mg base CX0 2 f fd ["bits", "letter", "value"] spIw := by
  refine F.ok scIw (fun vs H Q E h => ?_) (fun cdv A outer_ s H vs Q E hr h => ?_)
  · obtain ⟨n, l, v, rfl, _⟩ := h
    rfl
  · obtain ⟨n, l, v, rfl, hn, q⟩ := h
    refine ⟨_, pss_cons (ps_if (pt_cmpR op_eq (pv 1) pe_str (nomark _)) (pss_one (ps_ret (pe_or (pe_cmpR op_lt (pv 2) pe_int (nomark _)) (pe_one (pe_cmpR op_gt (pv 2) (pe_glob (v := .int 6) rfl gM ⟨_, rfl⟩) (nomark _)))))) pss_nil)
      (pss_cons (ps_if (pt_cmpR op_eq (pv 1) pe_str (nomark _)) (pss_one (ps_ret (pe_cmpR op_ge (pv 2) (pe_k cW hr (by decide) rfl (pa_cons (pv 0) pa_nil)) (nomark _)))) pss_nil)
      (pss_one (ps_ret (pe_cmpR op_gt (pv 2) (pv 0) (nomark _))))), ?_⟩
    refine q_when (b := decide (l = 98)) (et_is (et_test (ev_op (ev_var rfl) ev_c (rv_eq rfl))) (by rw [ofS_b]; exact dec_txt l 98)) (fun hb H1 e1 => ?_) (fun hb H1 e1 => ?_)
    · refine s_ret (ev_is (ev_orV (a := decide (v < 1)) (b := decide (6 < v)) (ev_is (ev_op (ev_var rfl) ev_c rv_I0) (congrArg V.bl (nat_lt v 1))) (fun _ => ev_is (ev_op (ev_var rfl) ev_c rv_I0) (congrArg V.bl (nat_lt 6 v)))) ?_) fun H2 e2 => q.go (e1.trans e2)
      unfold wrong
      rw [if_pos (decide_eq_true_eq.mp hb)]
    · have nb : ¬ l = 98 := decide_eq_false_iff_not.mp hb
      refine q_when (b := decide (l = 120)) (et_is (et_test (ev_op (ev_var rfl) ev_c (rv_eq rfl))) (by rw [ofS_x]; exact dec_txt l 120)) (fun hx H2 e2 => ?_) (fun hx H2 e2 => ?_)
      · refine s_ret (ev_is (ev_op (ev_var rfl) (ev_call (ea_cons (ev_var rfl) ea_nil) (wcV hn)) rv_I0) ?_) fun H3 e3 => q.go ((e1.trans e2).trans e3)
        unfold wrong
        rw [if_neg nb, if_pos (decide_eq_true_eq.mp hx)]
        exact congrArg V.bl (nat_le _ _)
      · refine s_ret (ev_is (ev_op (ev_var rfl) (ev_var rfl) rv_I0) ?_) fun H3 e3 => q.go ((e1.trans e2).trans e3)
        unfold wrong
        rw [if_neg nb, if_neg (decide_eq_false_iff_not.mp hx)]
        exact congrArg V.bl (nat_lt _ _)
theorem iwV {H : Hp} {n l v : Nat} (hn : n ≤ 6) : SpV spIw [.int (n : Int), .str (txt [l]), .int (v : Int)] H (.bl (wrong n l v)) := fun _ _ _ q _ => ⟨n, l, v, rfl, hn, q⟩
/-! ### any_wrong -/
def awN (n : Nat) (ls xs : List Nat) : Bool := (ls.zip xs).any fun p => wrong n p.1 p.2
def spAw (K : PySem.W.Frag) : Sp := fun vs H Q _ => ∃ (n : Nat) (ls xs : List Nat) (h : Addr), vs = [.int (n : Int), .str (txt ls), .ref h] ∧ n ≤ 6 ∧ SqL K H h (vl xs) ∧ ls.length = xs.length ∧ xs.length ≤ 1000 ∧ RetV (.bl (awN n ls xs)) H Q
theorem scAw : FnScope ["bits", "letters", "handed", "letter", "value"] ["bits", "letters", "handed"] (defScope sAw) := ⟨rfl, rfl, rfl, by decide +kernel, rfl, by decide +kernel, by decide +kernel⟩
theorem zip_range (ls xs : List Nat) (hl : ls.length = xs.length) (g : Nat → Nat → Bool) : (List.range xs.length).map (fun i => g (ls.getD i 0) (xs.getD i 0)) = (ls.zip xs).map fun p => g p.1 p.2 := by
  refine List.ext_getElem (by simp [hl]) fun i h1 h2 => ?_
  have a1 : i < xs.length := by simpa using h1
  have a2 : i < ls.length := by omega
  simp [List.getD, List.getElem?_eq_getElem a1, List.getElem?_eq_getElem a2]
theorem okAw {f : Addr} {fd : FuncData} (F : Fun K "any_wrong" "any_wrong" sAw f fd) (B : Bt mg) (cI : Cl P w K mg base 2 "is_wrong" spIw) : FnOk P w K mg base CX0 3 f fd ["bits", "letters", "handed"] (spAw K) := by
  refine F.ok scAw (fun vs H Q E h => ?_) (fun cdv A outer_ s H vs Q E hr h => ?_)
  · obtain ⟨n, ls, xs, h, rfl, _⟩ := h
    rfl
  · obtain ⟨n, ls, xs, h, rfl, hn, hS, hl, h1000, q⟩ := h
    refine ⟨_, pss_one (ps_ret (pe_callB (cr_any rfl) (by rfl) B.any (by decide +kernel) (pa_cons
      (pe_lc (own := [("letter", 3), ("value", 4)]) (g := gTup K 2 (gCons (gName 3) (gCons (gName 4) gNil))) rfl scAw.nd (pi_zipX rfl B.zip (pa_cons (pv 1) (pa_cons (pv 2) pa_nil)))
        (blkOk_by (own := [("letter", 3), ("value", 4)]) (N := ["bits", "letters", "handed", "letter", "value"]) (sc := defScope sAw) (by decide +kernel))
        (fun _ _ _ _ _ => pg_tup rfl (pgs_cons (pg_name (i := 3) scAw.nd rfl (Or.inl rfl)) (pgs_cons (pg_name (i := 4) scAw.nd rfl (Or.inl rfl)) pgs_nil)))
        (fun _ _ _ _ _ => pts_nil) (fun _ _ _ _ _ => pe_k cI hr (by decide) rfl (pa_cons (pv 0) (pa_cons (pv 3) (pa_cons (pv 4) pa_nil))))) pa_nil))), ?_⟩
    refine s_ret (ev_is (ev_any (bs := (ls.zip xs).map fun p => wrong n p.1 p.2) (el_is (el_lcX (x := txt ls) (ys := vl xs) (fun _ => true) (fun i => .bl (wrong n (ls.getD i 0) (xs.getD i 0))) (ea_cons (ev_var rfl) (ea_cons (ev_var rfl) ea_nil)) hS (by rw [vl_len]; show ls.toArray.size = _; simpa using hl) (by rw [vl_len]; omega) (fun u1 u2 => rfl) (fun i c y H1 e hc hy => et_yes) ?_) ?_)) ?_) fun H1 e => q.go e
    · intro i c y H1 e hc hy _
      obtain ⟨x, hx, rfl⟩ := vl_get hy
      have hc2 : ls[i]? = some c := by
        have : ls.toArray[i]? = some c := hc
        simpa using this
      rw [getD_of hx, getD_of hc2]
      exact ev_call (ea_cons (ev_var rfl) (ea_cons (ev_var rfl) (ea_cons (ev_var rfl) ea_nil))) (iwV hn)
    · rw [vl_len, given_all, ← zip_range ls xs hl (wrong n), List.map_map]
      rfl
    · unfold awN
      rw [List.any_map]
      rfl
theorem awV {H : Hp} {n : Nat} {ls xs : List Nat} {h : Addr} (hn : n ≤ 6) (hS : SqL K H h (vl xs)) (hl : ls.length = xs.length) (h1 : xs.length ≤ 1000) : SpV (spAw K) [.int (n : Int), .str (txt ls), .ref h] H (.bl (awN n ls xs)) := fun _ e _ q _ => ⟨n, ls, xs, h, rfl, hn, ex_l e hS, hl, h1, q⟩
end
end BC

namespace BC
open PySem PySem.Spec PyProof.Rows L2 Evl
/-- how many calls the table CALLED holds -/
def many : Nat := 24
/-! ### what the top has written of the tables -/
structure Tab (P : Program) (w : World) (K : PySem.W.Frag) (mg : Str → Option Value) (base : Heap) (C : Addr) : Prop where
  hd : ∃ a, mg "HANDED" = some (.ref a) ∧ ∀ H, SqT K H a (letters.map fun l => V.str (txt l))
  cd : ∃ (a : Addr) (fs : List Addr), mg "CALLED" = some (.ref a) ∧ (∀ H, SqT K H a (fs.map V.ref)) ∧ ∀ k, k < many → ∃ (f : Addr) (fd : FuncData), fs[k]? = some f ∧ FnOk P w K mg base CX0 7 f fd ["state", "handed"] (spC K C k) ∧ PySem.W.keepIn K (.ref f) = true ∧ Binds K fd ["state", "handed"] []
theorem letters_len : ∀ k < 24, (letters.getD k []).length = handed.getD k 0 := by decide +kernel
theorem handed_le : ∀ k < 24, handed.getD k 0 ≤ 2 := by decide +kernel
theorem letters_at {k : Nat} (hk : k < 24) : (letters.map fun l => V.str (txt l))[k]? = some (.str (txt (letters.getD k []))) := by
  have e : letters[k]? = some (letters.getD k []) := by
    rw [List.getElem?_eq_getElem (show k < letters.length from hk)]
    unfold List.getD
    rw [List.getElem?_eq_getElem (show k < letters.length from hk)]
    rfl
  rw [List.getElem?_map, e]
  rfl
section
variable {P : Program} {w : World} {K : PySem.W.Frag} {mg : Str → Option Value} {base : Heap} {C : Addr}
/-! ### answer -/
def spA (K : PySem.W.Frag) (C : Addr) : Sp := fun vs H Q _ => ∃ (p q h : Addr) (s : Option Kh409.Abs) (k : Nat) (xs : List Nat), vs = [.ref p, .int (k : Int), .ref h] ∧ k < many ∧ StA C H p q s ∧ SqL K H h (vl xs) ∧ xs.length = handed.getD k 0 ∧
  ∀ (H' : Hp) (l q' : Addr), StA C H' p q' (stp k s xs).1 → Kp H p H' → (q' = q ∨ H q' = none) → H l = none → H' l = some (.lst ((stp k s xs).2.map V.int)) → Q (.ref l) H'
theorem scAn : FnScope ["state", "number", "handed", "called"] ["state", "number", "handed"] (defScope sAn) := ⟨rfl, rfl, rfl, by decide +kernel, rfl, by decide +kernel, by decide +kernel⟩
/-- the bits of an object; 0: not begun -/
def bitsOf (s : Option Kh409.Abs) : Nat := match s with
  | none => 0
  | some a => a.n
theorem StA.bits {H : Hp} {p q : Addr} {s : Option Kh409.Abs} (h : StA C H p q s) : ∃ dx, H p = some (.ins C dx (sF (bitsOf s) q)) := by
  cases s with
  | none => obtain ⟨dx, h1, _⟩ := h; exact ⟨dx, h1⟩
  | some a => obtain ⟨⟨dx, h1, _⟩, _⟩ := h; exact ⟨dx, h1⟩
theorem StA.bits_le {H : Hp} {p q : Addr} {s : Option Kh409.Abs} (h : StA C H p q s) : bitsOf s ≤ 6 := by
  cases s with
  | none => exact Nat.zero_le _
  | some a => exact h.2.2.1
theorem StA.bits_0 {H : Hp} {p q : Addr} {s : Option Kh409.Abs} (h : StA C H p q s) (e : bitsOf s = 0) : s = none := by
  cases s with
  | none => rfl
  | some a => have := h.2.1; have e : a.n = 0 := e; omega
/-- a refusal changes nothing -/
theorem refuse_end {k : Nat} {s : Option Kh409.Abs} {xs : List Nat} {z : Int} {H : Hp} {p q : Addr} {Q : VK} (e : stp k s xs = (s, [z])) (st : StA C H p q s)
    (kk : ∀ (H' : Hp) (l q' : Addr), StA C H' p q' (stp k s xs).1 → Kp H p H' → (q' = q ∨ H q' = none) → H l = none → H' l = some (.lst ((stp k s xs).2.map V.int)) → Q (.ref l) H') {H1 : Hp} {l : Addr} (e1 : Ex H H1) (nl : H l = none) (h1 : H1 l = some (.lst [.int z])) : Q (.ref l) H1 := by
  rw [e] at kk
  exact kk H1 l q (st.ex e1) (Kp.of e1) (.inl rfl) nl h1
theorem okAn {f : Addr} {fd : FuncData} (F : Fun K "answer" "answer" sAn f fd) (T : Txt K C) (B : Bt mg) (TB : Tab P w K mg base C) (cA : Cl P w K mg base 3 "any_wrong" (spAw K)) : FnOk P w K mg base CX0 8 f fd ["state", "number", "handed"] (spA K C) := by
  refine F.ok scAn (fun vs H Q E h => ?_) (fun cdv A outer_ s0 H vs Q E hr h => ?_)
  · obtain ⟨p, q, h, s, k, xs, rfl, _⟩ := h
    rfl
  · obtain ⟨p, q, h, s, k, xs, rfl, hk, st, hS, hl, kk⟩ := h
    obtain ⟨aH, gH, tH⟩ := TB.hd
    obtain ⟨aC, fs, gC, tC, all⟩ := TB.cd
    obtain ⟨fk, fdk, hfk, Fk, kpk, bk⟩ := all k hk
    have k24 : k < 24 := Nat.lt_of_lt_of_le hk (by decide)
    refine ⟨_, pss_cons (ps_if (PW.pt (pw_and (pt_cmpR op_ne (pv 1) pe_int (nomark _)) (pw_and1 (pt_cmpR op_eq (pe_fld (pv 0) rfl) pe_int (nomark _))))) (pss_one (ps_ret (pe_lst (pa_cons (pe_un un_neg pe_int) pa_nil)))) pss_nil)
      (pss_cons (ps_if (pt_val (pe_k cA hr (by decide) rfl (pa_cons (pe_fld (pv 0) rfl) (pa_cons (pe_ix ix_tup (pe_glob (v := .ref aH) rfl gH rfl) (pv 1) (fun _ _ => rfl)) (pa_cons (pv 2) pa_nil))))) (pss_one (ps_ret (pe_lst (pa_cons (pe_un un_neg pe_int) pa_nil)))) pss_nil)
      (pss_cons (ps_set (i := 3) scAn.nd rfl (Or.inl rfl) (pe_ix ix_tup (pe_glob (v := .ref aC) rfl gC rfl) (pv 1) (fun _ _ => rfl)))
      (pss_one (ps_ret (pe_callL (i := 3) Fk (hr.mono (by decide)) rfl (Or.inl rfl) kpk bk .nil pass0 (pa_cons (pv 0) (pa_cons (pv 2) pa_nil))))))), ?_⟩
    obtain ⟨dx, hp⟩ := st.bits
    have b6 := st.bits_le
    refine q_when (et_and (a := decide (k ≠ 0)) (b := decide (bitsOf s = 0)) (et_is (et_test (ev_op (ev_var rfl) ev_c (rv_ne rfl))) ?_) (fun _ => et_is (et_test (ev_op (ev_bits T (ev_var rfl) hp) ev_c (rv_eq rfl))) ?_)) (fun hb H1 e1 => ?_) (fun hb H1 e1 => ?_)
    · rw [dec_int]
      by_cases z : k = 0
      · subst z
        rfl
      · have : ¬ (k : Int) = 0 := by omega
        simp [z]
    · rw [dec_int]
      by_cases z : bitsOf s = 0
      · simp [z]
      · have : ¬ ((bitsOf s : Nat) : Int) = 0 := by omega
        simp [z]
    · rw [Bool.and_eq_true, decide_eq_true_eq, decide_eq_true_eq] at hb
      have sn := st.bits_0 hb.2
      subst sn
      refine s_retL (el_lst (ea_cons (ev_un ev_c ru_neg) ea_nil) le1) fun l H2 nl e2 h2 => ?_
      exact refuse_end (stp_none hb.1 k24 xs) st kk (e1.trans e2) (fresh_back e1 nl) h2
    · have nb : k = 0 ∨ ∃ a, s = some a := by
        rcases Nat.eq_zero_or_pos k with z | z
        · exact .inl z
        · right
          cases s with
          | none =>
            have z2 : k ≠ 0 := by omega
            have : decide (k ≠ 0) = true := decide_eq_true z2
            rw [this] at hb
            exact absurd hb (by decide)
          | some a => exact ⟨a, rfl⟩
      refine q_when (et_B (ev_call (ea_cons (ev_bits T (ev_var rfl) (e1 _ _ hp)) (ea_cons (ev_op ev_c (ev_var rfl) (rv_ixT (tH H1) (atI_nat (letters_at k24)))) (ea_cons (ev_var rfl) ea_nil))) (awV b6 (ex_l e1 hS) (by rw [letters_len k k24, hl]) (by have := handed_le k k24; omega)))) (fun hw H2 e2 => ?_) (fun hw H2 e2 => ?_)
      · refine s_retL (el_lst (ea_cons (ev_un ev_c ru_neg) ea_nil) le1) fun l H3 nl e3 h3 => ?_
        refine refuse_end ?_ st kk ((e1.trans e2).trans e3) (fresh_back (e1.trans e2) nl) h3
        rcases nb with z | ⟨a, z⟩
        · subst z
          exact wrong_begin s (bitsOf s) hl hw
        · subst z
          rcases Nat.eq_zero_or_pos k with z | z
          · subst z
            exact wrong_begin (some a) a.n hl hw
          · exact wrong_some a (by omega) k24 hl hw
      · have fine : Fine k s xs := by
          refine ⟨hl, ?_⟩
          rcases Nat.eq_zero_or_pos k with z | z
          · subst z
            exact .inl ⟨rfl, bitsOf s, hw⟩
          · rcases nb with z2 | ⟨a, rfl⟩
            · omega
            · exact .inr ⟨by omega, a, rfl, hw⟩
        refine q_asg (ev_op ev_c (ev_var rfl) (rv_ixT (v := .ref fk) (tC H2) (atI_nat (by rw [List.getElem?_map, hfk]; rfl)))) fun H3 e3 => ?_
        have e13 := (e1.trans e2).trans e3
        refine ⟨rfl, _, rfl, _, rfl, p, q, h, s, xs, rfl, st.ex e13, ex_l e13 hS, fine, fun H' l q' st' kp nq nl h' => ?_⟩
        refine kk H' l q' st' ((Kp.of e13).trans kp) ?_ (fresh_back e13 nl) h'
        rcases nq with z | z
        · exact .inl z
        · exact .inr (fresh_back e13 z)
end
end BC

namespace BC
open PySem PySem.Spec PyProof.Rows L2 Evl
section
variable {P : Program} {w : World} {K : PySem.W.Frag} {mg : Str → Option Value} {base : Heap} {C : Addr}
/-! ### answers -/
def spAs (K : PySem.W.Frag) : Sp := fun vs H Q _ => ∃ (a : Addr) (l : List Int) (cs : List (List (List Int))), vs = [.ref a] ∧ SqL K H a (l.map V.int) ∧ l.length ≤ 180 ∧ Asked l cs ∧
  ∀ (H' : Hp) (p : Addr), H' p = some (.lst ((PyKh409.answers l).map V.int)) → Q (.ref p) H'
theorem scAs : FnScope ["calls", "state", "given", "at", "number", "behind", "answered"] ["calls"] (defScope sAs) := ⟨rfl, rfl, rfl, by decide +kernel, rfl, by decide +kernel, by decide +kernel⟩
/-- one call of the list, and what is left behind it -/
theorem one_call {f i : Nat} {l : List Int} {cs : List (List (List Int))} (hi : i < l.length) (h : PyFlat.calls PyKh409.shape f (l.drop i) = some cs) (fits : ∀ c ∈ cs, Fits c) :
    ∃ (g k : Nat) (xs : List Nat) (cs' : List (List (List Int))), k < 24 ∧ l[i]? = some (k : Int) ∧ xs.length = handed.getD k 0 ∧ i + 1 + handed.getD k 0 ≤ l.length ∧ (l.drop (i + 1)).take (handed.getD k 0) = zs xs ∧
      cs = [(k : Int) :: zs xs] :: cs' ∧ PyFlat.calls PyKh409.shape g (l.drop (i + 1 + handed.getD k 0)) = some cs' ∧ ∀ c ∈ cs', Fits c := by
  rw [List.drop_eq_getElem_cons hi] at h
  obtain ⟨g, k, cs', hk, hp, hl, rfl, h'⟩ := calls_cons h
  rw [hp] at fits
  have fit := fits _ (List.mem_cons_self ..) k _ hk rfl
  have ez : zs (((l.drop (i + 1)).take (handed.getD k 0)).map Int.toNat) = (l.drop (i + 1)).take (handed.getD k 0) := by
    unfold zs
    rw [List.map_map]
    refine (List.map_congr_left (g := fun z => z) fun z hz => ?_).trans (List.map_id' _)
    exact Int.toNat_of_nonneg (fit z hz).1
  rw [List.length_drop] at hl
  refine ⟨g, k, ((l.drop (i + 1)).take (handed.getD k 0)).map Int.toNat, cs', hk, ?_, ?_, by omega, ez.symm, ?_, ?_, fun c hc => fits c (List.mem_cons_of_mem _ hc)⟩
  · rw [List.getElem?_eq_getElem hi, hp]
  · rw [List.length_map, List.length_take, List.length_drop]
    omega
  · rw [ez, hp]
  · rw [List.drop_drop] at h'
    exact h'
theorem cut_eq {l : List Int} {i n : Nat} (h : i + n ≤ l.length) : cutV (l.map V.int) (some ((i : Nat) : Int)) (some ((i + n : Nat) : Int)) = ((l.drop i).take n).map V.int := by
  unfold cutV
  rw [HT.sIx_nat, HT.sIx_nat, List.length_map, Nat.min_eq_left (by omega), Nat.min_eq_left (by omega), show i + n - i = n by omega, List.map_take, List.map_drop]
/-- append, extend: by the machine's own bound -/
theorem q_appZ {ta te : TE} {σ : L2.St} {H : Hp} {D : Ends} {tz : TS} {l : Addr} {xs : List V} {v : V} (hl : H l = some (.lst xs)) (ha : Ev ta σ H (.ref l)) (h : Ev te σ H v) (hz : xs.length < sizeLine) (k : ∀ H1, Ex H H1 → tz D σ (upd H1 l (.lst (xs ++ [v])))) :
    tSeq (tDrop (tBM K "list" rAppend ta (tCons te tNil))) tz D σ H := ha H (Ex.refl H) _ fun H1 e1 => ⟨Or.inl ⟨rfl, xs, sq_of (e1 l _ hl)⟩, h H1 e1 _ fun H2 e2 => ⟨l, xs, v, rfl, rfl, (e1.trans e2) l _ hl, hz, k H2 (e1.trans e2)⟩⟩
theorem q_extZ {ta te : TE} {σ : L2.St} {H : Hp} {D : Ends} {tz : TS} {l b : Addr} {xs ys : List V} (hl : H l = some (.lst xs)) (ha : Ev ta σ H (.ref l)) (h : Ev te σ H (.ref b)) (hb : H b = some (.lst ys)) (hz : xs.length + ys.length ≤ sizeLine) (k : ∀ H1, Ex H H1 → tz D σ (upd H1 l (.lst (xs ++ ys)))) :
    tSeq (tDrop (tBM K "list" rExtend ta (tCons te tNil))) tz D σ H := ha H (Ex.refl H) _ fun H1 e1 => ⟨Or.inl ⟨rfl, xs, sq_of (e1 l _ hl)⟩, h H1 e1 _ fun H2 e2 => ⟨l, b, xs, ys, rfl, rfl, (e1.trans e2) l _ hl, (e1.trans e2) b _ hb, hz, k H2 (e1.trans e2)⟩⟩
/-- a list that is not the object's may change -/
theorem StA.far {H : Hp} {p q g : Addr} {s : Option Kh409.Abs} {o : HO} (h : StA C H p q s) (gp : g ≠ p) (gq : g ≠ q) : StA C (upd H g o) p q s := by
  have aux : ∀ n c, StAt C H p q n c → StAt C (upd H g o) p q n c := fun n c ⟨dx, h1, h2⟩ => ⟨dx, by rw [upd_ne gp.symm]; exact h1, by rw [upd_ne gq.symm]; exact h2⟩
  cases s with
  | none => exact aux _ _ h
  | some a => exact ⟨aux _ _ h.1, h.2⟩
/-- the loop's word -/
structure Lw (K : PySem.W.Frag) (C : Addr) (H : Hp) (a : Addr) (l : List Int) (m : Nat) (σ : L2.St) (H' : Hp) : Prop where
  ex : ∃ (p q g : Addr) (i f : Nat) (s : Option Kh409.Abs) (cs : List (List (List Int))) (acc : List Int) (v4 v5 v6 : Option V), σ = [some (.ref a), some (.ref p), some (.ref g), some (.int (i : Int)), v4, v5, v6] ∧ Ex H H' ∧ H p = none ∧ H g = none ∧ StA C H' p q s ∧
    H' g = some (.lst (acc.map V.int)) ∧ g ≠ p ∧ g ≠ q ∧ i ≤ l.length ∧ m = l.length - i ∧ PyFlat.calls PyKh409.shape f (l.drop i) = some cs ∧ (∀ c ∈ cs, Fits c) ∧ acc ++ rest s cs = PyKh409.answers l
theorem okAs {f fI : Addr} {fd fdI : FuncData} (F : Fun K "answers" "answers" sAs f fd) (T : Txt K C) (B : Bt mg) (TB : Tab P w K mg base C) (gS : mg "State" = some (.ref C)) (M : Mk K C fI) (GI : FnOk P w K mg base CX0 1 fI fdI ["self"] (spIn C)) (bI : Binds K fdI ["self"] [])
    (cA : Cl P w K mg base 8 "answer" (spA K C)) (every : ∀ k, k < 24 → k < many) : FnOk P w K mg base CX0 9 f fd ["calls"] (spAs K) := by
  refine F.ok scAs (fun vs H Q E h => ?_) (fun cdv A outer_ s0 H vs Q E hr h => ?_)
  · obtain ⟨a, l, cs, rfl, _⟩ := h
    rfl
  · obtain ⟨a, l, cs, rfl, hS, h180, asked, kk⟩ := h
    obtain ⟨aH, gH, tH⟩ := TB.hd
    refine ⟨_, pss_cons (ps_set (i := 1) scAs.nd rfl (Or.inl rfl) (pe_make0 M GI (hr.mono (by decide)) rfl gS bI .nil pass0))
      (pss_cons (ps_set (i := 2) scAs.nd rfl (Or.inl rfl) (pe_lst pa_nil))
      (pss_cons (ps_set (i := 3) scAs.nd rfl (Or.inl rfl) pe_int)
      (pss_cons (ps_while PassesOwn.never (pt_cmpR op_lt (pv 3) (pe_callB call_len_seq (by rfl) B.len PySem.boot_len (pa_cons (pv 0) pa_nil)) (nomark _))
        (pss_cons (ps_set (i := 4) scAs.nd rfl (Or.inl rfl) (pe_ix ix_list (pv 0) (pv 3) (fun _ _ => rfl)))
        (pss_cons (ps_set (i := 5) scAs.nd rfl (Or.inl rfl) (pe_op op_add (pe_op op_add (pv 3) pe_int) (pe_callB call_len_str (by rfl) B.len PySem.boot_len (pa_cons (pe_ix ix_tup (pe_glob (v := .ref aH) rfl gH rfl) (pv 4) (fun _ _ => rfl)) pa_nil))))
        (pss_cons (ps_set (i := 6) scAs.nd rfl (Or.inl rfl) (pe_k cA hr (by decide) rfl (pa_cons (pv 1) (pa_cons (pv 4) (pa_cons (pe_slice sl_list (pv 0) (po_some (pe_op op_add (pv 3) pe_int)) (po_some (pv 5))) pa_nil)))))
        (pss_cons (ps_expr (pe_bm PySem.F.plainAttrs_list PySem.F.slot_list_append PySem.F.type_list_append mt_append (pv 2) (pa_cons (pe_callB call_len_seq (by rfl) B.len PySem.boot_len (pa_cons (pv 6) pa_nil)) pa_nil)))
        (pss_cons (ps_expr (pe_bm PySem.F.plainAttrs_list PySem.F.slot_list_extend PySem.F.type_list_extend mt_extend (pv 2) (pa_cons (pv 6) pa_nil)))
        (pss_one (ps_set (i := 3) scAs.nd rfl (Or.inl rfl) (pv 5)))))))))
      (pss_one (ps_ret (pv 2)))))), ?_⟩
    intro x dx nx ndx nex
    refine ⟨x, dx, rfl, upd_same, fun H1 q st kp nq => ⟨rfl, ?_⟩⟩
    have e1 : Ex H H1 := fun b o hb => kp b o (by rw [upd_ne (ne_of_none hb nx), upd_ne (ne_of_none hb ndx)]; exact hb) (ne_of_none hb nx)
    refine q_asgL (el_lst ea_nil (Nat.zero_le _)) fun g H2 ng e2 h2 => ?_
    refine q_asg ev_c fun H3 e3 => ?_
    have gx : g ≠ x := by
      obtain ⟨d, z, _⟩ := st
      exact ne_old z ng
    have gq : g ≠ q := by
      obtain ⟨d, _, z⟩ := st
      exact ne_old z ng
    refine q_while (Lw K C H a l) l.length ⟨x, q, g, 0, l.length, none, cs, [], none, none, none, rfl, (e1.trans e2).trans e3, nx, fresh_back e1 ng, StAt.ex st (e2.trans e3), e3 _ _ h2, gx, gq, Nat.zero_le _, rfl, asked.calls, asked.fits, ?_⟩ ?_
    · rw [List.nil_append, asked.ans]
      rfl
    rintro m σ' H' ⟨p, q, g, i, f0, s, cs, acc, v4, v5, v6, rfl, ex, np, ng, st, hg, gp, gq, hi, rfl, hc, fits, eq⟩
    have hS' := ex_l ex hS
    refine ⟨decide (i < l.length), et_is (et_test (ev_op (ev_var rfl) (ev_len (ev_var rfl) hS') rv_I0)) (by rw [List.length_map]; exact nat_lt _ _), fun hb H4 e4 => ?_, fun hb H4 e4 => ?_⟩
    · have lt : i < l.length := decide_eq_true_eq.mp hb
      obtain ⟨g', k, xs, cs', hk, hki, hl, hle, hcut, rfl, hc', fits'⟩ := one_call lt hc fits
      have hn2 := handed_le k hk
      refine ⟨fun σ2 H2 => ∃ m', m' < l.length - i ∧ Lw K C H a l m' σ2 H2, fun σ2 H2 h => h, ?_⟩
      refine q_asg (ev_op (ev_var rfl) (ev_var rfl) (rv_ixL (v := .int (k : Int)) (ex_l e4 hS') (atI_nat (by rw [List.getElem?_map, hki]; rfl)))) fun H5 e5 => ?_
      refine q_asg (v := .int ((i + 1 + handed.getD k 0 : Nat) : Int)) ?_ fun H6 e6 => ?_
      · refine ev_is (ev_op (ev_op (ev_var rfl) (ev_c (v := .int 1)) (rv_I0 (g := fun i j => .int (i + j)))) (z := .int ((i : Int) + 1 + (handed.getD k 0 : Nat))) ?_ (rv_I0 (i := (i : Int) + 1) (j := (handed.getD k 0 : Nat)) (g := fun i j => .int (i + j)))) rfl
        intro H6 e6 Q6 q6
        refine ev_op (ev_c (v := .ref aH)) (ev_var rfl) (rv_ixT (tH H5) (atI_nat (letters_at hk))) H6 e6 _ fun H7 e7 => ⟨txt (letters.getD k []), rfl, ?_, ?_⟩
        · show (letters.getD k []).toArray.size ≤ sizeLine
          have := letters_len k hk
          rw [List.size_toArray, this]
          exact sz_of (by omega)
        · have e : ((txt (letters.getD k [])).length : Int) = (handed.getD k 0 : Nat) := by
            show (((letters.getD k []).toArray.size : Nat) : Int) = _
            rw [List.size_toArray, letters_len k hk]
          rw [e]
          exact q6 H7 e7
      have e46 := (e4.trans e5).trans e6
      have hS6 := ex_l e46 hS'
      refine ⟨_, rfl, _, rfl, el_sl (ev_var rfl) (eo_some (i := ((i + 1 : Nat) : Int)) (ev_is (ev_op (ev_var rfl) ev_c rv_I0) rfl)) (eo_some (ev_var rfl)) hS6 H6 (Ex.refl _) _ fun h H7 nh e7 h7 => ?_⟩
      rw [cut_eq hle, hcut] at h7
      have e47 := e46.trans e7
      refine ⟨p, q, h, s, k, xs, rfl, every k hk, st.ex e47, sq_of h7, hl, fun H8 la q' st8 kp8 nq8 nla h8 => ?_⟩
      have g8 : H8 g = some (.lst (acc.map V.int)) := kp8 _ _ (e47 _ _ hg) gp
      have lag : la ≠ g := ne_old (e47 _ _ hg) nla
      have gq' : g ≠ q' := by
        rcases nq8 with z | z
        · rw [z]; exact gq
        · exact (ne_old (e47 _ _ hg) z).symm
      have eqn : acc ++ (((stp k s xs).2.length : Int) :: (stp k s xs).2 ++ rest (stp k s xs).1 cs') = PyKh409.answers l := by
        rw [← eq, rest_cons]
        rfl
      have tot : acc.length + ((stp k s xs).2.length + 1) ≤ 10000000 := by
        have z := asked.short
        rw [← eqn, List.length_append, List.length_append, List.length_cons] at z
        omega
      have big : 10000000 < sizeLine := by decide
      have ex8 : Ex H H8 := fun b o hb => kp8 b o ((ex.trans e47) b o hb) (ne_of_none hb np)
      refine q_appZ g8 (ev_var rfl) (ev_len (ev_var rfl) (sq_of h8)) (by rw [List.length_map]; omega) fun H9 e9 => ?_
      refine q_extZ upd_same (ev_var rfl) (ev_var rfl) (by rw [upd_ne lag]; exact e9 _ _ h8) (by simp only [List.length_append, List.length_map, List.length_cons, List.length_nil]; omega) fun H10 e10 => ?_
      refine s_asg (ev_var rfl) fun H11 e11 => ?_
      have ex9 : Ex H H9 := ex8.trans e9
      have st9 := st8.ex e9
      refine ⟨l.length - (i + 1 + handed.getD k 0), by omega, p, q', g, i + 1 + handed.getD k 0, g', (stp k s xs).1, cs', acc ++ ((stp k s xs).2.length : Int) :: (stp k s xs).2, _, _, _, rfl, ?_, np, ng, ?_, ?_, gp, gq', hle, rfl, hc', fits', ?_⟩
      · exact (Ex.mut ((Ex.mut ex9 ng).trans e10) ng).trans e11
      · exact (StA.far (StA.far st9 gp gq' |>.ex e10) gp gq').ex e11
      · refine (e11 _ _ upd_same).trans ?_
        simp only [List.map_append, List.map_cons, List.append_assoc, List.cons_append, List.nil_append, List.length_map]
      · rw [← eqn, List.append_assoc]
    · have ge : i = l.length := by
        have := decide_eq_false_iff_not.mp hb
        omega
      subst ge
      rw [List.drop_length, calls_nil] at hc
      injection hc with hc
      subst hc
      rw [rest_nil, List.append_nil] at eq
      rw [eq] at hg
      exact s_ret (ev_var rfl) fun H5 e5 => kk H5 g (e5 _ _ (e4 _ _ hg))
end
end BC

namespace BC
open PySem PySem.Spec PyProof.Rows L2 Evl
/-! ### the end: what the top has written -/
theorem vals_of : ∀ (xs : List V) (us : List Value), us.map absV = xs.map some → Vals xs us
  | [], [], _ => .nil
  | [], _ :: _, h => by cases h
  | _ :: _, [], h => by cases h
  | x :: xs, u :: us, h => by
    rw [List.map_cons, List.map_cons] at h
    injection h with h1 h2
    refine .cons ?_ (vals_of xs us h2)
    cases u with
    | none => cases h1; rfl
    | bool b => cases h1; rfl
    | int i t => cases h1; exact ⟨t, rfl⟩
    | str s t => cases h1; exact ⟨t, rfl⟩
    | bytes b t => cases h1; exact ⟨t, rfl⟩
    | float b t => cases h1; exact ⟨t, rfl⟩
    | ref a => cases h1; rfl
    | type n => cases h1; rfl
    | _ => cases h1
theorem all_mk {P : Program} {w : World} {K : PySem.W.Frag} {h : Heap} {mg : Str → Option Value} {fa C aH aD : Addr} {tM : Tok} {fWc fWt fDi fBs fHc fHs fWh fWn fBc fBa fBf fNw fCr fAr fNe fBr fCo fGc fWp fCd fFr fFd fSg fSs fRs fRz fTi fPw fCt fC0 fC1 fC2 fC3 fC4 fC5 fC6 fC7 fC8 fC9 fC10 fC11 fC12 fC13 fC14 fC15 fC16 fC17 fC18 fC19 fC20 fC21 fC22 fC23 fIw fAw fAn fAs fIn : Addr} (X : K.In h) (G : h.Ns mainGlobals mg) (hfa : mg "answers" = some (.ref fa))
    {odWc anWc odWt anWt odDi anDi odBs anBs odHc anHc odHs anHs odWh anWh odWn anWn odBc anBc odBa anBa odBf anBf odNw anNw odCr anCr odAr anAr odNe anNe odBr anBr odCo anCo odGc anGc odWp anWp odCd anCd odFr anFr odFd anFd odSg anSg odSs anSs odRs anRs odRz anRz odTi anTi odPw anPw odCt anCt odC0 anC0 odC1 anC1 odC2 anC2 odC3 anC3 odC4 anC4 odC5 anC5 odC6 anC6 odC7 anC7 odC8 anC8 odC9 anC9 odC10 anC10 odC11 anC11 odC12 anC12 odC13 anC13 odC14 anC14 odC15 anC15 odC16 anC16 odC17 anC17 odC18 anC18 odC19 anC19 odC20 anC20 odC21 anC21 odC22 anC22 odC23 anC23 odIw anIw odAw anAw odAn anAn odAs anAs odIn anIn : Option Addr} {slWc slWt slDi slBs slHc slHs slWh slWn slBc slBa slBf slNw slCr slAr slNe slBr slCo slGc slWp slCd slFr slFd slSg slSs slRs slRz slTi slPw slCt slC0 slC1 slC2 slC3 slC4 slC5 slC6 slC7 slC8 slC9 slC10 slC11 slC12 slC13 slC14 slC15 slC16 slC17 slC18 slC19 slC20 slC21 slC22 slC23 slIw slAw slAn slAs slIn : Array (Option Value)}
    {ocWc kVWc dcWc pmWc cdWc ctWc ocWt kVWt dcWt pmWt cdWt ctWt ocDi kVDi dcDi pmDi cdDi ctDi ocBs kVBs dcBs pmBs cdBs ctBs ocHc kVHc dcHc pmHc cdHc ctHc ocHs kVHs dcHs pmHs cdHs ctHs ocWh kVWh dcWh pmWh cdWh ctWh ocWn kVWn dcWn pmWn cdWn ctWn ocBc kVBc dcBc pmBc cdBc ctBc ocBa kVBa dcBa pmBa cdBa ctBa ocBf kVBf dcBf pmBf cdBf ctBf ocNw kVNw dcNw pmNw cdNw ctNw ocCr kVCr dcCr pmCr cdCr ctCr ocAr kVAr dcAr pmAr cdAr ctAr ocNe kVNe dcNe pmNe cdNe ctNe ocBr kVBr dcBr pmBr cdBr ctBr ocCo kVCo dcCo pmCo cdCo ctCo ocGc kVGc dcGc pmGc cdGc ctGc ocWp kVWp dcWp pmWp cdWp ctWp ocCd kVCd dcCd pmCd cdCd ctCd ocFr kVFr dcFr pmFr cdFr ctFr ocFd kVFd dcFd pmFd cdFd ctFd ocSg kVSg dcSg pmSg cdSg ctSg ocSs kVSs dcSs pmSs cdSs ctSs ocRs kVRs dcRs pmRs cdRs ctRs ocRz kVRz dcRz pmRz cdRz ctRz ocTi kVTi dcTi pmTi cdTi ctTi ocPw kVPw dcPw pmPw cdPw ctPw ocCt kVCt dcCt pmCt cdCt ctCt ocC0 kVC0 dcC0 pmC0 cdC0 ctC0 ocC1 kVC1 dcC1 pmC1 cdC1 ctC1 ocC2 kVC2 dcC2 pmC2 cdC2 ctC2 ocC3 kVC3 dcC3 pmC3 cdC3 ctC3 ocC4 kVC4 dcC4 pmC4 cdC4 ctC4 ocC5 kVC5 dcC5 pmC5 cdC5 ctC5 ocC6 kVC6 dcC6 pmC6 cdC6 ctC6 ocC7 kVC7 dcC7 pmC7 cdC7 ctC7 ocC8 kVC8 dcC8 pmC8 cdC8 ctC8 ocC9 kVC9 dcC9 pmC9 cdC9 ctC9 ocC10 kVC10 dcC10 pmC10 cdC10 ctC10 ocC11 kVC11 dcC11 pmC11 cdC11 ctC11 ocC12 kVC12 dcC12 pmC12 cdC12 ctC12 ocC13 kVC13 dcC13 pmC13 cdC13 ctC13 ocC14 kVC14 dcC14 pmC14 cdC14 ctC14 ocC15 kVC15 dcC15 pmC15 cdC15 ctC15 ocC16 kVC16 dcC16 pmC16 cdC16 ctC16 ocC17 kVC17 dcC17 pmC17 cdC17 ctC17 ocC18 kVC18 dcC18 pmC18 cdC18 ctC18 ocC19 kVC19 dcC19 pmC19 cdC19 ctC19 ocC20 kVC20 dcC20 pmC20 cdC20 ctC20 ocC21 kVC21 dcC21 pmC21 cdC21 ctC21 ocC22 kVC22 dcC22 pmC22 cdC22 ctC22 ocC23 kVC23 dcC23 pmC23 cdC23 ctC23 ocIw kVIw dcIw pmIw cdIw ctIw ocAw kVAw dcAw pmAw cdAw ctAw ocAn kVAn dcAn pmAn cdAn ctAn ocAs kVAs dcAs pmAs cdAs ctAs ocIn kVIn dcIn pmIn cdIn ctIn : Value}
    {odH odD : Option Addr} {itH : Array Value} {nH nD : Nat} {slH slD : Array (Option Value)}
    (aWc : PySem.W.nsIn K mainGlobals "word_count" = some (some (.ref fWc))) (lWc : K.lookup fWc = some ⟨ocWc, odWc, .func (PySem.W.fnOf "word_count" "word_count" (defArgs sWc) (defBody sWc) (defScope sWc) .none kVWc dcWc pmWc anWc cdWc ctWc), slWc⟩) (cWc : PySem.W.codeIn K cdWc "word_count" = true) (kWc : PySem.W.keepIn K (.ref fWc) = true)
    (aWt : PySem.W.nsIn K mainGlobals "weight" = some (some (.ref fWt))) (lWt : K.lookup fWt = some ⟨ocWt, odWt, .func (PySem.W.fnOf "weight" "weight" (defArgs sWt) (defBody sWt) (defScope sWt) .none kVWt dcWt pmWt anWt cdWt ctWt), slWt⟩) (cWt : PySem.W.codeIn K cdWt "weight" = true) (kWt : PySem.W.keepIn K (.ref fWt) = true)
    (aDi : PySem.W.nsIn K mainGlobals "distance" = some (some (.ref fDi))) (lDi : K.lookup fDi = some ⟨ocDi, odDi, .func (PySem.W.fnOf "distance" "distance" (defArgs sDi) (defBody sDi) (defScope sDi) .none kVDi dcDi pmDi anDi cdDi ctDi), slDi⟩) (cDi : PySem.W.codeIn K cdDi "distance" = true) (kDi : PySem.W.keepIn K (.ref fDi) = true)
    (aBs : PySem.W.nsIn K mainGlobals "ball_size" = some (some (.ref fBs))) (lBs : K.lookup fBs = some ⟨ocBs, odBs, .func (PySem.W.fnOf "ball_size" "ball_size" (defArgs sBs) (defBody sBs) (defScope sBs) .none kVBs dcBs pmBs anBs cdBs ctBs), slBs⟩) (cBs : PySem.W.codeIn K cdBs "ball_size" = true) (kBs : PySem.W.keepIn K (.ref fBs) = true)
    (aHc : PySem.W.nsIn K mainGlobals "hit_count" = some (some (.ref fHc))) (lHc : K.lookup fHc = some ⟨ocHc, odHc, .func (PySem.W.fnOf "hit_count" "hit_count" (defArgs sHc) (defBody sHc) (defScope sHc) .none kVHc dcHc pmHc anHc cdHc ctHc), slHc⟩) (cHc : PySem.W.codeIn K cdHc "hit_count" = true) (kHc : PySem.W.keepIn K (.ref fHc) = true)
    (aHs : PySem.W.nsIn K mainGlobals "hit_counts" = some (some (.ref fHs))) (lHs : K.lookup fHs = some ⟨ocHs, odHs, .func (PySem.W.fnOf "hit_counts" "hit_counts" (defArgs sHs) (defBody sHs) (defScope sHs) .none kVHs dcHs pmHs anHs cdHs ctHs), slHs⟩) (cHs : PySem.W.codeIn K cdHs "hit_counts" = true) (kHs : PySem.W.keepIn K (.ref fHs) = true)
    (aWh : PySem.W.nsIn K mainGlobals "words_by_hits" = some (some (.ref fWh))) (lWh : K.lookup fWh = some ⟨ocWh, odWh, .func (PySem.W.fnOf "words_by_hits" "words_by_hits" (defArgs sWh) (defBody sWh) (defScope sWh) .none kVWh dcWh pmWh anWh cdWh ctWh), slWh⟩) (cWh : PySem.W.codeIn K cdWh "words_by_hits" = true) (kWh : PySem.W.keepIn K (.ref fWh) = true)
    (aWn : PySem.W.nsIn K mainGlobals "words_hit" = some (some (.ref fWn))) (lWn : K.lookup fWn = some ⟨ocWn, odWn, .func (PySem.W.fnOf "words_hit" "words_hit" (defArgs sWn) (defBody sWn) (defScope sWn) .none kVWn dcWn pmWn anWn cdWn ctWn), slWn⟩) (cWn : PySem.W.codeIn K cdWn "words_hit" = true) (kWn : PySem.W.keepIn K (.ref fWn) = true)
    (aBc : PySem.W.nsIn K mainGlobals "balls_cover" = some (some (.ref fBc))) (lBc : K.lookup fBc = some ⟨ocBc, odBc, .func (PySem.W.fnOf "balls_cover" "balls_cover" (defArgs sBc) (defBody sBc) (defScope sBc) .none kVBc dcBc pmBc anBc cdBc ctBc), slBc⟩) (cBc : PySem.W.codeIn K cdBc "balls_cover" = true) (kBc : PySem.W.keepIn K (.ref fBc) = true)
    (aBa : PySem.W.nsIn K mainGlobals "balls_apart" = some (some (.ref fBa))) (lBa : K.lookup fBa = some ⟨ocBa, odBa, .func (PySem.W.fnOf "balls_apart" "balls_apart" (defArgs sBa) (defBody sBa) (defScope sBa) .none kVBa dcBa pmBa anBa cdBa ctBa), slBa⟩) (cBa : PySem.W.codeIn K cdBa "balls_apart" = true) (kBa : PySem.W.keepIn K (.ref fBa) = true)
    (aBf : PySem.W.nsIn K mainGlobals "balls_fill" = some (some (.ref fBf))) (lBf : K.lookup fBf = some ⟨ocBf, odBf, .func (PySem.W.fnOf "balls_fill" "balls_fill" (defArgs sBf) (defBody sBf) (defScope sBf) .none kVBf dcBf pmBf anBf cdBf ctBf), slBf⟩) (cBf : PySem.W.codeIn K cdBf "balls_fill" = true) (kBf : PySem.W.keepIn K (.ref fBf) = true)
    (aNw : PySem.W.nsIn K mainGlobals "needed_words" = some (some (.ref fNw))) (lNw : K.lookup fNw = some ⟨ocNw, odNw, .func (PySem.W.fnOf "needed_words" "needed_words" (defArgs sNw) (defBody sNw) (defScope sNw) .none kVNw dcNw pmNw anNw cdNw ctNw), slNw⟩) (cNw : PySem.W.codeIn K cdNw "needed_words" = true) (kNw : PySem.W.keepIn K (.ref fNw) = true)
    (aCr : PySem.W.nsIn K mainGlobals "covering_radius" = some (some (.ref fCr))) (lCr : K.lookup fCr = some ⟨ocCr, odCr, .func (PySem.W.fnOf "covering_radius" "covering_radius" (defArgs sCr) (defBody sCr) (defScope sCr) .none kVCr dcCr pmCr anCr cdCr ctCr), slCr⟩) (cCr : PySem.W.codeIn K cdCr "covering_radius" = true) (kCr : PySem.W.keepIn K (.ref fCr) = true)
    (aAr : PySem.W.nsIn K mainGlobals "apart_reach" = some (some (.ref fAr))) (lAr : K.lookup fAr = some ⟨ocAr, odAr, .func (PySem.W.fnOf "apart_reach" "apart_reach" (defArgs sAr) (defBody sAr) (defScope sAr) .none kVAr dcAr pmAr anAr cdAr ctAr), slAr⟩) (cAr : PySem.W.codeIn K cdAr "apart_reach" = true) (kAr : PySem.W.keepIn K (.ref fAr) = true)
    (aNe : PySem.W.nsIn K mainGlobals "nearest_words" = some (some (.ref fNe))) (lNe : K.lookup fNe = some ⟨ocNe, odNe, .func (PySem.W.fnOf "nearest_words" "nearest_words" (defArgs sNe) (defBody sNe) (defScope sNe) .none kVNe dcNe pmNe anNe cdNe ctNe), slNe⟩) (cNe : PySem.W.codeIn K cdNe "nearest_words" = true) (kNe : PySem.W.keepIn K (.ref fNe) = true)
    (aBr : PySem.W.nsIn K mainGlobals "ball_round" = some (some (.ref fBr))) (lBr : K.lookup fBr = some ⟨ocBr, odBr, .func (PySem.W.fnOf "ball_round" "ball_round" (defArgs sBr) (defBody sBr) (defScope sBr) .none kVBr dcBr pmBr anBr cdBr ctBr), slBr⟩) (cBr : PySem.W.codeIn K cdBr "ball_round" = true) (kBr : PySem.W.keepIn K (.ref fBr) = true)
    (aCo : PySem.W.nsIn K mainGlobals "count_open" = some (some (.ref fCo))) (lCo : K.lookup fCo = some ⟨ocCo, odCo, .func (PySem.W.fnOf "count_open" "count_open" (defArgs sCo) (defBody sCo) (defScope sCo) .none kVCo dcCo pmCo anCo cdCo ctCo), slCo⟩) (cCo : PySem.W.codeIn K cdCo "count_open" = true) (kCo : PySem.W.keepIn K (.ref fCo) = true)
    (aGc : PySem.W.nsIn K mainGlobals "greedy_cover" = some (some (.ref fGc))) (lGc : K.lookup fGc = some ⟨ocGc, odGc, .func (PySem.W.fnOf "greedy_cover" "greedy_cover" (defArgs sGc) (defBody sGc) (defScope sGc) .none kVGc dcGc pmGc anGc cdGc ctGc), slGc⟩) (cGc : PySem.W.codeIn K cdGc "greedy_cover" = true) (kGc : PySem.W.keepIn K (.ref fGc) = true)
    (aWp : PySem.W.nsIn K mainGlobals "with_pairs" = some (some (.ref fWp))) (lWp : K.lookup fWp = some ⟨ocWp, odWp, .func (PySem.W.fnOf "with_pairs" "with_pairs" (defArgs sWp) (defBody sWp) (defScope sWp) .none kVWp dcWp pmWp anWp cdWp ctWp), slWp⟩) (cWp : PySem.W.codeIn K cdWp "with_pairs" = true) (kWp : PySem.W.keepIn K (.ref fWp) = true)
    (aCd : PySem.W.nsIn K mainGlobals "closed" = some (some (.ref fCd))) (lCd : K.lookup fCd = some ⟨ocCd, odCd, .func (PySem.W.fnOf "closed" "closed" (defArgs sCd) (defBody sCd) (defScope sCd) .none kVCd dcCd pmCd anCd cdCd ctCd), slCd⟩) (cCd : PySem.W.codeIn K cdCd "closed" = true) (kCd : PySem.W.keepIn K (.ref fCd) = true)
    (aFr : PySem.W.nsIn K mainGlobals "is_far" = some (some (.ref fFr))) (lFr : K.lookup fFr = some ⟨ocFr, odFr, .func (PySem.W.fnOf "is_far" "is_far" (defArgs sFr) (defBody sFr) (defScope sFr) .none kVFr dcFr pmFr anFr cdFr ctFr), slFr⟩) (cFr : PySem.W.codeIn K cdFr "is_far" = true) (kFr : PySem.W.keepIn K (.ref fFr) = true)
    (aFd : PySem.W.nsIn K mainGlobals "filled" = some (some (.ref fFd))) (lFd : K.lookup fFd = some ⟨ocFd, odFd, .func (PySem.W.fnOf "filled" "filled" (defArgs sFd) (defBody sFd) (defScope sFd) .none kVFd dcFd pmFd anFd cdFd ctFd), slFd⟩) (cFd : PySem.W.codeIn K cdFd "filled" = true) (kFd : PySem.W.keepIn K (.ref fFd) = true)
    (aSg : PySem.W.nsIn K mainGlobals "sign" = some (some (.ref fSg))) (lSg : K.lookup fSg = some ⟨ocSg, odSg, .func (PySem.W.fnOf "sign" "sign" (defArgs sSg) (defBody sSg) (defScope sSg) .none kVSg dcSg pmSg anSg cdSg ctSg), slSg⟩) (cSg : PySem.W.codeIn K cdSg "sign" = true) (kSg : PySem.W.keepIn K (.ref fSg) = true)
    (aSs : PySem.W.nsIn K mainGlobals "sign_sum" = some (some (.ref fSs))) (lSs : K.lookup fSs = some ⟨ocSs, odSs, .func (PySem.W.fnOf "sign_sum" "sign_sum" (defArgs sSs) (defBody sSs) (defScope sSs) .none kVSs dcSs pmSs anSs cdSs ctSs), slSs⟩) (cSs : PySem.W.codeIn K cdSs "sign_sum" = true) (kSs : PySem.W.keepIn K (.ref fSs) = true)
    (aRs : PySem.W.nsIn K mainGlobals "round_sum" = some (some (.ref fRs))) (lRs : K.lookup fRs = some ⟨ocRs, odRs, .func (PySem.W.fnOf "round_sum" "round_sum" (defArgs sRs) (defBody sRs) (defScope sRs) .none kVRs dcRs pmRs anRs cdRs ctRs), slRs⟩) (cRs : PySem.W.codeIn K cdRs "round_sum" = true) (kRs : PySem.W.keepIn K (.ref fRs) = true)
    (aRz : PySem.W.nsIn K mainGlobals "round_zeros" = some (some (.ref fRz))) (lRz : K.lookup fRz = some ⟨ocRz, odRz, .func (PySem.W.fnOf "round_zeros" "round_zeros" (defArgs sRz) (defBody sRz) (defScope sRz) .none kVRz dcRz pmRz anRz cdRz ctRz), slRz⟩) (cRz : PySem.W.codeIn K cdRz "round_zeros" = true) (kRz : PySem.W.keepIn K (.ref fRz) = true)
    (aTi : PySem.W.nsIn K mainGlobals "tilt" = some (some (.ref fTi))) (lTi : K.lookup fTi = some ⟨ocTi, odTi, .func (PySem.W.fnOf "tilt" "tilt" (defArgs sTi) (defBody sTi) (defScope sTi) .none kVTi dcTi pmTi anTi cdTi ctTi), slTi⟩) (cTi : PySem.W.codeIn K cdTi "tilt" = true) (kTi : PySem.W.keepIn K (.ref fTi) = true)
    (aPw : PySem.W.nsIn K mainGlobals "places_in_the_way" = some (some (.ref fPw))) (lPw : K.lookup fPw = some ⟨ocPw, odPw, .func (PySem.W.fnOf "places_in_the_way" "places_in_the_way" (defArgs sPw) (defBody sPw) (defScope sPw) .none kVPw dcPw pmPw anPw cdPw ctPw), slPw⟩) (cPw : PySem.W.codeIn K cdPw "places_in_the_way" = true) (kPw : PySem.W.keepIn K (.ref fPw) = true)
    (aCt : PySem.W.nsIn K mainGlobals "counted" = some (some (.ref fCt))) (lCt : K.lookup fCt = some ⟨ocCt, odCt, .func (PySem.W.fnOf "counted" "counted" (defArgs sCt) (defBody sCt) (defScope sCt) .none kVCt dcCt pmCt anCt cdCt ctCt), slCt⟩) (cCt : PySem.W.codeIn K cdCt "counted" = true) (kCt : PySem.W.keepIn K (.ref fCt) = true)
    (aC0 : PySem.W.nsIn K mainGlobals "begin" = some (some (.ref fC0))) (lC0 : K.lookup fC0 = some ⟨ocC0, odC0, .func (PySem.W.fnOf "begin" "begin" (defArgs sC0) (defBody sC0) (defScope sC0) .none kVC0 dcC0 pmC0 anC0 cdC0 ctC0), slC0⟩) (cC0 : PySem.W.codeIn K cdC0 "begin" = true) (kC0 : PySem.W.keepIn K (.ref fC0) = true)
    (aC1 : PySem.W.nsIn K mainGlobals "put" = some (some (.ref fC1))) (lC1 : K.lookup fC1 = some ⟨ocC1, odC1, .func (PySem.W.fnOf "put" "put" (defArgs sC1) (defBody sC1) (defScope sC1) .none kVC1 dcC1 pmC1 anC1 cdC1 ctC1), slC1⟩) (cC1 : PySem.W.codeIn K cdC1 "put" = true) (kC1 : PySem.W.keepIn K (.ref fC1) = true)
    (aC2 : PySem.W.nsIn K mainGlobals "take" = some (some (.ref fC2))) (lC2 : K.lookup fC2 = some ⟨ocC2, odC2, .func (PySem.W.fnOf "take" "take" (defArgs sC2) (defBody sC2) (defScope sC2) .none kVC2 dcC2 pmC2 anC2 cdC2 ctC2), slC2⟩) (cC2 : PySem.W.codeIn K cdC2 "take" = true) (kC2 : PySem.W.keepIn K (.ref fC2) = true)
    (aC3 : PySem.W.nsIn K mainGlobals "move" = some (some (.ref fC3))) (lC3 : K.lookup fC3 = some ⟨ocC3, odC3, .func (PySem.W.fnOf "move" "move" (defArgs sC3) (defBody sC3) (defScope sC3) .none kVC3 dcC3 pmC3 anC3 cdC3 ctC3), slC3⟩) (cC3 : PySem.W.codeIn K cdC3 "move" = true) (kC3 : PySem.W.keepIn K (.ref fC3) = true)
    (aC4 : PySem.W.nsIn K mainGlobals "close" = some (some (.ref fC4))) (lC4 : K.lookup fC4 = some ⟨ocC4, odC4, .func (PySem.W.fnOf "close" "close" (defArgs sC4) (defBody sC4) (defScope sC4) .none kVC4 dcC4 pmC4 anC4 cdC4 ctC4), slC4⟩) (cC4 : PySem.W.codeIn K cdC4 "close" = true) (kC4 : PySem.W.keepIn K (.ref fC4) = true)
    (aC5 : PySem.W.nsIn K mainGlobals "fill" = some (some (.ref fC5))) (lC5 : K.lookup fC5 = some ⟨ocC5, odC5, .func (PySem.W.fnOf "fill" "fill" (defArgs sC5) (defBody sC5) (defScope sC5) .none kVC5 dcC5 pmC5 anC5 cdC5 ctC5), slC5⟩) (cC5 : PySem.W.codeIn K cdC5 "fill" = true) (kC5 : PySem.W.keepIn K (.ref fC5) = true)
    (aC6 : PySem.W.nsIn K mainGlobals "words" = some (some (.ref fC6))) (lC6 : K.lookup fC6 = some ⟨ocC6, odC6, .func (PySem.W.fnOf "words" "words" (defArgs sC6) (defBody sC6) (defScope sC6) .none kVC6 dcC6 pmC6 anC6 cdC6 ctC6), slC6⟩) (cC6 : PySem.W.codeIn K cdC6 "words" = true) (kC6 : PySem.W.keepIn K (.ref fC6) = true)
    (aC7 : PySem.W.nsIn K mainGlobals "ball" = some (some (.ref fC7))) (lC7 : K.lookup fC7 = some ⟨ocC7, odC7, .func (PySem.W.fnOf "ball" "ball" (defArgs sC7) (defBody sC7) (defScope sC7) .none kVC7 dcC7 pmC7 anC7 cdC7 ctC7), slC7⟩) (cC7 : PySem.W.codeIn K cdC7 "ball" = true) (kC7 : PySem.W.keepIn K (.ref fC7) = true)
    (aC8 : PySem.W.nsIn K mainGlobals "hits" = some (some (.ref fC8))) (lC8 : K.lookup fC8 = some ⟨ocC8, odC8, .func (PySem.W.fnOf "hits" "hits" (defArgs sC8) (defBody sC8) (defScope sC8) .none kVC8 dcC8 pmC8 anC8 cdC8 ctC8), slC8⟩) (cC8 : PySem.W.codeIn K cdC8 "hits" = true) (kC8 : PySem.W.keepIn K (.ref fC8) = true)
    (aC9 : PySem.W.nsIn K mainGlobals "times" = some (some (.ref fC9))) (lC9 : K.lookup fC9 = some ⟨ocC9, odC9, .func (PySem.W.fnOf "times" "times" (defArgs sC9) (defBody sC9) (defScope sC9) .none kVC9 dcC9 pmC9 anC9 cdC9 ctC9), slC9⟩) (cC9 : PySem.W.codeIn K cdC9 "times" = true) (kC9 : PySem.W.keepIn K (.ref fC9) = true)
    (aC10 : PySem.W.nsIn K mainGlobals "covers" = some (some (.ref fC10))) (lC10 : K.lookup fC10 = some ⟨ocC10, odC10, .func (PySem.W.fnOf "covers" "covers" (defArgs sC10) (defBody sC10) (defScope sC10) .none kVC10 dcC10 pmC10 anC10 cdC10 ctC10), slC10⟩) (cC10 : PySem.W.codeIn K cdC10 "covers" = true) (kC10 : PySem.W.keepIn K (.ref fC10) = true)
    (aC11 : PySem.W.nsIn K mainGlobals "apart" = some (some (.ref fC11))) (lC11 : K.lookup fC11 = some ⟨ocC11, odC11, .func (PySem.W.fnOf "apart" "apart" (defArgs sC11) (defBody sC11) (defScope sC11) .none kVC11 dcC11 pmC11 anC11 cdC11 ctC11), slC11⟩) (cC11 : PySem.W.codeIn K cdC11 "apart" = true) (kC11 : PySem.W.keepIn K (.ref fC11) = true)
    (aC12 : PySem.W.nsIn K mainGlobals "fills" = some (some (.ref fC12))) (lC12 : K.lookup fC12 = some ⟨ocC12, odC12, .func (PySem.W.fnOf "fills" "fills" (defArgs sC12) (defBody sC12) (defScope sC12) .none kVC12 dcC12 pmC12 anC12 cdC12 ctC12), slC12⟩) (cC12 : PySem.W.codeIn K cdC12 "fills" = true) (kC12 : PySem.W.keepIn K (.ref fC12) = true)
    (aC13 : PySem.W.nsIn K mainGlobals "evenly" = some (some (.ref fC13))) (lC13 : K.lookup fC13 = some ⟨ocC13, odC13, .func (PySem.W.fnOf "evenly" "evenly" (defArgs sC13) (defBody sC13) (defScope sC13) .none kVC13 dcC13 pmC13 anC13 cdC13 ctC13), slC13⟩) (cC13 : PySem.W.codeIn K cdC13 "evenly" = true) (kC13 : PySem.W.keepIn K (.ref fC13) = true)
    (aC14 : PySem.W.nsIn K mainGlobals "round_of" = some (some (.ref fC14))) (lC14 : K.lookup fC14 = some ⟨ocC14, odC14, .func (PySem.W.fnOf "round_of" "round_of" (defArgs sC14) (defBody sC14) (defScope sC14) .none kVC14 dcC14 pmC14 anC14 cdC14 ctC14), slC14⟩) (cC14 : PySem.W.codeIn K cdC14 "round_of" = true) (kC14 : PySem.W.keepIn K (.ref fC14) = true)
    (aC15 : PySem.W.nsIn K mainGlobals "zeros" = some (some (.ref fC15))) (lC15 : K.lookup fC15 = some ⟨ocC15, odC15, .func (PySem.W.fnOf "zeros" "zeros" (defArgs sC15) (defBody sC15) (defScope sC15) .none kVC15 dcC15 pmC15 anC15 cdC15 ctC15), slC15⟩) (cC15 : PySem.W.codeIn K cdC15 "zeros" = true) (kC15 : PySem.W.keepIn K (.ref fC15) = true)
    (aC16 : PySem.W.nsIn K mainGlobals "in_the_way" = some (some (.ref fC16))) (lC16 : K.lookup fC16 = some ⟨ocC16, odC16, .func (PySem.W.fnOf "in_the_way" "in_the_way" (defArgs sC16) (defBody sC16) (defScope sC16) .none kVC16 dcC16 pmC16 anC16 cdC16 ctC16), slC16⟩) (cC16 : PySem.W.codeIn K cdC16 "in_the_way" = true) (kC16 : PySem.W.keepIn K (.ref fC16) = true)
    (aC17 : PySem.W.nsIn K mainGlobals "radius" = some (some (.ref fC17))) (lC17 : K.lookup fC17 = some ⟨ocC17, odC17, .func (PySem.W.fnOf "radius" "radius" (defArgs sC17) (defBody sC17) (defScope sC17) .none kVC17 dcC17 pmC17 anC17 cdC17 ctC17), slC17⟩) (cC17 : PySem.W.codeIn K cdC17 "radius" = true) (kC17 : PySem.W.keepIn K (.ref fC17) = true)
    (aC18 : PySem.W.nsIn K mainGlobals "reach" = some (some (.ref fC18))) (lC18 : K.lookup fC18 = some ⟨ocC18, odC18, .func (PySem.W.fnOf "reach" "reach" (defArgs sC18) (defBody sC18) (defScope sC18) .none kVC18 dcC18 pmC18 anC18 cdC18 ctC18), slC18⟩) (cC18 : PySem.W.codeIn K cdC18 "reach" = true) (kC18 : PySem.W.keepIn K (.ref fC18) = true)
    (aC19 : PySem.W.nsIn K mainGlobals "uncovered" = some (some (.ref fC19))) (lC19 : K.lookup fC19 = some ⟨ocC19, odC19, .func (PySem.W.fnOf "uncovered" "uncovered" (defArgs sC19) (defBody sC19) (defScope sC19) .none kVC19 dcC19 pmC19 anC19 cdC19 ctC19), slC19⟩) (cC19 : PySem.W.codeIn K cdC19 "uncovered" = true) (kC19 : PySem.W.keepIn K (.ref fC19) = true)
    (aC20 : PySem.W.nsIn K mainGlobals "mend" = some (some (.ref fC20))) (lC20 : K.lookup fC20 = some ⟨ocC20, odC20, .func (PySem.W.fnOf "mend" "mend" (defArgs sC20) (defBody sC20) (defScope sC20) .none kVC20 dcC20 pmC20 anC20 cdC20 ctC20), slC20⟩) (cC20 : PySem.W.codeIn K cdC20 "mend" = true) (kC20 : PySem.W.keepIn K (.ref fC20) = true)
    (aC21 : PySem.W.nsIn K mainGlobals "cover" = some (some (.ref fC21))) (lC21 : K.lookup fC21 = some ⟨ocC21, odC21, .func (PySem.W.fnOf "cover" "cover" (defArgs sC21) (defBody sC21) (defScope sC21) .none kVC21 dcC21 pmC21 anC21 cdC21 ctC21), slC21⟩) (cC21 : PySem.W.codeIn K cdC21 "cover" = true) (kC21 : PySem.W.keepIn K (.ref fC21) = true)
    (aC22 : PySem.W.nsIn K mainGlobals "needed" = some (some (.ref fC22))) (lC22 : K.lookup fC22 = some ⟨ocC22, odC22, .func (PySem.W.fnOf "needed" "needed" (defArgs sC22) (defBody sC22) (defScope sC22) .none kVC22 dcC22 pmC22 anC22 cdC22 ctC22), slC22⟩) (cC22 : PySem.W.codeIn K cdC22 "needed" = true) (kC22 : PySem.W.keepIn K (.ref fC22) = true)
    (aC23 : PySem.W.nsIn K mainGlobals "told" = some (some (.ref fC23))) (lC23 : K.lookup fC23 = some ⟨ocC23, odC23, .func (PySem.W.fnOf "told" "told" (defArgs sC23) (defBody sC23) (defScope sC23) .none kVC23 dcC23 pmC23 anC23 cdC23 ctC23), slC23⟩) (cC23 : PySem.W.codeIn K cdC23 "told" = true) (kC23 : PySem.W.keepIn K (.ref fC23) = true)
    (aIw : PySem.W.nsIn K mainGlobals "is_wrong" = some (some (.ref fIw))) (lIw : K.lookup fIw = some ⟨ocIw, odIw, .func (PySem.W.fnOf "is_wrong" "is_wrong" (defArgs sIw) (defBody sIw) (defScope sIw) .none kVIw dcIw pmIw anIw cdIw ctIw), slIw⟩) (cIw : PySem.W.codeIn K cdIw "is_wrong" = true) (kIw : PySem.W.keepIn K (.ref fIw) = true)
    (aAw : PySem.W.nsIn K mainGlobals "any_wrong" = some (some (.ref fAw))) (lAw : K.lookup fAw = some ⟨ocAw, odAw, .func (PySem.W.fnOf "any_wrong" "any_wrong" (defArgs sAw) (defBody sAw) (defScope sAw) .none kVAw dcAw pmAw anAw cdAw ctAw), slAw⟩) (cAw : PySem.W.codeIn K cdAw "any_wrong" = true) (kAw : PySem.W.keepIn K (.ref fAw) = true)
    (aAn : PySem.W.nsIn K mainGlobals "answer" = some (some (.ref fAn))) (lAn : K.lookup fAn = some ⟨ocAn, odAn, .func (PySem.W.fnOf "answer" "answer" (defArgs sAn) (defBody sAn) (defScope sAn) .none kVAn dcAn pmAn anAn cdAn ctAn), slAn⟩) (cAn : PySem.W.codeIn K cdAn "answer" = true) (kAn : PySem.W.keepIn K (.ref fAn) = true)
    (aAs : PySem.W.nsIn K mainGlobals "answers" = some (some (.ref fAs))) (lAs : K.lookup fAs = some ⟨ocAs, odAs, .func (PySem.W.fnOf "answers" "answers" (defArgs sAs) (defBody sAs) (defScope sAs) .none kVAs dcAs pmAs anAs cdAs ctAs), slAs⟩) (cAs : PySem.W.codeIn K cdAs "answers" = true) (kAs : PySem.W.keepIn K (.ref fAs) = true)
    (aIn : PySem.W.findIn K (.ref C) "__init__" = some (some (.ref fIn))) (iIn : PySem.W.isFn K (.ref fIn) = true) (lIn : K.lookup fIn = some ⟨ocIn, odIn, .func (PySem.W.fnOf "__init__" "State.__init__" (defArgs sIn) (defBody sIn) (defScope sIn) .none kVIn dcIn pmIn anIn cdIn ctIn), slIn⟩) (cIn : PySem.W.codeIn K cdIn "State.__init__" = true) (kIn : PySem.W.keepIn K (.ref fIn) = true)
    (aC : PySem.W.nsIn K mainGlobals "State" = some (some (.ref C))) (pg : PySem.W.plainGet K C Str.empty = true) (hd : PySem.W.hasDictIn K C = true) (po : PySem.W.plainOver K C = true) (sa : PySem.W.findIn K (.ref C) "__setattr__" = some (some (.builtin "object.__setattr__"))) (mk : PySem.W.makesIn K C = true) (kc : PySem.W.keepIn K (.ref C) = true)
    (nB : PySem.W.findIn K (.ref C) "bits" = some none) (nT : PySem.W.findIn K (.ref C) "there" = some none)
    (aM : PySem.W.nsIn K mainGlobals "MOST_BITS" = some (some (.int 6 tM)))
    (aH_ : PySem.W.nsIn K mainGlobals "HANDED" = some (some (.ref aH))) (lH : K.lookup aH = some ⟨.type "tuple", odH, .seq itH nH, slH⟩) (zH : itH.size ≤ sizeLine) (vH : itH.toList.map absV = (letters.map fun l => V.str (txt l)).map some)
    (aD_ : PySem.W.nsIn K mainGlobals "CALLED" = some (some (.ref aD))) (lD : K.lookup aD = some ⟨.type "tuple", odD, .seq #[.ref fC0, .ref fC1, .ref fC2, .ref fC3, .ref fC4, .ref fC5, .ref fC6, .ref fC7, .ref fC8, .ref fC9, .ref fC10, .ref fC11, .ref fC12, .ref fC13, .ref fC14, .ref fC15, .ref fC16, .ref fC17, .ref fC18, .ref fC19, .ref fC20, .ref fC21, .ref fC22, .ref fC23] nD, slD⟩)
    (zlen : PySem.W.nsIn K mainGlobals "len" = some none) (zrange : PySem.W.nsIn K mainGlobals "range" = some none) (zmin : PySem.W.nsIn K mainGlobals "min" = some none) (zmax : PySem.W.nsIn K mainGlobals "max" = some none) (zsorted : PySem.W.nsIn K mainGlobals "sorted" = some none) (zlist : PySem.W.nsIn K mainGlobals "list" = some none) (zall : PySem.W.nsIn K mainGlobals "all" = some none) (zany : PySem.W.nsIn K mainGlobals "any" = some none) (zzip : PySem.W.nsIn K mainGlobals "zip" = some none) (zenumerate : PySem.W.nsIn K mainGlobals "enumerate" = some none) (zsum : PySem.W.nsIn K mainGlobals "sum" = some none) (every : ∀ k, k < 24 → k < many) :
    ∃ fd : FuncData, (∀ (s : Shared) (us : List Value), us.length = (["calls"] : List Str).length → BindsTo s fd ⟨us, []⟩ ((["calls"] : List Str).zip us)) ∧ ∀ base : Heap, K.In base → base.Ns mainGlobals mg → FnOk P w K mg base CX0 9 fa fd ["calls"] (spAs K) := by
  have e := hfa.symm.trans (PySem.W.mg_of X G aAs)
  cases e
  have T : Txt K C := ⟨⟨pg, hd, po, sa⟩, nB, nT⟩
  have B : Bt mg := ⟨PySem.W.mg_none_of X G zlen, PySem.W.mg_none_of X G zrange, PySem.W.mg_none_of X G zmin, PySem.W.mg_none_of X G zmax, PySem.W.mg_none_of X G zsorted, PySem.W.mg_none_of X G zlist, PySem.W.mg_none_of X G zall, PySem.W.mg_none_of X G zany, PySem.W.mg_none_of X G zzip⟩
  have gM := PySem.W.mg_of X G aM
  have zE := PySem.W.mg_none_of X G zenumerate
  have zS := PySem.W.mg_none_of X G zsum
  have F_Wc := fun_mk (st := sWc) lWc cWc kWc
  have b_Wc := F_Wc.binds (ps := ["bits"]) fun _ _ _ _ _ _ us hl => match us, hl with | [_], _ => rfl
  have g_Wc := PySem.W.mg_of X G aWc
  have F_Wt := fun_mk (st := sWt) lWt cWt kWt
  have b_Wt := F_Wt.binds (ps := ["word"]) fun _ _ _ _ _ _ us hl => match us, hl with | [_], _ => rfl
  have g_Wt := PySem.W.mg_of X G aWt
  have F_Di := fun_mk (st := sDi) lDi cDi kDi
  have b_Di := F_Di.binds (ps := ["one", "other"]) fun _ _ _ _ _ _ us hl => match us, hl with | [_, _], _ => rfl
  have g_Di := PySem.W.mg_of X G aDi
  have F_Bs := fun_mk (st := sBs) lBs cBs kBs
  have b_Bs := F_Bs.binds (ps := ["bits", "r"]) fun _ _ _ _ _ _ us hl => match us, hl with | [_, _], _ => rfl
  have g_Bs := PySem.W.mg_of X G aBs
  have F_Hc := fun_mk (st := sHc) lHc cHc kHc
  have b_Hc := F_Hc.binds (ps := ["there", "r", "x"]) fun _ _ _ _ _ _ us hl => match us, hl with | [_, _, _], _ => rfl
  have g_Hc := PySem.W.mg_of X G aHc
  have F_Hs := fun_mk (st := sHs) lHs cHs kHs
  have b_Hs := F_Hs.binds (ps := ["bits", "there", "r"]) fun _ _ _ _ _ _ us hl => match us, hl with | [_, _, _], _ => rfl
  have g_Hs := PySem.W.mg_of X G aHs
  have F_Wh := fun_mk (st := sWh) lWh cWh kWh
  have b_Wh := F_Wh.binds (ps := ["bits", "there", "r"]) fun _ _ _ _ _ _ us hl => match us, hl with | [_, _, _], _ => rfl
  have g_Wh := PySem.W.mg_of X G aWh
  have F_Wn := fun_mk (st := sWn) lWn cWn kWn
  have b_Wn := F_Wn.binds (ps := ["bits", "there", "r", "often"]) fun _ _ _ _ _ _ us hl => match us, hl with | [_, _, _, _], _ => rfl
  have g_Wn := PySem.W.mg_of X G aWn
  have F_Bc := fun_mk (st := sBc) lBc cBc kBc
  have b_Bc := F_Bc.binds (ps := ["bits", "there", "r"]) fun _ _ _ _ _ _ us hl => match us, hl with | [_, _, _], _ => rfl
  have g_Bc := PySem.W.mg_of X G aBc
  have F_Ba := fun_mk (st := sBa) lBa cBa kBa
  have b_Ba := F_Ba.binds (ps := ["bits", "there", "r"]) fun _ _ _ _ _ _ us hl => match us, hl with | [_, _, _], _ => rfl
  have g_Ba := PySem.W.mg_of X G aBa
  have F_Bf := fun_mk (st := sBf) lBf cBf kBf
  have b_Bf := F_Bf.binds (ps := ["bits", "there", "r"]) fun _ _ _ _ _ _ us hl => match us, hl with | [_, _, _], _ => rfl
  have g_Bf := PySem.W.mg_of X G aBf
  have F_Nw := fun_mk (st := sNw) lNw cNw kNw
  have b_Nw := F_Nw.binds (ps := ["bits", "there", "r"]) fun _ _ _ _ _ _ us hl => match us, hl with | [_, _, _], _ => rfl
  have g_Nw := PySem.W.mg_of X G aNw
  have F_Cr := fun_mk (st := sCr) lCr cCr kCr
  have b_Cr := F_Cr.binds (ps := ["bits", "there"]) fun _ _ _ _ _ _ us hl => match us, hl with | [_, _], _ => rfl
  have g_Cr := PySem.W.mg_of X G aCr
  have F_Ar := fun_mk (st := sAr) lAr cAr kAr
  have b_Ar := F_Ar.binds (ps := ["bits", "there"]) fun _ _ _ _ _ _ us hl => match us, hl with | [_, _], _ => rfl
  have g_Ar := PySem.W.mg_of X G aAr
  have F_Ne := fun_mk (st := sNe) lNe cNe kNe
  have b_Ne := F_Ne.binds (ps := ["there", "x"]) fun _ _ _ _ _ _ us hl => match us, hl with | [_, _], _ => rfl
  have g_Ne := PySem.W.mg_of X G aNe
  have F_Br := fun_mk (st := sBr) lBr cBr kBr
  have b_Br := F_Br.binds (ps := ["bits", "word", "r"]) fun _ _ _ _ _ _ us hl => match us, hl with | [_, _, _], _ => rfl
  have g_Br := PySem.W.mg_of X G aBr
  have F_Co := fun_mk (st := sCo) lCo cCo kCo
  have b_Co := F_Co.binds (ps := ["ball", "covered"]) fun _ _ _ _ _ _ us hl => match us, hl with | [_, _], _ => rfl
  have g_Co := PySem.W.mg_of X G aCo
  have F_Gc := fun_mk (st := sGc) lGc cGc kGc
  have b_Gc := F_Gc.binds (ps := ["bits", "r"]) fun _ _ _ _ _ _ us hl => match us, hl with | [_, _], _ => rfl
  have g_Gc := PySem.W.mg_of X G aGc
  have F_Wp := fun_mk (st := sWp) lWp cWp kWp
  have b_Wp := F_Wp.binds (ps := ["there"]) fun _ _ _ _ _ _ us hl => match us, hl with | [_], _ => rfl
  have g_Wp := PySem.W.mg_of X G aWp
  have F_Cd := fun_mk (st := sCd) lCd cCd kCd
  have b_Cd := F_Cd.binds (ps := ["there"]) fun _ _ _ _ _ _ us hl => match us, hl with | [_], _ => rfl
  have g_Cd := PySem.W.mg_of X G aCd
  have F_Fr := fun_mk (st := sFr) lFr cFr kFr
  have b_Fr := F_Fr.binds (ps := ["x", "there", "bound"]) fun _ _ _ _ _ _ us hl => match us, hl with | [_, _, _], _ => rfl
  have g_Fr := PySem.W.mg_of X G aFr
  have F_Fd := fun_mk (st := sFd) lFd cFd kFd
  have b_Fd := F_Fd.binds (ps := ["bits", "there", "r"]) fun _ _ _ _ _ _ us hl => match us, hl with | [_, _, _], _ => rfl
  have g_Fd := PySem.W.mg_of X G aFd
  have F_Sg := fun_mk (st := sSg) lSg cSg kSg
  have b_Sg := F_Sg.binds (ps := ["word"]) fun _ _ _ _ _ _ us hl => match us, hl with | [_], _ => rfl
  have g_Sg := PySem.W.mg_of X G aSg
  have F_Ss := fun_mk (st := sSs) lSs cSs kSs
  have b_Ss := F_Ss.binds (ps := ["bits", "k", "i"]) fun _ _ _ _ _ _ us hl => match us, hl with | [_, _, _], _ => rfl
  have g_Ss := PySem.W.mg_of X G aSs
  have F_Rs := fun_mk (st := sRs) lRs cRs kRs
  have b_Rs := F_Rs.binds (ps := ["bits", "r", "i"]) fun _ _ _ _ _ _ us hl => match us, hl with | [_, _, _], _ => rfl
  have g_Rs := PySem.W.mg_of X G aRs
  have F_Rz := fun_mk (st := sRz) lRz cRz kRz
  have b_Rz := F_Rz.binds (ps := ["bits", "r"]) fun _ _ _ _ _ _ us hl => match us, hl with | [_, _], _ => rfl
  have g_Rz := PySem.W.mg_of X G aRz
  have F_Ti := fun_mk (st := sTi) lTi cTi kTi
  have b_Ti := F_Ti.binds (ps := ["there", "places"]) fun _ _ _ _ _ _ us hl => match us, hl with | [_, _], _ => rfl
  have g_Ti := PySem.W.mg_of X G aTi
  have F_Pw := fun_mk (st := sPw) lPw cPw kPw
  have b_Pw := F_Pw.binds (ps := ["bits", "there", "r"]) fun _ _ _ _ _ _ us hl => match us, hl with | [_, _, _], _ => rfl
  have g_Pw := PySem.W.mg_of X G aPw
  have F_Ct := fun_mk (st := sCt) lCt cCt kCt
  have b_Ct := F_Ct.binds (ps := ["found"]) fun _ _ _ _ _ _ us hl => match us, hl with | [_], _ => rfl
  have g_Ct := PySem.W.mg_of X G aCt
  have F_C0 := fun_mk (st := sC0) lC0 cC0 kC0
  have b_C0 := F_C0.binds (ps := ["state", "handed"]) fun _ _ _ _ _ _ us hl => match us, hl with | [_, _], _ => rfl
  have g_C0 := PySem.W.mg_of X G aC0
  have F_C1 := fun_mk (st := sC1) lC1 cC1 kC1
  have b_C1 := F_C1.binds (ps := ["state", "handed"]) fun _ _ _ _ _ _ us hl => match us, hl with | [_, _], _ => rfl
  have g_C1 := PySem.W.mg_of X G aC1
  have F_C2 := fun_mk (st := sC2) lC2 cC2 kC2
  have b_C2 := F_C2.binds (ps := ["state", "handed"]) fun _ _ _ _ _ _ us hl => match us, hl with | [_, _], _ => rfl
  have g_C2 := PySem.W.mg_of X G aC2
  have F_C3 := fun_mk (st := sC3) lC3 cC3 kC3
  have b_C3 := F_C3.binds (ps := ["state", "handed"]) fun _ _ _ _ _ _ us hl => match us, hl with | [_, _], _ => rfl
  have g_C3 := PySem.W.mg_of X G aC3
  have F_C4 := fun_mk (st := sC4) lC4 cC4 kC4
  have b_C4 := F_C4.binds (ps := ["state", "handed"]) fun _ _ _ _ _ _ us hl => match us, hl with | [_, _], _ => rfl
  have g_C4 := PySem.W.mg_of X G aC4
  have F_C5 := fun_mk (st := sC5) lC5 cC5 kC5
  have b_C5 := F_C5.binds (ps := ["state", "handed"]) fun _ _ _ _ _ _ us hl => match us, hl with | [_, _], _ => rfl
  have g_C5 := PySem.W.mg_of X G aC5
  have F_C6 := fun_mk (st := sC6) lC6 cC6 kC6
  have b_C6 := F_C6.binds (ps := ["state", "handed"]) fun _ _ _ _ _ _ us hl => match us, hl with | [_, _], _ => rfl
  have g_C6 := PySem.W.mg_of X G aC6
  have F_C7 := fun_mk (st := sC7) lC7 cC7 kC7
  have b_C7 := F_C7.binds (ps := ["state", "handed"]) fun _ _ _ _ _ _ us hl => match us, hl with | [_, _], _ => rfl
  have g_C7 := PySem.W.mg_of X G aC7
  have F_C8 := fun_mk (st := sC8) lC8 cC8 kC8
  have b_C8 := F_C8.binds (ps := ["state", "handed"]) fun _ _ _ _ _ _ us hl => match us, hl with | [_, _], _ => rfl
  have g_C8 := PySem.W.mg_of X G aC8
  have F_C9 := fun_mk (st := sC9) lC9 cC9 kC9
  have b_C9 := F_C9.binds (ps := ["state", "handed"]) fun _ _ _ _ _ _ us hl => match us, hl with | [_, _], _ => rfl
  have g_C9 := PySem.W.mg_of X G aC9
  have F_C10 := fun_mk (st := sC10) lC10 cC10 kC10
  have b_C10 := F_C10.binds (ps := ["state", "handed"]) fun _ _ _ _ _ _ us hl => match us, hl with | [_, _], _ => rfl
  have g_C10 := PySem.W.mg_of X G aC10
  have F_C11 := fun_mk (st := sC11) lC11 cC11 kC11
  have b_C11 := F_C11.binds (ps := ["state", "handed"]) fun _ _ _ _ _ _ us hl => match us, hl with | [_, _], _ => rfl
  have g_C11 := PySem.W.mg_of X G aC11
  have F_C12 := fun_mk (st := sC12) lC12 cC12 kC12
  have b_C12 := F_C12.binds (ps := ["state", "handed"]) fun _ _ _ _ _ _ us hl => match us, hl with | [_, _], _ => rfl
  have g_C12 := PySem.W.mg_of X G aC12
  have F_C13 := fun_mk (st := sC13) lC13 cC13 kC13
  have b_C13 := F_C13.binds (ps := ["state", "handed"]) fun _ _ _ _ _ _ us hl => match us, hl with | [_, _], _ => rfl
  have g_C13 := PySem.W.mg_of X G aC13
  have F_C14 := fun_mk (st := sC14) lC14 cC14 kC14
  have b_C14 := F_C14.binds (ps := ["state", "handed"]) fun _ _ _ _ _ _ us hl => match us, hl with | [_, _], _ => rfl
  have g_C14 := PySem.W.mg_of X G aC14
  have F_C15 := fun_mk (st := sC15) lC15 cC15 kC15
  have b_C15 := F_C15.binds (ps := ["state", "handed"]) fun _ _ _ _ _ _ us hl => match us, hl with | [_, _], _ => rfl
  have g_C15 := PySem.W.mg_of X G aC15
  have F_C16 := fun_mk (st := sC16) lC16 cC16 kC16
  have b_C16 := F_C16.binds (ps := ["state", "handed"]) fun _ _ _ _ _ _ us hl => match us, hl with | [_, _], _ => rfl
  have g_C16 := PySem.W.mg_of X G aC16
  have F_C17 := fun_mk (st := sC17) lC17 cC17 kC17
  have b_C17 := F_C17.binds (ps := ["state", "handed"]) fun _ _ _ _ _ _ us hl => match us, hl with | [_, _], _ => rfl
  have g_C17 := PySem.W.mg_of X G aC17
  have F_C18 := fun_mk (st := sC18) lC18 cC18 kC18
  have b_C18 := F_C18.binds (ps := ["state", "handed"]) fun _ _ _ _ _ _ us hl => match us, hl with | [_, _], _ => rfl
  have g_C18 := PySem.W.mg_of X G aC18
  have F_C19 := fun_mk (st := sC19) lC19 cC19 kC19
  have b_C19 := F_C19.binds (ps := ["state", "handed"]) fun _ _ _ _ _ _ us hl => match us, hl with | [_, _], _ => rfl
  have g_C19 := PySem.W.mg_of X G aC19
  have F_C20 := fun_mk (st := sC20) lC20 cC20 kC20
  have b_C20 := F_C20.binds (ps := ["state", "handed"]) fun _ _ _ _ _ _ us hl => match us, hl with | [_, _], _ => rfl
  have g_C20 := PySem.W.mg_of X G aC20
  have F_C21 := fun_mk (st := sC21) lC21 cC21 kC21
  have b_C21 := F_C21.binds (ps := ["state", "handed"]) fun _ _ _ _ _ _ us hl => match us, hl with | [_, _], _ => rfl
  have g_C21 := PySem.W.mg_of X G aC21
  have F_C22 := fun_mk (st := sC22) lC22 cC22 kC22
  have b_C22 := F_C22.binds (ps := ["state", "handed"]) fun _ _ _ _ _ _ us hl => match us, hl with | [_, _], _ => rfl
  have g_C22 := PySem.W.mg_of X G aC22
  have F_C23 := fun_mk (st := sC23) lC23 cC23 kC23
  have b_C23 := F_C23.binds (ps := ["state", "handed"]) fun _ _ _ _ _ _ us hl => match us, hl with | [_, _], _ => rfl
  have g_C23 := PySem.W.mg_of X G aC23
  have F_Iw := fun_mk (st := sIw) lIw cIw kIw
  have b_Iw := F_Iw.binds (ps := ["bits", "letter", "value"]) fun _ _ _ _ _ _ us hl => match us, hl with | [_, _, _], _ => rfl
  have g_Iw := PySem.W.mg_of X G aIw
  have F_Aw := fun_mk (st := sAw) lAw cAw kAw
  have b_Aw := F_Aw.binds (ps := ["bits", "letters", "handed"]) fun _ _ _ _ _ _ us hl => match us, hl with | [_, _, _], _ => rfl
  have g_Aw := PySem.W.mg_of X G aAw
  have F_In := fun_mk (st := sIn) lIn cIn kIn
  have b_In := F_In.binds (ps := ["self"]) fun _ _ _ _ _ _ us hl => match us, hl with | [_], _ => rfl
  have F_An := fun_mk (st := sAn) lAn cAn kAn
  have b_An := F_An.binds (ps := ["state", "number", "handed"]) fun _ _ _ _ _ _ us hl => match us, hl with | [_, _, _], _ => rfl
  have g_An := PySem.W.mg_of X G aAn
  have F_As := fun_mk (st := sAs) lAs cAs kAs
  refine ⟨PySem.W.fnOf "answers" "answers" (defArgs sAs) (defBody sAs) (defScope sAs) .none kVAs dcAs pmAs anAs cdAs ctAs, fun s us hu => match us, hu with | [_], _ => .of_eq rfl, fun base _ _ => ?_⟩
  have G_Wc : FnOk P w K mg base CX0 1 fWc _ ["bits"] spWc := okWc F_Wc
  have c_Wc : Cl P w K mg base 1 "word_count" spWc := ⟨⟨fWc, _, _, G_Wc, g_Wc, kWc, b_Wc⟩⟩
  have G_Wt : FnOk P w K mg base CX0 1 fWt _ ["word"] spWt := okWt F_Wt
  have c_Wt : Cl P w K mg base 1 "weight" spWt := ⟨⟨fWt, _, _, G_Wt, g_Wt, kWt, b_Wt⟩⟩
  have G_Di : FnOk P w K mg base CX0 2 fDi _ ["one", "other"] spDi := okDi F_Di G_Wt b_Wt g_Wt kWt
  have c_Di : Cl P w K mg base 2 "distance" spDi := ⟨⟨fDi, _, _, G_Di, g_Di, kDi, b_Di⟩⟩
  have G_Bs : FnOk P w K mg base CX0 2 fBs _ ["bits", "r"] spBs := okBs F_Bs B c_Wc c_Wt
  have c_Bs : Cl P w K mg base 2 "ball_size" spBs := ⟨⟨fBs, _, _, G_Bs, g_Bs, kBs, b_Bs⟩⟩
  have G_Hc : FnOk P w K mg base CX0 3 fHc _ ["there", "r", "x"] (spHc K) := okHc F_Hc B c_Di
  have c_Hc : Cl P w K mg base 3 "hit_count" (spHc K) := ⟨⟨fHc, _, _, G_Hc, g_Hc, kHc, b_Hc⟩⟩
  have G_Hs : FnOk P w K mg base CX0 4 fHs _ ["bits", "there", "r"] (spHs K) := okHs F_Hs B c_Wc c_Hc
  have c_Hs : Cl P w K mg base 4 "hit_counts" (spHs K) := ⟨⟨fHs, _, _, G_Hs, g_Hs, kHs, b_Hs⟩⟩
  have G_Wh : FnOk P w K mg base CX0 5 fWh _ ["bits", "there", "r"] (spWh K) := okWh F_Wh B c_Hs
  have c_Wh : Cl P w K mg base 5 "words_by_hits" (spWh K) := ⟨⟨fWh, _, _, G_Wh, g_Wh, kWh, b_Wh⟩⟩
  have G_Wn : FnOk P w K mg base CX0 5 fWn _ ["bits", "there", "r", "often"] (spWn K) := okWn F_Wn zE c_Hs
  have c_Wn : Cl P w K mg base 5 "words_hit" (spWn K) := ⟨⟨fWn, _, _, G_Wn, g_Wn, kWn, b_Wn⟩⟩
  have G_Bc : FnOk P w K mg base CX0 5 fBc _ ["bits", "there", "r"] (spBc K bcN) := okBc F_Bc B c_Hs
  have c_Bc : Cl P w K mg base 5 "balls_cover" (spBc K bcN) := ⟨⟨fBc, _, _, G_Bc, g_Bc, kBc, b_Bc⟩⟩
  have G_Ba : FnOk P w K mg base CX0 5 fBa _ ["bits", "there", "r"] (spBc K baN) := okBa F_Ba B c_Hs
  have c_Ba : Cl P w K mg base 5 "balls_apart" (spBc K baN) := ⟨⟨fBa, _, _, G_Ba, g_Ba, kBa, b_Ba⟩⟩
  have G_Bf : FnOk P w K mg base CX0 6 fBf _ ["bits", "there", "r"] (spBc K bfN) := okBf F_Bf c_Bc c_Ba
  have c_Bf : Cl P w K mg base 6 "balls_fill" (spBc K bfN) := ⟨⟨fBf, _, _, G_Bf, g_Bf, kBf, b_Bf⟩⟩
  have G_Nw : FnOk P w K mg base CX0 6 fNw _ ["bits", "there", "r"] (spNw K) := okNw F_Nw B c_Wn c_Di
  have c_Nw : Cl P w K mg base 6 "needed_words" (spNw K) := ⟨⟨fNw, _, _, G_Nw, g_Nw, kNw, b_Nw⟩⟩
  have G_Cr : FnOk P w K mg base CX0 6 fCr _ ["bits", "there"] (spCr K) := okCr F_Cr c_Bc
  have c_Cr : Cl P w K mg base 6 "covering_radius" (spCr K) := ⟨⟨fCr, _, _, G_Cr, g_Cr, kCr, b_Cr⟩⟩
  have G_Ar : FnOk P w K mg base CX0 6 fAr _ ["bits", "there"] (spAr K) := okAr F_Ar c_Ba
  have c_Ar : Cl P w K mg base 6 "apart_reach" (spAr K) := ⟨⟨fAr, _, _, G_Ar, g_Ar, kAr, b_Ar⟩⟩
  have G_Ne : FnOk P w K mg base CX0 3 fNe _ ["there", "x"] (spNe K) := okNe F_Ne B c_Di
  have c_Ne : Cl P w K mg base 3 "nearest_words" (spNe K) := ⟨⟨fNe, _, _, G_Ne, g_Ne, kNe, b_Ne⟩⟩
  have G_Br : FnOk P w K mg base CX0 3 fBr _ ["bits", "word", "r"] spBr := okBr F_Br B c_Wc c_Di
  have c_Br : Cl P w K mg base 3 "ball_round" spBr := ⟨⟨fBr, _, _, G_Br, g_Br, kBr, b_Br⟩⟩
  have G_Co : FnOk P w K mg base CX0 1 fCo _ ["ball", "covered"] (spCo K) := okCo F_Co B
  have c_Co : Cl P w K mg base 1 "count_open" (spCo K) := ⟨⟨fCo, _, _, G_Co, g_Co, kCo, b_Co⟩⟩
  have G_Gc : FnOk P w K mg base CX0 4 fGc _ ["bits", "r"] spGc := okGc F_Gc B c_Wc c_Br c_Co
  have c_Gc : Cl P w K mg base 4 "greedy_cover" spGc := ⟨⟨fGc, _, _, G_Gc, g_Gc, kGc, b_Gc⟩⟩
  have G_Wp : FnOk P w K mg base CX0 1 fWp _ ["there"] (spWp K) := okWp F_Wp B
  have c_Wp : Cl P w K mg base 1 "with_pairs" (spWp K) := ⟨⟨fWp, _, _, G_Wp, g_Wp, kWp, b_Wp⟩⟩
  have G_Cd : FnOk P w K mg base CX0 2 fCd _ ["there"] (spCd K) := okCd F_Cd B c_Wp
  have c_Cd : Cl P w K mg base 2 "closed" (spCd K) := ⟨⟨fCd, _, _, G_Cd, g_Cd, kCd, b_Cd⟩⟩
  have G_Fr : FnOk P w K mg base CX0 3 fFr _ ["x", "there", "bound"] (spFr K) := okFr F_Fr B c_Di
  have c_Fr : Cl P w K mg base 3 "is_far" (spFr K) := ⟨⟨fFr, _, _, G_Fr, g_Fr, kFr, b_Fr⟩⟩
  have G_Fd : FnOk P w K mg base CX0 4 fFd _ ["bits", "there", "r"] (spFd K) := okFd F_Fd B c_Wc c_Fr
  have c_Fd : Cl P w K mg base 4 "filled" (spFd K) := ⟨⟨fFd, _, _, G_Fd, g_Fd, kFd, b_Fd⟩⟩
  have G_Sg : FnOk P w K mg base CX0 2 fSg _ ["word"] spSg := okSg F_Sg c_Wt
  have c_Sg : Cl P w K mg base 2 "sign" spSg := ⟨⟨fSg, _, _, G_Sg, g_Sg, kSg, b_Sg⟩⟩
  have G_Ss : FnOk P w K mg base CX0 3 fSs _ ["bits", "k", "i"] spSs := okSs F_Ss B zS c_Wc c_Wt c_Sg
  have c_Ss : Cl P w K mg base 3 "sign_sum" spSs := ⟨⟨fSs, _, _, G_Ss, g_Ss, kSs, b_Ss⟩⟩
  have G_Rs : FnOk P w K mg base CX0 4 fRs _ ["bits", "r", "i"] spRs := okRs F_Rs B zS c_Ss
  have c_Rs : Cl P w K mg base 4 "round_sum" spRs := ⟨⟨fRs, _, _, G_Rs, g_Rs, kRs, b_Rs⟩⟩
  have G_Rz : FnOk P w K mg base CX0 5 fRz _ ["bits", "r"] spRz := okRz F_Rz B c_Rs
  have c_Rz : Cl P w K mg base 5 "round_zeros" spRz := ⟨⟨fRz, _, _, G_Rz, g_Rz, kRz, b_Rz⟩⟩
  have G_Ti : FnOk P w K mg base CX0 3 fTi _ ["there", "places"] (spTi K) := okTi F_Ti zS c_Sg
  have c_Ti : Cl P w K mg base 3 "tilt" (spTi K) := ⟨⟨fTi, _, _, G_Ti, g_Ti, kTi, b_Ti⟩⟩
  have G_Pw : FnOk P w K mg base CX0 5 fPw _ ["bits", "there", "r"] (spPw K) := okPw F_Pw B c_Wc c_Wt c_Rs c_Ti
  have c_Pw : Cl P w K mg base 5 "places_in_the_way" (spPw K) := ⟨⟨fPw, _, _, G_Pw, g_Pw, kPw, b_Pw⟩⟩
  have G_Ct : FnOk P w K mg base CX0 1 fCt _ ["found"] spCt := okCt F_Ct B
  have c_Ct : Cl P w K mg base 1 "counted" spCt := ⟨⟨fCt, _, _, G_Ct, g_Ct, kCt, b_Ct⟩⟩
  have G_C0 : FnOk P w K mg base CX0 1 fC0 _ ["state", "handed"] (spC K C 0) := ok0 F_C0 T
  have c_C0 : Cl P w K mg base 1 "begin" (spC K C 0) := ⟨⟨fC0, _, _, G_C0, g_C0, kC0, b_C0⟩⟩
  have G_C1 : FnOk P w K mg base CX0 1 fC1 _ ["state", "handed"] (spC K C 1) := ok1 F_C1 T B
  have c_C1 : Cl P w K mg base 1 "put" (spC K C 1) := ⟨⟨fC1, _, _, G_C1, g_C1, kC1, b_C1⟩⟩
  have G_C2 : FnOk P w K mg base CX0 1 fC2 _ ["state", "handed"] (spC K C 2) := ok2 F_C2 T B
  have c_C2 : Cl P w K mg base 1 "take" (spC K C 2) := ⟨⟨fC2, _, _, G_C2, g_C2, kC2, b_C2⟩⟩
  have G_C3 : FnOk P w K mg base CX0 1 fC3 _ ["state", "handed"] (spC K C 3) := ok3 F_C3 T B
  have c_C3 : Cl P w K mg base 1 "move" (spC K C 3) := ⟨⟨fC3, _, _, G_C3, g_C3, kC3, b_C3⟩⟩
  have G_C4 : FnOk P w K mg base CX0 3 fC4 _ ["state", "handed"] (spC K C 4) := ok4 F_C4 T B c_Cd
  have c_C4 : Cl P w K mg base 3 "close" (spC K C 4) := ⟨⟨fC4, _, _, G_C4, g_C4, kC4, b_C4⟩⟩
  have G_C5 : FnOk P w K mg base CX0 5 fC5 _ ["state", "handed"] (spC K C 5) := ok5 F_C5 T B c_Fd
  have c_C5 : Cl P w K mg base 5 "fill" (spC K C 5) := ⟨⟨fC5, _, _, G_C5, g_C5, kC5, b_C5⟩⟩
  have G_C6 : FnOk P w K mg base CX0 2 fC6 _ ["state", "handed"] (spC K C 6) := ok6 F_C6 T c_Ct
  have c_C6 : Cl P w K mg base 2 "words" (spC K C 6) := ⟨⟨fC6, _, _, G_C6, g_C6, kC6, b_C6⟩⟩
  have G_C7 : FnOk P w K mg base CX0 3 fC7 _ ["state", "handed"] (spC K C 7) := ok7 F_C7 T c_Bs
  have c_C7 : Cl P w K mg base 3 "ball" (spC K C 7) := ⟨⟨fC7, _, _, G_C7, g_C7, kC7, b_C7⟩⟩
  have G_C8 : FnOk P w K mg base CX0 4 fC8 _ ["state", "handed"] (spC K C 8) := ok8 F_C8 T c_Hc
  have c_C8 : Cl P w K mg base 4 "hits" (spC K C 8) := ⟨⟨fC8, _, _, G_C8, g_C8, kC8, b_C8⟩⟩
  have G_C9 : FnOk P w K mg base CX0 6 fC9 _ ["state", "handed"] (spC K C 9) := ok9 F_C9 T c_Ct c_Wh
  have c_C9 : Cl P w K mg base 6 "times" (spC K C 9) := ⟨⟨fC9, _, _, G_C9, g_C9, kC9, b_C9⟩⟩
  have G_C10 : FnOk P w K mg base CX0 6 fC10 _ ["state", "handed"] (spC K C 10) := ok10 F_C10 T c_Bc
  have c_C10 : Cl P w K mg base 6 "covers" (spC K C 10) := ⟨⟨fC10, _, _, G_C10, g_C10, kC10, b_C10⟩⟩
  have G_C11 : FnOk P w K mg base CX0 6 fC11 _ ["state", "handed"] (spC K C 11) := ok11 F_C11 T c_Ba
  have c_C11 : Cl P w K mg base 6 "apart" (spC K C 11) := ⟨⟨fC11, _, _, G_C11, g_C11, kC11, b_C11⟩⟩
  have G_C12 : FnOk P w K mg base CX0 7 fC12 _ ["state", "handed"] (spC K C 12) := ok12 F_C12 T c_Bf
  have c_C12 : Cl P w K mg base 7 "fills" (spC K C 12) := ⟨⟨fC12, _, _, G_C12, g_C12, kC12, b_C12⟩⟩
  have G_C13 : FnOk P w K mg base CX0 5 fC13 _ ["state", "handed"] (spC K C 13) := ok13 F_C13 T B c_Hs
  have c_C13 : Cl P w K mg base 5 "evenly" (spC K C 13) := ⟨⟨fC13, _, _, G_C13, g_C13, kC13, b_C13⟩⟩
  have G_C14 : FnOk P w K mg base CX0 5 fC14 _ ["state", "handed"] (spC K C 14) := ok14 F_C14 T c_Rs
  have c_C14 : Cl P w K mg base 5 "round_of" (spC K C 14) := ⟨⟨fC14, _, _, G_C14, g_C14, kC14, b_C14⟩⟩
  have G_C15 : FnOk P w K mg base CX0 6 fC15 _ ["state", "handed"] (spC K C 15) := ok15 F_C15 T c_Ct c_Rz
  have c_C15 : Cl P w K mg base 6 "zeros" (spC K C 15) := ⟨⟨fC15, _, _, G_C15, g_C15, kC15, b_C15⟩⟩
  have G_C16 : FnOk P w K mg base CX0 6 fC16 _ ["state", "handed"] (spC K C 16) := ok16 F_C16 T c_Ct c_Pw
  have c_C16 : Cl P w K mg base 6 "in_the_way" (spC K C 16) := ⟨⟨fC16, _, _, G_C16, g_C16, kC16, b_C16⟩⟩
  have G_C17 : FnOk P w K mg base CX0 7 fC17 _ ["state", "handed"] (spC K C 17) := ok17 F_C17 T c_Cr
  have c_C17 : Cl P w K mg base 7 "radius" (spC K C 17) := ⟨⟨fC17, _, _, G_C17, g_C17, kC17, b_C17⟩⟩
  have G_C18 : FnOk P w K mg base CX0 7 fC18 _ ["state", "handed"] (spC K C 18) := ok18 F_C18 T c_Ar
  have c_C18 : Cl P w K mg base 7 "reach" (spC K C 18) := ⟨⟨fC18, _, _, G_C18, g_C18, kC18, b_C18⟩⟩
  have G_C19 : FnOk P w K mg base CX0 6 fC19 _ ["state", "handed"] (spC K C 19) := ok19 F_C19 T c_Ct c_Wn
  have c_C19 : Cl P w K mg base 6 "uncovered" (spC K C 19) := ⟨⟨fC19, _, _, G_C19, g_C19, kC19, b_C19⟩⟩
  have G_C20 : FnOk P w K mg base CX0 4 fC20 _ ["state", "handed"] (spC K C 20) := ok20 F_C20 T B c_Ne c_Di
  have c_C20 : Cl P w K mg base 4 "mend" (spC K C 20) := ⟨⟨fC20, _, _, G_C20, g_C20, kC20, b_C20⟩⟩
  have G_C21 : FnOk P w K mg base CX0 5 fC21 _ ["state", "handed"] (spC K C 21) := ok21 F_C21 T c_Ct c_Gc
  have c_C21 : Cl P w K mg base 5 "cover" (spC K C 21) := ⟨⟨fC21, _, _, G_C21, g_C21, kC21, b_C21⟩⟩
  have G_C22 : FnOk P w K mg base CX0 7 fC22 _ ["state", "handed"] (spC K C 22) := ok22 F_C22 T c_Ct c_Bc c_Nw
  have c_C22 : Cl P w K mg base 7 "needed" (spC K C 22) := ⟨⟨fC22, _, _, G_C22, g_C22, kC22, b_C22⟩⟩
  have G_C23 : FnOk P w K mg base CX0 1 fC23 _ ["state", "handed"] (spC K C 23) := ok23 F_C23 T B
  have c_C23 : Cl P w K mg base 1 "told" (spC K C 23) := ⟨⟨fC23, _, _, G_C23, g_C23, kC23, b_C23⟩⟩
  have G_Iw : FnOk P w K mg base CX0 2 fIw _ ["bits", "letter", "value"] spIw := okIw F_Iw gM c_Wc
  have c_Iw : Cl P w K mg base 2 "is_wrong" spIw := ⟨⟨fIw, _, _, G_Iw, g_Iw, kIw, b_Iw⟩⟩
  have G_Aw : FnOk P w K mg base CX0 3 fAw _ ["bits", "letters", "handed"] (spAw K) := okAw F_Aw B c_Iw
  have c_Aw : Cl P w K mg base 3 "any_wrong" (spAw K) := ⟨⟨fAw, _, _, G_Aw, g_Aw, kAw, b_Aw⟩⟩
  have TB : Tab P w K mg base C := by
    refine ⟨⟨aH, PySem.W.mg_of X G aH_, fun H => .inr ⟨_, itH, nH, lH, rfl, rfl, zH, vals_of _ _ vH⟩⟩, ⟨aD, [fC0, fC1, fC2, fC3, fC4, fC5, fC6, fC7, fC8, fC9, fC10, fC11, fC12, fC13, fC14, fC15, fC16, fC17, fC18, fC19, fC20, fC21, fC22, fC23], PySem.W.mg_of X G aD_, fun H => .inr ⟨_, _, nD, lD, rfl, rfl, (by show 24 ≤ sizeLine; decide), vals_of _ _ rfl⟩, fun k hk => ?_⟩⟩
    match k, hk with
    | 0, _ => exact ⟨fC0, _, rfl, G_C0.mono (by decide), kC0, b_C0⟩
    | 1, _ => exact ⟨fC1, _, rfl, G_C1.mono (by decide), kC1, b_C1⟩
    | 2, _ => exact ⟨fC2, _, rfl, G_C2.mono (by decide), kC2, b_C2⟩
    | 3, _ => exact ⟨fC3, _, rfl, G_C3.mono (by decide), kC3, b_C3⟩
    | 4, _ => exact ⟨fC4, _, rfl, G_C4.mono (by decide), kC4, b_C4⟩
    | 5, _ => exact ⟨fC5, _, rfl, G_C5.mono (by decide), kC5, b_C5⟩
    | 6, _ => exact ⟨fC6, _, rfl, G_C6.mono (by decide), kC6, b_C6⟩
    | 7, _ => exact ⟨fC7, _, rfl, G_C7.mono (by decide), kC7, b_C7⟩
    | 8, _ => exact ⟨fC8, _, rfl, G_C8.mono (by decide), kC8, b_C8⟩
    | 9, _ => exact ⟨fC9, _, rfl, G_C9.mono (by decide), kC9, b_C9⟩
    | 10, _ => exact ⟨fC10, _, rfl, G_C10.mono (by decide), kC10, b_C10⟩
    | 11, _ => exact ⟨fC11, _, rfl, G_C11.mono (by decide), kC11, b_C11⟩
    | 12, _ => exact ⟨fC12, _, rfl, G_C12.mono (by decide), kC12, b_C12⟩
    | 13, _ => exact ⟨fC13, _, rfl, G_C13.mono (by decide), kC13, b_C13⟩
    | 14, _ => exact ⟨fC14, _, rfl, G_C14.mono (by decide), kC14, b_C14⟩
    | 15, _ => exact ⟨fC15, _, rfl, G_C15.mono (by decide), kC15, b_C15⟩
    | 16, _ => exact ⟨fC16, _, rfl, G_C16.mono (by decide), kC16, b_C16⟩
    | 17, _ => exact ⟨fC17, _, rfl, G_C17.mono (by decide), kC17, b_C17⟩
    | 18, _ => exact ⟨fC18, _, rfl, G_C18.mono (by decide), kC18, b_C18⟩
    | 19, _ => exact ⟨fC19, _, rfl, G_C19.mono (by decide), kC19, b_C19⟩
    | 20, _ => exact ⟨fC20, _, rfl, G_C20.mono (by decide), kC20, b_C20⟩
    | 21, _ => exact ⟨fC21, _, rfl, G_C21.mono (by decide), kC21, b_C21⟩
    | 22, _ => exact ⟨fC22, _, rfl, G_C22.mono (by decide), kC22, b_C22⟩
    | 23, _ => exact ⟨fC23, _, rfl, G_C23.mono (by decide), kC23, b_C23⟩
    | m + 24, h => exact absurd (show m + 24 < 24 from h) (by omega)
  have G_In : FnOk P w K mg base CX0 1 fIn _ ["self"] (spIn C) := okIn F_In T
  have G_An : FnOk P w K mg base CX0 8 fAn _ ["state", "number", "handed"] (spA K C) := okAn F_An T B TB c_Aw
  exact okAs F_As T B TB (PySem.W.mg_of X G aC) ⟨mk, aIn, iIn, kc⟩ G_In b_In ⟨⟨fAn, _, _, G_An, g_An, kAn, b_An⟩⟩ every
end BC
open PySem PySem.W PyProof.Rows
set_option maxRecDepth 100000 in
set_option maxHeartbeats 8000000 in
theorem PySem.Challenge.cw_ballscover_s01_answers_holds : PySem.Challenge.rw_ballscover_s01_answers.Holds := by
  w_on; k_headS; (case hw => exact ⟨[.list [.int 0, .int 1]], by decide +kernel, by decide +kernel⟩)
  k_fillS
  refine L2.walk_specK (r := PySem.Challenge.rw_ballscover_s01_answers) (k := 9) (CX := L2.CX0) (ps := ["calls"]) (sp := BC.spAs) (by decide +kernel) rfl rfl ⟨rfl, by decide, by decide⟩ (fun w h Y => PySem.W.kIn_of Y) ?F ?S (fun _ _ _ _ z => z)
  case F =>
    intro w mg fa h Y KX G hmg
    refine' BC.all_mk KX G hmg ?aWc ?lWc ?cWc ?kWc ?aWt ?lWt ?cWt ?kWt ?aDi ?lDi ?cDi ?kDi ?aBs ?lBs ?cBs ?kBs ?aHc ?lHc ?cHc ?kHc ?aHs ?lHs ?cHs ?kHs ?aWh ?lWh ?cWh ?kWh ?aWn ?lWn ?cWn ?kWn ?aBc ?lBc ?cBc ?kBc ?aBa ?lBa ?cBa ?kBa ?aBf ?lBf ?cBf ?kBf ?aNw ?lNw ?cNw ?kNw ?aCr ?lCr ?cCr ?kCr ?aAr ?lAr ?cAr ?kAr ?aNe ?lNe ?cNe ?kNe ?aBr ?lBr ?cBr ?kBr ?aCo ?lCo ?cCo ?kCo ?aGc ?lGc ?cGc ?kGc ?aWp ?lWp ?cWp ?kWp ?aCd ?lCd ?cCd ?kCd ?aFr ?lFr ?cFr ?kFr ?aFd ?lFd ?cFd ?kFd ?aSg ?lSg ?cSg ?kSg ?aSs ?lSs ?cSs ?kSs ?aRs ?lRs ?cRs ?kRs ?aRz ?lRz ?cRz ?kRz ?aTi ?lTi ?cTi ?kTi ?aPw ?lPw ?cPw ?kPw ?aCt ?lCt ?cCt ?kCt ?aC0 ?lC0 ?cC0 ?kC0 ?aC1 ?lC1 ?cC1 ?kC1 ?aC2 ?lC2 ?cC2 ?kC2 ?aC3 ?lC3 ?cC3 ?kC3 ?aC4 ?lC4 ?cC4 ?kC4 ?aC5 ?lC5 ?cC5 ?kC5 ?aC6 ?lC6 ?cC6 ?kC6 ?aC7 ?lC7 ?cC7 ?kC7 ?aC8 ?lC8 ?cC8 ?kC8 ?aC9 ?lC9 ?cC9 ?kC9 ?aC10 ?lC10 ?cC10 ?kC10 ?aC11 ?lC11 ?cC11 ?kC11 ?aC12 ?lC12 ?cC12 ?kC12 ?aC13 ?lC13 ?cC13 ?kC13 ?aC14 ?lC14 ?cC14 ?kC14 ?aC15 ?lC15 ?cC15 ?kC15 ?aC16 ?lC16 ?cC16 ?kC16 ?aC17 ?lC17 ?cC17 ?kC17 ?aC18 ?lC18 ?cC18 ?kC18 ?aC19 ?lC19 ?cC19 ?kC19 ?aC20 ?lC20 ?cC20 ?kC20 ?aC21 ?lC21 ?cC21 ?kC21 ?aC22 ?lC22 ?cC22 ?kC22 ?aC23 ?lC23 ?cC23 ?kC23 ?aIw ?lIw ?cIw ?kIw ?aAw ?lAw ?cAw ?kAw ?aAn ?lAn ?cAn ?kAn ?aAs ?lAs ?cAs ?kAs ?aIn ?iIn ?lIn ?cIn ?kIn ?aC ?pg ?hd ?po ?sa ?mk ?kc ?nB ?nT ?aM ?aH_ ?lH ?zH ?vH ?aD_ ?lD ?zlen ?zrange ?zmin ?zmax ?zsorted ?zlist ?zall ?zany ?zzip ?zenumerate ?zsum ?every
    (case aC => k_is)
    (case aWc => k_is)
    (case lWc => k_is)
    (case cWc => k_is)
    (case kWc => k_is)
    (case aWt => k_is)
    (case lWt => k_is)
    (case cWt => k_is)
    (case kWt => k_is)
    (case aDi => k_is)
    (case lDi => k_is)
    (case cDi => k_is)
    (case kDi => k_is)
    (case aBs => k_is)
    (case lBs => k_is)
    (case cBs => k_is)
    (case kBs => k_is)
    (case aHc => k_is)
    (case lHc => k_is)
    (case cHc => k_is)
    (case kHc => k_is)
    (case aHs => k_is)
    (case lHs => k_is)
    (case cHs => k_is)
    (case kHs => k_is)
    (case aWh => k_is)
    (case lWh => k_is)
    (case cWh => k_is)
    (case kWh => k_is)
    (case aWn => k_is)
    (case lWn => k_is)
    (case cWn => k_is)
    (case kWn => k_is)
    (case aBc => k_is)
    (case lBc => k_is)
    (case cBc => k_is)
    (case kBc => k_is)
    (case aBa => k_is)
    (case lBa => k_is)
    (case cBa => k_is)
    (case kBa => k_is)
    (case aBf => k_is)
    (case lBf => k_is)
    (case cBf => k_is)
    (case kBf => k_is)
    (case aNw => k_is)
    (case lNw => k_is)
    (case cNw => k_is)
    (case kNw => k_is)
    (case aCr => k_is)
    (case lCr => k_is)
    (case cCr => k_is)
    (case kCr => k_is)
    (case aAr => k_is)
    (case lAr => k_is)
    (case cAr => k_is)
    (case kAr => k_is)
    (case aNe => k_is)
    (case lNe => k_is)
    (case cNe => k_is)
    (case kNe => k_is)
    (case aBr => k_is)
    (case lBr => k_is)
    (case cBr => k_is)
    (case kBr => k_is)
    (case aCo => k_is)
    (case lCo => k_is)
    (case cCo => k_is)
    (case kCo => k_is)
    (case aGc => k_is)
    (case lGc => k_is)
    (case cGc => k_is)
    (case kGc => k_is)
    (case aWp => k_is)
    (case lWp => k_is)
    (case cWp => k_is)
    (case kWp => k_is)
    (case aCd => k_is)
    (case lCd => k_is)
    (case cCd => k_is)
    (case kCd => k_is)
    (case aFr => k_is)
    (case lFr => k_is)
    (case cFr => k_is)
    (case kFr => k_is)
    (case aFd => k_is)
    (case lFd => k_is)
    (case cFd => k_is)
    (case kFd => k_is)
    (case aSg => k_is)
    (case lSg => k_is)
    (case cSg => k_is)
    (case kSg => k_is)
    (case aSs => k_is)
    (case lSs => k_is)
    (case cSs => k_is)
    (case kSs => k_is)
    (case aRs => k_is)
    (case lRs => k_is)
    (case cRs => k_is)
    (case kRs => k_is)
    (case aRz => k_is)
    (case lRz => k_is)
    (case cRz => k_is)
    (case kRz => k_is)
    (case aTi => k_is)
    (case lTi => k_is)
    (case cTi => k_is)
    (case kTi => k_is)
    (case aPw => k_is)
    (case lPw => k_is)
    (case cPw => k_is)
    (case kPw => k_is)
    (case aCt => k_is)
    (case lCt => k_is)
    (case cCt => k_is)
    (case kCt => k_is)
    (case aC0 => k_is)
    (case lC0 => k_is)
    (case cC0 => k_is)
    (case kC0 => k_is)
    (case aC1 => k_is)
    (case lC1 => k_is)
    (case cC1 => k_is)
    (case kC1 => k_is)
    (case aC2 => k_is)
    (case lC2 => k_is)
    (case cC2 => k_is)
    (case kC2 => k_is)
    (case aC3 => k_is)
    (case lC3 => k_is)
    (case cC3 => k_is)
    (case kC3 => k_is)
    (case aC4 => k_is)
    (case lC4 => k_is)
    (case cC4 => k_is)
    (case kC4 => k_is)
    (case aC5 => k_is)
    (case lC5 => k_is)
    (case cC5 => k_is)
    (case kC5 => k_is)
    (case aC6 => k_is)
    (case lC6 => k_is)
    (case cC6 => k_is)
    (case kC6 => k_is)
    (case aC7 => k_is)
    (case lC7 => k_is)
    (case cC7 => k_is)
    (case kC7 => k_is)
    (case aC8 => k_is)
    (case lC8 => k_is)
    (case cC8 => k_is)
    (case kC8 => k_is)
    (case aC9 => k_is)
    (case lC9 => k_is)
    (case cC9 => k_is)
    (case kC9 => k_is)
    (case aC10 => k_is)
    (case lC10 => k_is)
    (case cC10 => k_is)
    (case kC10 => k_is)
    (case aC11 => k_is)
    (case lC11 => k_is)
    (case cC11 => k_is)
    (case kC11 => k_is)
    (case aC12 => k_is)
    (case lC12 => k_is)
    (case cC12 => k_is)
    (case kC12 => k_is)
    (case aC13 => k_is)
    (case lC13 => k_is)
    (case cC13 => k_is)
    (case kC13 => k_is)
    (case aC14 => k_is)
    (case lC14 => k_is)
    (case cC14 => k_is)
    (case kC14 => k_is)
    (case aC15 => k_is)
    (case lC15 => k_is)
    (case cC15 => k_is)
    (case kC15 => k_is)
    (case aC16 => k_is)
    (case lC16 => k_is)
    (case cC16 => k_is)
    (case kC16 => k_is)
    (case aC17 => k_is)
    (case lC17 => k_is)
    (case cC17 => k_is)
    (case kC17 => k_is)
    (case aC18 => k_is)
    (case lC18 => k_is)
    (case cC18 => k_is)
    (case kC18 => k_is)
    (case aC19 => k_is)
    (case lC19 => k_is)
    (case cC19 => k_is)
    (case kC19 => k_is)
    (case aC20 => k_is)
    (case lC20 => k_is)
    (case cC20 => k_is)
    (case kC20 => k_is)
    (case aC21 => k_is)
    (case lC21 => k_is)
    (case cC21 => k_is)
    (case kC21 => k_is)
    (case aC22 => k_is)
    (case lC22 => k_is)
    (case cC22 => k_is)
    (case kC22 => k_is)
    (case aC23 => k_is)
    (case lC23 => k_is)
    (case cC23 => k_is)
    (case kC23 => k_is)
    (case aIw => k_is)
    (case lIw => k_is)
    (case cIw => k_is)
    (case kIw => k_is)
    (case aAw => k_is)
    (case lAw => k_is)
    (case cAw => k_is)
    (case kAw => k_is)
    (case aAn => k_is)
    (case lAn => k_is)
    (case cAn => k_is)
    (case kAn => k_is)
    (case aAs => k_is)
    (case lAs => k_is)
    (case cAs => k_is)
    (case kAs => k_is)
    (case aIn => k_is)
    (case iIn => k_is)
    (case lIn => k_is)
    (case cIn => k_is)
    (case kIn => k_is)
    (case pg => k_is)
    (case hd => k_is)
    (case po => k_is)
    (case sa => k_is)
    (case mk => k_is)
    (case kc => k_is)
    (case nB => k_is)
    (case nT => k_is)
    (case aM => k_is)
    (case aH_ => k_is)
    (case lH => k_is)
    (case zH => decide +kernel)
    (case vH => decide +kernel)
    (case aD_ => k_is)
    (case lD => k_is)
    (case zlen => k_is)
    (case zrange => k_is)
    (case zmin => k_is)
    (case zmax => k_is)
    (case zsorted => k_is)
    (case zlist => k_is)
    (case zall => k_is)
    (case zany => k_is)
    (case zzip => k_is)
    (case zenumerate => k_is)
    (case zsum => k_is)
    (case every => exact fun k h => h)
  case S =>
    intro K H xs a hO hwi hask hx
    cases hx with
    | cons h1 h2 =>
      cases h2
      cases h1 with
      | lst hs ha =>
        have e := L2.ints_dw a.1 _ ha
        subst e
        have q : ((Codec.inLen 0 180 a.1 && a.1.all (Codec.inInt 0 2147483647)) && true) = true := hwi
        rw [Bool.and_eq_true, Bool.and_eq_true] at q
        obtain ⟨cs, asked⟩ := BC.asked_of hask
        exact ⟨_, a.1, cs, rfl, hs, (Codec.inNat_iff.mp q.1.1).2, asked, fun H' p hp => .lst (L2.SqL.of hp) (L2.dw_ints _)⟩
#print axioms PySem.Challenge.cw_ballscover_s01_answers_holds
