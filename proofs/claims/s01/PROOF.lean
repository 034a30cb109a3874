import PyProof.Rows.All
import Wide.All
import OpenK.AllK
import Wide.FinOn
import Open.SpecLaws
import KE.OsGo
import KE.GoesEnumKw
import KE.DataFind
import HandS.ForSpec
import HandS.ForMost
import HandS.Walk
import HandS.Deep
import HandS.SetFor
import HandS.SortKw
import PySem.Challenge.RW_broughtover_s01_answers
import PyAg08
set_option Elab.async false
/-! The mathematics of the specification alone: what holds of every world that a list of calls reaches. -/
namespace Bo
open Ag08
/-! ### the sum -/
/-- the weighted sum, the first weight k + 1 -/
def wsum : Nat → List Nat → Nat
  | _, [] => 0
  | k, x :: l => (k + 1) * x + wsum (k + 1) l
theorem fold_wsum : ∀ (l : List Nat) (k m : Nat), (l.zipIdx k).foldl (fun (m : Nat) (x : Nat × Nat) => m + (x.2 + 1) * x.1) m = m + wsum k l
  | [], k, m => by simp [wsum]
  | x :: l, k, m => by
    rw [List.zipIdx_cons, List.foldl_cons, fold_wsum l (k + 1)]
    simp only [wsum]
    omega
theorem sumOf_eq (l : List Nat) : sumOf l = wsum 0 l % 10007 := by
  unfold sumOf
  rw [fold_wsum, Nat.zero_add]
  rfl
theorem wsum_app : ∀ (a : List Nat) (b : List Nat) (k : Nat), wsum k (a ++ b) = wsum k a + wsum (k + a.length) b
  | [], b, k => by simp [wsum]
  | x :: a, b, k => by
    have e : k + 1 + a.length = k + (a.length + 1) := by omega
    simp only [List.cons_append, wsum, wsum_app a b (k + 1), List.length_cons, e]
    omega
theorem take_more {α : Type} : ∀ {l : List α} {i : Nat} {x : α}, l[i]? = some x → l.take (i + 1) = l.take i ++ [x]
  | [], i, x, h => by simp at h
  | a :: l, 0, x, h => by
    have e : a = x := Option.some.inj h
    subst e
    rfl
  | a :: l, i + 1, x, h => by
    have ih := take_more (l := l) (i := i) (x := x) h
    show a :: l.take (i + 1) = a :: l.take i ++ [x]
    rw [ih]
    rfl
theorem wsum_more {l : List Nat} {i x : Nat} (h : l[i]? = some x) : wsum 0 (l.take (i + 1)) = wsum 0 (l.take i) + (i + 1) * x := by
  have hi : i < l.length := (List.getElem?_eq_some_iff.mp h).1
  have e : (l.take i).length = i := by rw [List.length_take]; omega
  rw [take_more h, wsum_app, e]
  simp [wsum]
theorem wsum_set : ∀ (l : List Nat) (p k x v : Nat), l[p]? = some x → wsum k (l.set p v) + (k + p + 1) * x = wsum k l + (k + p + 1) * v
  | [], p, k, x, v, h => by simp at h
  | a :: l, 0, k, x, v, h => by
    have e : a = x := Option.some.inj h
    subst e
    simp only [List.set, wsum, Nat.add_zero]
    omega
  | a :: l, p + 1, k, x, v, h => by
    have ih := wsum_set l p (k + 1) x v h
    have e : k + 1 + p + 1 = k + (p + 1) + 1 := by omega
    rw [e] at ih
    simp only [List.set, wsum]
    omega
theorem cop : ∀ p, p < 14 → Nat.Coprime 10007 (p + 1) := by decide
theorem mod_lt_ne {A B p x v : Nat} (hp : p < 14) (hv : v < 10007) (hne : x < v) (e : A + (p + 1) * x = B + (p + 1) * v) : A % 10007 ≠ B % 10007 := by
  intro q
  have h1 : A = B + (p + 1) * (v - x) := by
    rw [Nat.mul_sub]
    have := Nat.mul_le_mul_left (p + 1) (Nat.le_of_lt hne)
    omega
  have h2 : 10007 ∣ (p + 1) * (v - x) := by
    generalize (p + 1) * (v - x) = y at h1
    omega
  have h3 : 10007 ∣ v - x := Nat.Coprime.dvd_of_dvd_mul_left (cop p hp) h2
  have h4 := Nat.le_of_dvd (by omega) h3
  omega
/-- a number changed to another one: 10007 has no part in common with the weights 1 to 14 -/
theorem mod_ne {A B p x v : Nat} (hp : p < 14) (hx : x < 10007) (hv : v < 10007) (hne : x ≠ v) (e : A + (p + 1) * x = B + (p + 1) * v) : A % 10007 ≠ B % 10007 := by
  rcases Nat.lt_or_gt_of_ne hne with h | h
  · exact mod_lt_ne hp hv h e
  · exact (mod_lt_ne hp hx h e.symm).symm
theorem sum_set_ne {l : List Nat} {p x v : Nat} (hl : l.length ≤ 14) (h : l[p]? = some x) (hx : x < 10007) (hv : v < 10007) (hne : x ≠ v) : sumOf (l.set p v) ≠ sumOf l := by
  have hp : p < l.length := (List.getElem?_eq_some_iff.mp h).1
  rw [sumOf_eq, sumOf_eq]
  have e := wsum_set l p 0 x v h
  rw [Nat.zero_add] at e
  exact mod_ne (by omega) hx hv hne e
/-! ### letters -/
/-- cells told: cell, value, write -/
def flat3 (cs : List (Nat × Cell)) : List Nat := cs.flatMap fun c => [c.1, c.2.value, c.2.write]
theorem threes_flat3 : ∀ cs : List (Nat × Cell), threes (flat3 cs) = cs
  | [] => rfl
  | (c, ⟨v, w⟩) :: cs => by
    show (c, Cell.mk v w) :: threes (flat3 cs) = _
    rw [threes_flat3 cs]
theorem flat3_length : ∀ cs : List (Nat × Cell), (flat3 cs).length = 3 * cs.length
  | [] => rfl
  | c :: cs => by
    have ih := flat3_length cs
    show (flat3 cs).length + 1 + 1 + 1 = 3 * (cs.length + 1)
    omega
structure CellOk (now : Nat) (c : Cell) : Prop where
  v : c.value ≤ 9999
  w : c.write ≤ now
/-- what an unspoiled letter says -/
inductive Says (now : Nat) : Nat → List Nat → Prop
  | ask {num p since : Nat} : p < 4 → num ≤ 100 → since ≤ now → Says now 0 [num, p, since]
  | ans {num p since u : Nat} (cs : List (Nat × Cell)) : p < 4 → num ≤ 100 → since ≤ now → u ≤ now → cs.length ≤ 3 → (∀ c ∈ cs, c.1 < 12 ∧ CellOk now c.2) → Says now 1 (num :: p :: since :: u :: cs.length :: flat3 cs)
structure LetterOk (nn now : Nat) (x : Letter) : Prop where
  to_ : x.to_ < nn
  from_ : x.from_ < nn
  len : x.nums.length ≤ 14
  kind : x.kind = 0 ∨ x.kind = 1
  good : x.spoiled = 0 → x.sum = sumOf x.nums ∧ Says now x.kind x.nums
  bad : 0 < x.spoiled → sumOf x.nums ≠ x.sum
theorem LetterOk.says {nn now : Nat} {x : Letter} (h : LetterOk nn now x) (e : sumOf x.nums = x.sum) : Says now x.kind x.nums := by
  rcases Nat.eq_zero_or_pos x.spoiled with z | z
  · exact (h.good z).2
  · exact absurd e (h.bad z)
theorem Says.mono {now now' k : Nat} {l : List Nat} (h : Says now k l) (le : now ≤ now') : Says now' k l := by
  cases h with
  | ask a b c => exact .ask a b (by omega)
  | ans cs a b c d e f => exact .ans cs a b (by omega) (by omega) e fun c hc => ⟨(f c hc).1, (f c hc).2.v, Nat.le_trans (f c hc).2.w le⟩
theorem LetterOk.mono {nn now now' : Nat} {x : Letter} (h : LetterOk nn now x) (le : now ≤ now') : LetterOk nn now' x :=
  ⟨h.to_, h.from_, h.len, h.kind, fun z => ⟨(h.good z).1, (h.good z).2.mono le⟩, h.bad⟩
theorem flat3_lt {now : Nat} (hn : now ≤ 9999) : ∀ (cs : List (Nat × Cell)), (∀ c ∈ cs, c.1 < 12 ∧ CellOk now c.2) → ∀ m ∈ flat3 cs, m < 10007
  | [], _, m, hm => by cases hm
  | c :: cs, h, m, hm => by
    have h1 := h c (by simp)
    have e : flat3 (c :: cs) = c.1 :: c.2.value :: c.2.write :: flat3 cs := rfl
    rw [e] at hm
    simp only [List.mem_cons] at hm
    have := h1.2.v
    have := h1.2.w
    rcases hm with q | q | q | q
    · omega
    · omega
    · omega
    · exact flat3_lt hn cs (fun d hd => h d (by simp [hd])) m q
theorem Says.lt {now k : Nat} {l : List Nat} (h : Says now k l) (hn : now ≤ 9999) : ∀ m ∈ l, m < 10007 := by
  cases h with
  | ask a b c =>
    intro m hm
    simp only [List.mem_cons, List.not_mem_nil, or_false] at hm
    omega
  | ans cs a b c d e f =>
    intro m hm
    simp only [List.mem_cons] at hm
    rcases hm with q | q | q | q | q | q
    · omega
    · omega
    · omega
    · omega
    · omega
    · exact flat3_lt hn cs f m q
theorem Says.len {now k : Nat} {l : List Nat} (h : Says now k l) : l.length ≤ 14 := by
  cases h with
  | ask a b c => simp
  | ans cs a b c d e f =>
    simp only [List.length_cons, flat3_length]
    omega
theorem letter_ok {nn now kind to_ from_ : Nat} {l : List Nat} (h1 : to_ < nn) (h2 : from_ < nn) (h : Says now kind l) : LetterOk nn now (letter kind to_ from_ l) :=
  ⟨h1, h2, h.len, by cases h <;> simp [letter], fun _ => ⟨rfl, h⟩, fun z => absurd z (Nat.lt_irrefl 0)⟩
theorem spoil_ok {nn now : Nat} {x : Letter} {pos v : Nat} (hn : now ≤ 9999) (h : LetterOk nn now x) (h0 : x.spoiled = 0) (hp : pos ≤ x.nums.length) (hv : v ≤ 9999) (hne : (shown x)[pos]? ≠ some v) : LetterOk nn now (spoil x pos v) := by
  refine ⟨h.to_, h.from_, by simp only [spoil, List.length_set]; exact h.len, h.kind, fun z => ?_, fun _ => ?_⟩
  · simp [spoil] at z
  · obtain ⟨e, sy⟩ := h.good h0
    show sumOf (x.nums.set pos v) ≠ if pos = x.nums.length then v else x.sum
    by_cases c : pos = x.nums.length
    · rw [if_pos c, c, List.set_eq_of_length_le (Nat.le_refl _)]
      intro q
      refine hne ?_
      rw [c, shown, List.getElem?_append_right (Nat.le_refl _), Nat.sub_self]
      simp only [List.getElem?_cons_zero]
      rw [e, q]
    · rw [if_neg c, e]
      have hlt : pos < x.nums.length := by omega
      have hx : x.nums[pos]? = some x.nums[pos] := List.getElem?_eq_getElem hlt
      refine sum_set_ne h.len hx (sy.lt hn _ (List.getElem_mem hlt)) (by omega) fun q => hne ?_
      rw [shown, List.getElem?_append_left hlt, hx, q]
/-! ### nodes -/
structure NodeOk (t now i : Nat) (n : Node) : Prop where
  cells : n.cells.length = 12
  upto : n.upto.length = 4
  cell : ∀ c ∈ n.cells, CellOk now c
  upto_le : ∀ u ∈ n.upto, u ≤ now
  count : n.count ≤ t
  nodup : (n.asks.map Ask.num).Nodup
  asks : ∀ a ∈ n.asks, a.num ≤ n.count ∧ a.piece < 4 ∧ a.since ≤ n.upto.getD a.piece 0
  store : i = 0 → n.asks = []
structure Good (t : Nat) (s : State) : Prop where
  two : 2 ≤ s.nodes.length
  four : s.nodes.length ≤ 4
  room : s.letters.length ≤ 100
  few : s.writes.length ≤ 9999
  node : ∀ i n, s.nodes[i]? = some n → NodeOk t s.writes.length i n
  letter : ∀ x ∈ s.letters, LetterOk s.nodes.length s.writes.length x
theorem NodeOk.mono {t t' now now' i : Nat} {n : Node} (h : NodeOk t now i n) (ht : t ≤ t') (hn : now ≤ now') : NodeOk t' now' i n :=
  ⟨h.cells, h.upto, fun c hc => ⟨(h.cell c hc).v, Nat.le_trans (h.cell c hc).w hn⟩, fun u hu => Nat.le_trans (h.upto_le u hu) hn, Nat.le_trans h.count ht, h.nodup, h.asks, h.store⟩
theorem node_at {s : State} {i : Nat} (h : i < s.nodes.length) : s.nodes[i]? = some (node s i) := by
  unfold node
  rw [List.getElem?_eq_getElem h, List.getD_eq_getElem?_getD, List.getElem?_eq_getElem h]
  rfl
theorem node_of {s : State} {i : Nat} {n : Node} (h : s.nodes[i]? = some n) : node s i = n := by
  unfold node
  rw [List.getD_eq_getElem?_getD, h]
  rfl
theorem Good.at_ {t : Nat} {s : State} (g : Good t s) {i : Nat} (h : i < s.nodes.length) : NodeOk t s.writes.length i (Ag08.node s i) := g.node i _ (node_at h)
theorem getD_mem {l : List Nat} {p : Nat} (h : p < l.length) : l.getD p 0 ∈ l := by
  rw [List.getD_eq_getElem?_getD, List.getElem?_eq_getElem h]
  exact List.getElem_mem h
theorem cell_mem {n : Node} {c : Nat} (h : c < n.cells.length) : cell n c ∈ n.cells := by
  unfold cell
  rw [List.getD_eq_getElem?_getD, List.getElem?_eq_getElem h]
  exact List.getElem_mem h
/-- one node put in another's place -/
theorem Good.setNode {t : Nat} {s : State} (g : Good t s) {i : Nat} {n : Node} (h : NodeOk t s.writes.length i n) : Good t (setNode s i n) := by
  refine ⟨?_, ?_, g.room, g.few, fun j m hj => ?_, fun x hx => ?_⟩
  · simp only [Ag08.setNode, List.length_set]; exact g.two
  · simp only [Ag08.setNode, List.length_set]; exact g.four
  · simp only [Ag08.setNode] at hj ⊢
    rw [List.getElem?_set] at hj
    by_cases c : i = j
    · rw [if_pos c] at hj
      split at hj
      · cases hj
        rw [← c]
        exact h
      · cases hj
    · rw [if_neg c] at hj
      exact g.node j m hj
  · simp only [Ag08.setNode, List.length_set] at hx ⊢
    exact g.letter x hx
theorem Good.mono {t t' : Nat} {s : State} (g : Good t s) (h : t ≤ t') : Good t' s := ⟨g.two, g.four, g.room, g.few, fun i n e => (g.node i n e).mono h (Nat.le_refl _), g.letter⟩
/-- letters: fewer, or the same -/
theorem Good.letters {t : Nat} {s : State} (g : Good t s) {l : List Letter} (hl : l.length ≤ 100) (h : ∀ x ∈ l, LetterOk s.nodes.length s.writes.length x) : Good t { s with letters := l } := ⟨g.two, g.four, hl, g.few, g.node, h⟩
theorem Good.erase {t : Nat} {s : State} (g : Good t s) (k : Nat) : Good t { s with letters := s.letters.eraseIdx k } :=
  g.letters (Nat.le_trans (List.length_eraseIdx_le _ _) g.room) fun x hx => g.letter x (List.mem_of_mem_eraseIdx hx)
theorem Good.send {t : Nat} {s : State} (g : Good t s) {x : Letter} (h : LetterOk s.nodes.length s.writes.length x) : Good t (send s [x]) := by
  refine g.letters ?_ fun y hy => ?_
  · rw [List.length_take]; exact Nat.min_le_left _ _
  · have hy := List.mem_of_mem_take hy
    rw [List.mem_append] at hy
    rcases hy with q | q
    · exact g.letter y q
    · rw [List.mem_singleton] at q
      rw [q]
      exact h
end Bo

set_option Elab.async false
/-! Every call leaves a world of which the invariant holds. -/
namespace Bo
open Ag08
/-! ### what is answered to an ask -/
/-- the cells that are told -/
def toldC (n : Node) (p since : Nat) : List Nat := (cellsOf p).filter fun (c : Nat) => decide (since < (cell n c).write)
def told3 (n : Node) (p since : Nat) : List (Nat × Cell) := (toldC n p since).map fun c => (c, cell n c)
theorem told3_len (n : Node) (p since : Nat) : (told3 n p since).length = (toldC n p since).length := List.length_map _
theorem toldC_len (n : Node) (p since : Nat) : (toldC n p since).length ≤ 3 := by
  have h := List.length_filter_le (fun (c : Nat) => decide (since < (cell n c).write)) (cellsOf p)
  have e : (cellsOf p).length = 3 := by simp [cellsOf, EACH]
  unfold toldC
  omega
theorem flat3_map (n : Node) : ∀ l : List Nat, flat3 (l.map fun c => (c, cell n c)) = l.flatMap fun (c : Nat) => [c, (cell n c).value, (cell n c).write]
  | [] => rfl
  | c :: l => by
    have ih := flat3_map n l
    show c :: (cell n c).value :: (cell n c).write :: flat3 (l.map fun c => (c, cell n c)) = _
    rw [ih]
    rfl
theorem answer_eq (s : State) (i num p since : Nat) : answer s i num p since = num :: p :: since :: uptoOf s i p :: (told3 (node s i) p since).length :: flat3 (told3 (node s i) p since) := by
  rw [told3_len, told3, flat3_map]
  rfl
theorem cellsOf_lt {p c : Nat} (hp : p < 4) (h : c ∈ cellsOf p) : c < 12 := by
  simp only [cellsOf, EACH, List.mem_map, List.mem_range] at h
  obtain ⟨k, hk, rfl⟩ := h
  omega
theorem uptoOf_le {t : Nat} {s : State} (g : Good t s) {i p : Nat} (hi : i < s.nodes.length) (hp : p < 4) : uptoOf s i p ≤ s.writes.length := by
  unfold uptoOf
  split
  · exact Nat.le_refl _
  · have h := g.at_ hi
    exact h.upto_le _ (getD_mem (by rw [h.upto]; exact hp))
theorem answer_says {t : Nat} {s : State} (g : Good t s) {i num p since : Nat} (hi : i < s.nodes.length) (hp : p < 4) (hn : num ≤ 100) (hs : since ≤ s.writes.length) : Says s.writes.length 1 (answer s i num p since) := by
  rw [answer_eq]
  have h := g.at_ hi
  refine .ans _ hp hn hs (uptoOf_le g hi hp) (by rw [told3_len]; exact toldC_len _ _ _) fun c hc => ?_
  obtain ⟨d, hd, rfl⟩ := List.mem_map.mp hc
  have hd2 : d < 12 := cellsOf_lt hp (List.mem_filter.mp hd).1
  exact ⟨hd2, h.cell _ (cell_mem (by rw [h.cells]; exact hd2))⟩
/-! ### an answer taken -/
theorem ask_beq (a b : Ask) : (a == b) = decide (a = b) := by
  obtain ⟨n, p, s⟩ := a
  obtain ⟨n', p', s'⟩ := b
  show (n == n' && (p == p' && s == s')) = _
  by_cases h : (⟨n, p, s⟩ : Ask) = ⟨n', p', s'⟩
  · cases h
    simp
  · rw [decide_eq_false h]
    cases e : (n == n' && (p == p' && s == s'))
    · rfl
    · simp at e
      exact absurd (by rw [e.1, e.2.1, e.2.2]) h
theorem contains_mem {l : List Ask} {a : Ask} : l.contains a = true ↔ a ∈ l := by
  induction l with
  | nil => simp
  | cons b l ih =>
    rw [List.contains_cons, Bool.or_eq_true, ih, ask_beq]
    simp
theorem contains_false {l : List Ask} {a : Ask} : l.contains a = false ↔ a ∉ l := by
  rw [← contains_mem]
  simp
/-- the cells told are put in -/
def putAll (l : List (Nat × Cell)) (cs : List Cell) : List Cell := l.foldl (fun (k : List Cell) (y : Nat × Cell) => k.set y.1 y.2) cs
theorem putAll_len : ∀ (l : List (Nat × Cell)) (cs : List Cell), (putAll l cs).length = cs.length
  | [], _ => rfl
  | y :: l, cs => by
    show (putAll l (cs.set y.1 y.2)).length = _
    rw [putAll_len l, List.length_set]
theorem putAll_ok {now : Nat} : ∀ (l : List (Nat × Cell)) (cs : List Cell), (∀ y ∈ l, CellOk now y.2) → (∀ c ∈ cs, CellOk now c) → ∀ c ∈ putAll l cs, CellOk now c
  | [], _, _, h, c, hc => h c hc
  | y :: l, cs, hl, h, c, hc => by
    refine putAll_ok l (cs.set y.1 y.2) (fun z hz => hl z (by simp [hz])) (fun d hd => ?_) c hc
    rcases List.mem_or_eq_of_mem_set hd with q | q
    · exact h d q
    · rw [q]
      exact hl y (by simp)
/-- what a node is behind an answer that it waits for -/
def drop1 (n : Node) (num : Nat) : Node := { n with asks := n.asks.filter fun (a : Ask) => a.num != num }
def brought (n : Node) (p u : Nat) (l : List (Nat × Cell)) : Node := { n with cells := putAll l n.cells, upto := n.upto.set p u }
theorem drop1_ok {t now i : Nat} {n : Node} (h : NodeOk t now i n) (num : Nat) : NodeOk t now i (drop1 n num) :=
  ⟨h.cells, h.upto, h.cell, h.upto_le, h.count, (List.filter_sublist.map _).nodup h.nodup, fun a ha => h.asks a (List.mem_filter.mp ha).1, fun z => by simp [drop1, h.store z]⟩
theorem getD_set_le {l : List Nat} {p q u : Nat} (h : l.getD p 0 ≤ u) : l.getD q 0 ≤ (l.set p u).getD q 0 := by
  rw [List.getD_eq_getElem?_getD, List.getD_eq_getElem?_getD, List.getElem?_set]
  by_cases c : p = q
  · subst c
    by_cases d : p < l.length
    · rw [if_pos rfl, if_pos d]
      rw [List.getD_eq_getElem?_getD] at h
      exact h
    · rw [if_pos rfl, if_neg d, List.getElem?_eq_none (by omega)]
      exact Nat.le_refl _
  · rw [if_neg c]
    exact Nat.le_refl _
theorem brought_ok {t now i : Nat} {n : Node} (h : NodeOk t now i n) {p u : Nat} {l : List (Nat × Cell)} (hu : u ≤ now) (hl : ∀ y ∈ l, CellOk now y.2) (hp : n.upto.getD p 0 ≤ u) : NodeOk t now i (brought n p u l) := by
  refine ⟨?_, ?_, putAll_ok l _ hl h.cell, fun v hv => ?_, h.count, h.nodup, fun a ha => ?_, h.store⟩
  · show (putAll l n.cells).length = 12
    rw [putAll_len]
    exact h.cells
  · show (n.upto.set p u).length = 4
    rw [List.length_set]
    exact h.upto
  · rcases List.mem_or_eq_of_mem_set hv with q | q
    · exact h.upto_le v q
    · rw [q]
      exact hu
  · obtain ⟨h1, h2, h3⟩ := h.asks a ha
    exact ⟨h1, h2, Nat.le_trans h3 (getD_set_le hp)⟩
/-- an answer handed over to a node that runs, its sum being right -/
def accN (n : Node) (num p since u : Nat) (l : List (Nat × Cell)) : Node × Int :=
  if n.asks.contains ⟨num, p, since⟩ = false then (n, 0) else
  if u ≤ n.upto.getD p 0 then (drop1 n num, 0) else (brought (drop1 n num) p u l, 2)
theorem accN_ok {t now i : Nat} {n : Node} (h : NodeOk t now i n) {num p since u : Nat} {l : List (Nat × Cell)} (hu : u ≤ now) (hl : ∀ y ∈ l, CellOk now y.2) : NodeOk t now i (accN n num p since u l).1 := by
  unfold accN
  split
  · exact h
  · split
    · exact drop1_ok h num
    · rename_i c
      exact brought_ok (drop1_ok h num) hu hl (show n.upto.getD p 0 ≤ u by omega)
theorem setNode_self {s : State} {i : Nat} (h : i < s.nodes.length) : setNode s i (node s i) = s := by
  have e := node_at h
  unfold setNode
  have q : s.nodes.set i (node s i) = s.nodes := by
    apply List.ext_getElem?
    intro j
    rw [List.getElem?_set]
    by_cases c : i = j
    · subst c
      rw [if_pos rfl, if_pos h, e]
    · rw [if_neg c]
  rw [q]
theorem hand_down {s : State} {x : Letter} (h : (node s x.to_).up = false) : hand s x = (s, [0]) := by
  unfold hand
  simp only [h, if_true]
theorem hand_go {s : State} {x : Letter} (h : (node s x.to_).up = true) : ¬ ((node s x.to_).up = false) := by rw [h]; exact fun q => Bool.noConfusion q
theorem hand_bad {s : State} {x : Letter} (h : (node s x.to_).up = true) (hb : sumOf x.nums ≠ x.sum) : hand s x = (s, [3]) := by
  unfold hand
  dsimp only
  rw [if_neg (hand_go h), if_pos hb]
theorem hand_ask {s : State} {x : Letter} {num p since : Nat} (h : (node s x.to_).up = true) (hb : sumOf x.nums = x.sum) (hk : x.kind = 0) (hn : x.nums = [num, p, since]) :
    hand s x = (send s [letter 1 x.from_ x.to_ (answer s x.to_ num p since)], [1]) := by
  unfold hand
  dsimp only
  rw [if_neg (hand_go h), if_neg (fun q => q hb), hk, hn]
  rfl
theorem hand_ans {t : Nat} {s : State} (g : Good t s) {x : Letter} {num p since u : Nat} {cs : List (Nat × Cell)} (hi : x.to_ < s.nodes.length) (h : (node s x.to_).up = true) (hb : sumOf x.nums = x.sum) (hk : x.kind = 1)
    (hn : x.nums = num :: p :: since :: u :: cs.length :: flat3 cs) :
    hand s x = (setNode s x.to_ (accN (node s x.to_) num p since u cs).1, [(accN (node s x.to_) num p since u cs).2]) := by
  unfold hand
  dsimp only
  rw [if_neg (hand_go h), if_neg (fun q => q hb), hk, hn]
  show (if (node s x.to_).asks.contains ⟨num, p, since⟩ = false then (s, [0]) else
    if (node s x.to_).upto.getD p 0 < since ∨ u ≤ (node s x.to_).upto.getD p 0 then (setNode s x.to_ (drop1 (node s x.to_) num), [0]) else
    (setNode s x.to_ (brought (drop1 (node s x.to_) num) p u (threes (flat3 cs))), [2])) = _
  rw [threes_flat3]
  unfold accN
  by_cases c : (node s x.to_).asks.contains ⟨num, p, since⟩ = false
  · rw [if_pos c, if_pos c]
    show (s, _) = (setNode s x.to_ (node s x.to_), _)
    rw [setNode_self hi]
  · rw [if_neg c, if_neg c]
    have hm : (⟨num, p, since⟩ : Ask) ∈ (node s x.to_).asks := by
      cases e : (node s x.to_).asks.contains ⟨num, p, since⟩
      · exact absurd e c
      · exact contains_mem.mp e
    have hle : since ≤ (node s x.to_).upto.getD p 0 := ((g.at_ hi).asks _ hm).2.2
    by_cases d : u ≤ (node s x.to_).upto.getD p 0
    · rw [if_pos d, if_pos (.inr d)]
    · rw [if_neg d, if_neg (by omega)]
theorem Good.hand {t : Nat} {s : State} (g : Good t s) {x : Letter} (h : LetterOk s.nodes.length s.writes.length x) : Good t (hand s x).1 := by
  cases up : (Ag08.node s x.to_).up
  · rw [hand_down up]
    exact g
  · by_cases hb : sumOf x.nums = x.sum
    · have sy := h.says hb
      rcases h.kind with k | k
      · generalize hl : x.nums = l at sy
        rw [k] at sy
        cases sy with
        | ask hp hn hs =>
          rw [hand_ask up hb k hl]
          exact g.send (letter_ok h.from_ h.to_ (answer_says g h.to_ hp hn hs))
      · generalize hl : x.nums = l at sy
        rw [k] at sy
        cases sy with
        | ans cs hp hn hs hu h3 hc =>
          rw [hand_ans g h.to_ up hb k hl]
          exact g.setNode (accN_ok (g.at_ h.to_) hu fun y hy => (hc y hy).2)
    · rw [hand_bad up hb]
      exact g
/-! ### every call -/
theorem empty_ok (i : Nat) : NodeOk 0 0 i empty := by
  refine ⟨rfl, rfl, fun c hc => ?_, fun u hu => ?_, Nat.le_refl _, List.nodup_nil, fun a ha => (List.not_mem_nil ha).elim, fun _ => rfl⟩
  · have e := (List.mem_replicate.mp hc).2
    subst e
    exact ⟨Nat.zero_le _, Nat.le_refl _⟩
  · have e := (List.mem_replicate.mp hu).2
    omega
theorem fresh_good {n : Nat} (h2 : 2 ≤ n) (h4 : n ≤ 4) : Good 0 ⟨[], List.replicate n empty, []⟩ := by
  refine ⟨by simpa using h2, by simpa using h4, by simp, by simp, fun i m hm => ?_, fun x hx => (List.not_mem_nil hx).elim⟩
  have e : m = empty := List.eq_of_mem_replicate (List.mem_of_getElem? hm)
  rw [e]
  exact empty_ok i
/-- what the program's calls leave of a world -/
def GoodO (t : Nat) : Abs → Prop
  | none => True
  | some s => Good t s
/-- the world behind a write -/
def wrote (s : State) (c v : Nat) : State := { setNode s 0 { node s 0 with cells := (node s 0).cells.set c ⟨v, s.writes.length + 1⟩ } with writes := s.writes ++ [(c, v)] }
theorem wrote_good {t : Nat} {s : State} (g : Good t s) {c v : Nat} (hv : v ≤ 9999) (hw : s.writes.length < 9999) : Good t (wrote s c v) := by
  have h0 := g.at_ (i := 0) (by have := g.two; omega)
  have le : s.writes.length ≤ s.writes.length + 1 := Nat.le_succ _
  have h1 : NodeOk t (s.writes.length + 1) 0 { node s 0 with cells := (node s 0).cells.set c ⟨v, s.writes.length + 1⟩ } := by
    have h2 := h0.mono (Nat.le_refl t) le
    refine ⟨?_, h2.upto, fun d hd => ?_, h2.upto_le, h2.count, h2.nodup, h2.asks, h2.store⟩
    · rw [List.length_set]
      exact h2.cells
    · rcases List.mem_or_eq_of_mem_set hd with q | q
      · exact h2.cell d q
      · rw [q]
        exact ⟨hv, Nat.le_refl _⟩
  have lw : (wrote s c v).writes.length = s.writes.length + 1 := by simp [wrote]
  have ln : (wrote s c v).nodes.length = s.nodes.length := by simp [wrote, setNode]
  refine ⟨by rw [ln]; exact g.two, by rw [ln]; exact g.four, g.room, by rw [lw]; omega, fun j m hj => ?_, fun x hx => ?_⟩
  · rw [lw]
    simp only [wrote, setNode] at hj
    rw [List.getElem?_set] at hj
    by_cases e : 0 = j
    · rw [if_pos e] at hj
      split at hj
      · cases hj
        rw [← e]
        exact h1
      · cases hj
    · rw [if_neg e] at hj
      exact (g.node j m hj).mono (Nat.le_refl _) le
  · rw [lw, ln]
    exact (g.letter x hx).mono le
/-- the world behind an ask -/
def askedN (n : Node) (p : Nat) : Node := { n with count := n.count + 1, asks := n.asks ++ [⟨n.count + 1, p, n.upto.getD p 0⟩] }
def asked (s : State) (i j p : Nat) : State := send (setNode s i (askedN (node s i) p)) [letter 0 j i [(node s i).count + 1, p, (node s i).upto.getD p 0]]
theorem askedN_ok {t now i : Nat} {n : Node} (h : NodeOk t now i n) {p : Nat} (hp : p < 4) (hi : i ≠ 0) : NodeOk (t + 1) now i (askedN n p) := by
  refine ⟨h.cells, h.upto, h.cell, h.upto_le, Nat.succ_le_succ h.count, ?_, fun a ha => ?_, fun z => absurd z hi⟩
  · show ((n.asks ++ [_]).map Ask.num).Nodup
    rw [List.map_append, List.nodup_append]
    refine ⟨h.nodup, by simp, fun a ha b hb => ?_⟩
    obtain ⟨a', ha', rfl⟩ := List.mem_map.mp ha
    simp only [List.map_cons, List.map_nil, List.mem_singleton] at hb
    have := (h.asks a' ha').1
    omega
  · rcases List.mem_append.mp ha with q | q
    · obtain ⟨h1, h2, h3⟩ := h.asks a q
      exact ⟨Nat.le_succ_of_le h1, h2, h3⟩
    · have e := List.mem_singleton.mp q
      subst e
      exact ⟨Nat.le_refl _, hp, Nat.le_refl _⟩
theorem asked_good {t : Nat} {s : State} (g : Good t s) (ht : t + 1 ≤ 100) {i j p : Nat} (hi : i < s.nodes.length) (hj : j < s.nodes.length) (hp : p < 4) (hi0 : i ≠ 0) : Good (t + 1) (asked s i j p) := by
  have h := g.at_ hi
  have g1 : Good (t + 1) (setNode s i (askedN (node s i) p)) := (g.mono (Nat.le_succ t)).setNode (askedN_ok h hp hi0)
  have ln : (setNode s i (askedN (node s i) p)).nodes.length = s.nodes.length := by simp [setNode]
  refine g1.send (letter_ok (by rw [ln]; exact hj) (by rw [ln]; exact hi) (.ask hp ?_ ?_))
  · have := h.count
    omega
  · exact h.upto_le _ (getD_mem (by rw [h.upto]; exact hp))
theorem good_step {t : Nat} {o : Abs} (g : GoodO t o) (ht : t + 1 ≤ 100) (c : Call) : GoodO (t + 1) (step o c).1 := by
  have up : ∀ {s : State}, Good t s → Good (t + 1) s := fun g => g.mono (Nat.le_succ t)
  have upO : GoodO (t + 1) o := by
    cases o with
    | none => trivial
    | some s => exact up g
  cases c with
  | begin_ n =>
    show GoodO (t + 1) (if n < 2 ∨ 4 < n then (o, [-1]) else (some ⟨[], List.replicate n empty, []⟩, [0])).1
    split
    · exact upO
    · exact (fresh_good (by omega) (by omega)).mono (Nat.zero_le _)
  | write c v =>
    cases o with
    | none => trivial
    | some s =>
      simp only [step]
      split
      · exact upO
      · split
        · exact upO
        · split
          · exact upO
          · rename_i h1 h2 h3
            exact up (wrote_good g (c := c) (v := v) (by omega) (by simp only [now] at h3; omega))
  | ask i j p =>
    cases o with
    | none => trivial
    | some s =>
      simp only [step]
      split
      · exact upO
      · split
        · exact upO
        · rename_i h1 h2
          exact asked_good g ht (i := i) (j := j) (p := p) (by omega) (by omega) (by simp only [PIECES] at h1; omega) (by omega)
  | take k =>
    cases o with
    | none => trivial
    | some s =>
      simp only [step]
      split
      · exact upO
      · rename_i x hx
        exact up ((g.erase k).hand (g.letter x (List.mem_of_getElem? hx)))
  | keep k =>
    cases o with
    | none => trivial
    | some s =>
      simp only [step]
      split
      · exact upO
      · rename_i x hx
        exact up (g.hand (g.letter x (List.mem_of_getElem? hx)))
  | lose k =>
    cases o with
    | none => trivial
    | some s =>
      simp only [step]
      split
      · exact upO
      · exact up (g.erase k)
  | spoil k pos v =>
    cases o with
    | none => trivial
    | some s =>
      simp only [step]
      split
      · exact upO
      · rename_i x hx
        split
        · exact upO
        · split
          · exact upO
          · split
            · exact upO
            · rename_i h1 h2 h3
              refine up (g.letters (by rw [List.length_set]; exact g.room) fun y hy => ?_)
              rcases List.mem_or_eq_of_mem_set hy with q | q
              · exact g.letter y q
              · rw [q]
                exact spoil_ok g.few (g.letter x (List.mem_of_getElem? hx)) (by omega) (by omega) (by omega) h2
  | halt_ i =>
    cases o with
    | none => trivial
    | some s =>
      simp only [step]
      split
      · exact upO
      · split
        · exact upO
        · rename_i h1 h2
          have h := g.at_ (i := i) (by omega)
          exact up (g.setNode ⟨h.cells, h.upto, h.cell, h.upto_le, h.count, h.nodup, h.asks, h.store⟩)
  | start i =>
    cases o with
    | none => trivial
    | some s =>
      simp only [step]
      split
      · exact upO
      · split
        · exact upO
        · rename_i h1 h2
          have h := g.at_ (i := i) (by omega)
          exact up (g.setNode ⟨h.cells, h.upto, h.cell, h.upto_le, h.count, List.nodup_nil, fun a ha => (List.not_mem_nil ha).elim, fun _ => rfl⟩)
  | letters =>
    cases o with
    | none => trivial
    | some s => exact upO
  | node i =>
    cases o with
    | none => trivial
    | some s => exact upO
  | whole i =>
    cases o with
    | none => trivial
    | some s => exact upO
  | at_ i =>
    cases o with
    | none => trivial
    | some s => exact upO
end Bo

set_option Elab.async false
/-! The specification's calls in the forms that the bodies meet. -/
namespace Bo
open Ag08
theorem step_write (s : State) (c v : Nat) : step (some s) (.write c v) = if 12 ≤ c ∨ 9999 < v then (some s, [-1]) else if (node s 0).up = false then (some s, [-3]) else if 9999 ≤ s.writes.length then (some s, [-5]) else
    (some (wrote s c v), [((s.writes.length + 1 : Nat) : Int)]) := rfl
theorem step_ask (s : State) (i j p : Nat) : step (some s) (.ask i j p) = if i = 0 ∨ (s.nodes.length ≤ i ∨ (s.nodes.length ≤ j ∨ (i = j ∨ 4 ≤ p))) then (some s, [-1]) else if (node s i).up = false then (some s, [-3]) else
    (some (asked s i j p), [(((node s i).count + 1 : Nat) : Int)]) := rfl
theorem step_take_none {s : State} {k : Nat} (h : s.letters[k]? = none) : step (some s) (.take k) = (some s, [-1]) := by
  simp only [step, h]
theorem step_take {s : State} {k : Nat} {x : Letter} (h : s.letters[k]? = some x) : step (some s) (.take k) = (some (hand { s with letters := s.letters.eraseIdx k } x).1, (hand { s with letters := s.letters.eraseIdx k } x).2) := by
  simp only [step, h]
theorem step_keep_none {s : State} {k : Nat} (h : s.letters[k]? = none) : step (some s) (.keep k) = (some s, [-1]) := by
  simp only [step, h]
theorem step_keep {s : State} {k : Nat} {x : Letter} (h : s.letters[k]? = some x) : step (some s) (.keep k) = (some (hand s x).1, (hand s x).2) := by
  simp only [step, h]
theorem step_lose (s : State) (k : Nat) : step (some s) (.lose k) = if s.letters.length ≤ k then (some s, [-1]) else (some { s with letters := s.letters.eraseIdx k }, [0]) := rfl
theorem step_spoil_none {s : State} {k pos v : Nat} (h : s.letters[k]? = none) : step (some s) (.spoil k pos v) = (some s, [-1]) := by
  simp only [step, h]
theorem step_spoil {s : State} {k pos v : Nat} {x : Letter} (h : s.letters[k]? = some x) : step (some s) (.spoil k pos v) = if x.nums.length < pos ∨ 9999 < v then (some s, [-1]) else if (shown x)[pos]? = some v then (some s, [-2]) else if 0 < x.spoiled then (some s, [-4]) else
    (some { s with letters := s.letters.set k (spoil x pos v) }, [0]) := by
  simp only [step, h]
theorem step_halt (s : State) (i : Nat) : step (some s) (.halt_ i) = if s.nodes.length ≤ i then (some s, [-1]) else if (node s i).up = false then (some s, [-2]) else (some (setNode s i { node s i with up := false }), [0]) := rfl
theorem step_start (s : State) (i : Nat) : step (some s) (.start i) = if s.nodes.length ≤ i then (some s, [-1]) else if (node s i).up = true then (some s, [-2]) else (some (setNode s i { node s i with up := true, asks := [] }), [0]) := rfl
theorem step_begin (o : Abs) (n : Nat) : step o (.begin_ n) = if n < 2 ∨ 4 < n then (o, [-1]) else (some ⟨[], List.replicate n empty, []⟩, [0]) := by
  cases o <;> rfl
theorem step_none {c : Call} (h : ∀ n, c ≠ .begin_ n) : step none c = (none, [-9]) := by
  cases c with
  | begin_ n => exact absurd rfl (h n)
  | _ => rfl
theorem hand_one {t : Nat} {s : State} (g : Good t s) {x : Letter} (h : LetterOk s.nodes.length s.writes.length x) : ∃ r, (hand s x).2 = [r] := by
  cases up : (node s x.to_).up
  · rw [hand_down up]
    exact ⟨_, rfl⟩
  · by_cases hb : sumOf x.nums = x.sum
    · have sy := h.says hb
      rcases h.kind with k | k
      · generalize hl : x.nums = l at sy
        rw [k] at sy
        cases sy with
        | ask hp hn hs =>
          rw [hand_ask up hb k hl]
          exact ⟨_, rfl⟩
      · generalize hl : x.nums = l at sy
        rw [k] at sy
        cases sy with
        | ans cs hp hn hs hu h3 hc =>
          rw [hand_ans g h.to_ up hb k hl]
          exact ⟨_, rfl⟩
    · rw [hand_bad up hb]
      exact ⟨_, rfl⟩
end Bo

set_option Elab.async false
/-! The calls one behind another, as the specification reads them. -/
namespace Bo
open Ag08
/-- a call by its number and its whole numbers -/
inductive Dec : Nat → List Nat → Ag08.Call → Prop
  | begin_ (n : Nat) : Dec 0 [n] (.begin_ n)
  | write (c v : Nat) : Dec 1 [c, v] (.write c v)
  | ask (i j p : Nat) : Dec 2 [i, j, p] (.ask i j p)
  | take (k : Nat) : Dec 3 [k] (.take k)
  | keep (k : Nat) : Dec 4 [k] (.keep k)
  | lose (k : Nat) : Dec 5 [k] (.lose k)
  | spoil (k q v : Nat) : Dec 6 [k, q, v] (.spoil k q v)
  | halt_ (i : Nat) : Dec 7 [i] (.halt_ i)
  | start (i : Nat) : Dec 8 [i] (.start i)
  | letters : Dec 9 [] .letters
  | node (i : Nat) : Dec 10 [i] (.node i)
  | whole (i : Nat) : Dec 11 [i] (.whole i)
  | at_ (t : Nat) : Dec 12 [t] (.at_ t)
def arity : List Nat := [1, 2, 3, 1, 1, 1, 3, 1, 1, 0, 1, 1, 1]
def up (l : List Nat) : List Int := l.map fun (n : Nat) => (n : Int)
theorem whole_id (c : List (List Int)) : PyAg08.whole c = c := by
  unfold PyAg08.whole
  split <;> rfl
theorem map_whole (l : List (List (List Int))) : l.map PyAg08.whole = l := by
  have e : PyAg08.whole = id := funext whole_id
  rw [e, List.map_id]
theorem shape_lt {p : Nat} {n k : Nat} (h : PyAg08.shape (p : Int) = some (n, k)) : p < 13 := by
  rcases Nat.lt_or_ge p 13 with z | z
  · exact z
  · have e : PyAg08.shape (p : Int) = none := by
      unfold PyAg08.shape
      rw [if_neg (by omega), if_neg (by omega), if_neg (by omega), if_neg (by omega), if_neg (by omega), if_neg (by omega), if_neg (by omega), if_neg (by omega), if_neg (by omega), if_neg (by omega), if_neg (by omega), if_neg (by omega), if_neg (by omega)]
    rw [e] at h
    cases h
theorem shape_eq : ∀ p : Nat, p < 13 → PyAg08.shape (p : Int) = some (arity.getD p 0, 0) := by
  decide
theorem dec_of {p : Nat} (h : p < 13) {as : List Nat} (hl : as.length = arity.getD p 0) : ∃ cl, Dec p as cl ∧ Ag08Neutral.callOf [(p : Int) :: up as] = some cl := by
  have e1 : ∀ {l : List Nat}, l.length = 1 → ∃ a, l = [a] := fun {l} h => by
    match l, h with
    | [a], _ => exact ⟨a, rfl⟩
  have e2 : ∀ {l : List Nat}, l.length = 2 → ∃ a b, l = [a, b] := fun {l} h => by
    match l, h with
    | [a, b], _ => exact ⟨a, b, rfl⟩
  have e3 : ∀ {l : List Nat}, l.length = 3 → ∃ a b c, l = [a, b, c] := fun {l} h => by
    match l, h with
    | [a, b, c], _ => exact ⟨a, b, c, rfl⟩
  match p, h with
  | 0, _ => obtain ⟨a, rfl⟩ := e1 hl; exact ⟨_, .begin_ a, rfl⟩
  | 1, _ => obtain ⟨a, b, rfl⟩ := e2 hl; exact ⟨_, .write a b, rfl⟩
  | 2, _ => obtain ⟨a, b, c, rfl⟩ := e3 hl; exact ⟨_, .ask a b c, rfl⟩
  | 3, _ => obtain ⟨a, rfl⟩ := e1 hl; exact ⟨_, .take a, rfl⟩
  | 4, _ => obtain ⟨a, rfl⟩ := e1 hl; exact ⟨_, .keep a, rfl⟩
  | 5, _ => obtain ⟨a, rfl⟩ := e1 hl; exact ⟨_, .lose a, rfl⟩
  | 6, _ => obtain ⟨a, b, c, rfl⟩ := e3 hl; exact ⟨_, .spoil a b c, rfl⟩
  | 7, _ => obtain ⟨a, rfl⟩ := e1 hl; exact ⟨_, .halt_ a, rfl⟩
  | 8, _ => obtain ⟨a, rfl⟩ := e1 hl; exact ⟨_, .start a, rfl⟩
  | 9, _ => obtain rfl := List.eq_nil_of_length_eq_zero hl; exact ⟨_, .letters, rfl⟩
  | 10, _ => obtain ⟨a, rfl⟩ := e1 hl; exact ⟨_, .node a, rfl⟩
  | 11, _ => obtain ⟨a, rfl⟩ := e1 hl; exact ⟨_, .whole a, rfl⟩
  | 12, _ => obtain ⟨a, rfl⟩ := e1 hl; exact ⟨_, .at_ a, rfl⟩
/-- what is still to come: the calls from a place on, and what they will answer -/
structure Rest (l : List Nat) (k : Nat) (o : Abs) (t : Nat) (out : List Int) (due : List Int) : Prop where
  ex : ∃ f raw, PyFlat.calls PyAg08.shape f (up (l.drop k)) = some raw ∧ t + raw.length ≤ 100 ∧ out ++ PyFlat.told (PyFlat.played Ag08Neutral.step o raw) = due
  good : GoodO t o
theorem Rest.start {l : List Nat} (h : PyAg08.answers_asked (up l) = true) : Rest l 0 none 0 [] (PyAg08.answers (up l)) := by
  unfold PyAg08.answers_asked at h
  split at h
  · cases h
  · rename_i raw hr
    simp only [Bool.and_eq_true] at h
    obtain ⟨⟨⟨⟨h1, h2⟩, h3⟩, h4⟩, h5⟩ := h
    refine ⟨⟨_, raw, hr, ?_, ?_⟩, trivial⟩
    · unfold PyFlat.atMost at h2
      have := of_decide_eq_true h2
      omega
    · unfold PyAg08.answers PyAg08.calls
      rw [hr]
      simp only [map_whole]
      rfl
theorem Rest.done {l : List Nat} {k t : Nat} {o : Abs} {out due : List Int} (h : Rest l k o t out due) (hk : l.length ≤ k) : out = due := by
  obtain ⟨f, raw, h1, h2, h3⟩ := h.ex
  rw [List.drop_eq_nil_of_le hk] at h1
  have e : raw = [] := by
    have : PyFlat.calls PyAg08.shape f (up []) = some [] := by cases f <;> rfl
    rw [this] at h1
    exact (Option.some.inj h1).symm
  rw [← h3, e]
  exact (List.append_nil _).symm
/-- one call more -/
theorem Rest.next {l : List Nat} {k t : Nat} {o : Abs} {out due : List Int} (h : Rest l k o t out due) (hk : k < l.length) :
    ∃ (p n : Nat) (as : List Nat) (cl : Ag08.Call), l[k]? = some p ∧ p < 13 ∧ arity[p]? = some n ∧ as = (l.drop (k + 1)).take n ∧ as.length = n ∧ k + 1 + n ≤ l.length ∧ Dec p as cl ∧ t < 100 ∧ GoodO t o ∧
      Rest l (k + 1 + n) (step o cl).1 (t + 1) (out ++ (((step o cl).2.length : Nat) : Int) :: (step o cl).2) due := by
  obtain ⟨f, raw, h1, h2, h3⟩ := h.ex
  have ed : l.drop k = l[k] :: l.drop (k + 1) := List.drop_eq_getElem_cons hk
  rw [ed] at h1
  generalize hp : l[k] = p at h1
  have hlk : l[k]? = some p := by rw [List.getElem?_eq_getElem hk, hp]
  cases f with
  | zero => cases h1
  | succ f =>
    have h1' : (match PyFlat.call PyAg08.shape ((p : Int) :: up (l.drop (k + 1))) with
      | none => none
      | some (c, t) => match PyFlat.calls PyAg08.shape f t with
        | none => none
        | some cs => some (c :: cs)) = some raw := h1
    have hcall : PyFlat.call PyAg08.shape ((p : Int) :: up (l.drop (k + 1))) = (match PyAg08.shape (p : Int) with
      | none => none
      | some (n, k') => if (up (l.drop (k + 1))).length < n then none else match PyFlat.rows k' ((up (l.drop (k + 1))).drop n) with
        | none => none
        | some (xs, t) => some (((p : Int) :: (up (l.drop (k + 1))).take n) :: xs, t)) := rfl
    cases hs : PyAg08.shape (p : Int) with
    | none =>
      rw [hcall, hs] at h1'
      cases h1'
    | some nk =>
      obtain ⟨n0, k0⟩ := nk
      have hp13 : p < 13 := shape_lt hs
      have hse := shape_eq p hp13
      rw [hcall, hse] at h1'
      have ha : arity[p]? = some (arity.getD p 0) := by
        rw [List.getD_eq_getElem?_getD, List.getElem?_eq_getElem (by exact hp13)]
        rfl
      generalize hn : arity.getD p 0 = n at h1' ha
      simp only [PyFlat.rows] at h1'
      by_cases hlen : (up (l.drop (k + 1))).length < n
      · rw [if_pos hlen] at h1'
        cases h1'
      · rw [if_neg hlen] at h1'
        simp only at h1'
        have hlu : (up (l.drop (k + 1))).length = l.length - (k + 1) := by unfold up; rw [List.length_map, List.length_drop]
        have eup : (up (l.drop (k + 1))).take n = up ((l.drop (k + 1)).take n) := by unfold up; rw [List.map_take]
        have edn : (up (l.drop (k + 1))).drop n = up (l.drop (k + 1 + n)) := by unfold up; rw [← List.map_drop, List.drop_drop]
        rw [eup, edn] at h1'
        have hal : ((l.drop (k + 1)).take n).length = n := by rw [List.length_take, List.length_drop]; omega
        obtain ⟨cl, hd, hcl⟩ := dec_of hp13 (as := (l.drop (k + 1)).take n) (by rw [hal, hn])
        cases hc : PyFlat.calls PyAg08.shape f (up (l.drop (k + 1 + n))) with
        | none =>
          rw [hc] at h1'
          cases h1'
        | some cs =>
          rw [hc] at h1'
          have er : raw = [(p : Int) :: up ((l.drop (k + 1)).take n)] :: cs := (Option.some.inj h1').symm
          rw [er] at h2 h3
          rw [List.length_cons] at h2
          have est : Ag08Neutral.step o [(p : Int) :: up ((l.drop (k + 1)).take n)] = step o cl := by
            unfold Ag08Neutral.step
            rw [hcl]
          refine ⟨p, n, _, cl, hlk, hp13, ha, rfl, hal, by omega, hd, by omega, h.good, ⟨⟨f, cs, hc, by omega, ?_⟩, good_step h.good (by omega) cl⟩⟩
          rw [← h3]
          show _ = out ++ PyFlat.told ((Ag08Neutral.step o _).2 :: PyFlat.played Ag08Neutral.step (Ag08Neutral.step o _).1 cs)
          rw [est]
          show _ = out ++ ((((step o cl).2.length : Nat) : Int) :: (step o cl).2 ++ PyFlat.told (PyFlat.played Ag08Neutral.step (step o cl).1 cs))
          rw [List.append_assoc]
end Bo

set_option Elab.async false
set_option maxRecDepth 100000
set_option maxHeartbeats 2000000
/-! Rules that the layer lacks: enumerate(xs, start=k); xs.remove(y) of tuples. -/
namespace Bo
open PySem PySem.Spec PyProof.Rows L2
/-! ### enumerate(list, start=k) -/
/-- a built-in class called with one argument and some keywords -/
theorem typeKw {M : Model} {A : Around} {E : Value → Shared → Prop} {s : Shared} {env : Env} {at_ : Pos} {T : String} {e : Expr} {kws : List Keyword} {Q : Value → Shared → Prop}
    (h : wpAny M A (spliced (backTo at_ (starEach [e] env))) (fun us s1 => wpAny M A (evalAll ((backToKw at_ (keywordEach kws env)).map (·.2))) (fun ws s2 => wpAny M A (call (.type T) us (((backToKw at_ (keywordEach kws env)).filterMap (·.1)).zip ws)) Q E s2) E s1) E s)
    (e1 : backTo at_ (starEach [e] env) = (false, eval e env) :: backTo at_ (starEach [] env)) (e2 : (backTo at_ (starEach [e] env)).any (·.1) = false)
    (e3 : (backToKw at_ (keywordEach kws env)).all (·.1.isSome) = true) (e4 : (backToKw at_ (keywordEach kws env)).any (·.1.isNone) = false) :
    wpAny M A (callWith at_ (.type T) [] (backTo at_ (starEach [e] env)) (backToKw at_ (keywordEach kws env))) Q E s := by
  have args : wpAny M A (evalArgs (.type T) true (backTo at_ (starEach [e] env)) (backToKw at_ (keywordEach kws env))) (fun z s1 => wpAny M A (call (.type T) z.pos z.kw) Q E s1) E s := by
    rw [e1] at h ⊢
    exact evalArgs_kwB e3 h
  have back : ∀ {v : Sem Value} {s1 : Shared}, wpAny M A v Q E s1 → wpAny M A (do let r ← v; holding [r] (point); pure r) Q E s1 := fun q => wpAny_bind (thn q fun _ _ r => wpAny_bind (wpAny_holding (wpAny_point (wpAny_pure r))))
  unfold callWith
  simp only [e2, e4, Bool.or_false]
  exact wpAny_bind (wpAny_holding (thn args fun z s1 q => wpAny_bind (wpAny_standAt (wpAny_bind (wpAny_pure (back q))))))
/-- the list at a as it stands at each turn: a new pair of k + the place and the item -/
def IteK (K : PySem.W.Frag) (a : Addr) (k : Int) : It where
  go i H := ∃ (xs : List V) (x : V), SqL K H a xs ∧ xs[i]? = some x
  yld i H v H' := ∃ T x, v = .ref T ∧ H T = none ∧ H' = upd H T (.tup [.int (k + (i : Nat)), x]) ∧ ∀ xs, SqL K H a xs → xs[i]? = some x
  stop i H := ∃ xs : List V, SqL K H a xs ∧ xs.length = i
section
variable {X : Cx} {pins : List (Addr × Obj)} {σ : L2.St} {H : Hp} {s : Shared} {a e it : Addr} {k : Int} {i : Nat} {xs : List V} {its : List Value} {old : Value}
theorem enum_walk (I : Inv X pins σ H s) (hc : X.calm = true) (pl : PlainL s.heap a its.toArray) (he : IsEnum s.heap e it (k + ((i : Nat) : Int)) old) (hit : s.heap.IsListIter it a i) (hne : e ≠ it) :
    WalksT X.prog X.w X.A e [e, it, a] [e, it] its.toArray.size (fun j vals => ∃ t x, its.toArray[j]? = some x ∧ vals = #[.int (k + (j : Int)) t, x])
      (fun j h => (∃ o, IsEnum h e it (k + (j : Int)) o) ∧ (h.IsListIter it a j ∧ h.IsList a its.toArray)) (fun j T h => (∃ x, IsEnumOut h e it (k + (j : Int) + 1) x T) ∧ (h.IsListIter it a (j + 1) ∧ h.IsList a its.toArray) ∧ T ≠ e ∧ T ≠ it) := by
  obtain ⟨ol, gl, cl, _⟩ := pl.isList
  obtain ⟨oi, gi, ci, _⟩ := id hit
  have n1 : a ≠ it := fun z => by
    subst z
    cases gl.symm.trans gi
    exact absurd (cl.symm.trans ci) (show ¬ (Value.type "list" = Value.type "list_iterator") by decide)
  have n2 : a ≠ e := fun z => by
    subst z
    cases gl.symm.trans he
    exact absurd cl (show ¬ (Value.type "enumerate" = Value.type "list") by decide)
  exact WalksT.enumFrom k (Draws.list (prog := X.prog) (w := X.w) (A := X.A.in1) (I.ok.hd hc) it a n1 its.toArray) e hne (by simp [hne, Ne.symm n2]) (by simp)
end
theorem turn_enumK {P : Program} {w : World} {K : PySem.W.Frag} {elts : List Expr} {kk : Nat} {tpos : Pos} (a e it : Addr) (k : Int) :
    Turn P w K (.Tuple elts kk tpos) (IteK K a k) [e, it] e (fun i h => (∃ o, IsEnum h e it (k + ((i : Nat) : Int)) o) ∧ h.IsListIter it a i ∧ e ≠ it) := by
  refine ⟨List.mem_cons_self .., fun i h st b hb => ?_, fun i h h' st kp => ?_, ?_, ?_, fun A i s Q E st h => ?_⟩
  · obtain ⟨⟨o, ge⟩, ⟨oi, gi, _, di⟩, _⟩ := st
    rcases List.mem_cons.mp hb with q | q
    · subst q
      exact ⟨_, ge, by intro v q; cases q⟩
    · rw [List.mem_singleton.mp q]
      exact ⟨oi, gi, by rw [di]; intro v q; cases q⟩
  · obtain ⟨⟨o, ge⟩, gi, ne⟩ := st
    exact ⟨⟨o, kp e (by simp) _ ge⟩, gi.at fun o' q => kp it (by simp) o' q, ne⟩
  · intro X hP hw hK hc i pins s σ H E I hf st hg
    subst hP hw hK
    obtain ⟨⟨o, ge⟩, gi, ne⟩ := st
    obtain ⟨xs, x, hq, hx⟩ := hg
    obtain ⟨its, rv, pl, hz⟩ := I.list hq
    obtain ⟨u, hu, ru⟩ := rv.get hx
    have hu' : its.toArray[i]? = some u := by simpa using hu
    have W := enum_walk I hc pl ge gi ne
    refine W.item i s _ _ (Array.getElem?_eq_some_iff.mp hu').1 ⟨⟨o, ge⟩, gi, pl.isList⟩ fun T vals h1 tk hv hT hI hm kp1 => ⟨_, rfl, ?_⟩
    refine W.go elts kk tpos i T { s with heap := h1, toks := tk } _ _ hm fun h2 st2 kp2 => ?_
    obtain ⟨t, y, hy, rfl⟩ := hv
    cases hu'.symm.trans hy
    have fr : ∀ b ∈ [e, it], b < s.heap.objs.size := fun b hb => by
      rcases List.mem_cons.mp hb with q | q
      · rw [q]
        exact Heap.lt_size ge
      · rw [List.mem_singleton.mp q]
        obtain ⟨_, q, _⟩ := gi
        exact Heap.lt_size q
    obtain ⟨oT, gT, cT, nT, dT⟩ := hI
    have gT2 : h2.get? T = some oT := kp2 T oT (W.apart i T h1 hm) gT
    have new : ObjOk X.prog X.w (upd H T (.tup [.int (k + (i : Nat)), x])) h2 T (.tup [.int (k + (i : Nat)), x]) :=
      ⟨(by show 2 ≤ sizeLine; decide), [.int (k + (i : Nat)) t, u], .cons ⟨t, rfl⟩ (.cons ru .nil), oT, gT2, cT, nT, dT⟩
    have I2 := I.turnedNew (t' := tk) (ch := [e, it]) (fun b ob hb q => kp2 b ob hb (kp1 b ob hb q)) hf hT new
    refine ⟨.ref T, _, I2, rfl, ⟨T, x, rfl, I.hok.fresh hT, rfl, fun ys hy => by rw [I.list_inj hy hq]; exact hx⟩, ⟨st2.1, st2.2.1, ne⟩, fun b hb => ?_⟩
    rw [upd_ne (Nat.ne_of_lt (Nat.lt_of_lt_of_le (fr b hb) hT))]
    exact (hf b hb).1
  · intro X hP hw hK hc i pins s σ H E I hf st hg
    subst hP hw hK
    obtain ⟨⟨o, ge⟩, gi, ne⟩ := st
    obtain ⟨xs, hq, hx⟩ := hg
    obtain ⟨its, rv, pl, hz⟩ := I.list hq
    have W := enum_walk I hc pl ge gi ne
    have en : its.toArray.size = i := by
      rw [List.size_toArray, ← rv.length]
      exact hx
    refine W.done s _ _ (by rw [en]; exact ⟨⟨o, ge⟩, gi, pl.isList⟩) fun h1 tk kp => ⟨rfl, ?_⟩
    exact I.turnedL (ch := [e, it]) kp hf
  · obtain ⟨⟨o, ge⟩, _⟩ := st
    exact wpAny_pyIter_enum ge h
def iEnumK (K : PySem.W.Frag) (ta tk : TA) : TI := fun σ H R => ta σ H fun vs H1 => tk σ H1 fun zs H2 => ∃ a xs k, vs = [.ref a] ∧ zs = [.int k] ∧ -(2 ^ 63) ≤ k ∧ k < 2 ^ 63 ∧ SqL K H2 a xs ∧ R (IteK K a k) H2
theorem pi_enumK {X : Cx} {e : Expr} {kws : List Keyword} {ta tk : TA} {p at_ tpos : Pos} {elts : List Expr} {kk : Nat} (hg : Gl X "enumerate") (hm : X.mg "enumerate" = none) (ha : PA X [e] ta) (hkw : PK X kws tk)
    (e1 : backTo at_ (starEach [e] X.env) = (false, eval e X.env) :: backTo at_ (starEach [] X.env) := by rfl) (e2 : (backTo at_ (starEach [e] X.env)).any (·.1) = false := by rfl)
    (e3 : (backToKw at_ (keywordEach kws X.env)).all (·.1.isSome) = true := by rfl) (e4 : (backToKw at_ (keywordEach kws X.env)).any (·.1.isNone) = false := by rfl)
    (e5 : (backToKw at_ (keywordEach kws X.env)).filterMap (·.1) = [Str.ofString "start"] := by rfl) : PI X (.Tuple elts kk tpos) (.Call (.Name "enumerate" p) [e] kws at_) (iEnumK X.K ta tk) := by
  refine ⟨fun pins s σ H R I h => wpAny_Call_Name_kw (ld_blt I hg hm boot_enumerate (typeKw (thn (ha.run at_ pins s σ H _ I h) fun us s1 ⟨vs, H1, I1, r1, q1⟩ => thn (hkw.run at_ pins s1 σ H1 _ I1 q1) fun ws s2 ⟨zs, H2, I2, r2, q2⟩ => ?_) e1 e2 e3 e4))⟩
  obtain ⟨a, xs, k, rfl, rfl, lo, hi, hq, q⟩ := q2
  obtain ⟨u, rfl, ru⟩ := vals1 r1
  obtain ⟨v, rfl, rv⟩ := vals1 r2
  cases ru
  obtain ⟨t, rfl⟩ := rv
  obtain ⟨its, _, pl, _⟩ := I2.list hq
  rw [e5]
  refine enum_begins_start (begins_list a its.toArray) pl.isList lo hi fun h' ge gi sz kp => wpAny_pyIter_enum ge ?_
  refine ⟨_, [s2.heap.objs.size + 1, s2.heap.objs.size], _, _, H2, rfl, I2.kept (t' := s2.toks) kp, turn_enumK a (s2.heap.objs.size + 1) s2.heap.objs.size k, ⟨⟨.none, ?_⟩, ⟨_, gi, rfl, rfl⟩, Nat.succ_ne_self _⟩, fun b hb => ?_, q⟩
  · rw [show k + ((0 : Nat) : Int) = k by omega]
    exact ge
  · have le : s2.heap.objs.size ≤ b := by
      rcases List.mem_cons.mp hb with z | z
      · rw [z]
        exact Nat.le_succ _
      · rw [List.mem_singleton.mp z]
        exact Nat.le_refl _
    exact I2.fpOk le (I2.hok.fresh le)
theorem walk_enumK {K : PySem.W.Frag} {a : Addr} {xs : List V} {k : Int} : Walk (IteK K a k) xs.length (fun H => SqL K H a xs) (YPair (fun i => some (.int (k + (i : Nat)))) (fun i => xs[i]?)) where
  goes i _ hi q := ⟨xs, xs[i], q, List.getElem?_eq_getElem hi⟩
  stops _ q := ⟨xs, q, rfl⟩
  yields i H v H' _ q y := by
    obtain ⟨T, x, h1, h2, h3, h4⟩ := y
    exact ⟨T, _, x, h1, h2, h3, rfl, h4 xs q⟩
/-! ### xs.remove(y): data of any depth -/
def rRemD (K : PySem.W.Frag) : V → List V → Hp → VK → Prop := fun x xs H Q => ∃ (l : Addr) (y : V) (ys : List V) (d : PyData) (ds : List PyData) (j : Nat), x = V.ref l ∧ xs = [y] ∧ H l = some (.lst ys) ∧ DpAll K H ys ds ∧ Dp K H y d ∧
  PyData.canLayAll0 ds = true ∧ d.canLay0 = true ∧ d.depth ≤ 64 ∧ SeqAt.dataPlace ds d = some j ∧ Q .non (upd H l (.lst (ys.eraseIdx j)))
theorem mt_removeD {X : Cx} (hu : X.A.units + 65 < cLine) : MtM X "list.remove" (rRemD X.K) := by
  intro pins s σ H x xs v us Q I rx rxs h
  obtain ⟨l, y, ys, d, ds, j, rfl, rfl, gl, hys, hy, lays, layd, deep, place, q⟩ := h
  cases rx
  obtain ⟨uy, rfl, ry⟩ := rxs.one
  obtain ⟨short, its, n, r, hl, g⟩ := I.lstM gl
  obtain ⟨bs, ready⟩ := Dp.reads I d y uy hy ry
  obtain ⟨as, readys⟩ := Dp.readsAll I ds _ its hys r
  refine SeqAt.remove_list_data (vs := its.toArray) ⟨_, g, rfl, n, rfl⟩ readys ready (PyData.plainAll_of_canLay0 _ lays) (PyData.plain_of_canLay0 _ layd) ?_ place (by rw [List.size_toArray]; omega) ?_
  · have := Nat.min_le_right (PyData.depthAll ds) d.depth
    omega
  · refine ⟨.non, _, I.lset (its' := its.eraseIdx j) (t' := s.toks) gl g ?_ (r.eraseIdx j) ?_, rfl, q⟩
    · exact List.eraseIdxIfInBounds_toArray ..
    · exact Nat.le_trans (List.length_eraseIdx_le ys j) short
/-! ### xs.extend(t): a tuple -/
theorem extT_meets (l b : Addr) (as bs : Array Value) (n m : Nat) (dd : Option Addr) (sl : Array (Option Value))
    (h0 : ¬ (!as.isEmpty && Builtin.List.listTooLong (as.size + bs.size)) = true) (h1 : as.size ≤ sizeLine) (h2 : as.size + bs.size ≤ sizeLine + 1) :
    Meets (Builtin.«list.extend» ⟨[.ref l, .ref b], []⟩) (fun _ R s => s.heap.get? l = some { cls := .type "list", dict := none, data := .seq as n, slots := #[] } ∧
      s.heap.get? b = some { cls := .type "tuple", dict := dd, data := .seq bs m, slots := sl } ∧ R (.ok (.ret Value.none)) { s with heap := s.heap.update l (Obj.mapSeq fun x => x ++ bs), toks := s.toks }) :=
  .of_wp fun prog w A R s h => by
    obtain ⟨hp, g, d, tk, os⟩ := s
    obtain ⟨gl, gb, q⟩ := h
    have f1 := AutoSeq1.idx_int
    have f2 := AutoSeq1.sub_tuple_tuple
    have f3 := AutoSeq1.sub_list_list
    have f4 := AutoSeq1.sub_tuple_list
    have f5 := AutoSeq1.sub_list_tuple
    have z : (as ++ bs).size ≤ sizeLine + 1 := by rw [Array.size_append]; exact h2
    wp_walk using (wpAny_updateSeq gl rfl (hz := h1) (_hz' := z)), AutoSeq1.wpAny_loadPart' gl, AutoSeq1.wpAny_loadPart' gb
    exact ⟨_, rfl, q⟩
def rExtT (K : PySem.W.Frag) : V → List V → Hp → VK → Prop := fun x vs H Q => ∃ (l b : Addr) (xs zs : List V), x = V.ref l ∧ vs = [V.ref b] ∧ H l = some (.lst xs) ∧ SqT K H b zs ∧ xs.length + zs.length ≤ sizeLine ∧ Q .non (upd H l (.lst (xs ++ zs)))
theorem mt_extendT {X : Cx} : MtM X "list.extend" (rExtT X.K) := by
  intro pins s σ H x xs v us Q I rx rxs h
  obtain ⟨l, b, ys, zs, rfl, rfl, gl, gb, fits, q⟩ := h
  cases rx
  obtain ⟨ub, rfl, rb⟩ := rxs.one
  cases rb
  obtain ⟨short, its, n, r, hl, g⟩ := I.lstM gl
  obtain ⟨its2, r2, ⟨o2, g2, c2, n2, d2⟩, short2⟩ := I.tuple gb
  obtain ⟨cc, dd, da, sl⟩ := o2
  simp only at c2 d2
  subst c2 d2
  have len2 := r2.length
  have room : its.toArray.size + its2.toArray.size ≤ sizeLine := by rw [List.size_toArray, List.size_toArray]; omega
  have long : ¬ (!its.toArray.isEmpty && Builtin.List.listTooLong (its.toArray.size + its2.toArray.size)) = true := by
    rw [notLongL room, Bool.and_false]
    exact Bool.false_ne_true
  refine call_meets F.slot_list_extend ⟨_, g, rfl⟩ F.entry_list_extend (F.args_list_extend_2 _ _) (extT_meets l b its.toArray its2.toArray n n2 dd sl long (by rw [List.size_toArray]; omega) (by omega)) ⟨g, g2, ?_⟩
  refine ⟨.non, _, I.lset (its' := its ++ its2) gl g ?_ (r.append r2) ?_, rfl, q⟩
  · simp
  · rw [List.length_append]
    exact fits
/-! ### 1 if t else 0 -/
def tBit (t : TT) : TE := fun σ H Q => t σ H fun c H1 => Q (.int (if c = true then 1 else 0)) H1
theorem pe_bit {X : Cx} {c a b : Expr} {pos : Pos} {tt : TT} (hc : PT X c tt) (ha : PE X a (tC (.int 1))) (hb : PE X b (tC (.int 0))) : PE X (.IfExp c a b pos) (tBit tt) := by
  refine ⟨fun pins s σ H Q I h => wpAny_IfExp (thn (hc.run pins s σ H _ I h) ?_)⟩
  rintro d s1 ⟨H1, I1, q⟩
  cases d
  · exact hb.run pins s1 σ H1 Q I1 q
  · exact ha.run pins s1 σ H1 Q I1 q
/-! ### three whole numbers in a tuple -/
def trD (a b c : Nat) : PyData := .tuple [.int a, .int b, .int c]
theorem trD_lay (a b c : Nat) : (trD a b c).canLay0 = true := by simp [trD, PyData.canLay0, PyData.canLayAll0]
theorem trD_depth (a b c : Nat) : (trD a b c).depth = 1 := by simp [trD, PyData.depth, PyData.depthAll]
theorem trD_shaped (a b c : Nat) : SeqAt.shaped (trD a b c) = true := by
  have h := trD_depth a b c
  show ((trD a b c).canLay0 && decide ((trD a b c).depth ≤ 64)) = true
  rw [Bool.and_eq_true]
  exact ⟨trD_lay a b c, decide_eq_true (by omega)⟩
theorem trDs_lay : ∀ zs : List (Nat × Nat × Nat), PyData.canLayAll0 (zs.map fun z => trD z.1 z.2.1 z.2.2) = true
  | [] => by simp [PyData.canLayAll0]
  | z :: zs => by simp [PyData.canLayAll0, trD_lay, trDs_lay zs]
theorem trDs_depth : ∀ zs : List (Nat × Nat × Nat), PyData.depthAll (zs.map fun z => trD z.1 z.2.1 z.2.2) ≤ 1
  | [] => by simp [PyData.depthAll]
  | z :: zs => by
    have h1 := trDs_depth zs
    have h2 := trD_depth z.1 z.2.1 z.2.2
    simp only [List.map_cons, PyData.depthAll]
    omega
theorem trDs_shaped (zs : List (Nat × Nat × Nat)) : SeqAt.shaped (.list (zs.map fun z => trD z.1 z.2.1 z.2.2)) = true := by
  have h1 := trDs_depth zs
  have h2 : PyData.depth (.list (zs.map fun z => trD z.1 z.2.1 z.2.2)) ≤ 64 := by
    simp only [PyData.depth]
    omega
  show (PyData.canLay0 (.list _) && decide (PyData.depth (.list _) ≤ 64)) = true
  rw [Bool.and_eq_true]
  exact ⟨by simp only [PyData.canLay0]; exact trDs_lay zs, decide_eq_true h2⟩
theorem trD_eqv (a b c a' b' c' : Nat) : PyData.eqv (trD a b c) (trD a' b' c') = decide (a = a' ∧ b = b' ∧ c = c') := by
  have e : PyData.eqv (trD a b c) (trD a' b' c') = (((a : Int) == (a' : Int)) && (((b : Int) == (b' : Int)) && (((c : Int) == (c' : Int)) && true))) := by simp only [trD, PyData.eqv, PyData.eqvAll]
  rw [e]
  by_cases h1 : a = a'
  · by_cases h2 : b = b'
    · by_cases h3 : c = c'
      · simp [h1, h2, h3]
      · simp [h3]
        omega
    · simp [h2]
      omega
  · simp [h1]
    omega
end Bo

set_option Elab.async false
set_option maxRecDepth 100000
set_option maxHeartbeats 1000000
/-! How a world of the specification lies in the heap: who owns which address, what may change, what stays. -/
namespace Bo
open PySem PySem.Spec PyProof.Rows L2
theorem hu65 {k : Nat} {A : Around} (r : Room k A) : A.units + 65 < cLine := by have := r.un; omega
theorem pe_cst {X : Cx} {x : Str} {v : Int} {pos : Pos} (hg : Gl X x) (hm : ∃ t, X.mg x = some (.int v t)) (hd : (x == ("__debug__" : Str)) = false := by decide) : PE X (.Name x pos) (tC (.int v)) :=
  hm.elim fun _ h => pe_glob hg h ⟨_, rfl⟩ hd
theorem if_true_of {c : Bool} {A B : Prop} (hc : c = true) (h : A) : if c = true then A else B := by
  rw [if_pos hc]
  exact h
theorem if_false_of {c : Bool} {A B : Prop} (hc : c = false) (h : B) : if c = true then A else B := by
  rw [hc, if_neg Bool.false_ne_true]
  exact h
/-- a list of whole numbers -/
def intsV (l : List Nat) : List V := l.map fun (n : Nat) => V.int (n : Int)
theorem intsV_len (l : List Nat) : (intsV l).length = l.length := List.length_map _
theorem intsV_get {l : List Nat} {i x : Nat} (h : l[i]? = some x) : (intsV l)[i]? = some (V.int (x : Int)) := by
  unfold intsV
  rw [List.getElem?_map, h]
  rfl
theorem intsV_set (l : List Nat) (i x : Nat) : (intsV l).set i (V.int (x : Int)) = intsV (l.set i x) := by
  unfold intsV
  rw [List.map_set]
theorem intsV_app (l m : List Nat) : intsV l ++ intsV m = intsV (l ++ m) := by
  unfold intsV
  rw [List.map_append]
/-! ### attributes by name -/
theorem lk_here {k : Str} {v : V} {r : List (Str × V)} : List.lookup k ((k, v) :: r) = some v := by
  have e : (k == k) = true := beq_self_eq_true k
  simp only [List.lookup, e]
theorem lk_past {k g : Str} {v : V} {r : List (Str × V)} (h : (k == g) = false) : List.lookup k ((g, v) :: r) = List.lookup k r := by
  simp only [List.lookup, h]
theorem put_here {f : Str} {v x : V} {r : List (Str × V)} : putF f v ((f, x) :: r) = (f, v) :: r := if_pos rfl
theorem put_past {f g : Str} {v x : V} {r : List (Str × V)} (h : ¬ g = f) : putF f v ((g, x) :: r) = (g, x) :: putF f v r := if_neg h
local macro_rules | `(tactic| walk_at "lk") => `(tactic| repeat (first | exact lk_here | refine (lk_past (by decide +kernel)).trans ?_))
local macro_rules | `(tactic| walk_at "pf") => `(tactic| repeat (first | exact put_here | rfl | refine (put_past (by decide +kernel)).trans (congrArg _ ?_)))
/-- a node's -/
def nF (r : Bool) (k : Nat) (u h w q : Addr) : List (Str × V) := [("runs", .bl r), ("asked", .int k), ("upto", .ref u), ("held", .ref h), ("written", .ref w), ("waits", .ref q)]
section
variable {r : Bool} {k : Nat} {u h w q : Addr}
theorem nF_runs : (nF r k u h w q).lookup ("runs" : Str) = some (.bl r) := by unfold nF; walk_at "lk"
theorem nF_asked : (nF r k u h w q).lookup ("asked" : Str) = some (.int k) := by unfold nF; walk_at "lk"
theorem nF_upto : (nF r k u h w q).lookup ("upto" : Str) = some (.ref u) := by unfold nF; walk_at "lk"
theorem nF_held : (nF r k u h w q).lookup ("held" : Str) = some (.ref h) := by unfold nF; walk_at "lk"
theorem nF_written : (nF r k u h w q).lookup ("written" : Str) = some (.ref w) := by unfold nF; walk_at "lk"
theorem nF_waits : (nF r k u h w q).lookup ("waits" : Str) = some (.ref q) := by unfold nF; walk_at "lk"
theorem nF_put_runs (b : Bool) : putF "runs" (.bl b) (nF r k u h w q) = nF b k u h w q := by unfold nF; walk_at "pf"
theorem nF_put_asked (j : Nat) : putF "asked" (.int (j : Nat)) (nF r k u h w q) = nF r j u h w q := by unfold nF; walk_at "pf"
theorem nF_put_upto (x : Addr) : putF "upto" (.ref x) (nF r k u h w q) = nF r k x h w q := by unfold nF; walk_at "pf"
theorem nF_put_waits (x : Addr) : putF "waits" (.ref x) (nF r k u h w q) = nF r k u h w x := by unfold nF; walk_at "pf"
theorem nF_new : putF "waits" (.ref q) (putF "written" (.ref w) (putF "held" (.ref h) (putF "upto" (.ref u) (putF "asked" (.int 0) (putF "runs" (.bl true) []))))) = nF true 0 u h w q := by
  have e1 : putF "runs" (.bl true) [] = ([("runs", .bl true)] : List (Str × V)) := rfl
  have e2 : putF "asked" (.int 0) ([("runs", .bl true)] : List (Str × V)) = ([("runs", .bl true), ("asked", .int 0)] : List (Str × V)) := by walk_at "pf"
  have e3 : putF "upto" (.ref u) ([("runs", .bl true), ("asked", .int 0)] : List (Str × V)) = ([("runs", .bl true), ("asked", .int 0), ("upto", .ref u)] : List (Str × V)) := by walk_at "pf"
  have e4 : putF "held" (.ref h) ([("runs", .bl true), ("asked", .int 0), ("upto", .ref u)] : List (Str × V)) = ([("runs", .bl true), ("asked", .int 0), ("upto", .ref u), ("held", .ref h)] : List (Str × V)) := by walk_at "pf"
  have e5 : putF "written" (.ref w) ([("runs", .bl true), ("asked", .int 0), ("upto", .ref u), ("held", .ref h)] : List (Str × V)) = ([("runs", .bl true), ("asked", .int 0), ("upto", .ref u), ("held", .ref h), ("written", .ref w)] : List (Str × V)) := by walk_at "pf"
  rw [e1, e2, e3, e4, e5]
  unfold nF
  walk_at "pf"
theorem nF_len : (nF r k u h w q).length = 6 := rfl
end
/-- a letter's -/
def lF (kind to_ from_ : Nat) (l : Addr) (sum : Nat) (sp : Bool) : List (Str × V) := [("kind", .int kind), ("receiver", .int to_), ("sender", .int from_), ("numbers", .ref l), ("checksum", .int sum), ("spoiled", .bl sp)]
section
variable {kind to_ from_ sum : Nat} {l : Addr} {sp : Bool}
theorem lF_kind : (lF kind to_ from_ l sum sp).lookup ("kind" : Str) = some (.int kind) := by unfold lF; walk_at "lk"
theorem lF_receiver : (lF kind to_ from_ l sum sp).lookup ("receiver" : Str) = some (.int to_) := by unfold lF; walk_at "lk"
theorem lF_sender : (lF kind to_ from_ l sum sp).lookup ("sender" : Str) = some (.int from_) := by unfold lF; walk_at "lk"
theorem lF_numbers : (lF kind to_ from_ l sum sp).lookup ("numbers" : Str) = some (.ref l) := by unfold lF; walk_at "lk"
theorem lF_checksum : (lF kind to_ from_ l sum sp).lookup ("checksum" : Str) = some (.int sum) := by unfold lF; walk_at "lk"
theorem lF_spoiled : (lF kind to_ from_ l sum sp).lookup ("spoiled" : Str) = some (.bl sp) := by unfold lF; walk_at "lk"
theorem lF_put_checksum (x : Nat) : putF "checksum" (.int (x : Nat)) (lF kind to_ from_ l sum sp) = lF kind to_ from_ l x sp := by unfold lF; walk_at "pf"
theorem lF_put_spoiled (b : Bool) : putF "spoiled" (.bl b) (lF kind to_ from_ l sum sp) = lF kind to_ from_ l sum b := by unfold lF; walk_at "pf"
theorem lF_len : (lF kind to_ from_ l sum sp).length = 6 := rfl
def lF4 (kind to_ from_ : Nat) (l : Addr) : List (Str × V) := [("kind", .int kind), ("receiver", .int to_), ("sender", .int from_), ("numbers", .ref l)]
theorem lF_new4 : putF "numbers" (.ref l) (putF "sender" (.int from_) (putF "receiver" (.int to_) (putF "kind" (.int kind) []))) = lF4 kind to_ from_ l := by
  have e1 : putF "kind" (.int kind) [] = ([("kind", .int kind)] : List (Str × V)) := rfl
  have e2 : putF "receiver" (.int to_) ([("kind", .int kind)] : List (Str × V)) = ([("kind", .int kind), ("receiver", .int to_)] : List (Str × V)) := by walk_at "pf"
  have e3 : putF "sender" (.int from_) ([("kind", .int kind), ("receiver", .int to_)] : List (Str × V)) = ([("kind", .int kind), ("receiver", .int to_), ("sender", .int from_)] : List (Str × V)) := by walk_at "pf"
  rw [e1, e2, e3]
  unfold lF4
  walk_at "pf"
theorem lF_new : putF "spoiled" (.bl false) (putF "checksum" (.int sum) (lF4 kind to_ from_ l)) = lF kind to_ from_ l sum false := by
  have e : putF "checksum" (.int sum) (lF4 kind to_ from_ l) = ([("kind", .int kind), ("receiver", .int to_), ("sender", .int from_), ("numbers", .ref l), ("checksum", .int sum)] : List (Str × V)) := by unfold lF4; walk_at "pf"
  rw [e]
  unfold lF
  walk_at "pf"
end
/-! ### who owns what -/
inductive Role where
  | line | world | nodes | row | node (i : Nat) | part (i k : Nat) | letter (a : Addr) | nums (a : Addr) | past
abbrev Own := Addr → Option Role
def give (own : Own) (a : Addr) (r : Role) : Own := fun b => if b = a then some r else own b
theorem give_same {own : Own} {a : Addr} {r : Role} : give own a r a = some r := if_pos rfl
theorem give_ne {own : Own} {a b : Addr} {r : Role} (h : b ≠ a) : give own a r b = own b := if_neg h
theorem own_ne {own : Own} {a b : Addr} {r r' : Option Role} (h : own a = r) (h' : own b = r') (d : r ≠ r') : a ≠ b := by
  rintro rfl
  exact d (h.symm.trans h')
/-- only what has a role that P tells has changed, in what it holds or in its role -/
def Chg (P : Option Role → Prop) (own : Own) (H : Hp) (own' : Own) (H' : Hp) : Prop := ∀ b o, H b = some o → ¬ P (own b) → H' b = some o ∧ own' b = own b
section
variable {P P' : Option Role → Prop} {own own1 own2 : Own} {H H1 H2 : Hp} {a : Addr} {o : HO} {r : Role}
theorem Chg.refl : Chg P own H own H := fun _ _ h _ => ⟨h, rfl⟩
theorem Chg.trans (x : Chg P own H own1 H1) (y : Chg P own1 H1 own2 H2) : Chg P own H own2 H2 := fun b o h n => by
  obtain ⟨h1, e1⟩ := x b o h n
  obtain ⟨h2, e2⟩ := y b o h1 (by rw [e1]; exact n)
  exact ⟨h2, e2.trans e1⟩
theorem Chg.mono (x : Chg P own H own1 H1) (h : ∀ r, P r → P' r) : Chg P' own H own1 H1 := fun b o q n => x b o q fun z => n (h _ z)
theorem Chg.upd (h : P (own a)) : Chg P own H own (upd H a o) := fun b o q n => by
  have e : b ≠ a := fun z => n (by rw [z]; exact h)
  exact ⟨by rw [upd_ne e]; exact q, rfl⟩
theorem Chg.new (h : H a = none) : Chg P own H own (L2.upd H a o) := fun b o q _ => ⟨by rw [upd_ne (ne_of_none q h)]; exact q, rfl⟩
theorem Chg.same (h : Same H H1) : Chg P own H own H1 := fun b o q _ => ⟨h b o q, rfl⟩
theorem Chg.give (h : H a = none) : Chg P own H (give own a r) H := fun b o q _ => ⟨q, give_ne (ne_of_none q h)⟩
/-- an untracked address given a role, where it may have come to hold something since -/
theorem Chg.giveP (h : P (own a)) : Chg P own H (Bo.give own a r) H := fun b o q n => ⟨q, give_ne fun z => n (by rw [z]; exact h)⟩
end
/-- nothing that has no role -/
def someRole : Option Role → Prop := fun r => r ≠ none
theorem Chg.frame {own own' : Own} {H H' : Hp} (c : Chg someRole own H own' H') {b : Addr} {o : HO} (h : H b = some o) (e : own b = none) : H' b = some o ∧ own' b = none := by
  obtain ⟨h1, h2⟩ := c b o h fun z => z e
  exact ⟨h1, h2.trans e⟩
/-! ### nodes -/
/-- what a node waits for -/
def WaitsR (own : Own) (H : Hp) (ts : List Addr) (asks : List Ag08.Ask) : Prop :=
  ts.length = asks.length ∧ ∀ (j : Nat) (t : Addr) (a : Ag08.Ask), ts[j]? = some t → asks[j]? = some a → own t = none ∧ H t = some (.tup [.int (a.num : Nat), .int (a.piece : Nat), .int (a.since : Nat)])
/-- up to where a node has its pieces; the store to the last write -/
def uptos (now i : Nat) (n : Ag08.Node) : List Nat := if i = 0 then List.replicate 4 now else n.upto
structure NodeA where
  dx : Addr
  u : Addr
  h : Addr
  w : Addr
  q : Addr
  ts : List Addr
structure NodeR (CN : Addr) (own : Own) (H : Hp) (now i : Nat) (a : Addr) (n : Ag08.Node) (A : NodeA) : Prop where
  oa : own a = some (.node i)
  ou : own A.u = some (.part i 0)
  oh : own A.h = some (.part i 1)
  ow : own A.w = some (.part i 2)
  oq : own A.q = some (.part i 3)
  ha : H a = some (.ins CN A.dx (nF n.up n.count A.u A.h A.w A.q))
  hu : H A.u = some (.lst (intsV (uptos now i n)))
  hh : H A.h = some (.lst (intsV (n.cells.map Ag08.Cell.value)))
  hw : H A.w = some (.lst (intsV (n.cells.map Ag08.Cell.write)))
  hq : H A.q = some (.lst (A.ts.map V.ref))
  wt : WaitsR own H A.ts n.asks
theorem WaitsR.keep {own own' : Own} {H H' : Hp} {ts : List Addr} {asks : List Ag08.Ask} (h : WaitsR own H ts asks) (c : ∀ b o, H b = some o → own b = none → H' b = some o ∧ own' b = none) : WaitsR own' H' ts asks :=
  ⟨h.1, fun j t a h1 h2 => by
    obtain ⟨e, q⟩ := h.2 j t a h1 h2
    obtain ⟨x, y⟩ := c t _ q e
    exact ⟨y, x⟩⟩
theorem WaitsR.chg {P : Option Role → Prop} {own own' : Own} {H H' : Hp} {ts : List Addr} {asks : List Ag08.Ask} (h : WaitsR own H ts asks) (c : Chg P own H own' H') (p : ¬ P none) : WaitsR own' H' ts asks :=
  h.keep fun b o q e => by
    obtain ⟨x, y⟩ := c b o q (by rw [e]; exact p)
    exact ⟨x, y.trans e⟩
theorem NodeR.chg {P : Option Role → Prop} {CN : Addr} {own own' : Own} {H H' : Hp} {now i : Nat} {a : Addr} {n : Ag08.Node} {A : NodeA} (h : NodeR CN own H now i a n A) (c : Chg P own H own' H')
    (p0 : ¬ P none) (p1 : ¬ P (some (.node i))) (p2 : ∀ k, ¬ P (some (.part i k))) : NodeR CN own' H' now i a n A := by
  have f : ∀ {b : Addr} {o : HO} {r : Role}, H b = some o → own b = some r → ¬ P (some r) → H' b = some o ∧ own' b = some r := fun {b o r} q e z => by
    obtain ⟨x, y⟩ := c b o q (by rw [e]; exact z)
    exact ⟨x, y.trans e⟩
  obtain ⟨a1, a2⟩ := f h.ha h.oa p1
  obtain ⟨u1, u2⟩ := f h.hu h.ou (p2 _)
  obtain ⟨h1, h2⟩ := f h.hh h.oh (p2 _)
  obtain ⟨w1, w2⟩ := f h.hw h.ow (p2 _)
  obtain ⟨q1, q2⟩ := f h.hq h.oq (p2 _)
  exact ⟨a2, u2, h2, w2, q2, a1, u1, h1, w1, q1, h.wt.chg c p0⟩
/-! ### letters -/
structure LetterR (CL : Addr) (own : Own) (H : Hp) (a : Addr) (x : Ag08.Letter) (dx l : Addr) : Prop where
  oa : own a = some (.letter a)
  ol : own l = some (.nums a)
  ha : H a = some (.ins CL dx (lF x.kind x.to_ x.from_ l x.sum (decide (0 < x.spoiled))))
  hl : H l = some (.lst (intsV x.nums))
theorem LetterR.chg {P : Option Role → Prop} {CL : Addr} {own own' : Own} {H H' : Hp} {a dx l : Addr} {x : Ag08.Letter} (h : LetterR CL own H a x dx l) (c : Chg P own H own' H') (p1 : ¬ P (some (.letter a))) (p2 : ¬ P (some (.nums a))) : LetterR CL own' H' a x dx l := by
  obtain ⟨x1, y1⟩ := c a _ h.ha (by rw [h.oa]; exact p1)
  obtain ⟨x2, y2⟩ := c l _ h.hl (by rw [h.ol]; exact p2)
  exact ⟨y1.trans h.oa, y2.trans h.ol, x1, x2⟩
end Bo

set_option Elab.async false
set_option maxRecDepth 100000
set_option maxHeartbeats 1000000
/-! A world in the heap, and what each kind of change leaves of it. -/
namespace Bo
open PySem PySem.Spec PyProof.Rows L2
local macro_rules | `(tactic| walk_at "lk") => `(tactic| repeat (first | exact lk_here | refine (lk_past (by decide +kernel)).trans ?_))
local macro_rules | `(tactic| walk_at "pf") => `(tactic| repeat (first | exact put_here | rfl | refine (put_past (by decide +kernel)).trans (congrArg _ ?_)))
/-- a world's -/
def wF (N R P : Addr) : List (Str × V) := [("nodes", .ref N), ("row", .ref R), ("writes", .ref P)]
section
variable {N R P : Addr}
theorem wF_nodes : (wF N R P).lookup ("nodes" : Str) = some (.ref N) := by unfold wF; walk_at "lk"
theorem wF_row : (wF N R P).lookup ("row" : Str) = some (.ref R) := by unfold wF; walk_at "lk"
theorem wF_writes : (wF N R P).lookup ("writes" : Str) = some (.ref P) := by unfold wF; walk_at "lk"
theorem wF_len : (wF N R P).length = 3 := rfl
theorem wF_new : putF "writes" (.ref P) (putF "row" (.ref R) (putF "nodes" (.ref N) [])) = wF N R P := by
  have e1 : putF "nodes" (.ref N) [] = ([("nodes", .ref N)] : List (Str × V)) := rfl
  have e2 : putF "row" (.ref R) ([("nodes", .ref N)] : List (Str × V)) = ([("nodes", .ref N), ("row", .ref R)] : List (Str × V)) := by walk_at "pf"
  rw [e1, e2]
  unfold wF
  walk_at "pf"
end
/-- where the classes stand -/
structure Cl where
  N : Addr
  L : Addr
  W : Addr
  I : Addr
  T : Addr
structure WA where
  dx : Addr
  N : Addr
  R : Addr
  ns : List Addr
  ls : List Addr
  P : Addr
  hs : List Addr
/-- the writes there were: cell, value -/
def HistR (own : Own) (H : Hp) (hs : List Addr) (ws : List (Nat × Nat)) : Prop :=
  hs.length = ws.length ∧ ∀ (j : Nat) (t : Addr) (x : Nat × Nat), hs[j]? = some t → ws[j]? = some x → own t = none ∧ H t = some (.tup [.int (x.1 : Nat), .int (x.2 : Nat)]) ∧ x.1 < 12
theorem HistR.keep {own own' : Own} {H H' : Hp} {hs : List Addr} {ws : List (Nat × Nat)} (h : HistR own H hs ws) (c : ∀ b xs, H b = some (.tup xs) → own b = none → H' b = some (.tup xs) ∧ own' b = none) : HistR own' H' hs ws :=
  ⟨h.1, fun j t a h1 h2 => by
    obtain ⟨e, q, z⟩ := h.2 j t a h1 h2
    obtain ⟨x, y⟩ := c t _ q e
    exact ⟨y, x, z⟩⟩
theorem HistR.chg {P : Option Role → Prop} {own own' : Own} {H H' : Hp} {hs : List Addr} {ws : List (Nat × Nat)} (h : HistR own H hs ws) (c : Chg P own H own' H') (p : ¬ P none) : HistR own' H' hs ws :=
  h.keep fun b xs q e => by
    obtain ⟨x, y⟩ := c b _ q (by rw [e]; exact p)
    exact ⟨x, y.trans e⟩
/-- what has a role is there -/
def Trk (own : Own) (H : Hp) : Prop := ∀ b r, own b = some r → ∃ o, H b = some o
structure WorldR (C : Cl) (own : Own) (H : Hp) (w : Addr) (s : Ag08.State) (A : WA) : Prop where
  trk : Trk own H
  ow : own w = some .world
  oN : own A.N = some .nodes
  oR : own A.R = some .row
  hw : H w = some (.ins C.W A.dx (wF A.N A.R A.P))
  hN : H A.N = some (.lst (A.ns.map V.ref))
  hR : H A.R = some (.lst (A.ls.map V.ref))
  nl : A.ns.length = s.nodes.length
  ll : A.ls.length = s.letters.length
  node : ∀ (i : Nat) (a : Addr) (n : Ag08.Node), A.ns[i]? = some a → s.nodes[i]? = some n → ∃ B, NodeR C.N own H s.writes.length i a n B
  letter : ∀ (j : Nat) (a : Addr) (x : Ag08.Letter), A.ls[j]? = some a → s.letters[j]? = some x → ∃ dx l, LetterR C.L own H a x dx l
  nd : A.ls.Nodup
  oP : own A.P = some .past
  hP : H A.P = some (.lst (A.hs.map V.ref))
  hist : HistR own H A.hs s.writes
/-! ### what has a role is there -/
section
variable {own : Own} {H H' : Hp} {a : Addr} {o : HO} {r : Role}
theorem Trk.upd (h : Trk own H) : Trk own (upd H a o) := fun b r e => by
  by_cases c : b = a
  · rw [c, upd_same]
    exact ⟨_, rfl⟩
  · rw [upd_ne c]
    exact h b r e
theorem Trk.give (h : Trk own H) (ha : H a = some o) : Trk (give own a r) H := fun b r' e => by
  by_cases c : b = a
  · rw [c]
    exact ⟨_, ha⟩
  · rw [give_ne c] at e
    exact h b r' e
theorem Trk.same (h : Trk own H) (s : Same H H') : Trk own H' := fun b r e => let ⟨o, q⟩ := h b r e; ⟨o, s b o q⟩
theorem Trk.free (h : Trk own H) (ha : H a = none) : own a = none := by
  cases e : own a with
  | none => rfl
  | some r =>
    obtain ⟨o, q⟩ := h a r e
    rw [ha] at q
    cases q
end
/-! ### what may change -/
def tNode (i : Nat) : Option Role → Prop := fun r => r = some (.node i) ∨ ∃ k, r = some (.part i k)
def tRow : Option Role → Prop := fun r => r = some .row
def tLetter (a : Addr) : Option Role → Prop := fun r => r = some (.letter a) ∨ r = some (.nums a)
def tNone : Option Role → Prop := fun _ => False
theorem tNode_some {i : Nat} : ∀ r, tNode i r → someRole r := fun r h e => by
  rcases h with h | ⟨k, h⟩ <;> rw [e] at h <;> cases h
theorem tRow_some : ∀ r, tRow r → someRole r := fun r h e => by
  rw [e] at h
  cases h
theorem tLetter_some {a : Addr} : ∀ r, tLetter a r → someRole r := fun r h e => by
  rcases h with h | h <;> rw [e] at h <;> cases h
theorem tNone_any {P : Option Role → Prop} : ∀ r, tNone r → P r := fun _ h => h.elim
section
variable {C : Cl} {own own' : Own} {H H' : Hp} {w : Addr} {s : Ag08.State} {A : WA}
theorem WorldR.nodeAt (h : WorldR C own H w s A) {i : Nat} (hi : i < s.nodes.length) : ∃ a B, A.ns[i]? = some a ∧ NodeR C.N own H s.writes.length i a (Ag08.node s i) B := by
  have hl : i < A.ns.length := by rw [h.nl]; exact hi
  obtain ⟨B, q⟩ := h.node i A.ns[i] _ (List.getElem?_eq_getElem hl) (node_at hi)
  exact ⟨_, B, List.getElem?_eq_getElem hl, q⟩
theorem WorldR.letterAt (h : WorldR C own H w s A) {k : Nat} {x : Ag08.Letter} (hx : s.letters[k]? = some x) : ∃ a dx l, A.ls[k]? = some a ∧ LetterR C.L own H a x dx l := by
  have hl : k < A.ls.length := by rw [h.ll]; exact (List.getElem?_eq_some_iff.mp hx).1
  obtain ⟨dx, l, q⟩ := h.letter k A.ls[k] x (List.getElem?_eq_getElem hl) hx
  exact ⟨_, dx, l, List.getElem?_eq_getElem hl, q⟩
/-- nothing of the world was touched -/
theorem WorldR.keep (h : WorldR C own H w s A) (c : Chg tNone own H own' H') (t : Trk own' H') : WorldR C own' H' w s A := by
  have f : ∀ {b : Addr} {o : HO} {r : Role}, H b = some o → own b = some r → H' b = some o ∧ own' b = some r := fun {b o r} q e => by
    obtain ⟨x, y⟩ := c b o q fun z => z
    exact ⟨x, y.trans e⟩
  obtain ⟨w1, w2⟩ := f h.hw h.ow
  obtain ⟨n1, n2⟩ := f h.hN h.oN
  obtain ⟨r1, r2⟩ := f h.hR h.oR
  obtain ⟨p1, p2⟩ := f h.hP h.oP
  exact ⟨t, w2, n2, r2, w1, n1, r1, h.nl, h.ll, fun i a n h1 h2 => let ⟨B, q⟩ := h.node i a n h1 h2; ⟨B, q.chg c (fun z => z) (fun z => z) (fun _ z => z)⟩,
    fun j a x h1 h2 => let ⟨dx, l, q⟩ := h.letter j a x h1 h2; ⟨dx, l, q.chg c (fun z => z) (fun z => z)⟩, h.nd, p2, p1, h.hist.chg c (fun z => z)⟩
/-- one node was touched -/
theorem WorldR.setNode (h : WorldR C own H w s A) {i : Nat} {a : Addr} {n' : Ag08.Node} (ha : A.ns[i]? = some a) (c : Chg (tNode i) own H own' H') (t : Trk own' H') (hn : ∃ B, NodeR C.N own' H' s.writes.length i a n' B) :
    WorldR C own' H' w (Ag08.setNode s i n') A := by
  have f : ∀ {b : Addr} {o : HO} {r : Role}, H b = some o → own b = some r → ¬ tNode i (some r) → H' b = some o ∧ own' b = some r := fun {b o r} q e z => by
    obtain ⟨x, y⟩ := c b o q (by rw [e]; exact z)
    exact ⟨x, y.trans e⟩
  obtain ⟨w1, w2⟩ := f h.hw h.ow (by rintro (z | ⟨k, z⟩) <;> cases z)
  obtain ⟨n1, n2⟩ := f h.hN h.oN (by rintro (z | ⟨k, z⟩) <;> cases z)
  obtain ⟨r1, r2⟩ := f h.hR h.oR (by rintro (z | ⟨k, z⟩) <;> cases z)
  obtain ⟨p1, p2⟩ := f h.hP h.oP (by rintro (z | ⟨k, z⟩) <;> cases z)
  refine ⟨t, w2, n2, r2, w1, n1, r1, ?_, h.ll, fun j b m h1 h2 => ?_, fun j b x h1 h2 => ?_, h.nd, p2, p1, h.hist.chg c (by rintro (z | ⟨k, z⟩) <;> cases z)⟩
  · show A.ns.length = (s.nodes.set i n').length
    rw [List.length_set]
    exact h.nl
  · show ∃ B, NodeR C.N own' H' s.writes.length j b m B
    have h3 : (s.nodes.set i n')[j]? = some m := h2
    rw [List.getElem?_set] at h3
    by_cases e : i = j
    · subst e
      rw [if_pos rfl] at h3
      split at h3
      · cases h3
        rw [ha] at h1
        cases h1
        exact hn
      · cases h3
    · rw [if_neg e] at h3
      obtain ⟨B, q⟩ := h.node j b m h1 h3
      exact ⟨B, q.chg c (by rintro (z | ⟨k, z⟩) <;> cases z) (by rintro (z | ⟨k, z⟩) <;> cases z; exact e rfl) (by rintro k (z | ⟨k', z⟩) <;> cases z; exact e rfl)⟩
  · obtain ⟨dx, l, q⟩ := h.letter j b x h1 h2
    exact ⟨dx, l, q.chg c (by rintro (z | ⟨k, z⟩) <;> cases z) (by rintro (z | ⟨k, z⟩) <;> cases z)⟩
/-- the row was touched: other letters lie in it -/
theorem WorldR.setRow (h : WorldR C own H w s A) {ls : List Addr} {xs : List Ag08.Letter} (c : Chg tRow own H own' H') (t : Trk own' H') (hR : H' A.R = some (.lst (ls.map V.ref))) (oR : own' A.R = some .row) (ll : ls.length = xs.length)
    (hl : ∀ (j : Nat) (a : Addr) (x : Ag08.Letter), ls[j]? = some a → xs[j]? = some x → ∃ dx l, LetterR C.L own' H' a x dx l) (nd : ls.Nodup) : WorldR C own' H' w { s with letters := xs } { A with ls := ls } := by
  have f : ∀ {b : Addr} {o : HO} {r : Role}, H b = some o → own b = some r → ¬ tRow (some r) → H' b = some o ∧ own' b = some r := fun {b o r} q e z => by
    obtain ⟨x, y⟩ := c b o q (by rw [e]; exact z)
    exact ⟨x, y.trans e⟩
  obtain ⟨w1, w2⟩ := f h.hw h.ow (fun z => by cases z)
  obtain ⟨n1, n2⟩ := f h.hN h.oN (fun z => by cases z)
  obtain ⟨p1, p2⟩ := f h.hP h.oP (fun z => by cases z)
  exact ⟨t, w2, n2, oR, w1, n1, hR, h.nl, ll, fun i a n h1 h2 => let ⟨B, q⟩ := h.node i a n h1 h2; ⟨B, q.chg c (fun z => by cases z) (fun z => by cases z) (fun _ z => by cases z)⟩, hl, nd, p2, p1, h.hist.chg c (fun z => by cases z)⟩
theorem Same.chg {P : Option Role → Prop} (h : Same H H') : Chg P own H own H' := Chg.same h
/-- a letter taken out -/
theorem WorldR.drop (h : WorldR C own H w s A) (k : Nat) : WorldR C own (upd H A.R (.lst ((A.ls.eraseIdx k).map V.ref))) w { s with letters := s.letters.eraseIdx k } { A with ls := A.ls.eraseIdx k } := by
  have c : Chg tRow own H own (upd H A.R (.lst ((A.ls.eraseIdx k).map V.ref))) := Chg.upd h.oR
  refine h.setRow c h.trk.upd upd_same h.oR ?_ (fun j a x h1 h2 => ?_) (h.nd.sublist (List.eraseIdx_sublist _ _))
  · rw [List.length_eraseIdx, List.length_eraseIdx, h.ll]
  · rw [List.getElem?_eraseIdx] at h1 h2
    have : ∃ j' : Nat, A.ls[j']? = some a ∧ s.letters[j']? = some x := by
      by_cases e : j < k
      · rw [if_pos e] at h1 h2
        exact ⟨j, h1, h2⟩
      · rw [if_neg e] at h1 h2
        exact ⟨j + 1, h1, h2⟩
    obtain ⟨j', q1, q2⟩ := this
    obtain ⟨dx, l, q⟩ := h.letter j' a x q1 q2
    exact ⟨dx, l, q.chg c (fun z => by cases z) (fun z => by cases z)⟩
/-- a letter sent: one that is not in the row yet -/
theorem WorldR.send (h : WorldR C own H w s A) {a dx l : Addr} {x : Ag08.Letter} (hx : LetterR C.L own H a x dx l) (hroom : s.letters.length ≤ 100) (hnew : a ∉ A.ls) :
    ∃ A', WorldR C own (if A.ls.length < 100 then upd H A.R (.lst (A.ls.map V.ref ++ [.ref a])) else H) w (Ag08.send s [x]) A' := by
  by_cases e : A.ls.length < 100
  · rw [if_pos e]
    have es : (Ag08.send s [x]) = { s with letters := s.letters ++ [x] } := by
      unfold Ag08.send
      rw [List.take_of_length_le]
      rw [List.length_append, ← h.ll]
      exact e
    rw [es]
    have c : Chg tRow own H own (upd H A.R (.lst (A.ls.map V.ref ++ [.ref a]))) := Chg.upd h.oR
    refine ⟨_, h.setRow (ls := A.ls ++ [a]) c h.trk.upd (by rw [upd_same, List.map_append]; rfl) h.oR (by rw [List.length_append, List.length_append, h.ll]; rfl) (fun j b y h1 h2 => ?_) ?_⟩
    · by_cases q : j < A.ls.length
      · rw [List.getElem?_append_left q] at h1
        rw [List.getElem?_append_left (by rw [← h.ll]; exact q)] at h2
        obtain ⟨dx', l', z⟩ := h.letter j b y h1 h2
        exact ⟨dx', l', z.chg c (fun z => by cases z) (fun z => by cases z)⟩
      · rw [List.getElem?_append_right (by omega)] at h1
        rw [List.getElem?_append_right (by rw [← h.ll]; omega), ← h.ll] at h2
        generalize j - A.ls.length = d at h1 h2
        cases d with
        | zero =>
          have e1 : a = b := Option.some.inj h1
          have e2 : x = y := Option.some.inj h2
          subst e1 e2
          exact ⟨dx, l, hx.chg c (fun z => by cases z) (fun z => by cases z)⟩
        | succ d => simp at h1
    · rw [List.nodup_append]
      refine ⟨h.nd, by simp, fun b hb c hc => ?_⟩
      rw [List.mem_singleton] at hc
      rintro rfl
      exact hnew (hc ▸ hb)
  · rw [if_neg e]
    have es : Ag08.send s [x] = s := by
      unfold Ag08.send
      have z : s.letters.length = Ag08.ROOM := by show s.letters.length = 100; have := h.ll; omega
      rw [← z, List.take_left]
    rw [es]
    exact ⟨A, h⟩
/-- a letter changed -/
theorem WorldR.setLetter (h : WorldR C own H w s A) {k : Nat} {a : Addr} {x' : Ag08.Letter} (ha : A.ls[k]? = some a) (c : Chg (tLetter a) own H own' H') (t : Trk own' H') (hx : ∃ dx l, LetterR C.L own' H' a x' dx l) :
    WorldR C own' H' w { s with letters := s.letters.set k x' } A := by
  have f : ∀ {b : Addr} {o : HO} {r : Role}, H b = some o → own b = some r → ¬ tLetter a (some r) → H' b = some o ∧ own' b = some r := fun {b o r} q e z => by
    obtain ⟨x, y⟩ := c b o q (by rw [e]; exact z)
    exact ⟨x, y.trans e⟩
  obtain ⟨w1, w2⟩ := f h.hw h.ow (by rintro (z | z) <;> cases z)
  obtain ⟨n1, n2⟩ := f h.hN h.oN (by rintro (z | z) <;> cases z)
  obtain ⟨r1, r2⟩ := f h.hR h.oR (by rintro (z | z) <;> cases z)
  obtain ⟨p1, p2⟩ := f h.hP h.oP (by rintro (z | z) <;> cases z)
  refine ⟨t, w2, n2, r2, w1, n1, r1, h.nl, by rw [List.length_set]; exact h.ll, fun i b n h1 h2 => ?_, fun j b y h1 h2 => ?_, h.nd, p2, p1, h.hist.chg c (by rintro (z | z) <;> cases z)⟩
  · obtain ⟨B, q⟩ := h.node i b n h1 h2
    exact ⟨B, q.chg c (by rintro (z | z) <;> cases z) (by rintro (z | z) <;> cases z) (by rintro k (z | z) <;> cases z)⟩
  · rw [List.getElem?_set] at h2
    by_cases e : k = j
    · subst e
      rw [if_pos rfl] at h2
      split at h2
      · cases h2
        rw [ha] at h1
        cases h1
        exact hx
      · cases h2
    · rw [if_neg e] at h2
      have ne : b ≠ a := by
        rintro rfl
        exact e ((List.getElem?_inj (List.getElem?_eq_some_iff.mp ha).1 h.nd).mp (ha.trans h1.symm))
      obtain ⟨dx, l, q⟩ := h.letter j b y h1 h2
      exact ⟨dx, l, q.chg c (by rintro (z | z) <;> cases z; exact ne rfl) (by rintro (z | z) <;> cases z; exact ne rfl)⟩
end
/-! ### something that is no part of the world was changed -/
section
variable {C : Cl} {own own' : Own} {H H' : Hp} {w : Addr} {s : Ag08.State} {A : WA}
def KeepW (own : Own) (H : Hp) (own' : Own) (H' : Hp) : Prop := ∀ b o, H b = some o → (own b ≠ none ∨ ∃ xs, o = .tup xs) → H' b = some o ∧ own' b = own b
theorem WorldR.keepW (h : WorldR C own H w s A) (c : KeepW own H own' H') (t : Trk own' H') : WorldR C own' H' w s A := by
  have f : ∀ {b : Addr} {o : HO} {r : Role}, H b = some o → own b = some r → H' b = some o ∧ own' b = some r := fun {b o r} q e => by
    obtain ⟨x, y⟩ := c b o q (.inl (by rw [e]; intro z; cases z))
    exact ⟨x, y.trans e⟩
  obtain ⟨w1, w2⟩ := f h.hw h.ow
  obtain ⟨n1, n2⟩ := f h.hN h.oN
  obtain ⟨r1, r2⟩ := f h.hR h.oR
  obtain ⟨p1, p2⟩ := f h.hP h.oP
  refine ⟨t, w2, n2, r2, w1, n1, r1, h.nl, h.ll, fun i a n h1 h2 => ?_, fun j a x h1 h2 => ?_, h.nd, p2, p1, h.hist.keep fun b xs q e => let ⟨x, y⟩ := c b _ q (.inr ⟨_, rfl⟩); ⟨x, y.trans e⟩⟩
  · obtain ⟨B, q⟩ := h.node i a n h1 h2
    obtain ⟨a1, a2⟩ := f q.ha q.oa
    obtain ⟨u1, u2⟩ := f q.hu q.ou
    obtain ⟨h1, h2⟩ := f q.hh q.oh
    obtain ⟨w1, w2⟩ := f q.hw q.ow
    obtain ⟨q1, q2⟩ := f q.hq q.oq
    refine ⟨B, a2, u2, h2, w2, q2, a1, u1, h1, w1, q1, q.wt.1, fun j t a e1 e2 => ?_⟩
    obtain ⟨o1, o2⟩ := q.wt.2 j t a e1 e2
    obtain ⟨x, y⟩ := c t _ o2 (.inr ⟨_, rfl⟩)
    exact ⟨y.trans o1, x⟩
  · obtain ⟨dx, l, q⟩ := h.letter j a x h1 h2
    obtain ⟨a1, a2⟩ := f q.ha q.oa
    obtain ⟨u1, u2⟩ := f q.hl q.ol
    exact ⟨dx, l, a2, u2, a1, u1⟩
/-- a thing without a role, no tuple -/
theorem WorldR.updOut (h : WorldR C own H w s A) {a : Addr} {o o' : HO} (ha : H a = some o) (oa : own a = none) (no : ∀ xs, o ≠ .tup xs) : WorldR C own (upd H a o') w s A := by
  refine h.keepW (fun b u hb hc => ?_) h.trk.upd
  have ne : b ≠ a := by
    rintro rfl
    rcases hc with z | ⟨xs, z⟩
    · exact z oa
    · rw [ha] at hb
      cases hb
      exact no xs z
  exact ⟨by rw [upd_ne ne]; exact hb, rfl⟩
/-- something new -/
theorem WorldR.same (h : WorldR C own H w s A) (hs : Same H H') : WorldR C own H' w s A := h.keep (Chg.same hs) (h.trk.same hs)
end
theorem same_new {H : Hp} {p : Addr} {o : HO} (h : H p = none) : Same H (upd H p o) := fun b u e => by
  rw [upd_ne (ne_of_none e h)]
  exact e
theorem iteB {c A B : Prop} [Decidable c] (h1 : c → A) (h2 : ¬ c → B) : if decide c = true then A else B := by
  by_cases h : c
  · rw [decide_eq_true h]
    exact h1 h
  · rw [decide_eq_false h, if_neg Bool.false_ne_true]
    exact h2 h
/-- what a call on a world gives: one number, and the world that the specification tells -/
def Outcome (C : Cl) (own : Own) (H : Hp) (w : Addr) (o : Ag08.Abs × List Int) (Q : VK) : Prop :=
  ∀ own' H' A' s' r, o = (some s', [r]) → WorldR C own' H' w s' A' → Chg someRole own H own' H' → Q (.int r) H'
end Bo

set_option Elab.async false
set_option maxRecDepth 100000
set_option maxHeartbeats 1000000
/-! The text by places, and what its top has written. -/
namespace Bo
open PySem PySem.Spec PyProof.Rows L2
def topS (i : Nat) : Stmt := PySem.Challenge.pw_broughtover_s01_answers.main.body.getD i (.Pass ⟨0, 0, 0, 0⟩)
abbrev s_Node_init : Stmt := inClass (topS 37) 0
abbrev s_Letter_init : Stmt := inClass (topS 38) 0
abbrev s_World_init : Stmt := inClass (topS 39) 0
abbrev s_Line_init : Stmt := inClass (topS 40) 0
abbrev s_sum_of : Stmt := topS 41
abbrev s_send : Stmt := topS 42
abbrev s_begin : Stmt := topS 43
abbrev s_write : Stmt := topS 44
abbrev s_ask : Stmt := topS 45
abbrev s_cells_behind : Stmt := topS 46
abbrev s_answer_ask : Stmt := topS 47
abbrev s_accept_answer : Stmt := topS 48
abbrev s_hand_over : Stmt := topS 49
abbrev s_take : Stmt := topS 50
abbrev s_keep : Stmt := topS 51
abbrev s_lose : Stmt := topS 52
abbrev s_standing_at : Stmt := topS 53
abbrev s_put_at : Stmt := topS 54
abbrev s_spoil : Stmt := topS 55
abbrev s_stop : Stmt := topS 56
abbrev s_start : Stmt := topS 57
abbrev s_tell_letters : Stmt := topS 58
abbrev s_tell_node : Stmt := topS 59
abbrev s_tell_whole : Stmt := topS 60
abbrev s_tell_at : Stmt := topS 61
abbrev s_change_world : Stmt := topS 62
abbrev s_look_at_world : Stmt := topS 63
abbrev s_answer_in_world : Stmt := topS 64
abbrev s_answer_call : Stmt := topS 65
abbrev s_answers : Stmt := topS 66
theorem sc_Node_init : FnScope ["self"] ["self"] (defScope s_Node_init) := ⟨rfl, rfl, rfl, by decide +kernel, rfl, by decide +kernel, by decide +kernel⟩
theorem sc_Letter_init : FnScope ["self", "kind", "receiver", "sender", "numbers"] ["self", "kind", "receiver", "sender", "numbers"] (defScope s_Letter_init) := ⟨rfl, rfl, rfl, by decide +kernel, rfl, by decide +kernel, by decide +kernel⟩
theorem sc_World_init : FnScope ["self", "count", "number"] ["self", "count"] (defScope s_World_init) := ⟨rfl, rfl, rfl, by decide +kernel, rfl, by decide +kernel, by decide +kernel⟩
theorem sc_Line_init : FnScope ["self"] ["self"] (defScope s_Line_init) := ⟨rfl, rfl, rfl, by decide +kernel, rfl, by decide +kernel, by decide +kernel⟩
theorem sc_sum_of : FnScope ["numbers", "total", "weight", "number"] ["numbers"] (defScope s_sum_of) := ⟨rfl, rfl, rfl, by decide +kernel, rfl, by decide +kernel, by decide +kernel⟩
theorem sc_send : FnScope ["row", "letter"] ["row", "letter"] (defScope s_send) := ⟨rfl, rfl, rfl, by decide +kernel, rfl, by decide +kernel, by decide +kernel⟩
theorem sc_begin : FnScope ["line", "count"] ["line", "count"] (defScope s_begin) := ⟨rfl, rfl, rfl, by decide +kernel, rfl, by decide +kernel, by decide +kernel⟩
theorem sc_write : FnScope ["world", "cell", "value", "store", "number"] ["world", "cell", "value"] (defScope s_write) := ⟨rfl, rfl, rfl, by decide +kernel, rfl, by decide +kernel, by decide +kernel⟩
theorem sc_ask : FnScope ["world", "asker", "whom", "piece", "count", "node", "since"] ["world", "asker", "whom", "piece"] (defScope s_ask) := ⟨rfl, rfl, rfl, by decide +kernel, rfl, by decide +kernel, by decide +kernel⟩
theorem sc_cells_behind : FnScope ["node", "piece", "since", "told", "cell"] ["node", "piece", "since"] (defScope s_cells_behind) := ⟨rfl, rfl, rfl, by decide +kernel, rfl, by decide +kernel, by decide +kernel⟩
theorem sc_answer_ask : FnScope ["world", "letter", "node", "piece", "since", "told", "head"] ["world", "letter"] (defScope s_answer_ask) := ⟨rfl, rfl, rfl, by decide +kernel, rfl, by decide +kernel, by decide +kernel⟩
theorem sc_accept_answer : FnScope ["node", "numbers", "piece", "upto", "wait", "place", "cell"] ["node", "numbers"] (defScope s_accept_answer) := ⟨rfl, rfl, rfl, by decide +kernel, rfl, by decide +kernel, by decide +kernel⟩
theorem sc_hand_over : FnScope ["world", "letter", "node"] ["world", "letter"] (defScope s_hand_over) := ⟨rfl, rfl, rfl, by decide +kernel, rfl, by decide +kernel, by decide +kernel⟩
theorem sc_take : FnScope ["world", "position", "letter"] ["world", "position"] (defScope s_take) := ⟨rfl, rfl, rfl, by decide +kernel, rfl, by decide +kernel, by decide +kernel⟩
theorem sc_keep : FnScope ["world", "position"] ["world", "position"] (defScope s_keep) := ⟨rfl, rfl, rfl, by decide +kernel, rfl, by decide +kernel, by decide +kernel⟩
theorem sc_lose : FnScope ["world", "position"] ["world", "position"] (defScope s_lose) := ⟨rfl, rfl, rfl, by decide +kernel, rfl, by decide +kernel, by decide +kernel⟩
theorem sc_standing_at : FnScope ["letter", "place"] ["letter", "place"] (defScope s_standing_at) := ⟨rfl, rfl, rfl, by decide +kernel, rfl, by decide +kernel, by decide +kernel⟩
theorem sc_put_at : FnScope ["letter", "place", "number"] ["letter", "place", "number"] (defScope s_put_at) := ⟨rfl, rfl, rfl, by decide +kernel, rfl, by decide +kernel, by decide +kernel⟩
theorem sc_spoil : FnScope ["world", "position", "place", "number", "letter"] ["world", "position", "place", "number"] (defScope s_spoil) := ⟨rfl, rfl, rfl, by decide +kernel, rfl, by decide +kernel, by decide +kernel⟩
theorem sc_stop : FnScope ["world", "number", "node"] ["world", "number"] (defScope s_stop) := ⟨rfl, rfl, rfl, by decide +kernel, rfl, by decide +kernel, by decide +kernel⟩
theorem sc_start : FnScope ["world", "number", "node"] ["world", "number"] (defScope s_start) := ⟨rfl, rfl, rfl, by decide +kernel, rfl, by decide +kernel, by decide +kernel⟩
theorem sc_tell_letters : FnScope ["world", "told", "letter"] ["world"] (defScope s_tell_letters) := ⟨rfl, rfl, rfl, by decide +kernel, rfl, by decide +kernel, by decide +kernel⟩
theorem sc_tell_node : FnScope ["world", "number", "node", "told", "cell", "wait"] ["world", "number"] (defScope s_tell_node) := ⟨rfl, rfl, rfl, by decide +kernel, rfl, by decide +kernel, by decide +kernel⟩
theorem sc_tell_whole : FnScope ["world", "number", "node", "least"] ["world", "number"] (defScope s_tell_whole) := ⟨rfl, rfl, rfl, by decide +kernel, rfl, by decide +kernel, by decide +kernel⟩
theorem sc_tell_at : FnScope ["world", "moment", "held", "cell", "value"] ["world", "moment"] (defScope s_tell_at) := ⟨rfl, rfl, rfl, by decide +kernel, rfl, by decide +kernel, by decide +kernel⟩
theorem sc_change_world : FnScope ["world", "call", "handed"] ["world", "call", "handed"] (defScope s_change_world) := ⟨rfl, rfl, rfl, by decide +kernel, rfl, by decide +kernel, by decide +kernel⟩
theorem sc_look_at_world : FnScope ["world", "call", "handed"] ["world", "call", "handed"] (defScope s_look_at_world) := ⟨rfl, rfl, rfl, by decide +kernel, rfl, by decide +kernel, by decide +kernel⟩
theorem sc_answer_in_world : FnScope ["world", "call", "handed"] ["world", "call", "handed"] (defScope s_answer_in_world) := ⟨rfl, rfl, rfl, by decide +kernel, rfl, by decide +kernel, by decide +kernel⟩
theorem sc_answer_call : FnScope ["line", "call", "handed"] ["line", "call", "handed"] (defScope s_answer_call) := ⟨rfl, rfl, rfl, by decide +kernel, rfl, by decide +kernel, by decide +kernel⟩
theorem sc_answers : FnScope ["calls", "line", "told", "place", "call", "behind", "answer"] ["calls"] (defScope s_answers) := ⟨rfl, rfl, rfl, by decide +kernel, rfl, by decide +kernel, by decide +kernel⟩
/-- a def of the top -/
structure Fn (K : PySem.W.Frag) (mg : Str → Option Value) (x : Str) (st : Stmt) (ps : List Str) : Prop where
  ex : ∃ f fd, Fun K x x st f fd ∧ Binds K fd ps [] ∧ mg x = some (.ref f)
/-- a class of the top, with its __init__ -/
structure Cs (K : PySem.W.Frag) (mg : Str → Option Value) (x qual : Str) (st : Stmt) (ps : List Str) (C : Addr) : Prop where
  cl : Cls K C
  g : mg x = some (.ref C)
  ex : ∃ f fd, Mk K C f ∧ Fun K "__init__" qual st f fd ∧ Binds K fd ps []
def Ok (P : Program) (w : World) (K : PySem.W.Frag) (mg : Str → Option Value) (base : Heap) (k : Nat) (x : Str) (ps : List Str) (sp : Sp) : Prop :=
  ∃ f fd, FnOk P w K mg base CX0 k f fd ps sp ∧ Binds K fd ps [] ∧ mg x = some (.ref f) ∧ PySem.W.keepIn K (.ref f) = true
def OkC (P : Program) (w : World) (K : PySem.W.Frag) (mg : Str → Option Value) (base : Heap) (k : Nat) (C : Addr) (ps : List Str) (sp : Sp) : Prop :=
  ∃ f fd, Mk K C f ∧ FnOk P w K mg base CX0 k f fd ps sp ∧ Binds K fd ps []
section
variable {P : Program} {w : World} {K : PySem.W.Frag} {mg : Str → Option Value} {base : Heap}
theorem Fn.ok {x : Str} {st : Stmt} {N ps : List Str} {k : Nat} {sp : Sp} (F : Fn K mg x st ps) (S : FnScope N ps (defScope st)) (len : ∀ vs H Q E, sp vs H Q E → vs.length = ps.length)
    (hbody : ∀ (f : Addr) (cdv : Value) (A : Around) (outer : List Env) (s : Shared) (H : Hp) (vs : List V) (Q : VK) (E : XK), Room k (A.deeper (envOfC x (defScope st) s.heap.objs.size f cdv)) → sp vs H Q E →
      ∃ t, PSs (cxOf CX0 P w K mg base N x (defScope st) f cdv A outer s H E).nox (defBody st) t ∧ t { nx := fun _ H' => Q .non H', rt := Q } (start N vs) H) : Ok P w K mg base (k + 1) x ps sp := by
  obtain ⟨f, fd, F1, b, m⟩ := F.ex
  exact ⟨f, fd, F1.ok S len (hbody f), b, m, F1.kp⟩
theorem Cs.ok {x qual : Str} {st : Stmt} {N ps : List Str} {k : Nat} {sp : Sp} {C : Addr} (F : Cs K mg x qual st ps C) (S : FnScope N ps (defScope st)) (len : ∀ vs H Q E, sp vs H Q E → vs.length = ps.length)
    (hbody : ∀ (f : Addr) (cdv : Value) (A : Around) (outer : List Env) (s : Shared) (H : Hp) (vs : List V) (Q : VK) (E : XK), Room k (A.deeper (envOfC qual (defScope st) s.heap.objs.size f cdv)) → sp vs H Q E →
      ∃ t, PSs (cxOf CX0 P w K mg base N qual (defScope st) f cdv A outer s H E).nox (defBody st) t ∧ t { nx := fun _ H' => Q .non H', rt := Q } (start N vs) H) : OkC P w K mg base (k + 1) C ps sp := by
  obtain ⟨f, fd, M, F1, b⟩ := F.ex
  exact ⟨f, fd, M, F1.ok S len (hbody f), b⟩
end
/-- what the top has written -/
structure Txt (K : PySem.W.Frag) (mg : Str → Option Value) (C : Cl) : Prop where
  enumerate : mg "enumerate" = none
  len : mg "len" = none
  max : mg "max" = none
  min : mg "min" = none
  range : mg "range" = none
  c_STORE : ∃ t, mg "STORE" = some (.int 0 t)
  c_CELLS : ∃ t, mg "CELLS" = some (.int 12 t)
  c_PIECES : ∃ t, mg "PIECES" = some (.int 4 t)
  c_PIECE_CELLS : ∃ t, mg "PIECE_CELLS" = some (.int 3 t)
  c_MOST_WRITES : ∃ t, mg "MOST_WRITES" = some (.int 9999 t)
  c_HIGHEST : ∃ t, mg "HIGHEST" = some (.int 9999 t)
  c_ROOM : ∃ t, mg "ROOM" = some (.int 100 t)
  c_DIVISOR : ∃ t, mg "DIVISOR" = some (.int 10007 t)
  c_ASK_LETTER : ∃ t, mg "ASK_LETTER" = some (.int 0 t)
  c_ANSWER_LETTER : ∃ t, mg "ANSWER_LETTER" = some (.int 1 t)
  c_ANSWER_HEAD : ∃ t, mg "ANSWER_HEAD" = some (.int 5 t)
  c_ANSWER_CELL : ∃ t, mg "ANSWER_CELL" = some (.int 3 t)
  c_NO_USE : ∃ t, mg "NO_USE" = some (.int 0 t)
  c_ANSWERED : ∃ t, mg "ANSWERED" = some (.int 1 t)
  c_GOES_ON : ∃ t, mg "GOES_ON" = some (.int 2 t)
  c_FOUND_SPOILED : ∃ t, mg "FOUND_SPOILED" = some (.int 3 t)
  c_NO_SUCH : ∃ t, mg "NO_SUCH" = some (.int (-1) t)
  c_ALREADY : ∃ t, mg "ALREADY" = some (.int (-2) t)
  c_MIXTURE : ∃ t, mg "MIXTURE" = some (.int (-2) t)
  c_STOPPED : ∃ t, mg "STOPPED" = some (.int (-3) t)
  c_SPOILED_BEFORE : ∃ t, mg "SPOILED_BEFORE" = some (.int (-4) t)
  c_NO_MORE_WRITES : ∃ t, mg "NO_MORE_WRITES" = some (.int (-5) t)
  c_NO_WORLD : ∃ t, mg "NO_WORLD" = some (.int (-9) t)
  c_BEGIN : ∃ t, mg "BEGIN" = some (.int 0 t)
  c_WRITE : ∃ t, mg "WRITE" = some (.int 1 t)
  c_ASK : ∃ t, mg "ASK" = some (.int 2 t)
  c_TAKE : ∃ t, mg "TAKE" = some (.int 3 t)
  c_KEEP : ∃ t, mg "KEEP" = some (.int 4 t)
  c_LOSE : ∃ t, mg "LOSE" = some (.int 5 t)
  c_SPOIL : ∃ t, mg "SPOIL" = some (.int 6 t)
  c_STOP : ∃ t, mg "STOP" = some (.int 7 t)
  c_START : ∃ t, mg "START" = some (.int 8 t)
  c_LETTERS : ∃ t, mg "LETTERS" = some (.int 9 t)
  c_NODE : ∃ t, mg "NODE" = some (.int 10 t)
  c_WHOLE : ∃ t, mg "WHOLE" = some (.int 11 t)
  t_HANDED : mg "HANDED" = some (.ref C.T)
  q_HANDED : ∀ H : Hp, SqT K H C.T [.int 1, .int 2, .int 3, .int 1, .int 1, .int 1, .int 3, .int 1, .int 1, .int 0, .int 1, .int 1, .int 1]
  s_Node : Cs K mg "Node" "Node.__init__" s_Node_init ["self"] C.N
  n_Node_runs : NoAttr K C.N "runs"
  n_Node_asked : NoAttr K C.N "asked"
  n_Node_upto : NoAttr K C.N "upto"
  n_Node_held : NoAttr K C.N "held"
  n_Node_written : NoAttr K C.N "written"
  n_Node_waits : NoAttr K C.N "waits"
  s_Letter : Cs K mg "Letter" "Letter.__init__" s_Letter_init ["self", "kind", "receiver", "sender", "numbers"] C.L
  n_Letter_kind : NoAttr K C.L "kind"
  n_Letter_receiver : NoAttr K C.L "receiver"
  n_Letter_sender : NoAttr K C.L "sender"
  n_Letter_numbers : NoAttr K C.L "numbers"
  n_Letter_checksum : NoAttr K C.L "checksum"
  n_Letter_spoiled : NoAttr K C.L "spoiled"
  s_World : Cs K mg "World" "World.__init__" s_World_init ["self", "count"] C.W
  n_World_nodes : NoAttr K C.W "nodes"
  n_World_row : NoAttr K C.W "row"
  n_World_writes : NoAttr K C.W "writes"
  s_Line : Cs K mg "Line" "Line.__init__" s_Line_init ["self"] C.I
  n_Line_world : NoAttr K C.I "world"
  f_sum_of : Fn K mg "sum_of" s_sum_of ["numbers"]
  f_send : Fn K mg "send" s_send ["row", "letter"]
  f_begin : Fn K mg "begin" s_begin ["line", "count"]
  f_write : Fn K mg "write" s_write ["world", "cell", "value"]
  f_ask : Fn K mg "ask" s_ask ["world", "asker", "whom", "piece"]
  f_cells_behind : Fn K mg "cells_behind" s_cells_behind ["node", "piece", "since"]
  f_answer_ask : Fn K mg "answer_ask" s_answer_ask ["world", "letter"]
  f_accept_answer : Fn K mg "accept_answer" s_accept_answer ["node", "numbers"]
  f_hand_over : Fn K mg "hand_over" s_hand_over ["world", "letter"]
  f_take : Fn K mg "take" s_take ["world", "position"]
  f_keep : Fn K mg "keep" s_keep ["world", "position"]
  f_lose : Fn K mg "lose" s_lose ["world", "position"]
  f_standing_at : Fn K mg "standing_at" s_standing_at ["letter", "place"]
  f_put_at : Fn K mg "put_at" s_put_at ["letter", "place", "number"]
  f_spoil : Fn K mg "spoil" s_spoil ["world", "position", "place", "number"]
  f_stop : Fn K mg "stop" s_stop ["world", "number"]
  f_start : Fn K mg "start" s_start ["world", "number"]
  f_tell_letters : Fn K mg "tell_letters" s_tell_letters ["world"]
  f_tell_node : Fn K mg "tell_node" s_tell_node ["world", "number"]
  f_tell_whole : Fn K mg "tell_whole" s_tell_whole ["world", "number"]
  f_tell_at : Fn K mg "tell_at" s_tell_at ["world", "moment"]
  f_change_world : Fn K mg "change_world" s_change_world ["world", "call", "handed"]
  f_look_at_world : Fn K mg "look_at_world" s_look_at_world ["world", "call", "handed"]
  f_answer_in_world : Fn K mg "answer_in_world" s_answer_in_world ["world", "call", "handed"]
  f_answer_call : Fn K mg "answer_call" s_answer_call ["line", "call", "handed"]
  f_answers : Fn K mg "answers" s_answers ["calls"]
section
variable {K : PySem.W.Frag} {mg : Str → Option Value} {C : Cl}
theorem Txt.g_Node (T : Txt K mg C) : mg "Node" = some (.ref C.N) := T.s_Node.g
theorem Txt.g_Letter (T : Txt K mg C) : mg "Letter" = some (.ref C.L) := T.s_Letter.g
theorem Txt.g_World (T : Txt K mg C) : mg "World" = some (.ref C.W) := T.s_World.g
theorem Txt.g_Line (T : Txt K mg C) : mg "Line" = some (.ref C.I) := T.s_Line.g
theorem Txt.cl_Node (T : Txt K mg C) : Cls K C.N := T.s_Node.cl
theorem Txt.cl_Letter (T : Txt K mg C) : Cls K C.L := T.s_Letter.cl
theorem Txt.cl_World (T : Txt K mg C) : Cls K C.W := T.s_World.cl
theorem Txt.cl_Line (T : Txt K mg C) : Cls K C.I := T.s_Line.cl
end
end Bo

set_option Elab.async false
set_option maxRecDepth 100000
set_option maxHeartbeats 2000000
namespace Bo
open PySem PySem.Spec PyProof.Rows L2
section
variable {P : Program} {w : World} {K : PySem.W.Frag} {mg : Str → Option Value} {base : Heap} {C : Cl}
theorem lp0 : ([] : List (Str × V)).length ≤ 0 := Nat.le_refl 0
theorem lp {f : Str} {v : V} {fs : List (Str × V)} {n : Nat} (h : fs.length ≤ n) : (putF f v fs).length ≤ n + 1 := Nat.le_trans (length_putF f v fs) (Nat.succ_le_succ h)
theorem few {fs : List (Str × V)} {n : Nat} (h : fs.length ≤ n) (hn : n < 1000) : fs.length < 1000 := Nat.lt_of_le_of_lt h hn
theorem upd_none_iff {H : Hp} {a b : Addr} {o : HO} : upd H a o b = none ↔ b ≠ a ∧ H b = none := by
  unfold upd
  by_cases c : b = a
  · simp [c]
  · simp [c]
/-! ### sum_of -/
def spSum (K : PySem.W.Frag) : Sp := fun vs H Q _ => ∃ (l : Addr) (ns : List Nat), vs = [.ref l] ∧ SqL K H l (intsV ns) ∧ ns.length ≤ 1000 ∧ ∀ H', Same H H' → Q (.int (Ag08.sumOf ns : Nat)) H'
theorem ok_sum_of (T : Txt K mg C) : Ok P w K mg base 1 "sum_of" ["numbers"] (spSum K) := by
  refine T.f_sum_of.ok sc_sum_of (fun vs H Q E h => ?_) (fun f cdv A outer s H vs Q E hr h => ?_)
  · obtain ⟨l, ns, rfl, _⟩ := h
    rfl
  · obtain ⟨l, ns, rfl, hS, hlen, k⟩ := h
    refine ⟨_, (pss_cons (ps_set (i := 1) sc_sum_of.nd rfl (Or.inl rfl) pe_int)
        (pss_cons (ps_for PassesOwn.never rfl (pi_enumK (by rfl) T.enumerate (pa_cons (pv 0) pa_nil) (pk_cons pe_int pk_nil)) (pg_tup rfl (pgs_cons (pg_name (i := 2) sc_sum_of.nd rfl (Or.inl rfl)) (pgs_cons (pg_name (i := 3) sc_sum_of.nd rfl (Or.inl rfl)) pgs_nil))) (pss_one (ps_set (i := 1) sc_sum_of.nd rfl (Or.inl rfl) (pe_op op_add (pv 1) (pe_op op_mul (pv 2) (pv 3))))))
        (pss_one (ps_ret (pe_op op_mod (pv 1) (pe_cst rfl T.c_DIVISOR)))))), ?_⟩
    refine ⟨_, rfl, l, _, 1, rfl, rfl, by decide, by decide, hS, for_it (walk_enumK (xs := intsV ns)) (fun i σ H' => ∃ v2 v3, σ = [some (.ref l), some (.int (wsum 0 (ns.take i) : Nat)), v2, v3] ∧ Same H H')
      ⟨none, none, rfl, Same.refl H⟩ (fun i σ H' _ ⟨_, _, _, s1⟩ => s1.seq hS) ?_ ?_⟩
    · rintro i x σ H1 H2 hi ⟨v2, v3, rfl, s1⟩ ⟨t, a, b, rfl, hn, rfl, e1, e2⟩
      rw [intsV_len] at hi
      have hx : ns[i]? = some ns[i] := List.getElem?_eq_getElem hi
      have e3 : (intsV ns)[i]? = some b := e2
      rw [intsV_get hx] at e3
      cases e1
      cases e3
      refine ⟨t, _, rfl, SqT.of upd_same, rfl, _, _, rfl, _, _, rfl, rfl, ?_⟩
      refine ⟨_, rfl, _, rfl, _, rfl, _, _, rfl, rfl, .inl ⟨by omega, by omega⟩, _, _, rfl, rfl, ?_⟩
      refine ⟨some (.int (1 + (i : Int))), some (.int (ns[i] : Nat)), congrArg (fun z => [some (V.ref l), some (V.int z), some (.int (1 + (i : Int))), some (.int (ns[i] : Nat))]) ?_, s1.trans fun b o q => by rw [upd_ne (ne_of_none q hn)]; exact q⟩
      rw [wsum_more hx, Int.natCast_add, Int.natCast_mul, Int.natCast_add, Int.add_comm 1]
      rfl
    · rintro σ H1 ⟨v2, v3, rfl, s1⟩
      rw [intsV_len, List.take_length]
      refine ⟨_, rfl, _, _, rfl, rfl, (by show (0 : Int) < 10007; decide), ?_⟩
      have e : ((wsum 0 ns : Nat) : Int) % 10007 = ((Ag08.sumOf ns : Nat) : Int) := by
        rw [sumOf_eq]
        rfl
      show Q (.int (((wsum 0 ns : Nat) : Int) % 10007)) H1
      rw [e]
      exact k H1 s1
/-! ### send -/
def spSend : Sp := fun vs H Q _ => ∃ (r : Addr) (y : V) (xs : List V), vs = [.ref r, y] ∧ H r = some (.lst xs) ∧ xs.length ≤ 1000 ∧ Q .non (if xs.length < 100 then upd H r (.lst (xs ++ [y])) else H)
theorem ok_send (T : Txt K mg C) : Ok P w K mg base 1 "send" ["row", "letter"] spSend := by
  refine T.f_send.ok sc_send (fun vs H Q E h => ?_) (fun f cdv A outer s H vs Q E hr h => ?_)
  · obtain ⟨r, y, xs, rfl, _⟩ := h
    rfl
  · obtain ⟨r, y, xs, rfl, hr1, hlen, k⟩ := h
    refine ⟨_, (pss_one (ps_if (pt_cmpR op_lt (pe_callB call_len_seq (by rfl) T.len PySem.boot_len (pa_cons (pv 0) pa_nil)) (pe_cst rfl T.c_ROOM) (nomark _)) (pss_one (ps_expr (pe_bm PySem.F.plainAttrs_list PySem.F.slot_list_append PySem.F.type_list_append mt_append (pv 0) (pa_cons (pv 1) pa_nil)))) pss_nil)), ?_⟩
    refine ⟨_, rfl, r, _, rfl, .inl (SqL.of hr1), _, _, rfl, rfl, _, rfl, ?_⟩
    by_cases c : xs.length < 100
    · rw [if_pos c] at k
      refine if_true_of (decide_eq_true (by omega)) ?_
      exact ⟨_, rfl, .inl ⟨rfl, _, SqL.of hr1⟩, _, rfl, r, _, _, rfl, rfl, hr1, small1000 hlen, k⟩
    · rw [if_neg c] at k
      exact if_false_of (decide_eq_false (by omega)) k
/-! ### Node() -/
/-- a new node at p -/
structure NewNode (C : Cl) (H H' : Hp) (p : Addr) (B : NodeA) : Prop where
  ha : H' p = some (.ins C.N B.dx (nF true 0 B.u B.h B.w B.q))
  hu : H' B.u = some (.lst (intsV (List.replicate 4 0)))
  hh : H' B.h = some (.lst (intsV (List.replicate 12 0)))
  hw : H' B.w = some (.lst (intsV (List.replicate 12 0)))
  hq : H' B.q = some (.lst [])
  fu : H B.u = none
  fh : H B.h = none
  fw : H B.w = none
  fq : H B.q = none
  uh : B.u ≠ B.h
  uw : B.u ≠ B.w
  uq : B.u ≠ B.q
  hw' : B.h ≠ B.w
  hq' : B.h ≠ B.q
  wq : B.w ≠ B.q
  kp : ∀ b o, H b = some o → b ≠ p → H' b = some o
  ts : B.ts = []
def spNode (C : Cl) : Sp := fun vs H Q _ => ∃ (p dx : Addr), vs = [.ref p] ∧ H p = some (.ins C.N dx []) ∧ ∀ H' B, NewNode C H H' p B → Q .non H'
theorem ok_Node (T : Txt K mg C) : OkC P w K mg base 1 C.N ["self"] (spNode C) := by
  refine T.s_Node.ok sc_Node_init (fun vs H Q E h => ?_) (fun f cdv A outer s H vs Q E hr h => ?_)
  · obtain ⟨p, dx, rfl, _⟩ := h
    rfl
  · obtain ⟨p, dx, rfl, hp, k⟩ := h
    refine ⟨_, (pss_cons (ps_fld (pv 0) pe_bl rfl)
        (pss_cons (ps_fld (pv 0) pe_int rfl)
        (pss_cons (ps_fld (pv 0) (pe_op op_rep (pe_lst (pa_cons pe_int pa_nil)) (pe_cst rfl T.c_PIECES)) rfl)
        (pss_cons (ps_fld (pv 0) (pe_op op_rep (pe_lst (pa_cons pe_int pa_nil)) (pe_cst rfl T.c_CELLS)) rfl)
        (pss_cons (ps_fld (pv 0) (pe_op op_rep (pe_lst (pa_cons pe_int pa_nil)) (pe_cst rfl T.c_CELLS)) rfl)
        (pss_one (ps_fld (pv 0) (pe_lst pa_nil) rfl))))))), ?_⟩
    -- runs, asked
    refine ⟨_, rfl, p, C.N, dx, [], rfl, hp, T.cl_Node, T.n_Node_runs, by decide, ?_⟩
    refine ⟨_, rfl, p, C.N, dx, _, rfl, upd_same, T.cl_Node, T.n_Node_asked, few (lp lp0) (by decide), ?_⟩
    -- upto
    refine ⟨by decide, fun l1 f1 => ?_⟩
    refine ⟨l1, _, _, rfl, rfl, upd_same, by decide, by decide, by decide, fun u fu => ?_⟩
    have n1 : p ≠ l1 := ne_of_none upd_same f1
    have nu : p ≠ u := ne_of_none (Eq.trans (upd_ne n1) upd_same) fu
    refine ⟨_, rfl, p, C.N, dx, _, rfl, Eq.trans (upd_ne nu) (Eq.trans (upd_ne n1) upd_same), T.cl_Node, T.n_Node_upto, few (lp (lp lp0)) (by decide), ?_⟩
    -- held
    refine ⟨by decide, fun l2 f2 => ?_⟩
    refine ⟨l2, _, _, rfl, rfl, upd_same, by decide, by decide, by decide, fun h fh => ?_⟩
    have n2 : p ≠ l2 := ne_of_none upd_same f2
    have nh : p ≠ h := ne_of_none (Eq.trans (upd_ne n2) upd_same) fh
    refine ⟨_, rfl, p, C.N, dx, _, rfl, Eq.trans (upd_ne nh) (Eq.trans (upd_ne n2) upd_same), T.cl_Node, T.n_Node_held, few (lp (lp (lp lp0))) (by decide), ?_⟩
    -- written
    refine ⟨by decide, fun l3 f3 => ?_⟩
    refine ⟨l3, _, _, rfl, rfl, upd_same, by decide, by decide, by decide, fun w' fw => ?_⟩
    have n3 : p ≠ l3 := ne_of_none upd_same f3
    have nw : p ≠ w' := ne_of_none (Eq.trans (upd_ne n3) upd_same) fw
    refine ⟨_, rfl, p, C.N, dx, _, rfl, Eq.trans (upd_ne nw) (Eq.trans (upd_ne n3) upd_same), T.cl_Node, T.n_Node_written, few (lp (lp (lp (lp lp0)))) (by decide), ?_⟩
    -- waits
    refine ⟨Nat.zero_le _, fun q fq => ?_⟩
    have nq : p ≠ q := ne_of_none upd_same fq
    refine ⟨_, rfl, p, C.N, dx, _, rfl, Eq.trans (upd_ne nq) upd_same, T.cl_Node, T.n_Node_waits, few (lp (lp (lp (lp (lp lp0))))) (by decide), ?_⟩
    simp only [upd_none_iff] at f1 fu f2 fh f3 fw fq
    obtain ⟨-, -, g1⟩ := f1
    obtain ⟨u1, -, -, gu⟩ := fu
    obtain ⟨-, a1, a2, -, -, g2⟩ := f2
    obtain ⟨h1, -, h2, h3, -, -, gh⟩ := fh
    obtain ⟨-, b1, b2, -, b3, b4, -, -, g3⟩ := f3
    obtain ⟨w1, -, w2, w3, -, w4, w5, -, -, gw⟩ := fw
    obtain ⟨-, q1, q2, -, q3, q4, -, q5, q6, -, -, gq⟩ := fq
    refine k _ ⟨dx, u, h, w', q, []⟩ ⟨?_, ?_, ?_, ?_, ?_, gu, gh, gw, gq, Ne.symm h2, Ne.symm w4, Ne.symm q5, Ne.symm w2, Ne.symm q3, Ne.symm q1, fun b o e nb => ?_, rfl⟩
    · rw [upd_same]
      exact congrArg (fun z => some (HO.ins C.N dx z)) nF_new
    · simp [upd, nu, Ne.symm nu, Ne.symm q5, Ne.symm w4, Ne.symm b3, Ne.symm h2, Ne.symm a1]
      rfl
    · simp [upd, nh, Ne.symm nh, Ne.symm q3, Ne.symm w2, Ne.symm b1]
      rfl
    · simp [upd, nw, Ne.symm nw, Ne.symm q1]
      rfl
    · simp [upd, Ne.symm nq]
    · simp [upd, nb, ne_of_none e gq, ne_of_none e gw, ne_of_none e g3, ne_of_none e gh, ne_of_none e g2, ne_of_none e gu, ne_of_none e g1]
      exact e
end
end Bo

set_option Elab.async false
set_option maxRecDepth 100000
set_option maxHeartbeats 2000000
namespace Bo
open PySem PySem.Spec PyProof.Rows L2
section
variable {P : Program} {w : World} {K : PySem.W.Frag} {mg : Str → Option Value} {base : Heap} {C : Cl}
/-! ### Letter(..) -/
def spLetter (C : Cl) : Sp := fun vs H Q _ => ∃ (p dx l : Addr) (k t f : Nat) (ns : List Nat), vs = [.ref p, .int k, .int t, .int f, .ref l] ∧ H p = some (.ins C.L dx []) ∧ H l = some (.lst (intsV ns)) ∧ ns.length ≤ 1000 ∧
  ∀ H', H' p = some (.ins C.L dx (lF k t f l (Ag08.sumOf ns) false)) → (∀ b o, H b = some o → b ≠ p → H' b = some o) → Q .non H'
theorem ok_Letter (T : Txt K mg C) : OkC P w K mg base 2 C.L ["self", "kind", "receiver", "sender", "numbers"] (spLetter C) := by
  obtain ⟨f_sum, fd_sum, G_sum_of, b_sum_of, m_sum_of, k_sum_of⟩ := ok_sum_of (P := P) (w := w) (base := base) T
  refine T.s_Letter.ok sc_Letter_init (fun vs H Q E h => ?_) (fun f cdv A outer s H vs Q E hr h => ?_)
  · obtain ⟨p, dx, l, k, t, f, ns, rfl, _⟩ := h
    rfl
  · obtain ⟨p, dx, l, kd, t, fr, ns, rfl, hp, hl, hlen, k⟩ := h
    have npl : p ≠ l := ne_of hp hl (by intro z; cases z)
    refine ⟨_, (pss_cons (ps_fld (pv 0) (pv 1) rfl)
        (pss_cons (ps_fld (pv 0) (pv 2) rfl)
        (pss_cons (ps_fld (pv 0) (pv 3) rfl)
        (pss_cons (ps_fld (pv 0) (pv 4) rfl)
        (pss_cons (ps_fld (pv 0) (pe_call G_sum_of (hr.mono (by decide)) rfl m_sum_of k_sum_of b_sum_of .nil pass0 (pa_cons (pv 4) pa_nil)) rfl)
        (pss_one (ps_fld (pv 0) pe_bl rfl))))))), ?_⟩
    refine ⟨_, rfl, _, rfl, p, C.L, dx, [], rfl, hp, T.cl_Letter, T.n_Letter_kind, by decide, ?_⟩
    refine ⟨_, rfl, _, rfl, p, C.L, dx, _, rfl, upd_same, T.cl_Letter, T.n_Letter_receiver, few (lp lp0) (by decide), ?_⟩
    refine ⟨_, rfl, _, rfl, p, C.L, dx, _, rfl, upd_same, T.cl_Letter, T.n_Letter_sender, few (lp (lp lp0)) (by decide), ?_⟩
    refine ⟨_, rfl, _, rfl, p, C.L, dx, _, rfl, upd_same, T.cl_Letter, T.n_Letter_numbers, few (lp (lp (lp lp0))) (by decide), ?_⟩
    refine ⟨_, rfl, l, ns, rfl, SqL.of (by rw [upd_ne npl.symm, upd_ne npl.symm, upd_ne npl.symm, upd_ne npl.symm]; exact hl), hlen, fun H1 s1 => ?_⟩
    rw [lF_new4] at s1
    have h1 : H1 p = some (.ins C.L dx (lF4 kd t fr l)) := s1 _ _ upd_same
    refine ⟨_, rfl, p, C.L, dx, _, rfl, h1, T.cl_Letter, T.n_Letter_checksum, by show 4 < 1000; decide, ?_⟩
    refine ⟨_, rfl, p, C.L, dx, _, rfl, upd_same, T.cl_Letter, T.n_Letter_spoiled, few (lp (Nat.le_refl 4)) (by decide), ?_⟩
    refine k _ ?_ fun b o e nb => ?_
    · rw [upd_same]
      exact congrArg (fun z => some (HO.ins C.L dx z)) lF_new
    · rw [upd_ne nb, upd_ne nb]
      exact s1 b o (by rw [upd_ne nb, upd_ne nb, upd_ne nb, upd_ne nb]; exact e)
/-! ### a node made -/
def give5 (own : Own) (x : Addr) (i : Nat) (B : NodeA) : Own := give (give (give (give (give own x (.node i)) B.u (.part i 0)) B.h (.part i 1)) B.w (.part i 2)) B.q (.part i 3)
theorem newNode_rep {own : Own} {H H' : Hp} {x dx : Addr} {i : Nat} {B : NodeA} (t : Trk own H) (nx : H x = none) (nd : H dx = none) (h : NewNode C (upd (upd H dx (.own x)) x (.ins C.N dx [])) H' x B) :
    NodeR C.N (give5 own x i B) H' 0 i x Ag08.empty B ∧ Trk (give5 own x i B) H' ∧ Chg tNone own H (give5 own x i B) H' := by
  have hts := h.ts
  obtain ⟨ux, ud, gu⟩ : B.u ≠ x ∧ B.u ≠ dx ∧ H B.u = none := by have := h.fu; simp only [upd_none_iff] at this; exact this
  obtain ⟨hx, hd, gh⟩ : B.h ≠ x ∧ B.h ≠ dx ∧ H B.h = none := by have := h.fh; simp only [upd_none_iff] at this; exact this
  obtain ⟨wx, wd, gw⟩ : B.w ≠ x ∧ B.w ≠ dx ∧ H B.w = none := by have := h.fw; simp only [upd_none_iff] at this; exact this
  obtain ⟨qx, qd, gq⟩ : B.q ≠ x ∧ B.q ≠ dx ∧ H B.q = none := by have := h.fq; simp only [upd_none_iff] at this; exact this
  have k2 : ∀ b o, H b = some o → H' b = some o := fun b o e => h.kp b o (by rw [upd_ne (ne_of_none e nx), upd_ne (ne_of_none e nd)]; exact e) (ne_of_none e nx)
  refine ⟨⟨?_, ?_, ?_, ?_, ?_, h.ha, ?_, h.hh, h.hw, ?_, ?_⟩, ?_, fun b o e _ => ⟨k2 b o e, ?_⟩⟩
  · unfold give5
    rw [give_ne qx.symm, give_ne wx.symm, give_ne hx.symm, give_ne ux.symm, give_same]
  · unfold give5
    rw [give_ne h.uq, give_ne h.uw, give_ne h.uh, give_same]
  · unfold give5
    rw [give_ne h.hq', give_ne h.hw', give_same]
  · unfold give5
    rw [give_ne h.wq, give_same]
  · exact give_same
  · have e : uptos 0 i Ag08.empty = List.replicate 4 0 := by
      unfold uptos
      split <;> rfl
    rw [e]
    exact h.hu
  · rw [hts]
    exact h.hq
  · exact ⟨by rw [hts]; rfl, fun j t a h1 h2 => by rw [hts] at h1; simp at h1⟩
  · have t1 : Trk own H' := t.same k2
    exact ((((t1.give h.ha).give h.hu).give h.hh).give h.hw).give h.hq
  · unfold give5
    rw [give_ne (ne_of_none e gq), give_ne (ne_of_none e gw), give_ne (ne_of_none e gh), give_ne (ne_of_none e gu), give_ne (ne_of_none e nx)]
/-! ### World(..) -/
/-- so many nodes, new -/
structure NodesNew (C : Cl) (own : Own) (H : Hp) (D : Addr) (ns : List Addr) : Prop where
  trk : Trk own H
  oD : own D = some .nodes
  hD : H D = some (.lst (ns.map V.ref))
  node : ∀ (j : Nat) (a : Addr), ns[j]? = some a → ∃ B, NodeR C.N own H 0 j a Ag08.empty B
theorem NodesNew.chg {own own' : Own} {H H' : Hp} {D : Addr} {ns : List Addr} (h : NodesNew C own H D ns) (c : Chg tNone own H own' H') (t : Trk own' H') : NodesNew C own' H' D ns := by
  obtain ⟨x, y⟩ := c D _ h.hD fun z => z
  exact ⟨t, y.trans h.oD, x, fun j a e => let ⟨B, q⟩ := h.node j a e; ⟨B, q.chg c (fun z => z) (fun z => z) (fun _ z => z)⟩⟩
def spWorld (C : Cl) : Sp := fun vs H Q _ => ∃ (p dx : Addr) (n : Nat), vs = [.ref p, .int n] ∧ n ≤ 1000 ∧ H p = some (.ins C.W dx []) ∧
  ∀ own H' A, WorldR C own H' p ⟨[], List.replicate n Ag08.empty, []⟩ A → (∀ b o, H b = some o → b ≠ p → H' b = some o ∧ own b = none) → Q .non H'
theorem ok_World (T : Txt K mg C) : OkC P w K mg base 3 C.W ["self", "count"] (spWorld C) := by
  obtain ⟨f_Node, fd_Node, M_Node, G_Node, b_Node⟩ := ok_Node (P := P) (w := w) (base := base) T
  refine T.s_World.ok sc_World_init (fun vs H Q E h => ?_) (fun f cdv A outer s H vs Q E hr h => ?_)
  · obtain ⟨p, dx, n, rfl, _⟩ := h
    rfl
  · obtain ⟨p, dx, n, rfl, hn, hp, k⟩ := h
    refine ⟨_, (pss_cons (ps_fld (pv 0) (pe_lc (own := [("number", 2)]) (g := gName 2) (tt := tYes) rfl sc_World_init.nd (pi_range1 (by rfl) T.range (pa_cons (pv 1) pa_nil)) (blkOk_by (own := [("number", 2)]) (N := ["self", "count", "number"]) (sc := defScope s_World_init) (by decide +kernel)) (fun _ _ _ _ _ => (pg_name (i := 2) sc_World_init.nd rfl (Or.inl rfl))) (fun _ _ _ _ _ => pts_nil) (fun _ _ _ _ _ => (pe_make0 M_Node G_Node (hr.mono (by decide)) rfl T.g_Node b_Node .nil pass0))) rfl)
        (pss_cons (ps_fld (pv 0) (pe_lst pa_nil) rfl)
        (pss_one (ps_fld (pv 0) (pe_lst pa_nil) rfl)))), ?_⟩
    refine ⟨_, rfl, (n : Int), rfl, by omega, by omega, fun D fD => ?_⟩
    refine lc_range (lo := 0) (n := (n : Int).toNat) (fun i H' => ∃ own ns, NodesNew C own H' D ns ∧ ns.length = i ∧ ∀ b o, H b = some o → H' b = some o ∧ own b = none) ?_ ?_ ?_
    · refine ⟨give (fun _ => none) D .nodes, [], ⟨fun b r e => ?_, give_same, upd_same, fun j a e => by simp at e⟩, rfl, fun b o e => ?_⟩
      · by_cases c : b = D
        · rw [c, upd_same]
          exact ⟨_, rfl⟩
        · rw [give_ne c] at e
          cases e
      · have nb := ne_of_none e fD
        exact ⟨by rw [upd_ne nb]; exact e, give_ne nb⟩
    · rintro i H1 hi ⟨own, ns, hN, hl, hk⟩
      refine ⟨rfl, ?_⟩
      dsimp only [tYes]
      rw [if_pos rfl]
      intro x dx1 nx nd1 ne1
      refine ⟨x, dx1, rfl, upd_same, fun H2 B hB => ⟨rfl, ?_⟩⟩
      obtain ⟨r1, t1, c1⟩ := newNode_rep (i := i) hN.trk nx nd1 hB
      have hN2 := hN.chg c1 t1
      refine ⟨_, hN2.hD, ?_, ?_⟩
      · rw [List.length_map, hl]
        have : (n : Int).toNat = n := by omega
        exact small1000 (by omega)
      · have cD : Chg (fun r => r = some .nodes) (give5 own x i B) H2 (give5 own x i B) (upd H2 D (.lst (ns.map V.ref ++ [V.ref x]))) := Chg.upd hN2.oD
        refine ⟨give5 own x i B, ns ++ [x], ⟨t1.upd, hN2.oD, by rw [upd_same, List.map_append]; rfl, fun j a e => ?_⟩, by rw [List.length_append, hl]; rfl, fun b o e => ?_⟩
        · by_cases q : j < ns.length
          · rw [List.getElem?_append_left q] at e
            obtain ⟨B', z⟩ := hN2.node j a e
            exact ⟨B', z.chg cD (fun z => by cases z) (fun z => by cases z) (fun _ z => by cases z)⟩
          · rw [List.getElem?_append_right (by omega)] at e
            have ej : j = i := by
              rcases Nat.lt_or_ge (j - ns.length) 1 with z | z
              · omega
              · rw [List.getElem?_eq_none (by simpa using z)] at e
                cases e
            subst ej
            rw [hl, Nat.sub_self] at e
            have ea : x = a := Option.some.inj e
            subst ea
            exact ⟨B, r1.chg cD (fun z => by cases z) (fun z => by cases z) (fun _ z => by cases z)⟩
        · obtain ⟨e1, o1⟩ := hk b o e
          obtain ⟨e2, o2⟩ := c1 b o e1 fun z => z
          have nb : b ≠ D := ne_of_none e fD
          exact ⟨by rw [upd_ne nb]; exact e2, o2.trans o1⟩
    · rintro H1 ⟨own, ns, hN, hl, hk⟩
      have en : (n : Int).toNat = n := by omega
      rw [en] at hl
      obtain ⟨hp1, op1⟩ := hk p _ hp
      refine ⟨_, rfl, p, C.W, dx, [], rfl, hp1, T.cl_World, T.n_World_nodes, by decide, ?_⟩
      refine ⟨Nat.zero_le _, fun R fR => ?_⟩
      have npR : p ≠ R := ne_of_none upd_same fR
      refine ⟨_, rfl, p, C.W, dx, _, rfl, Eq.trans (upd_ne npR) upd_same, T.cl_World, T.n_World_row, few (lp lp0) (by decide), ?_⟩
      refine ⟨Nat.zero_le _, fun Ps fP => ?_⟩
      have npP : p ≠ Ps := ne_of_none upd_same fP
      refine ⟨_, rfl, p, C.W, dx, _, rfl, Eq.trans (upd_ne npP) upd_same, T.cl_World, T.n_World_writes, few (lp (lp lp0)) (by decide), ?_⟩
      simp only [upd_none_iff] at fR fP
      obtain ⟨-, fR⟩ := fR
      obtain ⟨-, nPR, -, fP⟩ := fP
      have nDp : D ≠ p := fun z => by
        have := hN.oD
        rw [z, op1] at this
        cases this
      have nDR : D ≠ R := ne_of_none hN.hD fR
      have nDP : D ≠ Ps := ne_of_none hN.hD fP
      -- the heap at the end
      generalize hH : upd (upd (upd (upd (upd H1 p (HO.ins C.W dx (putF "nodes" (V.ref D) []))) R (HO.lst [])) p (HO.ins C.W dx (putF "row" (V.ref R) (putF "nodes" (V.ref D) [])))) Ps (HO.lst [])) p (HO.ins C.W dx (putF "writes" (V.ref Ps) (putF "row" (V.ref R) (putF "nodes" (V.ref D) [])))) = H4
      have h4 : ∀ b, b ≠ p → b ≠ R → b ≠ Ps → H4 b = H1 b := fun b n1 n2 n3 => by
        rw [← hH, upd_ne n1, upd_ne n3, upd_ne n1, upd_ne n2, upd_ne n1]
      have h4p : H4 p = some (.ins C.W dx (wF D R Ps)) := by
        rw [← hH, upd_same, wF_new]
      have h4R : H4 R = some (.lst []) := by
        rw [← hH, upd_ne npR.symm, upd_ne nPR.symm, upd_ne npR.symm, upd_same]
      have h4P : H4 Ps = some (.lst []) := by
        rw [← hH, upd_ne npP.symm, upd_same]
      have c : Chg (fun r => r = none) own H1 (give (give (give own p .world) R .row) Ps .past) H4 := fun b o e z => by
        have n1 : b ≠ p := fun q => z (by rw [q]; exact op1)
        have n2 : b ≠ R := ne_of_none e fR
        have n3 : b ≠ Ps := ne_of_none e fP
        exact ⟨by rw [h4 b n1 n2 n3]; exact e, by rw [give_ne n3, give_ne n2, give_ne n1]⟩
      have t4 : Trk (give (give (give own p .world) R .row) Ps .past) H4 := fun b r e => by
        by_cases n3 : b = Ps
        · rw [n3]; exact ⟨_, h4P⟩
        · by_cases n2 : b = R
          · rw [n2]; exact ⟨_, h4R⟩
          · by_cases n1 : b = p
            · rw [n1]; exact ⟨_, h4p⟩
            · rw [give_ne n3, give_ne n2, give_ne n1] at e
              obtain ⟨o, q⟩ := hN.trk b r e
              exact ⟨o, by rw [h4 b n1 n2 n3]; exact q⟩
      refine k (give (give (give own p .world) R .row) Ps .past) H4 ⟨dx, D, R, ns, [], Ps, []⟩ ⟨t4, by rw [give_ne npP, give_ne npR, give_same], by rw [give_ne nDP, give_ne nDR, give_ne nDp]; exact hN.oD, by rw [give_ne nPR.symm, give_same], h4p, by rw [h4 D nDp nDR nDP]; exact hN.hD, h4R, ?_, rfl, fun i a m h1 h2 => ?_, fun j a x h1 h2 => by simp at h1, List.nodup_nil, give_same, h4P, rfl, fun j t x h1 h2 => by simp at h1⟩ fun b o e nb => ?_
      · show ns.length = (List.replicate n Ag08.empty).length
        rw [List.length_replicate, hl]
      · have em : m = Ag08.empty := List.eq_of_mem_replicate (List.mem_of_getElem? h2)
        rw [em]
        obtain ⟨B, q⟩ := hN.node i a h1
        have hts : B.ts = [] := by
          have := q.wt.1
          exact List.eq_nil_of_length_eq_zero (by rw [this]; rfl)
        have f : ∀ {b : Addr} {o : HO} {r : Role}, H1 b = some o → own b = some r → H4 b = some o ∧ (give (give (give own p .world) R .row) Ps .past) b = some r := fun {b o r} q e => by
          obtain ⟨x, y⟩ := c b o q (by rw [e]; intro z; cases z)
          exact ⟨x, y.trans e⟩
        obtain ⟨a1, a2⟩ := f q.ha q.oa
        obtain ⟨u1, u2⟩ := f q.hu q.ou
        obtain ⟨h1, h2⟩ := f q.hh q.oh
        obtain ⟨w1, w2⟩ := f q.hw q.ow
        obtain ⟨q1, q2⟩ := f q.hq q.oq
        exact ⟨B, a2, u2, h2, w2, q2, a1, u1, h1, w1, q1, by rw [hts]; exact ⟨rfl, fun j t a e => by simp at e⟩⟩
      · obtain ⟨e1, o1⟩ := hk b o e
        have n2 : b ≠ R := ne_of_none e1 fR
        have n3 : b ≠ Ps := ne_of_none e1 fP
        exact ⟨by rw [h4 b nb n2 n3]; exact e1, by rw [give_ne n3, give_ne n2, give_ne nb]; exact o1⟩
end
end Bo

set_option Elab.async false
set_option maxRecDepth 100000
set_option maxHeartbeats 2000000
namespace Bo
open PySem PySem.Spec PyProof.Rows L2
section
variable {P : Program} {w : World} {K : PySem.W.Frag} {mg : Str → Option Value} {base : Heap} {C : Cl}
/-! ### Line() -/
def iF (v : V) : List (Str × V) := [("world", v)]
theorem iF_world {v : V} : (iF v).lookup ("world" : Str) = some v := lk_here
theorem iF_put {v u : V} : putF "world" u (iF v) = iF u := put_here
def spLine (C : Cl) : Sp := fun vs H Q _ => ∃ (p dx : Addr), vs = [.ref p] ∧ H p = some (.ins C.I dx []) ∧ Q .non (upd H p (.ins C.I dx (iF .non)))
theorem ok_Line (T : Txt K mg C) : OkC P w K mg base 1 C.I ["self"] (spLine C) := by
  refine T.s_Line.ok sc_Line_init (fun vs H Q E h => ?_) (fun f cdv A outer s H vs Q E hr h => ?_)
  · obtain ⟨p, dx, rfl, _⟩ := h
    rfl
  · obtain ⟨p, dx, rfl, hp, k⟩ := h
    refine ⟨_, (pss_one (ps_fld (pv 0) pe_non rfl)), ?_⟩
    exact ⟨_, rfl, p, C.I, dx, [], rfl, hp, T.cl_Line, T.n_Line_world, by decide, k⟩
/-! ### begin -/
def spBegin (C : Cl) : Sp := fun vs H Q _ => ∃ (ln dx : Addr) (v : V) (n : Nat), vs = [.ref ln, .int n] ∧ H ln = some (.ins C.I dx (iF v)) ∧
  ((n < 2 ∨ 4 < n) → Q (.int (-1)) H) ∧
  (¬ (n < 2 ∨ 4 < n) → ∀ own H' x A, WorldR C own H' x ⟨[], List.replicate n Ag08.empty, []⟩ A → H' ln = some (.ins C.I dx (iF (.ref x))) → own ln = none → (∀ b o, H b = some o → b ≠ ln → H' b = some o ∧ own b = none) → Q (.int 0) H')
theorem ok_begin (T : Txt K mg C) : Ok P w K mg base 5 "begin" ["line", "count"] (spBegin C) := by
  obtain ⟨f_World, fd_World, M_World, G_World, b_World⟩ := ok_World (P := P) (w := w) (base := base) T
  refine T.f_begin.ok sc_begin (fun vs H Q E h => ?_) (fun f cdv A outer s H vs Q E hr h => ?_)
  · obtain ⟨ln, dx, v, n, rfl, _⟩ := h
    rfl
  · obtain ⟨ln, dx, v, n, rfl, hl, k1, k2⟩ := h
    refine ⟨_, (pss_cons (ps_if (PW.pt (pw_or (pt_cmpR op_lt (pv 1) pe_int (nomark _)) (pw_or1 (pt_cmpR op_gt (pv 1) pe_int (nomark _))))) (pss_one (ps_ret (pe_cst rfl T.c_NO_SUCH))) pss_nil)
        (pss_cons (ps_fld (pv 0) (pe_make M_World G_World (hr.mono (by decide)) rfl T.g_World b_World .nil pass0 (pa_cons (pv 1) pa_nil)) rfl)
        (pss_one (ps_ret pe_int)))), ?_⟩
    refine ⟨_, rfl, _, _, rfl, rfl, _, rfl, iteB (fun c => k1 (.inl (by omega))) fun c => ?_⟩
    refine ⟨_, rfl, _, _, rfl, rfl, _, rfl, iteB (fun c => k1 (.inr (by omega))) fun d => ?_⟩
    refine ⟨_, rfl, fun x dx1 nx nd ne => ⟨x, dx1, n, rfl, by omega, upd_same, fun own H1 A1 hW hk => ⟨rfl, ?_⟩⟩⟩
    have nlx : ln ≠ x := ne_of_none hl nx
    have nld : ln ≠ dx1 := ne_of_none hl nd
    obtain ⟨hl1, ol1⟩ := hk ln _ (by rw [upd_ne nlx, upd_ne nld]; exact hl) nlx
    refine ⟨_, rfl, ln, C.I, dx, _, rfl, hl1, T.cl_Line, T.n_Line_world, by show 1 < 1000; decide, ?_⟩
    refine k2 (by omega) own _ x A1 (hW.updOut hl1 ol1 (by intro xs z; cases z)) (by rw [upd_same, iF_put]) ol1 fun b o e nb => ?_
    have nx' := ne_of_none e nx
    obtain ⟨e1, o1⟩ := hk b o (by rw [upd_ne nx', upd_ne (ne_of_none e nd)]; exact e) nx'
    exact ⟨by rw [upd_ne nb]; exact e1, o1⟩
/-! ### write -/
theorem NodeR.now {own : Own} {H : Hp} {now now' i : Nat} {a : Addr} {n : Ag08.Node} {B : NodeA} (h : NodeR C.N own H now i a n B) (hi : i ≠ 0) : NodeR C.N own H now' i a n B := by
  have e : uptos now i n = uptos now' i n := by unfold uptos; rw [if_neg hi, if_neg hi]
  exact ⟨h.oa, h.ou, h.oh, h.ow, h.oq, h.ha, e ▸ h.hu, h.hh, h.hw, h.hq, h.wt⟩
def tWrite : Option Role → Prop := fun r => r = some .past ∨ tNode 0 r
theorem tWrite_some : ∀ r, tWrite r → someRole r := fun r h => by
  rcases h with h | h
  · intro e
    rw [e] at h
    cases h
  · exact tNode_some r h
theorem HistR.push {own : Own} {H : Hp} {hs : List Addr} {ws : List (Nat × Nat)} {tp : Addr} {c v : Nat} (h : HistR own H hs ws) (otp : own tp = none) (htp : H tp = some (.tup [.int (c : Nat), .int (v : Nat)])) (hc : c < 12) : HistR own H (hs ++ [tp]) (ws ++ [(c, v)]) := by
  refine ⟨by rw [List.length_append, List.length_append, h.1]; rfl, fun m t x e1 e2 => ?_⟩
  by_cases q : m < hs.length
  · rw [List.getElem?_append_left q] at e1
    rw [List.getElem?_append_left (by rw [← h.1]; exact q)] at e2
    exact h.2 m t x e1 e2
  · rw [List.getElem?_append_right (by omega)] at e1
    rw [List.getElem?_append_right (by rw [← h.1]; omega), ← h.1] at e2
    generalize m - hs.length = d at e1 e2
    cases d with
    | zero =>
      have z1 : tp = t := Option.some.inj e1
      have z2 : (c, v) = x := Option.some.inj e2
      subst z1 z2
      exact ⟨otp, htp, hc⟩
    | succ d => simp at e1
theorem WorldR.wrote {own own' : Own} {H H' : Hp} {wd : Addr} {s : Ag08.State} {A : WA} (h : WorldR C own H wd s A) {a tp : Addr} {c v : Nat} (ha : A.ns[0]? = some a) (cg : Chg tWrite own H own' H') (t : Trk own' H')
    (oP : own' A.P = some .past) (hP : H' A.P = some (.lst (A.hs.map V.ref ++ [V.ref tp]))) (otp : own' tp = none) (htp : H' tp = some (.tup [.int (c : Nat), .int (v : Nat)])) (hc : c < 12)
    (hn : ∃ B, NodeR C.N own' H' (s.writes.length + 1) 0 a { Ag08.node s 0 with cells := (Ag08.node s 0).cells.set c ⟨v, s.writes.length + 1⟩ } B) : WorldR C own' H' wd (Bo.wrote s c v) { A with hs := A.hs ++ [tp] } := by
  have f : ∀ {b : Addr} {o : HO} {r : Role}, H b = some o → own b = some r → ¬ tWrite (some r) → H' b = some o ∧ own' b = some r := fun {b o r} q e z => by
    obtain ⟨x, y⟩ := cg b o q (by rw [e]; exact z)
    exact ⟨x, y.trans e⟩
  obtain ⟨w1, w2⟩ := f h.hw h.ow (by rintro (z | z | ⟨k, z⟩) <;> cases z)
  obtain ⟨n1, n2⟩ := f h.hN h.oN (by rintro (z | z | ⟨k, z⟩) <;> cases z)
  obtain ⟨r1, r2⟩ := f h.hR h.oR (by rintro (z | z | ⟨k, z⟩) <;> cases z)
  have lw : (Bo.wrote s c v).writes.length = s.writes.length + 1 := by simp [Bo.wrote]
  have hh : HistR own' H' A.hs s.writes := h.hist.chg cg (by rintro (z | z | ⟨k, z⟩) <;> cases z)
  refine ⟨t, w2, n2, r2, w1, n1, r1, ?_, h.ll, fun j b m h1 h2 => ?_, fun j b x h1 h2 => ?_, h.nd, oP, by rw [hP, List.map_append]; rfl, hh.push otp htp hc⟩
  · show A.ns.length = (s.nodes.set 0 _).length
    rw [List.length_set]
    exact h.nl
  · rw [lw]
    have h3 : (s.nodes.set 0 { Ag08.node s 0 with cells := (Ag08.node s 0).cells.set c ⟨v, s.writes.length + 1⟩ })[j]? = some m := h2
    rw [List.getElem?_set] at h3
    by_cases e : 0 = j
    · subst e
      rw [if_pos rfl] at h3
      split at h3
      · cases h3
        rw [ha] at h1
        cases h1
        exact hn
      · cases h3
    · rw [if_neg e] at h3
      obtain ⟨B, q⟩ := h.node j b m h1 h3
      exact ⟨B, (q.chg cg (by rintro (z | z | ⟨k, z⟩) <;> cases z) (by rintro (z | z | ⟨k, z⟩) <;> cases z; exact e rfl) (by rintro k (z | z | ⟨k', z⟩) <;> cases z; exact e rfl)).now (Ne.symm e)⟩
  · obtain ⟨dx, l, q⟩ := h.letter j b x h1 h2
    exact ⟨dx, l, q.chg cg (by rintro (z | z | ⟨k, z⟩) <;> cases z) (by rintro (z | z | ⟨k, z⟩) <;> cases z)⟩
/-- a call on a world -/
def spOn (C : Cl) (n : Nat) (mk : List Nat → Ag08.Call) : Sp := fun vs H Q _ => ∃ (own : Own) (A : WA) (wd : Addr) (s : Ag08.State) (t : Nat) (as : List Nat), vs = .ref wd :: intsV as ∧ as.length = n ∧ WorldR C own H wd s A ∧ Good t s ∧ t < 100 ∧
  Outcome C own H wd (Ag08.step (some s) (mk as)) Q
theorem spOn_len {n : Nat} {mk : List Nat → Ag08.Call} {vs : List V} {H : Hp} {Q : VK} {E : XK} (h : spOn C n mk vs H Q E) : vs.length = n + 1 := by
  obtain ⟨own, A, wd, s, t, as, rfl, hl, _⟩ := h
  simp [intsV, hl]
theorem ixN_nat {n j : Nat} (h : j < n) : ixN n (j : Int) = some j := by
  unfold ixN
  rw [if_pos (by omega), if_pos (by omega)]
  simp
def mkWrite : List Nat → Ag08.Call
  | [c, v] => .write c v
  | _ => .letters
theorem ok_write (T : Txt K mg C) : Ok P w K mg base 1 "write" ["world", "cell", "value"] (spOn C 2 mkWrite) := by
  refine T.f_write.ok sc_write (fun vs H Q E h => spOn_len h) (fun f cdv A outer s H vs Q E hr h => ?_)
  · obtain ⟨own, A, wd, s, t, as, rfl, hl, hW, g, ht, k⟩ := h
    match as, hl with
    | [c, v], _ =>
    have h0 : 0 < s.nodes.length := by have := g.two; omega
    obtain ⟨a, B, ha, hn⟩ := hW.nodeAt h0
    have nk := g.at_ h0
    refine ⟨_, (pss_cons (ps_if (PW.pt (pw_or (pt_cmpR op_ge (pv 1) (pe_cst rfl T.c_CELLS) (nomark _)) (pw_or1 (pt_cmpR op_gt (pv 2) (pe_cst rfl T.c_HIGHEST) (nomark _))))) (pss_one (ps_ret (pe_cst rfl T.c_NO_SUCH))) pss_nil)
        (pss_cons (ps_set (i := 3) sc_write.nd rfl (Or.inl rfl) (pe_ix ix_list (pe_fld (pv 0) rfl) (pe_cst rfl T.c_STORE) (fun _ _ => rfl)))
        (pss_cons (ps_if (pt_not (pt_val (pe_fld (pv 3) rfl))) (pss_one (ps_ret (pe_cst rfl T.c_STOPPED))) pss_nil)
        (pss_cons (ps_if (pt_cmpR op_ge (pe_callB call_len_seq (by rfl) T.len PySem.boot_len (pa_cons (pe_fld (pv 0) rfl) pa_nil)) (pe_cst rfl T.c_MOST_WRITES) (nomark _)) (pss_one (ps_ret (pe_cst rfl T.c_NO_MORE_WRITES))) pss_nil)
        (pss_cons (ps_expr (pe_bm PySem.F.plainAttrs_list PySem.F.slot_list_append PySem.F.type_list_append mt_append (pe_fld (pv 0) rfl) (pa_cons (pe_tup (pa_cons (pv 1) (pa_cons (pv 2) pa_nil))) pa_nil)))
        (pss_cons (ps_set (i := 4) sc_write.nd rfl (Or.inl rfl) (pe_callB call_len_seq (by rfl) T.len PySem.boot_len (pa_cons (pe_fld (pv 0) rfl) pa_nil)))
        (pss_cons (ps_asg (pv 2) (pg_sub (pe_fld (pv 3) rfl) (pv 1) set_list))
        (pss_cons (ps_asg (pv 4) (pg_sub (pe_fld (pv 3) rfl) (pv 1) set_list))
        (pss_cons (ps_fld (pv 3) (pe_op op_rep (pe_lst (pa_cons (pv 4) pa_nil)) (pe_cst rfl T.c_PIECES)) rfl)
        (pss_one (ps_ret (pv 4)))))))))))), ?_⟩
    have bad : (12 ≤ c ∨ 9999 < v) → Q (.int (-1)) H := fun z => k own H A s (-1) ((step_write s c v).trans (if_pos z)) hW Chg.refl
    refine ⟨_, rfl, _, _, rfl, rfl, _, rfl, iteB (fun z => bad (.inl (by omega))) fun z1 => ?_⟩
    refine ⟨_, rfl, _, _, rfl, rfl, _, rfl, iteB (fun z => bad (.inr (by omega))) fun z2 => ?_⟩
    have ok1 : ¬ (12 ≤ c ∨ 9999 < v) := by omega
    -- store = world.nodes[STORE]
    refine ⟨_, rfl, wd, C.W, A.dx, _, _, rfl, hW.hw, T.cl_World, T.n_World_nodes, wF_nodes, A.N, _, _, V.ref a, rfl, rfl, SqL.of hW.hN, atI_nat (j := 0) (by rw [List.getElem?_map, ha]; rfl), ?_⟩
    -- if not store.runs
    refine ⟨_, rfl, a, C.N, B.dx, _, _, rfl, hn.ha, T.cl_Node, T.n_Node_runs, nF_runs, _, rfl, ?_⟩
    cases up : (Ag08.node s 0).up
    · exact if_true_of rfl (k own H A s (-3) ((step_write s c v).trans (by rw [if_neg ok1, if_pos up])) hW Chg.refl)
    refine if_false_of rfl ?_
    have eP : (A.hs.map V.ref).length = s.writes.length := by rw [List.length_map, hW.hist.1]
    -- if len(world.writes) >= MOST_WRITES
    refine ⟨_, rfl, wd, C.W, A.dx, _, _, rfl, hW.hw, T.cl_World, T.n_World_writes, wF_writes, A.P, _, rfl, .inl (SqL.of hW.hP), _, _, rfl, rfl, _, rfl, iteB (fun z => ?_) fun z3 => ?_⟩
    · rw [eP] at z
      exact k own H A s (-5) ((step_write s c v).trans (by rw [if_neg ok1, if_neg (by rw [up]; intro z; cases z), if_pos (by omega)])) hW Chg.refl
    rw [eP] at z3
    have hw9 : s.writes.length < 9999 := by omega
    -- world.writes.append((cell, value))
    refine ⟨_, rfl, wd, C.W, A.dx, _, _, rfl, hW.hw, T.cl_World, T.n_World_writes, wF_writes, .inl ⟨rfl, _, SqL.of hW.hP⟩, _, rfl, _, rfl, (by show 2 ≤ sizeLine; decide), fun tp ftp => ?_⟩
    have nPt : A.P ≠ tp := ne_of_none hW.hP ftp
    refine ⟨A.P, _, _, rfl, rfl, Eq.trans (upd_ne nPt) hW.hP, (by rw [eP]; have := sizeLine_eq; omega), ?_⟩
    have elen : (A.hs.map V.ref ++ [V.ref tp]).length = s.writes.length + 1 := by rw [List.length_append, eP]; rfl
    generalize hH2 : upd (upd H tp _) A.P _ = H2
    have h2 : ∀ b, b ≠ tp → b ≠ A.P → H2 b = H b := fun b n1 n2 => by rw [← hH2, upd_ne n2, upd_ne n1]
    have h2P : H2 A.P = some (.lst (A.hs.map V.ref ++ [V.ref tp])) := by rw [← hH2, upd_same]
    have h2t : H2 tp = some (.tup [.int (c : Nat), .int (v : Nat)]) := by rw [← hH2, upd_ne nPt.symm, upd_same]
    have h2r : ∀ {b : Addr} {o : HO} {r : Role}, H b = some o → own b = some r → r ≠ .past → H2 b = some o := fun {b o r} e e1 z => by
      rw [h2 b (ne_of_none e ftp) (own_ne e1 hW.oP fun q => z (Option.some.inj q))]
      exact e
    have h2a := h2r hn.ha hn.oa (by intro z; cases z)
    have h2h := h2r hn.hh hn.oh (by intro z; cases z)
    have h2w := h2r hn.hw hn.ow (by intro z; cases z)
    -- number = len(world.writes)
    refine ⟨_, rfl, wd, C.W, A.dx, _, _, rfl, h2r hW.hw hW.ow (by intro z; cases z), T.cl_World, T.n_World_writes, wF_writes, A.P, _, rfl, .inl (SqL.of h2P), ?_⟩
    rw [elen]
    have nha : B.h ≠ a := own_ne hn.oh hn.oa (by intro z; cases z)
    have nwa : B.w ≠ a := own_ne hn.ow hn.oa (by intro z; cases z)
    have nwh : B.w ≠ B.h := own_ne hn.ow hn.oh (by intro z; cases z)
    have nqa : B.q ≠ a := own_ne hn.oq hn.oa (by intro z; cases z)
    have nqh : B.q ≠ B.h := own_ne hn.oq hn.oh (by intro z; cases z)
    have nqw : B.q ≠ B.w := own_ne hn.oq hn.ow (by intro z; cases z)
    have lc : (intsV ((Ag08.node s 0).cells.map Ag08.Cell.value)).length = 12 := by rw [intsV_len, List.length_map, nk.cells]
    have lw : (intsV ((Ag08.node s 0).cells.map Ag08.Cell.write)).length = 12 := by rw [intsV_len, List.length_map, nk.cells]
    have hc12 : c < 12 := by omega
    -- store.held[cell] = value
    refine ⟨_, rfl, _, rfl, a, C.N, B.dx, _, _, rfl, h2a, T.cl_Node, T.n_Node_held, nF_held, _, rfl, B.h, _, _, c, rfl, rfl, h2h, ixN_nat (by rw [lc]; exact hc12), ?_⟩
    -- store.written[cell] = number
    refine ⟨_, rfl, _, rfl, a, C.N, B.dx, _, _, rfl, Eq.trans (upd_ne nha.symm) h2a, T.cl_Node, T.n_Node_written, nF_written, _, rfl, B.w, _, _, c, rfl, rfl, Eq.trans (upd_ne nwh) h2w, ixN_nat (by rw [lw]; exact hc12), ?_⟩
    -- store.upto = [number] * PIECES
    refine ⟨_, rfl, (by show 1 ≤ sizeLine; decide), fun l1 f1 => ?_⟩
    refine ⟨l1, _, _, rfl, rfl, upd_same, by decide, by decide, (by show 1 * 4 ≤ sizeLine; decide), fun u fu => ?_⟩
    simp only [upd_none_iff] at f1 fu
    obtain ⟨l1w, l1h, fl1⟩ := f1
    obtain ⟨ul1, uw, uh, fu⟩ := fu
    have nal : a ≠ l1 := ne_of_none h2a fl1
    have nau : a ≠ u := ne_of_none h2a fu
    refine ⟨_, rfl, a, C.N, B.dx, _, rfl, (by rw [upd_ne nau, upd_ne nal, upd_ne nwa.symm, upd_ne nha.symm]; exact h2a), T.cl_Node, T.n_Node_upto, by show 6 < 1000; decide, ?_⟩
    rw [nF_put_upto]
    -- return number
    refine ⟨_, rfl, ?_⟩
    -- the world behind it
    have es : Ag08.step (some s) (.write c v) = (some (Bo.wrote s c v), [((s.writes.length + 1 : Nat) : Int)]) := by
      rw [step_write, if_neg ok1, if_neg (by rw [up]; intro z; cases z), if_neg (by omega)]
    generalize hH : upd _ a _ = H5
    have nab : ∀ b, b ≠ a → b ≠ u → b ≠ l1 → b ≠ B.w → b ≠ B.h → H5 b = H2 b := fun b n1 n2 n3 n4 n5 => by rw [← hH, upd_ne n1, upd_ne n2, upd_ne n3, upd_ne n4, upd_ne n5]
    have fl1H : H l1 = none := by rw [← hH2] at fl1; simp only [upd_none_iff] at fl1; exact fl1.2.2
    have fuH : H u = none := by rw [← hH2] at fu; simp only [upd_none_iff] at fu; exact fu.2.2
    have cg : Chg tWrite own H (give own u (.part 0 0)) H5 := fun b o e z => by
      have n6 : b ≠ A.P := fun q => z (by rw [q]; exact .inl hW.oP)
      have n1 : b ≠ a := fun q => z (by rw [q]; exact .inr (.inl hn.oa))
      have n4 : b ≠ B.w := fun q => z (by rw [q]; exact .inr (.inr ⟨_, hn.ow⟩))
      have n5 : b ≠ B.h := fun q => z (by rw [q]; exact .inr (.inr ⟨_, hn.oh⟩))
      have n2 : b ≠ u := ne_of_none e fuH
      have n3 : b ≠ l1 := ne_of_none e fl1H
      exact ⟨by rw [nab b n1 n2 n3 n4 n5, h2 b (ne_of_none e ftp) n6]; exact e, give_ne n2⟩
    have hu5 : H5 u = some (.lst (intsV (List.replicate 4 (s.writes.length + 1)))) := by
      rw [← hH, upd_ne nau.symm, upd_same]
      rfl
    have tr : Trk (give own u (.part 0 0)) H5 := by
      refine Trk.give ?_ hu5
      rw [← hH, ← hH2]
      exact hW.trk.upd.upd.upd.upd.upd.upd.upd
    have otp : own tp = none := hW.trk.free ftp
    refine k (give own u (.part 0 0)) H5 _ (Bo.wrote s c v) _ es (hW.wrote (tp := tp) ha cg tr (by rw [give_ne (ne_of_none hW.hP fuH)]; exact hW.oP) ?_ (by rw [give_ne (ne_of_none h2t fu)]; exact otp) ?_ hc12 ⟨{ B with u := u }, ?_⟩) (cg.mono tWrite_some)
    · rw [nab A.P (own_ne hW.oP hn.oa (by intro z; cases z)) (ne_of_none h2P fu) (ne_of_none h2P fl1) (own_ne hW.oP hn.ow (by intro z; cases z)) (own_ne hW.oP hn.oh (by intro z; cases z))]
      exact h2P
    · rw [nab tp (own_ne otp hn.oa (by intro z; cases z)) (ne_of_none h2t fu) (ne_of_none h2t fl1) (own_ne otp hn.ow (by intro z; cases z)) (own_ne otp hn.oh (by intro z; cases z))]
      exact h2t
    · refine ⟨by rw [give_ne nau]; exact hn.oa, give_same, by rw [give_ne (ne_of_none hn.hh fuH)]; exact hn.oh, by rw [give_ne (ne_of_none hn.hw fuH)]; exact hn.ow, by rw [give_ne (ne_of_none hn.hq fuH)]; exact hn.oq, ?_, hu5, ?_, ?_, ?_, ?_⟩
      · rw [← hH]
        exact upd_same
      · rw [← hH, upd_ne nha, upd_ne (ne_of_none hn.hh fuH), upd_ne (ne_of_none hn.hh fl1H), upd_ne nwh.symm, upd_same]
        show some (HO.lst ((intsV _).set c (V.int v))) = _
        rw [intsV_set, List.map_set]
      · rw [← hH, upd_ne nwa, upd_ne (ne_of_none hn.hw fuH), upd_ne (ne_of_none hn.hw fl1H), upd_same]
        show some (HO.lst ((intsV _).set c (V.int ((s.writes.length + 1 : Nat) : Int)))) = _
        rw [intsV_set, List.map_set]
      · rw [nab B.q nqa (ne_of_none hn.hq fuH) (ne_of_none hn.hq fl1H) nqw nqh]
        exact h2r hn.hq hn.oq (by intro z; cases z)
      · exact hn.wt.chg cg (by rintro (z | z | ⟨k, z⟩) <;> cases z)
end
end Bo

set_option Elab.async false
set_option maxRecDepth 100000
set_option maxHeartbeats 2000000
namespace Bo
open PySem PySem.Spec PyProof.Rows L2
section
variable {P : Program} {w : World} {K : PySem.W.Frag} {mg : Str → Option Value} {base : Heap} {C : Cl}
/-! ### a new letter sent -/
theorem send_new {own : Own} {H H6 : Hp} {wd x l dx : Addr} {s : Ag08.State} {A : WA} {k t f : Nat} {ns : List Nat} (hW : WorldR C own H wd s A) (room : s.letters.length ≤ 100) (fx : H x = none) (fl : H l = none) (nxl : x ≠ l) (s6 : Same H H6)
    (hx : H6 x = some (.ins C.L dx (lF k t f l (Ag08.sumOf ns) false))) (hl : H6 l = some (.lst (intsV ns))) :
    ∃ own' A', WorldR C own' (if (A.ls.map V.ref).length < 100 then upd H6 A.R (.lst (A.ls.map V.ref ++ [.ref x])) else H6) wd (Ag08.send s [Ag08.letter k t f ns]) A' ∧
      Chg tRow own H own' (if (A.ls.map V.ref).length < 100 then upd H6 A.R (.lst (A.ls.map V.ref ++ [.ref x])) else H6) := by
  have c1 : Chg tNone own H (give (give own x (.letter x)) l (.nums x)) H6 := fun b o e _ => ⟨s6 b o e, by rw [give_ne (ne_of_none e fl), give_ne (ne_of_none e fx)]⟩
  have t1 : Trk (give (give own x (.letter x)) l (.nums x)) H6 := ((hW.trk.same s6).give hx).give hl
  have w1 := hW.keep c1 t1
  have r1 : LetterR C.L (give (give own x (.letter x)) l (.nums x)) H6 x (Ag08.letter k t f ns) dx l := ⟨by rw [give_ne nxl, give_same], give_same, hx, hl⟩
  have hnew : x ∉ A.ls := fun hm => by
    obtain ⟨j, hj, e⟩ := List.getElem_of_mem hm
    have h1 : A.ls[j]? = some x := by rw [List.getElem?_eq_getElem hj, e]
    have hj2 : j < s.letters.length := by rw [← hW.ll]; exact hj
    obtain ⟨_, _, q⟩ := hW.letter j x _ h1 (List.getElem?_eq_getElem hj2)
    have := q.ha
    rw [fx] at this
    cases this
  obtain ⟨A', w2⟩ := w1.send r1 room hnew
  rw [List.length_map]
  refine ⟨_, A', w2, ?_⟩
  have c2 : Chg tRow own H (give (give own x (.letter x)) l (.nums x)) H6 := c1.mono tNone_any
  split
  · exact c2.trans (Chg.upd w1.oR)
  · exact c2
theorem nodup_len : ∀ {l m : List Nat}, l.Nodup → (∀ x ∈ l, x ∈ m) → l.length ≤ m.length
  | [], m, _, _ => Nat.zero_le _
  | a :: l, m, h, hs => by
    have ha : a ∈ m := hs a (by simp)
    have h2 : ∀ x ∈ l, x ∈ m.erase a := fun x hx => by
      have hne : x ≠ a := by
        rintro rfl
        exact (List.nodup_cons.mp h).1 hx
      exact (List.mem_erase_of_ne hne).mpr (hs x (by simp [hx]))
    have ih := nodup_len (List.nodup_cons.mp h).2 h2
    rw [List.length_erase_of_mem ha] at ih
    have : 0 < m.length := List.length_pos_of_mem ha
    rw [List.length_cons]
    omega
/-! ### ask -/
def mkAsk : List Nat → Ag08.Call
  | [i, j, p] => .ask i j p
  | _ => .letters
theorem uptos_get {t now i p : Nat} {n : Ag08.Node} (h : NodeOk t now i n) (hi : i ≠ 0) (hp : p < 4) : (intsV (uptos now i n))[p]? = some (V.int (n.upto.getD p 0 : Nat)) := by
  refine intsV_get ?_
  unfold uptos
  rw [if_neg hi, List.getD_eq_getElem?_getD, List.getElem?_eq_getElem (by rw [h.upto]; exact hp)]
  rfl
theorem ok_ask (T : Txt K mg C) : Ok P w K mg base 4 "ask" ["world", "asker", "whom", "piece"] (spOn C 3 mkAsk) := by
  obtain ⟨f_send, fd_send, G_send, b_send, m_send, k_send⟩ := ok_send (P := P) (w := w) (base := base) T
  obtain ⟨f_Letter, fd_Letter, M_Letter, G_Letter, b_Letter⟩ := ok_Letter (P := P) (w := w) (base := base) T
  refine T.f_ask.ok sc_ask (fun vs H Q E h => spOn_len h) (fun f cdv A outer s H vs Q E hr h => ?_)
  · obtain ⟨own, A, wd, s, t, as, rfl, hl, hW, g, ht, k⟩ := h
    match as, hl with
    | [i, j, p], _ =>
    refine ⟨_, (pss_cons (ps_set (i := 4) sc_ask.nd rfl (Or.inl rfl) (pe_callB call_len_seq (by rfl) T.len PySem.boot_len (pa_cons (pe_fld (pv 0) rfl) pa_nil)))
        (pss_cons (ps_if (PW.pt (pw_or (pt_cmpR op_eq (pv 1) (pe_cst rfl T.c_STORE) (nomark _)) (pw_or (pt_cmpR op_ge (pv 1) (pv 4) (nomark _)) (pw_or (pt_cmpR op_ge (pv 2) (pv 4) (nomark _)) (pw_or (pt_cmpR op_ge (pv 3) (pe_cst rfl T.c_PIECES) (nomark _)) (pw_or1 (pt_cmpR op_eq (pv 1) (pv 2) (nomark _)))))))) (pss_one (ps_ret (pe_cst rfl T.c_NO_SUCH))) pss_nil)
        (pss_cons (ps_set (i := 5) sc_ask.nd rfl (Or.inl rfl) (pe_ix ix_list (pe_fld (pv 0) rfl) (pv 1) (fun _ _ => rfl)))
        (pss_cons (ps_if (pt_not (pt_val (pe_fld (pv 5) rfl))) (pss_one (ps_ret (pe_cst rfl T.c_STOPPED))) pss_nil)
        (pss_cons (ps_fld (pv 5) (pe_op op_add (pe_fld (pv 5) rfl) pe_int) rfl)
        (pss_cons (ps_set (i := 6) sc_ask.nd rfl (Or.inl rfl) (pe_ix ix_list (pe_fld (pv 5) rfl) (pv 3) (fun _ _ => rfl)))
        (pss_cons (ps_expr (pe_bm PySem.F.plainAttrs_list PySem.F.slot_list_append PySem.F.type_list_append mt_append (pe_fld (pv 5) rfl) (pa_cons (pe_tup (pa_cons (pe_fld (pv 5) rfl) (pa_cons (pv 3) (pa_cons (pv 6) pa_nil)))) pa_nil)))
        (pss_cons (ps_expr (pe_call G_send (hr.mono (by decide)) rfl m_send k_send b_send .nil pass0 (pa_cons (pe_fld (pv 0) rfl) (pa_cons (pe_make M_Letter G_Letter (hr.mono (by decide)) rfl T.g_Letter b_Letter .nil pass0 (pa_cons (pe_cst rfl T.c_ASK_LETTER) (pa_cons (pv 2) (pa_cons (pv 1) (pa_cons (pe_lst (pa_cons (pe_fld (pv 5) rfl) (pa_cons (pv 3) (pa_cons (pv 6) pa_nil)))) pa_nil))))) pa_nil))))
        (pss_one (ps_ret (pe_fld (pv 5) rfl))))))))))), ?_⟩
    have eN : (A.ns.map V.ref).length = s.nodes.length := by rw [List.length_map, hW.nl]
    -- count = len(world.nodes)
    refine ⟨_, rfl, wd, C.W, A.dx, _, _, rfl, hW.hw, T.cl_World, T.n_World_nodes, wF_nodes, A.N, _, rfl, .inl (SqL.of hW.hN), ?_⟩
    rw [eN]
    have bad : (i = 0 ∨ (s.nodes.length ≤ i ∨ (s.nodes.length ≤ j ∨ (i = j ∨ 4 ≤ p)))) → Q (.int (-1)) H := fun z => k own H A s (-1) ((step_ask s i j p).trans (if_pos z)) hW Chg.refl
    refine ⟨_, rfl, rfl, _, rfl, iteB (fun z => bad (.inl (by have := V.int.inj z; omega))) fun z1 => ?_⟩
    have hi0 : i ≠ 0 := fun e => z1 (by rw [e]; rfl)
    refine ⟨_, rfl, _, rfl, _, _, rfl, rfl, _, rfl, iteB (fun z => bad (.inr (.inl (by omega)))) fun z2 => ?_⟩
    refine ⟨_, rfl, _, rfl, _, _, rfl, rfl, _, rfl, iteB (fun z => bad (.inr (.inr (.inl (by omega))))) fun z3 => ?_⟩
    refine ⟨_, rfl, _, _, rfl, rfl, _, rfl, iteB (fun z => bad (.inr (.inr (.inr (.inr (by omega)))))) fun z4 => ?_⟩
    refine ⟨_, rfl, _, rfl, rfl, _, rfl, iteB (fun z => bad (.inr (.inr (.inr (.inl (by have := V.int.inj z; omega)))))) fun z5 => ?_⟩
    have hij : i ≠ j := fun e => z5 (by rw [e])
    have ok1 : ¬ (i = 0 ∨ (s.nodes.length ≤ i ∨ (s.nodes.length ≤ j ∨ (i = j ∨ 4 ≤ p)))) := by omega
    have hi : i < s.nodes.length := by omega
    have hj : j < s.nodes.length := by omega
    have hp : p < 4 := by omega
    obtain ⟨a, B, ha, hn⟩ := hW.nodeAt hi
    have nk := g.at_ hi
    -- node = world.nodes[asker]
    refine ⟨_, rfl, wd, C.W, A.dx, _, _, rfl, hW.hw, T.cl_World, T.n_World_nodes, wF_nodes, _, rfl, A.N, _, _, V.ref a, rfl, rfl, SqL.of hW.hN, atI_nat (j := i) (by rw [List.getElem?_map, ha]; rfl), ?_⟩
    -- if not node.runs
    refine ⟨_, rfl, a, C.N, B.dx, _, _, rfl, hn.ha, T.cl_Node, T.n_Node_runs, nF_runs, _, rfl, ?_⟩
    cases up : (Ag08.node s i).up
    · exact if_true_of rfl (k own H A s (-3) ((step_ask s i j p).trans (by rw [if_neg ok1, if_pos up])) hW Chg.refl)
    refine if_false_of rfl ?_
    have hna := hn.ha
    -- node.asked = node.asked + 1
    refine ⟨_, rfl, a, C.N, B.dx, _, _, rfl, hna, T.cl_Node, T.n_Node_asked, nF_asked, _, _, rfl, rfl, _, rfl, a, C.N, B.dx, _, rfl, hna, T.cl_Node, T.n_Node_asked, by show 6 < 1000; decide, ?_⟩
    have e1 : putF "asked" (.int (((Ag08.node s i).count : Int) + 1)) (nF (Ag08.node s i).up (Ag08.node s i).count B.u B.h B.w B.q) = nF (Ag08.node s i).up ((Ag08.node s i).count + 1) B.u B.h B.w B.q := nF_put_asked ((Ag08.node s i).count + 1)
    rw [e1]
    have nua : B.u ≠ a := own_ne hn.ou hn.oa (by intro z; cases z)
    have nqa : B.q ≠ a := own_ne hn.oq hn.oa (by intro z; cases z)
    -- since = node.upto[piece]
    refine ⟨_, rfl, a, C.N, B.dx, _, _, rfl, upd_same, T.cl_Node, T.n_Node_upto, nF_upto, _, rfl, B.u, _, _, _, rfl, rfl, SqL.of (Eq.trans (upd_ne nua) hn.hu), atI_nat (j := p) (uptos_get nk hi0 hp), ?_⟩
    -- node.waits.append((node.asked, piece, since))
    refine ⟨_, rfl, a, C.N, B.dx, _, _, rfl, upd_same, T.cl_Node, T.n_Node_waits, nF_waits, .inl ⟨rfl, _, SqL.of (Eq.trans (upd_ne nqa) hn.hq)⟩, _, rfl, a, C.N, B.dx, _, _, rfl, upd_same, T.cl_Node, T.n_Node_asked, nF_asked, _, rfl, _, rfl, (by show 3 ≤ sizeLine; decide), fun tp ftp => ?_⟩
    simp only [upd_none_iff] at ftp
    obtain ⟨ntpa, ftp⟩ := ftp
    have nqt : B.q ≠ tp := ne_of_none hn.hq ftp
    have lts : (B.ts.map V.ref).length ≤ 1000 := by
      rw [List.length_map, hn.wt.1]
      have h1 : ((Ag08.node s i).asks.map Ag08.Ask.num).length ≤ t + 1 := by
        have hsub : ∀ m ∈ (Ag08.node s i).asks.map Ag08.Ask.num, m ∈ List.range (t + 1) := fun m hm => by
          obtain ⟨b, hb, rfl⟩ := List.mem_map.mp hm
          have := (nk.asks b hb).1
          have := nk.count
          rw [List.mem_range]
          omega
        have := nodup_len nk.nodup hsub
        rw [List.length_range] at this
        exact this
      rw [List.length_map] at h1
      omega
    refine ⟨B.q, _, _, rfl, rfl, (by rw [upd_ne nqt, upd_ne nqa]; exact hn.hq), small1000 lts, ?_⟩
    generalize hH3 : upd (upd (upd H a _) tp _) B.q _ = H3
    -- the node behind it
    have h3 : ∀ b, b ≠ a → b ≠ tp → b ≠ B.q → H3 b = H b := fun b n1 n2 n3 => by rw [← hH3, upd_ne n3, upd_ne n2, upd_ne n1]
    have h3a : H3 a = some (.ins C.N B.dx (nF (Ag08.node s i).up ((Ag08.node s i).count + 1) B.u B.h B.w B.q)) := by rw [← hH3, upd_ne nqa.symm, upd_ne (Ne.symm ntpa), upd_same]
    have cg : Chg (tNode i) own H own H3 := fun b o e z => by
      have n1 : b ≠ a := fun q => z (by rw [q]; exact .inl hn.oa)
      have n3 : b ≠ B.q := fun q => z (by rw [q]; exact .inr ⟨_, hn.oq⟩)
      exact ⟨by rw [h3 b n1 (ne_of_none e ftp) n3]; exact e, rfl⟩
    have t3 : Trk own H3 := by rw [← hH3]; exact hW.trk.upd.upd.upd
    have otp : own tp = none := hW.trk.free ftp
    have hnR : NodeR C.N own H3 s.writes.length i a (askedN (Ag08.node s i) p) { B with ts := B.ts ++ [tp] } := by
      have nhq : B.h ≠ B.q := own_ne hn.oh hn.oq (by intro z; cases z)
      have nha : B.h ≠ a := own_ne hn.oh hn.oa (by intro z; cases z)
      have nwq : B.w ≠ B.q := own_ne hn.ow hn.oq (by intro z; cases z)
      have nwa : B.w ≠ a := own_ne hn.ow hn.oa (by intro z; cases z)
      have nuq : B.u ≠ B.q := own_ne hn.ou hn.oq (by intro z; cases z)
      refine ⟨hn.oa, hn.ou, hn.oh, hn.ow, hn.oq, h3a, ?_, ?_, ?_, ?_, ?_, ?_⟩
      · rw [h3 _ nua (ne_of_none hn.hu ftp) nuq]
        exact hn.hu
      · rw [h3 _ nha (ne_of_none hn.hh ftp) nhq]
        exact hn.hh
      · rw [h3 _ nwa (ne_of_none hn.hw ftp) nwq]
        exact hn.hw
      · rw [← hH3, upd_same, List.map_append]
        rfl
      · show (B.ts ++ [tp]).length = ((Ag08.node s i).asks ++ [_]).length
        rw [List.length_append, List.length_append, hn.wt.1]
        rfl
      · intro m tq b e1 e2
        have e2' : ((Ag08.node s i).asks ++ [(⟨(Ag08.node s i).count + 1, p, (Ag08.node s i).upto.getD p 0⟩ : Ag08.Ask)])[m]? = some b := e2
        have e1' : (B.ts ++ [tp])[m]? = some tq := e1
        by_cases q : m < B.ts.length
        · rw [List.getElem?_append_left q] at e1'
          rw [List.getElem?_append_left (by rw [← hn.wt.1]; exact q)] at e2'
          obtain ⟨o1, o2⟩ := hn.wt.2 m tq b e1' e2'
          have n1 : tq ≠ a := own_ne o1 hn.oa (by intro z; cases z)
          have n3 : tq ≠ B.q := own_ne o1 hn.oq (by intro z; cases z)
          exact ⟨o1, by rw [h3 _ n1 (ne_of_none o2 ftp) n3]; exact o2⟩
        · rw [List.getElem?_append_right (by omega)] at e1'
          rw [List.getElem?_append_right (by rw [← hn.wt.1]; omega), ← hn.wt.1] at e2'
          generalize m - B.ts.length = d at e1' e2'
          cases d with
          | zero =>
            have z1 : tp = tq := Option.some.inj e1'
            have z2 : _ = b := Option.some.inj e2'
            subst z1 z2
            exact ⟨otp, by rw [← hH3, upd_ne (Ne.symm nqt), upd_same]⟩
          | succ d => simp at e1'
    have hW3 : WorldR C own H3 wd (Ag08.setNode s i (askedN (Ag08.node s i) p)) A := hW.setNode ha cg t3 ⟨_, hnR⟩
    have nwa' : wd ≠ a := own_ne hW.ow hn.oa (by intro z; cases z)
    -- send(world.row, Letter(..))
    refine ⟨_, rfl, wd, C.W, A.dx, _, _, rfl, hW3.hw, T.cl_World, T.n_World_row, wF_row, _, rfl, _, rfl, _, rfl, a, C.N, B.dx, _, _, rfl, h3a, T.cl_Node, T.n_Node_asked, nF_asked, _, rfl, _, rfl, (by show 3 ≤ sizeLine; decide), fun l fl => ?_⟩
    intro x dx fx fdx ndx
    have nxl : x ≠ l := Ne.symm (ne_of_none upd_same fx)
    have nld : l ≠ dx := ne_of_none upd_same fdx
    have fx3 : H3 x = none := by simp only [upd_none_iff] at fx; exact fx.2
    have fdx3 : H3 dx = none := by simp only [upd_none_iff] at fdx; exact fdx.2
    refine ⟨x, dx, l, 0, j, i, [(Ag08.node s i).count + 1, p, (Ag08.node s i).upto.getD p 0], rfl, upd_same, (by rw [upd_ne nxl.symm, upd_ne nld, upd_same]; rfl), (by show 3 ≤ 1000; decide), fun H6 hx6 hk6 => ⟨rfl, ?_⟩⟩
    have s6 : Same H3 H6 := fun b o e => hk6 b o (by rw [upd_ne (ne_of_none e fx3), upd_ne (ne_of_none e fdx3), upd_ne (ne_of_none e fl)]; exact e) (ne_of_none e fx3)
    have hl6 : H6 l = some (.lst (intsV [(Ag08.node s i).count + 1, p, (Ag08.node s i).upto.getD p 0])) := hk6 l _ (by rw [upd_ne nxl.symm, upd_ne nld, upd_same]; rfl) nxl.symm
    obtain ⟨own', A', w7, c7⟩ := send_new hW3 g.room fx3 fl nxl s6 hx6 hl6
    refine ⟨A.R, .ref x, A.ls.map V.ref, rfl, s6 _ _ hW3.hR, ?_, ?_⟩
    · rw [List.length_map, hW.ll]
      have := g.room
      omega
    have naR : a ≠ A.R := own_ne hn.oa hW.oR (by intro z; cases z)
    have h7a : (if (A.ls.map V.ref).length < 100 then upd H6 A.R (.lst (A.ls.map V.ref ++ [.ref x])) else H6) a = some (.ins C.N B.dx (nF (Ag08.node s i).up ((Ag08.node s i).count + 1) B.u B.h B.w B.q)) := by
      split
      · rw [upd_ne naR]
        exact s6 _ _ h3a
      · exact s6 _ _ h3a
    refine ⟨_, rfl, a, C.N, B.dx, _, _, rfl, h7a, T.cl_Node, T.n_Node_asked, nF_asked, ?_⟩
    exact k own' _ A' (asked s i j p) _ ((step_ask s i j p).trans (by rw [if_neg ok1, if_neg (by rw [up]; intro z; cases z)])) w7 ((cg.mono tNode_some).trans (c7.mono tRow_some))
end
end Bo

set_option Elab.async false
set_option maxRecDepth 100000
set_option maxHeartbeats 2000000
namespace Bo
open PySem PySem.Spec PyProof.Rows L2
/-! ### what is told of a list of cells -/
def toldOf (n : Ag08.Node) (since : Nat) (l : List Nat) : List Nat := flat3 ((l.filter fun (c : Nat) => decide (since < (Ag08.cell n c).write)).map fun c => (c, Ag08.cell n c))
theorem toldOf_all (n : Ag08.Node) (p since : Nat) : toldOf n since (Ag08.cellsOf p) = flat3 (told3 n p since) := rfl
theorem flat3_app (a b : List (Nat × Ag08.Cell)) : flat3 (a ++ b) = flat3 a ++ flat3 b := by
  unfold flat3
  rw [List.flatMap_append]
theorem toldOf_yes {n : Ag08.Node} {since c : Nat} (l : List Nat) (h : since < (Ag08.cell n c).write) : toldOf n since (l ++ [c]) = toldOf n since l ++ [c, (Ag08.cell n c).value, (Ag08.cell n c).write] := by
  unfold toldOf
  rw [List.filter_append, List.map_append, flat3_app]
  have e : [c].filter (fun (c : Nat) => decide (since < (Ag08.cell n c).write)) = [c] := by simp [h]
  rw [e]
  rfl
theorem toldOf_no {n : Ag08.Node} {since c : Nat} (l : List Nat) (h : ¬ since < (Ag08.cell n c).write) : toldOf n since (l ++ [c]) = toldOf n since l := by
  unfold toldOf
  have e : [c].filter (fun (c : Nat) => decide (since < (Ag08.cell n c).write)) = [] := by simp [h]
  rw [List.filter_append, e, List.append_nil]
theorem cellsOf_get {p j : Nat} (h : j < 3) : (Ag08.cellsOf p)[j]? = some (3 * p + j) := by
  unfold Ag08.cellsOf
  rw [List.getElem?_map, List.getElem?_range (by exact h)]
  rfl
theorem toldOf_len (n : Ag08.Node) (since : Nat) (l : List Nat) : (toldOf n since l).length ≤ 3 * l.length := by
  unfold toldOf
  rw [flat3_length, List.length_map]
  have := List.length_filter_le (fun (c : Nat) => decide (since < (Ag08.cell n c).write)) l
  omega
section
variable {P : Program} {w : World} {K : PySem.W.Frag} {mg : Str → Option Value} {base : Heap} {C : Cl}
theorem cellV {n : Ag08.Node} {c : Nat} (h : c < n.cells.length) : (intsV (n.cells.map Ag08.Cell.value))[c]? = some (V.int ((Ag08.cell n c).value : Nat)) := by
  refine intsV_get ?_
  rw [List.getElem?_map, List.getElem?_eq_getElem h]
  unfold Ag08.cell
  rw [List.getD_eq_getElem?_getD, List.getElem?_eq_getElem h]
  rfl
theorem cellW {n : Ag08.Node} {c : Nat} (h : c < n.cells.length) : (intsV (n.cells.map Ag08.Cell.write))[c]? = some (V.int ((Ag08.cell n c).write : Nat)) := by
  refine intsV_get ?_
  rw [List.getElem?_map, List.getElem?_eq_getElem h]
  unfold Ag08.cell
  rw [List.getD_eq_getElem?_getD, List.getElem?_eq_getElem h]
  rfl
/-! ### cells_behind -/
def spCells (C : Cl) : Sp := fun vs H Q _ => ∃ (own : Own) (now i : Nat) (a : Addr) (n : Ag08.Node) (B : NodeA) (p since : Nat), vs = [.ref a, .int p, .int since] ∧ NodeR C.N own H now i a n B ∧ n.cells.length = 12 ∧ p < 4 ∧
  ∀ H' l, H l = none → Same H H' → H' l = some (.lst (intsV (flat3 (told3 n p since)))) → Q (.ref l) H'
theorem ok_cells_behind (T : Txt K mg C) : Ok P w K mg base 1 "cells_behind" ["node", "piece", "since"] (spCells C) := by
  refine T.f_cells_behind.ok sc_cells_behind (fun vs H Q E h => ?_) (fun f cdv A outer s H vs Q E hr h => ?_)
  · obtain ⟨own, now, i, a, n, B, p, since, rfl, _⟩ := h
    rfl
  · obtain ⟨own, now, i, a, n, B, p, since, rfl, hn, h12, hp, k⟩ := h
    refine ⟨_, (pss_cons (ps_set (i := 3) sc_cells_behind.nd rfl (Or.inl rfl) (pe_lst pa_nil))
        (pss_cons (ps_for PassesOwn.never rfl (pi_range2 (by rfl) T.range (pa_cons (pe_op op_mul (pv 1) (pe_cst rfl T.c_PIECE_CELLS)) (pa_cons (pe_op op_mul (pe_op op_add (pv 1) pe_int) (pe_cst rfl T.c_PIECE_CELLS)) pa_nil))) (pg_name (i := 4) sc_cells_behind.nd rfl (Or.inl rfl)) (pss_one (ps_if (pt_cmpR op_gt (pe_ix ix_list (pe_fld (pv 0) rfl) (pv 4) (fun _ _ => rfl)) (pv 2) (nomark _)) (pss_one (ps_expr (pe_bm PySem.F.plainAttrs_list PySem.F.slot_list_extend PySem.F.type_list_extend mt_extend (pv 3) (pa_cons (pe_lst (pa_cons (pv 4) (pa_cons (pe_ix ix_list (pe_fld (pv 0) rfl) (pv 4) (fun _ _ => rfl)) (pa_cons (pe_ix ix_list (pe_fld (pv 0) rfl) (pv 4) (fun _ _ => rfl)) pa_nil)))) pa_nil)))) pss_nil)))
        (pss_one (ps_ret (pv 3))))), ?_⟩
    refine ⟨Nat.zero_le _, fun l fl => ?_⟩
    have s1 : Same H (upd H l (.lst [])) := same_new fl
    refine ⟨_, rfl, _, _, rfl, rfl, .inl ⟨by omega, by omega⟩, _, rfl, _, _, rfl, rfl, _, _, rfl, rfl, .inl ⟨by omega, by omega⟩, _, _, rfl, ⟨by omega, by omega, by omega, by omega⟩, ?_⟩
    have en : (((p : Int) + 1) * 3 - (p : Int) * 3).toNat = 3 := by omega
    refine for_range (lo := (p : Int) * 3) (n := (((p : Int) + 1) * 3 - (p : Int) * 3).toNat) (fun j σ H' => ∃ v, σ = [some (.ref a), some (.int p), some (.int since), some (.ref l), v] ∧ Same H H' ∧ H' l = some (.lst (intsV (toldOf n since ((Ag08.cellsOf p).take j))))) ⟨none, rfl, s1, upd_same⟩ ?_ ?_
    · rintro j σ H1 hj ⟨v, rfl, s2, hl⟩
      rw [en] at hj
      have ec : (p : Int) * 3 + (j : Int) = ((3 * p + j : Nat) : Int) := by omega
      have hc : 3 * p + j < n.cells.length := by omega
      have hw1 := s2 _ _ hn.hw
      have hh1 := s2 _ _ hn.hh
      have ha1 := s2 _ _ hn.ha
      have et := take_more (cellsOf_get (p := p) hj)
      rw [ec]
      refine ⟨_, rfl, a, C.N, B.dx, _, _, rfl, ha1, T.cl_Node, T.n_Node_written, nF_written, _, rfl, B.w, _, _, _, rfl, rfl, SqL.of hw1, atI_nat (cellW hc), _, rfl, _, _, rfl, rfl, _, rfl, iteB (fun z => ?_) fun z => ?_⟩
      · have hb : since < (Ag08.cell n (3 * p + j)).write := by omega
        refine ⟨_, rfl, .inl ⟨rfl, _, SqL.of hl⟩, _, rfl, _, rfl, a, C.N, B.dx, _, _, rfl, ha1, T.cl_Node, T.n_Node_held, nF_held, _, rfl, B.h, _, _, _, rfl, rfl, SqL.of hh1, atI_nat (cellV hc),
          _, rfl, a, C.N, B.dx, _, _, rfl, ha1, T.cl_Node, T.n_Node_written, nF_written, _, rfl, B.w, _, _, _, rfl, rfl, SqL.of hw1, atI_nat (cellW hc), (by show 3 ≤ sizeLine; decide), fun q fq => ?_⟩
        have nlq : l ≠ q := ne_of_none hl fq
        refine ⟨l, q, _, _, rfl, rfl, (by rw [upd_ne nlq]; exact hl), upd_same, ?_, ?_⟩
        · have h1 := toldOf_len n since ((Ag08.cellsOf p).take j)
          have h2 : ((Ag08.cellsOf p).take j).length ≤ 3 := by rw [List.length_take]; omega
          rw [intsV_len]
          show _ + 3 ≤ sizeLine
          have := sizeLine_eq
          omega
        · refine ⟨_, rfl, fun b o e => ?_, ?_⟩
          · have nb : b ≠ l := ne_of_none e fl
            have nq : b ≠ q := ne_of_none (s2 b o e) fq
            rw [upd_ne nb, upd_ne nq]
            exact s2 b o e
          · rw [upd_same, et, toldOf_yes _ hb, ← intsV_app]
            rfl
      · have hb : ¬ since < (Ag08.cell n (3 * p + j)).write := by omega
        refine ⟨_, rfl, s2, ?_⟩
        rw [et, toldOf_no _ hb]
        exact hl
    · rintro σ H1 ⟨v, rfl, s2, hl⟩
      rw [en] at hl
      have e3 : (Ag08.cellsOf p).take 3 = Ag08.cellsOf p := List.take_of_length_le (by simp [Ag08.cellsOf, Ag08.EACH])
      rw [e3, toldOf_all] at hl
      exact ⟨_, rfl, k H1 l fl s2 hl⟩
/-! ### answer_ask -/
theorem uptos_of {t : Nat} {s : Ag08.State} (g : Good t s) {i p : Nat} (hi : i < s.nodes.length) (hp : p < 4) : (intsV (uptos s.writes.length i (Ag08.node s i)))[p]? = some (V.int (Ag08.uptoOf s i p : Nat)) := by
  refine intsV_get ?_
  unfold uptos Ag08.uptoOf
  split
  · rw [List.getElem?_replicate, if_pos hp]
    rfl
  · rw [List.getD_eq_getElem?_getD, List.getElem?_eq_getElem (by rw [(g.at_ hi).upto]; exact hp)]
    rfl
def spAnswerAsk (C : Cl) : Sp := fun vs H Q _ => ∃ (own : Own) (A : WA) (wd : Addr) (s : Ag08.State) (t : Nat) (x : Ag08.Letter) (a dx l : Addr) (num p since : Nat), vs = [.ref wd, .ref a] ∧ WorldR C own H wd s A ∧ Good t s ∧ LetterR C.L own H a x dx l ∧ x.to_ < s.nodes.length ∧
  x.nums = [num, p, since] ∧ p < 4 ∧ ∀ own' H' A', WorldR C own' H' wd (Ag08.send s [Ag08.letter 1 x.from_ x.to_ (Ag08.answer s x.to_ num p since)]) A' → Chg someRole own H own' H' → Q (.int 1) H'
theorem ok_answer_ask (T : Txt K mg C) : Ok P w K mg base 4 "answer_ask" ["world", "letter"] (spAnswerAsk C) := by
  obtain ⟨f_send, fd_send, G_send, b_send, m_send, k_send⟩ := ok_send (P := P) (w := w) (base := base) T
  obtain ⟨f_Letter, fd_Letter, M_Letter, G_Letter, b_Letter⟩ := ok_Letter (P := P) (w := w) (base := base) T
  obtain ⟨f_cb, fd_cb, G_cells_behind, b_cells_behind, m_cells_behind, k_cells_behind⟩ := ok_cells_behind (P := P) (w := w) (base := base) T
  refine T.f_answer_ask.ok sc_answer_ask (fun vs H Q E h => ?_) (fun f cdv A outer s H vs Q E hr h => ?_)
  · obtain ⟨own, A, wd, s, t, x, a, dx, l, num, p, since, rfl, _⟩ := h
    rfl
  · obtain ⟨own, A, wd, s, t, x, la, ldx, ll, num, p, since, rfl, hW, g, hx, hi, hnums, hp, k⟩ := h
    obtain ⟨a, B, ha, hn⟩ := hW.nodeAt hi
    have nk := g.at_ hi
    have hll := hx.hl
    rw [hnums] at hll
    refine ⟨_, (pss_cons (ps_set (i := 2) sc_answer_ask.nd rfl (Or.inl rfl) (pe_ix ix_list (pe_fld (pv 0) rfl) (pe_fld (pv 1) rfl) (fun _ _ => rfl)))
        (pss_cons (ps_set (i := 3) sc_answer_ask.nd rfl (Or.inl rfl) (pe_ix ix_list (pe_fld (pv 1) rfl) pe_int (fun _ _ => rfl)))
        (pss_cons (ps_set (i := 4) sc_answer_ask.nd rfl (Or.inl rfl) (pe_ix ix_list (pe_fld (pv 1) rfl) pe_int (fun _ _ => rfl)))
        (pss_cons (ps_set (i := 5) sc_answer_ask.nd rfl (Or.inl rfl) (pe_call G_cells_behind (hr.mono (by decide)) rfl m_cells_behind k_cells_behind b_cells_behind .nil pass0 (pa_cons (pv 2) (pa_cons (pv 3) (pa_cons (pv 4) pa_nil)))))
        (pss_cons (ps_set (i := 6) sc_answer_ask.nd rfl (Or.inl rfl) (pe_lst (pa_cons (pe_ix ix_list (pe_fld (pv 1) rfl) pe_int (fun _ _ => rfl)) (pa_cons (pv 3) (pa_cons (pv 4) (pa_cons (pe_ix ix_list (pe_fld (pv 2) rfl) (pv 3) (fun _ _ => rfl)) (pa_cons (pe_op op_fdiv (pe_callB call_len_seq (by rfl) T.len PySem.boot_len (pa_cons (pv 5) pa_nil)) (pe_cst rfl T.c_ANSWER_CELL)) pa_nil)))))))
        (pss_cons (ps_expr (pe_call G_send (hr.mono (by decide)) rfl m_send k_send b_send .nil pass0 (pa_cons (pe_fld (pv 0) rfl) (pa_cons (pe_make M_Letter G_Letter (hr.mono (by decide)) rfl T.g_Letter b_Letter .nil pass0 (pa_cons (pe_cst rfl T.c_ANSWER_LETTER) (pa_cons (pe_fld (pv 1) rfl) (pa_cons (pe_fld (pv 1) rfl) (pa_cons (pe_op op_cat (pv 6) (pv 5)) pa_nil))))) pa_nil))))
        (pss_one (ps_ret (pe_cst rfl T.c_ANSWERED))))))))), ?_⟩
    refine ⟨_, rfl, wd, C.W, A.dx, _, _, rfl, hW.hw, T.cl_World, T.n_World_nodes, wF_nodes, _, rfl, la, C.L, ldx, _, _, rfl, hx.ha, T.cl_Letter, T.n_Letter_receiver, lF_receiver, A.N, _, _, V.ref a, rfl, rfl, SqL.of hW.hN, atI_nat (j := x.to_) (by rw [List.getElem?_map, ha]; rfl), ?_⟩
    refine ⟨_, rfl, la, C.L, ldx, _, _, rfl, hx.ha, T.cl_Letter, T.n_Letter_numbers, lF_numbers, ll, _, _, _, rfl, rfl, SqL.of hll, atI_nat (j := 1) rfl, ?_⟩
    refine ⟨_, rfl, la, C.L, ldx, _, _, rfl, hx.ha, T.cl_Letter, T.n_Letter_numbers, lF_numbers, ll, _, _, _, rfl, rfl, SqL.of hll, atI_nat (j := 2) rfl, ?_⟩
    -- told = cells_behind(node, piece, since)
    refine ⟨_, rfl, _, rfl, _, rfl, own, _, _, a, _, B, p, since, rfl, hn, nk.cells, hp, fun H1 tl ftl s1 htl => ?_⟩
    have hx1 := s1 _ _ hx.ha
    have hll1 := s1 _ _ hll
    -- head
    refine ⟨_, rfl, la, C.L, ldx, _, _, rfl, hx1, T.cl_Letter, T.n_Letter_numbers, lF_numbers, ll, _, _, _, rfl, rfl, SqL.of hll1, atI_nat (j := 0) rfl, _, rfl, _, rfl, _, rfl, a, C.N, B.dx, _, _, rfl, s1 _ _ hn.ha, T.cl_Node, T.n_Node_upto, nF_upto, _, rfl,
      B.u, _, _, _, rfl, rfl, SqL.of (s1 _ _ hn.hu), atI_nat (j := p) (uptos_of g hi hp), _, rfl, tl, _, rfl, .inl (SqL.of htl), _, _, rfl, rfl, ⟨by decide, by decide⟩, (by show 5 ≤ sizeLine; decide), fun hd fhd => ?_⟩
    have s0 : ∀ o : HO, Same H1 (upd H1 hd o) := fun o => same_new fhd
    have elen : (((intsV (flat3 (told3 (Ag08.node s x.to_) p since))).length : Nat) : Int) / 3 = (((told3 (Ag08.node s x.to_) p since).length : Nat) : Int) := by
      rw [intsV_len, flat3_length]
      omega
    -- send(world.row, Letter(..))
    refine ⟨_, rfl, wd, C.W, A.dx, _, _, rfl, s0 _ _ _ (s1 _ _ hW.hw), T.cl_World, T.n_World_row, wF_row, _, rfl, la, C.L, ldx, _, _, rfl, s0 _ _ _ hx1, T.cl_Letter, T.n_Letter_sender, lF_sender, _, rfl, la, C.L, ldx, _, _, rfl, s0 _ _ _ hx1, T.cl_Letter, T.n_Letter_receiver, lF_receiver,
      _, rfl, _, rfl, hd, tl, _, _, rfl, rfl, upd_same, s0 _ _ _ htl, ?_, fun l fl => ?_⟩
    · rw [intsV_len, flat3_length, told3_len]
      have := toldC_len (Ag08.node s x.to_) p since
      show 5 + _ ≤ sizeLine
      have := sizeLine_eq
      omega
    intro nl dx fx fdx ndx
    generalize hH2 : upd H1 hd _ = H2 at fl fx fdx
    have s2 : Same H1 H2 := by rw [← hH2]; exact s0 _
    have nxl : nl ≠ l := Ne.symm (ne_of_none upd_same fx)
    have nld : l ≠ dx := ne_of_none upd_same fdx
    have fx2 : H2 nl = none := by simp only [upd_none_iff] at fx; exact fx.2
    have fdx2 : H2 dx = none := by simp only [upd_none_iff] at fdx; exact fdx.2
    have ens : (V.int (num : Nat) :: V.int (p : Nat) :: V.int (since : Nat) :: V.int (Ag08.uptoOf s x.to_ p : Nat) :: V.int ((((intsV (flat3 (told3 (Ag08.node s x.to_) p since))).length : Nat) : Int) / 3) :: intsV (flat3 (told3 (Ag08.node s x.to_) p since))) = intsV (Ag08.answer s x.to_ num p since) := by
      rw [elen, answer_eq]
      rfl
    have hans : (Ag08.answer s x.to_ num p since).length ≤ 1000 := by
      rw [answer_eq]
      simp only [List.length_cons, flat3_length, told3_len]
      have := toldC_len (Ag08.node s x.to_) p since
      omega
    have hl0 : upd H2 l (.lst (intsV (Ag08.answer s x.to_ num p since))) l = some (.lst (intsV (Ag08.answer s x.to_ num p since))) := upd_same
    refine ⟨nl, dx, l, 1, x.from_, x.to_, Ag08.answer s x.to_ num p since, rfl, upd_same, (by rw [upd_ne nxl.symm, upd_ne nld, upd_same]; exact congrArg (fun z => some (HO.lst z)) ens), hans, fun H6 hx6 hk6 => ⟨rfl, ?_⟩⟩
    have s6 : Same H2 H6 := fun b o e => hk6 b o (by rw [upd_ne (ne_of_none e fx2), upd_ne (ne_of_none e fdx2), upd_ne (ne_of_none e fl)]; exact e) (ne_of_none e fx2)
    have hl6 : H6 l = some (.lst (intsV (Ag08.answer s x.to_ num p since))) := hk6 l _ (by rw [upd_ne nxl.symm, upd_ne nld, upd_same]; exact congrArg (fun z => some (HO.lst z)) ens) nxl.symm
    have hW2 : WorldR C own H2 wd s A := hW.same (s1.trans s2)
    obtain ⟨own', A', w7, c7⟩ := send_new hW2 g.room fx2 fl nxl s6 hx6 hl6
    refine ⟨A.R, .ref nl, A.ls.map V.ref, rfl, s6 _ _ hW2.hR, ?_, ?_⟩
    · rw [List.length_map, hW.ll]
      have := g.room
      omega
    exact k own' _ A' w7 ((Chg.same (s1.trans s2)).trans (c7.mono tRow_some))
end
end Bo

set_option Elab.async false
set_option maxRecDepth 100000
set_option maxHeartbeats 2000000
namespace Bo
open PySem PySem.Spec PyProof.Rows L2
/-! ### what is waited for, as data -/
def askD (a : Ag08.Ask) : PyData := trD a.num a.piece a.since
theorem askDs_shaped (l : List Ag08.Ask) : SeqAt.shaped (.list (l.map askD)) = true := by
  have e : l.map askD = (l.map fun a => (a.num, a.piece, a.since)).map fun z => trD z.1 z.2.1 z.2.2 := by
    rw [List.map_map]
    rfl
  rw [e]
  exact trDs_shaped _
theorem WaitsR.dp {K : PySem.W.Frag} {own : Own} {H : Hp} : ∀ {ts : List Addr} {asks : List Ag08.Ask}, WaitsR own H ts asks → DpAll K H (ts.map V.ref) (asks.map askD)
  | [], [], _ => .nil
  | [], a :: l, h => by have := h.1; simp at this
  | t :: ts, [], h => by have := h.1; simp at this
  | t :: ts, a :: l, h => by
    refine .cons (.tup (SqT.of (h.2 0 t a rfl rfl).2) (.cons (.int _) (.cons (.int _) (.cons (.int _) .nil)))) (WaitsR.dp ⟨by have := h.1; simpa using this, fun j t a e1 e2 => h.2 (j + 1) t a e1 e2⟩)
theorem askD_eqv (a b : Ag08.Ask) : PyData.eqv (askD a) (askD b) = decide (a = b) := by
  unfold askD
  rw [trD_eqv]
  obtain ⟨n, p, s⟩ := a
  obtain ⟨n', p', s'⟩ := b
  by_cases h : (⟨n, p, s⟩ : Ag08.Ask) = ⟨n', p', s'⟩
  · cases h
    simp
  · rw [decide_eq_false h]
    refine decide_eq_false fun z => h ?_
    obtain ⟨z1, z2, z3⟩ := z
    simp only at z1 z2 z3
    rw [z1, z2, z3]
theorem any_askD (l : List Ag08.Ask) (b : Ag08.Ask) : ((l.map askD).any fun z => PyData.eqv z (askD b)) = l.contains b := by
  induction l with
  | nil => rfl
  | cons a l ih =>
    rw [List.map_cons, List.any_cons, List.contains_cons, ih, askD_eqv, ask_beq]
    congr 1
    by_cases h : a = b
    · rw [h]
    · rw [decide_eq_false h, decide_eq_false (Ne.symm h)]
/-- the first place of one that is there -/
theorem first_of {l : List Ag08.Ask} {b : Ag08.Ask} (h : b ∈ l) : ∃ j : Nat, l[j]? = some b ∧ SeqAt.dataPlace (l.map askD) (askD b) = some j := by
  unfold SeqAt.dataPlace
  induction l with
  | nil => cases h
  | cons a l ih =>
    rw [List.map_cons, List.findIdx?_cons, askD_eqv]
    by_cases e : a = b
    · exact ⟨0, by rw [e]; rfl, by rw [decide_eq_true e]; rfl⟩
    · obtain ⟨j, h1, h2⟩ := ih ((List.mem_cons.mp h).resolve_left fun z => e z.symm)
      exact ⟨j + 1, h1, by rw [decide_eq_false e, h2]; rfl⟩
theorem askDs_lay (l : List Ag08.Ask) : PyData.canLayAll0 (l.map askD) = true := by
  have e : l.map askD = (l.map fun a => (a.num, a.piece, a.since)).map fun z => trD z.1 z.2.1 z.2.2 := by
    rw [List.map_map]
    rfl
  rw [e]
  exact trDs_lay _
theorem askD_deep (a : Ag08.Ask) : (askD a).depth ≤ 64 := by
  unfold askD
  rw [trD_depth]
  decide
theorem filter_all {l : List Ag08.Ask} {n : Nat} (h : n ∉ l.map Ag08.Ask.num) : l.filter (fun a => a.num != n) = l := by
  rw [List.filter_eq_self]
  intro a ha
  have z : a.num ≠ n := fun e => h (List.mem_map.mpr ⟨a, ha, e⟩)
  simp [z]
/-- numbers being distinct: to drop by number is to drop one -/
theorem filter_erase : ∀ {l : List Ag08.Ask} {j : Nat} {b : Ag08.Ask}, (l.map Ag08.Ask.num).Nodup → l[j]? = some b → l.filter (fun a => a.num != b.num) = l.eraseIdx j
  | [], j, b, _, h => by simp at h
  | a :: l, 0, b, hd, h => by
    have e : a = b := Option.some.inj h
    subst e
    have hn := (List.nodup_cons.mp (show (a.num :: l.map Ag08.Ask.num).Nodup from hd)).1
    rw [List.filter_cons_of_neg (by simp), filter_all hn]
    rfl
  | a :: l, j + 1, b, hd, h => by
    have h' : l[j]? = some b := h
    have hd2 := List.nodup_cons.mp (show (a.num :: l.map Ag08.Ask.num).Nodup from hd)
    have hne : a.num ≠ b.num := fun e => hd2.1 (by rw [e]; exact List.mem_map.mpr ⟨b, List.mem_of_getElem? h', rfl⟩)
    rw [List.filter_cons_of_pos (by simp [hne]), filter_erase hd2.2 h']
    rfl
theorem map_erase {S U : Type} (f : S → U) : ∀ (xs : List S) (j : Nat), (xs.eraseIdx j).map f = (xs.map f).eraseIdx j
  | [], _ => rfl
  | a :: l, 0 => rfl
  | a :: l, j + 1 => by
    show f a :: (l.eraseIdx j).map f = f a :: (l.map f).eraseIdx j
    rw [map_erase f l j]
theorem rgc {k : Nat} (h : k ≤ 3) : RgC 5 ((5 + 3 * k : Nat) : Int) 3 k := by
  rcases (by omega : k = 0 ∨ k = 1 ∨ k = 2 ∨ k = 3) with e | e | e | e <;> subst e <;> exact ⟨by decide, by decide, by decide +kernel, by decide +kernel⟩
theorem putAll_app (l : List (Nat × Ag08.Cell)) (y : Nat × Ag08.Cell) (cs : List Ag08.Cell) : putAll (l ++ [y]) cs = (putAll l cs).set y.1 y.2 := by
  unfold putAll
  rw [List.foldl_append]
  rfl
theorem flat3_get : ∀ {cs : List (Nat × Ag08.Cell)} {j : Nat} {y : Nat × Ag08.Cell}, cs[j]? = some y → (flat3 cs)[3 * j]? = some y.1 ∧ (flat3 cs)[3 * j + 1]? = some y.2.value ∧ (flat3 cs)[3 * j + 2]? = some y.2.write
  | [], j, y, h => by simp at h
  | c :: cs, 0, y, h => by
    have e : c = y := Option.some.inj h
    subst e
    exact ⟨rfl, rfl, rfl⟩
  | c :: cs, j + 1, y, h => by
    obtain ⟨h1, h2, h3⟩ := flat3_get (cs := cs) (j := j) (y := y) h
    have e : flat3 (c :: cs) = c.1 :: c.2.value :: c.2.write :: flat3 cs := rfl
    have e1 : 3 * (j + 1) = 3 * j + 1 + 1 + 1 := by omega
    rw [e, e1]
    refine ⟨?_, ?_, ?_⟩
    · simpa using h1
    · have : 3 * j + 1 + 1 + 1 + 1 = (3 * j + 1) + 1 + 1 + 1 := by omega
      rw [this]
      simpa using h2
    · have : 3 * j + 1 + 1 + 1 + 2 = (3 * j + 2) + 1 + 1 + 1 := by omega
      rw [this]
      simpa using h3
section
variable {P : Program} {w : World} {K : PySem.W.Frag} {mg : Str → Option Value} {base : Heap} {C : Cl}
def ansNums (num p since u : Nat) (cs : List (Nat × Ag08.Cell)) : List Nat := num :: p :: since :: u :: cs.length :: flat3 cs
theorem ansNums_len (num p since u : Nat) (cs : List (Nat × Ag08.Cell)) : (ansNums num p since u cs).length = 5 + 3 * cs.length := by
  unfold ansNums
  simp only [List.length_cons, flat3_length]
  omega
theorem ansNums_get {num p since u : Nat} {cs : List (Nat × Ag08.Cell)} {j : Nat} {y : Nat × Ag08.Cell} (h : cs[j]? = some y) :
    (ansNums num p since u cs)[5 + 3 * j]? = some y.1 ∧ (ansNums num p since u cs)[5 + 3 * j + 1]? = some y.2.value ∧ (ansNums num p since u cs)[5 + 3 * j + 2]? = some y.2.write := by
  obtain ⟨h1, h2, h3⟩ := flat3_get h
  unfold ansNums
  refine ⟨?_, ?_, ?_⟩
  · have : 5 + 3 * j = 3 * j + 1 + 1 + 1 + 1 + 1 := by omega
    rw [this]
    simpa using h1
  · have : 5 + 3 * j + 1 = (3 * j + 1) + 1 + 1 + 1 + 1 + 1 := by omega
    rw [this]
    simpa using h2
  · have : 5 + 3 * j + 2 = (3 * j + 2) + 1 + 1 + 1 + 1 + 1 := by omega
    rw [this]
    simpa using h3
/-! ### accept_answer -/
def spAccept (C : Cl) : Sp := fun vs H Q _ => ∃ (own : Own) (A : WA) (wd : Addr) (s : Ag08.State) (t i : Nat) (a l b : Addr) (num p since u : Nat) (cs : List (Nat × Ag08.Cell)), vs = [.ref a, .ref l] ∧ WorldR C own H wd s A ∧ Good t s ∧ A.ns[i]? = some a ∧ i < s.nodes.length ∧
  own l = some (.nums b) ∧ H l = some (.lst (intsV (ansNums num p since u cs))) ∧ p < 4 ∧ cs.length ≤ 3 ∧ (∀ c ∈ cs, c.1 < 12) ∧
  ∀ own' H', WorldR C own' H' wd (Ag08.setNode s i (accN (Ag08.node s i) num p since u cs).1) A → Chg someRole own H own' H' → Q (.int (accN (Ag08.node s i) num p since u cs).2) H'
theorem ok_accept_answer (T : Txt K mg C) : Ok P w K mg base 1 "accept_answer" ["node", "numbers"] (spAccept C) := by
  refine T.f_accept_answer.ok sc_accept_answer (fun vs H Q E h => ?_) (fun f cdv A outer s H vs Q E hr h => ?_)
  · obtain ⟨own, A, wd, s, t, i, a, l, b, num, p, since, u, cs, rfl, _⟩ := h
    rfl
  · obtain ⟨own, A, wd, s, t, i, a, l, lb, num, p, since, u, cs, rfl, hW, g, ha, hi, ol, hl, hp, hcs, hc12, k⟩ := h
    obtain ⟨a', B, ha', hn⟩ := hW.nodeAt hi
    rw [ha] at ha'
    cases ha'
    have nk := g.at_ hi
    generalize hnode : Ag08.node s i = n at hn nk k
    refine ⟨_, (pss_cons (ps_set (i := 2) sc_accept_answer.nd rfl (Or.inl rfl) (pe_ix ix_list (pv 1) pe_int (fun _ _ => rfl)))
        (pss_cons (ps_set (i := 3) sc_accept_answer.nd rfl (Or.inl rfl) (pe_ix ix_list (pv 1) pe_int (fun _ _ => rfl)))
        (pss_cons (ps_set (i := 4) sc_accept_answer.nd rfl (Or.inl rfl) (pe_tup (pa_cons (pe_ix ix_list (pv 1) pe_int (fun _ _ => rfl)) (pa_cons (pv 2) (pa_cons (pe_ix ix_list (pv 1) pe_int (fun _ _ => rfl)) pa_nil)))))
        (pss_cons (ps_if (pt_cmpR (op_notInD (hu65 hr)) (pv 4) (pe_fld (pv 0) rfl) (by rfl)) (pss_one (ps_ret (pe_cst rfl T.c_NO_USE))) pss_nil)
        (pss_cons (ps_expr (pe_bm PySem.F.plainAttrs_list PySem.F.slot_list_remove PySem.F.type_list_remove (mt_removeD (hu65 hr)) (pe_fld (pv 0) rfl) (pa_cons (pv 4) pa_nil)))
        (pss_cons (ps_if (pt_cmpR op_ge (pe_ix ix_list (pe_fld (pv 0) rfl) (pv 2) (fun _ _ => rfl)) (pv 3) (nomark _)) (pss_one (ps_ret (pe_cst rfl T.c_NO_USE))) pss_nil)
        (pss_cons (ps_for PassesOwn.never rfl (pi_range3 (by rfl) T.range (pa_cons (pe_cst rfl T.c_ANSWER_HEAD) (pa_cons (pe_callB call_len_seq (by rfl) T.len PySem.boot_len (pa_cons (pv 1) pa_nil)) (pa_cons (pe_cst rfl T.c_ANSWER_CELL) pa_nil)))) (pg_name (i := 5) sc_accept_answer.nd rfl (Or.inl rfl)) (pss_cons (ps_set (i := 6) sc_accept_answer.nd rfl (Or.inl rfl) (pe_ix ix_list (pv 1) (pv 5) (fun _ _ => rfl)))
        (pss_cons (ps_asg (pe_ix ix_list (pv 1) (pe_op op_add (pv 5) pe_int) (fun _ _ => rfl)) (pg_sub (pe_fld (pv 0) rfl) (pv 6) set_list))
        (pss_one (ps_asg (pe_ix ix_list (pv 1) (pe_op op_add (pv 5) pe_int) (fun _ _ => rfl)) (pg_sub (pe_fld (pv 0) rfl) (pv 6) set_list))))))
        (pss_cons (ps_asg (pv 3) (pg_sub (pe_fld (pv 0) rfl) (pv 2) set_list))
        (pss_one (ps_ret (pe_cst rfl T.c_GOES_ON))))))))))), ?_⟩
    have i0 : (intsV (ansNums num p since u cs))[0]? = some (V.int (num : Nat)) := rfl
    have i1 : (intsV (ansNums num p since u cs))[1]? = some (V.int (p : Nat)) := rfl
    have i2 : (intsV (ansNums num p since u cs))[2]? = some (V.int (since : Nat)) := rfl
    have i3 : (intsV (ansNums num p since u cs))[3]? = some (V.int (u : Nat)) := rfl
    refine ⟨_, rfl, l, _, _, _, rfl, rfl, SqL.of hl, atI_nat (j := 1) i1, ?_⟩
    refine ⟨_, rfl, l, _, _, _, rfl, rfl, SqL.of hl, atI_nat (j := 3) i3, ?_⟩
    refine ⟨_, rfl, l, _, _, _, rfl, rfl, SqL.of hl, atI_nat (j := 0) i0, _, rfl, _, rfl, l, _, _, _, rfl, rfl, SqL.of hl, atI_nat (j := 2) i2, (by show 3 ≤ sizeLine; decide), fun tp ftp => ?_⟩
    have s1 : ∀ o : HO, Same H (upd H tp o) := fun o => same_new ftp
    have htp : upd H tp (.tup [.int (num : Nat), .int (p : Nat), .int (since : Nat)]) tp = some (.tup [.int (num : Nat), .int (p : Nat), .int (since : Nat)]) := upd_same
    generalize hH1 : upd H tp (.tup [.int (num : Nat), .int (p : Nat), .int (since : Nat)]) = H1 at htp
    have s2 : Same H H1 := by rw [← hH1]; exact s1 _
    have hW1 : WorldR C own H1 wd s A := hW.same s2
    have hn1 : NodeR C.N own H1 s.writes.length i a n B := hn.chg (P := tNone) (Chg.same s2) (fun z => z) (fun z => z) (fun _ z => z)
    have dpx : Dp K H1 (.ref tp) (askD ⟨num, p, since⟩) := .tup (SqT.of htp) (.cons (.int _) (.cons (.int _) (.cons (.int _) .nil)))
    have hl1 := s2 _ _ hl
    -- if wait not in node.waits
    refine ⟨_, rfl, _, rfl, a, C.N, B.dx, _, _, rfl, hn1.ha, T.cl_Node, T.n_Node_waits, nF_waits, _, _, dpx, .lst (SqL.of hn1.hq) hn1.wt.dp, trD_shaped _ _ _, askDs_shaped _, _, rfl, ?_⟩
    rw [any_askD]
    cases hcon : n.asks.contains ⟨num, p, since⟩
    · refine if_true_of rfl ?_
      have e : accN n num p since u cs = (n, 0) := by unfold accN; rw [if_pos hcon]
      rw [e] at k
      refine k own H1 ?_ (Chg.same s2)
      rw [← hnode, setNode_self hi]
      exact hW1
    refine if_false_of rfl ?_
    have hmem : (⟨num, p, since⟩ : Ag08.Ask) ∈ n.asks := contains_mem.mp hcon
    have hi0 : i ≠ 0 := fun e => by
      have z := nk.store e
      rw [z] at hmem
      cases hmem
    obtain ⟨j, hj, hfirst⟩ := first_of hmem
    -- node.waits.remove(wait)
    refine ⟨_, rfl, a, C.N, B.dx, _, _, rfl, hn1.ha, T.cl_Node, T.n_Node_waits, nF_waits, .inl ⟨rfl, _, SqL.of hn1.hq⟩, _, rfl, B.q, _, _, _, _, j, rfl, rfl, hn1.hq, hn1.wt.dp, dpx, askDs_lay _, trD_lay _ _ _, askD_deep _, hfirst, ?_⟩
    have efil : (drop1 n num).asks = n.asks.eraseIdx j := filter_erase nk.nodup hj
    rw [← map_erase]
    generalize hH2 : upd H1 B.q _ = H2
    have h2 : ∀ b, b ≠ B.q → H2 b = H1 b := fun b z => by rw [← hH2, upd_ne z]
    have c2 : Chg (tNode i) own H1 own H2 := by rw [← hH2]; exact Chg.upd (.inr ⟨_, hn1.oq⟩)
    have t2 : Trk own H2 := by rw [← hH2]; exact hW1.trk.upd
    have nqa : a ≠ B.q := own_ne hn.oa hn.oq (by intro z; cases z)
    have nqu : B.u ≠ B.q := own_ne hn.ou hn.oq (by intro z; cases z)
    have nqh : B.h ≠ B.q := own_ne hn.oh hn.oq (by intro z; cases z)
    have nqw : B.w ≠ B.q := own_ne hn.ow hn.oq (by intro z; cases z)
    have nql : l ≠ B.q := own_ne ol hn.oq (by intro z; cases z)
    have hn2 : NodeR C.N own H2 s.writes.length i a (drop1 n num) { B with ts := B.ts.eraseIdx j } := by
      refine ⟨hn.oa, hn.ou, hn.oh, hn.ow, hn.oq, by rw [h2 _ nqa]; exact hn1.ha, by rw [h2 _ nqu]; exact hn1.hu, by rw [h2 _ nqh]; exact hn1.hh, by rw [h2 _ nqw]; exact hn1.hw, by rw [← hH2, upd_same], ?_, ?_⟩
      · rw [efil, List.length_eraseIdx, List.length_eraseIdx, hn1.wt.1]
      · intro m tq b e1 e2
        rw [efil] at e2
        have e1' : (B.ts.eraseIdx j)[m]? = some tq := e1
        rw [List.getElem?_eraseIdx] at e1' e2
        have : ∃ m' : Nat, B.ts[m']? = some tq ∧ n.asks[m']? = some b := by
          by_cases e : m < j
          · rw [if_pos e] at e1' e2
            exact ⟨m, e1', e2⟩
          · rw [if_neg e] at e1' e2
            exact ⟨m + 1, e1', e2⟩
        obtain ⟨m', q1, q2⟩ := this
        obtain ⟨o1, o2⟩ := hn1.wt.2 m' tq b q1 q2
        exact ⟨o1, by rw [h2 _ (own_ne o1 hn.oq (by intro z; cases z))]; exact o2⟩
    have nk2 := drop1_ok nk num
    have hl2 : H2 l = some (.lst (intsV (ansNums num p since u cs))) := by rw [h2 _ nql]; exact hl1
    -- if node.upto[piece] >= upto
    refine ⟨_, rfl, a, C.N, B.dx, _, _, rfl, hn2.ha, T.cl_Node, T.n_Node_upto, nF_upto, _, rfl, B.u, _, _, _, rfl, rfl, SqL.of hn2.hu, atI_nat (j := p) (uptos_get nk2 hi0 hp), _, rfl, _, _, rfl, rfl, _, rfl, iteB (fun z => ?_) fun z => ?_⟩
    · have hz : u ≤ n.upto.getD p 0 := by
        have e : (drop1 n num).upto = n.upto := rfl
        rw [e] at z
        omega
      have e : accN n num p since u cs = (drop1 n num, 0) := by unfold accN; rw [if_neg (by rw [hcon]; intro q; cases q), if_pos hz]
      rw [e] at k
      exact k own H2 (hW1.setNode ha c2 t2 ⟨_, hn2⟩) ((Chg.same s2).trans (c2.mono tNode_some))
    have hz : ¬ u ≤ n.upto.getD p 0 := by
      have e : (drop1 n num).upto = n.upto := rfl
      rw [e] at z
      omega
    have ek : accN n num p since u cs = (brought (drop1 n num) p u cs, 2) := by unfold accN; rw [if_neg (by rw [hcon]; intro q; cases q), if_neg hz]
    rw [ek] at k
    have nhw : B.h ≠ B.w := own_ne hn.oh hn.ow (by intro z; cases z)
    have nha : B.h ≠ a := own_ne hn.oh hn.oa (by intro z; cases z)
    have nwa : B.w ≠ a := own_ne hn.ow hn.oa (by intro z; cases z)
    have nhl : B.h ≠ l := own_ne hn.oh ol (by intro z; cases z)
    have nwl : B.w ≠ l := own_ne hn.ow ol (by intro z; cases z)
    have nhu : B.h ≠ B.u := own_ne hn.oh hn.ou (by intro z; cases z)
    have nwu : B.w ≠ B.u := own_ne hn.ow hn.ou (by intro z; cases z)
    -- the loop over the cells told
    refine ⟨_, rfl, l, _, rfl, .inl (SqL.of hl2), _, _, _, cs.length, rfl, ?_, for_rangeC (lo := 5) (c := 3) (n := cs.length) (fun m σ H' => ∃ v5 v6, σ = [some (.ref a), some (.ref l), some (.int (p : Nat)), some (.int (u : Nat)), some (.ref tp), v5, v6] ∧
      (∀ b, b ≠ B.h → b ≠ B.w → H' b = H2 b) ∧ H' B.h = some (.lst (intsV ((putAll (cs.take m) n.cells).map Ag08.Cell.value))) ∧ H' B.w = some (.lst (intsV ((putAll (cs.take m) n.cells).map Ag08.Cell.write)))) ⟨none, none, rfl, fun _ _ _ => rfl, hn2.hh, hn2.hw⟩ ?_ ?_⟩
    · rw [intsV_len, ansNums_len]
      exact rgc hcs
    · rintro m σ H3 hm ⟨v5, v6, rfl, h3, h3h, h3w⟩
      have hy : cs[m]? = some cs[m] := List.getElem?_eq_getElem hm
      obtain ⟨g1, g2, g3⟩ := ansNums_get (num := num) (p := p) (since := since) (u := u) hy
      have hl3 : H3 l = some (.lst (intsV (ansNums num p since u cs))) := by rw [h3 _ nhl.symm nwl.symm]; exact hl2
      have ha3 : H3 a = some (.ins C.N B.dx (nF n.up n.count B.u B.h B.w B.q)) := by rw [h3 _ nha.symm nwa.symm]; exact hn2.ha
      have e0 : (5 : Int) + (m : Nat) * 3 = ((5 + 3 * m : Nat) : Int) := by omega
      have e1 : (5 : Int) + (m : Nat) * 3 + 1 = ((5 + 3 * m + 1 : Nat) : Int) := by omega
      have e2 : (5 : Int) + (m : Nat) * 3 + 2 = ((5 + 3 * m + 2 : Nat) : Int) := by omega
      have lcell : (putAll (cs.take m) n.cells).length = 12 := by rw [putAll_len]; exact nk.cells
      have hc := hc12 _ (List.getElem_mem hm)
      refine ⟨_, rfl, _, rfl, l, _, _, _, rfl, rfl, SqL.of hl3, (by rw [e0]; exact atI_nat (intsV_get g1)), ?_⟩
      refine ⟨_, rfl, _, rfl, _, _, rfl, rfl, l, _, _, _, rfl, rfl, SqL.of hl3, (by rw [e1]; exact atI_nat (intsV_get g2)), _, rfl, a, C.N, B.dx, _, _, rfl, ha3, T.cl_Node, T.n_Node_held, nF_held, _, rfl, B.h, _, _, cs[m].1, rfl, rfl, h3h, ixN_nat (by rw [intsV_len, List.length_map, lcell]; exact hc), ?_⟩
      refine ⟨_, rfl, _, rfl, _, _, rfl, rfl, l, _, _, _, rfl, rfl, SqL.of (Eq.trans (upd_ne nhl.symm) hl3), (by rw [e2]; exact atI_nat (intsV_get g3)), _, rfl, a, C.N, B.dx, _, _, rfl, Eq.trans (upd_ne nha.symm) ha3, T.cl_Node, T.n_Node_written, nF_written, _, rfl, B.w, _, _, cs[m].1, rfl, rfl, Eq.trans (upd_ne nhw.symm) h3w, ixN_nat (by rw [intsV_len, List.length_map, lcell]; exact hc), ?_⟩
      refine ⟨_, _, rfl, fun b n1 n2 => by rw [upd_ne n2, upd_ne n1]; exact h3 b n1 n2, ?_, ?_⟩
      · rw [upd_ne nhw, upd_same, take_more hy, putAll_app, List.map_set, ← intsV_set]
      · rw [upd_same, take_more hy, putAll_app, List.map_set, ← intsV_set]
    · rintro σ H3 ⟨v5, v6, rfl, h3, h3h, h3w⟩
      rw [List.take_length] at h3h h3w
      have ha3 : H3 a = some (.ins C.N B.dx (nF n.up n.count B.u B.h B.w B.q)) := by rw [h3 _ nha.symm nwa.symm]; exact hn2.ha
      have hu3 : H3 B.u = some (.lst (intsV n.upto)) := by
        rw [h3 _ nhu.symm nwu.symm]
        have := hn2.hu
        unfold uptos at this
        rw [if_neg hi0] at this
        exact this
      -- node.upto[piece] = upto
      refine ⟨_, rfl, _, rfl, a, C.N, B.dx, _, _, rfl, ha3, T.cl_Node, T.n_Node_upto, nF_upto, _, rfl, B.u, _, _, p, rfl, rfl, hu3, ixN_nat (by rw [intsV_len, nk.upto]; exact hp), ?_⟩
      generalize hH4 : upd H3 B.u _ = H4
      have nua : a ≠ B.u := own_ne hn.oa hn.ou (by intro z; cases z)
      have h4 : ∀ b, b ≠ B.u → b ≠ B.h → b ≠ B.w → H4 b = H2 b := fun b n1 n2 n3 => by rw [← hH4, upd_ne n1, h3 b n2 n3]
      have c4 : Chg (tNode i) own H2 own H4 := fun b o e zz => by
        have n1 : b ≠ B.u := fun q => zz (by rw [q]; exact .inr ⟨_, hn.ou⟩)
        have n2 : b ≠ B.h := fun q => zz (by rw [q]; exact .inr ⟨_, hn.oh⟩)
        have n3 : b ≠ B.w := fun q => zz (by rw [q]; exact .inr ⟨_, hn.ow⟩)
        exact ⟨by rw [h4 b n1 n2 n3]; exact e, rfl⟩
      have t4 : Trk own H4 := fun b r e => by
        by_cases n1 : b = B.u
        · rw [n1, ← hH4, upd_same]; exact ⟨_, rfl⟩
        · by_cases n2 : b = B.h
          · rw [n2, ← hH4, upd_ne nhu]; exact ⟨_, h3h⟩
          · by_cases n3 : b = B.w
            · rw [n3, ← hH4, upd_ne nwu]; exact ⟨_, h3w⟩
            · rw [h4 b n1 n2 n3]; exact t2 b r e
      refine k own H4 (hW1.setNode ha (c2.trans c4) t4 ⟨{ B with ts := B.ts.eraseIdx j }, ?_⟩) ((Chg.same s2).trans ((c2.trans c4).mono tNode_some))
      refine ⟨hn.oa, hn.ou, hn.oh, hn.ow, hn.oq, by rw [h4 _ nua nha.symm nwa.symm]; exact hn2.ha, ?_, by rw [← hH4, upd_ne nhu]; exact h3h, by rw [← hH4, upd_ne nwu]; exact h3w, by rw [h4 _ nqu.symm nqh.symm nqw.symm]; exact hn2.hq, hn2.wt.chg c4 (by rintro (z | ⟨k, z⟩) <;> cases z)⟩
      show H4 B.u = some (.lst (intsV (uptos s.writes.length i (brought (drop1 n num) p u cs))))
      unfold uptos
      rw [if_neg hi0, ← hH4, upd_same, intsV_set]
      rfl
end
end Bo

set_option Elab.async false
set_option maxRecDepth 100000
set_option maxHeartbeats 2000000
namespace Bo
open PySem PySem.Spec PyProof.Rows L2
section
variable {P : Program} {w : World} {K : PySem.W.Frag} {mg : Str → Option Value} {base : Heap} {C : Cl}
/-! ### hand_over -/
def spHand (C : Cl) : Sp := fun vs H Q _ => ∃ (own : Own) (A : WA) (wd : Addr) (s : Ag08.State) (t : Nat) (x : Ag08.Letter) (a dx l : Addr), vs = [.ref wd, .ref a] ∧ WorldR C own H wd s A ∧ Good t s ∧ LetterR C.L own H a x dx l ∧ LetterOk s.nodes.length s.writes.length x ∧
  ∀ own' H' A' s' r, Ag08.hand s x = (s', [r]) → WorldR C own' H' wd s' A' → Chg someRole own H own' H' → Q (.int r) H'
theorem ok_hand_over (T : Txt K mg C) : Ok P w K mg base 5 "hand_over" ["world", "letter"] (spHand C) := by
  obtain ⟨f_so, fd_so, G_sum_of, b_sum_of, m_sum_of, k_sum_of⟩ := ok_sum_of (P := P) (w := w) (base := base) T
  obtain ⟨f_aa, fd_aa, G_answer_ask, b_answer_ask, m_answer_ask, k_answer_ask⟩ := ok_answer_ask (P := P) (w := w) (base := base) T
  obtain ⟨f_ac, fd_ac, G_accept_answer, b_accept_answer, m_accept_answer, k_accept_answer⟩ := ok_accept_answer (P := P) (w := w) (base := base) T
  refine T.f_hand_over.ok sc_hand_over (fun vs H Q E h => ?_) (fun f cdv A outer s H vs Q E hr h => ?_)
  · obtain ⟨own, A, wd, s, t, x, a, dx, l, rfl, _⟩ := h
    rfl
  · obtain ⟨own, A, wd, s, t, x, la, ldx, ll, rfl, hW, g, hx, lok, k⟩ := h
    have hi := lok.to_
    obtain ⟨a, B, ha, hn⟩ := hW.nodeAt hi
    refine ⟨_, (pss_cons (ps_set (i := 2) sc_hand_over.nd rfl (Or.inl rfl) (pe_ix ix_list (pe_fld (pv 0) rfl) (pe_fld (pv 1) rfl) (fun _ _ => rfl)))
        (pss_cons (ps_if (pt_not (pt_val (pe_fld (pv 2) rfl))) (pss_one (ps_ret (pe_cst rfl T.c_NO_USE))) pss_nil)
        (pss_cons (ps_if (pt_cmpR op_ne (pe_call G_sum_of (hr.mono (by decide)) rfl m_sum_of k_sum_of b_sum_of .nil pass0 (pa_cons (pe_fld (pv 1) rfl) pa_nil)) (pe_fld (pv 1) rfl) (nomark _)) (pss_one (ps_ret (pe_cst rfl T.c_FOUND_SPOILED))) pss_nil)
        (pss_cons (ps_if (pt_cmpR op_eq (pe_fld (pv 1) rfl) (pe_cst rfl T.c_ASK_LETTER) (nomark _)) (pss_one (ps_ret (pe_call G_answer_ask (hr.mono (by decide)) rfl m_answer_ask k_answer_ask b_answer_ask .nil pass0 (pa_cons (pv 0) (pa_cons (pv 1) pa_nil))))) pss_nil)
        (pss_one (ps_ret (pe_call G_accept_answer (hr.mono (by decide)) rfl m_accept_answer k_accept_answer b_accept_answer .nil pass0 (pa_cons (pv 2) (pa_cons (pe_fld (pv 1) rfl) pa_nil))))))))), ?_⟩
    refine ⟨_, rfl, wd, C.W, A.dx, _, _, rfl, hW.hw, T.cl_World, T.n_World_nodes, wF_nodes, _, rfl, la, C.L, ldx, _, _, rfl, hx.ha, T.cl_Letter, T.n_Letter_receiver, lF_receiver, A.N, _, _, V.ref a, rfl, rfl, SqL.of hW.hN, atI_nat (j := x.to_) (by rw [List.getElem?_map, ha]; rfl), ?_⟩
    -- if not node.runs
    refine ⟨_, rfl, a, C.N, B.dx, _, _, rfl, hn.ha, T.cl_Node, T.n_Node_runs, nF_runs, _, rfl, ?_⟩
    cases up : (Ag08.node s x.to_).up
    · exact if_true_of rfl (k own H A s 0 (hand_down up) hW Chg.refl)
    refine if_false_of rfl ?_
    -- if sum_of(letter.numbers) != letter.checksum
    refine ⟨_, rfl, la, C.L, ldx, _, _, rfl, hx.ha, T.cl_Letter, T.n_Letter_numbers, lF_numbers, ll, x.nums, rfl, SqL.of hx.hl, Nat.le_trans lok.len (by decide), fun H1 s1 => ?_⟩
    have hW1 : WorldR C own H1 wd s A := hW.same s1
    have hx1 : LetterR C.L own H1 la x ldx ll := hx.chg (P := tNone) (Chg.same s1) (fun z => z) (fun z => z)
    refine ⟨_, rfl, la, C.L, ldx, _, _, rfl, hx1.ha, T.cl_Letter, T.n_Letter_checksum, lF_checksum, rfl, _, rfl, ?_⟩
    by_cases hb : Ag08.sumOf x.nums = x.sum
    · refine if_false_of (by rw [decide_eq_true (by rw [hb])]; rfl) ?_
      have sy := lok.says hb
      -- if letter.kind == ASK_LETTER
      refine ⟨_, rfl, la, C.L, ldx, _, _, rfl, hx1.ha, T.cl_Letter, T.n_Letter_kind, lF_kind, rfl, _, rfl, ?_⟩
      rcases lok.kind with kd | kd
      · refine if_true_of (decide_eq_true (by rw [kd]; rfl)) ?_
        generalize hl : x.nums = nl at sy
        rw [kd] at sy
        cases sy with
        | ask hp hnm hs =>
          rename_i num p since
          refine ⟨_, rfl, _, rfl, own, A, wd, s, t, x, la, ldx, ll, num, p, since, rfl, hW1, g, hx1, hi, hl, hp, fun own' H' A' w' c' => ?_⟩
          exact k own' H' A' _ 1 (hand_ask up hb kd hl) w' ((Chg.same s1).trans c')
      · refine if_false_of (decide_eq_false (by rw [kd]; intro z; cases z)) ?_
        generalize hl : x.nums = nl at sy
        rw [kd] at sy
        cases sy with
        | ans cs hp hnm hs hu h3 hc =>
          rename_i num p since u
          have hll1 : H1 ll = some (.lst (intsV (ansNums num p since u cs))) := by
            have := hx1.hl
            rw [hl] at this
            exact this
          refine ⟨_, rfl, _, rfl, la, C.L, ldx, _, _, rfl, hx1.ha, T.cl_Letter, T.n_Letter_numbers, lF_numbers, own, A, wd, s, t, x.to_, a, ll, la, num, p, since, u, cs, rfl, hW1, g, ha, hi, hx1.ol, hll1, hp, h3, fun c hcc => (hc c hcc).1, fun own' H' w' c' => ?_⟩
          exact k own' H' A _ _ (hand_ans g hi up hb kd hl) w' ((Chg.same s1).trans c')
    · refine if_true_of (by rw [decide_eq_false (fun z => hb (by have := V.int.inj z; omega))]; rfl) ?_
      exact k own H1 A s 3 (hand_bad up hb) hW1 (Chg.same s1)
/-! ### take, keep, lose -/
def mkTake : List Nat → Ag08.Call
  | [k] => .take k
  | _ => .letters
def mkKeep : List Nat → Ag08.Call
  | [k] => .keep k
  | _ => .letters
def mkLose : List Nat → Ag08.Call
  | [k] => .lose k
  | _ => .letters
theorem seqIx_nat {n j : Nat} (h : j < n) : seqIndex? (j : Int) n = some j := by
  unfold seqIndex?
  simp
  omega
theorem ok_take (T : Txt K mg C) : Ok P w K mg base 6 "take" ["world", "position"] (spOn C 1 mkTake) := by
  obtain ⟨f_ho, fd_ho, G_hand_over, b_hand_over, m_hand_over, k_hand_over⟩ := ok_hand_over (P := P) (w := w) (base := base) T
  refine T.f_take.ok sc_take (fun vs H Q E h => spOn_len h) (fun f cdv A outer s H vs Q E hr h => ?_)
  · obtain ⟨own, A, wd, s, t, as, rfl, hl, hW, g, ht, k⟩ := h
    match as, hl with
    | [j], _ =>
    refine ⟨_, (pss_cons (ps_if (pt_cmpR op_ge (pv 1) (pe_callB call_len_seq (by rfl) T.len PySem.boot_len (pa_cons (pe_fld (pv 0) rfl) pa_nil)) (nomark _)) (pss_one (ps_ret (pe_cst rfl T.c_NO_SUCH))) pss_nil)
        (pss_cons (ps_set (i := 2) sc_take.nd rfl (Or.inl rfl) (pe_bm PySem.F.plainAttrs_list PySem.F.slot_list_pop PySem.F.type_list_pop mt_popAt (pe_fld (pv 0) rfl) (pa_cons (pv 1) pa_nil)))
        (pss_one (ps_ret (pe_call G_hand_over (hr.mono (by decide)) rfl m_hand_over k_hand_over b_hand_over .nil pass0 (pa_cons (pv 0) (pa_cons (pv 2) pa_nil))))))), ?_⟩
    have eR : (A.ls.map V.ref).length = s.letters.length := by rw [List.length_map, hW.ll]
    refine ⟨_, rfl, _, rfl, wd, C.W, A.dx, _, _, rfl, hW.hw, T.cl_World, T.n_World_row, wF_row, A.R, _, rfl, .inl (SqL.of hW.hR), _, _, rfl, rfl, _, rfl, iteB (fun z => ?_) fun z => ?_⟩
    · rw [eR] at z
      exact k own H A s (-1) (step_take_none (List.getElem?_eq_none (by omega))) hW Chg.refl
    rw [eR] at z
    have hj : j < s.letters.length := by omega
    have hxs : s.letters[j]? = some s.letters[j] := List.getElem?_eq_getElem hj
    obtain ⟨la, ldx, ll, hla, hx⟩ := hW.letterAt hxs
    have lok := g.letter _ (List.getElem_mem hj)
    refine ⟨_, rfl, wd, C.W, A.dx, _, _, rfl, hW.hw, T.cl_World, T.n_World_row, wF_row, .inl ⟨rfl, _, SqL.of hW.hR⟩, _, rfl, A.R, _, _, j, .ref la, rfl, rfl, hW.hR, by omega, by have := g.room; omega, seqIx_nat (by rw [eR]; exact hj), by rw [List.getElem?_map, hla]; rfl, ?_⟩
    rw [← map_erase]
    have hW1 := hW.drop j
    have c1 : Chg tRow own H own (upd H A.R (.lst ((A.ls.eraseIdx j).map V.ref))) := Chg.upd hW.oR
    have hx1 := hx.chg c1 (fun z => by cases z) (fun z => by cases z)
    refine ⟨_, rfl, _, rfl, own, _, wd, _, t, s.letters[j], la, ldx, ll, rfl, hW1, g.erase j, hx1, lok, fun own' H' A' s' r e w' c' => ?_⟩
    exact k own' H' A' s' r ((step_take hxs).trans (by rw [e])) w' ((c1.mono tRow_some).trans c')
theorem ok_keep (T : Txt K mg C) : Ok P w K mg base 6 "keep" ["world", "position"] (spOn C 1 mkKeep) := by
  obtain ⟨f_ho, fd_ho, G_hand_over, b_hand_over, m_hand_over, k_hand_over⟩ := ok_hand_over (P := P) (w := w) (base := base) T
  refine T.f_keep.ok sc_keep (fun vs H Q E h => spOn_len h) (fun f cdv A outer s H vs Q E hr h => ?_)
  · obtain ⟨own, A, wd, s, t, as, rfl, hl, hW, g, ht, k⟩ := h
    match as, hl with
    | [j], _ =>
    refine ⟨_, (pss_cons (ps_if (pt_cmpR op_ge (pv 1) (pe_callB call_len_seq (by rfl) T.len PySem.boot_len (pa_cons (pe_fld (pv 0) rfl) pa_nil)) (nomark _)) (pss_one (ps_ret (pe_cst rfl T.c_NO_SUCH))) pss_nil)
        (pss_one (ps_ret (pe_call G_hand_over (hr.mono (by decide)) rfl m_hand_over k_hand_over b_hand_over .nil pass0 (pa_cons (pv 0) (pa_cons (pe_ix ix_list (pe_fld (pv 0) rfl) (pv 1) (fun _ _ => rfl)) pa_nil)))))), ?_⟩
    have eR : (A.ls.map V.ref).length = s.letters.length := by rw [List.length_map, hW.ll]
    refine ⟨_, rfl, _, rfl, wd, C.W, A.dx, _, _, rfl, hW.hw, T.cl_World, T.n_World_row, wF_row, A.R, _, rfl, .inl (SqL.of hW.hR), _, _, rfl, rfl, _, rfl, iteB (fun z => ?_) fun z => ?_⟩
    · rw [eR] at z
      exact k own H A s (-1) (step_keep_none (List.getElem?_eq_none (by omega))) hW Chg.refl
    rw [eR] at z
    have hj : j < s.letters.length := by omega
    have hxs : s.letters[j]? = some s.letters[j] := List.getElem?_eq_getElem hj
    obtain ⟨la, ldx, ll, hla, hx⟩ := hW.letterAt hxs
    have lok := g.letter _ (List.getElem_mem hj)
    refine ⟨_, rfl, _, rfl, wd, C.W, A.dx, _, _, rfl, hW.hw, T.cl_World, T.n_World_row, wF_row, _, rfl, A.R, _, _, .ref la, rfl, rfl, SqL.of hW.hR, atI_nat (j := j) (by rw [List.getElem?_map, hla]; rfl), own, A, wd, s, t, s.letters[j], la, ldx, ll, rfl, hW, g, hx, lok, fun own' H' A' s' r e w' c' => ?_⟩
    exact k own' H' A' s' r ((step_keep hxs).trans (by rw [e])) w' c'
theorem ok_lose (T : Txt K mg C) : Ok P w K mg base 1 "lose" ["world", "position"] (spOn C 1 mkLose) := by
  refine T.f_lose.ok sc_lose (fun vs H Q E h => spOn_len h) (fun f cdv A outer s H vs Q E hr h => ?_)
  · obtain ⟨own, A, wd, s, t, as, rfl, hl, hW, g, ht, k⟩ := h
    match as, hl with
    | [j], _ =>
    refine ⟨_, (pss_cons (ps_if (pt_cmpR op_ge (pv 1) (pe_callB call_len_seq (by rfl) T.len PySem.boot_len (pa_cons (pe_fld (pv 0) rfl) pa_nil)) (nomark _)) (pss_one (ps_ret (pe_cst rfl T.c_NO_SUCH))) pss_nil)
        (pss_cons (ps_expr (pe_bm PySem.F.plainAttrs_list PySem.F.slot_list_pop PySem.F.type_list_pop mt_popAt (pe_fld (pv 0) rfl) (pa_cons (pv 1) pa_nil)))
        (pss_one (ps_ret pe_int)))), ?_⟩
    have eR : (A.ls.map V.ref).length = s.letters.length := by rw [List.length_map, hW.ll]
    refine ⟨_, rfl, _, rfl, wd, C.W, A.dx, _, _, rfl, hW.hw, T.cl_World, T.n_World_row, wF_row, A.R, _, rfl, .inl (SqL.of hW.hR), _, _, rfl, rfl, _, rfl, iteB (fun z => ?_) fun z => ?_⟩
    · rw [eR] at z
      exact k own H A s (-1) ((step_lose s j).trans (if_pos (by omega))) hW Chg.refl
    rw [eR] at z
    have hj : j < s.letters.length := by omega
    have hxs : s.letters[j]? = some s.letters[j] := List.getElem?_eq_getElem hj
    obtain ⟨la, ldx, ll, hla, hx⟩ := hW.letterAt hxs
    refine ⟨_, rfl, wd, C.W, A.dx, _, _, rfl, hW.hw, T.cl_World, T.n_World_row, wF_row, .inl ⟨rfl, _, SqL.of hW.hR⟩, _, rfl, A.R, _, _, j, .ref la, rfl, rfl, hW.hR, by omega, by have := g.room; omega, seqIx_nat (by rw [eR]; exact hj), by rw [List.getElem?_map, hla]; rfl, ?_⟩
    rw [← map_erase]
    have c1 : Chg tRow own H own (upd H A.R (.lst ((A.ls.eraseIdx j).map V.ref))) := Chg.upd hW.oR
    exact k own _ _ _ 0 ((step_lose s j).trans (if_neg (by omega))) (hW.drop j) (c1.mono tRow_some)
/-! ### spoil -/
def spStanding (C : Cl) : Sp := fun vs H Q _ => ∃ (own : Own) (x : Ag08.Letter) (a dx l : Addr) (pos v : Nat), vs = [.ref a, .int pos] ∧ LetterR C.L own H a x dx l ∧ (Ag08.shown x)[pos]? = some v ∧ Q (.int v) H
theorem ok_standing_at (T : Txt K mg C) : Ok P w K mg base 1 "standing_at" ["letter", "place"] (spStanding C) := by
  refine T.f_standing_at.ok sc_standing_at (fun vs H Q E h => ?_) (fun f cdv A outer s H vs Q E hr h => ?_)
  · obtain ⟨own, x, a, dx, l, pos, v, rfl, _⟩ := h
    rfl
  · obtain ⟨own, x, a, dx, l, pos, v, rfl, hx, hv, k⟩ := h
    refine ⟨_, (pss_cons (ps_if (pt_cmpR op_eq (pv 1) (pe_callB call_len_seq (by rfl) T.len PySem.boot_len (pa_cons (pe_fld (pv 0) rfl) pa_nil)) (nomark _)) (pss_one (ps_ret (pe_fld (pv 0) rfl))) pss_nil)
        (pss_one (ps_ret (pe_ix ix_list (pe_fld (pv 0) rfl) (pv 1) (fun _ _ => rfl))))), ?_⟩
    refine ⟨_, rfl, _, rfl, a, C.L, dx, _, _, rfl, hx.ha, T.cl_Letter, T.n_Letter_numbers, lF_numbers, l, _, rfl, .inl (SqL.of hx.hl), rfl, _, rfl, ?_⟩
    by_cases c : pos = x.nums.length
    · refine if_true_of (decide_eq_true (by rw [intsV_len, c])) ?_
      have e : x.sum = v := by
        rw [Ag08.shown, c, List.getElem?_append_right (Nat.le_refl _), Nat.sub_self] at hv
        exact Option.some.inj hv
      rw [← e] at k
      exact ⟨_, rfl, a, C.L, dx, _, _, rfl, hx.ha, T.cl_Letter, T.n_Letter_checksum, lF_checksum, k⟩
    · refine if_false_of (decide_eq_false fun z => c (by have := V.int.inj z; rw [intsV_len] at this; omega)) ?_
      have hlt : pos < x.nums.length := by
        have := (List.getElem?_eq_some_iff.mp hv).1
        rw [Ag08.shown, List.length_append, List.length_singleton] at this
        omega
      have e : x.nums[pos]? = some v := by
        rw [Ag08.shown, List.getElem?_append_left hlt] at hv
        exact hv
      exact ⟨_, rfl, a, C.L, dx, _, _, rfl, hx.ha, T.cl_Letter, T.n_Letter_numbers, lF_numbers, _, rfl, l, _, _, _, rfl, rfl, SqL.of hx.hl, atI_nat (j := pos) (intsV_get e), k⟩
def spPut (C : Cl) : Sp := fun vs H Q _ => ∃ (own : Own) (x : Ag08.Letter) (a dx l : Addr) (pos v : Nat), vs = [.ref a, .int pos, .int v] ∧ LetterR C.L own H a x dx l ∧ pos ≤ x.nums.length ∧
  Q .non (if pos = x.nums.length then upd H a (.ins C.L dx (lF x.kind x.to_ x.from_ l v (decide (0 < x.spoiled)))) else upd H l (.lst (intsV (x.nums.set pos v))))
theorem ok_put_at (T : Txt K mg C) : Ok P w K mg base 1 "put_at" ["letter", "place", "number"] (spPut C) := by
  refine T.f_put_at.ok sc_put_at (fun vs H Q E h => ?_) (fun f cdv A outer s H vs Q E hr h => ?_)
  · obtain ⟨own, x, a, dx, l, pos, v, rfl, _⟩ := h
    rfl
  · obtain ⟨own, x, a, dx, l, pos, v, rfl, hx, hv, k⟩ := h
    refine ⟨_, (pss_one (ps_if (pt_cmpR op_eq (pv 1) (pe_callB call_len_seq (by rfl) T.len PySem.boot_len (pa_cons (pe_fld (pv 0) rfl) pa_nil)) (nomark _)) (pss_one (ps_fld (pv 0) (pv 2) rfl)) (pss_one (ps_asg (pv 2) (pg_sub (pe_fld (pv 0) rfl) (pv 1) set_list))))), ?_⟩
    refine ⟨_, rfl, _, rfl, a, C.L, dx, _, _, rfl, hx.ha, T.cl_Letter, T.n_Letter_numbers, lF_numbers, l, _, rfl, .inl (SqL.of hx.hl), rfl, _, rfl, ?_⟩
    by_cases c : pos = x.nums.length
    · refine if_true_of (decide_eq_true (by rw [intsV_len, c])) ?_
      rw [if_pos c, ← lF_put_checksum] at k
      exact ⟨_, rfl, _, rfl, a, C.L, dx, _, rfl, hx.ha, T.cl_Letter, T.n_Letter_checksum, by show 6 < 1000; decide, k⟩
    · refine if_false_of (decide_eq_false fun z => c (by have := V.int.inj z; rw [intsV_len] at this; omega)) ?_
      rw [if_neg c, ← intsV_set] at k
      exact ⟨_, rfl, _, rfl, a, C.L, dx, _, _, rfl, hx.ha, T.cl_Letter, T.n_Letter_numbers, lF_numbers, _, rfl, l, _, _, pos, rfl, rfl, hx.hl, ixN_nat (by rw [intsV_len]; omega), k⟩
def mkSpoil : List Nat → Ag08.Call
  | [k, pos, v] => .spoil k pos v
  | _ => .letters
theorem ok_spoil (T : Txt K mg C) : Ok P w K mg base 2 "spoil" ["world", "position", "place", "number"] (spOn C 3 mkSpoil) := by
  obtain ⟨f_sa, fd_sa, G_standing_at, b_standing_at, m_standing_at, k_standing_at⟩ := ok_standing_at (P := P) (w := w) (base := base) T
  obtain ⟨f_pa, fd_pa, G_put_at, b_put_at, m_put_at, k_put_at⟩ := ok_put_at (P := P) (w := w) (base := base) T
  refine T.f_spoil.ok sc_spoil (fun vs H Q E h => spOn_len h) (fun f cdv A outer s H vs Q E hr h => ?_)
  · obtain ⟨own, A, wd, s, t, as, rfl, hl, hW, g, ht, k⟩ := h
    match as, hl with
    | [j, pos, v], _ =>
    refine ⟨_, (pss_cons (ps_if (pt_cmpR op_ge (pv 1) (pe_callB call_len_seq (by rfl) T.len PySem.boot_len (pa_cons (pe_fld (pv 0) rfl) pa_nil)) (nomark _)) (pss_one (ps_ret (pe_cst rfl T.c_NO_SUCH))) pss_nil)
        (pss_cons (ps_set (i := 4) sc_spoil.nd rfl (Or.inl rfl) (pe_ix ix_list (pe_fld (pv 0) rfl) (pv 1) (fun _ _ => rfl)))
        (pss_cons (ps_if (PW.pt (pw_or (pt_cmpR op_gt (pv 2) (pe_callB call_len_seq (by rfl) T.len PySem.boot_len (pa_cons (pe_fld (pv 4) rfl) pa_nil)) (nomark _)) (pw_or1 (pt_cmpR op_gt (pv 3) (pe_cst rfl T.c_HIGHEST) (nomark _))))) (pss_one (ps_ret (pe_cst rfl T.c_NO_SUCH))) pss_nil)
        (pss_cons (ps_if (pt_cmpR op_eq (pe_call G_standing_at (hr.mono (by decide)) rfl m_standing_at k_standing_at b_standing_at .nil pass0 (pa_cons (pv 4) (pa_cons (pv 2) pa_nil))) (pv 3) (nomark _)) (pss_one (ps_ret (pe_cst rfl T.c_ALREADY))) pss_nil)
        (pss_cons (ps_if (pt_val (pe_fld (pv 4) rfl)) (pss_one (ps_ret (pe_cst rfl T.c_SPOILED_BEFORE))) pss_nil)
        (pss_cons (ps_expr (pe_call G_put_at (hr.mono (by decide)) rfl m_put_at k_put_at b_put_at .nil pass0 (pa_cons (pv 4) (pa_cons (pv 2) (pa_cons (pv 3) pa_nil)))))
        (pss_cons (ps_fld (pv 4) pe_bl rfl)
        (pss_one (ps_ret pe_int))))))))), ?_⟩
    have eR : (A.ls.map V.ref).length = s.letters.length := by rw [List.length_map, hW.ll]
    refine ⟨_, rfl, _, rfl, wd, C.W, A.dx, _, _, rfl, hW.hw, T.cl_World, T.n_World_row, wF_row, A.R, _, rfl, .inl (SqL.of hW.hR), _, _, rfl, rfl, _, rfl, iteB (fun z => ?_) fun z => ?_⟩
    · rw [eR] at z
      exact k own H A s (-1) (step_spoil_none (List.getElem?_eq_none (by omega))) hW Chg.refl
    rw [eR] at z
    have hj : j < s.letters.length := by omega
    have hxs : s.letters[j]? = some s.letters[j] := List.getElem?_eq_getElem hj
    obtain ⟨la, ldx, ll, hla, hx⟩ := hW.letterAt hxs
    generalize s.letters[j] = x at hxs hx
    have st := step_spoil (pos := pos) (v := v) hxs
    -- letter = world.row[position]
    refine ⟨_, rfl, wd, C.W, A.dx, _, _, rfl, hW.hw, T.cl_World, T.n_World_row, wF_row, _, rfl, A.R, _, _, .ref la, rfl, rfl, SqL.of hW.hR, atI_nat (j := j) (by rw [List.getElem?_map, hla]; rfl), ?_⟩
    have bad : (x.nums.length < pos ∨ 9999 < v) → Q (.int (-1)) H := fun z => k own H A s (-1) (st.trans (if_pos z)) hW Chg.refl
    refine ⟨_, rfl, _, rfl, la, C.L, ldx, _, _, rfl, hx.ha, T.cl_Letter, T.n_Letter_numbers, lF_numbers, ll, _, rfl, .inl (SqL.of hx.hl), _, _, rfl, rfl, _, rfl, iteB (fun z => bad (.inl (by rw [intsV_len] at z; omega))) fun z1 => ?_⟩
    rw [intsV_len] at z1
    refine ⟨_, rfl, _, _, rfl, rfl, _, rfl, iteB (fun z => bad (.inr (by omega))) fun z2 => ?_⟩
    have ok1 : ¬ (x.nums.length < pos ∨ 9999 < v) := by omega
    have hpos : pos < (Ag08.shown x).length := by rw [Ag08.shown, List.length_append, List.length_singleton]; omega
    have hv0 : (Ag08.shown x)[pos]? = some (Ag08.shown x)[pos] := List.getElem?_eq_getElem hpos
    -- if standing_at(letter, place) == number
    refine ⟨_, rfl, _, rfl, own, x, la, ldx, ll, pos, _, rfl, hx, hv0, _, rfl, rfl, _, rfl, iteB (fun z => ?_) fun z3 => ?_⟩
    · have e : (Ag08.shown x)[pos]? = some v := by rw [hv0]; have := V.int.inj z; exact congrArg some (by omega)
      exact k own H A s (-2) (st.trans (by rw [if_neg ok1, if_pos e])) hW Chg.refl
    have ne : ¬ (Ag08.shown x)[pos]? = some v := fun e => z3 (by rw [hv0] at e; rw [Option.some.inj e])
    -- if letter.spoiled
    refine ⟨_, rfl, la, C.L, ldx, _, _, rfl, hx.ha, T.cl_Letter, T.n_Letter_spoiled, lF_spoiled, _, rfl, iteB (fun z => ?_) fun z4 => ?_⟩
    · exact k own H A s (-4) (st.trans (by rw [if_neg ok1, if_neg ne, if_pos z])) hW Chg.refl
    -- put_at(letter, place, number)
    refine ⟨_, rfl, _, rfl, _, rfl, own, x, la, ldx, ll, pos, v, rfl, hx, by omega, ?_⟩
    have nal : ll ≠ la := own_ne hx.ol hx.oa (by intro z; cases z)
    generalize hH1 : (if pos = x.nums.length then upd H la _ else upd H ll _) = H1
    have h1 : ∃ sm, H1 la = some (.ins C.L ldx (lF x.kind x.to_ x.from_ ll sm (decide (0 < x.spoiled)))) ∧ H1 ll = some (.lst (intsV (x.nums.set pos v))) ∧ (sm = if pos = x.nums.length then v else x.sum) ∧ ∀ b, b ≠ la → b ≠ ll → H1 b = H b := by
      rw [← hH1]
      by_cases c : pos = x.nums.length
      · rw [if_pos c, if_pos c]
        refine ⟨v, upd_same, ?_, rfl, fun b n1 n2 => upd_ne n1⟩
        rw [upd_ne nal, c, List.set_eq_of_length_le (Nat.le_refl _)]
        exact hx.hl
      · rw [if_neg c, if_neg c]
        exact ⟨x.sum, Eq.trans (upd_ne nal.symm) hx.ha, upd_same, rfl, fun b n1 n2 => upd_ne n2⟩
    obtain ⟨sm, h1a, h1l, esm, h1⟩ := h1
    -- letter.spoiled = True
    refine ⟨_, rfl, la, C.L, ldx, _, rfl, h1a, T.cl_Letter, T.n_Letter_spoiled, by show 6 < 1000; decide, ?_⟩
    rw [lF_put_spoiled]
    have cg : Chg (tLetter la) own H own (upd H1 la (.ins C.L ldx (lF x.kind x.to_ x.from_ ll sm true))) := fun b o e zz => by
      have n1 : b ≠ la := fun q => zz (by rw [q]; exact .inl hx.oa)
      have n2 : b ≠ ll := fun q => zz (by rw [q]; exact .inr hx.ol)
      exact ⟨by rw [upd_ne n1, h1 b n1 n2]; exact e, rfl⟩
    have tr : Trk own (upd H1 la (.ins C.L ldx (lF x.kind x.to_ x.from_ ll sm true))) := by
      refine Trk.upd fun b r e => ?_
      by_cases n1 : b = la
      · rw [n1]; exact ⟨_, h1a⟩
      · by_cases n2 : b = ll
        · rw [n2]; exact ⟨_, h1l⟩
        · rw [h1 b n1 n2]; exact hW.trk b r e
    refine k own _ A _ 0 (st.trans (by rw [if_neg ok1, if_neg ne, if_neg z4])) (hW.setLetter hla cg tr ⟨ldx, ll, hx.oa, hx.ol, ?_, ?_⟩) (cg.mono tLetter_some)
    · rw [upd_same, esm]
      show some (HO.ins C.L ldx (lF x.kind x.to_ x.from_ ll _ true)) = some (HO.ins C.L ldx (lF x.kind x.to_ x.from_ ll _ (decide (0 < x.spoiled + 1))))
      rw [decide_eq_true (Nat.succ_pos _)]
      rfl
    · rw [upd_ne nal]
      exact h1l
end
end Bo

set_option Elab.async false
set_option maxRecDepth 100000
set_option maxHeartbeats 2000000
namespace Bo
open PySem PySem.Spec PyProof.Rows L2
section
variable {P : Program} {w : World} {K : PySem.W.Frag} {mg : Str → Option Value} {base : Heap} {C : Cl}
/-! ### stop, start -/
def mkStop : List Nat → Ag08.Call
  | [i] => .halt_ i
  | _ => .letters
def mkStart : List Nat → Ag08.Call
  | [i] => .start i
  | _ => .letters
theorem ok_stop (T : Txt K mg C) : Ok P w K mg base 1 "stop" ["world", "number"] (spOn C 1 mkStop) := by
  refine T.f_stop.ok sc_stop (fun vs H Q E h => spOn_len h) (fun f cdv A outer s H vs Q E hr h => ?_)
  · obtain ⟨own, A, wd, s, t, as, rfl, hl, hW, g, ht, k⟩ := h
    match as, hl with
    | [i], _ =>
    refine ⟨_, (pss_cons (ps_if (pt_cmpR op_ge (pv 1) (pe_callB call_len_seq (by rfl) T.len PySem.boot_len (pa_cons (pe_fld (pv 0) rfl) pa_nil)) (nomark _)) (pss_one (ps_ret (pe_cst rfl T.c_NO_SUCH))) pss_nil)
        (pss_cons (ps_set (i := 2) sc_stop.nd rfl (Or.inl rfl) (pe_ix ix_list (pe_fld (pv 0) rfl) (pv 1) (fun _ _ => rfl)))
        (pss_cons (ps_if (pt_not (pt_val (pe_fld (pv 2) rfl))) (pss_one (ps_ret (pe_cst rfl T.c_ALREADY))) pss_nil)
        (pss_cons (ps_fld (pv 2) pe_bl rfl)
        (pss_one (ps_ret pe_int)))))), ?_⟩
    have eN : (A.ns.map V.ref).length = s.nodes.length := by rw [List.length_map, hW.nl]
    refine ⟨_, rfl, _, rfl, wd, C.W, A.dx, _, _, rfl, hW.hw, T.cl_World, T.n_World_nodes, wF_nodes, A.N, _, rfl, .inl (SqL.of hW.hN), _, _, rfl, rfl, _, rfl, iteB (fun z => ?_) fun z => ?_⟩
    · rw [eN] at z
      exact k own H A s (-1) ((step_halt s i).trans (if_pos (by omega))) hW Chg.refl
    rw [eN] at z
    have hi : i < s.nodes.length := by omega
    obtain ⟨a, B, ha, hn⟩ := hW.nodeAt hi
    -- node = world.nodes[number]
    refine ⟨_, rfl, wd, C.W, A.dx, _, _, rfl, hW.hw, T.cl_World, T.n_World_nodes, wF_nodes, _, rfl, A.N, _, _, V.ref a, rfl, rfl, SqL.of hW.hN, atI_nat (j := i) (by rw [List.getElem?_map, ha]; rfl), ?_⟩
    -- if not node.runs
    refine ⟨_, rfl, a, C.N, B.dx, _, _, rfl, hn.ha, T.cl_Node, T.n_Node_runs, nF_runs, _, rfl, ?_⟩
    cases up : (Ag08.node s i).up
    · exact if_true_of rfl (k own H A s (-2) ((step_halt s i).trans (by rw [if_neg (by omega), if_pos up])) hW Chg.refl)
    refine if_false_of rfl ?_
    have hna := hn.ha
    -- node.runs = False
    refine ⟨_, rfl, a, C.N, B.dx, _, rfl, hna, T.cl_Node, T.n_Node_runs, by show 6 < 1000; decide, ?_⟩
    rw [nF_put_runs]
    have cg : Chg (tNode i) own H own (upd H a (.ins C.N B.dx (nF false (Ag08.node s i).count B.u B.h B.w B.q))) := Chg.upd (.inl hn.oa)
    refine k own _ A (Ag08.setNode s i { Ag08.node s i with up := false }) 0 ((step_halt s i).trans (by rw [if_neg (by omega), if_neg (by rw [up]; intro z; cases z)])) (hW.setNode ha cg hW.trk.upd ⟨B, hn.oa, hn.ou, hn.oh, hn.ow, hn.oq, upd_same, ?_, ?_, ?_, ?_, hn.wt.chg cg (by rintro (z | ⟨k, z⟩) <;> cases z)⟩) (cg.mono tNode_some)
    · exact Eq.trans (upd_ne (own_ne hn.ou hn.oa (by intro z; cases z))) hn.hu
    · exact Eq.trans (upd_ne (own_ne hn.oh hn.oa (by intro z; cases z))) hn.hh
    · exact Eq.trans (upd_ne (own_ne hn.ow hn.oa (by intro z; cases z))) hn.hw
    · exact Eq.trans (upd_ne (own_ne hn.oq hn.oa (by intro z; cases z))) hn.hq
theorem ok_start (T : Txt K mg C) : Ok P w K mg base 1 "start" ["world", "number"] (spOn C 1 mkStart) := by
  refine T.f_start.ok sc_start (fun vs H Q E h => spOn_len h) (fun f cdv A outer s H vs Q E hr h => ?_)
  · obtain ⟨own, A, wd, s, t, as, rfl, hl, hW, g, ht, k⟩ := h
    match as, hl with
    | [i], _ =>
    refine ⟨_, (pss_cons (ps_if (pt_cmpR op_ge (pv 1) (pe_callB call_len_seq (by rfl) T.len PySem.boot_len (pa_cons (pe_fld (pv 0) rfl) pa_nil)) (nomark _)) (pss_one (ps_ret (pe_cst rfl T.c_NO_SUCH))) pss_nil)
        (pss_cons (ps_set (i := 2) sc_start.nd rfl (Or.inl rfl) (pe_ix ix_list (pe_fld (pv 0) rfl) (pv 1) (fun _ _ => rfl)))
        (pss_cons (ps_if (pt_val (pe_fld (pv 2) rfl)) (pss_one (ps_ret (pe_cst rfl T.c_ALREADY))) pss_nil)
        (pss_cons (ps_fld (pv 2) pe_bl rfl)
        (pss_cons (ps_fld (pv 2) (pe_lst pa_nil) rfl)
        (pss_one (ps_ret pe_int))))))), ?_⟩
    have eN : (A.ns.map V.ref).length = s.nodes.length := by rw [List.length_map, hW.nl]
    refine ⟨_, rfl, _, rfl, wd, C.W, A.dx, _, _, rfl, hW.hw, T.cl_World, T.n_World_nodes, wF_nodes, A.N, _, rfl, .inl (SqL.of hW.hN), _, _, rfl, rfl, _, rfl, iteB (fun z => ?_) fun z => ?_⟩
    · rw [eN] at z
      exact k own H A s (-1) ((step_start s i).trans (if_pos (by omega))) hW Chg.refl
    rw [eN] at z
    have hi : i < s.nodes.length := by omega
    obtain ⟨a, B, ha, hn⟩ := hW.nodeAt hi
    -- node = world.nodes[number]
    refine ⟨_, rfl, wd, C.W, A.dx, _, _, rfl, hW.hw, T.cl_World, T.n_World_nodes, wF_nodes, _, rfl, A.N, _, _, V.ref a, rfl, rfl, SqL.of hW.hN, atI_nat (j := i) (by rw [List.getElem?_map, ha]; rfl), ?_⟩
    -- if node.runs
    refine ⟨_, rfl, a, C.N, B.dx, _, _, rfl, hn.ha, T.cl_Node, T.n_Node_runs, nF_runs, _, rfl, ?_⟩
    cases up : (Ag08.node s i).up
    case true => exact if_true_of rfl (k own H A s (-2) ((step_start s i).trans (by rw [if_neg (by omega), if_pos up])) hW Chg.refl)
    refine if_false_of rfl ?_
    have hna := hn.ha
    -- node.runs = True
    refine ⟨_, rfl, a, C.N, B.dx, _, rfl, hna, T.cl_Node, T.n_Node_runs, by show 6 < 1000; decide, ?_⟩
    rw [nF_put_runs]
    -- node.waits = []
    refine ⟨Nat.zero_le _, fun q fq => ?_⟩
    simp only [upd_none_iff] at fq
    obtain ⟨nqa, fq⟩ := fq
    refine ⟨_, rfl, a, C.N, B.dx, _, rfl, Eq.trans (upd_ne (Ne.symm nqa)) upd_same, T.cl_Node, T.n_Node_waits, by show 6 < 1000; decide, ?_⟩
    rw [nF_put_waits]
    generalize hH : upd (upd (upd H a _) q _) a _ = H3
    have h3 : ∀ b, b ≠ a → b ≠ q → H3 b = H b := fun b n1 n2 => by rw [← hH, upd_ne n1, upd_ne n2, upd_ne n1]
    have h3a : H3 a = some (.ins C.N B.dx (nF true (Ag08.node s i).count B.u B.h B.w q)) := by rw [← hH, upd_same]
    have h3q : H3 q = some (.lst []) := by rw [← hH, upd_ne nqa, upd_same]
    have cg : Chg (tNode i) own H (give own q (.part i 3)) H3 := fun b o e z => by
      have n1 : b ≠ a := fun x => z (by rw [x]; exact .inl hn.oa)
      have n2 : b ≠ q := ne_of_none e fq
      exact ⟨by rw [h3 b n1 n2]; exact e, give_ne n2⟩
    have tr : Trk (give own q (.part i 3)) H3 := by
      refine Trk.give ?_ h3q
      rw [← hH]
      exact hW.trk.upd.upd.upd
    have f : ∀ {b : Addr} {o : HO} {r : Role}, H b = some o → own b = some r → r ≠ .node i → H3 b = some o ∧ give own q (.part i 3) b = some r := fun {b o r} e e1 z => by
      have n1 : b ≠ a := own_ne e1 hn.oa fun x => z (Option.some.inj x)
      have n2 : b ≠ q := ne_of_none e fq
      exact ⟨by rw [h3 b n1 n2]; exact e, by rw [give_ne n2]; exact e1⟩
    obtain ⟨u1, u2⟩ := f hn.hu hn.ou (by intro z; cases z)
    obtain ⟨h1, h2⟩ := f hn.hh hn.oh (by intro z; cases z)
    obtain ⟨w1, w2⟩ := f hn.hw hn.ow (by intro z; cases z)
    refine k (give own q (.part i 3)) H3 A (Ag08.setNode s i { Ag08.node s i with up := true, asks := [] }) 0 ((step_start s i).trans (by rw [if_neg (by omega), if_neg (by rw [up]; intro z; cases z)])) (hW.setNode ha cg tr ⟨{ B with q := q, ts := [] }, by rw [give_ne (Ne.symm nqa)]; exact hn.oa, u2, h2, w2, give_same, h3a, u1, h1, w1, h3q, rfl, fun j t a e => by simp at e⟩) (cg.mono tNode_some)
end
end Bo

set_option Elab.async false
set_option maxRecDepth 100000
set_option maxHeartbeats 2000000
namespace Bo
open PySem PySem.Spec PyProof.Rows L2
/-! ### what is told: the mathematics -/
theorem intsV_up (l : List Nat) : (up l).map V.int = intsV l := by
  unfold up intsV
  rw [List.map_map]
  rfl
theorem ints_V (l : List Nat) : (Ag08.ints l).map V.int = intsV l := by
  unfold Ag08.ints intsV
  rw [List.map_map]
  rfl
def tellL (x : Ag08.Letter) : List Nat := [x.kind, x.to_, x.from_, x.nums.length] ++ Ag08.shown x
def tellLs (l : List Ag08.Letter) : List Nat := l.flatMap tellL
theorem tellLs_app (l : List Ag08.Letter) (x : Ag08.Letter) : tellLs (l ++ [x]) = tellLs l ++ tellL x := by
  unfold tellLs
  rw [List.flatMap_append]
  simp
theorem tellLs_len : ∀ {l : List Ag08.Letter}, (∀ x ∈ l, x.nums.length ≤ 14) → (tellLs l).length ≤ 19 * l.length
  | [], _ => Nat.le_refl _
  | x :: l, h => by
    have ih := tellLs_len (l := l) fun y hy => h y (by simp [hy])
    have hx := h x (by simp)
    have e : tellLs (x :: l) = tellL x ++ tellLs l := rfl
    have e2 : (tellL x).length = 5 + x.nums.length := by simp [tellL, Ag08.shown]; omega
    rw [e, List.length_append, e2, List.length_cons]
    omega
def tellC (l : List Ag08.Cell) : List Nat := l.flatMap fun (c : Ag08.Cell) => [c.value, c.write]
theorem tellC_app (l : List Ag08.Cell) (x : Ag08.Cell) : tellC (l ++ [x]) = tellC l ++ [x.value, x.write] := by
  unfold tellC
  rw [List.flatMap_append]
  simp
theorem tellC_len : ∀ l : List Ag08.Cell, (tellC l).length = 2 * l.length
  | [] => rfl
  | x :: l => by
    have ih := tellC_len l
    have e : tellC (x :: l) = x.value :: x.write :: tellC l := rfl
    rw [e]
    simp only [List.length_cons, ih]
    omega
def tellA (l : List Ag08.Ask) : List Nat := l.flatMap fun (a : Ag08.Ask) => [a.num, a.piece, a.since]
theorem tellA_app (l : List Ag08.Ask) (x : Ag08.Ask) : tellA (l ++ [x]) = tellA l ++ [x.num, x.piece, x.since] := by
  unfold tellA
  rw [List.flatMap_append]
  simp
theorem tellA_len : ∀ l : List Ag08.Ask, (tellA l).length = 3 * l.length
  | [] => rfl
  | x :: l => by
    have ih := tellA_len l
    have e : tellA (x :: l) = x.num :: x.piece :: x.since :: tellA l := rfl
    rw [e]
    simp only [List.length_cons, ih]
    omega
theorem asks_few {t now i : Nat} {n : Ag08.Node} (h : NodeOk t now i n) : n.asks.length ≤ t + 1 := by
  have hsub : ∀ m ∈ n.asks.map Ag08.Ask.num, m ∈ List.range (t + 1) := fun m hm => by
    obtain ⟨b, hb, rfl⟩ := List.mem_map.mp hm
    have := (h.asks b hb).1
    have := h.count
    rw [List.mem_range]
    omega
  have q := nodup_len h.nodup hsub
  rw [List.length_range, List.length_map] at q
  exact q
theorem uptos_eq {t : Nat} {s : Ag08.State} (g : Good t s) {i : Nat} (hi : i < s.nodes.length) : (List.range 4).map (Ag08.uptoOf s i) = uptos s.writes.length i (Ag08.node s i) := by
  have lu : (uptos s.writes.length i (Ag08.node s i)).length = 4 := by
    unfold uptos
    split
    · exact List.length_replicate
    · exact (g.at_ hi).upto
  apply List.ext_getElem?
  intro p
  by_cases hp : p < 4
  · have e := uptos_of g hi hp
    unfold intsV at e
    rw [List.getElem?_map] at e
    rw [List.getElem?_map, List.getElem?_range hp]
    cases q : (uptos s.writes.length i (Ag08.node s i))[p]? with
    | none =>
      rw [q] at e
      cases e
    | some z =>
      rw [q] at e
      have e1 := V.int.inj (Option.some.inj e)
      show some (Ag08.uptoOf s i p) = some z
      exact congrArg some (by omega)
  · rw [List.getElem?_eq_none (by rw [List.length_map, List.length_range]; omega), List.getElem?_eq_none (by omega)]
theorem fold_min : ∀ (l : List Nat) (n m : Nat), (m ∈ l ∨ m = n) → (∀ x ∈ l, m ≤ x) → m ≤ n → l.foldl min n = m
  | [], n, m, h, _, _ => by
    rcases h with h | h
    · cases h
    · exact h.symm
  | x :: l, n, m, h, ha, hn => by
    have hx := ha x (by simp)
    show l.foldl min (min n x) = m
    refine fold_min l (min n x) m ?_ (fun y hy => ha y (by simp [hy])) (by omega)
    rcases h with h | h
    · rcases List.mem_cons.mp h with q | q
      · right; omega
      · exact .inl q
    · right; omega
theorem fold_max : ∀ (l : List Nat) (n m : Nat), (m ∈ l ∨ m = n) → (∀ x ∈ l, x ≤ m) → n ≤ m → l.foldl max n = m
  | [], n, m, h, _, _ => by
    rcases h with h | h
    · cases h
    · exact h.symm
  | x :: l, n, m, h, ha, hn => by
    have hx := ha x (by simp)
    show l.foldl max (max n x) = m
    refine fold_max l (max n x) m ?_ (fun y hy => ha y (by simp [hy])) (by omega)
    rcases h with h | h
    · rcases List.mem_cons.mp h with q | q
      · right; omega
      · exact .inl q
    · right; omega
def setAll (ws : List (Nat × Nat)) (l : List Nat) : List Nat := ws.foldl (fun (l : List Nat) (x : Nat × Nat) => l.set x.1 x.2) l
theorem setAll_app (ws : List (Nat × Nat)) (x : Nat × Nat) (l : List Nat) : setAll (ws ++ [x]) l = (setAll ws l).set x.1 x.2 := by
  unfold setAll
  rw [List.foldl_append]
  rfl
theorem setAll_len : ∀ (ws : List (Nat × Nat)) (l : List Nat), (setAll ws l).length = l.length
  | [], _ => rfl
  | x :: ws, l => by
    show (setAll ws (l.set x.1 x.2)).length = _
    rw [setAll_len ws, List.length_set]
theorem cut_to {xs : List V} {n : Nat} (h : n ≤ xs.length) : cutV xs none (some (n : Int)) = xs.take n := by
  unfold cutV
  rw [HT.sIx_nat, Nat.min_eq_left h]
  show (xs.drop 0).take (n - 0) = _
  rw [List.drop_zero, Nat.sub_zero]
theorem get_map {l : List Addr} {j : Nat} {x : V} (h : (l.map V.ref)[j]? = some x) : ∃ a, l[j]? = some a ∧ x = V.ref a := by
  rw [List.getElem?_map] at h
  cases e : l[j]? with
  | none => rw [e] at h; cases h
  | some a => rw [e] at h; exact ⟨a, rfl, (Option.some.inj h).symm⟩
theorem get_of {α β : Type} {l : List α} {m : List β} {j : Nat} {a : α} (h : l[j]? = some a) (e : l.length = m.length) : ∃ b, m[j]? = some b := by
  have hj := (List.getElem?_eq_some_iff.mp h).1
  exact ⟨m[j]'(by rw [← e]; exact hj), List.getElem?_eq_getElem (by rw [← e]; exact hj)⟩
section
variable {P : Program} {w : World} {K : PySem.W.Frag} {mg : Str → Option Value} {base : Heap} {C : Cl}
/-- a call that changes nothing -/
def spLook (C : Cl) (n : Nat) (mk : List Nat → Ag08.Call) : Sp := fun vs H Q _ => ∃ (own : Own) (A : WA) (wd : Addr) (s : Ag08.State) (t : Nat) (as : List Nat), vs = .ref wd :: intsV as ∧ as.length = n ∧ WorldR C own H wd s A ∧ Good t s ∧ t < 100 ∧
  ∀ H' q, Same H H' → H q = none → H' q = some (.lst ((Ag08.step (some s) (mk as)).2.map V.int)) → Q (.ref q) H'
theorem spLook_len {n : Nat} {mk : List Nat → Ag08.Call} {vs : List V} {H : Hp} {Q : VK} {E : XK} (h : spLook C n mk vs H Q E) : vs.length = n + 1 := by
  obtain ⟨own, A, wd, s, t, as, rfl, hl, _⟩ := h
  simp [intsV, hl]
/-! ### tell_letters -/
def mkLetters : List Nat → Ag08.Call
  | _ => .letters
theorem ok_tell_letters (T : Txt K mg C) : Ok P w K mg base 1 "tell_letters" ["world"] (spLook C 0 mkLetters) := by
  refine T.f_tell_letters.ok sc_tell_letters (fun vs H Q E h => spLook_len h) (fun f cdv A outer s H vs Q E hr h => ?_)
  · obtain ⟨own, A, wd, s, t, as, rfl, hl, hW, g, ht, k⟩ := h
    match as, hl with
    | [], _ =>
    refine ⟨_, (pss_cons (ps_set (i := 1) sc_tell_letters.nd rfl (Or.inl rfl) (pe_lst (pa_cons (pe_callB call_len_seq (by rfl) T.len PySem.boot_len (pa_cons (pe_fld (pv 0) rfl) pa_nil)) pa_nil)))
        (pss_cons (ps_for PassesOwn.never rfl (pi_list (pe_fld (pv 0) rfl)) (pg_name (i := 2) sc_tell_letters.nd rfl (Or.inl rfl)) (pss_cons (ps_expr (pe_bm PySem.F.plainAttrs_list PySem.F.slot_list_extend PySem.F.type_list_extend mt_extend (pv 1) (pa_cons (pe_lst (pa_cons (pe_fld (pv 2) rfl) (pa_cons (pe_fld (pv 2) rfl) (pa_cons (pe_fld (pv 2) rfl) (pa_cons (pe_callB call_len_seq (by rfl) T.len PySem.boot_len (pa_cons (pe_fld (pv 2) rfl) pa_nil)) pa_nil))))) pa_nil)))
        (pss_cons (ps_expr (pe_bm PySem.F.plainAttrs_list PySem.F.slot_list_extend PySem.F.type_list_extend mt_extend (pv 1) (pa_cons (pe_fld (pv 2) rfl) pa_nil)))
        (pss_one (ps_expr (pe_bm PySem.F.plainAttrs_list PySem.F.slot_list_append PySem.F.type_list_append mt_append (pv 1) (pa_cons (pe_fld (pv 2) rfl) pa_nil)))))))
        (pss_one (ps_ret (pv 1))))), ?_⟩
    have eR : (A.ls.map V.ref).length = s.letters.length := by rw [List.length_map, hW.ll]
    refine ⟨_, rfl, wd, C.W, A.dx, _, _, rfl, hW.hw, T.cl_World, T.n_World_row, wF_row, A.R, _, rfl, .inl (SqL.of hW.hR), (by show 1 ≤ sizeLine; decide), fun l fl => ?_⟩
    have s1 : ∀ o : HO, Same H (upd H l o) := fun o => same_new fl
    refine ⟨_, rfl, wd, C.W, A.dx, _, _, rfl, s1 _ _ _ hW.hw, T.cl_World, T.n_World_row, wF_row, A.R, rfl, ⟨_, SqL.of (s1 _ _ _ hW.hR)⟩,
      for_list (xs := A.ls.map V.ref) (fun j σ H' => ∃ v, σ = [some (.ref wd), some (.ref l), v] ∧ Same H H' ∧ H' l = some (.lst (intsV (s.letters.length :: tellLs (s.letters.take j))))) ⟨none, rfl, s1 _, by rw [upd_same, eR]; rfl⟩ (fun j σ H' _ ⟨_, _, s2, _⟩ => s2.seq (SqL.of hW.hR)) ?_ ?_⟩
    · rintro j x σ H1 hx ⟨v, rfl, s2, hl⟩
      obtain ⟨la, hla, rfl⟩ := get_map hx
      obtain ⟨y, hy⟩ := get_of hla hW.ll
      obtain ⟨dx, ll, hL⟩ := hW.letter j la y hla hy
      have lok := g.letter y (List.mem_of_getElem? hy)
      have ha1 := s2 _ _ hL.ha
      have hl1 := s2 _ _ hL.hl
      have et := take_more hy
      have hj : j < s.letters.length := (List.getElem?_eq_some_iff.mp hy).1
      have hroom := g.room
      have hlen : (tellLs (s.letters.take j)).length ≤ 1900 := by
        have z := tellLs_len (l := s.letters.take j) fun x hx => (g.letter x (List.mem_of_mem_take hx)).len
        rw [List.length_take] at z
        omega
      have h14 := lok.len
      have hsz := sizeLine_eq
      -- told.extend([..])
      refine ⟨_, rfl, .inl ⟨rfl, _, SqL.of hl⟩, _, rfl, la, C.L, dx, _, _, rfl, ha1, T.cl_Letter, T.n_Letter_kind, lF_kind, _, rfl, la, C.L, dx, _, _, rfl, ha1, T.cl_Letter, T.n_Letter_receiver, lF_receiver, _, rfl, la, C.L, dx, _, _, rfl, ha1, T.cl_Letter, T.n_Letter_sender, lF_sender,
        _, rfl, la, C.L, dx, _, _, rfl, ha1, T.cl_Letter, T.n_Letter_numbers, lF_numbers, ll, _, rfl, .inl (SqL.of hl1), (by show 4 ≤ sizeLine; decide), fun q fq => ?_⟩
      have nlq : l ≠ q := ne_of_none hl fq
      refine ⟨l, q, _, _, rfl, rfl, (by rw [upd_ne nlq]; exact hl), upd_same, (by rw [intsV_len, List.length_cons]; show _ + 4 ≤ sizeLine; omega), ?_⟩
      have nal : la ≠ l := ne_of_none hL.ha fl
      have naq : la ≠ q := ne_of_none ha1 fq
      have nll : ll ≠ l := ne_of_none hL.hl fl
      have nlq' : ll ≠ q := ne_of_none hl1 fq
      -- told.extend(letter.numbers)
      refine ⟨_, rfl, .inl ⟨rfl, _, SqL.of upd_same⟩, _, rfl, la, C.L, dx, _, _, rfl, Eq.trans (upd_ne nal) (Eq.trans (upd_ne naq) ha1), T.cl_Letter, T.n_Letter_numbers, lF_numbers, l, ll, _, _, rfl, rfl, upd_same, Eq.trans (upd_ne nll) (Eq.trans (upd_ne nlq') hl1),
        (by rw [List.length_append, intsV_len, intsV_len, List.length_cons]; show _ + 4 + _ ≤ sizeLine; omega), ?_⟩
      -- told.append(letter.checksum)
      refine ⟨_, rfl, .inl ⟨rfl, _, SqL.of upd_same⟩, _, rfl, la, C.L, dx, _, _, rfl, Eq.trans (upd_ne nal) (Eq.trans (upd_ne nal) (Eq.trans (upd_ne naq) ha1)), T.cl_Letter, T.n_Letter_checksum, lF_checksum, l, _, _, rfl, rfl, upd_same,
        (by rw [List.length_append, List.length_append, intsV_len, intsV_len, List.length_cons]; show _ + 4 + _ < sizeLine; omega), ?_⟩
      refine ⟨_, rfl, fun b o e => ?_, ?_⟩
      · have nb : b ≠ l := ne_of_none e fl
        have nq : b ≠ q := ne_of_none (s2 b o e) fq
        rw [upd_ne nb, upd_ne nb, upd_ne nb, upd_ne nq]
        exact s2 b o e
      · rw [upd_same, et, tellLs_app]
        have e1 : intsV (s.letters.length :: (tellLs (s.letters.take j) ++ tellL y)) = intsV (s.letters.length :: tellLs (s.letters.take j)) ++ (intsV [y.kind, y.to_, y.from_, y.nums.length] ++ (intsV y.nums ++ intsV [y.sum])) := by
          rw [intsV_app, intsV_app, intsV_app]
          rfl
        rw [e1, ← List.append_assoc, ← List.append_assoc]
        rw [intsV_len]
        rfl
    · rintro σ H1 ⟨v, rfl, s2, hl⟩
      refine ⟨_, rfl, k H1 l s2 fl ?_⟩
      rw [hl, eR, List.take_length]
      show _ = some (HO.lst ((Ag08.ints (s.letters.length :: tellLs s.letters)).map V.int))
      rw [ints_V]
/-! ### tell_node -/
def mkNode : List Nat → Ag08.Call
  | [i] => .node i
  | _ => .letters
theorem bit_V (b : Bool) : V.int (if b = true then 1 else 0) = V.int ((Ag08.bit b : Nat) : Int) := by cases b <;> rfl
def nodeHd (now i : Nat) (n : Ag08.Node) : List Nat := [Ag08.bit n.up, n.count] ++ uptos now i n
theorem ok_tell_node (T : Txt K mg C) : Ok P w K mg base 1 "tell_node" ["world", "number"] (spLook C 1 mkNode) := by
  refine T.f_tell_node.ok sc_tell_node (fun vs H Q E h => spLook_len h) (fun f cdv A outer s H vs Q E hr h => ?_)
  · obtain ⟨own, A, wd, s, t, as, rfl, hl, hW, g, ht, k⟩ := h
    match as, hl with
    | [i], _ =>
    refine ⟨_, (pss_cons (ps_if (pt_cmpR op_ge (pv 1) (pe_callB call_len_seq (by rfl) T.len PySem.boot_len (pa_cons (pe_fld (pv 0) rfl) pa_nil)) (nomark _)) (pss_one (ps_ret (pe_lst (pa_cons (pe_cst rfl T.c_NO_SUCH) pa_nil)))) pss_nil)
        (pss_cons (ps_set (i := 2) sc_tell_node.nd rfl (Or.inl rfl) (pe_ix ix_list (pe_fld (pv 0) rfl) (pv 1) (fun _ _ => rfl)))
        (pss_cons (ps_set (i := 3) sc_tell_node.nd rfl (Or.inl rfl) (pe_lst (pa_cons (pe_bit (pt_val (pe_fld (pv 2) rfl)) pe_int pe_int) (pa_cons (pe_fld (pv 2) rfl) pa_nil))))
        (pss_cons (ps_expr (pe_bm PySem.F.plainAttrs_list PySem.F.slot_list_extend PySem.F.type_list_extend mt_extend (pv 3) (pa_cons (pe_fld (pv 2) rfl) pa_nil)))
        (pss_cons (ps_for PassesOwn.never rfl (pi_range1 (by rfl) T.range (pa_cons (pe_cst rfl T.c_CELLS) pa_nil)) (pg_name (i := 4) sc_tell_node.nd rfl (Or.inl rfl)) (pss_one (ps_expr (pe_bm PySem.F.plainAttrs_list PySem.F.slot_list_extend PySem.F.type_list_extend mt_extend (pv 3) (pa_cons (pe_lst (pa_cons (pe_ix ix_list (pe_fld (pv 2) rfl) (pv 4) (fun _ _ => rfl)) (pa_cons (pe_ix ix_list (pe_fld (pv 2) rfl) (pv 4) (fun _ _ => rfl)) pa_nil))) pa_nil)))))
        (pss_cons (ps_expr (pe_bm PySem.F.plainAttrs_list PySem.F.slot_list_append PySem.F.type_list_append mt_append (pv 3) (pa_cons (pe_callB call_len_seq (by rfl) T.len PySem.boot_len (pa_cons (pe_fld (pv 2) rfl) pa_nil)) pa_nil)))
        (pss_cons (ps_for PassesOwn.never rfl (pi_list (pe_fld (pv 2) rfl)) (pg_name (i := 5) sc_tell_node.nd rfl (Or.inl rfl)) (pss_one (ps_expr (pe_bm PySem.F.plainAttrs_list PySem.F.slot_list_extend PySem.F.type_list_extend mt_extendT (pv 3) (pa_cons (pv 5) pa_nil)))))
        (pss_one (ps_ret (pv 3)))))))))), ?_⟩
    have eN : (A.ns.map V.ref).length = s.nodes.length := by rw [List.length_map, hW.nl]
    have st : (Ag08.step (some s) (.node i)).2 = if s.nodes.length ≤ i then [-1] else Ag08.ints ([Ag08.bit (Ag08.node s i).up, (Ag08.node s i).count] ++ ((List.range 4).map (Ag08.uptoOf s i) ++ (tellC (Ag08.node s i).cells ++ ((Ag08.node s i).asks.length :: tellA (Ag08.node s i).asks)))) := rfl
    refine ⟨_, rfl, _, rfl, wd, C.W, A.dx, _, _, rfl, hW.hw, T.cl_World, T.n_World_nodes, wF_nodes, A.N, _, rfl, .inl (SqL.of hW.hN), _, _, rfl, rfl, _, rfl, iteB (fun z => ?_) fun z => ?_⟩
    · rw [eN] at z
      refine ⟨(by show 1 ≤ sizeLine; decide), fun q fq => k _ q (same_new fq) fq ?_⟩
      rw [upd_same]
      show _ = some (HO.lst ((Ag08.step (some s) (.node i)).2.map V.int))
      rw [st, if_pos (by omega)]
      rfl
    rw [eN] at z
    have hi : i < s.nodes.length := by omega
    obtain ⟨a, B, ha, hn⟩ := hW.nodeAt hi
    have nk := g.at_ hi
    have eu := uptos_eq g hi
    have hfew := asks_few nk
    generalize hnode : Ag08.node s i = n at hn nk st eu hfew
    generalize hnow : s.writes.length = now at hn nk eu
    have lu : (uptos now i n).length = 4 := by rw [← eu]; rfl
    have hsz := sizeLine_eq
    -- node = world.nodes[number]
    refine ⟨_, rfl, wd, C.W, A.dx, _, _, rfl, hW.hw, T.cl_World, T.n_World_nodes, wF_nodes, _, rfl, A.N, _, _, V.ref a, rfl, rfl, SqL.of hW.hN, atI_nat (j := i) (by rw [List.getElem?_map, ha]; rfl), ?_⟩
    -- told = [1 if node.runs else 0, node.asked]
    refine ⟨_, rfl, a, C.N, B.dx, _, _, rfl, hn.ha, T.cl_Node, T.n_Node_runs, nF_runs, _, rfl, _, rfl, a, C.N, B.dx, _, _, rfl, hn.ha, T.cl_Node, T.n_Node_asked, nF_asked, (by show 2 ≤ sizeLine; decide), fun l fl => ?_⟩
    have s1 : ∀ o : HO, Same H (upd H l o) := fun o => same_new fl
    -- told.extend(node.upto)
    refine ⟨_, rfl, .inl ⟨rfl, _, SqL.of upd_same⟩, _, rfl, a, C.N, B.dx, _, _, rfl, s1 _ _ _ hn.ha, T.cl_Node, T.n_Node_upto, nF_upto, l, B.u, _, _, rfl, rfl, upd_same, s1 _ _ _ hn.hu, (by rw [intsV_len, lu]; show 2 + 4 ≤ sizeLine; omega), ?_⟩
    rw [upd_upd, bit_V]
    have e0 : [V.int ((Ag08.bit n.up : Nat) : Int), V.int (n.count : Nat)] ++ intsV (uptos now i n) = intsV (nodeHd now i n) := by
      unfold nodeHd
      rw [← intsV_app]
      rfl
    have lh : (nodeHd now i n).length = 6 := by unfold nodeHd; rw [List.length_append, lu]; rfl
    -- for cell in range(CELLS)
    refine ⟨12, rfl, by decide, by decide, for_range (lo := 0) (n := (12 : Int).toNat) (fun j σ H' => ∃ v, σ = [some (.ref wd), some (.int (i : Nat)), some (.ref a), some (.ref l), v, none] ∧ Same H H' ∧ H' l = some (.lst (intsV (nodeHd now i n ++ tellC (n.cells.take j))))) ⟨none, rfl, s1 _, by rw [upd_same, List.take_zero]; exact congrArg (fun z => some (HO.lst z)) (e0.trans (by rw [show tellC [] = [] from rfl, List.append_nil]))⟩ ?_ ?_⟩
    · rintro j σ H1 hj ⟨v, rfl, s2, hl⟩
      have hj12 : j < 12 := hj
      have hc : j < n.cells.length := by rw [nk.cells]; exact hj12
      have hcs : n.cells[j]? = some (Ag08.cell n j) := by
        unfold Ag08.cell
        rw [List.getD_eq_getElem?_getD, List.getElem?_eq_getElem hc]
        rfl
      have ec : (0 : Int) + (j : Int) = ((j : Nat) : Int) := by omega
      have ha1 := s2 _ _ hn.ha
      have hh1 := s2 _ _ hn.hh
      have hw1 := s2 _ _ hn.hw
      have et := take_more hcs
      rw [ec]
      refine ⟨_, rfl, .inl ⟨rfl, _, SqL.of hl⟩, _, rfl, a, C.N, B.dx, _, _, rfl, ha1, T.cl_Node, T.n_Node_held, nF_held, _, rfl, B.h, _, _, _, rfl, rfl, SqL.of hh1, atI_nat (cellV hc),
        _, rfl, a, C.N, B.dx, _, _, rfl, ha1, T.cl_Node, T.n_Node_written, nF_written, _, rfl, B.w, _, _, _, rfl, rfl, SqL.of hw1, atI_nat (cellW hc), (by show 2 ≤ sizeLine; decide), fun q fq => ?_⟩
      have nlq : l ≠ q := ne_of_none hl fq
      refine ⟨l, q, _, _, rfl, rfl, (by rw [upd_ne nlq]; exact hl), upd_same, ?_, ?_⟩
      · rw [intsV_len, List.length_append, lh, tellC_len, List.length_take]
        show _ + 2 ≤ sizeLine
        omega
      · refine ⟨_, rfl, fun b o e => ?_, ?_⟩
        · have nb : b ≠ l := ne_of_none e fl
          have nq : b ≠ q := ne_of_none (s2 b o e) fq
          rw [upd_ne nb, upd_ne nq]
          exact s2 b o e
        · rw [upd_same, et, tellC_app, ← List.append_assoc]
          exact congrArg (fun z => some (HO.lst z)) (intsV_app _ [(Ag08.cell n j).value, (Ag08.cell n j).write])
    · rintro σ H1 ⟨v, rfl, s2, hl⟩
      have e12 : n.cells.take (12 : Int).toNat = n.cells := List.take_of_length_le (by rw [nk.cells]; decide)
      rw [e12] at hl
      have ha1 := s2 _ _ hn.ha
      have hq1 := s2 _ _ hn.hq
      have ew : (B.ts.map V.ref).length = n.asks.length := by rw [List.length_map, hn.wt.1]
      -- told.append(len(node.waits))
      refine ⟨_, rfl, .inl ⟨rfl, _, SqL.of hl⟩, _, rfl, a, C.N, B.dx, _, _, rfl, ha1, T.cl_Node, T.n_Node_waits, nF_waits, B.q, _, rfl, .inl (SqL.of hq1), l, _, _, rfl, rfl, hl, (by rw [intsV_len, List.length_append, lh, tellC_len, nk.cells]; omega), ?_⟩
      rw [ew]
      have s3 : ∀ o : HO, Same H (upd H1 l o) := fun o b u e => by
        rw [upd_ne (ne_of_none e fl)]
        exact s2 b u e
      -- for wait in node.waits
      refine ⟨_, rfl, a, C.N, B.dx, _, _, rfl, s3 _ _ _ hn.ha, T.cl_Node, T.n_Node_waits, nF_waits, B.q, rfl, ⟨_, SqL.of (s3 _ _ _ hn.hq)⟩,
        for_list (xs := B.ts.map V.ref) (fun j σ H' => ∃ v4 v5, σ = [some (.ref wd), some (.int (i : Nat)), some (.ref a), some (.ref l), v4, v5] ∧ Same H H' ∧ H' l = some (.lst (intsV (nodeHd now i n ++ tellC n.cells ++ n.asks.length :: tellA (n.asks.take j))))) ⟨_, none, rfl, s3 _, by rw [upd_same, List.take_zero]; exact congrArg (fun z => some (HO.lst z)) (intsV_app _ [n.asks.length])⟩ (fun j σ H' _ ⟨_, _, _, s4, _⟩ => s4.seq (SqL.of hn.hq)) ?_ ?_⟩
      · rintro j x σ H2 hx ⟨v4, v5, rfl, s4, hl4⟩
        obtain ⟨tq, htq, rfl⟩ := get_map hx
        obtain ⟨y, hy⟩ := get_of htq hn.wt.1
        have hj : j < n.asks.length := (List.getElem?_eq_some_iff.mp hy).1
        obtain ⟨o1, o2⟩ := hn.wt.2 j tq y htq hy
        have et := take_more hy
        refine ⟨_, rfl, .inl ⟨rfl, _, SqL.of hl4⟩, _, rfl, l, tq, _, _, rfl, rfl, hl4, SqT.of (s4 _ _ o2), ?_, ?_⟩
        · rw [intsV_len, List.length_append, List.length_append, lh, tellC_len, nk.cells, List.length_cons, tellA_len, List.length_take]
          show _ + 3 ≤ sizeLine
          omega
        · refine ⟨_, _, rfl, fun b o e => ?_, ?_⟩
          · rw [upd_ne (ne_of_none e fl)]
            exact s4 b o e
          · rw [upd_same, et, tellA_app, ← List.cons_append, ← List.append_assoc]
            exact congrArg (fun z => some (HO.lst z)) (intsV_app _ [y.num, y.piece, y.since])
      · rintro σ H2 ⟨v4, v5, rfl, s4, hl4⟩
        refine ⟨_, rfl, k H2 l s4 fl ?_⟩
        rw [hl4, ew, List.take_length]
        show _ = some (HO.lst ((Ag08.step (some s) (.node i)).2.map V.int))
        rw [st, if_neg (by omega), ints_V, eu, List.append_assoc]
        unfold nodeHd
        rw [List.append_assoc]
/-! ### tell_whole -/
def mkWhole : List Nat → Ag08.Call
  | [i] => .whole i
  | _ => .letters
theorem mem_up {l : List Nat} {m : Int} (h : m ∈ up l) : ∃ u : Nat, u ∈ l ∧ m = (u : Int) := by
  unfold up at h
  obtain ⟨u, hu, e⟩ := List.mem_map.mp h
  exact ⟨u, hu, e.symm⟩
theorem up_mem {l : List Nat} {u : Nat} (h : u ∈ l) : (u : Int) ∈ up l := List.mem_map.mpr ⟨u, h, rfl⟩
theorem up_len (l : List Nat) : (up l).length = l.length := List.length_map _
theorem ok_tell_whole (T : Txt K mg C) : Ok P w K mg base 1 "tell_whole" ["world", "number"] (spLook C 1 mkWhole) := by
  refine T.f_tell_whole.ok sc_tell_whole (fun vs H Q E h => spLook_len h) (fun f cdv A outer s H vs Q E hr h => ?_)
  · obtain ⟨own, A, wd, s, t, as, rfl, hl, hW, g, ht, k⟩ := h
    match as, hl with
    | [i], _ =>
    refine ⟨_, (pss_cons (ps_if (pt_cmpR op_ge (pv 1) (pe_callB call_len_seq (by rfl) T.len PySem.boot_len (pa_cons (pe_fld (pv 0) rfl) pa_nil)) (nomark _)) (pss_one (ps_ret (pe_lst (pa_cons (pe_cst rfl T.c_NO_SUCH) pa_nil)))) pss_nil)
        (pss_cons (ps_set (i := 2) sc_tell_whole.nd rfl (Or.inl rfl) (pe_ix ix_list (pe_fld (pv 0) rfl) (pv 1) (fun _ _ => rfl)))
        (pss_cons (ps_set (i := 3) sc_tell_whole.nd rfl (Or.inl rfl) (pe_callB (cr_min rfl) (by rfl) T.min (by decide +kernel) (pa_cons (pe_fld (pv 2) rfl) pa_nil)))
        (pss_cons (ps_if (pt_cmpR op_gt (pe_callB (cr_max rfl) (by rfl) T.max (by decide +kernel) (pa_cons (pe_fld (pv 2) rfl) pa_nil)) (pv 3) (nomark _)) (pss_one (ps_ret (pe_lst (pa_cons (pe_cst rfl T.c_MIXTURE) pa_nil)))) pss_nil)
        (pss_one (ps_ret (pe_lst (pa_cons (pv 3) pa_nil)))))))), ?_⟩
    have eN : (A.ns.map V.ref).length = s.nodes.length := by rw [List.length_map, hW.nl]
    have st : (Ag08.step (some s) (.whole i)).2 = if s.nodes.length ≤ i then [-1] else match Ag08.whole s i with
      | none => [-2]
      | some u => [(u : Int)] := rfl
    have one : ∀ (r : Int) (q : Addr), (Ag08.step (some s) (.whole i)).2 = [r] → H q = none → Q (.ref q) (upd H q (.lst [.int r])) := fun r q e fq => by
      refine k _ q (same_new fq) fq ?_
      rw [upd_same]
      show _ = some (HO.lst ((Ag08.step (some s) (.whole i)).2.map V.int))
      rw [e]
      rfl
    refine ⟨_, rfl, _, rfl, wd, C.W, A.dx, _, _, rfl, hW.hw, T.cl_World, T.n_World_nodes, wF_nodes, A.N, _, rfl, .inl (SqL.of hW.hN), _, _, rfl, rfl, _, rfl, iteB (fun z => ?_) fun z => ?_⟩
    · rw [eN] at z
      exact ⟨(by show 1 ≤ sizeLine; decide), fun q fq => one (-1) q (by rw [st, if_pos (by omega)]) fq⟩
    rw [eN] at z
    have hi : i < s.nodes.length := by omega
    obtain ⟨a, B, ha, hn⟩ := hW.nodeAt hi
    have nk := g.at_ hi
    have eu := uptos_eq g hi
    have hle : ∀ u ∈ uptos s.writes.length i (Ag08.node s i), u ≤ s.writes.length := fun u hu => by
      rw [← eu] at hu
      obtain ⟨p, hp, rfl⟩ := List.mem_map.mp hu
      exact uptoOf_le g hi (List.mem_range.mp hp)
    have lu : (uptos s.writes.length i (Ag08.node s i)).length = 4 := by rw [← eu]; rfl
    have hwh : Ag08.whole s i = if ((Ag08.node s i).cells.map Ag08.Cell.write).foldl max 0 ≤ (uptos s.writes.length i (Ag08.node s i)).foldl min s.writes.length then some ((uptos s.writes.length i (Ag08.node s i)).foldl min s.writes.length) else none := by
      rw [← eu]
      rfl
    -- node = world.nodes[number]
    refine ⟨_, rfl, wd, C.W, A.dx, _, _, rfl, hW.hw, T.cl_World, T.n_World_nodes, wF_nodes, _, rfl, A.N, _, _, V.ref a, rfl, rfl, SqL.of hW.hN, atI_nat (j := i) (by rw [List.getElem?_map, ha]; rfl), ?_⟩
    -- least = min(node.upto)
    refine ⟨_, rfl, a, C.N, B.dx, _, _, rfl, hn.ha, T.cl_Node, T.n_Node_upto, nF_upto, B.u, up (uptos s.writes.length i (Ag08.node s i)), rfl, (by rw [intsV_up]; exact SqL.of hn.hu), (by rw [up_len, lu]; decide), fun m hm hmin => ?_⟩
    obtain ⟨u, hu, rfl⟩ := mem_up hm
    have eu2 : (uptos s.writes.length i (Ag08.node s i)).foldl min s.writes.length = u := fold_min _ _ _ (.inl hu) (fun x hx => by have := hmin _ (up_mem hx); omega) (hle u hu)
    -- max(node.written) > least
    refine ⟨_, rfl, a, C.N, B.dx, _, _, rfl, hn.ha, T.cl_Node, T.n_Node_written, nF_written, B.w, up ((Ag08.node s i).cells.map Ag08.Cell.write), rfl, (by rw [intsV_up]; exact SqL.of hn.hw), (by rw [up_len, List.length_map, nk.cells]; decide), fun M hM hmax => ?_⟩
    obtain ⟨W, hWm, rfl⟩ := mem_up hM
    have ew2 : ((Ag08.node s i).cells.map Ag08.Cell.write).foldl max 0 = W := fold_max _ _ _ (.inl hWm) (fun x hx => by have := hmax _ (up_mem hx); omega) (Nat.zero_le _)
    rw [eu2, ew2] at hwh
    refine ⟨_, rfl, _, _, rfl, rfl, _, rfl, iteB (fun z2 => ?_) fun z2 => ?_⟩
    · refine ⟨(by show 1 ≤ sizeLine; decide), fun q fq => one (-2) q ?_ fq⟩
      rw [st, if_neg (by omega), hwh, if_neg (by omega)]
    · refine ⟨_, rfl, (by show 1 ≤ sizeLine; decide), fun q fq => one (u : Nat) q ?_ fq⟩
      rw [st, if_neg (by omega), hwh, if_pos (by omega)]
/-! ### tell_at -/
def mkAt : List Nat → Ag08.Call
  | [m] => .at_ m
  | _ => .letters
theorem ok_tell_at (T : Txt K mg C) : Ok P w K mg base 1 "tell_at" ["world", "moment"] (spLook C 1 mkAt) := by
  refine T.f_tell_at.ok sc_tell_at (fun vs H Q E h => spLook_len h) (fun f cdv A outer s H vs Q E hr h => ?_)
  · obtain ⟨own, A, wd, s, t, as, rfl, hl, hW, g, ht, k⟩ := h
    match as, hl with
    | [m], _ =>
    refine ⟨_, (pss_cons (ps_if (pt_cmpR op_gt (pv 1) (pe_callB call_len_seq (by rfl) T.len PySem.boot_len (pa_cons (pe_fld (pv 0) rfl) pa_nil)) (nomark _)) (pss_one (ps_ret (pe_lst (pa_cons (pe_cst rfl T.c_NO_SUCH) pa_nil)))) pss_nil)
        (pss_cons (ps_set (i := 2) sc_tell_at.nd rfl (Or.inl rfl) (pe_op op_rep (pe_lst (pa_cons pe_int pa_nil)) (pe_cst rfl T.c_CELLS)))
        (pss_cons (ps_for PassesOwn.never rfl (pi_list (pe_slice sl_list (pe_fld (pv 0) rfl) po_none (po_some (pv 1)))) (pg_tup rfl (pgs_cons (pg_name (i := 3) sc_tell_at.nd rfl (Or.inl rfl)) (pgs_cons (pg_name (i := 4) sc_tell_at.nd rfl (Or.inl rfl)) pgs_nil))) (pss_one (ps_asg (pv 4) (pg_sub (pv 2) (pv 3) set_list))))
        (pss_one (ps_ret (pv 2)))))), ?_⟩
    have eP : (A.hs.map V.ref).length = s.writes.length := by rw [List.length_map, hW.hist.1]
    have st : (Ag08.step (some s) (.at_ m)).2 = if s.writes.length < m then [-1] else Ag08.ints (setAll (s.writes.take m) (List.replicate 12 0)) := rfl
    refine ⟨_, rfl, _, rfl, wd, C.W, A.dx, _, _, rfl, hW.hw, T.cl_World, T.n_World_writes, wF_writes, A.P, _, rfl, .inl (SqL.of hW.hP), _, _, rfl, rfl, _, rfl, iteB (fun z => ?_) fun z => ?_⟩
    · rw [eP] at z
      refine ⟨(by show 1 ≤ sizeLine; decide), fun q fq => k _ q (same_new fq) fq ?_⟩
      rw [upd_same]
      show _ = some (HO.lst ((Ag08.step (some s) (.at_ m)).2.map V.int))
      rw [st, if_pos (by omega)]
      rfl
    rw [eP] at z
    have hm : m ≤ s.writes.length := by omega
    -- held = [0] * CELLS
    refine ⟨by decide, fun l1 f1 => ?_⟩
    refine ⟨l1, _, _, rfl, rfl, upd_same, by decide, by decide, by decide, fun l fl => ?_⟩
    generalize hH2 : upd (upd H l1 _) l _ = H2
    have flH : H l = none := by simp only [upd_none_iff] at fl; exact fl.2
    have s2 : Same H H2 := fun b o e => by
      rw [← hH2, upd_ne (ne_of_none e flH), upd_ne (ne_of_none e f1)]
      exact e
    have h2l : H2 l = some (.lst (intsV (List.replicate 12 0))) := by
      rw [← hH2, upd_same]
      rfl
    -- for cell, value in world.writes[:moment]
    refine ⟨_, rfl, wd, C.W, A.dx, _, _, rfl, s2 _ _ hW.hw, T.cl_World, T.n_World_writes, wF_writes, _, rfl, _, rfl, A.P, _, rfl, SqL.of (s2 _ _ hW.hP), fun p fp => ?_⟩
    have ecut : cutV (A.hs.map V.ref) none (some (m : Int)) = (A.hs.take m).map V.ref := by
      rw [cut_to (by rw [eP]; exact hm), List.map_take]
    generalize hH3 : upd H2 p _ = H3
    have s3 : Same H2 H3 := by rw [← hH3]; exact same_new fp
    have h3p : H3 p = some (.lst ((A.hs.take m).map V.ref)) := by
      rw [← hH3, upd_same]
      exact congrArg (fun z => some (HO.lst z)) ecut
    have npl : p ≠ l := Ne.symm (ne_of_none h2l fp)
    refine ⟨p, rfl, ⟨_, SqL.of h3p⟩, for_list (xs := (A.hs.take m).map V.ref) (fun j σ H' => ∃ v3 v4, σ = [some (.ref wd), some (.int (m : Nat)), some (.ref l), v3, v4] ∧ Same H H' ∧ H' p = some (.lst ((A.hs.take m).map V.ref)) ∧ H' l = some (.lst (intsV (setAll ((s.writes.take m).take j) (List.replicate 12 0)))))
      ⟨none, none, rfl, s2.trans s3, h3p, s3 _ _ h2l⟩ (fun j σ H' _ ⟨_, _, _, _, q, _⟩ => SqL.of q) ?_ ?_⟩
    · rintro j x σ H4 hx ⟨v3, v4, rfl, s4, h4p, h4l⟩
      obtain ⟨tq, htq, rfl⟩ := get_map hx
      have lt : (A.hs.take m).length = (s.writes.take m).length := by rw [List.length_take, List.length_take, hW.hist.1]
      obtain ⟨y, hy⟩ := get_of htq lt
      have hjm : j < m := by
        have := (List.getElem?_eq_some_iff.mp htq).1
        rw [List.length_take] at this
        omega
      rw [List.getElem?_take, if_pos hjm] at htq
      have et := take_more hy
      rw [List.getElem?_take, if_pos hjm] at hy
      obtain ⟨o1, o2, o3⟩ := hW.hist.2 j tq y htq hy
      refine ⟨tq, _, rfl, SqT.of (s4 _ _ o2), rfl, _, _, rfl, _, _, rfl, rfl, ?_⟩
      refine ⟨_, rfl, _, rfl, _, rfl, l, _, _, y.1, rfl, rfl, h4l, ixN_nat (by rw [intsV_len, setAll_len, List.length_replicate]; exact o3), ?_⟩
      refine ⟨_, _, rfl, fun b o e => ?_, ?_, ?_⟩
      · rw [upd_ne (ne_of_none e flH)]
        exact s4 b o e
      · rw [upd_ne npl]
        exact h4p
      · rw [upd_same, et, setAll_app, ← intsV_set]
    · rintro σ H4 ⟨v3, v4, rfl, s4, h4p, h4l⟩
      refine ⟨_, rfl, k H4 l s4 flH ?_⟩
      rw [h4l]
      have e5 : (s.writes.take m).take ((A.hs.take m).map V.ref).length = s.writes.take m := by
        refine List.take_of_length_le ?_
        rw [List.length_map, List.length_take, List.length_take, hW.hist.1]
        exact Nat.le_refl _
      rw [e5]
      show _ = some (HO.lst ((Ag08.step (some s) (.at_ m)).2.map V.int))
      rw [st, if_neg (by omega), ints_V]
end
end Bo

set_option Elab.async false
set_option maxRecDepth 100000
set_option maxHeartbeats 2000000
namespace Bo
open PySem PySem.Spec PyProof.Rows L2
section
variable {P : Program} {w : World} {K : PySem.W.Frag} {mg : Str → Option Value} {base : Heap} {C : Cl}
/-! ### change_world -/
def spCW (C : Cl) : Sp := fun vs H Q _ => ∃ (own : Own) (A : WA) (wd hd : Addr) (s : Ag08.State) (t p : Nat) (as : List Nat) (cl : Ag08.Call), vs = [.ref wd, .int p, .ref hd] ∧ WorldR C own H wd s A ∧ Good t s ∧ t < 100 ∧ H hd = some (.lst (intsV as)) ∧ Dec p as cl ∧ p ≠ 0 ∧ p ≤ 8 ∧
  Outcome C own H wd (Ag08.step (some s) cl) Q
theorem ok_change_world (T : Txt K mg C) : Ok P w K mg base 7 "change_world" ["world", "call", "handed"] (spCW C) := by
  obtain ⟨f_c0, fd_c0, G_write, b_write, m_write, k_write⟩ := ok_write (P := P) (w := w) (base := base) T
  obtain ⟨f_c1, fd_c1, G_ask, b_ask, m_ask, k_ask⟩ := ok_ask (P := P) (w := w) (base := base) T
  obtain ⟨f_c2, fd_c2, G_take, b_take, m_take, k_take⟩ := ok_take (P := P) (w := w) (base := base) T
  obtain ⟨f_c3, fd_c3, G_keep, b_keep, m_keep, k_keep⟩ := ok_keep (P := P) (w := w) (base := base) T
  obtain ⟨f_c4, fd_c4, G_lose, b_lose, m_lose, k_lose⟩ := ok_lose (P := P) (w := w) (base := base) T
  obtain ⟨f_c5, fd_c5, G_spoil, b_spoil, m_spoil, k_spoil⟩ := ok_spoil (P := P) (w := w) (base := base) T
  obtain ⟨f_c6, fd_c6, G_stop, b_stop, m_stop, k_stop⟩ := ok_stop (P := P) (w := w) (base := base) T
  obtain ⟨f_c7, fd_c7, G_start, b_start, m_start, k_start⟩ := ok_start (P := P) (w := w) (base := base) T
  refine T.f_change_world.ok sc_change_world (fun vs H Q E h => ?_) (fun f cdv A outer s H vs Q E hr h => ?_)
  · obtain ⟨own, A, wd, hd, s, t, p, as, cl, rfl, _⟩ := h
    rfl
  · obtain ⟨own, A, wd, hd, s, t, p, as, cl, rfl, hW, g, ht, hh, hdec, hp0, hp8, k⟩ := h
    refine ⟨_, (pss_cons (ps_if (pt_cmpR op_eq (pv 1) (pe_cst rfl T.c_WRITE) (nomark _)) (pss_one (ps_ret (pe_call G_write (hr.mono (by decide)) rfl m_write k_write b_write .nil pass0 (pa_cons (pv 0) (pa_cons (pe_ix ix_list (pv 2) pe_int (fun _ _ => rfl)) (pa_cons (pe_ix ix_list (pv 2) pe_int (fun _ _ => rfl)) pa_nil)))))) pss_nil)
        (pss_cons (ps_if (pt_cmpR op_eq (pv 1) (pe_cst rfl T.c_ASK) (nomark _)) (pss_one (ps_ret (pe_call G_ask (hr.mono (by decide)) rfl m_ask k_ask b_ask .nil pass0 (pa_cons (pv 0) (pa_cons (pe_ix ix_list (pv 2) pe_int (fun _ _ => rfl)) (pa_cons (pe_ix ix_list (pv 2) pe_int (fun _ _ => rfl)) (pa_cons (pe_ix ix_list (pv 2) pe_int (fun _ _ => rfl)) pa_nil))))))) pss_nil)
        (pss_cons (ps_if (pt_cmpR op_eq (pv 1) (pe_cst rfl T.c_TAKE) (nomark _)) (pss_one (ps_ret (pe_call G_take (hr.mono (by decide)) rfl m_take k_take b_take .nil pass0 (pa_cons (pv 0) (pa_cons (pe_ix ix_list (pv 2) pe_int (fun _ _ => rfl)) pa_nil))))) pss_nil)
        (pss_cons (ps_if (pt_cmpR op_eq (pv 1) (pe_cst rfl T.c_KEEP) (nomark _)) (pss_one (ps_ret (pe_call G_keep (hr.mono (by decide)) rfl m_keep k_keep b_keep .nil pass0 (pa_cons (pv 0) (pa_cons (pe_ix ix_list (pv 2) pe_int (fun _ _ => rfl)) pa_nil))))) pss_nil)
        (pss_cons (ps_if (pt_cmpR op_eq (pv 1) (pe_cst rfl T.c_LOSE) (nomark _)) (pss_one (ps_ret (pe_call G_lose (hr.mono (by decide)) rfl m_lose k_lose b_lose .nil pass0 (pa_cons (pv 0) (pa_cons (pe_ix ix_list (pv 2) pe_int (fun _ _ => rfl)) pa_nil))))) pss_nil)
        (pss_cons (ps_if (pt_cmpR op_eq (pv 1) (pe_cst rfl T.c_SPOIL) (nomark _)) (pss_one (ps_ret (pe_call G_spoil (hr.mono (by decide)) rfl m_spoil k_spoil b_spoil .nil pass0 (pa_cons (pv 0) (pa_cons (pe_ix ix_list (pv 2) pe_int (fun _ _ => rfl)) (pa_cons (pe_ix ix_list (pv 2) pe_int (fun _ _ => rfl)) (pa_cons (pe_ix ix_list (pv 2) pe_int (fun _ _ => rfl)) pa_nil))))))) pss_nil)
        (pss_cons (ps_if (pt_cmpR op_eq (pv 1) (pe_cst rfl T.c_STOP) (nomark _)) (pss_one (ps_ret (pe_call G_stop (hr.mono (by decide)) rfl m_stop k_stop b_stop .nil pass0 (pa_cons (pv 0) (pa_cons (pe_ix ix_list (pv 2) pe_int (fun _ _ => rfl)) pa_nil))))) pss_nil)
        (pss_one (ps_ret (pe_call G_start (hr.mono (by decide)) rfl m_start k_start b_start .nil pass0 (pa_cons (pv 0) (pa_cons (pe_ix ix_list (pv 2) pe_int (fun _ _ => rfl)) pa_nil)))))))))))), ?_⟩
    -- write
    refine ⟨_, rfl, rfl, _, rfl, iteB (fun z => ?_) fun z1 => ?_⟩
    · obtain rfl : p = 1 := by have := V.int.inj z; omega
      cases hdec with
      | write x0 x1 => exact ⟨_, rfl, _, rfl, hd, _, _, _, rfl, rfl, SqL.of hh, atI_nat (j := 0) rfl, _, rfl, hd, _, _, _, rfl, rfl, SqL.of hh, atI_nat (j := 1) rfl, own, A, wd, s, t, [x0, x1], rfl, rfl, hW, g, ht, k⟩
    -- ask
    refine ⟨_, rfl, rfl, _, rfl, iteB (fun z => ?_) fun z2 => ?_⟩
    · obtain rfl : p = 2 := by have := V.int.inj z; omega
      cases hdec with
      | ask x0 x1 x2 => exact ⟨_, rfl, _, rfl, hd, _, _, _, rfl, rfl, SqL.of hh, atI_nat (j := 0) rfl, _, rfl, hd, _, _, _, rfl, rfl, SqL.of hh, atI_nat (j := 1) rfl, _, rfl, hd, _, _, _, rfl, rfl, SqL.of hh, atI_nat (j := 2) rfl, own, A, wd, s, t, [x0, x1, x2], rfl, rfl, hW, g, ht, k⟩
    -- take
    refine ⟨_, rfl, rfl, _, rfl, iteB (fun z => ?_) fun z3 => ?_⟩
    · obtain rfl : p = 3 := by have := V.int.inj z; omega
      cases hdec with
      | take x0 => exact ⟨_, rfl, _, rfl, hd, _, _, _, rfl, rfl, SqL.of hh, atI_nat (j := 0) rfl, own, A, wd, s, t, [x0], rfl, rfl, hW, g, ht, k⟩
    -- keep
    refine ⟨_, rfl, rfl, _, rfl, iteB (fun z => ?_) fun z4 => ?_⟩
    · obtain rfl : p = 4 := by have := V.int.inj z; omega
      cases hdec with
      | keep x0 => exact ⟨_, rfl, _, rfl, hd, _, _, _, rfl, rfl, SqL.of hh, atI_nat (j := 0) rfl, own, A, wd, s, t, [x0], rfl, rfl, hW, g, ht, k⟩
    -- lose
    refine ⟨_, rfl, rfl, _, rfl, iteB (fun z => ?_) fun z5 => ?_⟩
    · obtain rfl : p = 5 := by have := V.int.inj z; omega
      cases hdec with
      | lose x0 => exact ⟨_, rfl, _, rfl, hd, _, _, _, rfl, rfl, SqL.of hh, atI_nat (j := 0) rfl, own, A, wd, s, t, [x0], rfl, rfl, hW, g, ht, k⟩
    -- spoil
    refine ⟨_, rfl, rfl, _, rfl, iteB (fun z => ?_) fun z6 => ?_⟩
    · obtain rfl : p = 6 := by have := V.int.inj z; omega
      cases hdec with
      | spoil x0 x1 x2 => exact ⟨_, rfl, _, rfl, hd, _, _, _, rfl, rfl, SqL.of hh, atI_nat (j := 0) rfl, _, rfl, hd, _, _, _, rfl, rfl, SqL.of hh, atI_nat (j := 1) rfl, _, rfl, hd, _, _, _, rfl, rfl, SqL.of hh, atI_nat (j := 2) rfl, own, A, wd, s, t, [x0, x1, x2], rfl, rfl, hW, g, ht, k⟩
    -- stop
    refine ⟨_, rfl, rfl, _, rfl, iteB (fun z => ?_) fun z7 => ?_⟩
    · obtain rfl : p = 7 := by have := V.int.inj z; omega
      cases hdec with
      | halt_ x0 => exact ⟨_, rfl, _, rfl, hd, _, _, _, rfl, rfl, SqL.of hh, atI_nat (j := 0) rfl, own, A, wd, s, t, [x0], rfl, rfl, hW, g, ht, k⟩
    -- start
    have h1 : p ≠ 1 := fun e => z1 (by rw [e]; rfl)
    have h2 : p ≠ 2 := fun e => z2 (by rw [e]; rfl)
    have h3 : p ≠ 3 := fun e => z3 (by rw [e]; rfl)
    have h4 : p ≠ 4 := fun e => z4 (by rw [e]; rfl)
    have h5 : p ≠ 5 := fun e => z5 (by rw [e]; rfl)
    have h6 : p ≠ 6 := fun e => z6 (by rw [e]; rfl)
    have h7 : p ≠ 7 := fun e => z7 (by rw [e]; rfl)
    obtain rfl : p = 8 := by omega
    cases hdec with
    | start x0 => exact ⟨_, rfl, _, rfl, hd, _, _, _, rfl, rfl, SqL.of hh, atI_nat (j := 0) rfl, own, A, wd, s, t, [x0], rfl, rfl, hW, g, ht, k⟩
/-! ### look_at_world -/
def spLW (C : Cl) : Sp := fun vs H Q _ => ∃ (own : Own) (A : WA) (wd hd : Addr) (s : Ag08.State) (t p : Nat) (as : List Nat) (cl : Ag08.Call), vs = [.ref wd, .int p, .ref hd] ∧ WorldR C own H wd s A ∧ Good t s ∧ t < 100 ∧ H hd = some (.lst (intsV as)) ∧ Dec p as cl ∧ 8 < p ∧
  ∀ H' q ans, Ag08.step (some s) cl = (some s, ans) → Same H H' → H q = none → H' q = some (.lst (ans.map V.int)) → Q (.ref q) H'
theorem ok_look_at_world (T : Txt K mg C) : Ok P w K mg base 2 "look_at_world" ["world", "call", "handed"] (spLW C) := by
  obtain ⟨f_l0, fd_l0, G_tell_letters, b_tell_letters, m_tell_letters, k_tell_letters⟩ := ok_tell_letters (P := P) (w := w) (base := base) T
  obtain ⟨f_l1, fd_l1, G_tell_node, b_tell_node, m_tell_node, k_tell_node⟩ := ok_tell_node (P := P) (w := w) (base := base) T
  obtain ⟨f_l2, fd_l2, G_tell_whole, b_tell_whole, m_tell_whole, k_tell_whole⟩ := ok_tell_whole (P := P) (w := w) (base := base) T
  obtain ⟨f_l3, fd_l3, G_tell_at, b_tell_at, m_tell_at, k_tell_at⟩ := ok_tell_at (P := P) (w := w) (base := base) T
  refine T.f_look_at_world.ok sc_look_at_world (fun vs H Q E h => ?_) (fun f cdv A outer s H vs Q E hr h => ?_)
  · obtain ⟨own, A, wd, hd, s, t, p, as, cl, rfl, _⟩ := h
    rfl
  · obtain ⟨own, A, wd, hd, s, t, p, as, cl, rfl, hW, g, ht, hh, hdec, hp8, k⟩ := h
    refine ⟨_, (pss_cons (ps_if (pt_cmpR op_eq (pv 1) (pe_cst rfl T.c_LETTERS) (nomark _)) (pss_one (ps_ret (pe_call G_tell_letters (hr.mono (by decide)) rfl m_tell_letters k_tell_letters b_tell_letters .nil pass0 (pa_cons (pv 0) pa_nil)))) pss_nil)
        (pss_cons (ps_if (pt_cmpR op_eq (pv 1) (pe_cst rfl T.c_NODE) (nomark _)) (pss_one (ps_ret (pe_call G_tell_node (hr.mono (by decide)) rfl m_tell_node k_tell_node b_tell_node .nil pass0 (pa_cons (pv 0) (pa_cons (pe_ix ix_list (pv 2) pe_int (fun _ _ => rfl)) pa_nil))))) pss_nil)
        (pss_cons (ps_if (pt_cmpR op_eq (pv 1) (pe_cst rfl T.c_WHOLE) (nomark _)) (pss_one (ps_ret (pe_call G_tell_whole (hr.mono (by decide)) rfl m_tell_whole k_tell_whole b_tell_whole .nil pass0 (pa_cons (pv 0) (pa_cons (pe_ix ix_list (pv 2) pe_int (fun _ _ => rfl)) pa_nil))))) pss_nil)
        (pss_one (ps_ret (pe_call G_tell_at (hr.mono (by decide)) rfl m_tell_at k_tell_at b_tell_at .nil pass0 (pa_cons (pv 0) (pa_cons (pe_ix ix_list (pv 2) pe_int (fun _ _ => rfl)) pa_nil)))))))), ?_⟩
    -- tell_letters
    refine ⟨_, rfl, rfl, _, rfl, iteB (fun z => ?_) fun z9 => ?_⟩
    · obtain rfl : p = 9 := by have := V.int.inj z; omega
      cases hdec with
      | letters => exact ⟨_, rfl, own, A, wd, s, t, [], rfl, rfl, hW, g, ht, fun H' q s' fq e => k H' q _ rfl s' fq e⟩
    -- tell_node
    refine ⟨_, rfl, rfl, _, rfl, iteB (fun z => ?_) fun z10 => ?_⟩
    · obtain rfl : p = 10 := by have := V.int.inj z; omega
      cases hdec with
      | node x0 => exact ⟨_, rfl, _, rfl, hd, _, _, _, rfl, rfl, SqL.of hh, atI_nat (j := 0) rfl, own, A, wd, s, t, [x0], rfl, rfl, hW, g, ht, fun H' q s' fq e => k H' q _ rfl s' fq e⟩
    -- tell_whole
    refine ⟨_, rfl, rfl, _, rfl, iteB (fun z => ?_) fun z11 => ?_⟩
    · obtain rfl : p = 11 := by have := V.int.inj z; omega
      cases hdec with
      | whole x0 => exact ⟨_, rfl, _, rfl, hd, _, _, _, rfl, rfl, SqL.of hh, atI_nat (j := 0) rfl, own, A, wd, s, t, [x0], rfl, rfl, hW, g, ht, fun H' q s' fq e => k H' q _ rfl s' fq e⟩
    -- tell_at
    have h1 : p ≠ 9 := fun e => z9 (by rw [e]; rfl)
    have h2 : p ≠ 10 := fun e => z10 (by rw [e]; rfl)
    have h3 : p ≠ 11 := fun e => z11 (by rw [e]; rfl)
    cases hdec with
    | at_ m => exact ⟨_, rfl, _, rfl, hd, _, _, _, rfl, rfl, SqL.of hh, atI_nat (j := 0) rfl, own, A, wd, s, t, [m], rfl, rfl, hW, g, ht, fun H' q s' fq e => k H' q _ rfl s' fq e⟩
    | _ => omega
/-! ### answer_in_world -/
def spAIW (C : Cl) : Sp := fun vs H Q _ => ∃ (own : Own) (A : WA) (wd hd : Addr) (s : Ag08.State) (t p : Nat) (as : List Nat) (cl : Ag08.Call), vs = [.ref wd, .int p, .ref hd] ∧ WorldR C own H wd s A ∧ Good t s ∧ t < 100 ∧ H hd = some (.lst (intsV as)) ∧ own hd = none ∧ Dec p as cl ∧ p ≠ 0 ∧
  ∀ own' H' A' s' ans q, Ag08.step (some s) cl = (some s', ans) → WorldR C own' H' wd s' A' → Chg someRole own H own' H' → H' q = some (.lst (ans.map V.int)) → own' q = none → (∀ b u, H b = some u → own b = none → b ≠ q) → Q (.ref q) H'
theorem ok_answer_in_world (T : Txt K mg C) : Ok P w K mg base 8 "answer_in_world" ["world", "call", "handed"] (spAIW C) := by
  obtain ⟨f_cw, fd_cw, G_change_world, b_change_world, m_change_world, k_change_world⟩ := ok_change_world (P := P) (w := w) (base := base) T
  obtain ⟨f_lw, fd_lw, G_look_at_world, b_look_at_world, m_look_at_world, k_look_at_world⟩ := ok_look_at_world (P := P) (w := w) (base := base) T
  refine T.f_answer_in_world.ok sc_answer_in_world (fun vs H Q E h => ?_) (fun f cdv A outer s H vs Q E hr h => ?_)
  · obtain ⟨own, A, wd, hd, s, t, p, as, cl, rfl, _⟩ := h
    rfl
  · obtain ⟨own, A, wd, hd, s, t, p, as, cl, rfl, hW, g, ht, hh, oh, hdec, hp0, k⟩ := h
    refine ⟨_, (pss_cons (ps_if (pt_cmpR op_le (pv 1) (pe_cst rfl T.c_START) (nomark _)) (pss_one (ps_ret (pe_lst (pa_cons (pe_call G_change_world (hr.mono (by decide)) rfl m_change_world k_change_world b_change_world .nil pass0 (pa_cons (pv 0) (pa_cons (pv 1) (pa_cons (pv 2) pa_nil)))) pa_nil)))) pss_nil)
        (pss_one (ps_ret (pe_call G_look_at_world (hr.mono (by decide)) rfl m_look_at_world k_look_at_world b_look_at_world .nil pass0 (pa_cons (pv 0) (pa_cons (pv 1) (pa_cons (pv 2) pa_nil))))))), ?_⟩
    refine ⟨_, rfl, _, _, rfl, rfl, _, rfl, iteB (fun z => ?_) fun z => ?_⟩
    · refine ⟨_, rfl, _, rfl, _, rfl, own, A, wd, hd, s, t, p, as, cl, rfl, hW, g, ht, hh, hdec, hp0, by omega, fun own' H' A' s' r e w' c' => ⟨(by show 1 ≤ sizeLine; decide), fun q fq => ?_⟩⟩
      exact k own' _ A' s' [r] q e (w'.same (same_new fq)) (c'.trans (Chg.same (same_new fq))) upd_same (w'.trk.free fq) fun b u eb ob => ne_of_none (c'.frame eb ob).1 fq
    · refine ⟨_, rfl, _, rfl, _, rfl, own, A, wd, hd, s, t, p, as, cl, rfl, hW, g, ht, hh, hdec, by omega, fun H' q ans e s' fq hq => ?_⟩
      exact k own H' A s ans q e (hW.same s') (Chg.same s') hq (hW.trk.free fq) fun b u eb _ => ne_of_none eb fq
end
end Bo

set_option Elab.async false
set_option maxRecDepth 100000
set_option maxHeartbeats 2000000
namespace Bo
open PySem PySem.Spec PyProof.Rows L2
section
variable {P : Program} {w : World} {K : PySem.W.Frag} {mg : Str → Option Value} {base : Heap} {C : Cl}
/-! ### the line -/
def LineR (C : Cl) (own : Own) (H : Hp) (ln : Addr) : Ag08.Abs → Prop
  | none => (∃ dx, H ln = some (.ins C.I dx (iF .non))) ∧ own ln = none ∧ Trk own H
  | some s => ∃ dx wd A, H ln = some (.ins C.I dx (iF (.ref wd))) ∧ own ln = none ∧ WorldR C own H wd s A
theorem LineR.at_ {own : Own} {H : Hp} {ln : Addr} : ∀ {o : Ag08.Abs}, LineR C own H ln o → ∃ dx v, H ln = some (.ins C.I dx (iF v)) ∧ own ln = none ∧ Trk own H
  | none, h => let ⟨⟨dx, h1⟩, h2, h3⟩ := h; ⟨dx, _, h1, h2, h3⟩
  | some _, h => let ⟨dx, _, _, h1, h2, h3⟩ := h; ⟨dx, _, h1, h2, h3.trk⟩
theorem LineR.same {own : Own} {H H' : Hp} {ln : Addr} : ∀ {o : Ag08.Abs}, LineR C own H ln o → Same H H' → LineR C own H' ln o
  | none, h, s => let ⟨⟨dx, h1⟩, h2, h3⟩ := h; ⟨⟨dx, s _ _ h1⟩, h2, h3.same s⟩
  | some _, h, s => let ⟨dx, wd, A, h1, h2, h3⟩ := h; ⟨dx, wd, A, s _ _ h1, h2, h3.same s⟩
theorem LineR.updOut {own : Own} {H : Hp} {ln a : Addr} {xs : List V} {o' : HO} (ha : H a = some (.lst xs)) (oa : own a = none) : ∀ {o : Ag08.Abs}, LineR C own H ln o → LineR C own (upd H a o') ln o
  | none, h => by
    obtain ⟨⟨dx, h1⟩, h2, h3⟩ := h
    have n : ln ≠ a := ne_of h1 ha (by intro z; cases z)
    exact ⟨⟨dx, by rw [upd_ne n]; exact h1⟩, h2, h3.upd⟩
  | some _, h => by
    obtain ⟨dx, wd, A, h1, h2, h3⟩ := h
    have n : ln ≠ a := ne_of h1 ha (by intro z; cases z)
    exact ⟨dx, wd, A, by rw [upd_ne n]; exact h1, h2, h3.updOut ha oa (by intro xs z; cases z)⟩
/-! ### answer_in_world, answer_call -/
def spAC (C : Cl) : Sp := fun vs H Q _ => ∃ (own : Own) (ln hd : Addr) (o : Ag08.Abs) (t p : Nat) (as : List Nat) (cl : Ag08.Call), vs = [.ref ln, .int p, .ref hd] ∧ LineR C own H ln o ∧ GoodO t o ∧ t < 100 ∧ H hd = some (.lst (intsV as)) ∧ own hd = none ∧ Dec p as cl ∧
  ∀ own' H' q, LineR C own' H' ln (Ag08.step o cl).1 → H' q = some (.lst ((Ag08.step o cl).2.map V.int)) → own' q = none → (∀ b u, H b = some u → own b = none → b ≠ ln → H' b = some u ∧ own' b = none ∧ b ≠ q) → Q (.ref q) H'
theorem not_begin {p : Nat} {as : List Nat} {cl : Ag08.Call} (h : Dec p as cl) (hp : p ≠ 0) : ∀ n, cl ≠ .begin_ n := fun n e => by
  subst e
  cases h
  exact hp rfl
theorem ok_answer_call (T : Txt K mg C) : Ok P w K mg base 9 "answer_call" ["line", "call", "handed"] (spAC C) := by
  obtain ⟨f_b, fd_b, G_begin, b_begin, m_begin, k_begin⟩ := ok_begin (P := P) (w := w) (base := base) T
  obtain ⟨f_a, fd_a, G_answer_in_world, b_answer_in_world, m_answer_in_world, k_answer_in_world⟩ := ok_answer_in_world (P := P) (w := w) (base := base) T
  refine T.f_answer_call.ok sc_answer_call (fun vs H Q E h => ?_) (fun f cdv A outer s H vs Q E hr h => ?_)
  · obtain ⟨own, ln, hd, o, t, p, as, cl, rfl, _⟩ := h
    rfl
  · obtain ⟨own, ln, hd, o, t, p, as, cl, rfl, hL, g, ht, hh, oh, hdec, k⟩ := h
    refine ⟨_, (pss_cons (ps_if (pt_cmpR op_eq (pv 1) (pe_cst rfl T.c_BEGIN) (nomark _)) (pss_one (ps_ret (pe_lst (pa_cons (pe_call G_begin (hr.mono (by decide)) rfl m_begin k_begin b_begin .nil pass0 (pa_cons (pv 0) (pa_cons (pe_ix ix_list (pv 2) pe_int (fun _ _ => rfl)) pa_nil))) pa_nil)))) pss_nil)
        (pss_cons (ps_if (pt_cmpR op_isN (pe_fld (pv 0) rfl) pe_non (nomark _)) (pss_one (ps_ret (pe_lst (pa_cons (pe_cst rfl T.c_NO_WORLD) pa_nil)))) pss_nil)
        (pss_one (ps_ret (pe_call G_answer_in_world (hr.mono (by decide)) rfl m_answer_in_world k_answer_in_world b_answer_in_world .nil pass0 (pa_cons (pe_fld (pv 0) rfl) (pa_cons (pv 1) (pa_cons (pv 2) pa_nil)))))))), ?_⟩
    obtain ⟨dx, v, hln, oln, trk⟩ := hL.at_
    refine ⟨_, rfl, rfl, _, rfl, iteB (fun z => ?_) fun z => ?_⟩
    · -- begin
      have hp : p = 0 := by have := V.int.inj z; omega
      subst hp
      cases hdec with
      | begin_ n =>
      refine ⟨_, rfl, _, rfl, hd, _, _, V.int n, rfl, rfl, SqL.of hh, atI_nat (j := 0) rfl, ln, dx, v, n, rfl, hln, fun z => ?_, fun z => ?_⟩
      · refine ⟨(by show 1 ≤ sizeLine; decide), fun q fq => ?_⟩
        rw [step_begin, if_pos z] at k
        exact k own _ q (hL.same (same_new fq)) upd_same (trk.free fq) fun b u e ob nb => ⟨same_new fq _ _ e, ob, ne_of_none e fq⟩
      · intro own1 H1 x A1 hW1 hl1 ol1 hk1
        refine ⟨(by show 1 ≤ sizeLine; decide), fun q fq => ?_⟩
        rw [step_begin, if_neg z] at k
        refine k own1 _ q ⟨dx, x, A1, same_new fq _ _ hl1, ol1, hW1.same (same_new fq)⟩ upd_same (hW1.trk.free fq) fun b u e ob nb => ?_
        obtain ⟨e1, o1⟩ := hk1 b u e nb
        exact ⟨same_new fq _ _ e1, o1, ne_of_none e1 fq⟩
    · have hp : p ≠ 0 := fun e => z (by rw [e]; rfl)
      refine ⟨_, rfl, ln, C.I, dx, _, _, rfl, hln, T.cl_Line, T.n_Line_world, iF_world, rfl, _, rfl, ?_⟩
      cases o with
      | none =>
        obtain ⟨⟨dx', hln'⟩, _, _⟩ := hL
        have ev : v = .non := by
          rw [hln] at hln'
          cases hln'
          rfl
        subst ev
        refine if_true_of (decide_eq_true rfl) ?_
        rw [step_none (not_begin hdec hp)] at k
        refine ⟨(by show 1 ≤ sizeLine; decide), fun q fq => ?_⟩
        exact k own _ q ⟨⟨dx, same_new fq _ _ hln⟩, oln, trk.same (same_new fq)⟩ upd_same (trk.free fq) fun b u e ob nb => ⟨same_new fq _ _ e, ob, ne_of_none e fq⟩
      | some s =>
        obtain ⟨dx', wd, A, hln', _, hW⟩ := hL
        have ev : v = .ref wd := by
          rw [hln] at hln'
          cases hln'
          rfl
        subst ev
        refine if_false_of (decide_eq_false (by intro z; cases z)) ?_
        refine ⟨_, rfl, ln, C.I, dx, _, _, rfl, hln, T.cl_Line, T.n_Line_world, iF_world, _, rfl, _, rfl, own, A, wd, hd, s, t, p, as, cl, rfl, hW, g, ht, hh, oh, hdec, hp, fun own' H' A' s' ans q e w' c' hq oq fq => ?_⟩
        rw [e] at k
        obtain ⟨l1, l2⟩ := c'.frame hln oln
        exact k own' H' q ⟨dx, wd, A', l1, l2, w'⟩ hq oq fun b u eb ob nb => let ⟨b1, b2⟩ := c'.frame eb ob; ⟨b1, b2, fq b u eb ob⟩
/-! ### answers -/
theorem cut_calls {l : List Nat} {k n : Nat} (h : k + 1 + n ≤ l.length) : cutV (intsV l) (some ((k : Int) + 1)) (some ((k : Int) + 1 + (n : Int))) = intsV ((l.drop (k + 1)).take n) := by
  have e1 : (k : Int) + 1 = ((k + 1 : Nat) : Int) := by omega
  have e2 : (k : Int) + 1 + (n : Int) = ((k + 1 + n : Nat) : Int) := by omega
  unfold cutV
  rw [e2, e1, HT.sIx_nat, HT.sIx_nat, intsV_len, Nat.min_eq_left (by omega), Nat.min_eq_left (by omega)]
  unfold intsV
  rw [List.map_take, List.map_drop]
  congr 1
  omega
def spAns (K : PySem.W.Frag) : Sp := fun vs H Q _ => ∃ (a : Addr) (ns : List Int), vs = [.ref a] ∧ SqL K H a (ns.map V.int) ∧ ns.length ≤ 400 ∧ (∀ x ∈ ns, 0 ≤ x) ∧ PyAg08.answers_asked ns = true ∧
  ∀ (H' : Hp) (p : Addr), H' p = some (.lst ((PyAg08.answers ns).map V.int)) → Q (.ref p) H'
theorem up_toNat : ∀ {ns : List Int}, (∀ x ∈ ns, 0 ≤ x) → up (ns.map Int.toNat) = ns
  | [], _ => rfl
  | x :: ns, h => by
    have hx := h x (by simp)
    show ((x.toNat : Nat) : Int) :: up (ns.map Int.toNat) = _
    rw [up_toNat fun y hy => h y (by simp [hy])]
    congr 1
    omega
theorem due_short {ns : List Int} (h : PyAg08.answers_asked ns = true) : (PyAg08.answers ns).length ≤ 10000000 := by
  unfold PyAg08.answers_asked at h
  split at h
  · cases h
  · rename_i raw hr
    simp only [Bool.and_eq_true] at h
    exact of_decide_eq_true h.2
theorem Rest.short {l : List Nat} {k t : Nat} {o : Ag08.Abs} {out due : List Int} (h : Rest l k o t out due) : out.length ≤ due.length := by
  obtain ⟨f, raw, h1, h2, h3⟩ := h.ex
  rw [← h3, List.length_append]
  omega
/-- how far it has come -/
def placeOf (n : Nat) (σ : List (Option V)) : Nat := match σ[3]? with
  | some (some (V.int k)) => n - k.toNat
  | _ => 0
theorem ok_answers (T : Txt K mg C) {fa : Addr} {fda : FuncData} (F : Fun K "answers" "answers" s_answers fa fda) : FnOk P w K mg base CX0 10 fa fda ["calls"] (spAns K) := by
  obtain ⟨f_Line, fd_Line, M_Line, G_Line, b_Line⟩ := ok_Line (P := P) (w := w) (base := base) T
  obtain ⟨f_a, fd_a, G_answer_call, b_answer_call, m_answer_call, k_answer_call⟩ := ok_answer_call (P := P) (w := w) (base := base) T
  refine F.ok sc_answers (fun vs H Q E h => ?_) (fun cdv A outer s H vs Q E hr h => ?_)
  · obtain ⟨a, ns, rfl, _⟩ := h
    rfl
  · obtain ⟨a, ns, rfl, hS, hlen, hpos, hask, k⟩ := h
    have eup := up_toNat hpos
    generalize hl : ns.map Int.toNat = l at eup
    subst eup
    rw [intsV_up] at hS
    have hlen' : l.length ≤ 400 := by unfold up at hlen; rw [List.length_map] at hlen; exact hlen
    have hshort := due_short hask
    have hstart := Rest.start hask
    generalize PyAg08.answers (up l) = due at k hshort hstart
    refine ⟨_, (pss_cons (ps_set (i := 1) sc_answers.nd rfl (Or.inl rfl) (pe_make0 M_Line G_Line (hr.mono (by decide)) rfl T.g_Line b_Line .nil pass0))
        (pss_cons (ps_set (i := 2) sc_answers.nd rfl (Or.inl rfl) (pe_lst pa_nil))
        (pss_cons (ps_set (i := 3) sc_answers.nd rfl (Or.inl rfl) pe_int)
        (pss_cons (ps_while PassesOwn.never (pt_cmpR op_lt (pv 3) (pe_callB call_len_seq (by rfl) T.len PySem.boot_len (pa_cons (pv 0) pa_nil)) (nomark _)) (pss_cons (ps_set (i := 4) sc_answers.nd rfl (Or.inl rfl) (pe_ix ix_list (pv 0) (pv 3) (fun _ _ => rfl)))
        (pss_cons (ps_set (i := 5) sc_answers.nd rfl (Or.inl rfl) (pe_op op_add (pe_op op_add (pv 3) pe_int) (pe_ix ix_tup (pe_glob (v := V.ref C.T) rfl T.t_HANDED rfl) (pv 4) (fun _ _ => rfl))))
        (pss_cons (ps_set (i := 6) sc_answers.nd rfl (Or.inl rfl) (pe_call G_answer_call (hr.mono (by decide)) rfl m_answer_call k_answer_call b_answer_call .nil pass0 (pa_cons (pv 1) (pa_cons (pv 4) (pa_cons (pe_slice sl_list (pv 0) (po_some (pe_op op_add (pv 3) pe_int)) (po_some (pv 5))) pa_nil)))))
        (pss_cons (ps_expr (pe_bm PySem.F.plainAttrs_list PySem.F.slot_list_append PySem.F.type_list_append mt_append (pv 2) (pa_cons (pe_callB call_len_seq (by rfl) T.len PySem.boot_len (pa_cons (pv 6) pa_nil)) pa_nil)))
        (pss_cons (ps_expr (pe_bm PySem.F.plainAttrs_list PySem.F.slot_list_extend PySem.F.type_list_extend mt_extend (pv 2) (pa_cons (pv 6) pa_nil)))
        (pss_one (ps_set (i := 3) sc_answers.nd rfl (Or.inl rfl) (pv 5)))))))))
        (pss_one (ps_ret (pv 2))))))), ?_⟩
    intro ln dx nln ndx ne
    refine ⟨ln, dx, rfl, upd_same, rfl, ?_⟩
    refine ⟨Nat.zero_le _, fun tl ftl => ?_⟩
    generalize hH1 : upd (upd (upd H dx (.own ln)) ln (.ins C.I dx [])) ln (.ins C.I dx (iF .non)) = H1 at ftl
    have s1 : Same H H1 := fun b o e => by
      rw [← hH1, upd_ne (ne_of_none e nln), upd_ne (ne_of_none e nln), upd_ne (ne_of_none e ndx)]
      exact e
    have hln1 : H1 ln = some (.ins C.I dx (iF .non)) := by rw [← hH1]; exact upd_same
    have s2 : Same H1 (upd H1 tl (.lst [])) := same_new ftl
    refine while_by (fun σ H' => ∃ own o kk t out v4 v5 v6, σ = [some (.ref a), some (.ref ln), some (.ref tl), some (.int (kk : Nat)), v4, v5, v6] ∧ LineR C own H' ln o ∧ H' tl = some (.lst (out.map V.int)) ∧ own tl = none ∧ Rest l kk o t out due ∧ kk ≤ l.length ∧
      (∀ b u, H b = some u → H' b = some u ∧ own b = none)) (fun σ _ => placeOf l.length σ) ?_ ?_ ?_
    · refine ⟨fun _ => none, none, 0, 0, [], none, none, none, rfl, ⟨⟨dx, s2 _ _ hln1⟩, rfl, fun b r e => by cases e⟩, upd_same, rfl, hstart, Nat.zero_le _, fun b u e => ⟨s2 _ _ (s1 _ _ e), rfl⟩⟩
    · rintro σ H2 ⟨own, o, kk, t, out, v4, v5, v6, rfl, hL, htl, otl, hR, hkk, hk⟩
      have sH : Same H H2 := fun b u e => (hk b u e).1
      have hS2 := sH.seq hS
      refine ⟨_, rfl, _, rfl, a, _, rfl, .inl hS2, _, _, rfl, rfl, _, rfl, iteB (fun z => ?_) fun z => ?_⟩
      · rw [intsV_len] at z
        have hlt : kk < l.length := by omega
        obtain ⟨p, n, as, cl, hp, hp13, har, eas, hal, hle, hdec, ht, hg, hR'⟩ := hR.next hlt
        -- call = calls[place]
        refine ⟨_, rfl, _, rfl, a, _, _, _, rfl, rfl, hS2, atI_nat (j := kk) (intsV_get hp), ?_⟩
        -- behind = place + 1 + HANDED[call]
        refine ⟨_, rfl, _, _, rfl, rfl, _, rfl, C.T, _, _, V.int (n : Nat), rfl, rfl, T.q_HANDED H2, atI_nat (j := p) (intsV_get har), _, _, rfl, rfl, ?_⟩
        -- answer = answer_call(line, call, calls[place + 1:behind])
        refine ⟨_, rfl, _, rfl, _, rfl, _, rfl, _, _, rfl, rfl, _, rfl, _, rfl, _, rfl, a, _, rfl, hS2, fun hd fhd => ?_⟩
        have ecut : cutV (intsV l) (some ((kk : Int) + 1)) (some ((kk : Int) + 1 + (n : Int))) = intsV as := by rw [eas]; exact cut_calls hle
        generalize hH3 : upd H2 hd _ = H3
        have s3 : Same H2 H3 := by rw [← hH3]; exact same_new fhd
        have hh3 : H3 hd = some (.lst (intsV as)) := by
          rw [← hH3, upd_same]
          exact congrArg (fun z => some (HO.lst z)) ecut
        obtain ⟨dx2, v2, hln2, oln2, trk2⟩ := hL.at_
        refine ⟨own, ln, hd, o, t, p, as, cl, rfl, hL.same s3, hg, ht, hh3, trk2.free fhd, hdec, fun own4 H4 q hL4 hq4 oq4 hk4 => ?_⟩
        have ntl : tl ≠ ln := ne_of htl hln2 (by intro z; cases z)
        obtain ⟨t1, t2, t3⟩ := hk4 tl _ (s3 _ _ htl) otl ntl
        have hrs := hR'.short
        rw [List.length_append, List.length_cons] at hrs
        have hsz := sizeLine_eq
        -- told.append(len(answer))
        refine ⟨_, rfl, .inl ⟨rfl, _, SqL.of t1⟩, _, rfl, q, _, rfl, .inl (SqL.of hq4), tl, _, _, rfl, rfl, t1, (by rw [List.length_map]; omega), ?_⟩
        -- told.extend(answer)
        refine ⟨_, rfl, .inl ⟨rfl, _, SqL.of upd_same⟩, _, rfl, tl, q, _, _, rfl, rfl, upd_same, (by rw [upd_ne (Ne.symm t3)]; exact hq4), (by rw [List.length_append, List.length_map, List.length_map, List.length_singleton]; omega), ?_⟩
        refine ⟨_, rfl, ?_⟩
        rw [upd_upd]
        have eb : (kk : Int) + 1 + (n : Int) = ((kk + 1 + n : Nat) : Int) := by omega
        refine ⟨⟨own4, _, kk + 1 + n, t + 1, _, some (.int (p : Nat)), some (.int ((kk : Int) + 1 + (n : Int))), some (.ref q), ?_, hL4.updOut t1 t2, ?_, t2, hR', hle, fun b u e => ?_⟩, ?_⟩
        · rw [← eb]
          rfl
        · rw [upd_same, List.map_append, List.map_cons, List.length_map, List.append_assoc]
          rfl
        · obtain ⟨e2, o2⟩ := hk b u e
          have nb : b ≠ ln := fun q => by
            rw [q, nln] at e
            cases e
          obtain ⟨e4, o4, _⟩ := hk4 b u (s3 _ _ e2) o2 nb
          have ntb : b ≠ tl := fun q => by
            have z := s1 _ _ e
            rw [q, ftl] at z
            cases z
          exact ⟨by rw [upd_ne ntb]; exact e4, o4⟩
        · show l.length - ((kk : Int) + 1 + (n : Int)).toNat < l.length - ((kk : Nat) : Int).toNat
          omega
      · rw [intsV_len] at z
        have e := hR.done (by omega)
        rw [e] at htl
        exact ⟨_, rfl, k H2 tl htl⟩
    · intro σ H2 Q1 Q2 hq hc
      obtain ⟨v, h1, v', h2, p, ys, h3, h4, i, j, h5, h6, b, h7, h8⟩ := hc
      exact ⟨v, h1, v', h2, p, ys, h3, h4, i, j, h5, h6, b, h7, hq _ _ h8⟩
end
end Bo

set_option Elab.async false
set_option maxRecDepth 100000
set_option maxHeartbeats 2000000
/-! The end: what the top has written, every address a letter; the last theorem. -/
namespace Bo
open PySem PySem.Spec PyProof.Rows L2
theorem txt_mk {K : PySem.W.Frag} {h : Heap} {mg : Str → Option Value} (X : K.In h) (G : h.Ns mainGlobals mg) {aT a_Node fi_Node a_Letter fi_Letter a_World fi_World a_Line fi_Line a_sum_of a_send a_begin a_write a_ask a_cells_behind a_answer_ask a_accept_answer a_hand_over a_take a_keep a_lose a_standing_at a_put_at a_spoil a_stop a_start a_tell_letters a_tell_node a_tell_whole a_tell_at a_change_world a_look_at_world a_answer_in_world a_answer_call a_answers : Addr} {t_STORE t_CELLS t_PIECES t_PIECE_CELLS t_MOST_WRITES t_HIGHEST t_ROOM t_DIVISOR t_ASK_LETTER t_ANSWER_LETTER t_ANSWER_HEAD t_ANSWER_CELL t_NO_USE t_ANSWERED t_GOES_ON t_FOUND_SPOILED t_NO_SUCH t_ALREADY t_MIXTURE t_STOPPED t_SPOILED_BEFORE t_NO_MORE_WRITES t_NO_WORLD t_BEGIN t_WRITE t_ASK t_TAKE t_KEEP t_LOSE t_SPOIL t_STOP t_START t_LETTERS t_NODE t_WHOLE tt0 tt1 tt2 tt3 tt4 tt5 tt6 tt7 tt8 tt9 tt10 tt11 tt12 : Tok} {odT odi_Node ani_Node odi_Letter ani_Letter odi_World ani_World odi_Line ani_Line od_sum_of an_sum_of od_send an_send od_begin an_begin od_write an_write od_ask an_ask od_cells_behind an_cells_behind od_answer_ask an_answer_ask od_accept_answer an_accept_answer od_hand_over an_hand_over od_take an_take od_keep an_keep od_lose an_lose od_standing_at an_standing_at od_put_at an_put_at od_spoil an_spoil od_stop an_stop od_start an_start od_tell_letters an_tell_letters od_tell_node an_tell_node od_tell_whole an_tell_whole od_tell_at an_tell_at od_change_world an_change_world od_look_at_world an_look_at_world od_answer_in_world an_answer_in_world od_answer_call an_answer_call od_answers an_answers : Option Addr} {slT sli_Node sli_Letter sli_World sli_Line sl_sum_of sl_send sl_begin sl_write sl_ask sl_cells_behind sl_answer_ask sl_accept_answer sl_hand_over sl_take sl_keep sl_lose sl_standing_at sl_put_at sl_spoil sl_stop sl_start sl_tell_letters sl_tell_node sl_tell_whole sl_tell_at sl_change_world sl_look_at_world sl_answer_in_world sl_answer_call sl_answers : Array (Option Value)} {oc_Node kV_Node dc_Node pm_Node cd_Node ct_Node oc_Letter kV_Letter dc_Letter pm_Letter cd_Letter ct_Letter oc_World kV_World dc_World pm_World cd_World ct_World oc_Line kV_Line dc_Line pm_Line cd_Line ct_Line oc_sum_of kV_sum_of dc_sum_of pm_sum_of cd_sum_of ct_sum_of oc_send kV_send dc_send pm_send cd_send ct_send oc_begin kV_begin dc_begin pm_begin cd_begin ct_begin oc_write kV_write dc_write pm_write cd_write ct_write oc_ask kV_ask dc_ask pm_ask cd_ask ct_ask oc_cells_behind kV_cells_behind dc_cells_behind pm_cells_behind cd_cells_behind ct_cells_behind oc_answer_ask kV_answer_ask dc_answer_ask pm_answer_ask cd_answer_ask ct_answer_ask oc_accept_answer kV_accept_answer dc_accept_answer pm_accept_answer cd_accept_answer ct_accept_answer oc_hand_over kV_hand_over dc_hand_over pm_hand_over cd_hand_over ct_hand_over oc_take kV_take dc_take pm_take cd_take ct_take oc_keep kV_keep dc_keep pm_keep cd_keep ct_keep oc_lose kV_lose dc_lose pm_lose cd_lose ct_lose oc_standing_at kV_standing_at dc_standing_at pm_standing_at cd_standing_at ct_standing_at oc_put_at kV_put_at dc_put_at pm_put_at cd_put_at ct_put_at oc_spoil kV_spoil dc_spoil pm_spoil cd_spoil ct_spoil oc_stop kV_stop dc_stop pm_stop cd_stop ct_stop oc_start kV_start dc_start pm_start cd_start ct_start oc_tell_letters kV_tell_letters dc_tell_letters pm_tell_letters cd_tell_letters ct_tell_letters oc_tell_node kV_tell_node dc_tell_node pm_tell_node cd_tell_node ct_tell_node oc_tell_whole kV_tell_whole dc_tell_whole pm_tell_whole cd_tell_whole ct_tell_whole oc_tell_at kV_tell_at dc_tell_at pm_tell_at cd_tell_at ct_tell_at oc_change_world kV_change_world dc_change_world pm_change_world cd_change_world ct_change_world oc_look_at_world kV_look_at_world dc_look_at_world pm_look_at_world cd_look_at_world ct_look_at_world oc_answer_in_world kV_answer_in_world dc_answer_in_world pm_answer_in_world cd_answer_in_world ct_answer_in_world oc_answer_call kV_answer_call dc_answer_call pm_answer_call cd_answer_call ct_answer_call oc_answers kV_answers dc_answers pm_answers cd_answers ct_answers : Value} {nT : Nat}
    (z_enumerate : PySem.W.nsIn K mainGlobals "enumerate" = some none)
    (z_len : PySem.W.nsIn K mainGlobals "len" = some none)
    (z_max : PySem.W.nsIn K mainGlobals "max" = some none)
    (z_min : PySem.W.nsIn K mainGlobals "min" = some none)
    (z_range : PySem.W.nsIn K mainGlobals "range" = some none)
    (hc_STORE : PySem.W.nsIn K mainGlobals "STORE" = some (some (.int 0 t_STORE)))
    (hc_CELLS : PySem.W.nsIn K mainGlobals "CELLS" = some (some (.int 12 t_CELLS)))
    (hc_PIECES : PySem.W.nsIn K mainGlobals "PIECES" = some (some (.int 4 t_PIECES)))
    (hc_PIECE_CELLS : PySem.W.nsIn K mainGlobals "PIECE_CELLS" = some (some (.int 3 t_PIECE_CELLS)))
    (hc_MOST_WRITES : PySem.W.nsIn K mainGlobals "MOST_WRITES" = some (some (.int 9999 t_MOST_WRITES)))
    (hc_HIGHEST : PySem.W.nsIn K mainGlobals "HIGHEST" = some (some (.int 9999 t_HIGHEST)))
    (hc_ROOM : PySem.W.nsIn K mainGlobals "ROOM" = some (some (.int 100 t_ROOM)))
    (hc_DIVISOR : PySem.W.nsIn K mainGlobals "DIVISOR" = some (some (.int 10007 t_DIVISOR)))
    (hc_ASK_LETTER : PySem.W.nsIn K mainGlobals "ASK_LETTER" = some (some (.int 0 t_ASK_LETTER)))
    (hc_ANSWER_LETTER : PySem.W.nsIn K mainGlobals "ANSWER_LETTER" = some (some (.int 1 t_ANSWER_LETTER)))
    (hc_ANSWER_HEAD : PySem.W.nsIn K mainGlobals "ANSWER_HEAD" = some (some (.int 5 t_ANSWER_HEAD)))
    (hc_ANSWER_CELL : PySem.W.nsIn K mainGlobals "ANSWER_CELL" = some (some (.int 3 t_ANSWER_CELL)))
    (hc_NO_USE : PySem.W.nsIn K mainGlobals "NO_USE" = some (some (.int 0 t_NO_USE)))
    (hc_ANSWERED : PySem.W.nsIn K mainGlobals "ANSWERED" = some (some (.int 1 t_ANSWERED)))
    (hc_GOES_ON : PySem.W.nsIn K mainGlobals "GOES_ON" = some (some (.int 2 t_GOES_ON)))
    (hc_FOUND_SPOILED : PySem.W.nsIn K mainGlobals "FOUND_SPOILED" = some (some (.int 3 t_FOUND_SPOILED)))
    (hc_NO_SUCH : PySem.W.nsIn K mainGlobals "NO_SUCH" = some (some (.int (-1) t_NO_SUCH)))
    (hc_ALREADY : PySem.W.nsIn K mainGlobals "ALREADY" = some (some (.int (-2) t_ALREADY)))
    (hc_MIXTURE : PySem.W.nsIn K mainGlobals "MIXTURE" = some (some (.int (-2) t_MIXTURE)))
    (hc_STOPPED : PySem.W.nsIn K mainGlobals "STOPPED" = some (some (.int (-3) t_STOPPED)))
    (hc_SPOILED_BEFORE : PySem.W.nsIn K mainGlobals "SPOILED_BEFORE" = some (some (.int (-4) t_SPOILED_BEFORE)))
    (hc_NO_MORE_WRITES : PySem.W.nsIn K mainGlobals "NO_MORE_WRITES" = some (some (.int (-5) t_NO_MORE_WRITES)))
    (hc_NO_WORLD : PySem.W.nsIn K mainGlobals "NO_WORLD" = some (some (.int (-9) t_NO_WORLD)))
    (hc_BEGIN : PySem.W.nsIn K mainGlobals "BEGIN" = some (some (.int 0 t_BEGIN)))
    (hc_WRITE : PySem.W.nsIn K mainGlobals "WRITE" = some (some (.int 1 t_WRITE)))
    (hc_ASK : PySem.W.nsIn K mainGlobals "ASK" = some (some (.int 2 t_ASK)))
    (hc_TAKE : PySem.W.nsIn K mainGlobals "TAKE" = some (some (.int 3 t_TAKE)))
    (hc_KEEP : PySem.W.nsIn K mainGlobals "KEEP" = some (some (.int 4 t_KEEP)))
    (hc_LOSE : PySem.W.nsIn K mainGlobals "LOSE" = some (some (.int 5 t_LOSE)))
    (hc_SPOIL : PySem.W.nsIn K mainGlobals "SPOIL" = some (some (.int 6 t_SPOIL)))
    (hc_STOP : PySem.W.nsIn K mainGlobals "STOP" = some (some (.int 7 t_STOP)))
    (hc_START : PySem.W.nsIn K mainGlobals "START" = some (some (.int 8 t_START)))
    (hc_LETTERS : PySem.W.nsIn K mainGlobals "LETTERS" = some (some (.int 9 t_LETTERS)))
    (hc_NODE : PySem.W.nsIn K mainGlobals "NODE" = some (some (.int 10 t_NODE)))
    (hc_WHOLE : PySem.W.nsIn K mainGlobals "WHOLE" = some (some (.int 11 t_WHOLE)))
    (ht_HANDED : PySem.W.nsIn K mainGlobals "HANDED" = some (some (.ref aT)))
    (hq_HANDED : K.lookup aT = some ⟨.type "tuple", odT, .seq #[.int 1 tt0, .int 2 tt1, .int 3 tt2, .int 1 tt3, .int 1 tt4, .int 1 tt5, .int 3 tt6, .int 1 tt7, .int 1 tt8, .int 0 tt9, .int 1 tt10, .int 1 tt11, .int 1 tt12] nT, slT⟩)
    (g_Node : PySem.W.nsIn K mainGlobals "Node" = some (some (.ref a_Node)))
    (i1_Node : PySem.W.findIn K (.ref a_Node) "__init__" = some (some (.ref fi_Node)))
    (i2_Node : PySem.W.isFn K (.ref fi_Node) = true)
    (i3_Node : K.lookup fi_Node = some ⟨oc_Node, odi_Node, .func (PySem.W.fnOf "__init__" "Node.__init__" (defArgs s_Node_init) (defBody s_Node_init) (defScope s_Node_init) .none kV_Node dc_Node pm_Node ani_Node cd_Node ct_Node), sli_Node⟩)
    (i4_Node : PySem.W.codeIn K cd_Node "Node.__init__" = true)
    (i5_Node : PySem.W.keepIn K (.ref fi_Node) = true)
    (p1_Node : PySem.W.plainGet K a_Node Str.empty = true)
    (p2_Node : PySem.W.hasDictIn K a_Node = true)
    (p3_Node : PySem.W.plainOver K a_Node = true)
    (p4_Node : PySem.W.findIn K (.ref a_Node) "__setattr__" = some (some (.builtin "object.__setattr__")))
    (p5_Node : PySem.W.makesIn K a_Node = true)
    (p6_Node : PySem.W.keepIn K (.ref a_Node) = true)
    (hn_Node_runs : PySem.W.findIn K (.ref a_Node) "runs" = some none)
    (hn_Node_asked : PySem.W.findIn K (.ref a_Node) "asked" = some none)
    (hn_Node_upto : PySem.W.findIn K (.ref a_Node) "upto" = some none)
    (hn_Node_held : PySem.W.findIn K (.ref a_Node) "held" = some none)
    (hn_Node_written : PySem.W.findIn K (.ref a_Node) "written" = some none)
    (hn_Node_waits : PySem.W.findIn K (.ref a_Node) "waits" = some none)
    (g_Letter : PySem.W.nsIn K mainGlobals "Letter" = some (some (.ref a_Letter)))
    (i1_Letter : PySem.W.findIn K (.ref a_Letter) "__init__" = some (some (.ref fi_Letter)))
    (i2_Letter : PySem.W.isFn K (.ref fi_Letter) = true)
    (i3_Letter : K.lookup fi_Letter = some ⟨oc_Letter, odi_Letter, .func (PySem.W.fnOf "__init__" "Letter.__init__" (defArgs s_Letter_init) (defBody s_Letter_init) (defScope s_Letter_init) .none kV_Letter dc_Letter pm_Letter ani_Letter cd_Letter ct_Letter), sli_Letter⟩)
    (i4_Letter : PySem.W.codeIn K cd_Letter "Letter.__init__" = true)
    (i5_Letter : PySem.W.keepIn K (.ref fi_Letter) = true)
    (p1_Letter : PySem.W.plainGet K a_Letter Str.empty = true)
    (p2_Letter : PySem.W.hasDictIn K a_Letter = true)
    (p3_Letter : PySem.W.plainOver K a_Letter = true)
    (p4_Letter : PySem.W.findIn K (.ref a_Letter) "__setattr__" = some (some (.builtin "object.__setattr__")))
    (p5_Letter : PySem.W.makesIn K a_Letter = true)
    (p6_Letter : PySem.W.keepIn K (.ref a_Letter) = true)
    (hn_Letter_kind : PySem.W.findIn K (.ref a_Letter) "kind" = some none)
    (hn_Letter_receiver : PySem.W.findIn K (.ref a_Letter) "receiver" = some none)
    (hn_Letter_sender : PySem.W.findIn K (.ref a_Letter) "sender" = some none)
    (hn_Letter_numbers : PySem.W.findIn K (.ref a_Letter) "numbers" = some none)
    (hn_Letter_checksum : PySem.W.findIn K (.ref a_Letter) "checksum" = some none)
    (hn_Letter_spoiled : PySem.W.findIn K (.ref a_Letter) "spoiled" = some none)
    (g_World : PySem.W.nsIn K mainGlobals "World" = some (some (.ref a_World)))
    (i1_World : PySem.W.findIn K (.ref a_World) "__init__" = some (some (.ref fi_World)))
    (i2_World : PySem.W.isFn K (.ref fi_World) = true)
    (i3_World : K.lookup fi_World = some ⟨oc_World, odi_World, .func (PySem.W.fnOf "__init__" "World.__init__" (defArgs s_World_init) (defBody s_World_init) (defScope s_World_init) .none kV_World dc_World pm_World ani_World cd_World ct_World), sli_World⟩)
    (i4_World : PySem.W.codeIn K cd_World "World.__init__" = true)
    (i5_World : PySem.W.keepIn K (.ref fi_World) = true)
    (p1_World : PySem.W.plainGet K a_World Str.empty = true)
    (p2_World : PySem.W.hasDictIn K a_World = true)
    (p3_World : PySem.W.plainOver K a_World = true)
    (p4_World : PySem.W.findIn K (.ref a_World) "__setattr__" = some (some (.builtin "object.__setattr__")))
    (p5_World : PySem.W.makesIn K a_World = true)
    (p6_World : PySem.W.keepIn K (.ref a_World) = true)
    (hn_World_nodes : PySem.W.findIn K (.ref a_World) "nodes" = some none)
    (hn_World_row : PySem.W.findIn K (.ref a_World) "row" = some none)
    (hn_World_writes : PySem.W.findIn K (.ref a_World) "writes" = some none)
    (g_Line : PySem.W.nsIn K mainGlobals "Line" = some (some (.ref a_Line)))
    (i1_Line : PySem.W.findIn K (.ref a_Line) "__init__" = some (some (.ref fi_Line)))
    (i2_Line : PySem.W.isFn K (.ref fi_Line) = true)
    (i3_Line : K.lookup fi_Line = some ⟨oc_Line, odi_Line, .func (PySem.W.fnOf "__init__" "Line.__init__" (defArgs s_Line_init) (defBody s_Line_init) (defScope s_Line_init) .none kV_Line dc_Line pm_Line ani_Line cd_Line ct_Line), sli_Line⟩)
    (i4_Line : PySem.W.codeIn K cd_Line "Line.__init__" = true)
    (i5_Line : PySem.W.keepIn K (.ref fi_Line) = true)
    (p1_Line : PySem.W.plainGet K a_Line Str.empty = true)
    (p2_Line : PySem.W.hasDictIn K a_Line = true)
    (p3_Line : PySem.W.plainOver K a_Line = true)
    (p4_Line : PySem.W.findIn K (.ref a_Line) "__setattr__" = some (some (.builtin "object.__setattr__")))
    (p5_Line : PySem.W.makesIn K a_Line = true)
    (p6_Line : PySem.W.keepIn K (.ref a_Line) = true)
    (hn_Line_world : PySem.W.findIn K (.ref a_Line) "world" = some none)
    (d1_sum_of : PySem.W.nsIn K mainGlobals "sum_of" = some (some (.ref a_sum_of)))
    (d2_sum_of : K.lookup a_sum_of = some ⟨oc_sum_of, od_sum_of, .func (PySem.W.fnOf "sum_of" "sum_of" (defArgs s_sum_of) (defBody s_sum_of) (defScope s_sum_of) .none kV_sum_of dc_sum_of pm_sum_of an_sum_of cd_sum_of ct_sum_of), sl_sum_of⟩)
    (d3_sum_of : PySem.W.codeIn K cd_sum_of "sum_of" = true)
    (d4_sum_of : PySem.W.keepIn K (.ref a_sum_of) = true)
    (d1_send : PySem.W.nsIn K mainGlobals "send" = some (some (.ref a_send)))
    (d2_send : K.lookup a_send = some ⟨oc_send, od_send, .func (PySem.W.fnOf "send" "send" (defArgs s_send) (defBody s_send) (defScope s_send) .none kV_send dc_send pm_send an_send cd_send ct_send), sl_send⟩)
    (d3_send : PySem.W.codeIn K cd_send "send" = true)
    (d4_send : PySem.W.keepIn K (.ref a_send) = true)
    (d1_begin : PySem.W.nsIn K mainGlobals "begin" = some (some (.ref a_begin)))
    (d2_begin : K.lookup a_begin = some ⟨oc_begin, od_begin, .func (PySem.W.fnOf "begin" "begin" (defArgs s_begin) (defBody s_begin) (defScope s_begin) .none kV_begin dc_begin pm_begin an_begin cd_begin ct_begin), sl_begin⟩)
    (d3_begin : PySem.W.codeIn K cd_begin "begin" = true)
    (d4_begin : PySem.W.keepIn K (.ref a_begin) = true)
    (d1_write : PySem.W.nsIn K mainGlobals "write" = some (some (.ref a_write)))
    (d2_write : K.lookup a_write = some ⟨oc_write, od_write, .func (PySem.W.fnOf "write" "write" (defArgs s_write) (defBody s_write) (defScope s_write) .none kV_write dc_write pm_write an_write cd_write ct_write), sl_write⟩)
    (d3_write : PySem.W.codeIn K cd_write "write" = true)
    (d4_write : PySem.W.keepIn K (.ref a_write) = true)
    (d1_ask : PySem.W.nsIn K mainGlobals "ask" = some (some (.ref a_ask)))
    (d2_ask : K.lookup a_ask = some ⟨oc_ask, od_ask, .func (PySem.W.fnOf "ask" "ask" (defArgs s_ask) (defBody s_ask) (defScope s_ask) .none kV_ask dc_ask pm_ask an_ask cd_ask ct_ask), sl_ask⟩)
    (d3_ask : PySem.W.codeIn K cd_ask "ask" = true)
    (d4_ask : PySem.W.keepIn K (.ref a_ask) = true)
    (d1_cells_behind : PySem.W.nsIn K mainGlobals "cells_behind" = some (some (.ref a_cells_behind)))
    (d2_cells_behind : K.lookup a_cells_behind = some ⟨oc_cells_behind, od_cells_behind, .func (PySem.W.fnOf "cells_behind" "cells_behind" (defArgs s_cells_behind) (defBody s_cells_behind) (defScope s_cells_behind) .none kV_cells_behind dc_cells_behind pm_cells_behind an_cells_behind cd_cells_behind ct_cells_behind), sl_cells_behind⟩)
    (d3_cells_behind : PySem.W.codeIn K cd_cells_behind "cells_behind" = true)
    (d4_cells_behind : PySem.W.keepIn K (.ref a_cells_behind) = true)
    (d1_answer_ask : PySem.W.nsIn K mainGlobals "answer_ask" = some (some (.ref a_answer_ask)))
    (d2_answer_ask : K.lookup a_answer_ask = some ⟨oc_answer_ask, od_answer_ask, .func (PySem.W.fnOf "answer_ask" "answer_ask" (defArgs s_answer_ask) (defBody s_answer_ask) (defScope s_answer_ask) .none kV_answer_ask dc_answer_ask pm_answer_ask an_answer_ask cd_answer_ask ct_answer_ask), sl_answer_ask⟩)
    (d3_answer_ask : PySem.W.codeIn K cd_answer_ask "answer_ask" = true)
    (d4_answer_ask : PySem.W.keepIn K (.ref a_answer_ask) = true)
    (d1_accept_answer : PySem.W.nsIn K mainGlobals "accept_answer" = some (some (.ref a_accept_answer)))
    (d2_accept_answer : K.lookup a_accept_answer = some ⟨oc_accept_answer, od_accept_answer, .func (PySem.W.fnOf "accept_answer" "accept_answer" (defArgs s_accept_answer) (defBody s_accept_answer) (defScope s_accept_answer) .none kV_accept_answer dc_accept_answer pm_accept_answer an_accept_answer cd_accept_answer ct_accept_answer), sl_accept_answer⟩)
    (d3_accept_answer : PySem.W.codeIn K cd_accept_answer "accept_answer" = true)
    (d4_accept_answer : PySem.W.keepIn K (.ref a_accept_answer) = true)
    (d1_hand_over : PySem.W.nsIn K mainGlobals "hand_over" = some (some (.ref a_hand_over)))
    (d2_hand_over : K.lookup a_hand_over = some ⟨oc_hand_over, od_hand_over, .func (PySem.W.fnOf "hand_over" "hand_over" (defArgs s_hand_over) (defBody s_hand_over) (defScope s_hand_over) .none kV_hand_over dc_hand_over pm_hand_over an_hand_over cd_hand_over ct_hand_over), sl_hand_over⟩)
    (d3_hand_over : PySem.W.codeIn K cd_hand_over "hand_over" = true)
    (d4_hand_over : PySem.W.keepIn K (.ref a_hand_over) = true)
    (d1_take : PySem.W.nsIn K mainGlobals "take" = some (some (.ref a_take)))
    (d2_take : K.lookup a_take = some ⟨oc_take, od_take, .func (PySem.W.fnOf "take" "take" (defArgs s_take) (defBody s_take) (defScope s_take) .none kV_take dc_take pm_take an_take cd_take ct_take), sl_take⟩)
    (d3_take : PySem.W.codeIn K cd_take "take" = true)
    (d4_take : PySem.W.keepIn K (.ref a_take) = true)
    (d1_keep : PySem.W.nsIn K mainGlobals "keep" = some (some (.ref a_keep)))
    (d2_keep : K.lookup a_keep = some ⟨oc_keep, od_keep, .func (PySem.W.fnOf "keep" "keep" (defArgs s_keep) (defBody s_keep) (defScope s_keep) .none kV_keep dc_keep pm_keep an_keep cd_keep ct_keep), sl_keep⟩)
    (d3_keep : PySem.W.codeIn K cd_keep "keep" = true)
    (d4_keep : PySem.W.keepIn K (.ref a_keep) = true)
    (d1_lose : PySem.W.nsIn K mainGlobals "lose" = some (some (.ref a_lose)))
    (d2_lose : K.lookup a_lose = some ⟨oc_lose, od_lose, .func (PySem.W.fnOf "lose" "lose" (defArgs s_lose) (defBody s_lose) (defScope s_lose) .none kV_lose dc_lose pm_lose an_lose cd_lose ct_lose), sl_lose⟩)
    (d3_lose : PySem.W.codeIn K cd_lose "lose" = true)
    (d4_lose : PySem.W.keepIn K (.ref a_lose) = true)
    (d1_standing_at : PySem.W.nsIn K mainGlobals "standing_at" = some (some (.ref a_standing_at)))
    (d2_standing_at : K.lookup a_standing_at = some ⟨oc_standing_at, od_standing_at, .func (PySem.W.fnOf "standing_at" "standing_at" (defArgs s_standing_at) (defBody s_standing_at) (defScope s_standing_at) .none kV_standing_at dc_standing_at pm_standing_at an_standing_at cd_standing_at ct_standing_at), sl_standing_at⟩)
    (d3_standing_at : PySem.W.codeIn K cd_standing_at "standing_at" = true)
    (d4_standing_at : PySem.W.keepIn K (.ref a_standing_at) = true)
    (d1_put_at : PySem.W.nsIn K mainGlobals "put_at" = some (some (.ref a_put_at)))
    (d2_put_at : K.lookup a_put_at = some ⟨oc_put_at, od_put_at, .func (PySem.W.fnOf "put_at" "put_at" (defArgs s_put_at) (defBody s_put_at) (defScope s_put_at) .none kV_put_at dc_put_at pm_put_at an_put_at cd_put_at ct_put_at), sl_put_at⟩)
    (d3_put_at : PySem.W.codeIn K cd_put_at "put_at" = true)
    (d4_put_at : PySem.W.keepIn K (.ref a_put_at) = true)
    (d1_spoil : PySem.W.nsIn K mainGlobals "spoil" = some (some (.ref a_spoil)))
    (d2_spoil : K.lookup a_spoil = some ⟨oc_spoil, od_spoil, .func (PySem.W.fnOf "spoil" "spoil" (defArgs s_spoil) (defBody s_spoil) (defScope s_spoil) .none kV_spoil dc_spoil pm_spoil an_spoil cd_spoil ct_spoil), sl_spoil⟩)
    (d3_spoil : PySem.W.codeIn K cd_spoil "spoil" = true)
    (d4_spoil : PySem.W.keepIn K (.ref a_spoil) = true)
    (d1_stop : PySem.W.nsIn K mainGlobals "stop" = some (some (.ref a_stop)))
    (d2_stop : K.lookup a_stop = some ⟨oc_stop, od_stop, .func (PySem.W.fnOf "stop" "stop" (defArgs s_stop) (defBody s_stop) (defScope s_stop) .none kV_stop dc_stop pm_stop an_stop cd_stop ct_stop), sl_stop⟩)
    (d3_stop : PySem.W.codeIn K cd_stop "stop" = true)
    (d4_stop : PySem.W.keepIn K (.ref a_stop) = true)
    (d1_start : PySem.W.nsIn K mainGlobals "start" = some (some (.ref a_start)))
    (d2_start : K.lookup a_start = some ⟨oc_start, od_start, .func (PySem.W.fnOf "start" "start" (defArgs s_start) (defBody s_start) (defScope s_start) .none kV_start dc_start pm_start an_start cd_start ct_start), sl_start⟩)
    (d3_start : PySem.W.codeIn K cd_start "start" = true)
    (d4_start : PySem.W.keepIn K (.ref a_start) = true)
    (d1_tell_letters : PySem.W.nsIn K mainGlobals "tell_letters" = some (some (.ref a_tell_letters)))
    (d2_tell_letters : K.lookup a_tell_letters = some ⟨oc_tell_letters, od_tell_letters, .func (PySem.W.fnOf "tell_letters" "tell_letters" (defArgs s_tell_letters) (defBody s_tell_letters) (defScope s_tell_letters) .none kV_tell_letters dc_tell_letters pm_tell_letters an_tell_letters cd_tell_letters ct_tell_letters), sl_tell_letters⟩)
    (d3_tell_letters : PySem.W.codeIn K cd_tell_letters "tell_letters" = true)
    (d4_tell_letters : PySem.W.keepIn K (.ref a_tell_letters) = true)
    (d1_tell_node : PySem.W.nsIn K mainGlobals "tell_node" = some (some (.ref a_tell_node)))
    (d2_tell_node : K.lookup a_tell_node = some ⟨oc_tell_node, od_tell_node, .func (PySem.W.fnOf "tell_node" "tell_node" (defArgs s_tell_node) (defBody s_tell_node) (defScope s_tell_node) .none kV_tell_node dc_tell_node pm_tell_node an_tell_node cd_tell_node ct_tell_node), sl_tell_node⟩)
    (d3_tell_node : PySem.W.codeIn K cd_tell_node "tell_node" = true)
    (d4_tell_node : PySem.W.keepIn K (.ref a_tell_node) = true)
    (d1_tell_whole : PySem.W.nsIn K mainGlobals "tell_whole" = some (some (.ref a_tell_whole)))
    (d2_tell_whole : K.lookup a_tell_whole = some ⟨oc_tell_whole, od_tell_whole, .func (PySem.W.fnOf "tell_whole" "tell_whole" (defArgs s_tell_whole) (defBody s_tell_whole) (defScope s_tell_whole) .none kV_tell_whole dc_tell_whole pm_tell_whole an_tell_whole cd_tell_whole ct_tell_whole), sl_tell_whole⟩)
    (d3_tell_whole : PySem.W.codeIn K cd_tell_whole "tell_whole" = true)
    (d4_tell_whole : PySem.W.keepIn K (.ref a_tell_whole) = true)
    (d1_tell_at : PySem.W.nsIn K mainGlobals "tell_at" = some (some (.ref a_tell_at)))
    (d2_tell_at : K.lookup a_tell_at = some ⟨oc_tell_at, od_tell_at, .func (PySem.W.fnOf "tell_at" "tell_at" (defArgs s_tell_at) (defBody s_tell_at) (defScope s_tell_at) .none kV_tell_at dc_tell_at pm_tell_at an_tell_at cd_tell_at ct_tell_at), sl_tell_at⟩)
    (d3_tell_at : PySem.W.codeIn K cd_tell_at "tell_at" = true)
    (d4_tell_at : PySem.W.keepIn K (.ref a_tell_at) = true)
    (d1_change_world : PySem.W.nsIn K mainGlobals "change_world" = some (some (.ref a_change_world)))
    (d2_change_world : K.lookup a_change_world = some ⟨oc_change_world, od_change_world, .func (PySem.W.fnOf "change_world" "change_world" (defArgs s_change_world) (defBody s_change_world) (defScope s_change_world) .none kV_change_world dc_change_world pm_change_world an_change_world cd_change_world ct_change_world), sl_change_world⟩)
    (d3_change_world : PySem.W.codeIn K cd_change_world "change_world" = true)
    (d4_change_world : PySem.W.keepIn K (.ref a_change_world) = true)
    (d1_look_at_world : PySem.W.nsIn K mainGlobals "look_at_world" = some (some (.ref a_look_at_world)))
    (d2_look_at_world : K.lookup a_look_at_world = some ⟨oc_look_at_world, od_look_at_world, .func (PySem.W.fnOf "look_at_world" "look_at_world" (defArgs s_look_at_world) (defBody s_look_at_world) (defScope s_look_at_world) .none kV_look_at_world dc_look_at_world pm_look_at_world an_look_at_world cd_look_at_world ct_look_at_world), sl_look_at_world⟩)
    (d3_look_at_world : PySem.W.codeIn K cd_look_at_world "look_at_world" = true)
    (d4_look_at_world : PySem.W.keepIn K (.ref a_look_at_world) = true)
    (d1_answer_in_world : PySem.W.nsIn K mainGlobals "answer_in_world" = some (some (.ref a_answer_in_world)))
    (d2_answer_in_world : K.lookup a_answer_in_world = some ⟨oc_answer_in_world, od_answer_in_world, .func (PySem.W.fnOf "answer_in_world" "answer_in_world" (defArgs s_answer_in_world) (defBody s_answer_in_world) (defScope s_answer_in_world) .none kV_answer_in_world dc_answer_in_world pm_answer_in_world an_answer_in_world cd_answer_in_world ct_answer_in_world), sl_answer_in_world⟩)
    (d3_answer_in_world : PySem.W.codeIn K cd_answer_in_world "answer_in_world" = true)
    (d4_answer_in_world : PySem.W.keepIn K (.ref a_answer_in_world) = true)
    (d1_answer_call : PySem.W.nsIn K mainGlobals "answer_call" = some (some (.ref a_answer_call)))
    (d2_answer_call : K.lookup a_answer_call = some ⟨oc_answer_call, od_answer_call, .func (PySem.W.fnOf "answer_call" "answer_call" (defArgs s_answer_call) (defBody s_answer_call) (defScope s_answer_call) .none kV_answer_call dc_answer_call pm_answer_call an_answer_call cd_answer_call ct_answer_call), sl_answer_call⟩)
    (d3_answer_call : PySem.W.codeIn K cd_answer_call "answer_call" = true)
    (d4_answer_call : PySem.W.keepIn K (.ref a_answer_call) = true)
    (d1_answers : PySem.W.nsIn K mainGlobals "answers" = some (some (.ref a_answers)))
    (d2_answers : K.lookup a_answers = some ⟨oc_answers, od_answers, .func (PySem.W.fnOf "answers" "answers" (defArgs s_answers) (defBody s_answers) (defScope s_answers) .none kV_answers dc_answers pm_answers an_answers cd_answers ct_answers), sl_answers⟩)
    (d3_answers : PySem.W.codeIn K cd_answers "answers" = true)
    (d4_answers : PySem.W.keepIn K (.ref a_answers) = true) :
    Txt K mg ⟨a_Node, a_Letter, a_World, a_Line, aT⟩ ∧ ∃ fd, Fun K "answers" "answers" s_answers a_answers fd ∧ (∀ (s : Shared) (us : List Value), us.length = (["calls"] : List Str).length → BindsTo s fd ⟨us, []⟩ ((["calls"] : List Str).zip us)) := by
  have F_Node := fun_mk (st := s_Node_init) i3_Node i4_Node i5_Node
  have b_Node := F_Node.binds (ps := ["self"]) fun _ _ _ _ _ _ us hl => match us, hl with | [_], _ => rfl
  have F_Letter := fun_mk (st := s_Letter_init) i3_Letter i4_Letter i5_Letter
  have b_Letter := F_Letter.binds (ps := ["self", "kind", "receiver", "sender", "numbers"]) fun _ _ _ _ _ _ us hl => match us, hl with | [_, _, _, _, _], _ => rfl
  have F_World := fun_mk (st := s_World_init) i3_World i4_World i5_World
  have b_World := F_World.binds (ps := ["self", "count"]) fun _ _ _ _ _ _ us hl => match us, hl with | [_, _], _ => rfl
  have F_Line := fun_mk (st := s_Line_init) i3_Line i4_Line i5_Line
  have b_Line := F_Line.binds (ps := ["self"]) fun _ _ _ _ _ _ us hl => match us, hl with | [_], _ => rfl
  have F_sum_of := fun_mk (st := s_sum_of) d2_sum_of d3_sum_of d4_sum_of
  have b_sum_of := F_sum_of.binds (ps := ["numbers"]) fun _ _ _ _ _ _ us hl => match us, hl with | [_], _ => rfl
  have F_send := fun_mk (st := s_send) d2_send d3_send d4_send
  have b_send := F_send.binds (ps := ["row", "letter"]) fun _ _ _ _ _ _ us hl => match us, hl with | [_, _], _ => rfl
  have F_begin := fun_mk (st := s_begin) d2_begin d3_begin d4_begin
  have b_begin := F_begin.binds (ps := ["line", "count"]) fun _ _ _ _ _ _ us hl => match us, hl with | [_, _], _ => rfl
  have F_write := fun_mk (st := s_write) d2_write d3_write d4_write
  have b_write := F_write.binds (ps := ["world", "cell", "value"]) fun _ _ _ _ _ _ us hl => match us, hl with | [_, _, _], _ => rfl
  have F_ask := fun_mk (st := s_ask) d2_ask d3_ask d4_ask
  have b_ask := F_ask.binds (ps := ["world", "asker", "whom", "piece"]) fun _ _ _ _ _ _ us hl => match us, hl with | [_, _, _, _], _ => rfl
  have F_cells_behind := fun_mk (st := s_cells_behind) d2_cells_behind d3_cells_behind d4_cells_behind
  have b_cells_behind := F_cells_behind.binds (ps := ["node", "piece", "since"]) fun _ _ _ _ _ _ us hl => match us, hl with | [_, _, _], _ => rfl
  have F_answer_ask := fun_mk (st := s_answer_ask) d2_answer_ask d3_answer_ask d4_answer_ask
  have b_answer_ask := F_answer_ask.binds (ps := ["world", "letter"]) fun _ _ _ _ _ _ us hl => match us, hl with | [_, _], _ => rfl
  have F_accept_answer := fun_mk (st := s_accept_answer) d2_accept_answer d3_accept_answer d4_accept_answer
  have b_accept_answer := F_accept_answer.binds (ps := ["node", "numbers"]) fun _ _ _ _ _ _ us hl => match us, hl with | [_, _], _ => rfl
  have F_hand_over := fun_mk (st := s_hand_over) d2_hand_over d3_hand_over d4_hand_over
  have b_hand_over := F_hand_over.binds (ps := ["world", "letter"]) fun _ _ _ _ _ _ us hl => match us, hl with | [_, _], _ => rfl
  have F_take := fun_mk (st := s_take) d2_take d3_take d4_take
  have b_take := F_take.binds (ps := ["world", "position"]) fun _ _ _ _ _ _ us hl => match us, hl with | [_, _], _ => rfl
  have F_keep := fun_mk (st := s_keep) d2_keep d3_keep d4_keep
  have b_keep := F_keep.binds (ps := ["world", "position"]) fun _ _ _ _ _ _ us hl => match us, hl with | [_, _], _ => rfl
  have F_lose := fun_mk (st := s_lose) d2_lose d3_lose d4_lose
  have b_lose := F_lose.binds (ps := ["world", "position"]) fun _ _ _ _ _ _ us hl => match us, hl with | [_, _], _ => rfl
  have F_standing_at := fun_mk (st := s_standing_at) d2_standing_at d3_standing_at d4_standing_at
  have b_standing_at := F_standing_at.binds (ps := ["letter", "place"]) fun _ _ _ _ _ _ us hl => match us, hl with | [_, _], _ => rfl
  have F_put_at := fun_mk (st := s_put_at) d2_put_at d3_put_at d4_put_at
  have b_put_at := F_put_at.binds (ps := ["letter", "place", "number"]) fun _ _ _ _ _ _ us hl => match us, hl with | [_, _, _], _ => rfl
  have F_spoil := fun_mk (st := s_spoil) d2_spoil d3_spoil d4_spoil
  have b_spoil := F_spoil.binds (ps := ["world", "position", "place", "number"]) fun _ _ _ _ _ _ us hl => match us, hl with | [_, _, _, _], _ => rfl
  have F_stop := fun_mk (st := s_stop) d2_stop d3_stop d4_stop
  have b_stop := F_stop.binds (ps := ["world", "number"]) fun _ _ _ _ _ _ us hl => match us, hl with | [_, _], _ => rfl
  have F_start := fun_mk (st := s_start) d2_start d3_start d4_start
  have b_start := F_start.binds (ps := ["world", "number"]) fun _ _ _ _ _ _ us hl => match us, hl with | [_, _], _ => rfl
  have F_tell_letters := fun_mk (st := s_tell_letters) d2_tell_letters d3_tell_letters d4_tell_letters
  have b_tell_letters := F_tell_letters.binds (ps := ["world"]) fun _ _ _ _ _ _ us hl => match us, hl with | [_], _ => rfl
  have F_tell_node := fun_mk (st := s_tell_node) d2_tell_node d3_tell_node d4_tell_node
  have b_tell_node := F_tell_node.binds (ps := ["world", "number"]) fun _ _ _ _ _ _ us hl => match us, hl with | [_, _], _ => rfl
  have F_tell_whole := fun_mk (st := s_tell_whole) d2_tell_whole d3_tell_whole d4_tell_whole
  have b_tell_whole := F_tell_whole.binds (ps := ["world", "number"]) fun _ _ _ _ _ _ us hl => match us, hl with | [_, _], _ => rfl
  have F_tell_at := fun_mk (st := s_tell_at) d2_tell_at d3_tell_at d4_tell_at
  have b_tell_at := F_tell_at.binds (ps := ["world", "moment"]) fun _ _ _ _ _ _ us hl => match us, hl with | [_, _], _ => rfl
  have F_change_world := fun_mk (st := s_change_world) d2_change_world d3_change_world d4_change_world
  have b_change_world := F_change_world.binds (ps := ["world", "call", "handed"]) fun _ _ _ _ _ _ us hl => match us, hl with | [_, _, _], _ => rfl
  have F_look_at_world := fun_mk (st := s_look_at_world) d2_look_at_world d3_look_at_world d4_look_at_world
  have b_look_at_world := F_look_at_world.binds (ps := ["world", "call", "handed"]) fun _ _ _ _ _ _ us hl => match us, hl with | [_, _, _], _ => rfl
  have F_answer_in_world := fun_mk (st := s_answer_in_world) d2_answer_in_world d3_answer_in_world d4_answer_in_world
  have b_answer_in_world := F_answer_in_world.binds (ps := ["world", "call", "handed"]) fun _ _ _ _ _ _ us hl => match us, hl with | [_, _, _], _ => rfl
  have F_answer_call := fun_mk (st := s_answer_call) d2_answer_call d3_answer_call d4_answer_call
  have b_answer_call := F_answer_call.binds (ps := ["line", "call", "handed"]) fun _ _ _ _ _ _ us hl => match us, hl with | [_, _, _], _ => rfl
  have F_answers := fun_mk (st := s_answers) d2_answers d3_answers d4_answers
  have b_answers := F_answers.binds (ps := ["calls"]) fun _ _ _ _ _ _ us hl => match us, hl with | [_], _ => rfl
  refine ⟨⟨PySem.W.mg_none_of X G z_enumerate, PySem.W.mg_none_of X G z_len, PySem.W.mg_none_of X G z_max, PySem.W.mg_none_of X G z_min, PySem.W.mg_none_of X G z_range, ⟨_, PySem.W.mg_of X G hc_STORE⟩, ⟨_, PySem.W.mg_of X G hc_CELLS⟩, ⟨_, PySem.W.mg_of X G hc_PIECES⟩, ⟨_, PySem.W.mg_of X G hc_PIECE_CELLS⟩, ⟨_, PySem.W.mg_of X G hc_MOST_WRITES⟩, ⟨_, PySem.W.mg_of X G hc_HIGHEST⟩, ⟨_, PySem.W.mg_of X G hc_ROOM⟩, ⟨_, PySem.W.mg_of X G hc_DIVISOR⟩, ⟨_, PySem.W.mg_of X G hc_ASK_LETTER⟩, ⟨_, PySem.W.mg_of X G hc_ANSWER_LETTER⟩, ⟨_, PySem.W.mg_of X G hc_ANSWER_HEAD⟩, ⟨_, PySem.W.mg_of X G hc_ANSWER_CELL⟩, ⟨_, PySem.W.mg_of X G hc_NO_USE⟩, ⟨_, PySem.W.mg_of X G hc_ANSWERED⟩, ⟨_, PySem.W.mg_of X G hc_GOES_ON⟩, ⟨_, PySem.W.mg_of X G hc_FOUND_SPOILED⟩, ⟨_, PySem.W.mg_of X G hc_NO_SUCH⟩, ⟨_, PySem.W.mg_of X G hc_ALREADY⟩, ⟨_, PySem.W.mg_of X G hc_MIXTURE⟩, ⟨_, PySem.W.mg_of X G hc_STOPPED⟩, ⟨_, PySem.W.mg_of X G hc_SPOILED_BEFORE⟩, ⟨_, PySem.W.mg_of X G hc_NO_MORE_WRITES⟩, ⟨_, PySem.W.mg_of X G hc_NO_WORLD⟩, ⟨_, PySem.W.mg_of X G hc_BEGIN⟩, ⟨_, PySem.W.mg_of X G hc_WRITE⟩, ⟨_, PySem.W.mg_of X G hc_ASK⟩, ⟨_, PySem.W.mg_of X G hc_TAKE⟩, ⟨_, PySem.W.mg_of X G hc_KEEP⟩, ⟨_, PySem.W.mg_of X G hc_LOSE⟩, ⟨_, PySem.W.mg_of X G hc_SPOIL⟩, ⟨_, PySem.W.mg_of X G hc_STOP⟩, ⟨_, PySem.W.mg_of X G hc_START⟩, ⟨_, PySem.W.mg_of X G hc_LETTERS⟩, ⟨_, PySem.W.mg_of X G hc_NODE⟩, ⟨_, PySem.W.mg_of X G hc_WHOLE⟩, PySem.W.mg_of X G ht_HANDED, fun _ => .inr ⟨_, _, _, hq_HANDED, rfl, rfl, (by show 13 ≤ sizeLine; decide), .cons ⟨_, rfl⟩ (.cons ⟨_, rfl⟩ (.cons ⟨_, rfl⟩ (.cons ⟨_, rfl⟩ (.cons ⟨_, rfl⟩ (.cons ⟨_, rfl⟩ (.cons ⟨_, rfl⟩ (.cons ⟨_, rfl⟩ (.cons ⟨_, rfl⟩ (.cons ⟨_, rfl⟩ (.cons ⟨_, rfl⟩ (.cons ⟨_, rfl⟩ (.cons ⟨_, rfl⟩ (.nil)))))))))))))⟩, ⟨⟨p1_Node, p2_Node, p3_Node, p4_Node⟩, PySem.W.mg_of X G g_Node, ⟨_, _, ⟨p5_Node, i1_Node, i2_Node, p6_Node⟩, F_Node, b_Node⟩⟩, hn_Node_runs, hn_Node_asked, hn_Node_upto, hn_Node_held, hn_Node_written, hn_Node_waits, ⟨⟨p1_Letter, p2_Letter, p3_Letter, p4_Letter⟩, PySem.W.mg_of X G g_Letter, ⟨_, _, ⟨p5_Letter, i1_Letter, i2_Letter, p6_Letter⟩, F_Letter, b_Letter⟩⟩, hn_Letter_kind, hn_Letter_receiver, hn_Letter_sender, hn_Letter_numbers, hn_Letter_checksum, hn_Letter_spoiled, ⟨⟨p1_World, p2_World, p3_World, p4_World⟩, PySem.W.mg_of X G g_World, ⟨_, _, ⟨p5_World, i1_World, i2_World, p6_World⟩, F_World, b_World⟩⟩, hn_World_nodes, hn_World_row, hn_World_writes, ⟨⟨p1_Line, p2_Line, p3_Line, p4_Line⟩, PySem.W.mg_of X G g_Line, ⟨_, _, ⟨p5_Line, i1_Line, i2_Line, p6_Line⟩, F_Line, b_Line⟩⟩, hn_Line_world, ⟨_, _, F_sum_of, b_sum_of, PySem.W.mg_of X G d1_sum_of⟩, ⟨_, _, F_send, b_send, PySem.W.mg_of X G d1_send⟩, ⟨_, _, F_begin, b_begin, PySem.W.mg_of X G d1_begin⟩, ⟨_, _, F_write, b_write, PySem.W.mg_of X G d1_write⟩, ⟨_, _, F_ask, b_ask, PySem.W.mg_of X G d1_ask⟩, ⟨_, _, F_cells_behind, b_cells_behind, PySem.W.mg_of X G d1_cells_behind⟩, ⟨_, _, F_answer_ask, b_answer_ask, PySem.W.mg_of X G d1_answer_ask⟩, ⟨_, _, F_accept_answer, b_accept_answer, PySem.W.mg_of X G d1_accept_answer⟩, ⟨_, _, F_hand_over, b_hand_over, PySem.W.mg_of X G d1_hand_over⟩, ⟨_, _, F_take, b_take, PySem.W.mg_of X G d1_take⟩, ⟨_, _, F_keep, b_keep, PySem.W.mg_of X G d1_keep⟩, ⟨_, _, F_lose, b_lose, PySem.W.mg_of X G d1_lose⟩, ⟨_, _, F_standing_at, b_standing_at, PySem.W.mg_of X G d1_standing_at⟩, ⟨_, _, F_put_at, b_put_at, PySem.W.mg_of X G d1_put_at⟩, ⟨_, _, F_spoil, b_spoil, PySem.W.mg_of X G d1_spoil⟩, ⟨_, _, F_stop, b_stop, PySem.W.mg_of X G d1_stop⟩, ⟨_, _, F_start, b_start, PySem.W.mg_of X G d1_start⟩, ⟨_, _, F_tell_letters, b_tell_letters, PySem.W.mg_of X G d1_tell_letters⟩, ⟨_, _, F_tell_node, b_tell_node, PySem.W.mg_of X G d1_tell_node⟩, ⟨_, _, F_tell_whole, b_tell_whole, PySem.W.mg_of X G d1_tell_whole⟩, ⟨_, _, F_tell_at, b_tell_at, PySem.W.mg_of X G d1_tell_at⟩, ⟨_, _, F_change_world, b_change_world, PySem.W.mg_of X G d1_change_world⟩, ⟨_, _, F_look_at_world, b_look_at_world, PySem.W.mg_of X G d1_look_at_world⟩, ⟨_, _, F_answer_in_world, b_answer_in_world, PySem.W.mg_of X G d1_answer_in_world⟩, ⟨_, _, F_answer_call, b_answer_call, PySem.W.mg_of X G d1_answer_call⟩, ⟨_, _, F_answers, b_answers, PySem.W.mg_of X G d1_answers⟩⟩, ⟨_, F_answers, fun s us hu => match us, hu with | [_], _ => .of_eq rfl⟩⟩
theorem all_mk {P : Program} {w : World} {K : PySem.W.Frag} {h : Heap} {mg : Str → Option Value} {fa a_answers : Addr} {C : Cl} (X : K.In h) (G : h.Ns mainGlobals mg) (hfa : mg "answers" = some (.ref fa)) (ha : PySem.W.nsIn K mainGlobals "answers" = some (some (.ref a_answers)))
    (T : Txt K mg C ∧ ∃ fd, Fun K "answers" "answers" s_answers a_answers fd ∧ (∀ (s : Shared) (us : List Value), us.length = (["calls"] : List Str).length → BindsTo s fd ⟨us, []⟩ ((["calls"] : List Str).zip us))) :
    ∃ fd : FuncData, (∀ (s : Shared) (us : List Value), us.length = (["calls"] : List Str).length → BindsTo s fd ⟨us, []⟩ ((["calls"] : List Str).zip us)) ∧ ∀ base : Heap, K.In base → base.Ns mainGlobals mg → FnOk P w K mg base CX0 10 fa fd ["calls"] (spAns K) := by
  have e := hfa.symm.trans (PySem.W.mg_of X G ha)
  cases e
  obtain ⟨T, fd, F, b⟩ := T
  exact ⟨fd, b, fun base _ _ => ok_answers T F⟩
end Bo
open PySem PySem.W PyProof.Rows
set_option maxRecDepth 100000 in
set_option maxHeartbeats 0 in
theorem PySem.Challenge.cw_broughtover_s01_answers_holds : PySem.Challenge.rw_broughtover_s01_answers.Holds := by
  w_on; k_headS; (case hw => exact ⟨[.list [.int 9]], by decide +kernel, by decide +kernel⟩)
  k_fillS
  refine L2.walk_specK (r := PySem.Challenge.rw_broughtover_s01_answers) (k := 10) (CX := L2.CX0) (ps := ["calls"]) (sp := Bo.spAns) (by decide +kernel) rfl rfl ⟨rfl, by decide, by decide⟩ (fun w h Y => PySem.W.kIn_of Y) ?F ?S (fun _ _ _ _ z => z)
  case S =>
    intro K H xs a hO hwi hask hx
    cases hx with
    | cons h1 h2 =>
      cases h2
      cases h1 with
      | lst hs ha =>
        have e := L2.ints_dw a.1 _ ha
        subst e
        have q : ((Codec.inLen 0 400 a.1 && a.1.all (Codec.inInt 0 20000)) && true) = true := hwi
        rw [Bool.and_eq_true, Bool.and_eq_true] at q
        exact ⟨_, a.1, rfl, hs, (Codec.inNat_iff.mp q.1.1).2, fun x hx => (Codec.inInt_iff.mp (List.all_eq_true.mp q.1.2 x hx)).1, hask, fun H' p hp => .lst (L2.SqL.of hp) (L2.dw_ints _)⟩
  case F =>
    intro w mg fa h Y KX G hmg
    refine' Bo.all_mk KX G hmg ?d1_answers (Bo.txt_mk KX G ?z_enumerate ?z_len ?z_max ?z_min ?z_range ?hc_STORE ?hc_CELLS ?hc_PIECES ?hc_PIECE_CELLS ?hc_MOST_WRITES ?hc_HIGHEST ?hc_ROOM ?hc_DIVISOR ?hc_ASK_LETTER ?hc_ANSWER_LETTER ?hc_ANSWER_HEAD ?hc_ANSWER_CELL ?hc_NO_USE ?hc_ANSWERED ?hc_GOES_ON ?hc_FOUND_SPOILED ?hc_NO_SUCH ?hc_ALREADY ?hc_MIXTURE ?hc_STOPPED ?hc_SPOILED_BEFORE ?hc_NO_MORE_WRITES ?hc_NO_WORLD ?hc_BEGIN ?hc_WRITE ?hc_ASK ?hc_TAKE ?hc_KEEP ?hc_LOSE ?hc_SPOIL ?hc_STOP ?hc_START ?hc_LETTERS ?hc_NODE ?hc_WHOLE ?ht_HANDED ?hq_HANDED ?g_Node ?i1_Node ?i2_Node ?i3_Node ?i4_Node ?i5_Node ?p1_Node ?p2_Node ?p3_Node ?p4_Node ?p5_Node ?p6_Node ?hn_Node_runs ?hn_Node_asked ?hn_Node_upto ?hn_Node_held ?hn_Node_written ?hn_Node_waits ?g_Letter ?i1_Letter ?i2_Letter ?i3_Letter ?i4_Letter ?i5_Letter ?p1_Letter ?p2_Letter ?p3_Letter ?p4_Letter ?p5_Letter ?p6_Letter ?hn_Letter_kind ?hn_Letter_receiver ?hn_Letter_sender ?hn_Letter_numbers ?hn_Letter_checksum ?hn_Letter_spoiled ?g_World ?i1_World ?i2_World ?i3_World ?i4_World ?i5_World ?p1_World ?p2_World ?p3_World ?p4_World ?p5_World ?p6_World ?hn_World_nodes ?hn_World_row ?hn_World_writes ?g_Line ?i1_Line ?i2_Line ?i3_Line ?i4_Line ?i5_Line ?p1_Line ?p2_Line ?p3_Line ?p4_Line ?p5_Line ?p6_Line ?hn_Line_world ?d1_sum_of ?d2_sum_of ?d3_sum_of ?d4_sum_of ?d1_send ?d2_send ?d3_send ?d4_send ?d1_begin ?d2_begin ?d3_begin ?d4_begin ?d1_write ?d2_write ?d3_write ?d4_write ?d1_ask ?d2_ask ?d3_ask ?d4_ask ?d1_cells_behind ?d2_cells_behind ?d3_cells_behind ?d4_cells_behind ?d1_answer_ask ?d2_answer_ask ?d3_answer_ask ?d4_answer_ask ?d1_accept_answer ?d2_accept_answer ?d3_accept_answer ?d4_accept_answer ?d1_hand_over ?d2_hand_over ?d3_hand_over ?d4_hand_over ?d1_take ?d2_take ?d3_take ?d4_take ?d1_keep ?d2_keep ?d3_keep ?d4_keep ?d1_lose ?d2_lose ?d3_lose ?d4_lose ?d1_standing_at ?d2_standing_at ?d3_standing_at ?d4_standing_at ?d1_put_at ?d2_put_at ?d3_put_at ?d4_put_at ?d1_spoil ?d2_spoil ?d3_spoil ?d4_spoil ?d1_stop ?d2_stop ?d3_stop ?d4_stop ?d1_start ?d2_start ?d3_start ?d4_start ?d1_tell_letters ?d2_tell_letters ?d3_tell_letters ?d4_tell_letters ?d1_tell_node ?d2_tell_node ?d3_tell_node ?d4_tell_node ?d1_tell_whole ?d2_tell_whole ?d3_tell_whole ?d4_tell_whole ?d1_tell_at ?d2_tell_at ?d3_tell_at ?d4_tell_at ?d1_change_world ?d2_change_world ?d3_change_world ?d4_change_world ?d1_look_at_world ?d2_look_at_world ?d3_look_at_world ?d4_look_at_world ?d1_answer_in_world ?d2_answer_in_world ?d3_answer_in_world ?d4_answer_in_world ?d1_answer_call ?d2_answer_call ?d3_answer_call ?d4_answer_call ?d1_answers ?d2_answers ?d3_answers ?d4_answers)
    (case z_enumerate => k_is)
    (case z_len => k_is)
    (case z_max => k_is)
    (case z_min => k_is)
    (case z_range => k_is)
    (case hc_STORE => k_is)
    (case hc_CELLS => k_is)
    (case hc_PIECES => k_is)
    (case hc_PIECE_CELLS => k_is)
    (case hc_MOST_WRITES => k_is)
    (case hc_HIGHEST => k_is)
    (case hc_ROOM => k_is)
    (case hc_DIVISOR => k_is)
    (case hc_ASK_LETTER => k_is)
    (case hc_ANSWER_LETTER => k_is)
    (case hc_ANSWER_HEAD => k_is)
    (case hc_ANSWER_CELL => k_is)
    (case hc_NO_USE => k_is)
    (case hc_ANSWERED => k_is)
    (case hc_GOES_ON => k_is)
    (case hc_FOUND_SPOILED => k_is)
    (case hc_NO_SUCH => k_is)
    (case hc_ALREADY => k_is)
    (case hc_MIXTURE => k_is)
    (case hc_STOPPED => k_is)
    (case hc_SPOILED_BEFORE => k_is)
    (case hc_NO_MORE_WRITES => k_is)
    (case hc_NO_WORLD => k_is)
    (case hc_BEGIN => k_is)
    (case hc_WRITE => k_is)
    (case hc_ASK => k_is)
    (case hc_TAKE => k_is)
    (case hc_KEEP => k_is)
    (case hc_LOSE => k_is)
    (case hc_SPOIL => k_is)
    (case hc_STOP => k_is)
    (case hc_START => k_is)
    (case hc_LETTERS => k_is)
    (case hc_NODE => k_is)
    (case hc_WHOLE => k_is)
    (case ht_HANDED => k_is)
    (case hq_HANDED => k_is)
    (case g_Node => k_is)
    (case i1_Node => k_is)
    (case i2_Node => k_is)
    (case i3_Node => k_is)
    (case i4_Node => k_is)
    (case i5_Node => k_is)
    (case p1_Node => k_is)
    (case p2_Node => k_is)
    (case p3_Node => k_is)
    (case p4_Node => k_is)
    (case p5_Node => k_is)
    (case p6_Node => k_is)
    (case hn_Node_runs => k_is)
    (case hn_Node_asked => k_is)
    (case hn_Node_upto => k_is)
    (case hn_Node_held => k_is)
    (case hn_Node_written => k_is)
    (case hn_Node_waits => k_is)
    (case g_Letter => k_is)
    (case i1_Letter => k_is)
    (case i2_Letter => k_is)
    (case i3_Letter => k_is)
    (case i4_Letter => k_is)
    (case i5_Letter => k_is)
    (case p1_Letter => k_is)
    (case p2_Letter => k_is)
    (case p3_Letter => k_is)
    (case p4_Letter => k_is)
    (case p5_Letter => k_is)
    (case p6_Letter => k_is)
    (case hn_Letter_kind => k_is)
    (case hn_Letter_receiver => k_is)
    (case hn_Letter_sender => k_is)
    (case hn_Letter_numbers => k_is)
    (case hn_Letter_checksum => k_is)
    (case hn_Letter_spoiled => k_is)
    (case g_World => k_is)
    (case i1_World => k_is)
    (case i2_World => k_is)
    (case i3_World => k_is)
    (case i4_World => k_is)
    (case i5_World => k_is)
    (case p1_World => k_is)
    (case p2_World => k_is)
    (case p3_World => k_is)
    (case p4_World => k_is)
    (case p5_World => k_is)
    (case p6_World => k_is)
    (case hn_World_nodes => k_is)
    (case hn_World_row => k_is)
    (case hn_World_writes => k_is)
    (case g_Line => k_is)
    (case i1_Line => k_is)
    (case i2_Line => k_is)
    (case i3_Line => k_is)
    (case i4_Line => k_is)
    (case i5_Line => k_is)
    (case p1_Line => k_is)
    (case p2_Line => k_is)
    (case p3_Line => k_is)
    (case p4_Line => k_is)
    (case p5_Line => k_is)
    (case p6_Line => k_is)
    (case hn_Line_world => k_is)
    (case d1_sum_of => k_is)
    (case d2_sum_of => k_is)
    (case d3_sum_of => k_is)
    (case d4_sum_of => k_is)
    (case d1_send => k_is)
    (case d2_send => k_is)
    (case d3_send => k_is)
    (case d4_send => k_is)
    (case d1_begin => k_is)
    (case d2_begin => k_is)
    (case d3_begin => k_is)
    (case d4_begin => k_is)
    (case d1_write => k_is)
    (case d2_write => k_is)
    (case d3_write => k_is)
    (case d4_write => k_is)
    (case d1_ask => k_is)
    (case d2_ask => k_is)
    (case d3_ask => k_is)
    (case d4_ask => k_is)
    (case d1_cells_behind => k_is)
    (case d2_cells_behind => k_is)
    (case d3_cells_behind => k_is)
    (case d4_cells_behind => k_is)
    (case d1_answer_ask => k_is)
    (case d2_answer_ask => k_is)
    (case d3_answer_ask => k_is)
    (case d4_answer_ask => k_is)
    (case d1_accept_answer => k_is)
    (case d2_accept_answer => k_is)
    (case d3_accept_answer => k_is)
    (case d4_accept_answer => k_is)
    (case d1_hand_over => k_is)
    (case d2_hand_over => k_is)
    (case d3_hand_over => k_is)
    (case d4_hand_over => k_is)
    (case d1_take => k_is)
    (case d2_take => k_is)
    (case d3_take => k_is)
    (case d4_take => k_is)
    (case d1_keep => k_is)
    (case d2_keep => k_is)
    (case d3_keep => k_is)
    (case d4_keep => k_is)
    (case d1_lose => k_is)
    (case d2_lose => k_is)
    (case d3_lose => k_is)
    (case d4_lose => k_is)
    (case d1_standing_at => k_is)
    (case d2_standing_at => k_is)
    (case d3_standing_at => k_is)
    (case d4_standing_at => k_is)
    (case d1_put_at => k_is)
    (case d2_put_at => k_is)
    (case d3_put_at => k_is)
    (case d4_put_at => k_is)
    (case d1_spoil => k_is)
    (case d2_spoil => k_is)
    (case d3_spoil => k_is)
    (case d4_spoil => k_is)
    (case d1_stop => k_is)
    (case d2_stop => k_is)
    (case d3_stop => k_is)
    (case d4_stop => k_is)
    (case d1_start => k_is)
    (case d2_start => k_is)
    (case d3_start => k_is)
    (case d4_start => k_is)
    (case d1_tell_letters => k_is)
    (case d2_tell_letters => k_is)
    (case d3_tell_letters => k_is)
    (case d4_tell_letters => k_is)
    (case d1_tell_node => k_is)
    (case d2_tell_node => k_is)
    (case d3_tell_node => k_is)
    (case d4_tell_node => k_is)
    (case d1_tell_whole => k_is)
    (case d2_tell_whole => k_is)
    (case d3_tell_whole => k_is)
    (case d4_tell_whole => k_is)
    (case d1_tell_at => k_is)
    (case d2_tell_at => k_is)
    (case d3_tell_at => k_is)
    (case d4_tell_at => k_is)
    (case d1_change_world => k_is)
    (case d2_change_world => k_is)
    (case d3_change_world => k_is)
    (case d4_change_world => k_is)
    (case d1_look_at_world => k_is)
    (case d2_look_at_world => k_is)
    (case d3_look_at_world => k_is)
    (case d4_look_at_world => k_is)
    (case d1_answer_in_world => k_is)
    (case d2_answer_in_world => k_is)
    (case d3_answer_in_world => k_is)
    (case d4_answer_in_world => k_is)
    (case d1_answer_call => k_is)
    (case d2_answer_call => k_is)
    (case d3_answer_call => k_is)
    (case d4_answer_call => k_is)
    (case d1_answers => k_is)
    (case d2_answers => k_is)
    (case d3_answers => k_is)
    (case d4_answers => k_is)
#print axioms PySem.Challenge.cw_broughtover_s01_answers_holds
