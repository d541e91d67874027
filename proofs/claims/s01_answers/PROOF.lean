import PyProof.Rows.All
import Wide.All
import OpenK.AllK
import Wide.FinOn
import PyProof.EqAt
import PyProof.EqKinds
import PyProof.TupleCall
import Open.SpecLaws
import KE.OsGo
import HandS.ForSpec
import HandS.ExcSuper
import HandS.ForMost
import HandS.SortKw
import PyProof.Rows.SortShell
import PyProof.Rows.SortRev
import PyProof.Rows.CallKwBuiltin
import PyProof.Rows.CallKw2
import KE.KSortTup
import KE.KSortKey
import HandS.Conv
import HandS.More
import HandS.Sort
import HandS.SortOrd
import HandS.SortRule
import HandS.SortInts
import HandS.Walk
import HandS.SetFor
import KE.KEqDeep
import PyWideLaws
import PySj11
import PySem.Challenge.RW_newranks_s01_answers
/-! Part A: what is asked, told call by call. -/
namespace Nr
/-- one call, flat: its place, how many numbers, these, and 0 lists -/
def enc1 : List Int → List Int
  | [] => []
  | p :: xs => p :: ((xs.length : Int) :: (xs ++ [0]))
def encs : List (List Int) → List Int
  | [] => []
  | c :: cs => enc1 c ++ encs cs
/-- a call whose form is told -/
inductive Okc : List Int → Sj11.Call → Prop
  | begins (w : Nat) (h : w < 4294967296) : Okc [0, (w : Int)] (.begins w)
  | wrestler (a b : Nat) (ha : a < 4294967296) (hb : b < 4294967296) : Okc [1, (a : Int), (b : Int)] (.wrestler ⟨a, b⟩)
  | check (l : List Nat) (hl : l.length ≤ 8) (h : ∀ x ∈ l, x < 4294967296) : Okc (2 :: l.map fun (n : Nat) => (n : Int)) (.check l)
  | best : Okc [3] .best
  | fair : Okc [4] .fair
  | plain : Okc [5] .plain

theorem nat_of {z : Int} {n : Nat} (h0 : 0 ≤ z) (h : z.toNat = n) : z = (n : Int) := by omega

theorem map_back : ∀ (l : List Int) (m : List Nat), (∀ z ∈ l, 0 ≤ z ∧ z < 4294967296) → l.map Int.toNat = m → l = m.map (fun (n : Nat) => (n : Int)) ∧ ∀ x ∈ m, x < 4294967296
  | [], m, _, e => by
    subst e
    exact ⟨rfl, fun x hx => by cases hx⟩
  | z :: l, m, h, e => by
    subst e
    obtain ⟨i1, i2⟩ := map_back l _ (fun y hy => h y (List.Mem.tail _ hy)) rfl
    have hz := h z (List.Mem.head _)
    refine ⟨?_, fun x hx => ?_⟩
    · show z :: l = ((z.toNat : Nat) : Int) :: (l.map Int.toNat).map fun (n : Nat) => (n : Int)
      rw [← i1]
      have : ((z.toNat : Nat) : Int) = z := by omega
      rw [this]
    · cases hx with
      | head => omega
      | tail _ hx => exact i2 x hx

theorem okc_of {c : List Int} {q : Sj11.Call} (h : ∀ z ∈ c, 0 ≤ z ∧ z < 4294967296) (e : Sj11Neutral.callOf c = some q) : Okc c q := by
  obtain ⟨e1, e2⟩ := map_back c _ h rfl
  rw [e1]
  unfold Sj11Neutral.callOf at e
  generalize c.map Int.toNat = m at e e2
  split at e
  · cases e
    exact .begins _ (e2 _ (by simp))
  · cases e
    exact .wrestler _ _ (e2 _ (by simp)) (e2 _ (by simp))
  · rename_i r
    split at e
    · rename_i hl
      cases e
      exact .check r hl fun x hx => e2 x (List.Mem.tail _ hx)
    · cases e
  · cases e
    exact .best
  · cases e
    exact .fair
  · cases e
    exact .plain
  · cases e

/-- what is answered, told flat -/
def tolds : Sj11.Ranks → List Sj11.Call → List Int
  | _, [] => []
  | r, q :: qs => (((Sj11.step r q).2.l.length + 1 : Nat) : Int) :: ((Sj11.step r q).2.v :: (Sj11.step r q).2.l) ++ tolds (Sj11.step r q).1 qs

/-- the calls as they stand in the list -/
inductive Okcs : List (List Int) → List Sj11.Call → Prop
  | nil : Okcs [] []
  | cons {c q cs qs} (h : Okc c q) (r : Okcs cs qs) : Okcs (c :: cs) (q :: qs)

theorem callOf_ok {c : List Int} {q : Sj11.Call} (h : Okc c q) : Sj11Neutral.callOf c = some q := by
  cases h with
  | begins w h => rfl
  | wrestler a b ha hb => rfl
  | check l hl h =>
    have e : (List.map (fun (n : Nat) => (n : Int)) l).map Int.toNat = l := by
      rw [List.map_map]
      have : (Int.toNat ∘ fun (n : Nat) => (n : Int)) = id := by
        funext n
        rfl
      rw [this, List.map_id]
    show (match (2 : Int).toNat :: (List.map (fun (n : Nat) => (n : Int)) l).map Int.toNat with
      | [0, w] => some (Sj11.Call.begins w)
      | [1, a, b] => some (.wrestler ⟨a, b⟩)
      | 2 :: r => if r.length ≤ 8 then some (.check r) else none
      | [3] => some .best
      | [4] => some .fair
      | [5] => some .plain
      | _ => none) = _
    rw [e]
    show (if l.length ≤ 8 then some (Sj11.Call.check l) else none) = _
    rw [if_pos hl]
  | best => rfl
  | fair => rfl
  | plain => rfl

theorem played_tolds : ∀ {cs : List (List Int)} {qs : List Sj11.Call} (_ : Okcs cs qs) (r : Sj11.Ranks),
    PyFlat.told (PyFlat.played Sj11Neutral.step r (cs.map fun c => [c])) = tolds r qs := by
  intro cs qs h
  induction h with
  | nil => intro r; rfl
  | @cons c q cs qs h _ ih =>
    intro r
    have e := callOf_ok h
    have st : Sj11Neutral.step r [c] = ((Sj11.step r q).1, (Sj11.step r q).2.v :: (Sj11.step r q).2.l) := by
      show (match Sj11Neutral.callOf c with
        | none => (r, [])
        | some q => ((Sj11.step r q).1, (Sj11.step r q).2.v :: (Sj11.step r q).2.l)) = _
      rw [e]
    have := ih (Sj11.step r q).1
    show ((Sj11Neutral.step r [c]).2.length : Int) :: (Sj11Neutral.step r [c]).2 ++ PyFlat.told (PyFlat.played Sj11Neutral.step (Sj11Neutral.step r [c]).1 (cs.map fun c => [c])) = _
    rw [st]
    show _ :: _ ++ PyFlat.told (PyFlat.played Sj11Neutral.step (Sj11.step r q).1 (cs.map fun c => [c])) = _
    rw [this]
    rfl

theorem put_encs : ∀ cs : List (List Int), (∀ c ∈ cs, c ≠ []) → PyWide.put (cs.map fun c => [c]) = encs cs
  | [], _ => rfl
  | [] :: cs, h => absurd rfl (h [] (List.Mem.head _))
  | (p :: xs) :: cs, h => by
    have i := put_encs cs fun c hc => h c (List.Mem.tail _ hc)
    show PyWide.put1 [p :: xs] ++ PyWide.put (cs.map fun c => [c]) = enc1 (p :: xs) ++ encs cs
    rw [i]
    rfl

/-- WHAT IS ASKED -/
theorem asked_calls {ns : List Int} (h : PySj11.answers_asked ns = true) :
    ∃ cs qs, ns = encs cs ∧ Okcs cs qs ∧ cs ≠ [] ∧ cs.length ≤ 60 ∧ PySj11.answers ns = tolds Sj11.init qs := by
  unfold PySj11.answers_asked at h
  unfold PySj11.answers
  cases e : PySj11.calls ns with
  | none => rw [e] at h; cases h
  | some ds =>
    rw [e] at h
    have h' : (!ds.isEmpty && ds.all PySj11.fits && PyFlat.atMost 60 ds && Sj11Neutral.asked ds && PyFlat.short 10000000 (PySj11.answers ns)) = true := h
    simp only [Bool.and_eq_true] at h'
    obtain ⟨⟨⟨⟨h1, _⟩, h3⟩, h4⟩, _⟩ := h'
    have p := PyWide.put_calls _ _ _ e
    have h5 : (ds.all Sj11Neutral.asked1) = true := by
      unfold Sj11Neutral.asked at h4
      rw [Bool.and_eq_true] at h4
      exact h4.1
    -- each call has one row
    have one : ∀ ds : List (List (List Int)), ds.all Sj11Neutral.asked1 = true → ∃ cs qs, ds = cs.map (fun c => [c]) ∧ Okcs cs qs := by
      intro ds
      induction ds with
      | nil => intro _; exact ⟨[], [], rfl, .nil⟩
      | cons d ds ih =>
        intro k
        rw [List.all_cons, Bool.and_eq_true] at k
        obtain ⟨cs, qs, e1, e2⟩ := ih k.2
        have k1 := k.1
        unfold Sj11Neutral.asked1 at k1
        rw [Bool.and_eq_true, Bool.and_eq_true, List.all_eq_true] at k1
        obtain ⟨l1, l2, l3⟩ := k1
        match d, l1, l2, l3 with
        | [c], _, l2, l3 =>
          obtain ⟨q, hq⟩ := Option.isSome_iff_exists.mp l3
          refine ⟨c :: cs, q :: qs, by rw [e1]; rfl, .cons (okc_of (fun z hz => ?_) hq) e2⟩
          have := l2 z hz
          unfold Sj11Neutral.natural at this
          rw [Bool.and_eq_true] at this
          have a := of_decide_eq_true this.1
          have b := of_decide_eq_true this.2
          exact ⟨a, b⟩
    obtain ⟨cs, qs, e1, e2⟩ := one ds h5
    have ne : ∀ {cs qs}, Okcs cs qs → ∀ c ∈ cs, c ≠ [] := by
      intro cs qs o
      induction o with
      | nil => intro c hc; cases hc
      | cons h _ ih =>
        intro c hc
        cases hc with
        | head => cases h <;> (intro z; cases z)
        | tail _ hc => exact ih c hc
    refine ⟨cs, qs, ?_, e2, ?_, ?_, ?_⟩
    · rw [← put_encs cs (ne e2), ← e1]
      exact p.1
    · intro z
      rw [e1, z] at h1
      cases h1
    · have := of_decide_eq_true h3
      rw [e1, List.length_map] at this
      exact this
    · show PyFlat.told (PyFlat.played Sj11Neutral.step Sj11Neutral.start ds) = _
      rw [e1]
      exact played_tolds e2 _
end Nr
/-! Part B: the specification's own lists: orders, bestBy, told. -/
namespace Nr
open Sj11 (orders bestBy Best Ranks)

theorem mem_orders : ∀ (n : Nat) (l : List Nat), l.Nodup → l.length = n → ∀ x, x ∈ orders n l ↔ x.Perm l
  | 0, l, _, hn, x => by
    have e : l = [] := List.length_eq_zero_iff.mp hn
    subst e
    show x ∈ [[]] ↔ _
    rw [List.mem_singleton]
    exact ⟨fun h => by rw [h], fun h => h.eq_nil⟩
  | n + 1, l, hd, hn, x => by
    show x ∈ l.flatMap (fun a => (orders n (l.filter fun y => y != a)).map fun r => a :: r) ↔ _
    rw [List.mem_flatMap]
    have step : ∀ a ∈ l, ∀ r, r ∈ orders n (l.filter fun y => y != a) ↔ r.Perm (l.erase a) := fun a ha r => by
      rw [← hd.erase_eq_filter]
      exact mem_orders n _ (hd.erase a) (by rw [List.length_erase_of_mem ha]; omega) r
    constructor
    · rintro ⟨a, ha, hx⟩
      obtain ⟨r, hr, rfl⟩ := List.mem_map.mp hx
      exact List.cons_perm_iff_perm_erase.mpr ⟨ha, (step a ha r).mp hr⟩
    · intro hp
      cases x with
      | nil =>
        have := hp.length_eq
        rw [hn] at this
        cases this
      | cons a r =>
        obtain ⟨ha, hr⟩ := List.cons_perm_iff_perm_erase.mp hp
        exact ⟨a, ha, List.mem_map.mpr ⟨r, (step a ha r).mpr hr, rfl⟩⟩

/-- the orders stand in order -/
theorem orders_sorted : ∀ (n : Nat) (l : List Nat), l.Pairwise (· < ·) → (orders n l).Pairwise (· < ·)
  | 0, _, _ => List.pairwise_singleton _ _
  | n + 1, l, h => by
    show (l.flatMap fun a => (orders n (l.filter fun y => y != a)).map fun r => a :: r).Pairwise (· < ·)
    rw [List.pairwise_flatMap]
    refine ⟨fun a _ => ?_, ?_⟩
    · rw [List.pairwise_map]
      exact (orders_sorted n _ (h.filter _)).imp fun {x y} hxy => List.cons_lt_cons_iff.mpr (Or.inr ⟨rfl, hxy⟩)
    · refine h.imp fun {a b} hab x hx y hy => ?_
      obtain ⟨r, _, rfl⟩ := List.mem_map.mp hx
      obtain ⟨s, _, rfl⟩ := List.mem_map.mp hy
      exact List.cons_lt_cons_iff.mpr (Or.inl hab)

/-- two lists in order with the same members are one -/
theorem sorted_ext {l m : List (List Nat)} (hl : l.Pairwise (· < ·)) (hm : m.Pairwise (· < ·)) (h : ∀ x, x ∈ l ↔ x ∈ m) : l = m := by
  have nl : l.Nodup := hl.imp fun {a b} k e => by subst e; exact List.lt_irrefl _ k
  have nm : m.Nodup := hm.imp fun {a b} k e => by subst e; exact List.lt_irrefl _ k
  have p : l.Perm m := (List.perm_ext_iff_of_nodup nl nm).mpr h
  exact p.eq_of_pairwise (fun a b _ _ h1 h2 => absurd (List.lt_trans h1 h2) (List.lt_irrefl _)) hl hm

/-- what bestBy hands over -/
structure IsBest (f : List Nat → Nat) (p : List (List Nat)) (b : Best) : Prop where
  least : ∀ l ∈ p, b.far ≤ f l
  many : b.many = (p.filter fun l => decide (f l = b.far)).length
  first : p.find? (fun l => decide (f l = b.far)) = some b.row

def bestTurn (f : List Nat → Nat) (b : Option Best) (l : List Nat) : Option Best := match b with
  | none => some ⟨f l, 1, l⟩
  | some x => if f l < x.far then some ⟨f l, 1, l⟩ else if f l = x.far then some { x with many := x.many + 1 } else some x

theorem bestBy_fold (f : List Nat → Nat) (p : List (List Nat)) : bestBy f p = p.foldl (bestTurn f) none := rfl

theorem isBest_turn {f : List Nat → Nat} {p : List (List Nat)} {b : Best} (h : IsBest f p b) (l : List Nat) : ∃ b', bestTurn f (some b) l = some b' ∧ IsBest f (p ++ [l]) b' := by
  unfold bestTurn
  by_cases c1 : f l < b.far
  · refine ⟨⟨f l, 1, l⟩, if_pos c1, ⟨fun m hm => ?_, ?_, ?_⟩⟩
    · rw [List.mem_append, List.mem_singleton] at hm
      rcases hm with hm | rfl
      · have := h.least m hm
        show f l ≤ f m
        omega
      · exact Nat.le_refl _
    · have e : p.filter (fun m => decide (f m = f l)) = [] := by
        rw [List.filter_eq_nil_iff]
        intro m hm z
        have := h.least m hm
        have := of_decide_eq_true z
        omega
      show 1 = ((p ++ [l]).filter fun m => decide (f m = f l)).length
      rw [List.filter_append, e]
      simp
    · have e : p.find? (fun m => decide (f m = f l)) = none := by
        rw [List.find?_eq_none]
        intro m hm z
        have := h.least m hm
        have := of_decide_eq_true z
        omega
      show (p ++ [l]).find? (fun m => decide (f m = f l)) = some l
      rw [List.find?_append, e]
      simp
  · by_cases c2 : f l = b.far
    · refine ⟨{ b with many := b.many + 1 }, (if_neg c1).trans (if_pos c2), ⟨fun m hm => ?_, ?_, ?_⟩⟩
      · rw [List.mem_append, List.mem_singleton] at hm
        rcases hm with hm | rfl
        · exact h.least m hm
        · show b.far ≤ f m
          omega
      · show b.many + 1 = ((p ++ [l]).filter fun m => decide (f m = b.far)).length
        rw [List.filter_append, List.length_append, ← h.many]
        simp [c2]
      · show (p ++ [l]).find? (fun m => decide (f m = b.far)) = some b.row
        rw [List.find?_append, h.first]
        rfl
    · refine ⟨b, (if_neg c1).trans (if_neg c2), ⟨fun m hm => ?_, ?_, ?_⟩⟩
      · rw [List.mem_append, List.mem_singleton] at hm
        rcases hm with hm | rfl
        · exact h.least m hm
        · omega
      · rw [List.filter_append, List.length_append, ← h.many]
        simp [c2]
      · rw [List.find?_append, h.first]
        rfl

theorem best_from {f : List Nat → Nat} : ∀ (q p : List (List Nat)) (b : Best), IsBest f p b → ∃ b', q.foldl (bestTurn f) (some b) = some b' ∧ IsBest f (p ++ q) b'
  | [], p, b, h => ⟨b, rfl, by rw [List.append_nil]; exact h⟩
  | l :: q, p, b, h => by
    obtain ⟨b1, e1, h1⟩ := isBest_turn h l
    obtain ⟨b2, e2, h2⟩ := best_from q (p ++ [l]) b1 h1
    refine ⟨b2, ?_, ?_⟩
    · rw [List.foldl_cons, e1]
      exact e2
    · rw [List.append_assoc] at h2
      exact h2

theorem bestBy_is {f : List Nat → Nat} {p : List (List Nat)} (h : p ≠ []) : ∃ b, bestBy f p = some b ∧ IsBest f p b := by
  cases p with
  | nil => exact absurd rfl h
  | cons l q =>
    have h0 : IsBest f [l] ⟨f l, 1, l⟩ := ⟨fun m hm => by rw [List.mem_singleton] at hm; subst hm; exact Nat.le_refl _, by simp, by simp⟩
    exact best_from q [l] _ h0

theorem isBest_unique {f : List Nat → Nat} {p : List (List Nat)} {a b : Best} (ha : IsBest f p a) (hb : IsBest f p b) : a = b := by
  have mem : ∀ {x : Best}, IsBest f p x → x.row ∈ p ∧ f x.row = x.far := fun {x} h => ⟨List.mem_of_find?_eq_some h.first, by simpa using List.find?_some h.first⟩
  have e : a.far = b.far := by
    have h1 := ha.least _ (mem hb).1
    have h2 := hb.least _ (mem ha).1
    have := (mem ha).2
    have := (mem hb).2
    omega
  have e2 : a.many = b.many := by rw [ha.many, hb.many, e]
  have e3 : a.row = b.row := by
    have := ha.first
    rw [e, hb.first] at this
    exact (Option.some.inj this).symm
  cases a
  cases b
  cases e
  cases e2
  cases e3
  rfl

theorem perm_of_sub : ∀ (m l : List Nat), m.Nodup → (∀ x ∈ m, x ∈ l) → l.length ≤ m.length → l.Perm m
  | [], l, _, _, h => by
    have e : l = [] := List.length_eq_zero_iff.mp (Nat.le_zero.mp h)
    rw [e]
  | a :: m, l, hd, hs, h => by
    have ha : a ∈ l := hs a (List.Mem.head _)
    have p := List.perm_cons_erase ha
    have hd' := List.nodup_cons.mp hd
    refine p.trans (List.Perm.cons a (perm_of_sub m _ hd'.2 (fun x hx => ?_) ?_))
    · have ne : x ≠ a := fun z => hd'.1 (z ▸ hx)
      exact (List.mem_erase_of_ne ne).mpr (hs x (List.Mem.tail _ hx))
    · rw [List.length_erase_of_mem ha]
      have : l.length ≤ m.length + 1 := h
      omega
/-- a list with all the ranks is one of them in another order -/
theorem told_perm (r : Ranks) (l : List Nat) : r.told l = true ↔ l.Perm (List.range r.count) := by
  unfold Ranks.told
  rw [Bool.and_eq_true, beq_iff_eq, List.all_eq_true]
  constructor
  · rintro ⟨h1, h2⟩
    exact perm_of_sub _ _ List.nodup_range (fun x hx => by simpa using h2 x hx) (by rw [h1, List.length_range]; exact Nat.le_refl _)
  · intro p
    refine ⟨by rw [p.length_eq, List.length_range], fun x hx => ?_⟩
    rw [List.contains_iff_mem]
    exact p.symm.subset hx

theorem range_sorted (n : Nat) : (List.range n).Pairwise (· < ·) := List.pairwise_lt_range

/-- the lists that can be: in order, the orders of the ranks that are right -/
theorem mem_lists (r : Ranks) (l : List Nat) : l ∈ r.lists ↔ r.right l = true := by
  unfold Ranks.lists
  rw [List.mem_filter, mem_orders _ _ List.nodup_range List.length_range, ← told_perm]
  unfold Ranks.right
  rw [Bool.and_eq_true]
  exact ⟨fun h => h.2, fun h => ⟨h.1, h⟩⟩
theorem lists_sorted (r : Ranks) : r.lists.Pairwise (· < ·) := (orders_sorted _ _ (range_sorted _)).filter _
/-- the old list can be -/
theorem old_right (r : Ranks) : r.right (List.range r.count) = true := by
  unfold Ranks.right
  rw [Bool.and_eq_true]
  refine ⟨(told_perm r _).mpr (List.Perm.refl _), ?_⟩
  unfold Ranks.wrong
  rw [Option.isNone_iff_eq_none, List.find?_eq_none]
  intro i hi
  have hl : i < r.count := List.mem_range.mp hi
  have e : (List.range r.count).getD i 0 = i := by
    rw [List.getD_eq_getElem?_getD, List.getElem?_range hl]
    rfl
  rw [e]
  simp
theorem lists_ne (r : Ranks) : r.lists ≠ [] := fun h => by
  have := (mem_lists r _).mpr (old_right r)
  rw [h] at this
  cases this
end Nr
/-! Part P: by what's earned alone; what best and fair answer. -/
namespace Nr
open Sj11 (Ranks Best)
def le (r : Ranks) (i k : Nat) : Bool := decide (r.earned i < r.earned k) || (decide (r.earned i = r.earned k) && decide (i ≤ k))
theorem le_iff {r : Ranks} {i k : Nat} : le r i k = true ↔ r.earned i < r.earned k ∨ (r.earned i = r.earned k ∧ i ≤ k) := by
  unfold le
  simp
theorem le_trans (r : Ranks) (a b c : Nat) (h1 : le r a b = true) (h2 : le r b c = true) : le r a c = true := by
  rw [le_iff] at *
  omega
theorem le_total (r : Ranks) (a b : Nat) : (le r a b || le r b a) = true := by
  rw [Bool.or_eq_true, le_iff, le_iff]
  omega
theorem le_anti {r : Ranks} {a b : Nat} (h1 : le r a b = true) (h2 : le r b a = true) : a = b := by
  rw [le_iff] at *
  omega
/-- the wrestlers by what they've earned -/
def order (r : Ranks) : List Nat := (List.range r.count).mergeSort (le r)
theorem order_perm (r : Ranks) : (order r).Perm (List.range r.count) := List.mergeSort_perm _ _
theorem order_sorted (r : Ranks) : (order r).Pairwise (fun a b => le r a b = true) := List.pairwise_mergeSort (le_trans r) (le_total r) _
theorem order_is {r : Ranks} {o : List Nat} (p : o.Perm (List.range r.count)) (s : o.Pairwise (fun a b => le r a b = true)) : o = order r :=
  (p.trans (order_perm r).symm).eq_of_pairwise (fun a b _ _ h1 h2 => le_anti h1 h2) s (order_sorted r)
theorem order_nodup (r : Ranks) : (order r).Nodup := (order_perm r).symm.nodup List.nodup_range
theorem order_length (r : Ranks) : (order r).length = r.count := by rw [(order_perm r).length_eq, List.length_range]
theorem plain_eq (r : Ranks) : r.plain = (List.range r.count).map fun i => (order r).findIdx fun x => x == i := rfl
theorem plain_len (r : Ranks) : r.plain.length = r.count := by rw [plain_eq, List.length_map, List.length_range]
/-- the k-th of the order has the rank k -/
theorem plain_at {r : Ranks} {k i : Nat} (h : (order r)[k]? = some i) : r.plain[i]? = some k := by
  have hi : i < r.count := List.mem_range.mp ((order_perm r).mem_iff.mp (List.mem_of_getElem? h))
  rw [plain_eq, List.getElem?_map, List.getElem?_range hi]
  show some ((order r).findIdx fun x => x == i) = some k
  obtain ⟨hk, e⟩ := List.getElem?_eq_some_iff.mp h
  have f : ((order r).findIdx fun x => x == i) = k := by
    rw [List.findIdx_eq hk]
    refine ⟨by rw [e]; exact beq_self_eq_true i, fun j hj => ?_⟩
    have ne : (order r)[j] ≠ i := fun z => by
      have := (List.getElem_inj (order_nodup r)).mp (z.trans e.symm)
      omega
    simpa using ne
  rw [f]
/-- a list that has the rank k for the k-th of the order is the one -/
theorem plain_is {r : Ranks} {l : List Nat} (hl : l.length = r.count) (h : ∀ k i : Nat, (order r)[k]? = some i → l[i]? = some k) : l = r.plain := by
  refine List.ext_getElem? fun i => ?_
  by_cases c : i < r.count
  · have m : i ∈ order r := (order_perm r).mem_iff.mpr (List.mem_range.mpr c)
    obtain ⟨k, hk, e⟩ := List.getElem_of_mem m
    have e' : (order r)[k]? = some i := by rw [List.getElem?_eq_getElem hk, e]
    rw [h k i e', plain_at e']
  · rw [List.getElem?_eq_none (by omega), List.getElem?_eq_none (by rw [plain_len]; omega)]
theorem plain_told (r : Ranks) : r.told r.plain = true := by
  rw [told_perm]
  refine perm_of_sub _ _ List.nodup_range (fun k hk => ?_) (by rw [plain_len, List.length_range]; exact Nat.le_refl _)
  have hk' : k < (order r).length := by rw [order_length]; exact List.mem_range.mp hk
  exact List.mem_of_getElem? (plain_at (List.getElem?_eq_getElem hk'))
theorem plain_right (r : Ranks) : r.right r.plain = (r.wrong r.plain).isNone := by
  unfold Ranks.right
  rw [plain_told, Bool.true_and]
/-! ### best, fair: answered by what is best -/
theorem best_ans {r : Ranks} {f : List Nat → Nat} {b : Best} (h : IsBest f r.lists b) : Sj11.bestBy f r.lists = some b := by
  obtain ⟨b', e, h'⟩ := bestBy_is (f := f) (lists_ne r)
  rw [e, isBest_unique h' h]
theorem count_filter {f : List Nat → Nat} {n : Nat} (p : List (List Nat)) : (p.filter fun l => decide (f l = n)).length = p.countP fun l => decide (f l = n) := by rw [List.countP_eq_length_filter]
end Nr
/-! Part Q: the lists that can be, one rank more at a time; the nearest by its place; equal ones in the old order. -/
namespace Nr
open Sj11 (Ranks Best)
/-- a begun list with each free rank behind it that may be -/
def more1 (n : Nat) (ok : Nat → Bool) (b : List Nat) : List (List Nat) := ((List.range n).filter fun x => !b.contains x && ok x).map fun x => b ++ [x]
def moreAll (n : Nat) (ok : Nat → Bool) (L : List (List Nat)) : List (List Nat) := L.flatMap (more1 n ok)
def grow (n : Nat) (ok : Nat → Nat → Bool) : Nat → List (List Nat)
  | 0 => [[]]
  | k + 1 => moreAll n (ok k) (grow n ok k)
theorem mem_more1 {n : Nat} {ok : Nat → Bool} {b l : List Nat} : l ∈ more1 n ok b ↔ ∃ x, x < n ∧ x ∉ b ∧ ok x = true ∧ l = b ++ [x] := by
  unfold more1
  rw [List.mem_map]
  constructor
  · rintro ⟨x, hx, rfl⟩
    rw [List.mem_filter, List.mem_range, Bool.and_eq_true] at hx
    refine ⟨x, hx.1, fun h => ?_, hx.2.2, rfl⟩
    have h1 := hx.2.1
    rw [List.contains_iff_mem.mpr h] at h1
    cases h1
  · rintro ⟨x, h1, h2, h3, rfl⟩
    refine ⟨x, ?_, rfl⟩
    rw [List.mem_filter, List.mem_range, Bool.and_eq_true]
    refine ⟨h1, ?_, h3⟩
    cases e : b.contains x with
    | false => rfl
    | true => exact absurd (List.contains_iff_mem.mp e) h2
theorem getD_app_left {l m : List Nat} {i : Nat} (h : i < l.length) : (l ++ m).getD i 0 = l.getD i 0 := by
  rw [List.getD_eq_getElem?_getD, List.getD_eq_getElem?_getD, List.getElem?_append_left h]
theorem getD_app_last {l : List Nat} {x : Nat} : (l ++ [x]).getD l.length 0 = x := by
  rw [List.getD_eq_getElem?_getD, List.getElem?_append_right (Nat.le_refl _), Nat.sub_self]
  rfl
theorem snoc_split : ∀ {l : List Nat} {k : Nat}, l.length = k + 1 → ∃ b x, l = b ++ [x] ∧ b.length = k := by
  intro l k h
  have ne : l ≠ [] := fun e => by
    rw [e] at h
    cases h
  refine ⟨l.dropLast, l.getLast ne, (List.dropLast_concat_getLast ne).symm, ?_⟩
  rw [List.length_dropLast]
  omega
theorem mem_grow (n : Nat) (ok : Nat → Nat → Bool) : ∀ (k : Nat) (l : List Nat), l ∈ grow n ok k ↔ l.length = k ∧ l.Nodup ∧ (∀ x ∈ l, x < n) ∧ ∀ i, i < k → ok i (l.getD i 0) = true
  | 0, l => by
    show l ∈ [[]] ↔ _
    rw [List.mem_singleton]
    constructor
    · rintro rfl
      exact ⟨rfl, List.nodup_nil, (fun x h => absurd h List.not_mem_nil), fun i h => absurd h (Nat.not_lt_zero _)⟩
    · rintro ⟨h, _⟩
      exact List.length_eq_zero_iff.mp h
  | k + 1, l => by
    show l ∈ (grow n ok k).flatMap (more1 n (ok k)) ↔ _
    rw [List.mem_flatMap]
    constructor
    · rintro ⟨b, hb, hl⟩
      obtain ⟨h1, h2, h3, h4⟩ := (mem_grow n ok k b).mp hb
      obtain ⟨x, x1, x2, x3, rfl⟩ := mem_more1.mp hl
      refine ⟨by rw [List.length_append, h1]; rfl, ?_, fun y hy => ?_, fun i hi => ?_⟩
      · rw [List.nodup_append]
        refine ⟨h2, List.pairwise_singleton _ x, fun a ha c hc e => ?_⟩
        rw [List.mem_singleton] at hc
        exact x2 (by rw [← hc, ← e]; exact ha)
      · rw [List.mem_append, List.mem_singleton] at hy
        rcases hy with hy | rfl
        · exact h3 y hy
        · exact x1
      · rcases Nat.lt_succ_iff_lt_or_eq.mp hi with c | c
        · rw [getD_app_left (by omega)]
          exact h4 i c
        · subst c
          rw [← h1, getD_app_last, h1]
          exact x3
    · rintro ⟨h1, h2, h3, h4⟩
      obtain ⟨b, x, rfl, hb⟩ := snoc_split h1
      rw [List.nodup_append] at h2
      refine ⟨b, (mem_grow n ok k b).mpr ⟨hb, h2.1, fun y hy => h3 y (List.mem_append_left _ hy), fun i hi => ?_⟩, mem_more1.mpr ⟨x, h3 x (List.mem_append_right _ List.mem_cons_self), fun hx => h2.2.2 x hx x List.mem_cons_self rfl, ?_, rfl⟩⟩
      · have := h4 i (by omega)
        rw [getD_app_left (by omega)] at this
        exact this
      · have := h4 k (Nat.lt_succ_self k)
        rw [← hb, getD_app_last, hb] at this
        exact this
theorem lt_app : ∀ {a b s t : List Nat}, a.length = b.length → a < b → a ++ s < b ++ t
  | [], [], _, _, _, h => absurd h (List.lt_irrefl _)
  | [], _ :: _, _, _, e, _ => by cases e
  | _ :: _, [], _, _, e, _ => by cases e
  | x :: a, y :: b, s, t, e, h => by
    have e' : a.length = b.length := Nat.succ.inj e
    rw [List.cons_append, List.cons_append, List.cons_lt_cons_iff]
    rcases List.cons_lt_cons_iff.mp h with h | ⟨h1, h2⟩
    · exact .inl h
    · exact .inr ⟨h1, lt_app e' h2⟩
theorem app_lt : ∀ {b s t : List Nat}, s < t → b ++ s < b ++ t
  | [], _, _, h => h
  | x :: b, s, t, h => by
    rw [List.cons_append, List.cons_append, List.cons_lt_cons_iff]
    exact .inr ⟨rfl, app_lt h⟩
/-- they stand in order -/
theorem grow_sorted (n : Nat) (ok : Nat → Nat → Bool) : ∀ k, (grow n ok k).Pairwise (· < ·)
  | 0 => List.pairwise_singleton _ _
  | k + 1 => by
    show ((grow n ok k).flatMap (more1 n (ok k))).Pairwise (· < ·)
    rw [List.pairwise_flatMap]
    refine ⟨fun b _ => ?_, ?_⟩
    · unfold more1
      rw [List.pairwise_map]
      refine ((range_sorted n).filter _).imp fun {x y} h => app_lt (List.cons_lt_cons_iff.mpr (.inl h))
    · have all : ∀ b ∈ grow n ok k, b.length = k := fun b hb => ((mem_grow n ok k b).mp hb).1
      refine (List.Pairwise.and_mem.mp (grow_sorted n ok k)).imp ?_
      rintro a b ⟨ha, hb, hab⟩ x hx y hy
      obtain ⟨u, _, _, _, rfl⟩ := mem_more1.mp hx
      obtain ⟨v, _, _, _, rfl⟩ := mem_more1.mp hy
      exact lt_app (by rw [all a ha, all b hb]) hab
theorem more1_length (n : Nat) (ok : Nat → Bool) (b : List Nat) : (more1 n ok b).length ≤ n := by
  unfold more1
  rw [List.length_map]
  refine Nat.le_trans (List.length_filter_le _ _) ?_
  rw [List.length_range]
  exact Nat.le_refl _
theorem moreAll_length (n : Nat) (ok : Nat → Bool) : ∀ L : List (List Nat), (moreAll n ok L).length ≤ L.length * n
  | [] => by
    show 0 ≤ 0 * n
    omega
  | b :: L => by
    show (more1 n ok b ++ moreAll n ok L).length ≤ (L.length + 1) * n
    have h1 := more1_length n ok b
    have h2 := moreAll_length n ok L
    rw [List.length_append, Nat.add_mul]
    omega
theorem grow_length (n : Nat) (ok : Nat → Nat → Bool) (hn : n ≤ 6) : ∀ k, (grow n ok k).length ≤ 6 ^ k
  | 0 => Nat.le_refl _
  | k + 1 => by
    have h1 := moreAll_length n (ok k) (grow n ok k)
    have h2 := grow_length n ok hn k
    show (moreAll n (ok k) (grow n ok k)).length ≤ 6 ^ k * 6
    exact Nat.le_trans h1 (Nat.mul_le_mul h2 hn)
theorem grow_small {n : Nat} {ok : Nat → Nat → Bool} (hn : n ≤ 6) {k : Nat} (hk : k ≤ 6) : (grow n ok k).length ≤ 46656 :=
  Nat.le_trans (grow_length n ok hn k) (Nat.le_trans (Nat.pow_le_pow_right (by decide) hk) (by decide))
/-- may the wrestler of the old rank i have the rank x? -/
def okR (r : Ranks) (i x : Nat) : Bool := !((r.up i && decide (i < x)) || (r.down i && decide (x < i)))
theorem right_iff (r : Ranks) (l : List Nat) : r.right l = true ↔ l.length = r.count ∧ l.Nodup ∧ (∀ x ∈ l, x < r.count) ∧ ∀ i, i < r.count → okR r i (l.getD i 0) = true := by
  unfold Ranks.right
  rw [Bool.and_eq_true, told_perm]
  constructor
  · rintro ⟨p, w⟩
    refine ⟨by rw [p.length_eq, List.length_range], p.symm.nodup List.nodup_range, fun x hx => List.mem_range.mp (p.mem_iff.mp hx), fun i hi => ?_⟩
    unfold Ranks.wrong at w
    rw [Option.isNone_iff_eq_none, List.find?_eq_none] at w
    have := w i (List.mem_range.mpr hi)
    unfold okR
    cases e : (r.up i && decide (i < l.getD i 0)) || (r.down i && decide (l.getD i 0 < i)) with
    | false => rfl
    | true => exact absurd e this
  · rintro ⟨h1, h2, h3, h4⟩
    refine ⟨(perm_of_sub l (List.range r.count) h2 (fun x hx => List.mem_range.mpr (h3 x hx)) (by rw [List.length_range, h1]; exact Nat.le_refl _)).symm, ?_⟩
    unfold Ranks.wrong
    rw [Option.isNone_iff_eq_none, List.find?_eq_none]
    intro i hi z
    have := h4 i (List.mem_range.mp hi)
    unfold okR at this
    rw [z] at this
    cases this
/-- all ranks given: the lists that can be -/
theorem grow_lists (r : Ranks) : grow r.count (okR r) r.count = r.lists :=
  sorted_ext (grow_sorted _ _ _) (lists_sorted r) fun l => by rw [mem_grow, mem_lists, right_iff]
/-! ### the nearest -/
theorem isBest_at {f : List Nat → Nat} {L : List (List Nat)} {least i : Nat} {row : List Nat} (hle : ∀ l ∈ L, least ≤ f l) (hi : L[i]? = some row) (hf : f row = least) (hb : ∀ j, j < i → ∀ l, L[j]? = some l → f l ≠ least) :
    IsBest f L ⟨least, (L.map f).count least, row⟩ where
  least := hle
  many := by
    show (L.map f).count least = (L.filter fun l => decide (f l = least)).length
    rw [← List.countP_eq_length_filter, List.count, List.countP_map]
    refine List.countP_congr fun l _ => ?_
    show (f l == least) = true ↔ decide (f l = least) = true
    rw [beq_iff_eq, decide_eq_true_iff]
  first := by
    show L.find? (fun l => decide (f l = least)) = some row
    rw [List.find?_eq_some_iff_getElem]
    obtain ⟨hlt, e⟩ := List.getElem?_eq_some_iff.mp hi
    refine ⟨decide_eq_true hf, i, hlt, e, fun j hj => ?_⟩
    have := hb j hj L[j] (List.getElem?_eq_getElem _)
    rw [decide_eq_false this]
    rfl
/-! ### by what's earned -/
theorem order_class (r : Ranks) (z : Int) : (order r).filter (fun i => decide (r.earned i = z)) = (List.range r.count).filter (fun i => decide (r.earned i = z)) := by
  have p : ((order r).filter (fun i => decide (r.earned i = z))).Perm ((List.range r.count).filter (fun i => decide (r.earned i = z))) := (order_perm r).filter _
  have s1 : ((order r).filter (fun i => decide (r.earned i = z))).Pairwise (· ≤ ·) := by
    refine (List.Pairwise.and_mem.mp ((order_sorted r).filter _)).imp ?_
    rintro a b ⟨ha, hb, h⟩
    have ea := of_decide_eq_true (List.mem_filter.mp ha).2
    have eb := of_decide_eq_true (List.mem_filter.mp hb).2
    rw [le_iff] at h
    omega
  have s2 : ((List.range r.count).filter (fun i => decide (r.earned i = z))).Pairwise (· ≤ ·) := ((range_sorted _).imp fun {a b} h => Nat.le_of_lt h).filter _
  exact p.eq_of_pairwise (fun a b _ _ h1 h2 => Nat.le_antisymm h1 h2) s1 s2
end Nr
set_option Elab.async false
set_option linter.all false
set_option maxRecDepth 100000
set_option maxHeartbeats 2000000
/-! # CannotBe: an own error with a field (over Exception) -/
namespace PySem
namespace CbX
open PySem.W PySem.Calls PyProof.Rows PySem.HandSPX
/-! ### the text of __init__ -/
def iA (p1 p2 : Pos) : Arguments := { posonlyargs := [], args := [{ arg := "self", annotation := none, pos := p1 }, { arg := "who", annotation := none, pos := p2 }], vararg := none, kwonlyargs := [], kw_defaults := [], kwarg := none, defaults := [] }
def iB (q1 q2 q3 q4 : Pos) : List Stmt := [.Assign [.Attribute (.Name "self" q1) "who" q2] (.Name "who" q3) q4]
def iS : Scope := { kind := .function, names := [(PySem.Str.ofString "self", .local), (PySem.Str.ofString "who", .local)], isGenerator := false, isCoroutine := false, more := [] }
/-- what the written part says of Cb, at C, and of its __init__, at fI -/
structure CbTxt (K : Frag) (mg : Str → Option Value) (C fI : Addr) : Prop where
  gC : mg "CannotBe" = some (.ref C)
  cls : ∃ nm q N bs sn sub ab col dd k0 k1 k2 k3 k5, K.lookup C = some (excClassObj nm q C N bs ESX.exTail true sn sub ab col dd k0 k1 k2 k3 k5 "Exception.__new__")
  sa : findIn K (.ref C) "__setattr__" = some (some (.builtin "object.__setattr__"))
  ga : findIn K (.ref C) "__getattribute__" = some (some (.builtin "BaseException.__getattribute__"))
  gg : findIn K (.ref C) "__getattr__" = some none
  noN : findIn K (.ref C) "who" = some none
  iC : findIn K (.ref C) "__init__" = some (some (.ref fI))
  tC : typeIn K (.ref fI) = some (.type "function")
  kC : keepIn K (.ref C) = true
  exC : subIn K (.ref C) (.type "BaseException") = some true
  tyC : typeIn K (.ref C) = some (.type "type")
  hdC : hasDictIn K C = true
  te : exmOne K (.ref C) (.ref C) = some true
  fn : ∃ (oc : Value) (od : Option Addr) (doc pm : Value) (an : Option Addr) (cdv ct : Value) (osl : Array (Option Value)) (p1 p2 q1 q2 q3 q4 : Pos),
    K.lookup fI = some ⟨oc, od, .func (fnOf "__init__" "CannotBe.__init__" (iA p1 p2) (iB q1 q2 q3 q4) iS .none .none doc pm an cdv ct), osl⟩ ∧ codeIn K cdv "CannotBe.__init__" = true
theorem one_size (v : Value) : [v].length ≤ sizeLine := by
  rw [sizeLine_eq]
  exact (by decide : 1 ≤ 16777216)
theorem kept_but {K : Frag} {h h' : Heap} {x : Addr} (X : K.In h) (hx : K.lookup x = none) (k : ∀ b o, b ≠ x → h.get? b = some o → h'.get? b = some o) : K.In h' := fun a o e =>
  k a o (fun z => by rw [z, hx] at e; cases e) (X a o e)
theorem ldC {M : Model} {s : Shared} {name : Str} {scope : Scope} {L a : Addr} {cd : Value} {m : Str → Option Value} {x : Str} {pos : Pos} {v : Value} {Q : Value → Shared → Prop} {A : Around} {E : Value → Shared → Prop} (hn : s.heap.Ns L m) (hv : m x = some v) (h : Q v s)
    (hk : scope.kind = .function := by rfl) (hl : (envOfC name scope L a cd).kindOf x = some .local := by rfl) (hd : (x == ("__debug__" : Str)) = false := by decide) :
    wpAny M A (eval (.Name x pos) (envOfC name scope L a cd)) Q E s := wpAny_Name (wpAny_loadName_local hk hl hn hv h) hd
/-- what __init__ leaves of a fresh exception at x -/
structure InitEnd (h h' : Heap) (x C dx t1 : Addr) (v : Value) : Prop where
  keep : ∀ b o, b ≠ x → h.get? b = some o → h'.get? b = some o
  obj : h'.get? x = some { cls := .ref C, dict := some dx, data := .fields #[.ref t1, .none, .none, .none, .bool false, .none] }
  dbig : h.objs.size ≤ dx
  dne : dx ≠ x
  ns : h'.Ns1 dx (fun y => if y = "who" then some v else none)
/-- a made Cb -/
structure OwnMade (h h' : Heap) (e C d : Addr) (v : Value) : Prop where
  keep : ∀ b o, h.get? b = some o → h'.get? b = some o
  new : h.objs.size ≤ e
  obj : ∃ oe vs, h'.get? e = some oe ∧ oe.cls = .ref C ∧ oe.dict = some d ∧ oe.data = .fields vs ∧ vs[1]? = some .none
  dbig : h.objs.size ≤ d
  dne : d ≠ e
  ns : h'.Ns1 d (fun y => if y = "who" then some v else none)
section
variable {prog : Program} {w : World} {A : Around} {E : Value → Shared → Prop} {R : Result → Shared → Prop} {s : Shared} {K : Frag} {mg : Str → Option Value} {C fI : Addr}
theorem cb_init (T : CbTxt K mg C fI) {x t0 : Addr} {v : Value} (X : K.In s.heap) (hlim : s.heap.NoLimit) (hx : s.heap.get? x = some (excO C t0)) (hnx : K.lookup x = none) (hroom : A.depth < recursionLimit)
    (hq : ∀ h' tk dx, InitEnd s.heap h' x C dx t0 v → R (.ok (.ret .none)) { s with heap := h', toks := tk }) :
    codeAny (model prog w) A (.call (.ref fI) ⟨[.ref x, v], []⟩) R s := by
  obtain ⟨oc, od, doc, pm, an, cdv, ct, osl, p1, p2, q1, q2, q3, q4, ho, hcd⟩ := T.fn
  obtain ⟨nm, q, N, bs, sn, sub, ab, col, dd, k0, k1, k2, k3, k5, hC⟩ := T.cls
  have hcl : clsIn K C = some { name := nm, bases := bs, mro := .ref C :: ESX.exTail, ns := N, qualname := q, hasDict := true, slotNames := sn, subclasses := sub, abstract := ab, collection := col, hasDel := false } := by unfold clsIn; rw [hC] <;> rfl
  refine Att.call_fn (binds := [("self", .ref x), ("who", v)]) X hlim ho hcd hroom (BindsTo.of_eq (by first | rfl | with_unfolding_all rfl)) (by first | rfl | decide | with_unfolding_all rfl) (fun s₁ IC => ?_) rfl rfl rfl
  obtain ⟨h₁, tk₁, rfl⟩ := IC.toInCall.same
  have k : ∀ b o, s.heap.get? b = some o → h₁.get? b = some o := IC.toInCall.keep
  have hn := IC.toInCall.ns
  have hxL : s.heap.objs.size ≠ x := Nat.ne_of_gt (Heap.lt_size hx)
  have X₁ : K.In h₁ := X.keeps k
  have hx₁ := k _ _ hx
  -- self.by = by
  show wpAny _ _ (execs _ _) _ _ _
  refine wpAny_execs_cons (plainObj_wpAny_Assign_Attribute ?_)
  refine ldC (v := v) hn (by first | rfl | with_unfolding_all rfl | kernel_rfl) (ldC (v := .ref x) hn (by first | rfl | with_unfolding_all rfl | kernel_rfl) ?_)
  refine set_plain X₁ (ox := excO C t0) (od := none) ⟨hx₁, rfl, rfl, trivial⟩ T.sa ?_
  refine ESX.osa_new X₁ hx₁ hcl rfl rfl T.noN (fun h₃ tk₃ dx k₃ dn dne hx₃ hn₃ => ?_)
  show wpAny _ _ (execs _ _) _ _ _
  have z : s.heap.objs.size < h₁.objs.size := hn.lt
  exact wpAny_execs_nil (hq h₃ tk₃ dx ⟨fun b o hb e => k₃ b o hb (k b o e), hx₃, Nat.le_of_lt (Nat.lt_of_lt_of_le z dn), dne, hn₃⟩)
theorem cb_made (T : CbTxt K mg C fI) {v : Value} (X : K.In s.heap) (hlim : s.heap.NoLimit) (hroom : A.depth + 1 < recursionLimit)
    (hq : ∀ h' tk e d, OwnMade s.heap h' e C d v → R (.ok (.ret (.ref e))) { s with heap := h', toks := tk }) :
    codeAny (model prog w) A (.call (.ref C) ⟨[v], []⟩) R s := by
  obtain ⟨nm, q, N, bs, sn, sub, ab, col, dd, k0, k1, k2, k3, k5, hC⟩ := T.cls
  obtain ⟨hp, g, dr, tk, os⟩ := s
  have k : ∀ b o, hp.get? b = some o → ((hp.push (kdv_tup [v])).push (excO C hp.objs.size)).get? b = some o := fun b o e => Heap.get?_push_of_some _ (Heap.get?_push_of_some _ e)
  have hget : ((hp.push (kdv_tup [v])).push (excO C hp.objs.size)).get? (hp.objs.size + 1) = some (excO C hp.objs.size) := by heap_get
  have hnx : K.lookup (hp.objs.size + 1) = none := by
    cases e : K.lookup (hp.objs.size + 1) with
    | none => rfl
    | some o =>
      have z : hp.get? (hp.objs.size + 1) = some o := X _ _ e
      exact absurd (Nat.lt_of_succ_lt (Heap.lt_size z)) (Nat.lt_irrefl _)
  refine call_own F.excBase_Exception (fun _ => rfl) (X _ _ hC) (looks_findIn X T.iC) (fun self => bind_fn X self T.tC) (one_size v) ?_
  refine cb_init (s := ⟨(hp.push (kdv_tup [v])).push (excO C hp.objs.size), g, dr, tk, os⟩) T (X.keeps k) (hlim.keeps k) hget hnx ?_ fun h' tk' dx ⟨k', hx, dn, dne, hns⟩ => ?_
  · show A.depth + 1 < recursionLimit
    exact hroom
  · have old : ∀ b o, hp.get? b = some o → h'.get? b = some o := fun b o e => k' b o (Nat.ne_of_lt (Nat.lt_succ_of_lt (Heap.lt_size e))) (k b o e)
    have z : hp.objs.size + 1 + 1 ≤ dx := by
      first
        | (simpa only [Heap.size_push] using dn)
        | exact dn
        | (have q := dn; rw [Heap.size_push, Heap.size_push] at q; exact q)
    exact ⟨rfl, hq h' tk' (hp.objs.size + 1) dx ⟨old, Nat.le_succ _, ⟨_, _, hx, rfl, rfl, rfl, rfl⟩, Nat.le_trans (Nat.le_trans (Nat.le_succ _) (Nat.le_succ _)) z, dne, hns⟩⟩
end
end CbX
end PySem
namespace L2
open PySem PySem.Spec PyProof.Rows
theorem relO_cb {v : V} {v' : Value} (r : RelV v v') (f : Str) : RelO (List.lookup f [(("who" : Str), v)]) (if f = "who" then some v' else none) := by
  by_cases hw : f = "who"
  · subst hw
    rw [if_pos rfl]
    have q : List.lookup ("who" : Str) [(("who" : Str), v)] = some v := by simp [List.lookup]
    rw [q]
    exact r
  · rw [if_neg hw]
    have qw : (f == ("who" : Str)) = false := by simpa using hw
    have q2 : List.lookup f [(("who" : Str), v)] = none := by simp [List.lookup, qw]
    rw [q2]
    trivial
section
variable {X : Cx} {C fI : Addr}
/-- Cb(e) -/
def tMkCb (C : Addr) (ta : TA) : St → Hp → XK → Prop := fun σ H Q => ta σ H fun vs H1 => ∃ v, vs = [v] ∧ ∀ d, H1 d = none → Q (.ref C) (some d) (upd H1 d (.xd [(("who" : Str), v)]))
theorem pmk_cb {a : Expr} {ta : TA} {p pos : Pos} {k : Nat} (T : PySem.CbX.CbTxt X.K X.mg C fI) (hr : Room k X.A) (ha : PA X [a] ta) (hg : Gl X "CannotBe" := by rfl)
    (he : starEach (a :: []) X.env = (false, eval a X.env) :: starEach [] X.env := by rfl) (hpl : (backTo pos (starEach [] X.env)).any (·.1) = false := by rfl) :
    PMk X (.Call (.Name "CannotBe" p) [a] [] pos) (tMkCb C ta) := by
  intro pins s σ H Q I h
  refine wpAny_Call_Name_kw (ld_glob I hg T.gC ?_)
  refine PySem.W.callWith_K (h₀ := X.base) I.ok.mod.kin T.kC (thn (ha.run pos pins s σ H _ I h) fun us s1 hh => ?_) he hpl
  obtain ⟨vs, H1, I1, r1, v, ev, q1⟩ := hh
  subst ev
  refine ⟨I1.kIn, ?_⟩
  cases r1 with
  | cons rv rn =>
    rename_i v' us'
    cases rn
    show wpAny _ _ (call (.ref C) [v']) _ _ _
    have hlim := I1.nolimit
    obtain ⟨hp, g, dr, tk, os⟩ := s1
    refine wpAny_call (PySem.CbX.cb_made T I1.kIn hlim (by have := hr.dp; omega) fun h' tk' e d M => ?_)
    show MkP X pins σ Q (.ref e) ⟨h', g, dr, tk', os⟩
    obtain ⟨oe, fv, hoe, hc, hd, hdat, h1⟩ := M.obj
    have hns := M.ns
    obtain ⟨G', g1, g2⟩ := restrict h' fun b => decide (b ≠ e)
    have gk : ∀ b, b ≠ e → G'.get? b = h'.get? b := fun b hb => g1 b (decide_eq_true hb)
    have ge : G'.get? e = none := g2 e (by simp)
    have old : ∀ b o, hp.get? b = some o → G'.get? b = some o := fun b o q => (gk b (Nat.ne_of_lt (Nat.lt_of_lt_of_le (Heap.lt_size q) M.new))).trans (M.keep b o q)
    have ob : ObjOk X.prog X.w (upd H1 d (.xd [(("who" : Str), v)])) G' d (.xd [(("who" : Str), v)]) :=
      ⟨_, hns.at (fun o q => (gk d M.dne).trans q), fun f => relO_cb rv f⟩
    have J : Inv X pins σ (upd H1 d (.xd [(("who" : Str), v)])) ⟨G', g, dr, tk', os⟩ := I1.laid (t' := tk') old M.dbig ob
    refine ⟨e, oe, fv, ⟨G', g, dr, tk', os⟩, _, .ref C, some d, rfl, J, fun b o q => ?_, ge, hoe, ⟨hc, hd⟩, hdat, h1, ?_, rfl, I1.bare, raises_own T.exC T.tyC, q1 d (I1.hok.fresh M.dbig)⟩
    · by_cases hb : b = e
      · have q' : G'.get? b = some o := q
        rw [hb, ge] at q'; cases q'
      · exact (gk b hb).symm.trans q
    · rw [upd_ne (Ne.symm M.dne)]
      exact I1.hok.fresh M.new
/-- raise Cb(e) -/
def tRaiseCb (C : Addr) (W : WX) (ta : TA) : TS := fun _ σ H => tMkCb C ta σ H fun cls d H' => W cls d σ H'
theorem ps_raiseCb {a : Expr} {ta : TA} {W : WX} {p pos pos2 : Pos} {k : Nat} (hc : X.calm = true) (T : PySem.CbX.CbTxt X.K X.mg C fI) (hr : Room k X.A) (tk : Takes X W) (ha : PA X [a] ta) (hg : Gl X "CannotBe" := by rfl)
    (he : starEach (a :: []) X.env = (false, eval a X.env) :: starEach [] X.env := by rfl) (hpl : (backTo pos (starEach [] X.env)).any (·.1) = false := by rfl) :
    PS X (.Raise (some (.Call (.Name "CannotBe" p) [a] [] pos)) none pos2) (tRaiseCb C W ta) := ps_raise hc tk (pmk_cb T hr ha hg he hpl)
/-- low.by, low the exception that the suite holds (at a; its class cls, its dict d) -/
def tWhoCb (C : Addr) (a : Addr) (cls : Value) (d : Option Addr) (te : TE) : TE := fun σ H Q => te σ H fun x H1 => x = .ref a ∧ cls = .ref C ∧ ∃ (dd : Addr) (v : V), d = some dd ∧ H1 dd = some (.xd [(("who" : Str), v)]) ∧ Q v H1
theorem pe_whoCb {a : Addr} {oe : Obj} {cls : Value} {d : Option Addr} {pn : List (Addr × Obj)} {e : Expr} {te : TE} {pos : Pos} (T : PySem.CbX.CbTxt X.K X.mg C fI) (hz : Zc cls d oe) (hf : ∃ vs, oe.data = .fields vs) (he : PE (X.suite a ((a, oe) :: pn)) e te)
    (hb : attributeBase e "who" X.env (eval e X.env) = eval e X.env := by rfl) :
    PE (X.suite a ((a, oe) :: pn)) (.Attribute e "who" pos) (tWhoCb C a cls d te) := by
  refine ⟨fun pins s σ H Q I h => ?_⟩
  refine attr_of hb (thn (he.run pins s σ H _ I h) fun u s1 hh => ?_)
  obtain ⟨x, H1, I1, rx, ex, ec, dd, v, ed, ea, q⟩ := hh
  subst ex
  obtain rfl : u = Value.ref a := rx
  subst ec
  subst ed
  obtain ⟨ha, _⟩ := I1.pin (a, oe) (List.mem_append_left _ List.mem_cons_self)
  obtain ⟨vs, hd⟩ := hf
  have hx : ObjOk X.prog X.w H1 s1.heap dd (.xd [(("who" : Str), v)]) := I1.hok dd _ ea
  obtain ⟨mA, hns, hr⟩ := hx
  obtain ⟨od, ho, hl⟩ := lookIn_ns hns
  have l : List.lookup ("who" : Str) [(("who" : Str), v)] = some v := by simp [List.lookup]
  obtain ⟨u, hu, ru⟩ := RelO.some_of (v := v) (o := mA "who") (by rw [← l]; exact hr "who")
  have J : PySem.W.InstAt s1.heap a oe C (some od) := ⟨ha, hz.1, by unfold PySem.W.notCls; rw [hd] <;> rfl, by rw [hz.2]; exact ho⟩
  exact HandSPX.exc_get I1.kIn J T.ga T.gg T.exC (PySem.W.findObj_own T.hdC T.noN rfl (by rw [hl, hu])) (handed_of ru) ⟨v, H1, I1.tok _, ru, q⟩
end
end L2

namespace L2
open PySem PySem.Spec PyProof.Rows
/-- an if whose test is known -/
theorem if_true_of {c : Bool} {A B : Prop} (hc : c = true) (h : A) : if c = true then A else B := by
  rw [if_pos hc]
  exact h
theorem if_false_of {c : Bool} {A B : Prop} (hc : c = false) (h : B) : if c = true then A else B := by
  rw [hc, if_neg Bool.false_ne_true]
  exact h
end L2
set_option Elab.async false
set_option linter.all false
set_option maxRecDepth 100000
set_option maxHeartbeats 4000000
/-! max(xs, default=d) over a list of whole numbers. -/
namespace PySem
namespace NrMax
section
variable {prog : Program} {w : World} {A : Around} {E : Value → Shared → Prop}
/-- what a call that may go on is wished to end by -/
abbrev Ends1 (Q : Value → Shared → Prop) (E : Value → Shared → Prop) : Result → Shared → Prop := fun r t => match r with
  | .ok (.ret v) => Q v t
  | .ok _ => False
  | .error e => E e t
theorem tree_kw {s : Shared} {id : String} {b : Builtin} {args : List Value} {kw : List (Str × Value)} {Q : Value → Shared → Prop} (kind : builtinKind id = none) (plain : plainId id = true) (entry : entryFor table id = some b) (fit : argsOk id ⟨args, kw⟩)
    (go : wpAny (model prog w) A.in1 (b ⟨args, kw⟩) (fun fin t => match fin with
      | .done f => Ends1 Q E (.ok f) t
      | .again c => c.quiet = true ∧ codeAny (model prog w) A c (Ends1 Q E) t) E s) : wpAny (model prog w) A (call (.builtin id) args kw) Q E s := by
  refine wpAny_call (codeAny_call_builtin plain entry ?_)
  simp only [checkBuiltinCall, kind]
  cases q : Manifest.signature? id with
  | none => exact wpAny_pure go
  | some sg =>
    have e : Bind.checkArgs id sg ⟨args, kw⟩ = pure () := by
      have f := fit
      simp only [argsOk, q] at f
      exact f
    show wpAny _ A.in1 (Bind.checkArgs id sg ⟨args, kw⟩) _ _ s
    rw [e]
    exact wpAny_pure go
/-- the list that holds the best so far -/
abbrev bestObj (vs : Array Value) (c : Nat) : Obj := { cls := .type "list", dict := none, data := .seq vs c, slots := #[] }
theorem loop_name : (toString "max" ++ toString ".loop" : String) = "max.loop" := by decide
section
variable {R : Result → Shared → Prop} {I : Addr} {fp wr : List Addr} {n : Nat} {P : Nat → Value → Prop} {St : Nat → Heap → Prop} {kw : List (Str × Value)} {B : Addr}
/-- the walk's own objects and the list of the best apart -/
structure Apart (fp wr : List Addr) (B : Addr) : Prop where
  fp : B ∉ fp
  wr : B ∉ wr
theorem loop_more (W : Walks prog w A.in1 I fp wr n P St) (gt : Nat → Nat → Bool) (cmp : CmpOf prog w A.in1 .Gt P gt) (ap : Apart fp wr B) :
    ∀ (k j : Nat) (s : Shared) (v : Value) (c : Nat), j + 1 + k = n → St (j + 1) s.heap → P (argBest gt j) v → s.heap.get? B = some (bestObj #[v, v] c) →
    (∀ u h tk, P (argBest gt (n - 1)) u → (∀ b o, b ∉ wr → b ≠ B → s.heap.get? b = some o → h.get? b = some o) → R (.ok (.ret u)) { s with heap := h, toks := tk }) →
    codeAny (model prog w) A (.builtin "max.loop" ⟨[.ref I, .none, .ref B], kw⟩) R s
  | 0, j, s, v, c, hk, st, pv, hB, done => by
    have e : j + 1 = n := hk
    subst e
    refine codeAny_builtin F.entry_max_loop ?_
    rw [Around.under_plainId F.plain_max_loop _]
    show wpAny _ A.in1 (seqItems? (.ref B) >>= _) _ _ s
    refine wpAny_bind (wpAny_seqItems hB rfl ?_)
    show wpAny _ A.in1 (tryCatch (pyNext (.ref I)) _ >>= _) _ _ s
    refine wpAny_bind (wpAny_tryCatch (W.done s _ _ st fun h tk keep => ?_))
    have hB1 := keep B _ ap.wr hB
    show wpAny _ A.in1 (updateSeq B (fun _ => #[]) >>= _) _ _ _
    refine wpAny_bind ?_
    refine wpAny_updateSeq hB1 rfl (wpAny_bind (wpAny_letGo (wpAny_pure (done v _ tk pv fun b o n1 n2 q => ?_))))
    rw [Heap.get?_update_other _ _ (Ne.symm n2)]
    exact keep b o n1 q
  | k + 1, j, s, v, c, hk, st, pv, hB, done => by
    have more := loop_more W gt cmp ap k (j + 1)
    refine codeAny_builtin F.entry_max_loop ?_
    rw [Around.under_plainId F.plain_max_loop _]
    show wpAny _ A.in1 (seqItems? (.ref B) >>= _) _ _ s
    refine wpAny_bind (wpAny_seqItems hB rfl ?_)
    show wpAny _ A.in1 (tryCatch (pyNext (.ref I)) _ >>= _) _ _ s
    refine wpAny_bind (wpAny_tryCatch (W.item (j + 1) s _ _ (by omega) st fun u h tk pu st1 keep => ?_))
    have hB1 := keep B _ ap.wr hB
    show wpAny _ A.in1 (tryCatch (holding [u, u] (richCompare .Gt u v >>= _)) _ >>= _) _ _ _
    refine wpAny_bind (wpAny_tryCatch (wpAny_holding (wpAny_bind (cmp (j + 1) (argBest gt j) u v _ _ _ pu pv ?_))))
    refine wpAny_bind (wpAny_holding (wpAny_truthy_bool (wpAny_bind (wpAny_letGo (wpAny_pure ?_)))))
    cases g : gt (j + 1) (argBest gt j) with
    | true =>
      have best : argBest gt (j + 1) = j + 1 := by simp only [argBest, g, if_true]
      simp only [if_true]
      refine wpAny_bind ?_
      refine wpAny_updateSeq hB1 rfl (wpAny_bind (wpAny_letGo ?_))
      rw [loop_name]
      refine wpAny_pure ⟨plainId_quiet F.plain_max_loop _, more _ u _ (by omega) (W.frame _ _ _ st1 fun b hb o q => ?_) (by rw [best]; exact pu) (Heap.get?_update_self _ hB1 rfl) fun x h2 tk2 px keep2 => done x h2 tk2 px fun b o n1 n2 q => keep2 b o n1 n2 ?_⟩
      · rw [Heap.get?_update_other _ _ (fun z : B = b => ap.fp (by rw [z]; exact hb))]
        exact q
      · rw [Heap.get?_update_other _ _ (Ne.symm n2)]
        exact keep b o n1 q
    | false =>
      have best : argBest gt (j + 1) = argBest gt j := by simp only [argBest, g, Bool.false_eq_true, if_false]
      simp only [Bool.false_eq_true, if_false]
      refine wpAny_bind (wpAny_letGo ?_)
      rw [loop_name]
      exact wpAny_pure ⟨plainId_quiet F.plain_max_loop _, more _ v c (by omega) st1 (by rw [best]; exact pv) hB1 fun x h2 tk2 px keep2 => done x h2 tk2 px fun b o n1 n2 q => keep2 b o n1 n2 (keep b o n1 q)⟩
/-- from its beginning: nothing is there, or the best of all -/
theorem loop_all {d : Value} (W : Walks prog w A.in1 I fp wr n P St) (gt : Nat → Nat → Bool) (cmp : CmpOf prog w A.in1 .Gt P gt) (ap : Apart fp wr B) {s : Shared} {c : Nat} (st : St 0 s.heap) (hB : s.heap.get? B = some (bestObj #[] c))
    (none_ : n = 0 → ∀ h tk, (∀ b o, b ∉ wr → b ≠ B → s.heap.get? b = some o → h.get? b = some o) → R (.ok (.ret d)) { s with heap := h, toks := tk })
    (some_ : 0 < n → ∀ u h tk, P (argBest gt (n - 1)) u → (∀ b o, b ∉ wr → b ≠ B → s.heap.get? b = some o → h.get? b = some o) → R (.ok (.ret u)) { s with heap := h, toks := tk }) :
    codeAny (model prog w) A (.builtin "max.loop" ⟨[.ref I, .none, .ref B], [(Str.ofString "default", d)]⟩) R s := by
  refine codeAny_builtin F.entry_max_loop ?_
  rw [Around.under_plainId F.plain_max_loop _]
  show wpAny _ A.in1 (seqItems? (.ref B) >>= _) _ _ s
  refine wpAny_bind (wpAny_seqItems hB rfl ?_)
  show wpAny _ A.in1 (tryCatch (pyNext (.ref I)) _ >>= _) _ _ s
  rcases Nat.eq_zero_or_pos n with z | z
  · subst z
    refine wpAny_bind (wpAny_tryCatch (W.done s _ _ st fun h tk keep => ?_))
    exact wpAny_bind (wpAny_rule (wpAny_pure (none_ rfl h tk fun b o n1 _ q => keep b o n1 q)))
  · refine wpAny_bind (wpAny_tryCatch (W.item 0 s _ _ z st fun u h tk pu st1 keep => ?_))
    have hB1 := keep B _ ap.wr hB
    show wpAny _ A.in1 (updateSeq B (fun _ => #[u, u]) >>= _) _ _ _
    refine wpAny_bind ?_
    refine wpAny_updateSeq hB1 rfl ?_
    rw [loop_name]
    refine wpAny_pure ⟨plainId_quiet F.plain_max_loop _, loop_more W gt cmp ap (n - 1) 0 _ u _ (by omega) (W.frame _ _ _ st1 fun b hb o q => ?_) pu (Heap.get?_update_self _ hB1 rfl) fun x h2 tk2 px keep2 => some_ z x h2 tk2 px fun b o n1 n2 q => keep2 b o n1 n2 ?_⟩
    · rw [Heap.get?_update_other _ _ (fun z : B = b => ap.fp (by rw [z]; exact hb))]
      exact q
    · rw [Heap.get?_update_other _ _ (Ne.symm n2)]
      exact keep b o n1 q
end
theorem args_maxD (a d : Value) : argsOk "max" ⟨[a], [(Str.ofString "default", d)]⟩ := by unfold argsOk; kernel_rfl
/-- max(l, default=d) of a list of whole numbers -/
theorem max_default {s : Shared} {l : Addr} {xs : Array (Int × Tok)} {d : Value} {Q : Value → Shared → Prop} (hh : A.handled = none) (hl : s.heap.IsList l (intItems xs))
    (none_ : xs.size = 0 → ∀ h tk, (∀ b o, s.heap.get? b = some o → h.get? b = some o) → Q d { s with heap := h, toks := tk })
    (some_ : 0 < xs.size → ∀ v h tk, (intItems xs)[argBest (fun i j => decide (numAt xs i > numAt xs j)) (xs.size - 1)]? = some v → (∀ b o, s.heap.get? b = some o → h.get? b = some o) → Q v { s with heap := h, toks := tk }) :
    wpAny (model prog w) A (call (.builtin "max") [.ref l] [(Str.ofString "default", d)]) Q E s := by
  refine tree_kw F.kind_max F.plain_max F.entry_max (args_maxD _ _) ?_
  show wpAny _ A.in1 (Builtin.Builtins.bindParams "max" ["key", "default"] 0 ⟨[], [(Str.ofString "default", d)]⟩ >>= _) _ _ s
  refine wpAny_bind (wpAny_of_eq (show Builtin.Builtins.bindParams "max" ["key", "default"] 0 ⟨[], [(Str.ofString "default", d)]⟩ = pure [none, some d] from by kernel_rfl) ?_)
  refine wpAny_bind (wpAny_pure (wpAny_bind (iter_intList hl fun s2 e st fresh apart => ?_)))
  subst e
  refine wpAny_bind (wpAny_newObj_type ?_)
  have W := Walks.list (prog := prog) (w := w) (A := A.in1) hh s.heap.objs.size l apart (intItems xs)
  have hsz : (intItems xs).size = xs.size := by simp [intItems]
  have lt : s.heap.objs.size < (s.heap.push { cls := .type "list_iterator", data := .fields #[.ref l, .int 0 0] }).objs.size := fresh _ (List.mem_cons_self)
  have ap : Apart [s.heap.objs.size, l] [s.heap.objs.size] (s.heap.push { cls := .type "list_iterator", data := .fields #[.ref l, .int 0 0] }).objs.size :=
    ⟨fun m => Nat.lt_irrefl _ (fresh _ m), fun m => Nat.lt_irrefl _ (fresh _ (W.sub _ m))⟩
  have old : ∀ {h : Heap}, (∀ b o, b ∉ [s.heap.objs.size] → b ≠ (s.heap.push { cls := .type "list_iterator", data := .fields #[.ref l, .int 0 0] }).objs.size →
      ((s.heap.push { cls := .type "list_iterator", data := .fields #[.ref l, .int 0 0] }).push (bestObj #[] 0)).get? b = some o → h.get? b = some o) → ∀ b o, s.heap.get? b = some o → h.get? b = some o := fun {h} k b o q => by
    have b1 : b < s.heap.objs.size := Heap.lt_size q
    refine k b o (fun m => ?_) (fun z => ?_) (Heap.get?_push_of_some _ (Heap.get?_push_of_some _ q))
    · rw [List.mem_singleton] at m
      exact Nat.ne_of_lt b1 m
    · exact Nat.ne_of_lt (Nat.lt_trans b1 lt) z
  rw [loop_name]
  refine wpAny_pure ⟨plainId_quiet F.plain_max_loop _, ?_⟩
  refine loop_all (s := { s with heap := (s.heap.push { cls := .type "list_iterator", data := .fields #[.ref l, .int 0 0] }).push (bestObj #[] 0) }) W _ (CmpOf.ints_gt (numAt xs) fun _ _ => intItems_at) ap (W.frame 0 _ _ st fun b _ o q => Heap.get?_push_of_some _ q) (Heap.get?_push_size _ rfl) (fun z h tk k => ?_) (fun z u h tk pu k => ?_)
  · exact none_ (by omega) h tk (old k)
  · rw [hsz] at z pu
    exact some_ z u h tk pu (old k)
end
end NrMax
end PySem

namespace L2
open PySem PySem.Spec PyProof.Rows
section
variable {X : Cx}
/-- max(xs, default=v): the greatest of a list of whole numbers, v where there is none -/
def rMaxOr (K : PySem.W.Frag) : List V → List V → Hp → VK → Prop := fun vs zs H Q => ∃ (a : Addr) (ns : List Int) (v : V), vs = [.ref a] ∧ zs = [v] ∧ SqL K H a (ns.map V.int) ∧
  (ns = [] → Q v H) ∧ ∀ m, m ∈ ns → (∀ y, y ∈ ns → y ≤ m) → Q (.int m) H
theorem cr_maxOr (hc : X.calm = true) : CallRK X (.builtin "max") [Str.ofString "default"] (rMaxOr X.K) := by
  intro pins s σ H vs zs us ws Q I r rz h
  obtain ⟨a, ns, v, rfl, rfl, hs, q0, q1⟩ := h
  obtain ⟨its, rv, hl, _⟩ := I.list hs
  obtain rfl := Vals.ref1 r
  cases rz with
  | cons rv' t =>
    rename_i d ds
    cases t
    have hi := rv.ints
    obtain ⟨xs, e⟩ := hi.allInts.items
    have hn : numsOf (intItems xs).toList = ns := by rw [← e]; exact hi.numsOf
    rw [nums_intItems] at hn
    have hl' := hl.isList
    rw [e] at hl'
    have len : xs.size = ns.length := by rw [← hn, List.length_map, Array.length_toList]
    refine PySem.NrMax.max_default (I.ok.hd hc) hl' (fun z h' tk k => ?_) (fun z u h' tk pu k => ?_)
    · have e0 : ns = [] := List.length_eq_zero_iff.mp (by omega)
      exact ⟨v, H, I.kept k, rv', q0 e0⟩
    · obtain ⟨t, rfl⟩ := intItems_at pu
      obtain ⟨h1, h2⟩ := argBest_gt (numAt xs) (xs.size - 1)
      refine ⟨.int _, H, I.kept k, ⟨_, rfl⟩, q1 _ ?_ fun y hy => ?_⟩
      · rw [← hn, numAt_eq]
        exact PySem.getD_mem (by rw [List.length_map, Array.length_toList]; omega)
      · rw [← hn] at hy
        obtain ⟨j, hj, rfl⟩ := mem_getD hy
        rw [List.length_map, Array.length_toList] at hj
        rw [← numAt_eq]
        exact h2 j (by omega)
end
end L2
set_option Elab.async false
set_option linter.all false
set_option maxRecDepth 100000
set_option maxHeartbeats 4000000
/-! try with several clauses, of which each may name what it takes. -/
namespace L2
open PySem PySem.Spec PyProof.Rows
/-- a clause: the class, the slot of its name (if it has one), its suite's reading -/
structure Cl where
  c : Value
  at_ : Option Nat
  ts : Addr → Value → Option Addr → TS
/-- the slots within the suite -/
def Cl.into (q : Cl) (a : Addr) (σ : St) : St := match q.at_ with
  | none => σ
  | some i => σ.set i (some (.ref a))
/-- the slots behind the suite: the name is gone -/
def Cl.behind (q : Cl) (σ : St) : St := match q.at_ with
  | none => σ
  | some i => σ.set i none
def Cl.ends (q : Cl) (D : Ends) : Ends := { nx := fun σ H => D.nx (q.behind σ) H, rt := D.rt, bk := fun σ H => D.bk (q.behind σ) H, ct := fun σ H => D.ct (q.behind σ) H }
def wCls (K : PySem.W.Frag) (Wout : WX) (D : Ends) : List Cl → WX
  | [] => Wout
  | q :: r => fun cls d σ H => ∃ b, PySem.W.exmOne K cls q.c = some b ∧ (b = true → ∀ a, H a = none → q.ts a cls d (q.ends D) (q.into a σ) H) ∧ (b = false → wCls K Wout D r cls d σ H)
/-- what a suite runs by -/
def SuiteOk (X : Cx) (suite : List Stmt) (ts : Addr → Value → Option Addr → TS) : Prop :=
  ∀ (a : Addr) (oe : Obj) (cls : Value) (d : Option Addr) (pn : List (Addr × Obj)), Zc cls d oe → (∃ vs, oe.data = .fields vs) → PSs (X.suite a ((a, oe) :: pn)) suite (ts a cls d)
inductive ClsOk (X : Cx) : List ExceptHandler → List Cl → Prop
  | nil : ClsOk X [] []
  | bare {x : Str} {c : Value} {ts : Addr → Value → Option Addr → TS} {b₀ : Stmt} {suite : List Stmt} {np pos : Pos} {hds : List ExceptHandler} {l : List Cl} (nm : Names X x c) (su : SuiteOk X (b₀ :: suite) ts) (r : ClsOk X hds l) :
      ClsOk X (.ExceptHandler (some (.Name x np)) none (b₀ :: suite) pos :: hds) (⟨c, none, ts⟩ :: l)
  | named {x n : Str} {i : Nat} {c : Value} {ts : Addr → Value → Option Addr → TS} {b₀ : Stmt} {suite : List Stmt} {np pos : Pos} {hds : List ExceptHandler} {l : List Cl} (nm : Names X x c) (nd : X.N.Nodup) (at_ : X.N[i]? = some n)
      (loc : X.env.kindOf n = some .local) (su : SuiteOk X (b₀ :: suite) ts) (r : ClsOk X hds l) : ClsOk X (.ExceptHandler (some (.Name x np)) (some n) (b₀ :: suite) pos :: hds) (⟨c, some i, ts⟩ :: l)
section
variable {X : Cx} {body : List Stmt} {h₀ : ExceptHandler} {hds : List ExceptHandler} {l : List Cl} {pos : Pos} {tb : WX → TS} {Wout : WX}
/-- an exception at a, of the class cls and with the dict d: what stood when it rose -/
structure Air (X : Cx) (pins : List (Addr × Obj)) (σ : St) (H : Hp) (sI : Shared) (B : Heap) (a : Addr) : Prop where
  ok : X.Ok
  stack : X.stack = X.env :: X.outer
  frame : X.env.frame = some X.env.locals
  inv : Inv X pins σ H sI
  base : ∀ b o, sI.heap.get? b = some o → b ∉ frs X.stack → B.get? b = some o
  new : H a = none
/-- .. and it has come down in this frame, at t -/
structure Down (X : Cx) (sI : Shared) (B : Heap) (a : Addr) (cls : Value) (d : Option Addr) (t : Shared) : Prop where
  fly : HandSPX.FlyingZ B (X.env :: X.outer) a (Zc cls d) t.heap
  up : sI.heap.UpToSlots t.heap
  os : t.os = sI.os
  bare : AllBare t.gens
section
variable {pins : List (Addr × Obj)} {σ : St} {H : Hp} {sI : Shared} {B : Heap} {a : Addr} {cls : Value} {d : Option Addr} {t : Shared} {D : Ends}
theorem Down.inv (A : Air X pins σ H sI B a) (N : Down X sI B a cls d t) : Inv X pins σ H t := A.inv.landed A.base N.fly.1 N.up N.os N.bare
/-- the exception's object, and that it is none of the frames -/
theorem Down.obj (A : Air X pins σ H sI B a) (N : Down X sI B a cls d t) : ∃ oe, t.heap.get? a = some oe ∧ Zc cls d oe ∧ (∃ vs, oe.data = .fields vs) ∧ Inv (X.suite a ((a, oe) :: (X.pn ++ pins))) [] σ H t := by
  obtain ⟨oe, vs, he, hz, hd⟩ := N.fly.there
  have free : a ∉ frs (X.env :: X.outer) := fun m => by
    obtain ⟨_, o, e, q⟩ := N.fly.2.2.1.mem m
    rw [he] at e
    cases e
    exact q _ hd
  have nL : a ≠ X.env.locals := fun z => free (List.mem_filterMap.mpr ⟨X.env, List.mem_cons_self, by rw [A.frame, z]⟩)
  have nF : a ∉ X.fs := fun m => by
    obtain ⟨e, he', q⟩ := List.mem_filterMap.mp m
    exact free (List.mem_filterMap.mpr ⟨e, List.mem_cons_of_mem _ he', q⟩)
  exact ⟨oe, he, hz, ⟨vs, hd⟩, (N.inv A).suite he hd A.new nL nF⟩
/-- no clause takes it: it goes on -/
theorem clauses_none (A : Air X pins σ H sI B a) (N : Down X sI B a cls d t) (tk : Takes X Wout) (wish : Wout cls d σ H) : wpAny (model X.prog X.w) X.A (handleBy (.ref a) X.env []) (SP X pins D) X.xe t := by
  refine wpAny_handleBy_nil ?_
  obtain ⟨_, _, _, oe, vs, T, oT, ts, he, _, hd, h1, _⟩ := id N.fly
  unfold PySem.passOn
  refine wpAny_bind (wpAny_field he hd h1 ?_)
  have ne : ¬ ((Value.ref T == Value.none) = true) := by simp
  rw [if_neg ne]
  have out : wpAny (model X.prog X.w) X.A (setFlight (.ref a) X.env.frame) (fun _ t' => wpAny (model X.prog X.w) X.A (throw (.ref a) : Sem Flow) (SP X pins D) X.xe t') X.xe t := by
    rw [A.frame]
    refine HandSPX.setFlight_upZ N.fly fun h held up' => wpAny_throw (tk _ _ ⟨a, B, sI, pins, σ, H, cls, d, rfl, A.inv, A.base, N.up.trans up', .inr (.inr ?_), A.new, N.os, N.bare, wish⟩)
    rw [A.stack]
    exact held
  first
    | exact wpAny_bind (wpAny_pure (wpAny_bind out))
    | exact wpAny_bind out
/-- is it the clause's class? -/
theorem clause_test {x : Str} {c : Value} {np : Pos} {b : Bool} {Q : Bool → Shared → Prop} {E1 E2 : Value → Shared → Prop} (A : Air X pins σ H sI B a) (N : Down X sI B a cls d t) (nm : Names X x c) (e : PySem.W.exmOne X.K cls c = some b) (q : Q b t) :
    wpAny (model X.prog X.w) (X.A.mark (some (.ref a))) (eval (.Name x np) X.env) (fun v t1 => wpAny (model X.prog X.w) (X.A.mark (some (.ref a))) (PySem.excMatches (.ref a) v) Q E1 t1) E2 t := by
  obtain ⟨oe, he, hz, _, S⟩ := N.obj A
  have ty : PySem.W.Looks (model X.prog X.w) t.heap (typeOf (.ref a)) cls := fun A' Q' E' s' k' q' => wpAny_typeOf_ref (k' _ _ he) (by rw [hz.1]; exact q')
  have is_ := PySem.W.exm_one (M := model X.prog X.w) (N.inv A).kIn ty e
  obtain ⟨gl, db, m | ⟨m, bt, nn⟩⟩ := nm
  · exact ld_glob (X := X.suite a ((a, oe) :: (X.pn ++ pins))) S gl m (is_.here q) db
  · exact ld_blt (X := X.suite a ((a, oe) :: (X.pn ++ pins))) S gl m bt (is_.here q) nn db
/-- the clauses, one behind the other -/
theorem clauses_run (A : Air X pins σ H sI B a) (tk : Takes X Wout) : ∀ {hds : List ExceptHandler} {l : List Cl}, ClsOk X hds l → ∀ {t : Shared}, Down X sI B a cls d t → wCls X.K Wout D l cls d σ H →
    wpAny (model X.prog X.w) X.A (handleBy (.ref a) X.env hds) (SP X pins D) X.xe t := by
  intro hds l k
  induction k with
  | nil =>
    intro t N wish
    exact clauses_none A N tk wish
  | @bare x c ts b₀ suite np pos' hds2 l2 nm su r ih =>
    intro t N wish
    obtain ⟨b, e, yes, no⟩ := wish
    refine wpAny_handleBy_cons (codeAny_handlers_test (clause_test A N nm e ?_)) (by intro q; cases q)
    cases b with
    | false => exact ih N (no rfl)
    | true =>
      refine codeAny_handlers_suite (HandSPX.lands_againZ N.fly fun h fl up => ?_)
      have N2 : Down X sI B a cls d { t with heap := h } := ⟨fl, N.up.trans up, N.os, N.bare⟩
      obtain ⟨oe, _, hz, hf, S⟩ := N2.obj A
      refine wpAny_mono ((su a oe cls d (X.pn ++ pins) hz hf).run [] _ _ H _ S (yes rfl a A.new)) (fun f u p => ?_) fun _ _ z => z.elim
      cases f with
      | next => exact let ⟨_, _, J, q⟩ := p; ⟨_, _, J.unsuite A.ok, q⟩
      | brk => exact let ⟨_, _, J, q⟩ := p; ⟨_, _, J.unsuite A.ok, q⟩
      | cont => exact let ⟨_, _, J, q⟩ := p; ⟨_, _, J.unsuite A.ok, q⟩
      | ret v => exact let ⟨_, _, _, J, rv, q⟩ := p; ⟨_, _, _, J.unsuite A.ok, rv, q⟩
  | @named x n i c ts b₀ suite np pos' hds2 l2 nm nd at_ loc su r ih =>
    intro t N wish
    obtain ⟨b, e, yes, no⟩ := wish
    refine wpAny_handleBy_cons (codeAny_handlers_test (clause_test A N nm e ?_)) (by intro q; cases q)
    cases b with
    | false => exact ih N (no rfl)
    | true =>
      refine codeAny_handlers_suite_as (HandSPX.lands_againZ N.fly fun h fl up => ?_)
      have N2 : Down X sI B a cls d { t with heap := h } := ⟨fl, N.up.trans up, N.os, N.bare⟩
      obtain ⟨oe, _, hz, hf, S⟩ := N2.obj A
      refine store_ok (X := X.suite a ((a, oe) :: (X.pn ++ pins))) (v := .ref a) S nd at_ (.inl loc) rfl (fun u S1 => ?_) (.inr loc)
      refine wpAny_mono ((su a oe cls d (X.pn ++ pins) hz hf).run [] u _ H _ S1 (yes rfl a A.new)) (fun f u1 p => ?_) fun _ _ z => z.elim
      cases f with
      | next => exact let ⟨_, _, J, q⟩ := p; gone_ok (J.unsuite A.ok) nd at_ loc fun _ J1 => ⟨_, _, J1, q⟩
      | brk => exact let ⟨_, _, J, q⟩ := p; gone_ok (J.unsuite A.ok) nd at_ loc fun _ J1 => ⟨_, _, J1, q⟩
      | cont => exact let ⟨_, _, J, q⟩ := p; gone_ok (J.unsuite A.ok) nd at_ loc fun _ J1 => ⟨_, _, J1, q⟩
      | ret v => exact let ⟨_, _, _, J, rv, q⟩ := p; gone_ok (J.unsuite A.ok) nd at_ loc fun _ J1 => ⟨_, _, _, J1, rv, q⟩
end
/-- try: body / except A: .. / except B as n: .. -/
theorem ps_try_cls (hs : X.stack = X.env :: X.outer) (hf : X.env.frame = some X.env.locals) (tk : Takes X Wout)
    (hb : ∀ (W : WX) (pn : List (Addr × Obj)) (xe : Value → Shared → Prop), Takes (X.tr pn xe) W → PassesOwn (model X.prog X.w) X.A X.env xe → PSs (X.tr pn xe) body (tb W)) (hh : ClsOk X (h₀ :: hds) l) :
    PS X (.Try body (h₀ :: hds) [] [] pos) (fun D σ H => tb (wCls X.K Wout D l) D σ H) := by
  refine ⟨fun pins s σ H D I h => ?_⟩
  have frames : X.A.frames = some (X.env :: X.outer) := by rw [I.ok.frames, hs]
  refine wpAny_Try_except ?_
  have run := (hb (wCls X.K Wout D l) (X.pn ++ pins) (fun e t => wpAny (model X.prog X.w) X.A (noteFrame e X.env) (fun _ t1 => wpAny (model X.prog X.w) X.A (setFlight e none) (fun _ t2 =>
    wpAny (model X.prog X.w) X.A (handleBy e X.env (h₀ :: hds)) (SP X pins D) X.xe t2) X.xe t1) X.xe t) (fun u t xx => by
      obtain ⟨a, B, sI, pins', σ', H', cls, d, rfl, J, base, up, sky, na, os, ag, wish⟩ := xx
      have A : Air X pins σ' H' sI B a := ⟨I.ok, hs, hf, J.ofTry I.ok, base, na⟩
      have sky1 : Sky B (X.env :: X.outer) a (Zc cls d) X.env.locals t.heap := by rw [← hs]; exact sky
      show wpAny (model X.prog X.w) X.A (noteFrame (.ref a) X.env) _ _ _
      exact Sky.land Zc.steady frames hf sky1 fun h1 fl up1 => clauses_run A tk hh (t := { t with heap := h1 }) ⟨fl, up.trans up1, os, ag⟩ wish) PassesOwn.looking).run [] s σ H D (I.toTry _) h
  refine wpAny_mono run (fun f u p => ?_) fun _ _ q => q
  cases f with
  | next => exact let ⟨_, _, J, q⟩ := p; wpAny_execs_nil ⟨_, _, J.ofTry I.ok, q⟩
  | brk => exact let ⟨_, _, J, q⟩ := p; ⟨_, _, J.ofTry I.ok, q⟩
  | cont => exact let ⟨_, _, J, q⟩ := p; ⟨_, _, J.ofTry I.ok, q⟩
  | ret v => exact let ⟨_, _, _, J, rv, q⟩ := p; ⟨_, _, _, J.ofTry I.ok, rv, q⟩
end
end L2
set_option Elab.async false
set_option linter.all false
set_option maxRecDepth 100000
set_option maxHeartbeats 4000000
/-! sorted(range(n), key=o.m), m an own method that gives a whole number -/
namespace NrS
open PySem PySem.Spec PyProof.Rows L2
/-! ### pairs of a key and an item, by the key -/
def ltK (x y : Int × Int) : Bool := decide (x.1 < y.1)
theorem swo_ltK : SrtO.Swo ltK := by
  refine ⟨fun x y h => ?_, fun x y z h1 h2 => ?_⟩
  · have a := of_decide_eq_true (p := x.1 < y.1) h
    exact decide_eq_false (p := y.1 < x.1) (by omega)
  · have a := of_decide_eq_false (p := y.1 < x.1) h1
    have b := of_decide_eq_false (p := z.1 < y.1) h2
    exact decide_eq_false (p := z.1 < x.1) (by omega)
abbrev pr : Keyed → Int × Int := Prod.map SrtO.iv SrtO.iv
theorem vals_snd : ∀ l : List Keyed, (∀ p ∈ l, ∃ i t, p.2 = Value.int i t) → Vals ((l.map pr).map fun p => V.int p.2) (l.map (·.2))
  | [], _ => .nil
  | p :: l, h => by
    obtain ⟨i, t, e⟩ := h p List.mem_cons_self
    refine .cons ?_ (vals_snd l fun q hq => h q (List.mem_cons_of_mem _ hq))
    show RelV (V.int (SrtO.iv p.2)) p.2
    rw [e]
    exact ⟨t, rfl⟩
/-! ### o.m as a value -/
def tBnd (C : Addr) (m : Str) (g : Addr) (ta : TE) : TE := fun σ H Q => ta σ H fun x H1 => ∃ a dx fs, x = .ref a ∧ H1 a = some (.ins C dx fs) ∧ fs.lookup m = none ∧ ∀ q, H1 q = none → Q (.ref q) (upd H1 q (.met g a))
theorem pe_bound {X : Cx} {C g : Addr} {m : Str} {e : Expr} {ta : TE} {pos : Pos} (he : PE X e ta) (c : Cls X.K C) (b : BMeth X.K C m g) (hb : attributeBase e m X.env (eval e X.env) = eval e X.env := by rfl) : PE X (.Attribute e m pos) (tBnd C m g ta) := by
  refine ⟨fun pins s σ H Q I h => ?_⟩
  refine attr_of hb (thn (he.run pins s σ H _ I h) fun u s1 ⟨x, H1, I1, r1, a, dx, fs, ex, ea, l, q⟩ => ?_)
  subst ex
  obtain rfl : u = Value.ref a := r1
  exact getbound_ok I1 ea c b l fun p s2 hp I2 => ⟨.ref p, _, I2, rfl, q p hp⟩
/-! ### range(n) as a value -/
theorem cr_range1 {X : Cx} : CallR X (.type "range") (fun vs H Q => ∃ i, vs = [V.int i] ∧ ∀ p, H p = none → Q (.ref p) (upd H p (.rng 0 i))) := by
  intro pins s σ H vs us Q I r h
  obtain ⟨i, rfl, q⟩ := h
  obtain ⟨u1, rfl, ri⟩ := vals1 r
  obtain ⟨t, rfl⟩ := ri
  refine call_range_1 ⟨.ref s.heap.objs.size, upd H s.heap.objs.size (.rng 0 i), I.laid (t' := s.toks + 1 + 1) (fun b o e => Heap.get?_push_of_some _ e) (Nat.le_refl _) ?_, rfl, q _ (I.hok.fresh (Nat.le_refl _))⟩
  exact ⟨s.toks, t, s.toks + 1, Heap.get?_push_size _ rfl⟩
/-! ### within the sort -/
section
variable {X : Cx} {pins : List (Addr × Obj)} {σ : L2.St} {H : Hp} {s : Shared}
/-- a record of ours that nothing tracks becomes a tracked thing -/
theorem adopt {a : Addr} {o : HO} {h' : Heap} {t' : Nat} (I : Inv X pins σ H s) (f : FpOk X pins H a) (k : ∀ b u, b ≠ a → s.heap.get? b = some u → h'.get? b = some u) (new : ObjOk X.prog X.w (upd H a o) h' a o) :
    Inv X pins σ (upd H a o) { s with heap := h', toks := t' } := by
  obtain ⟨hn, hL, hf, hx, hc, hp⟩ := f
  have ne1 : ∀ b : Addr, b ∉ [a] → b ≠ a := fun b hb z => hb (by simp [z])
  refine I.step (g' := s.gens) (d' := s.drawn) (ch := [a]) (fun b hb => ?_) (fun b u _ _ hb e _ => k b u (ne1 b hb) e) (fun b u _ _ hb e _ => ⟨u.slots, k b u (ne1 b hb) e⟩) (fun b u hb e n => ?_) (fun b u hb e => ⟨u, k b u (ne1 b hb) e⟩)
    (fun b xs e => ?_) (fun b u xs e => ?_) (fun b ps e => ?_) (fun m hm => ?_) (fun b u e => ?_) I.bare
  · have e : b = a := by simpa using hb
    subst e
    exact ⟨hx, hL, hc, hp⟩
  · rw [upd_ne (ne1 b hb)]
    exact n
  · rw [upd_ne (ne_of_none e hn)]
    exact e
  · rw [upd_ne (ne_of_none e hn)]
    exact e
  · refine ⟨#[], ?_⟩
    rw [upd_ne (ne_of_none e hn), e]
    simp
  · obtain ⟨o, es, ep, ho, r⟩ := hm
    exact ⟨o, es, ep, k _ o (Ne.symm hL) ho, r⟩
  · by_cases c : b = a
    · subst c
      rw [upd_same] at e
      cases e
      exact new
    · rw [upd_ne c] at e
      refine (I.hok b u e).stay (fun d v hd q => k d v ?_ q) (fun d q => by rw [upd_ne (ne_of_none q hn)]; exact q) fun d xs q => by rw [upd_ne (ne_of_none q hn)]; exact q
      rcases hd with z | z
      · rw [z]
        exact c
      · exact ne_of_none z hn
/-- a def's promise, called at an around of the same frames -/
theorem run_at {A' : Around} {k : Nat} {f : Addr} {fd : FuncData} {ps : List Str} {sp : Sp} {Q : VK} {us : List Value} {vs : List V} (F : FnOk X.prog X.w X.K X.mg X.base CX0 k f fd ps sp) (hr : Room k A') (hf : A'.frames = X.A.frames) (hb : Binds X.K fd ps [])
    (I : Inv X pins σ H s) (r : Vals vs us) (h : sp vs H Q E0) :
    codeAny (model X.prog X.w) A' (.call (.ref f) ⟨us, []⟩) (fun r s' => match r with | .ok (.ret v) => EP X pins σ Q v s' | .ok _ => False | .error _ => False) s := by
  have hl : us.length = ps.length := by rw [← r.length]; exact F.len _ _ _ _ h
  have b := hb s us I.kIn (by rw [List.append_nil]; exact hl)
  rw [List.append_nil] at b
  refine codeAny_mono (F.run A' X.stack s H ⟨us, []⟩ us vs Q E0 hr ⟨hf.trans I.ok.frames, I.ok.mod, I.bs, Nat.le_trans I.ok.bsz I.sz, I.stack, I.stkFree, I.hok, I.bare⟩ b r h) fun r s' hq => ?_
  cases r with
  | error e => exact hq.elim
  | ok fl =>
    cases fl with
    | ret u => exact I.after hq
    | next => exact False.elim hq
    | brk => exact False.elim hq
    | cont => exact False.elim hq
/-- a key's def: called with the receiver and a whole number it gives a whole number, the heap as it was -/
def KeyDef (X : Cx) (A' : Around) (g x : Addr) (H : Hp) (ns : List Int) (κ : Int → Int) : Prop :=
  ∀ n ∈ ns, ∀ (pins : List (Addr × Obj)) (σ : L2.St) (s : Shared) (H1 : Hp) (u : Value), Inv X pins σ H1 s → Same H H1 → RelV (.int n) u →
    codeAny (model X.prog X.w) A' (.call (.ref g) ⟨[.ref x, u], []⟩) (fun r s' => match r with | .ok (.ret v) => EP X pins σ (fun y H2 => y = V.int (κ n) ∧ H2 = H1) v s' | .ok _ => False | .error _ => False) s
theorem keyDef_of {A' : Around} {k : Nat} {g x : Addr} {fd : FuncData} {ps : List Str} {sp : Sp} {ns : List Int} {κ : Int → Int} (F : FnOk X.prog X.w X.K X.mg X.base CX0 k g fd ps sp) (hr : Room k A') (hf : A'.frames = X.A.frames) (hb : Binds X.K fd ps [])
    (h : ∀ n ∈ ns, ∀ (H1 : Hp) (Q : VK), Same H H1 → Q (.int (κ n)) H1 → sp [.ref x, .int n] H1 Q E0) : KeyDef X A' g x H ns κ := fun n hn pins σ s H1 u I sm r =>
  run_at (us := [.ref x, u]) (vs := [.ref x, .int n]) F hr hf hb I (.cons rfl (.cons r .nil)) (h n hn H1 _ sm ⟨rfl, rfl⟩)
variable {A' : Around} {g x a kS q : Addr} {vs : List Value} {ns : List Int} {κ : Int → Int} {e1 : Nat} {P : PySem.Fin → Shared → Prop} {E : Value → Shared → Prop}
theorem ints_of : ∀ {ns : List Int} {vs : List Value}, Vals (ns.map V.int) vs → IntsAre vs ns
  | [], _, .nil => .nil
  | n :: ns, u :: us, .cons r rr => by
    obtain ⟨t, rfl⟩ := r
    exact .cons n t (ints_of rr)
/-- the end: the keys' list is emptied, the list gets its items -/
theorem tail_run {st : SortSt} {keys : List Value} {ks : List Int} {n0 : Nat} (I : Inv X ((a, seqObj "list" #[] e1) :: pins) σ (upd H kS (.lst (ks.map V.int))) s) (ek : s.heap.get? kS = some (seqObj "list" keys.toArray n0)) (hka : a ≠ kS) (fa : FpOk X pins H a)
    (hk : IntsAre keys ks) (hv : IntsAre vs ns) (hlen : keys.length = vs.length) (hZ : vs.length ≤ sizeLine) (h1 : SrtO.Srtd (SrtO.lt2 SrtO.ltIv) (arrOf st).toList) (h2 : SrtO.Stb (SrtO.lt2 SrtO.ltIv) (arrOf st).toList (keys.zip vs)) (h3 : failedOf st = none)
    (h : ∀ (ps : List (Int × Int)) (s' : Shared), Inv X pins σ (upd (upd H kS (.lst [])) a (.lst (ps.map fun p => V.int p.2))) s' → SrtO.Srtd ltK ps → SrtO.Stb ltK ps (ks.zip ns) → P (.done (.ret .none)) s') :
    wpAny (model X.prog X.w) A' (ksk_tail a false e1 (.ref kS) st) P E s := by
  have hkl : keys.length ≤ sizeLine := by omega
  have na := (I.pin (a, seqObj "list" #[] e1) (List.mem_append_right _ List.mem_cons_self)).1
  have zl : (keys.zip vs).length = vs.length := by rw [List.length_zip, hlen, Nat.min_self]
  have hsz : (arrOf st).size = vs.length := by
    have := h2.len
    rw [Array.length_toList, zl] at this
    exact this
  unfold ksk_tail
  try dsimp only
  refine wpAny_bind (listUpdate_at ek rfl ?_ (by rw [List.size_toArray]; exact hkl) (Nat.zero_le _))
  refine wpAny_bind (wpAny_letGo ?_)
  have na1 : (s.heap.update kS (Obj.mapSeq fun _ => (#[] : Array Value))).get? a = some (seqObj "list" #[] e1) := (Heap.get?_update_ne _ _ _ _ hka).trans na
  refine wpAny_bind (seqEpoch_at na1 rfl ?_)
  refine wpAny_bind (listUpdate_at na1 rfl ?_ (Nat.zero_le _) ?_)
  · rw [h3]
    simp only [bne_self_eq_false, Bool.false_eq_true, if_false]
    refine wpAny_pure ?_
    have I1 : Inv X ((a, seqObj "list" #[] e1) :: pins) σ (upd (upd H kS (.lst (ks.map V.int))) kS (.lst [])) { s with heap := s.heap.update kS (Obj.mapSeq fun _ => (#[] : Array Value)), toks := s.toks } :=
      I.lset (its := keys) (its' := []) (ys := []) (t' := s.toks) upd_same ek rfl .nil (Nat.zero_le _)
    rw [upd_upd] at I1
    have I2 : Inv X pins σ (upd H kS (.lst [])) { s with heap := s.heap.update kS (Obj.mapSeq fun _ => (#[] : Array Value)), toks := s.toks } := I1.pins_of fun p hp => I1.pin p (List.mem_append_right _ (List.mem_cons_of_mem _ hp))
    have fa2 : FpOk X pins (upd H kS (.lst [])) a := ⟨(upd_ne hka).trans fa.1, fa.2⟩
    obtain ⟨c2, hc2⟩ : ∃ c2, ((s.heap.update kS (Obj.mapSeq fun _ => (#[] : Array Value))).update a (Obj.mapSeq fun _ => (arrOf st).map (·.2))).get? a = some (seqObj "list" ((arrOf st).map (·.2)) c2) := ⟨_, get?_update_seq na1 fun _ => (arrOf st).map (·.2)⟩
    have items : ∀ p ∈ (arrOf st).toList, ∃ i t, p.2 = Value.int i t := fun p hp => by
      obtain ⟨y, z⟩ := p
      exact SrtO.ints_mem hv _ (List.of_mem_zip (h2.perm.mem_iff.mp hp)).2
    have ez : (keys.zip vs).map pr = ks.zip ns := by
      rw [← SrtO.iv_ints hk, ← SrtO.iv_ints hv, List.zip_map]
    have hlo : (((arrOf st).toList.map pr).map fun p => V.int p.2).length ≤ sizeLine := by
      rw [List.length_map, List.length_map, Array.length_toList, hsz]
      exact hZ
    have vv : Vals (((arrOf st).toList.map pr).map fun p => V.int p.2) ((arrOf st).map (·.2)).toList := by
      rw [Array.toList_map]
      exact vals_snd _ items
    refine h ((arrOf st).toList.map pr) _ (adopt (s := { s with heap := s.heap.update kS (Obj.mapSeq fun _ => (#[] : Array Value)), toks := s.toks }) (t' := s.toks) I2 fa2 (fun b u hb e => (Heap.get?_update_ne _ _ _ _ hb).trans e) ⟨hlo, ((arrOf st).map (·.2)).toList, c2, vv, ?_⟩) (SrtO.srtd_map h1) ?_
    · rw [Array.toArray_toList]
      exact hc2
    · rw [← ez]
      exact SrtO.Stb.map swo_ltK pr h2
  · show ((arrOf st).map (·.2)).size ≤ sizeLine + 1
    rw [Array.size_map, hsz]
    omega
/-- the keys are there: the sort -/
theorem end_run {keys : List Value} {ks : List Int} {n0 : Nat} (I : Inv X ((a, seqObj "list" #[] e1) :: pins) σ (upd H kS (.lst (ks.map V.int))) s) (ek : s.heap.get? kS = some (seqObj "list" keys.toArray n0)) (hka : a ≠ kS) (fa : FpOk X pins H a)
    (hk : IntsAre keys ks) (hv : IntsAre vs ns) (hlen : keys.length = vs.length) (hZ : vs.length ≤ sizeLine)
    (h : ∀ (ps : List (Int × Int)) (s' : Shared), Inv X pins σ (upd (upd H kS (.lst [])) a (.lst (ps.map fun p => V.int p.2))) s' → SrtO.Srtd ltK ps → SrtO.Stb ltK ps (ks.zip ns) → P (.done (.ret .none)) s') :
    wpAny (model X.prog X.w) A' (ksk_end a false vs.toArray e1 (.ref kS) keys.toArray) P E s := by
  have hzip : (keys.toArray.zip vs.toArray).toList = keys.zip vs := by rw [ksk_zip]
  have zl : (keys.zip vs).length = vs.length := by rw [List.length_zip, hlen, Nat.min_self]
  unfold ksk_end
  try dsimp only
  rw [if_neg Bool.false_ne_true]
  by_cases h2 : vs.toArray.size < 2
  · rw [if_pos h2, if_pos h2]
    refine wpAny_bind (wpAny_pure ?_)
    rw [StateT.run_pure]
    refine wpAny_bind (wpAny_pure ?_)
    try dsimp only
    refine tail_run (st := SortSt.mk' general' (keys.toArray.zip vs.toArray) #[] 7 none) I ek hka fa hk hv hlen hZ ?_ ?_ rfl h
    · show SrtO.Srtd _ (keys.toArray.zip vs.toArray).toList
      rw [hzip]
      rw [List.size_toArray] at h2
      match keys.zip vs, zl with
      | [], _ => exact List.Pairwise.nil
      | [p], _ => exact List.pairwise_singleton _ _
      | _ :: _ :: l, e => exact absurd h2 (by rw [← e, List.length_cons, List.length_cons]; omega)
    · show SrtO.Stb _ (keys.toArray.zip vs.toArray).toList _
      rw [hzip]
      exact SrtO.Stb.refl _
  · rw [if_neg h2, if_neg h2]
    rw [List.size_toArray] at h2
    rw [ksk_kind (keys := keys.toArray) (kz := ks) hk (by rw [List.size_toArray]; omega)]
    refine wpAny_bind (wpAny_pure ?_)
    have hall : SrtO.AllL (fun p : Keyed => p.1 ∈ keys) (keys.toArray.zip vs.toArray).toList := fun p hm => by
      rw [hzip] at hm
      obtain ⟨y, z⟩ := p
      exact (List.of_mem_zip hm).1
    refine wpAny_bind (wpAny_mono (SrtO.wpS_sortO (st0 := SortSt.mk' oneType' (keys.toArray.zip vs.toArray) #[] 7 none)
      (Q := fun _ st' => SrtO.Srtd (SrtO.lt2 SrtO.ltIv) (arrOf st').toList ∧ SrtO.Stb (SrtO.lt2 SrtO.ltIv) (arrOf st').toList (keys.toArray.zip vs.toArray).toList ∧ failedOf st' = none) (SrtO.swo2 SrtO.swo_int) (SrtO.int_cmp hk) rfl hall rfl rfl fun st' a1 a2 a3 => ⟨a1, a2, a3⟩) ?_ fun _ _ e => e)
    rintro ⟨⟨⟩, st'⟩ s' ⟨rfl, hp1, hp2, hf⟩
    try dsimp only
    rw [hzip] at hp2
    exact tail_run I ek hka fa hk hv hlen hZ hp1 hp2 hf h
/-- the keys are asked for one by one -/
theorem rest_run (hq : H q = some (.met g x)) (key : KeyDef X A' g x H ns κ) (rv : Vals (ns.map V.int) vs) (hZ : vs.length ≤ sizeLine) (hka : a ≠ kS) (hk0 : H kS = none) (fa : FpOk X pins H a)
    (I : Inv X ((a, seqObj "list" #[] e1) :: pins) σ (upd H kS (.lst [])) s)
    (h : ∀ (ps : List (Int × Int)) (s' : Shared), Inv X pins σ (upd (upd H kS (.lst [])) a (.lst (ps.map fun p => V.int p.2))) s' → SrtO.Srtd ltK ps → SrtO.Stb ltK ps ((ns.map κ).zip ns) → P (.done (.ret .none)) s') :
    wpAny (model X.prog X.w) A' (ksk_rest a (.ref q) false vs.toArray e1 (.ref kS)) P E s := by
  have nl : ns.length = vs.length := by
    have := rv.length
    rw [List.length_map] at this
    exact this
  unfold ksk_rest
  refine wpAny_bind (wpAny_rule ?_)
  first
    | rw [List.forIn_toArray]
    | (rw [← Array.forIn_toList]; simp only [List.toList_toArray])
    | rw [← Array.forIn_toList]
  refine wpAny_bind (ksk_fold (fun i s' => Inv X ((a, seqObj "list" #[] e1) :: pins) σ (upd H kS (.lst (((ns.take i).map κ).map V.int))) s') vs 0 s I ?step ?done)
  case step =>
    rintro j u s' hx I'
    simp only [Nat.zero_add] at I' ⊢
    have hj : j < vs.length := (List.getElem?_eq_some_iff.mp hx).1
    have hjn : j < ns.length := by omega
    have hnj : ns[j]? = some ns[j] := List.getElem?_eq_getElem hjn
    obtain ⟨u2, hu2, ru⟩ := rv.get (i := j) (x := V.int ns[j]) (by rw [List.getElem?_map, hnj]; rfl)
    have eu : u2 = u := Option.some.inj (hu2.symm.trans hx)
    subst eu
    have sm : Same H (upd H kS (.lst (((ns.take j).map κ).map V.int))) := fun b o e => (upd_ne (ne_of_none e hk0)).trans e
    have hcall := key ns[j] (List.getElem_mem hjn) _ σ s' _ u2 I' sm ru
    have call2 : wpAny (model X.prog X.w) A' (call (.ref q) [u2]) (EP X ((a, seqObj "list" #[] e1) :: pins) σ (fun y H2 => y = V.int (κ ns[j]) ∧ H2 = upd H kS (.lst (((ns.take j).map κ).map V.int)))) (fun _ _ => False) s' := by
      refine wpAny_call (call_met I' (sm _ _ hq) (codeAny_mono hcall fun r s'' hr => ?_))
      cases r with
      | error e => exact hr
      | ok fl => cases fl <;> exact hr
    refine wpAny_bind (wpAny_attempt (wpAny_mono call2 (fun v s'' he => ?_) fun _ _ hF => hF.elim))
    · obtain ⟨y, H2, I2, ry, ey, eH⟩ := he
      subst ey
      subst eH
      try dsimp only
      obtain ⟨z, its, n0, r2, hl2, eo⟩ := I2.lstM upd_same
      have tl : (ns.take j).length ≤ ns.length := List.length_take_le' j ns
      have il : its.length ≤ vs.length := by
        rw [List.length_map, List.length_map] at hl2
        omega
      have il2 : its.length < vs.length := by
        rw [List.length_map, List.length_map, List.length_take] at hl2
        omega
      refine wpAny_bind (listUpdate_at eo rfl ?_ (by rw [List.size_toArray]; omega) (by rw [Array.size_push, List.size_toArray]; omega))
      have I3 := I2.lset (its := its) (its' := its ++ [v]) (ys := ((ns.take j).map κ).map V.int ++ [V.int (κ ns[j])]) (f := fun b => b.push v) (t' := s''.toks) upd_same eo (by simp) (r2.append (.cons ry .nil)) (by
        rw [List.length_append, hl2]
        show its.length + 1 ≤ sizeLine
        omega)
      rw [upd_upd] at I3
      refine wpAny_pure ⟨rfl, ?_⟩
      have et : ns.take (j + 1) = ns.take j ++ [ns[j]] := by rw [List.take_add_one, hnj]; rfl
      rw [et, List.map_append, List.map_append]
      exact I3
  case done =>
    intro s' I'
    rw [Nat.zero_add, List.take_of_length_le (by omega)] at I'
    obtain ⟨z, its, n0, r2, hl2, eo⟩ := I'.lstM upd_same
    have hil : its.length = vs.length := by
      rw [List.length_map, List.length_map] at hl2
      omega
    refine wpAny_bind (listItems_at eo rfl ?_)
    exact end_run I' eo hka fa (ints_of r2) (ints_of rv) hil hZ h
end
section
variable {X : Cx} {pins : List (Addr × Obj)} {σ : L2.St} {H : Hp} {s : Shared}
/-- sorted(a range, key=a bound method) -/
theorem sorted_run {r q g x : Addr} {n : Int} {ns : List Int} {κ : Int → Int} {Q : VK} (hc : X.calm = true) (I : Inv X pins σ H s) (hr : H r = some (.rng 0 n)) (ok : RgOk 0 n) (en : rgV 0 n = ns.map V.int) (hq : H q = some (.met g x)) (key : KeyDef X X.A.in1.in1 g x H ns κ)
    (h : ∀ (ps : List (Int × Int)) (H' : Hp) (p : Addr), Same H H' → H p = none → H' p = some (.lst (ps.map fun p => V.int p.2)) → SrtO.Srtd ltK ps → SrtO.Stb ltK ps ((ns.map κ).zip ns) → Q (.ref p) H') :
    wpAny (model X.prog X.w) X.A (call (.builtin "sorted") [.ref r] [(Str.ofString "key", .ref q)]) (EP X pins σ Q) X.xe s := by
  obtain ⟨b1, b2, b3, b4, b5⟩ := ok
  obtain ⟨t, u, v, ho⟩ : ∃ t u v, s.heap.get? r = some { cls := .type "range", data := .fields #[.int 0 t, .int n u, .int 1 v] } := I.hok r _ hr
  have hh1 : X.A.in1.handled = none := I.ok.hd hc
  refine call_function_entry_kw kind_sorted plain_sorted entry_sorted (ksk_s1 _ _) ?_
  unfold Builtin.«sorted»
  refine wpAny_bind (m := checkCount "sorted" 1 1 _) (wpAny_pure ?_)
  refine wpAny_bind (collect_range (A := X.A.in1) (n := (n - 0).toNat) hh1 ho (small_one b1 b2 b3 b4) (rangeSize_nat 0 n) b5 fun h' tk acc hk hi => ?_)
  have rv : Vals (ns.map V.int) acc.toList := by
    rw [← en]
    exact vals_rg hi
  have hZ : acc.toList.length ≤ sizeLine := by
    rw [← rv.length, ← en, rgV_length, sizeLine_eq]
    omega
  have I2 : Inv X pins σ H { s with heap := h', toks := tk } := I.kept hk
  refine wpAny_bind (wpAny_newList ?_ hZ)
  have hoL : (h'.push (seqObj "list" acc.toList.toArray 0)).get? h'.objs.size = some (seqObj "list" acc.toList.toArray 0) := Heap.get?_push_size _ rfl
  refine wpAny_bind (wpAny_holding (wpAny_call_entry_kw slot_list_sort ⟨_, hoL, rfl⟩ entry_list_sort ?body (ksk_l1 _ _)))
  case body =>
    show wpAny (model X.prog X.w) X.A.in1.in1 (Builtin.«list.sort» ⟨[.ref h'.objs.size], [(Str.ofString "key", .ref q)]⟩) _ _ { s with heap := h'.push (seqObj "list" acc.toList.toArray 0), toks := tk }
    rw [ksk_t1]
    unfold ksk_tree
    refine wpAny_bind (listItems_at hoL rfl ?_)
    refine wpAny_bind (listUpdate_at hoL rfl ?_ (by rw [List.size_toArray]; exact hZ) (Nat.zero_le _))
    obtain ⟨e1, ho1⟩ : ∃ e1, ((h'.push (seqObj "list" acc.toList.toArray 0)).update h'.objs.size (Obj.mapSeq fun _ => (#[] : Array Value))).get? h'.objs.size = some (seqObj "list" #[] e1) := ⟨_, get?_update_seq hoL fun _ => #[]⟩
    refine wpAny_bind (seqEpoch_at ho1 rfl ?_)
    refine wpAny_bind (wpAny_newTuple ?_ (by show acc.toList.length ≤ _; exact hZ))
    refine wpAny_bind (wpAny_newList ?_ (Nat.zero_le _))
    refine wpAny_holding ?_
    have sz : (((h'.push (seqObj "list" acc.toList.toArray 0)).update h'.objs.size (Obj.mapSeq fun _ => (#[] : Array Value))).push (seqObj "tuple" acc.toList.toArray 0)).objs.size = h'.objs.size + 1 + 1 := by
      rw [size_push', Heap.size_update, size_push']
    have keep : ∀ b o, h'.get? b = some o → ((((h'.push (seqObj "list" acc.toList.toArray 0)).update h'.objs.size (Obj.mapSeq fun _ => (#[] : Array Value))).push (seqObj "tuple" acc.toList.toArray 0)).push (seqObj "list" #[] 0)).get? b = some o := fun b o e =>
      Heap.get?_push_of_some _ (Heap.get?_push_of_some _ ((Heap.get?_update_ne _ _ _ _ (Nat.ne_of_lt (Heap.lt_size e))).trans (Heap.get?_push_of_some _ e)))
    have hoA : ((((h'.push (seqObj "list" acc.toList.toArray 0)).update h'.objs.size (Obj.mapSeq fun _ => (#[] : Array Value))).push (seqObj "tuple" acc.toList.toArray 0)).push (seqObj "list" #[] 0)).get? h'.objs.size = some (seqObj "list" #[] e1) :=
      Heap.get?_push_of_some _ (Heap.get?_push_of_some _ ho1)
    have hk0 : H (((h'.push (seqObj "list" acc.toList.toArray 0)).update h'.objs.size (Obj.mapSeq fun _ => (#[] : Array Value))).push (seqObj "tuple" acc.toList.toArray 0)).objs.size = none := I2.hok.fresh (by rw [sz]; exact Nat.le_succ_of_le (Nat.le_succ _))
    have ha0 : H h'.objs.size = none := I2.hok.fresh (Nat.le_refl _)
    have fa : FpOk X pins H h'.objs.size := I2.fpOk (Nat.le_refl _) ha0
    have hka : h'.objs.size ≠ (((h'.push (seqObj "list" acc.toList.toArray 0)).update h'.objs.size (Obj.mapSeq fun _ => (#[] : Array Value))).push (seqObj "tuple" acc.toList.toArray 0)).objs.size := by
      rw [sz]
      omega
    have I3 := I2.laid (t' := tk) (o := .lst []) keep (a := (((h'.push (seqObj "list" acc.toList.toArray 0)).update h'.objs.size (Obj.mapSeq fun _ => (#[] : Array Value))).push (seqObj "tuple" acc.toList.toArray 0)).objs.size) (by rw [sz]; exact Nat.le_succ_of_le (Nat.le_succ _))
      (show ObjOk X.prog X.w _ _ _ (.lst []) from ⟨Nat.zero_le _, [], 0, .nil, Heap.get?_push_size _ rfl⟩)
    have I4 := I3.pins_of (pins' := (h'.objs.size, seqObj "list" #[] e1) :: pins) fun p hp => by
      rcases List.mem_cons.mp hp with e | e
      · subst e
        exact ⟨hoA, (upd_ne hka).trans ha0, fa.2.1, fa.2.2.1, fun v z => nomatch z⟩
      · exact I3.pin p (List.mem_append_right _ e)
    refine rest_run hq key rv hZ hka hk0 fa I4 fun ps s' I5 h1 h2 => ⟨.none, rfl, ?_⟩
    refine wpAny_pure ⟨_, rfl, .ref h'.objs.size, _, I5, rfl, h ps _ _ (fun b o e => ?_) ha0 upd_same h1 h2⟩
    rw [upd_ne (ne_of_none e ha0), upd_ne (ne_of_none e hk0)]
    exact e
/-- sorted(range(n), key=o.m): by pe_callBK -/
def rSortK (X : Cx) (g : Addr) : List V → List V → Hp → VK → Prop := fun vs zs H Q => ∃ (r q x : Addr) (n : Int) (ns : List Int) (κ : Int → Int), vs = [V.ref r] ∧ zs = [V.ref q] ∧ H r = some (.rng 0 n) ∧ RgOk 0 n ∧ rgV 0 n = ns.map V.int ∧ H q = some (.met g x) ∧ KeyDef X X.A.in1.in1 g x H ns κ ∧
  ∀ (ps : List (Int × Int)) (H' : Hp) (p : Addr), Same H H' → H p = none → H' p = some (.lst (ps.map fun p => V.int p.2)) → SrtO.Srtd ltK ps → SrtO.Stb ltK ps ((ns.map κ).zip ns) → Q (.ref p) H'
theorem cr_sortK {X : Cx} {g : Addr} (hc : X.calm = true) : CallRK X (.builtin "sorted") [Str.ofString "key"] (rSortK X g) := by
  intro pins s σ H vs zs us ws Q I rv rz h
  obtain ⟨r, q, x, n, ns, κ, rfl, rfl, h1, h2, h3, h4, h5, h6⟩ := h
  obtain rfl := Vals.ref1 rv
  obtain rfl := Vals.ref1 rz
  exact sorted_run hc I h1 h2 h3 h4 h5 h6
end
end NrS
set_option Elab.async false
set_option linter.all false
set_option maxRecDepth 100000
set_option maxHeartbeats 4000000
/-! The text by places, the mirror's state, how it lies in the heap, what the top has written. -/
namespace Nr
open PySem PySem.Spec PyProof.Rows L2
/-! ### words that the layer lacks: a method's call within a try; an if whose test is known -/
/-- o.m(e, ..) within a try: what it raises is wished for at the slots as they stand -/
def tMethS (C : Addr) (m : Str) (sp : Sp) (E : L2.St → XK) (ta : TE) (t : TA) : TE := fun σ H Q => ta σ H fun x H1 => ∃ a dx fs, x = .ref a ∧ H1 a = some (.ins C dx fs) ∧ fs.lookup m = none ∧ t σ H1 fun vs H2 => sp (x :: vs) H2 Q (E σ)
theorem pe_methS {X : Cx} {CX : CXT} {k : Nat} {f C : Addr} {fd : FuncData} {ps : List Str} {sp : Sp} {E : L2.St → XK} {m : Str} {pos apos : Pos} {e o : Expr} {es : List Expr} {ta : TE} {t : TA} {pl : Sem Bool} (he : PE X o ta) (c : Cls X.K C) (hm : Meth X.K C m f)
    (F : FnOk X.prog X.w X.K X.mg X.base CX k f fd ps sp) (hr : Room k X.A) (hb : Binds X.K fd ps []) (hx : ∀ σ, PassesAt CX X σ (E σ)) (ha : PA X (e :: es) t)
    (hst : starEach (e :: es) X.env = (false, eval e X.env) :: starEach es X.env := by rfl) (hpl : (backTo pos (starEach es X.env)).any (·.1) = false := by rfl)
    (ht : eval (.Call (.Attribute o m apos) (e :: es) [] pos) X.env = (do
      let ov ← eval o X.env
      standAt apos.atName
      let (f, first) ← holding [ov] (getMethod ov m pl)
      callWith pos f first (backTo pos (starEach (e :: es) X.env)) (backToKw pos (keywordEach [] X.env))) := by rfl) :
    PE X (.Call (.Attribute o m apos) (e :: es) [] pos) (tMethS C m sp E ta t) := by
  refine ⟨fun pins s σ H Q I h => ?_⟩
  refine PySem.W.methodCall_KW (pl := pl) (thn (he.run pins s σ H _ I h) fun u s1 ⟨x, H1, I1, rx, a, dx, fs, ex, ea, l, q⟩ => ?_) ht
  subst ex
  obtain rfl : u = Value.ref a := rx
  refine getmeth_ok I1 ea c hm l ?_
  refine PySem.W.callWith_K (first := [.ref a]) (h₀ := X.base) I.ok.mod.kin hm.kp (thn (ha.run pos pins s1 σ H1 _ I1 q) fun us s2 ⟨vs, H2, I2, r, q2⟩ => ⟨I2.kIn, ?_⟩) hst hpl
  exact run_fnS (us := .ref a :: us) (vs := .ref a :: vs) F hr hb (hx σ) I2 (.cons rfl r) q2
theorem lk_here {k : Str} {v : V} {r : List (Str × V)} : List.lookup k ((k, v) :: r) = some v := by
  have e : (k == k) = true := beq_self_eq_true k
  simp only [List.lookup, e]
theorem lk_past {k g : Str} {v : V} {r : List (Str × V)} (h : (k == g) = false) : List.lookup k ((g, v) :: r) = List.lookup k r := by
  simp only [List.lookup, h]
theorem put_here {f : Str} {v x : V} {r : List (Str × V)} : putF f v ((f, x) :: r) = (f, v) :: r := if_pos rfl
theorem put_past {f g : Str} {v x : V} {r : List (Str × V)} (h : ¬ g = f) : putF f v ((g, x) :: r) = (g, x) :: putF f v r := if_neg h
/-! ### the text: 0 __name__, 1 MOST_WORTH, 2 MOST_BOUTS, 3 MOST_WRESTLERS, 4 PLACE, 5 NotAllowed, 6 NoRoom, 7 CannotBe, 8 Tournament, 9 nearest, 10 __name__, 11 BEGINS, 12 WRESTLER, 13 CHECK, 14 BEST, 15 FAIR, 16 PLAIN, 17 NoSuchCall, 18 answers, 19 read_calls, 20 answer_one, 21 carry_out -/
def top (i : Nat) : Stmt := PySem.Challenge.pw_newranks_s01_answers.main.body.getD i (.Pass ⟨0, 0, 0, 0⟩)
abbrev sInit : Stmt := inClass (top 8) 0
abbrev sBegins : Stmt := inClass (top 8) 1
abbrev sWrestler : Stmt := inClass (top 8) 2
abbrev sCheck : Stmt := inClass (top 8) 3
abbrev sBest : Stmt := inClass (top 8) 4
abbrev sFair : Stmt := inClass (top 8) 5
abbrev sPlain : Stmt := inClass (top 8) 6
abbrev sLists : Stmt := inClass (top 8) 7
abbrev sMore : Stmt := inClass (top 8) 8
abbrev sBy : Stmt := inClass (top 8) 9
abbrev sEach : Stmt := inClass (top 8) 10
abbrev sWho : Stmt := inClass (top 8) 11
abbrev sMnm : Stmt := inClass (top 8) 12
abbrev sEarned : Stmt := inClass (top 8) 13
abbrev sOff : Stmt := inClass (top 8) 14
abbrev sSum : Stmt := inClass (top 8) 15
abbrev sMost : Stmt := inClass (top 8) 16
abbrev sNearest : Stmt := top 9
abbrev sRead : Stmt := top 19
/-! ### the mirror's state: what a win more is worth, each one's wins more than losses -/
structure M where
  worth : Int
  more : List Int
/-- in bounds -/
structure M.Fit (m : M) : Prop where
  w0 : 0 ≤ m.worth
  w1 : m.worth ≤ 30
  len : m.more.length ≤ 6
  lo : ∀ z ∈ m.more, -15 ≤ z
  hi : ∀ z ∈ m.more, z ≤ 15
def TF (w : Int) (l : Addr) : List (Str × V) := [("worth", .int w), ("wins_more", .ref l)]
/-- the tournament at a, its list at l -/
structure TAt (C : Addr) (H : Hp) (a l : Addr) (m : M) : Prop where
  ins : ∃ dx, H a = some (.ins C dx (TF m.worth l))
  lst : H l = some (.lst (m.more.map V.int))
theorem TAt.ne {C : Addr} {H : Hp} {a l : Addr} {m : M} (t : TAt C H a l m) : a ≠ l := by
  obtain ⟨dx, h⟩ := t.ins
  exact ne_of h t.lst (by intro z; cases z)
theorem TAt.keep {C : Addr} {H H' : Hp} {a l : Addr} {m : M} (t : TAt C H a l m) (s : Same H H') : TAt C H' a l m := by
  obtain ⟨dx, h⟩ := t.ins
  exact ⟨⟨dx, s _ _ h⟩, s _ _ t.lst⟩
theorem tf_worth (w : Int) (l : Addr) : (TF w l).lookup ("worth" : Str) = some (.int w) := lk_here
theorem tf_more (w : Int) (l : Addr) : (TF w l).lookup ("wins_more" : Str) = some (.ref l) := (lk_past (by decide +kernel)).trans lk_here
theorem tf_none {f : Str} (w : Int) (l : Addr) (h1 : (f == ("worth" : Str)) = false) (h2 : (f == ("wins_more" : Str)) = false) : (TF w l).lookup f = none := (lk_past h1).trans ((lk_past h2).trans rfl)
theorem tf_put_worth (w v : Int) (l : Addr) : putF "worth" (.int v) (TF w l) = TF v l := put_here
theorem tf_put_more (w : Int) (l k : Addr) : putF "wins_more" (.ref k) (TF w l) = TF w k := (put_past (by decide +kernel)).trans (congrArg _ put_here)
theorem tf_new (w : Int) (l : Addr) : putF "wins_more" (.ref l) (putF "worth" (.int w) []) = TF w l := (put_past (by decide +kernel)).trans rfl
/-- a new object -/
theorem Same.upd {H : Hp} {p : Addr} {o : HO} (n : H p = none) : Same H (upd H p o) := fun b u e => by
  rw [upd_ne (ne_of_none e n)]
  exact e
/-! ### what the top has written -/
structure Txt (K : PySem.W.Frag) (mg : Str → Option Value) (C CNA CNR CCB fI : Addr) : Prop where
  cl : Cls K C
  nW : NoAttr K C "worth"
  nM : NoAttr K C "wins_more"
  gC : mg "Tournament" = some (.ref C)
  gNA : mg "NotAllowed" = some (.ref CNA)
  xNA : PySem.W.excIn K CNA [.type "Exception", .type "BaseException", .type "object"] "Exception.__new__" = true
  kNA : PySem.W.keepIn K (.ref CNA) = true
  bNA : PySem.W.subIn K (.ref CNA) (.type "BaseException") = some true
  tNA : PySem.W.typeIn K (.ref CNA) = some (.type "type")
  gNR : mg "NoRoom" = some (.ref CNR)
  xNR : PySem.W.excIn K CNR [.type "Exception", .type "BaseException", .type "object"] "Exception.__new__" = true
  kNR : PySem.W.keepIn K (.ref CNR) = true
  bNR : PySem.W.subIn K (.ref CNR) (.type "BaseException") = some true
  tNR : PySem.W.typeIn K (.ref CNR) = some (.type "type")
  cb : PySem.CbX.CbTxt K mg CCB fI
  eAA : PySem.W.exmOne K (.ref CNA) (.ref CNA) = some true
  eRA : PySem.W.exmOne K (.ref CNR) (.ref CNA) = some false
  eRR : PySem.W.exmOne K (.ref CNR) (.ref CNR) = some true
  eCA : PySem.W.exmOne K (.ref CCB) (.ref CNA) = some false
  eCR : PySem.W.exmOne K (.ref CCB) (.ref CNR) = some false
  eCC : PySem.W.exmOne K (.ref CCB) (.ref CCB) = some true
  worth : ∃ t, mg "MOST_WORTH" = some (.int 30 t)
  bouts : ∃ t, mg "MOST_BOUTS" = some (.int 15 t)
  six : ∃ t, mg "MOST_WRESTLERS" = some (.int 6 t)
  place : ∃ t, mg "PLACE" = some (.int 10 t)
  len : mg "len" = none
  enum : mg "enumerate" = none
  sum : mg "sum" = none
  max : mg "max" = none
  min : mg "min" = none
  sorted : mg "sorted" = none
  list : mg "list" = none
  range : mg "range" = none
  abs : mg "abs" = none
def rAdd : R2 := rI0 fun i j => .int (i + j)
def rSub : R2 := rI0 fun i j => .int (i - j)
def rGt : R2 := rI0 fun i j => .bl (decide (j < i))
def rLt : R2 := rI0 fun i j => .bl (decide (i < j))
end Nr
set_option Elab.async false
set_option linter.all false
set_option maxRecDepth 100000
set_option maxHeartbeats 4000000
/-! __init__, begins, wrestler -/
namespace Nr
open PySem PySem.Spec PyProof.Rows L2
/-- X(), an own error class without own __init__ -/
theorem pmk_none {X : Cx} {C : Addr} {bmB : List Value} {B newId initId : String} {x : Str} {p pos : Pos} (F : ExcBaseFacts B newId initId bmB) (q : PySem.W.excIn X.K C bmB newId = true) (gC : X.mg x = some (.ref C)) (kC : PySem.W.keepIn X.K (.ref C) = true) (r : Raises X (.ref C)) (hg : Gl X x)
    (hdb : (x == ("__debug__" : Str)) = false := by decide) : PMk X (.Call (.Name x p) [] [] pos) (fun _ H Q => Q (.ref C) none H) := by
  intro pins s σ H Q I h
  refine wpAny_Call_Name_kw (ld_glob I hg gC ?_ hdb)
  refine PySem.W.callWith_K0 I.kIn kC ?_
  obtain ⟨bm, N, nm, qn, bs, hdct, sn, sub, ab, col, dd, k0, k1, k2, k3, k5, mN, hC, hN, hni, T⟩ := exc_obj I.kIn q
  exact wpAny_call_exc_subT F T hC hN hni (fun h' e hm => mk_of I hm r h (I.hok.gone hm.new)) (Nat.zero_le _)
section
variable {P : Program} {w : World} {K : PySem.W.Frag} {mg : Str → Option Value} {base : Heap} {C CNA CNR CCB fI : Addr}
/-! ### __init__ -/
def spInit (C : Addr) : Sp := fun vs H Q _ => ∃ (p dx : Addr), vs = [.ref p] ∧ H p = some (.ins C dx []) ∧
  ∀ (H' : Hp) (l : Addr), TAt C H' p l ⟨0, []⟩ → H l = none → (∀ b o, H b = some o → b ≠ p → H' b = some o) → Q .non H'
def t_init (K : PySem.W.Frag) : TS := tSeq (sFld K (tVar 0) (tC (.int 0)) "worth") (sFld K (tVar 0) (tLst tNil) "wins_more")
theorem pure_init (T : Txt K mg C CNA CNR CCB fI) (vs : List V) (H : Hp) (Q : VK) (E : XK) (h : spInit C vs H Q E) : t_init K { nx := fun _ H' => Q .non H', rt := Q } (start ["self"] vs) H := by
  obtain ⟨p, dx, rfl, hp, k⟩ := h
  refine ⟨_, rfl, p, C, dx, [], rfl, hp, T.cl, T.nW, (by show 0 < 1000; decide), ?_⟩
  refine ⟨(by show 0 ≤ sizeLine; exact Nat.zero_le _), fun l hl => ?_⟩
  have hlp : l ≠ p := fun z => by
    subst z
    rw [upd_same] at hl
    cases hl
  have hl0 : H l = none := by
    rw [upd_ne hlp] at hl
    exact hl
  refine ⟨_, rfl, p, C, dx, _, rfl, (upd_ne (Ne.symm hlp)).trans upd_same, T.cl, T.nM, (by show 1 < 1000; decide), ?_⟩
  refine k _ l ⟨⟨dx, Eq.trans upd_same (congrArg (fun q => some (HO.ins C dx q)) (tf_new 0 l))⟩, (upd_ne hlp).trans upd_same⟩ hl0 fun b o e hb => ?_
  rw [upd_ne hb, upd_ne (ne_of_none e hl0), upd_ne hb]
  exact e
theorem scI : FnScope ["self"] ["self"] (defScope sInit) := ⟨rfl, rfl, rfl, by decide +kernel, rfl, by decide +kernel, by decide +kernel⟩
theorem ok_init {f : Addr} {fd : FuncData} (F : Fun K "__init__" "Tournament.__init__" sInit f fd) (T : Txt K mg C CNA CNR CCB fI) : FnOk P w K mg base CX0 1 f fd ["self"] (spInit C) := by
  refine F.ok scI (fun vs H Q E h => ?_) (fun cdv A outer s H vs Q E hr h => ⟨t_init K, ?_, pure_init T vs H Q E h⟩)
  · obtain ⟨p, dx, rfl, _⟩ := h
    rfl
  · exact pss_cons (ps_fld (pv 0) pe_int rfl) (pss_one (ps_fld (pv 0) (pe_lst pa_nil) rfl))
/-! ### begins -/
/-- begins(tournament, worth) -/
def spBegins (C CNA : Addr) : Sp := fun vs H Q E => ∃ (a l : Addr) (m : M) (n : Int), vs = [.ref a, .int n] ∧ TAt C H a l m ∧
  (n > 30 → E (.ref CNA) none H) ∧
  (¬ n > 30 → ∀ (H' : Hp) (l' : Addr), TAt C H' a l' ⟨n, []⟩ → H l' = none → (∀ b o, H b = some o → b ≠ a → H' b = some o) → Q .non H')
def t_begins (K : PySem.W.Frag) (CNA : Addr) (E : XK) : TS :=
  tSeq (tIfS (tTest (tOp rGt (tVar 1) (tC (.int 30)))) (fun _ _ H => E (.ref CNA) none H) tNext)
    (tSeq (sFld K (tVar 0) (tVar 1) "worth") (sFld K (tVar 0) (tLst tNil) "wins_more"))
theorem pure_begins (T : Txt K mg C CNA CNR CCB fI) (vs : List V) (H : Hp) (Q : VK) (E : XK) (h : spBegins C CNA vs H Q E) : t_begins K CNA E { nx := fun _ H' => Q .non H', rt := Q } (start ["self", "worth"] vs) H := by
  obtain ⟨a, l, m, n, rfl, t, kN, kS⟩ := h
  obtain ⟨dx, ha⟩ := t.ins
  refine ⟨_, rfl, _, _, rfl, rfl, _, rfl, ?_⟩
  by_cases c : n > 30
  · exact if_true_of (decide_eq_true c) (kN c)
  · refine if_false_of (decide_eq_false c) ?_
    refine ⟨_, rfl, _, rfl, a, C, dx, _, rfl, ha, T.cl, T.nW, (by show 2 < 1000; decide), ?_⟩
    refine ⟨(by show 0 ≤ sizeLine; exact Nat.zero_le _), fun k hk => ?_⟩
    have hka : k ≠ a := fun z => by
      subst z
      rw [upd_same] at hk
      cases hk
    have hk0 : H k = none := by
      rw [upd_ne hka] at hk
      exact hk
    refine ⟨_, rfl, a, C, dx, _, rfl, (upd_ne (Ne.symm hka)).trans upd_same, T.cl, T.nM, (by show 2 < 1000; decide), ?_⟩
    refine kS c _ k ⟨⟨dx, Eq.trans upd_same (congrArg (fun q => some (HO.ins C dx q)) ?_)⟩, (upd_ne hka).trans upd_same⟩ hk0 fun b o e hb => ?_
    · rw [tf_put_worth]
      exact tf_put_more n l k
    · rw [upd_ne hb, upd_ne (ne_of_none e hk0), upd_ne hb]
      exact e
theorem scB : FnScope ["self", "worth"] ["self", "worth"] (defScope sBegins) := ⟨rfl, rfl, rfl, by decide +kernel, rfl, by decide +kernel, by decide +kernel⟩
theorem ok_begins {f : Addr} {fd : FuncData} (F : Fun K "begins" "Tournament.begins" sBegins f fd) (T : Txt K mg C CNA CNR CCB fI) : FnOk P w K mg base (L2.CX P w) 1 f fd ["self", "worth"] (spBegins C CNA) := by
  refine F.okX scB (fun vs H Q E h => ?_) (fun cdv A outer s H vs Q E hr h => ⟨t_begins K CNA E, ?_, pure_begins T vs H Q E h⟩)
  · obtain ⟨a, l, m, n, rfl, _⟩ := h
    rfl
  · obtain ⟨t, hw⟩ := T.worth
    exact pss_cons (ps_if (pt_cmpR op_gt (pv 1) (pe_glob rfl hw ⟨_, rfl⟩) (nomark _))
        (pss_one (ps_raise rfl (takes_of rfl rfl rfl rfl) (pmk_none PySem.F.excBase_Exception T.xNA T.gNA T.kNA (raises_own T.bNA T.tNA) (by exact rfl)))) pss_nil)
      (pss_cons (ps_fld (pv 0) (pv 1) rfl) (pss_one (ps_fld (pv 0) (pe_lst pa_nil) rfl)))
/-! ### wrestler -/
def spWrestler (C CNA CNR : Addr) : Sp := fun vs H Q E => ∃ (a l : Addr) (m : M) (i j : Int), vs = [.ref a, .int i, .int j] ∧ TAt C H a l m ∧ m.more.length ≤ 6 ∧
  (i + j > 15 → E (.ref CNA) none H) ∧
  (¬ i + j > 15 → m.more.length = 6 → E (.ref CNR) none H) ∧
  (¬ i + j > 15 → m.more.length ≠ 6 → ∀ H' : Hp, TAt C H' a l ⟨m.worth, m.more ++ [i - j]⟩ → (∀ b o, H b = some o → b ≠ l → H' b = some o) → Q (.int (m.more.length : Nat)) H')
theorem scW : FnScope ["self", "won", "lost"] ["self", "won", "lost"] (defScope sWrestler) := ⟨rfl, rfl, rfl, by decide +kernel, rfl, by decide +kernel, by decide +kernel⟩
theorem len_line {n : Nat} (h : n ≤ 100) : n < sizeLine := small1000 (by omega)
theorem ok_wrestler {f : Addr} {fd : FuncData} (F : Fun K "wrestler" "Tournament.wrestler" sWrestler f fd) (T : Txt K mg C CNA CNR CCB fI) : FnOk P w K mg base (L2.CX P w) 1 f fd ["self", "won", "lost"] (spWrestler C CNA CNR) := by
  refine F.okX scW (fun vs H Q E h => ?_) (fun cdv A outer s H vs Q E hr h => ?_)
  · obtain ⟨a, l, m, i, j, rfl, _⟩ := h
    rfl
  · obtain ⟨t1, hb⟩ := T.bouts
    obtain ⟨t2, h6⟩ := T.six
    refine ⟨_, pss_cons (ps_if (pt_cmpR op_gt (pe_op op_add (pv 1) (pv 2)) (pe_glob (v := .int 15) rfl hb ⟨_, rfl⟩) (nomark _))
        (pss_one (ps_raise rfl (takes_of rfl rfl rfl rfl) (pmk_none PySem.F.excBase_Exception T.xNA T.gNA T.kNA (raises_own T.bNA T.tNA) (by exact rfl)))) pss_nil)
      (pss_cons (ps_if (pt_cmpR op_eq (pe_callB call_len_seq (by rfl) T.len PySem.boot_len (pa_cons (pe_fld (pv 0) rfl) pa_nil)) (pe_glob (v := .int 6) rfl h6 ⟨_, rfl⟩) (nomark _))
        (pss_one (ps_raise rfl (takes_of rfl rfl rfl rfl) (pmk_none PySem.F.excBase_Exception T.xNR T.gNR T.kNR (raises_own T.bNR T.tNR) (by exact rfl)))) pss_nil)
      (pss_cons (ps_expr (pe_bm PySem.F.plainAttrs_list PySem.F.slot_list_append PySem.F.type_list_append mt_append (pe_fld (pv 0) rfl) (pa_cons (pe_op op_sub (pv 1) (pv 2)) pa_nil)))
      (pss_one (ps_ret (pe_op op_sub (pe_callB call_len_seq (by rfl) T.len PySem.boot_len (pa_cons (pe_fld (pv 0) rfl) pa_nil)) pe_int))))), ?_⟩
    obtain ⟨a, l, m, i, j, rfl, t, hl6, kA, kR, kS⟩ := h
    obtain ⟨dx, ha⟩ := t.ins
    refine ⟨_, rfl, _, rfl, _, _, rfl, rfl, _, _, rfl, rfl, _, rfl, ?_⟩
    by_cases c : i + j > 15
    · exact if_true_of (decide_eq_true c) (kA c)
    refine if_false_of (decide_eq_false c) ?_
    refine ⟨_, rfl, a, C, dx, _, _, rfl, ha, T.cl, T.nM, tf_more _ _, l, _, rfl, .inl (SqL.of t.lst), rfl, _, rfl, ?_⟩
    have len : (m.more.map V.int).length = m.more.length := List.length_map _
    by_cases c6 : m.more.length = 6
    · refine if_true_of (decide_eq_true ?_) (kR c c6)
      rw [len, c6]
      rfl
    refine if_false_of (decide_eq_false fun z => c6 ?_) ?_
    · rw [len] at z
      have z' := V.int.inj z
      omega
    refine ⟨_, rfl, a, C, dx, _, _, rfl, ha, T.cl, T.nM, tf_more _ _, .inl ⟨rfl, _, SqL.of t.lst⟩, _, rfl, _, rfl, _, _, rfl, rfl, l, _, _, rfl, rfl, t.lst, len_line (by rw [len]; omega), ?_⟩
    have hm : (m.more ++ [i - j]).map V.int = m.more.map V.int ++ [V.int (i - j)] := by rw [List.map_append]; rfl
    have ha' : upd H l (.lst (m.more.map V.int ++ [V.int (i - j)])) a = some (.ins C dx (TF m.worth l)) := (upd_ne t.ne).trans ha
    refine ⟨_, rfl, a, C, dx, _, _, rfl, ha', T.cl, T.nM, tf_more _ _, l, _, rfl, .inl (SqL.of upd_same), _, _, rfl, rfl, ?_⟩
    have e : ((m.more.map V.int ++ [V.int (i - j)]).length : Int) - 1 = (m.more.length : Nat) := by
      rw [List.length_append, len]
      show ((m.more.length + 1 : Nat) : Int) - 1 = _
      omega
    show Q (V.int (((m.more.map V.int ++ [V.int (i - j)]).length : Int) - 1)) _
    rw [e]
    exact kS c c6 _ ⟨⟨dx, ha'⟩, by rw [hm]; exact upd_same⟩ fun b o q hb => (upd_ne hb).trans q
end
end Nr
set_option Elab.async false
set_option linter.all false
set_option maxRecDepth 100000
set_option maxHeartbeats 4000000
/-! has_each_rank_once, must_not_move, earned -/
namespace Nr
open PySem PySem.Spec PyProof.Rows L2
/-- 0, 1, .. -/
def ranks (n : Nat) : List Int := (List.range n).map fun (i : Nat) => (i : Int)
theorem ranks_sorted (n : Nat) : (ranks n).Pairwise (· ≤ ·) := by
  unfold ranks
  rw [List.pairwise_map]
  exact List.pairwise_lt_range.imp fun {a b} h => by omega
theorem sorted_is {xs ys zs : List Int} (p : ys.Perm xs) (s : ys.Pairwise (· ≤ ·)) (z : zs.Pairwise (· ≤ ·)) : decide (ys = zs) = decide (xs.Perm zs) := by
  refine decide_eq_decide.mpr ⟨fun e => ?_, fun q => ?_⟩
  · rw [← e]
    exact p.symm
  · exact (p.trans q).eq_of_pairwise (fun a b _ _ h1 h2 => Int.le_antisymm h1 h2) s z
theorem rgV_ranks (n : Nat) : rgV 0 (n : Nat) = (ranks n).map V.int := by
  unfold rgV ranks
  rw [List.map_map]
  have e : ((n : Int) - 0).toNat = n := by omega
  rw [e]
  refine List.map_congr_left fun i _ => ?_
  show V.int (0 + (i : Int)) = V.int i
  rw [Int.zero_add]
theorem dps_ints {K : PySem.W.Frag} {H : Hp} : ∀ ns : List Int, DpAll K H (ns.map V.int) (ns.map PyData.int)
  | [] => .nil
  | n :: r => .cons (.int n) (dps_ints r)
theorem dp_ints {K : PySem.W.Frag} {H : Hp} {a : Addr} {ns : List Int} (h : SqL K H a (ns.map V.int)) : Dp K H (.ref a) (.list (ns.map PyData.int)) := .lst h (dps_ints ns)
theorem eqv_ints (ns ms : List Int) : PyData.eqv (.list (ns.map PyData.int)) (.list (ms.map PyData.int)) = decide (ns = ms) := by
  rw [PyData.eqv]
  exact PySem.W.ked_eqvAll ns ms
/-- the i-th of wins_more -/
def M.at_ (m : M) (i : Nat) : Int := m.more.getD i 0
/-- must_not_move(old, new) -/
def M.mnm (m : M) (i : Nat) (x : Int) : Bool := if 0 < m.at_ i then decide ((i : Int) < x) else if m.at_ i < 0 then decide (x < (i : Int)) else false
/-- earned(old) -/
def M.earned (m : M) (i : Nat) : Int := 10 * (i : Int) - m.worth * m.at_ i
theorem at_here {m : M} {i : Nat} (h : i < m.more.length) : (m.more.map V.int)[i]? = some (V.int (m.at_ i)) := by
  rw [List.getElem?_map, List.getElem?_eq_getElem h]
  show some (V.int m.more[i]) = some (V.int (m.more.getD i 0))
  rw [List.getD_eq_getElem?_getD, List.getElem?_eq_getElem h]
  rfl
section
variable {P : Program} {w : World} {K : PySem.W.Frag} {mg : Str → Option Value} {base : Heap} {C CNA CNR CCB fI : Addr}
/-! ### has_each_rank_once -/
def spEach (K : PySem.W.Frag) (C : Addr) : Sp := fun vs H Q _ => ∃ (a l g : Addr) (m : M) (xs : List Int), vs = [.ref a, .ref g] ∧ TAt C H a l m ∧ m.more.length ≤ 6 ∧ SqL K H g (xs.map V.int) ∧
  ∀ H' : Hp, Same H H' → Q (.bl (decide (xs.Perm (ranks m.more.length)))) H'
theorem scEach : FnScope ["self", "new_list"] ["self", "new_list"] (defScope sEach) := ⟨rfl, rfl, rfl, by decide +kernel, rfl, by decide +kernel, by decide +kernel⟩
theorem ok_each {f : Addr} {fd : FuncData} (F : Fun K "has_each_rank_once" "Tournament.has_each_rank_once" sEach f fd) (T : Txt K mg C CNA CNR CCB fI) : FnOk P w K mg base CX0 1 f fd ["self", "new_list"] (spEach K C) := by
  refine F.ok scEach (fun vs H Q E h => ?_) (fun cdv A outer s H vs Q E hr h => ?_)
  · obtain ⟨a, l, g, m, xs, rfl, _⟩ := h
    rfl
  · refine ⟨_, pss_one (ps_ret (pe_cmpR (op_eqD hr.units) (pe_callB cr_sortedI (by rfl) T.sorted (by decide +kernel) (pa_cons (pv 1) pa_nil))
      (pe_listRg rfl rfl T.list (prg_1 rfl T.range (pe_callB call_len_seq (by rfl) T.len PySem.boot_len (pa_cons (pe_fld (pv 0) rfl) pa_nil)))) (nomark _))), ?_⟩
    obtain ⟨a, l, g, m, xs, rfl, t, h6, hg, k⟩ := h
    obtain ⟨dx, ha⟩ := t.ins
    refine ⟨_, rfl, g, xs, rfl, hg, fun ys p perm sorted np => ?_⟩
    have s1 : Same H (upd H p (.lst (ys.map V.int))) := Same.upd np
    have t1 := t.keep s1
    obtain ⟨dx1, ha1⟩ := t1.ins
    refine ⟨_, rfl, a, C, dx1, _, _, rfl, ha1, T.cl, T.nM, tf_more _ _, l, _, rfl, .inl (SqL.of t1.lst), _, rfl, ?_⟩
    have len : (m.more.map V.int).length = m.more.length := List.length_map _
    refine ⟨RgOk.of_le (by omega) (by omega) (by omega) (by omega), fun q hq => ?_⟩
    have hpq : p ≠ q := ne_of_none upd_same hq
    have e1 : rgV 0 (((m.more.map V.int).length : Nat) : Int) = (ranks m.more.length).map V.int := by rw [len]; exact rgV_ranks _
    rw [e1]
    refine ⟨_, _, dp_ints (SqL.of ((upd_ne hpq).trans upd_same)), dp_ints (SqL.of upd_same), PySem.W.ke_shaped_ints _, PySem.W.ke_shaped_ints _, ?_⟩
    rw [eqv_ints, sorted_is perm sorted (ranks_sorted _)]
    exact k _ (s1.trans (Same.upd hq))
/-! ### must_not_move -/
def spMnm (C : Addr) : Sp := fun vs H Q _ => ∃ (a l : Addr) (m : M) (i : Nat) (x : Int), vs = [.ref a, .int (i : Nat), .int x] ∧ TAt C H a l m ∧ i < m.more.length ∧ Q (.bl (m.mnm i x)) H
theorem scMnm : FnScope ["self", "old", "new"] ["self", "old", "new"] (defScope sMnm) := ⟨rfl, rfl, rfl, by decide +kernel, rfl, by decide +kernel, by decide +kernel⟩
theorem ok_mnm {f : Addr} {fd : FuncData} (F : Fun K "must_not_move" "Tournament.must_not_move" sMnm f fd) (T : Txt K mg C CNA CNR CCB fI) : FnOk P w K mg base CX0 1 f fd ["self", "old", "new"] (spMnm C) := by
  refine F.ok scMnm (fun vs H Q E h => ?_) (fun cdv A outer s H vs Q E hr h => ?_)
  · obtain ⟨a, l, m, i, x, rfl, _⟩ := h
    rfl
  · refine ⟨_, pss_cons (ps_if (pt_cmpR op_gt (pe_ix ix_list (pe_fld (pv 0) rfl) (pv 1) (fun _ _ => rfl)) pe_int (nomark _)) (pss_one (ps_ret (pe_cmpR op_gt (pv 2) (pv 1) (nomark _)))) pss_nil)
      (pss_cons (ps_if (pt_cmpR op_lt (pe_ix ix_list (pe_fld (pv 0) rfl) (pv 1) (fun _ _ => rfl)) pe_int (nomark _)) (pss_one (ps_ret (pe_cmpR op_lt (pv 2) (pv 1) (nomark _)))) pss_nil)
      (pss_one (ps_ret pe_bl))), ?_⟩
    obtain ⟨a, l, m, i, x, rfl, t, hi, k⟩ := h
    obtain ⟨dx, ha⟩ := t.ins
    have ix := atI_nat (at_here hi)
    refine ⟨_, rfl, a, C, dx, _, _, rfl, ha, T.cl, T.nM, tf_more _ _, _, rfl, l, _, _, _, rfl, rfl, SqL.of t.lst, ix, _, _, rfl, rfl, _, rfl, ?_⟩
    by_cases c : 0 < m.at_ i
    · refine if_true_of (decide_eq_true c) ?_
      refine ⟨_, rfl, _, rfl, _, _, rfl, rfl, ?_⟩
      have e : m.mnm i x = decide ((i : Int) < x) := if_pos c
      rw [e] at k
      exact k
    refine if_false_of (decide_eq_false c) ?_
    refine ⟨_, rfl, a, C, dx, _, _, rfl, ha, T.cl, T.nM, tf_more _ _, _, rfl, l, _, _, _, rfl, rfl, SqL.of t.lst, ix, _, _, rfl, rfl, _, rfl, ?_⟩
    by_cases c2 : m.at_ i < 0
    · refine if_true_of (decide_eq_true c2) ?_
      refine ⟨_, rfl, _, rfl, _, _, rfl, rfl, ?_⟩
      have e : m.mnm i x = decide (x < (i : Int)) := (if_neg c).trans (if_pos c2)
      rw [e] at k
      exact k
    refine if_false_of (decide_eq_false c2) ?_
    have e : m.mnm i x = false := (if_neg c).trans (if_neg c2)
    rw [e] at k
    exact k
/-! ### earned -/
def spEarned (C : Addr) : Sp := fun vs H Q _ => ∃ (a l : Addr) (m : M) (i : Nat), vs = [.ref a, .int (i : Nat)] ∧ TAt C H a l m ∧ m.Fit ∧ i < m.more.length ∧ Q (.int (m.earned i)) H
theorem scEarned : FnScope ["self", "old"] ["self", "old"] (defScope sEarned) := ⟨rfl, rfl, rfl, by decide +kernel, rfl, by decide +kernel, by decide +kernel⟩
theorem ok_earned {f : Addr} {fd : FuncData} (F : Fun K "earned" "Tournament.earned" sEarned f fd) (T : Txt K mg C CNA CNR CCB fI) : FnOk P w K mg base CX0 1 f fd ["self", "old"] (spEarned C) := by
  refine F.ok scEarned (fun vs H Q E h => ?_) (fun cdv A outer s H vs Q E hr h => ?_)
  · obtain ⟨a, l, m, i, rfl, _⟩ := h
    rfl
  · obtain ⟨tp, hp⟩ := T.place
    refine ⟨_, pss_one (ps_ret (pe_op op_sub (pe_op op_mul (pe_glob (v := .int 10) rfl hp ⟨_, rfl⟩) (pv 1)) (pe_op op_mul (pe_fld (pv 0) rfl) (pe_ix ix_list (pe_fld (pv 0) rfl) (pv 1) (fun _ _ => rfl))))), ?_⟩
    obtain ⟨a, l, m, i, rfl, t, fit, hi, k⟩ := h
    obtain ⟨dx, ha⟩ := t.ins
    refine ⟨_, rfl, _, _, rfl, rfl, .inl ⟨by decide, by decide⟩, _, rfl, a, C, dx, _, _, rfl, ha, T.cl, T.nW, tf_worth _ _, _, rfl, a, C, dx, _, _, rfl, ha, T.cl, T.nM, tf_more _ _, _, rfl, l, _, _, _, rfl, rfl, SqL.of t.lst, atI_nat (at_here hi), _, _, rfl, rfl, .inl ⟨?_, ?_⟩, _, _, rfl, rfl, ?_⟩
    · have := fit.w0
      omega
    · have := fit.w1
      omega
    · exact k
end
end Nr
set_option Elab.async false
set_option linter.all false
set_option maxRecDepth 100000
set_option maxHeartbeats 4000000
/-! all_off -/
namespace Nr
open PySem PySem.Spec PyProof.Rows L2
/-- how far the one of the old rank i is off by the new rank x -/
def M.off (m : M) (i : Nat) (x : Int) : Int := if 10 * x - m.earned i < 0 then -(10 * x - m.earned i) else 10 * x - m.earned i
def M.offs (m : M) (xs : List Int) : List Int := xs.mapIdx m.off
theorem offs_length (m : M) (xs : List Int) : (m.offs xs).length = xs.length := List.length_mapIdx
theorem offs_at {m : M} {xs : List Int} {i : Nat} {x : Int} (h : xs[i]? = some x) : (m.offs xs)[i]? = some (m.off i x) := by
  unfold M.offs
  rw [List.getElem?_mapIdx, h]
  rfl
theorem take_one {α : Type} {l : List α} {i : Nat} {x : α} (h : l[i]? = some x) : l.take (i + 1) = l.take i ++ [x] := by
  rw [List.take_add_one, h]
  rfl
theorem map_at {ns : List Int} {i : Nat} {v : V} (h : (ns.map V.int)[i]? = some v) : ∃ z, ns[i]? = some z ∧ v = V.int z := by
  rw [List.getElem?_map] at h
  cases e : ns[i]? with
  | none =>
    rw [e] at h
    cases h
  | some z =>
    rw [e] at h
    exact ⟨z, rfl, (Option.some.inj h).symm⟩
section
variable {P : Program} {w : World} {K : PySem.W.Frag} {mg : Str → Option Value} {base : Heap} {C CNA CNR CCB fI : Addr}
def spOff (K : PySem.W.Frag) (C : Addr) : Sp := fun vs H Q _ => ∃ (a l g : Addr) (m : M) (xs : List Int), vs = [.ref a, .ref g] ∧ TAt C H a l m ∧ m.Fit ∧ SqL K H g (xs.map V.int) ∧ xs.length ≤ m.more.length ∧
  ∀ (H' : Hp) (p : Addr), Same H H' → H p = none → H' p = some (.lst ((m.offs xs).map V.int)) → Q (.ref p) H'
theorem scOff : FnScope ["self", "new_list", "old", "new"] ["self", "new_list"] (defScope sOff) := ⟨rfl, rfl, rfl, by decide +kernel, rfl, by decide +kernel, by decide +kernel⟩
theorem ok_off {f fE : Addr} {fd fdE : FuncData} (F : Fun K "all_off" "Tournament.all_off" sOff f fd) (T : Txt K mg C CNA CNR CCB fI) (FE : Fun K "earned" "Tournament.earned" sEarned fE fdE) (bE : Binds K fdE ["self", "old"] []) (mE : Meth K C "earned" fE) :
    FnOk P w K mg base CX0 2 f fd ["self", "new_list"] (spOff K C) := by
  have GE : FnOk P w K mg base CX0 1 fE fdE ["self", "old"] (spEarned C) := ok_earned FE T
  refine F.ok scOff (fun vs H Q E h => ?_) (fun cdv A outer s H vs Q E hr h => ?_)
  · obtain ⟨a, l, g, m, xs, rfl, _⟩ := h
    rfl
  · obtain ⟨tp, hp⟩ := T.place
    refine ⟨_, pss_one (ps_ret (pe_lc (own := [("old", 2), ("new", 3)]) (g := gTup K 2 (gCons (gName 2) (gCons (gName 3) gNil))) (tt := tYes) rfl scOff.nd (pi_enum (by rfl) T.enum (pa_cons (pv 1) pa_nil)) (blkOk_by (N := ["self", "new_list", "old", "new"]) (sc := defScope sOff) (by decide +kernel))
      (fun _ _ _ _ _ => by exact pg_tup rfl (pgs_cons (pg_name (i := 2) scOff.nd rfl (Or.inl rfl)) (pgs_cons (pg_name (i := 3) scOff.nd rfl (Or.inl rfl)) pgs_nil))) (fun _ _ _ _ _ => pts_nil)
      (fun _ _ _ _ _ => pe_callB call_abs (by rfl) T.abs (by decide +kernel) (pa_cons (pe_op op_sub (pe_op op_mul (pe_glob (v := .int 10) rfl hp ⟨_, rfl⟩) (pv 3))
        (pe_meth (pv 0) T.cl mE GE hr bE .nil pass0 (pa_cons (pv 2) pa_nil))) pa_nil)))), ?_⟩
    obtain ⟨a, l, g, m, xs, rfl, t, fit, hg, hlen, k⟩ := h
    refine ⟨_, rfl, g, _, rfl, hg, fun D hD => ?_⟩
    refine lc_it (walk_enum (K := K) (a := g) (xs := xs.map V.int)) (fun i H' => Same H H' ∧ H' D = some (.lst (((m.offs xs).take i).map V.int))) ⟨Same.upd hD, upd_same⟩ (fun i H' _ p => p.1.seq hg) ?_ ?_
    · rintro i v H1 H2 hi ⟨s1, d1⟩ ⟨p, x, y, rfl, np, rfl, ex, ey⟩
      cases ex
      obtain ⟨z, hz, rfl⟩ := map_at ey
      rw [List.length_map] at hi
      have s2 : Same H1 (upd H1 p (.tup [.int (i : Nat), .int z])) := Same.upd np
      have t2 := t.keep (s1.trans s2)
      obtain ⟨dx, ha⟩ := t2.ins
      refine ⟨p, _, rfl, SqT.of upd_same, rfl, _, _, rfl, _, _, rfl, rfl, ?_⟩
      refine ⟨rfl, ?_⟩
      refine ⟨_, rfl, _, _, rfl, rfl, .inl ⟨by decide, by decide⟩, _, rfl, a, dx, _, rfl, ha, tf_none _ _ (by decide +kernel) (by decide +kernel), _, rfl, ?_⟩
      refine ⟨a, l, m, i, rfl, t2, fit, (by omega), _, _, rfl, rfl, _, rfl, ?_⟩
      have hpD : D ≠ p := ne_of_none d1 np
      refine ⟨_, (upd_ne hpD).trans d1, ?_, ?_⟩
      · rw [List.length_map]
        have : ((m.offs xs).take i).length ≤ (m.offs xs).length := List.length_take_le' i _
        rw [offs_length] at this
        have := fit.len
        exact small1000 (by omega)
      · have e : ((m.offs xs).take (i + 1)).map V.int = ((m.offs xs).take i).map V.int ++ [V.int (m.off i z)] := by
          rw [take_one (offs_at hz), List.map_append]
          rfl
        refine ⟨fun b o q => ?_, ?_⟩
        · have nb : b ≠ D := ne_of_none q hD
          rw [upd_ne nb]
          exact s2 b o (s1 b o q)
        · rw [e]
          exact upd_same
    · rintro H' ⟨s1, d1⟩
      refine k H' D s1 hD ?_
      have e : (m.offs xs).take (xs.map V.int).length = m.offs xs := List.take_of_length_le (by rw [offs_length, List.length_map]; exact Nat.le_refl _)
      rw [e] at d1
      exact d1
end
end Nr
set_option Elab.async false
set_option linter.all false
set_option maxRecDepth 100000
set_option maxHeartbeats 4000000
/-! who_must_not_move, off_together, off_the_most -/
namespace Nr
open PySem PySem.Spec PyProof.Rows L2
/-- who of the first n falls or rises wrongly -/
def M.whos (m : M) (xs : List Int) (n : Nat) : List Nat := (List.range n).filter fun i => m.mnm i (xs.getD i 0)
theorem whos_more (m : M) (xs : List Int) (n : Nat) : m.whos xs (n + 1) = m.whos xs n ++ (if m.mnm n (xs.getD n 0) = true then [n] else []) := by
  unfold M.whos
  rw [List.range_succ, List.filter_append]
  cases e : m.mnm n (xs.getD n 0) with
  | true => rw [if_pos rfl, List.filter_cons_of_pos (by rw [e])]; rfl
  | false => rw [if_neg Bool.false_ne_true, List.filter_cons_of_neg (by rw [e]; exact Bool.false_ne_true)]; rfl
theorem whos_length (m : M) (xs : List Int) (n : Nat) : (m.whos xs n).length ≤ n := by
  unfold M.whos
  refine Nat.le_trans (List.length_filter_le _ _) ?_
  rw [List.length_range]
  exact Nat.le_refl _
def zs (l : List Nat) : List Int := l.map fun (n : Nat) => (n : Int)
theorem zs_length (l : List Nat) : (zs l).length = l.length := List.length_map _
def vN (l : List Nat) : List V := (zs l).map V.int
theorem vN_length (l : List Nat) : (vN l).length = l.length := by
  unfold vN
  rw [List.length_map, zs_length]
theorem vN_app (l m : List Nat) : vN (l ++ m) = vN l ++ vN m := by
  unfold vN zs
  rw [List.map_append, List.map_append]
section
variable {P : Program} {w : World} {K : PySem.W.Frag} {mg : Str → Option Value} {base : Heap} {C CNA CNR CCB fI : Addr}
def spWho (K : PySem.W.Frag) (C : Addr) : Sp := fun vs H Q _ => ∃ (a l g : Addr) (m : M) (xs : List Int), vs = [.ref a, .ref g] ∧ TAt C H a l m ∧ m.more.length ≤ 6 ∧ SqL K H g (xs.map V.int) ∧ xs.length ≤ m.more.length ∧
  ∀ (H' : Hp) (p : Addr), Same H H' → H p = none → H' p = some (.lst (vN (m.whos xs xs.length))) → Q (.ref p) H'
theorem scWho : FnScope ["self", "new_list", "old", "new"] ["self", "new_list"] (defScope sWho) := ⟨rfl, rfl, rfl, by decide +kernel, rfl, by decide +kernel, by decide +kernel⟩
theorem ok_who {f fM : Addr} {fd fdM : FuncData} (F : Fun K "who_must_not_move" "Tournament.who_must_not_move" sWho f fd) (T : Txt K mg C CNA CNR CCB fI) (FM : Fun K "must_not_move" "Tournament.must_not_move" sMnm fM fdM) (bM : Binds K fdM ["self", "old", "new"] []) (mM : Meth K C "must_not_move" fM) :
    FnOk P w K mg base CX0 2 f fd ["self", "new_list"] (spWho K C) := by
  have GM : FnOk P w K mg base CX0 1 fM fdM ["self", "old", "new"] (spMnm C) := ok_mnm FM T
  refine F.ok scWho (fun vs H Q E h => ?_) (fun cdv A outer s H vs Q E hr h => ?_)
  · obtain ⟨a, l, g, m, xs, rfl, _⟩ := h
    rfl
  · refine ⟨_, pss_one (ps_ret (pe_lc (own := [("old", 2), ("new", 3)]) (g := gTup K 2 (gCons (gName 2) (gCons (gName 3) gNil))) (tt := tB (tMeth C "must_not_move" (spMnm C) [] (fun _ _ _ => False) (tVar 0) (tCons (tVar 2) (tCons (tVar 3) tNil)))) rfl scWho.nd (pi_enum (by rfl) T.enum (pa_cons (pv 1) pa_nil)) (blkOk_by (N := ["self", "new_list", "old", "new"]) (sc := defScope sWho) (by decide +kernel))
      (fun _ _ _ _ _ => by exact pg_tup rfl (pgs_cons (pg_name (i := 2) scWho.nd rfl (Or.inl rfl)) (pgs_cons (pg_name (i := 3) scWho.nd rfl (Or.inl rfl)) pgs_nil)))
      (fun _ _ _ _ _ => pts_one (pt_val (pe_meth (pv 0) T.cl mM GM hr bM .nil pass0 (pa_cons (pv 2) (pa_cons (pv 3) pa_nil)))))
      (fun _ _ _ _ _ => pv 2))), ?_⟩
    obtain ⟨a, l, g, m, xs, rfl, t, h6, hg, hlen, k⟩ := h
    refine ⟨_, rfl, g, _, rfl, hg, fun D hD => ?_⟩
    refine lc_it (walk_enum (K := K) (a := g) (xs := xs.map V.int)) (fun i H' => Same H H' ∧ H' D = some (.lst (vN (m.whos xs i)))) ⟨Same.upd hD, upd_same⟩ (fun i H' _ p => p.1.seq hg) ?_ ?_
    · rintro i v H1 H2 hi ⟨s1, d1⟩ ⟨p, x, y, rfl, np, rfl, ex, ey⟩
      cases ex
      obtain ⟨z, hz, rfl⟩ := map_at ey
      rw [List.length_map] at hi
      have s2 : Same H1 (upd H1 p (.tup [.int (i : Nat), .int z])) := Same.upd np
      have t2 := t.keep (s1.trans s2)
      obtain ⟨dx, ha⟩ := t2.ins
      have hget : xs.getD i 0 = z := by rw [List.getD_eq_getElem?_getD, hz]; rfl
      have hpD : D ≠ p := ne_of_none d1 np
      refine ⟨p, _, rfl, SqT.of upd_same, rfl, _, _, rfl, _, _, rfl, rfl, ?_⟩
      refine ⟨rfl, ?_⟩
      refine ⟨_, rfl, a, dx, _, rfl, ha, tf_none _ _ (by decide +kernel) (by decide +kernel), _, rfl, _, rfl, ?_⟩
      refine ⟨a, l, m, i, z, rfl, t2, by omega, _, rfl, ?_⟩
      have wm := whos_more m xs i
      rw [hget] at wm
      cases e : m.mnm i z with
      | true =>
        rw [e, if_pos rfl] at wm
        refine if_true_of rfl ⟨_, rfl, _, (upd_ne hpD).trans d1, ?_, ?_⟩
        · rw [vN_length]
          have := whos_length m xs i
          exact small1000 (by omega)
        · refine ⟨fun b o q => ?_, ?_⟩
          · have nb : b ≠ D := ne_of_none q hD
            rw [upd_ne nb]
            exact s2 b o (s1 b o q)
          · refine upd_same.trans ?_
            rw [wm, vN_app]
            rfl
      | false =>
        rw [e, if_neg Bool.false_ne_true, List.append_nil] at wm
        refine if_false_of rfl ⟨s1.trans s2, ?_⟩
        rw [wm]
        exact (upd_ne hpD).trans d1
    · rintro H' ⟨s1, d1⟩
      rw [List.length_map] at d1
      exact k H' D s1 hD d1
/-! ### off_together -/
def spSum (K : PySem.W.Frag) (C : Addr) : Sp := fun vs H Q _ => ∃ (a l g : Addr) (m : M) (xs : List Int), vs = [.ref a, .ref g] ∧ TAt C H a l m ∧ m.Fit ∧ SqL K H g (xs.map V.int) ∧ xs.length ≤ m.more.length ∧
  ∀ H' : Hp, Same H H' → Q (.int (m.offs xs).sum) H'
theorem scSum : FnScope ["self", "new_list"] ["self", "new_list"] (defScope sSum) := ⟨rfl, rfl, rfl, by decide +kernel, rfl, by decide +kernel, by decide +kernel⟩
theorem ok_sum {f fO fE : Addr} {fd fdO fdE : FuncData} (F : Fun K "off_together" "Tournament.off_together" sSum f fd) (T : Txt K mg C CNA CNR CCB fI)
    (FO : Fun K "all_off" "Tournament.all_off" sOff fO fdO) (bO : Binds K fdO ["self", "new_list"] []) (mO : Meth K C "all_off" fO)
    (FE : Fun K "earned" "Tournament.earned" sEarned fE fdE) (bE : Binds K fdE ["self", "old"] []) (mE : Meth K C "earned" fE) :
    FnOk P w K mg base CX0 3 f fd ["self", "new_list"] (spSum K C) := by
  have GO : FnOk P w K mg base CX0 2 fO fdO ["self", "new_list"] (spOff K C) := ok_off FO T FE bE mE
  refine F.ok scSum (fun vs H Q E h => ?_) (fun cdv A outer s H vs Q E hr h => ?_)
  · obtain ⟨a, l, g, m, xs, rfl, _⟩ := h
    rfl
  · refine ⟨_, pss_one (ps_ret (pe_callB (cr_sum rfl) (by rfl) T.sum (by decide +kernel) (pa_cons (pe_meth (pv 0) T.cl mO GO hr bO .nil pass0 (pa_cons (pv 1) pa_nil)) pa_nil))), ?_⟩
    obtain ⟨a, l, g, m, xs, rfl, t, fit, hg, hlen, k⟩ := h
    obtain ⟨dx, ha⟩ := t.ins
    refine ⟨_, rfl, a, dx, _, rfl, ha, tf_none _ _ (by decide +kernel) (by decide +kernel), _, rfl, ?_⟩
    exact ⟨a, l, g, m, xs, rfl, t, fit, hg, hlen, fun H' p s' np hp => ⟨p, m.offs xs, rfl, SqL.of hp, k H' s'⟩⟩
/-! ### off_the_most -/
def topOf (l : List Int) : Int := l.foldl max 0
theorem topOf_ge : ∀ (l : List Int) (z : Int), z ≤ l.foldl max z ∧ ∀ y ∈ l, y ≤ l.foldl max z
  | [], z => ⟨Int.le_refl _, fun y h => by cases h⟩
  | x :: r, z => by
    obtain ⟨h1, h2⟩ := topOf_ge r (max z x)
    refine ⟨by show z ≤ r.foldl max (max z x); omega, fun y h => ?_⟩
    show y ≤ r.foldl max (max z x)
    cases h with
    | head => omega
    | tail _ h => exact h2 y h
theorem topOf_mem : ∀ (l : List Int) (z : Int), l.foldl max z = z ∨ l.foldl max z ∈ l
  | [], z => .inl rfl
  | x :: r, z => by
    show r.foldl max (max z x) = z ∨ r.foldl max (max z x) ∈ x :: r
    rcases topOf_mem r (max z x) with h | h
    · rcases Int.le_total x z with c | c
      · left
        rw [h]
        omega
      · right
        rw [h]
        have : max z x = x := by omega
        rw [this]
        exact List.mem_cons_self
    · right
      exact List.mem_cons_of_mem _ h
theorem topOf_is {l : List Int} {v : Int} (h0 : ∀ y ∈ l, 0 ≤ y) (hm : v ∈ l) (hle : ∀ y ∈ l, y ≤ v) : v = topOf l := by
  obtain ⟨h1, h2⟩ := topOf_ge l 0
  have a := h2 v hm
  rcases topOf_mem l 0 with h | h
  · have := h0 v hm
    show v = l.foldl max 0
    rw [h]
    rw [h] at a
    omega
  · have b := hle _ h
    exact Int.le_antisymm a b
theorem off_nonneg (m : M) (i : Nat) (x : Int) : 0 ≤ m.off i x := by
  unfold M.off
  split <;> omega
theorem offs_nonneg {m : M} {xs : List Int} : ∀ y ∈ m.offs xs, 0 ≤ y := fun y h => by
  obtain ⟨i, hi, rfl⟩ := List.mem_mapIdx.mp h
  exact off_nonneg m i _
def spMost (K : PySem.W.Frag) (C : Addr) : Sp := fun vs H Q _ => ∃ (a l g : Addr) (m : M) (xs : List Int), vs = [.ref a, .ref g] ∧ TAt C H a l m ∧ m.Fit ∧ SqL K H g (xs.map V.int) ∧ xs.length ≤ m.more.length ∧
  ∀ H' : Hp, Same H H' → Q (.int (topOf (m.offs xs))) H'
theorem scMost : FnScope ["self", "new_list"] ["self", "new_list"] (defScope sMost) := ⟨rfl, rfl, rfl, by decide +kernel, rfl, by decide +kernel, by decide +kernel⟩
theorem ok_most {f fO fE : Addr} {fd fdO fdE : FuncData} (F : Fun K "off_the_most" "Tournament.off_the_most" sMost f fd) (T : Txt K mg C CNA CNR CCB fI)
    (FO : Fun K "all_off" "Tournament.all_off" sOff fO fdO) (bO : Binds K fdO ["self", "new_list"] []) (mO : Meth K C "all_off" fO)
    (FE : Fun K "earned" "Tournament.earned" sEarned fE fdE) (bE : Binds K fdE ["self", "old"] []) (mE : Meth K C "earned" fE) :
    FnOk P w K mg base CX0 3 f fd ["self", "new_list"] (spMost K C) := by
  have GO : FnOk P w K mg base CX0 2 fO fdO ["self", "new_list"] (spOff K C) := ok_off FO T FE bE mE
  refine F.ok scMost (fun vs H Q E h => ?_) (fun cdv A outer s H vs Q E hr h => ?_)
  · obtain ⟨a, l, g, m, xs, rfl, _⟩ := h
    rfl
  · refine ⟨_, pss_one (ps_ret (pe_callBK (cr_maxOr rfl) (by rfl) T.max (by decide +kernel) (pa_cons (pe_meth (pv 0) T.cl mO GO hr bO .nil pass0 (pa_cons (pv 1) pa_nil)) pa_nil) (pk_cons pe_int pk_nil))), ?_⟩
    obtain ⟨a, l, g, m, xs, rfl, t, fit, hg, hlen, k⟩ := h
    obtain ⟨dx, ha⟩ := t.ins
    refine ⟨_, rfl, a, dx, _, rfl, ha, tf_none _ _ (by decide +kernel) (by decide +kernel), _, rfl, ?_⟩
    refine ⟨a, l, g, m, xs, rfl, t, fit, hg, hlen, fun H' p s' np hp => ⟨p, m.offs xs, _, rfl, rfl, SqL.of hp, fun e0 => ?_, fun v hv hle => ?_⟩⟩
    · have e : topOf (m.offs xs) = 0 := by rw [e0]; rfl
      have := k H' s'
      rw [e] at this
      exact this
    · rw [topOf_is offs_nonneg hv hle]
      exact k H' s'
end
end Nr
set_option Elab.async false
set_option linter.all false
set_option maxRecDepth 100000
set_option maxHeartbeats 4000000
/-! check -/
namespace Nr
open PySem PySem.Spec PyProof.Rows L2
/-- the first who falls or rises wrongly -/
def M.wrong (m : M) (xs : List Int) : Option Nat := (List.range xs.length).find? fun i => m.mnm i (xs.getD i 0)
theorem wrong_head (m : M) (xs : List Int) : (m.whos xs xs.length).head? = m.wrong xs := by
  unfold M.whos M.wrong
  rw [List.head?_filter]
section
variable {P : Program} {w : World} {K : PySem.W.Frag} {mg : Str → Option Value} {base : Heap} {C CNA CNR CCB fI : Addr}
def spCheck (K : PySem.W.Frag) (C CNA CCB : Addr) : Sp := fun vs H Q E => ∃ (a l g : Addr) (m : M) (xs : List Int), vs = [.ref a, .ref g] ∧ TAt C H a l m ∧ m.Fit ∧ SqL K H g (xs.map V.int) ∧
  (¬ xs.Perm (ranks m.more.length) → ∀ H', Same H H' → E (.ref CNA) none H') ∧
  (xs.Perm (ranks m.more.length) → ∀ i, m.wrong xs = some i → ∀ (H' : Hp) (d : Addr), Same H H' → H' d = some (.xd [(("who" : Str), .int (i : Nat))]) → E (.ref CCB) (some d) H') ∧
  (xs.Perm (ranks m.more.length) → m.wrong xs = none → ∀ (H' : Hp) (p : Addr), Same H H' → H p = none → H' p = some (.lst [.int (m.offs xs).sum, .int (topOf (m.offs xs))]) → Q (.ref p) H')
theorem scCheck : FnScope ["self", "new_list", "wrong"] ["self", "new_list"] (defScope sCheck) := ⟨rfl, rfl, rfl, by decide +kernel, rfl, by decide +kernel, by decide +kernel⟩
/-- what the methods that only look promise, together -/
structure Looks (P : Program) (w : World) (K : PySem.W.Frag) (mg : Str → Option Value) (C : Addr) (fE fW fS fT : Addr) (fdE fdW fdS fdT : FuncData) : Prop where
  each : ∀ base : Heap, FnOk P w K mg base CX0 1 fE fdE ["self", "new_list"] (spEach K C)
  bE : Binds K fdE ["self", "new_list"] []
  mE : Meth K C "has_each_rank_once" fE
  who : ∀ base : Heap, FnOk P w K mg base CX0 2 fW fdW ["self", "new_list"] (spWho K C)
  bW : Binds K fdW ["self", "new_list"] []
  mW : Meth K C "who_must_not_move" fW
  sum : ∀ base : Heap, FnOk P w K mg base CX0 3 fS fdS ["self", "new_list"] (spSum K C)
  bS : Binds K fdS ["self", "new_list"] []
  mS : Meth K C "off_together" fS
  most : ∀ base : Heap, FnOk P w K mg base CX0 3 fT fdT ["self", "new_list"] (spMost K C)
  bT : Binds K fdT ["self", "new_list"] []
  mT : Meth K C "off_the_most" fT
theorem ok_check {f fE fW fS fT : Addr} {fd fdE fdW fdS fdT : FuncData} (F : Fun K "check" "Tournament.check" sCheck f fd) (T : Txt K mg C CNA CNR CCB fI) (L : Looks P w K mg C fE fW fS fT fdE fdW fdS fdT) :
    FnOk P w K mg base (L2.CX P w) 4 f fd ["self", "new_list"] (spCheck K C CNA CCB) := by
  refine F.okX scCheck (fun vs H Q E h => ?_) (fun cdv A outer s H vs Q E hr h => ?_)
  · obtain ⟨a, l, g, m, xs, rfl, _⟩ := h
    rfl
  · have hr1 : Room 1 _ := hr.mono (by decide)
    have hr2 : Room 2 _ := hr.mono (by decide)
    refine ⟨_, pss_cons (ps_if (pt_not (pt_val (pe_meth (pv 0) T.cl L.mE (L.each _) hr1 L.bE .nil pass0 (pa_cons (pv 1) pa_nil)))) (pss_one (ps_raise rfl (takes_of rfl rfl rfl rfl) (pmk_none PySem.F.excBase_Exception T.xNA T.gNA T.kNA (raises_own T.bNA T.tNA) (by exact rfl)))) pss_nil)
      (pss_cons (ps_set (i := 2) scCheck.nd rfl (Or.inl rfl) (pe_meth (pv 0) T.cl L.mW (L.who _) hr2 L.bW .nil pass0 (pa_cons (pv 1) pa_nil)))
      (pss_cons (ps_if (pt_truth (pv 2) (by intro _; rfl)) (pss_one (ps_raiseCb rfl T.cb hr (takes_of rfl rfl rfl rfl) (by exact (pa_cons (pe_ix ix_list (pv 2) pe_int (fun _ _ => rfl)) pa_nil)))) pss_nil)
      (pss_one (ps_ret (pe_lst (pa_cons (pe_meth (pv 0) T.cl L.mS (L.sum _) hr L.bS .nil pass0 (pa_cons (pv 1) pa_nil)) (pa_cons (pe_meth (pv 0) T.cl L.mT (L.most _) hr L.bT .nil pass0 (pa_cons (pv 1) pa_nil)) pa_nil))))))), ?_⟩
    obtain ⟨a, l, g, m, xs, rfl, t, fit, hg, kN, kW, kS⟩ := h
    obtain ⟨dx, ha⟩ := t.ins
    refine ⟨_, rfl, a, dx, _, rfl, ha, tf_none _ _ (by decide +kernel) (by decide +kernel), _, rfl, ?_⟩
    refine ⟨a, l, g, m, xs, rfl, t, fit.len, hg, fun H1 s1 => ⟨_, rfl, ?_⟩⟩
    by_cases c : xs.Perm (ranks m.more.length)
    case neg =>
      refine if_true_of (by rw [decide_eq_false c]; rfl) ?_
      exact kN c H1 s1
    refine if_false_of (by rw [decide_eq_true c]; rfl) ?_
    have hn : xs.length = m.more.length := by
      have := c.length_eq
      unfold ranks at this
      rw [List.length_map, List.length_range] at this
      exact this
    have t1 := t.keep s1
    obtain ⟨dx1, ha1⟩ := t1.ins
    refine ⟨_, rfl, a, dx1, _, rfl, ha1, tf_none _ _ (by decide +kernel) (by decide +kernel), _, rfl, ?_⟩
    refine ⟨a, l, g, m, xs, rfl, t1, fit.len, s1.seq hg, Nat.le_of_eq hn, fun H2 p s2 np hp => ?_⟩
    have s12 := s1.trans s2
    have hd := wrong_head m xs
    refine ⟨_, rfl, _, .inl ⟨_, SqL.of hp, rfl⟩, ?_⟩
    cases e : m.whos xs xs.length with
    | cons i r =>
      rw [e] at hd hp
      refine if_true_of rfl ?_
      refine ⟨_, rfl, p, _, _, V.int (i : Nat), rfl, rfl, SqL.of hp, atI_nat (j := 0) (v := V.int (i : Nat)) rfl, ?_⟩
      refine ⟨_, rfl, fun d hd0 => ?_⟩
      refine kW c i hd.symm _ d (fun b o q => ?_) upd_same
      rw [upd_ne (ne_of_none (s12 b o q) hd0)]
      exact s12 b o q
    | nil =>
      rw [e] at hd
      refine if_false_of rfl ?_
      have t2 := t.keep s12
      obtain ⟨dx2, ha2⟩ := t2.ins
      refine ⟨_, rfl, a, dx2, _, rfl, ha2, tf_none _ _ (by decide +kernel) (by decide +kernel), _, rfl, ?_⟩
      refine ⟨a, l, g, m, xs, rfl, t2, fit, s12.seq hg, Nat.le_of_eq hn, fun H3 s3 => ?_⟩
      have s13 := s12.trans s3
      have t3 := t.keep s13
      obtain ⟨dx3, ha3⟩ := t3.ins
      refine ⟨_, rfl, a, dx3, _, rfl, ha3, tf_none _ _ (by decide +kernel) (by decide +kernel), _, rfl, ?_⟩
      refine ⟨a, l, g, m, xs, rfl, t3, fit, s13.seq hg, Nat.le_of_eq hn, fun H4 s4 => ?_⟩
      have s14 := s13.trans s4
      refine ⟨by show 2 ≤ sizeLine; decide, fun q hq => kS c hd.symm _ q (s14.trans (Same.upd hq)) (s14.free hq) upd_same⟩
end
end Nr
set_option Elab.async false
set_option linter.all false
set_option maxRecDepth 100000
set_option maxHeartbeats 4000000
/-! nearest; lists in a list -/
namespace Nr
open PySem PySem.Spec PyProof.Rows L2
/-- at p: a list of lists of whole numbers, they at ts -/
structure ListsAt (H : Hp) (p : Addr) (L : List (List Nat)) (ts : List Addr) : Prop where
  lst : H p = some (.lst (ts.map V.ref))
  len : ts.length = L.length
  each : ∀ (i : Nat) (x : List Nat), L[i]? = some x → ∃ t, ts[i]? = some t ∧ t ≠ p ∧ H t = some (.lst (vN x))
theorem ListsAt.keep {H H' : Hp} {p : Addr} {L : List (List Nat)} {ts : List Addr} (a : ListsAt H p L ts) (s : Same H H') : ListsAt H' p L ts :=
  ⟨s _ _ a.lst, a.len, fun i x e => by
    obtain ⟨t, e1, e2, e3⟩ := a.each i x e
    exact ⟨t, e1, e2, s _ _ e3⟩⟩
theorem ListsAt.push {H H' : Hp} {p q : Addr} {L : List (List Nat)} {ts : List Addr} {y : List Nat} (a : ListsAt H p L ts) (s : Same H H') (hq : H' q = some (.lst (vN y))) (ne : q ≠ p) :
    ListsAt (upd H' p (.lst (ts.map V.ref ++ [V.ref q]))) p (L ++ [y]) (ts ++ [q]) := by
  refine ⟨?_, ?_, fun i x e => ?_⟩
  · rw [upd_same, List.map_append]
    rfl
  · rw [List.length_append, List.length_append, a.len]
    rfl
  · rcases Nat.lt_or_ge i L.length with h | h
    · rw [List.getElem?_append_left h] at e
      obtain ⟨t, e1, e2, e3⟩ := a.each i x e
      exact ⟨t, by rw [List.getElem?_append_left (by rw [a.len]; exact h)]; exact e1, e2, (upd_ne e2).trans (s _ _ e3)⟩
    · rw [List.getElem?_append_right h] at e
      have h0 : i - L.length = 0 := by
        have := (List.getElem?_eq_some_iff.mp e).1
        have : i - L.length < 1 := this
        omega
      rw [h0] at e
      have ex : y = x := Option.some.inj e
      subst ex
      refine ⟨q, ?_, ne, (upd_ne ne).trans hq⟩
      rw [List.getElem?_append_right (by rw [a.len]; exact h), a.len, h0]
      rfl
theorem first_at : ∀ (fs : List Int) (v : Int), v ∈ fs → ∃ i : Nat, fs[i]? = some v ∧ ∀ j : Nat, j < i → fs[j]? ≠ some v
  | [], v, h => by cases h
  | y :: fs, v, h => by
    by_cases c : y = v
    · subst c
      exact ⟨0, rfl, fun j hj => absurd hj (Nat.not_lt_zero _)⟩
    · have h' : v ∈ fs := by
        rcases List.mem_cons.mp h with e | h
        · exact absurd e.symm c
        · exact h
      obtain ⟨i, h1, h2⟩ := first_at fs v h'
      refine ⟨i + 1, h1, fun j hj => ?_⟩
      cases j with
      | zero => exact fun e => c (Option.some.inj e)
      | succ j => exact h2 j (by omega)
theorem flat_ints : ∀ fs : List Int, (fs.map V.int).all flatV = true
  | [] => rfl
  | y :: fs => by
    rw [List.map_cons, List.all_cons, flat_ints fs]
    rfl
theorem eqV_ne {a b : Int} (h : a ≠ b) : eqV (V.int a) (V.int b) = false := beq_eq_false_iff_ne.mpr h
theorem eqV_same (a : Int) : eqV (V.int a) (V.int a) = true := beq_self_eq_true a
/-- what list.index asks of whole numbers -/
theorem index_at {fs : List Int} {v : Int} {i : Nat} (h : fs[i]? = some v) : (fs.map V.int)[i]? = some (V.int v) := by
  rw [List.getElem?_map, h]
  rfl
theorem index_no {fs : List Int} {v : Int} {i : Nat} (hb : ∀ j : Nat, j < i → fs[j]? ≠ some v) : ∀ (m : Nat) (z' : V), m < i → (fs.map V.int)[m]? = some z' → eqV z' (V.int v) = false := fun m z' hm e => by
  obtain ⟨z, hz, rfl⟩ := map_at e
  refine eqV_ne fun ez => hb m hm ?_
  rw [hz, ez]
section
variable {P : Program} {w : World} {K : PySem.W.Frag} {mg : Str → Option Value} {base : Heap} {C CNA CNR CCB fI : Addr}
def spNearest : Sp := fun vs H Q _ => ∃ (p q : Addr) (L : List (List Nat)) (ts : List Addr) (fs : List Int), vs = [.ref p, .ref q] ∧ ListsAt H p L ts ∧ H q = some (.lst (fs.map V.int)) ∧ fs.length = L.length ∧ 0 < fs.length ∧ (∀ x ∈ L, x.length ≤ 6) ∧
  ∀ (least : Int) (i : Nat) (x : List Nat), (∀ y ∈ fs, least ≤ y) → fs[i]? = some least → (∀ j, j < i → fs[j]? ≠ some least) → L[i]? = some x →
    ∀ (H' : Hp) (z : Addr), Same H H' → H z = none → H' z = some (.lst (V.int least :: V.int (fs.count least : Nat) :: vN x)) → Q (.ref z) H'
theorem scNearest : FnScope ["lists", "how_far", "least"] ["lists", "how_far"] (defScope sNearest) := ⟨rfl, rfl, rfl, by decide +kernel, rfl, by decide +kernel, by decide +kernel⟩
theorem ok_nearest {f : Addr} {fd : FuncData} (F : Fun K "nearest" "nearest" sNearest f fd) (T : Txt K mg C CNA CNR CCB fI) : FnOk P w K mg base CX0 1 f fd ["lists", "how_far"] spNearest := by
  refine F.ok scNearest (fun vs H Q E h => ?_) (fun cdv A outer s H vs Q E hr h => ?_)
  · obtain ⟨p, q, L, ts, fs, rfl, _⟩ := h
    rfl
  · refine ⟨_, pss_cons (ps_set (i := 2) scNearest.nd rfl (Or.inl rfl) (pe_callB (cr_min rfl) (by rfl) T.min (by decide +kernel) (pa_cons (pv 1) pa_nil)))
      (pss_one (ps_ret (pe_op op_cat
        (pe_lst (pa_cons (pv 2) (pa_cons (pe_bm PySem.F.plainAttrs_list PySem.F.slot_list_count PySem.F.type_list_count mt_lcount (pv 1) (pa_cons (pv 2) pa_nil)) pa_nil)))
        (pe_ix ix_list (pv 0) (pe_bm PySem.F.plainAttrs_list PySem.F.slot_list_index PySem.F.type_list_index mt_index (pv 1) (pa_cons (pv 2) pa_nil)) (fun _ _ => rfl))))), ?_⟩
    obtain ⟨p, q, L, ts, fs, rfl, hL, hq, hlen, hpos, h6, k⟩ := h
    refine ⟨_, rfl, q, fs, rfl, SqL.of hq, hpos, fun least hm hle => ?_⟩
    obtain ⟨i, hi, hb⟩ := first_at fs least hm
    have hiL : i < L.length := by
      have := (List.getElem?_eq_some_iff.mp hi).1
      omega
    obtain ⟨t, ht, htp, hx⟩ := hL.each i L[i] (List.getElem?_eq_getElem hiL)
    refine ⟨_, rfl, _, rfl, .inl ⟨rfl, _, SqL.of hq⟩, _, rfl, q, fs, least, rfl, rfl, SqL.of hq, by show 2 ≤ sizeLine; decide, fun d hd => ?_⟩
    have s1 : Same H (upd H d (.lst [V.int least, V.int (fs.count least : Nat)])) := Same.upd hd
    refine ⟨_, rfl, _, rfl, .inl ⟨rfl, _, SqL.of (s1 _ _ hq)⟩, _, rfl, q, _, _, i, V.int least, rfl, rfl, SqL.of (s1 _ _ hq), rfl, flat_ints fs, index_at hi, eqV_same least, index_no hb, ?_⟩
    have hit : (ts.map V.ref)[i]? = some (V.ref t) := by rw [List.getElem?_map, ht]; rfl
    refine ⟨p, _, _, _, rfl, rfl, SqL.of (s1 _ _ hL.lst), atI_nat hit, ?_⟩
    have hl6 := h6 L[i] (List.getElem_mem hiL)
    refine ⟨d, t, _, _, rfl, rfl, upd_same, s1 _ _ hx, ?_, fun z hz => ?_⟩
    · rw [vN_length]
      show 2 + _ ≤ sizeLine
      exact Nat.le_of_lt (small1000 (by omega))
    · exact k least i L[i] hle hi hb (List.getElem?_eq_getElem hiL) _ z (s1.trans (Same.upd hz)) (s1.free hz) upd_same
end
end Nr
set_option Elab.async false
set_option linter.all false
set_option maxRecDepth 100000
set_option maxHeartbeats 4000000
/-! lists_with_one_more, lists_that_can_be -/
namespace Nr
open PySem PySem.Spec PyProof.Rows L2
/-- may the wrestler of the old rank i have the rank x? -/
def M.ok (m : M) (i x : Nat) : Bool := !m.mnm i ((x : Nat) : Int)
/-- the first j ranks behind a begun list -/
def moreTo (ok : Nat → Bool) (b : List Nat) (j : Nat) : List (List Nat) := ((List.range j).filter fun x => !b.contains x && ok x).map fun x => b ++ [x]
theorem moreTo_succ (ok : Nat → Bool) (b : List Nat) (j : Nat) : moreTo ok b (j + 1) = moreTo ok b j ++ (if (!b.contains j && ok j) = true then [b ++ [j]] else []) := by
  unfold moreTo
  rw [List.range_succ, List.filter_append, List.map_append]
  cases e : (!b.contains j && ok j) with
  | true => rw [if_pos rfl, List.filter_cons_of_pos (p := fun x => !b.contains x && ok x) (a := j) (l := []) e]; rfl
  | false => rw [if_neg Bool.false_ne_true, List.filter_cons_of_neg (p := fun x => !b.contains x && ok x) (a := j) (l := []) (by rw [e]; exact Bool.false_ne_true)]; rfl
theorem moreTo_length (ok : Nat → Bool) (b : List Nat) (j : Nat) : (moreTo ok b j).length ≤ j := by
  unfold moreTo
  rw [List.length_map]
  refine Nat.le_trans (List.length_filter_le _ _) ?_
  rw [List.length_range]
  exact Nat.le_refl _
theorem moreAll_take {n : Nat} {ok : Nat → Bool} {L : List (List Nat)} {i : Nat} {x : List Nat} (h : L[i]? = some x) : moreAll n ok (L.take (i + 1)) = moreAll n ok (L.take i) ++ moreTo ok x n := by
  unfold moreAll
  rw [take_one h, List.flatMap_append]
  show _ ++ (more1 n ok x ++ []) = _
  rw [List.append_nil]
  rfl
theorem inV_vN (x : Nat) : ∀ b : List Nat, inV (V.int (x : Nat)) (vN b) = b.contains x
  | [] => rfl
  | y :: b => by
    show (eqV (V.int (y : Nat)) (V.int (x : Nat)) || inV (V.int (x : Nat)) (vN b)) = _
    rw [inV_vN x b, List.contains_cons]
    have e : eqV (V.int (y : Nat)) (V.int (x : Nat)) = (x == y) := by
      show (((y : Nat) : Int) == ((x : Nat) : Int)) = (x == y)
      by_cases c : x = y
      · subst c
        rw [beq_self_eq_true, beq_self_eq_true]
      · rw [beq_eq_false_iff_ne.mpr c, beq_eq_false_iff_ne.mpr (fun e => c (by omega))]
    rw [e]
theorem ints_line {n : Nat} (h : n ≤ 1000000) : n < sizeLine := by
  rw [sizeLine_eq]
  omega
section
variable {P : Program} {w : World} {K : PySem.W.Frag} {mg : Str → Option Value} {base : Heap} {C CNA CNR CCB fI : Addr}
def spMore (K : PySem.W.Frag) (C : Addr) : Sp := fun vs H Q _ => ∃ (a l p : Addr) (m : M) (k : Nat) (L : List (List Nat)) (ts : List Addr), vs = [.ref a, .ref p, .int (k : Nat)] ∧ TAt C H a l m ∧ m.more.length ≤ 6 ∧ k < m.more.length ∧ ListsAt H p L ts ∧ (∀ x ∈ L, x.length ≤ 6) ∧ L.length ≤ 46656 ∧
  ∀ (H' : Hp) (z : Addr) (us : List Addr), Same H H' → H z = none → ListsAt H' z (moreAll m.more.length (m.ok k) L) us → Q (.ref z) H'
theorem scMore : FnScope ["self", "lists", "old", "longer", "begun", "new"] ["self", "lists", "old"] (defScope sMore) := ⟨rfl, rfl, rfl, by decide +kernel, rfl, by decide +kernel, by decide +kernel⟩
theorem ok_more {f fM : Addr} {fd fdM : FuncData} (F : Fun K "lists_with_one_more" "Tournament.lists_with_one_more" sMore f fd) (T : Txt K mg C CNA CNR CCB fI) (FM : Fun K "must_not_move" "Tournament.must_not_move" sMnm fM fdM) (bM : Binds K fdM ["self", "old", "new"] []) (mM : Meth K C "must_not_move" fM) :
    FnOk P w K mg base CX0 2 f fd ["self", "lists", "old"] (spMore K C) := by
  have GM : FnOk P w K mg base CX0 1 fM fdM ["self", "old", "new"] (spMnm C) := ok_mnm FM T
  refine F.ok scMore (fun vs H Q E h => ?_) (fun cdv A outer s H vs Q E hr h => ?_)
  · obtain ⟨a, l, p, m, k, L, ts, rfl, _⟩ := h
    rfl
  · refine ⟨_, pss_cons (ps_set (i := 3) scMore.nd rfl (Or.inl rfl) (pe_lst pa_nil))
      (pss_cons (ps_for PassesOwn.never rfl (pi_list (pv 1)) (pg_name (i := 4) scMore.nd rfl (Or.inl rfl))
        (pss_one (ps_for PassesOwn.never rfl (pi_range1 rfl T.range (pa_cons (pe_callB call_len_seq (by rfl) T.len PySem.boot_len (pa_cons (pe_fld (pv 0) rfl) pa_nil)) pa_nil)) (pg_name (i := 5) scMore.nd rfl (Or.inl rfl))
          (pss_one (ps_if (PW.pt (pw_and (pt_cmpR op_notIn_seq (pv 5) (pv 4) (by rfl)) (pw_and1 (pt_not (pt_val (pe_meth (pv 0) T.cl mM GM hr bM .nil pass0 (pa_cons (pv 2) (pa_cons (pv 5) pa_nil))))))))
            (pss_one (ps_expr (pe_bm PySem.F.plainAttrs_list PySem.F.slot_list_append PySem.F.type_list_append mt_append (pv 3) (pa_cons (pe_op op_cat (pv 4) (pe_lst (pa_cons (pv 5) pa_nil))) pa_nil)))) pss_nil)))))
      (pss_one (ps_ret (pv 3)))), ?_⟩
    obtain ⟨a, l, p, m, k, L, ts, rfl, t, h6, hk, hL, hx6, hbig, kk⟩ := h
    refine ⟨by show 0 ≤ sizeLine; exact Nat.zero_le _, fun z hz => ?_⟩
    refine ⟨_, rfl, p, rfl, ⟨_, SqL.of ((Same.upd hz) _ _ hL.lst)⟩, ?_⟩
    have n6 := h6
    refine for_it (walk_list (K := K) (a := p) (xs := ts.map V.ref)) (fun i σ H' => ∃ (u v : Option V) (us : List Addr), σ = [some (.ref a), some (.ref p), some (.int (k : Nat)), some (.ref z), u, v] ∧ Same H H' ∧ ListsAt H' z (moreAll m.more.length (m.ok k) (L.take i)) us)
      ⟨none, none, [], rfl, Same.upd hz, upd_same, rfl, fun i x e => by simp [moreAll] at e⟩ (fun i σ H' _ iv => ?_) ?_ ?_
    · obtain ⟨_, _, _, _, s', _⟩ := iv
      exact SqL.of (s' _ _ hL.lst)
    · rintro i y σ H1 H2 hi ⟨u, v, us, rfl, s1, z1⟩ ⟨rfl, hy⟩
      rw [List.length_map, hL.len] at hi
      obtain ⟨t1, ht1, _, hx⟩ := hL.each i L[i] (List.getElem?_eq_getElem hi)
      have ey : y = V.ref t1 := by
        rw [List.getElem?_map, ht1] at hy
        exact (Option.some.inj hy).symm
      subst ey
      have len : (m.more.map V.int).length = m.more.length := List.length_map _
      have t2 := t.keep s1
      obtain ⟨dx2, ha2⟩ := t2.ins
      have b1 := moreAll_length m.more.length (m.ok k) (L.take i)
      have b2 : (L.take i).length ≤ 46656 := Nat.le_trans (List.length_take_le' i L) hbig
      refine ⟨_, rfl, a, C, dx2, _, _, rfl, ha2, T.cl, T.nM, tf_more _ _, l, _, rfl, .inl (SqL.of t2.lst), _, rfl, by rw [len]; omega, by rw [len]; omega, ?_⟩
      have en : ((m.more.map V.int).length : Int).toNat = m.more.length := by rw [len]; omega
      rw [en]
      refine for_it (walk_range (lo := 0) (n := m.more.length)) (fun j σ H' => ∃ (v : Option V) (us : List Addr), σ = [some (.ref a), some (.ref p), some (.int (k : Nat)), some (.ref z), some (.ref t1), v] ∧ Same H H' ∧ ListsAt H' z (moreAll m.more.length (m.ok k) (L.take i) ++ moreTo (m.ok k) L[i] j) us)
        ⟨v, us, rfl, s1, by rw [show moreTo (m.ok k) L[i] 0 = [] from rfl, List.append_nil]; exact z1⟩ (fun _ _ _ _ _ => trivial) ?_ ?_
      · rintro j y σ H3 H4 hj ⟨v3, us3, rfl, s3, z3⟩ ⟨rfl, ey⟩
        have ey' : y = V.int (j : Nat) := ey.trans (congrArg V.int (Int.zero_add _))
        subst ey'
        have t3 := t.keep s3
        obtain ⟨dx3, ha3⟩ := t3.ins
        have hx3 := s3 _ _ hx
        have st := moreTo_succ (m.ok k) L[i] j
        have b3 := moreTo_length (m.ok k) L[i] j
        have b4 := Nat.mul_le_mul b2 h6
        have hl6 := hx6 L[i] (List.getElem_mem hi)
        refine ⟨_, rfl, _, rfl, t1, vN L[i], rfl, .inl (SqL.of hx3), rfl, flat_ints _, _, rfl, ?_⟩
        have ein : (if true = true then !inV (V.int (j : Nat)) (vN L[i]) else inV (V.int (j : Nat)) (vN L[i])) = !L[i].contains j := by rw [if_pos rfl, inV_vN]
        cases ec : L[i].contains j with
        | true =>
          rw [ec] at ein st
          rw [if_neg (by simp), List.append_nil] at st
          refine if_false_of ein (if_false_of rfl ⟨_, us3, rfl, s3, ?_⟩)
          rw [st]
          exact z3
        | false =>
          rw [ec] at ein st
          refine if_true_of ein ?_
          refine ⟨_, rfl, a, dx3, _, rfl, ha3, tf_none _ _ (by decide +kernel) (by decide +kernel), _, rfl, _, rfl, a, l, m, k, ((j : Nat) : Int), rfl, t3, hk, _, rfl, ?_⟩
          cases em : m.mnm k ((j : Nat) : Int) with
          | true =>
            have eo : m.ok k j = false := by unfold M.ok; rw [em]; rfl
            rw [eo, if_neg (by simp), List.append_nil] at st
            refine if_false_of rfl ⟨_, us3, rfl, s3, ?_⟩
            rw [st]
            exact z3
          | false =>
            have eo : m.ok k j = true := by unfold M.ok; rw [em]; rfl
            rw [eo, if_pos (by decide)] at st
            refine if_true_of rfl ?_
            refine ⟨_, rfl, .inl ⟨rfl, _, SqL.of z3.lst⟩, _, rfl, _, rfl, by show 1 ≤ sizeLine; decide, fun q1 hq1 => ?_⟩
            have s4 := Same.upd (o := HO.lst [V.int (j : Nat)]) hq1
            refine ⟨t1, q1, _, _, rfl, rfl, s4 _ _ hx3, upd_same, ?_, fun q2 hq2 => ?_⟩
            · rw [vN_length]
              show _ + 1 ≤ sizeLine
              exact Nat.le_of_lt (small1000 (by omega))
            have s5 := s4.trans (Same.upd (o := .lst (vN L[i] ++ [V.int (j : Nat)])) hq2)
            have hq2z : q2 ≠ z := fun e => by
              have hz3 := s4 _ _ z3.lst
              rw [e, hz3] at hq2
              cases hq2
            have hv : vN L[i] ++ [V.int (j : Nat)] = vN (L[i] ++ [j]) := by rw [vN_app]; rfl
            refine ⟨z, _, _, rfl, rfl, s5 _ _ z3.lst, ?_, _, us3 ++ [q2], rfl, fun b o e => ?_, ?_⟩
            · have e1 := z3.len
              rw [List.length_append] at e1
              rw [List.length_map, e1]
              exact ints_line (by omega)
            · rw [upd_ne (ne_of_none e hz)]
              exact s5 b o (s3 b o e)
            · rw [st, ← List.append_assoc]
              exact z3.push s5 (by rw [← hv]; exact upd_same) hq2z
      · rintro σ H3 ⟨v3, us3, rfl, s3, z3⟩
        refine ⟨_, _, us3, rfl, s3, ?_⟩
        rw [moreAll_take (List.getElem?_eq_getElem hi)]
        exact z3
    · rintro σ H1 ⟨u, v, us, rfl, s1, z1⟩
      rw [List.length_map, hL.len, List.take_length] at z1
      exact ⟨_, rfl, kk H1 z us s1 hz z1⟩
/-! ### lists_that_can_be -/
/-- every list that can be -/
def M.all (m : M) : List (List Nat) := grow m.more.length m.ok m.more.length
theorem grow_lens {n : Nat} {ok : Nat → Nat → Bool} {k : Nat} (hk : k ≤ 6) : ∀ x ∈ grow n ok k, x.length ≤ 6 := fun x hx => by
  have := ((mem_grow n ok k x).mp hx).1
  omega
def spLists (K : PySem.W.Frag) (C : Addr) : Sp := fun vs H Q _ => ∃ (a l : Addr) (m : M), vs = [.ref a] ∧ TAt C H a l m ∧ m.more.length ≤ 6 ∧
  ∀ (H' : Hp) (z : Addr) (us : List Addr), Same H H' → H z = none → ListsAt H' z m.all us → Q (.ref z) H'
theorem scLists : FnScope ["self", "lists", "old"] ["self"] (defScope sLists) := ⟨rfl, rfl, rfl, by decide +kernel, rfl, by decide +kernel, by decide +kernel⟩
theorem ok_lists {f fO fM : Addr} {fd fdO fdM : FuncData} (F : Fun K "lists_that_can_be" "Tournament.lists_that_can_be" sLists f fd) (T : Txt K mg C CNA CNR CCB fI)
    (FO : Fun K "lists_with_one_more" "Tournament.lists_with_one_more" sMore fO fdO) (bO : Binds K fdO ["self", "lists", "old"] []) (mO : Meth K C "lists_with_one_more" fO)
    (FM : Fun K "must_not_move" "Tournament.must_not_move" sMnm fM fdM) (bM : Binds K fdM ["self", "old", "new"] []) (mM : Meth K C "must_not_move" fM) :
    FnOk P w K mg base CX0 3 f fd ["self"] (spLists K C) := by
  have GO : FnOk P w K mg base CX0 2 fO fdO ["self", "lists", "old"] (spMore K C) := ok_more FO T FM bM mM
  refine F.ok scLists (fun vs H Q E h => ?_) (fun cdv A outer s H vs Q E hr h => ?_)
  · obtain ⟨a, l, m, rfl, _⟩ := h
    rfl
  · refine ⟨_, pss_cons (ps_set (i := 1) scLists.nd rfl (Or.inl rfl) (pe_lst (pa_cons (pe_lst pa_nil) pa_nil)))
      (pss_cons (ps_for PassesOwn.never rfl (pi_range1 rfl T.range (pa_cons (pe_callB call_len_seq (by rfl) T.len PySem.boot_len (pa_cons (pe_fld (pv 0) rfl) pa_nil)) pa_nil)) (pg_name (i := 2) scLists.nd rfl (Or.inl rfl))
        (pss_one (ps_set (i := 1) scLists.nd rfl (Or.inl rfl) (pe_meth (pv 0) T.cl mO GO hr bO .nil pass0 (pa_cons (pv 1) (pa_cons (pv 2) pa_nil))))))
      (pss_one (ps_ret (pv 1)))), ?_⟩
    obtain ⟨a, l, m, rfl, t, h6, kk⟩ := h
    refine ⟨by show 0 ≤ sizeLine; exact Nat.zero_le _, fun q hq => ⟨by show 1 ≤ sizeLine; decide, fun z hz => ?_⟩⟩
    have s1 : Same H (upd (upd H q (.lst [])) z (.lst [V.ref q])) := (Same.upd hq).trans (Same.upd hz)
    have hz0 : H z = none := (Same.upd hq).free hz
    have qz : q ≠ z := ne_of_none upd_same hz
    have t1 := t.keep s1
    obtain ⟨dx1, ha1⟩ := t1.ins
    have len : (m.more.map V.int).length = m.more.length := List.length_map _
    refine ⟨_, rfl, a, C, dx1, _, _, rfl, ha1, T.cl, T.nM, tf_more _ _, l, _, rfl, .inl (SqL.of t1.lst), _, rfl, by rw [len]; omega, by rw [len]; omega, ?_⟩
    have en : ((m.more.map V.int).length : Int).toNat = m.more.length := by rw [len]; omega
    rw [en]
    refine for_it (walk_range (lo := 0) (n := m.more.length)) (fun k σ H' => ∃ (p : Addr) (v : Option V) (ts : List Addr), σ = [some (.ref a), some (.ref p), v] ∧ Same H H' ∧ H p = none ∧ ListsAt H' p (grow m.more.length m.ok k) ts)
      ⟨z, none, [q], rfl, s1, hz0, upd_same, rfl, fun i x e => ?_⟩ (fun _ _ _ _ _ => trivial) ?_ ?_
    · cases i with
      | zero =>
        have ex : [] = x := Option.some.inj e
        subst ex
        exact ⟨q, rfl, qz, (upd_ne qz).trans upd_same⟩
      | succ i => exact absurd (List.getElem?_eq_some_iff.mp e).1 (by show ¬ i + 1 < 1; omega)
    · rintro k y σ H3 H4 hk ⟨p, v, ts, rfl, s3, hp, L3⟩ ⟨rfl, ey⟩
      have ey' : y = V.int (k : Nat) := ey.trans (congrArg V.int (Int.zero_add _))
      subst ey'
      have t3 := t.keep s3
      obtain ⟨dx3, ha3⟩ := t3.ins
      refine ⟨_, rfl, a, dx3, _, rfl, ha3, tf_none _ _ (by decide +kernel) (by decide +kernel), _, rfl, _, rfl, ?_⟩
      refine ⟨a, l, p, m, k, _, ts, rfl, t3, h6, hk, L3, grow_lens (by omega), grow_small h6 (by omega), fun H5 z5 us s5 hz5 L5 => ?_⟩
      exact ⟨z5, _, us, rfl, s3.trans s5, s3.free hz5, L5⟩
    · rintro σ H3 ⟨p, v, ts, rfl, s3, hp, L3⟩
      exact ⟨_, rfl, kk H3 p ts s3 hp L3⟩
end
end Nr
set_option Elab.async false
set_option linter.all false
set_option maxRecDepth 100000
set_option maxHeartbeats 4000000
/-! by_earned_alone -/
namespace Nr
open PySem PySem.Spec PyProof.Rows L2
/-- the wrestlers in the old order, each with what's earned -/
def M.byOld (m : M) : List (Int × Int) := (List.range m.more.length).map fun (i : Nat) => (m.earned i, (i : Int))
/-- whose turn it is -/
def whoseOf (ps : List (Int × Int)) : List Nat := ps.map fun p => p.2.toNat
/-- each one's place among them -/
def placesOf (n : Nat) (ps : List (Int × Int)) : List Nat := (List.range n).map fun i => (whoseOf ps).findIdx fun x => x == i
theorem placesOf_length (n : Nat) (ps : List (Int × Int)) : (placesOf n ps).length = n := by
  unfold placesOf
  rw [List.length_map, List.length_range]
theorem zip_old (m : M) : ((ranks m.more.length).map fun z => m.earned z.toNat).zip (ranks m.more.length) = m.byOld := by
  unfold ranks M.byOld
  rw [List.map_map, List.zip_map', ]
  rfl
theorem whose_zs {m : M} {ps : List (Int × Int)} (p : ps.Perm m.byOld) : ps.map (fun p => V.int p.2) = vN (whoseOf ps) := by
  unfold vN zs whoseOf
  rw [List.map_map, List.map_map]
  refine List.map_congr_left fun x hx => ?_
  obtain ⟨i, _, e⟩ := List.mem_map.mp (p.mem_iff.mp hx)
  rw [← e]
  rfl
theorem whose_has {m : M} {ps : List (Int × Int)} (p : ps.Perm m.byOld) {i : Nat} (hi : i < m.more.length) : i ∈ whoseOf ps := by
  refine List.mem_map.mpr ⟨(m.earned i, (i : Int)), p.mem_iff.mpr (List.mem_map.mpr ⟨i, List.mem_range.mpr hi, rfl⟩), rfl⟩
theorem find_here {o : List Nat} {i : Nat} (h : i ∈ o) : (zs o)[o.findIdx fun x => x == i]? = some (i : Int) ∧ ∀ j : Nat, j < (o.findIdx fun x => x == i) → (zs o)[j]? ≠ some (i : Int) := by
  have hlt : (o.findIdx fun x => x == i) < o.length := List.findIdx_lt_length_of_exists ⟨i, h, beq_self_eq_true i⟩
  have he : (o[o.findIdx fun x => x == i] == i) = true := List.findIdx_getElem (p := fun x => x == i) (w := hlt)
  refine ⟨?_, fun j hj => ?_⟩
  · unfold zs
    rw [List.getElem?_map, List.getElem?_eq_getElem hlt, beq_iff_eq.mp he]
    rfl
  · have hjl : j < o.length := by omega
    have hn := List.not_of_lt_findIdx (p := fun x => x == i) hj
    unfold zs
    rw [List.getElem?_map, List.getElem?_eq_getElem hjl]
    intro e
    have e' : ((o[j] : Nat) : Int) = (i : Int) := Option.some.inj e
    have e2 : o[j] = i := by omega
    rw [e2, beq_self_eq_true] at hn
    cases hn
section
variable {P : Program} {w : World} {K : PySem.W.Frag} {mg : Str → Option Value} {base : Heap} {C CNA CNR CCB fI : Addr}
def spBy (C : Addr) : Sp := fun vs H Q _ => ∃ (a l : Addr) (m : M), vs = [.ref a] ∧ TAt C H a l m ∧ m.Fit ∧
  ∀ (ps : List (Int × Int)) (H' : Hp) (z : Addr), SrtO.Srtd NrS.ltK ps → SrtO.Stb NrS.ltK ps m.byOld → Same H H' → H z = none → H' z = some (.lst (vN (placesOf m.more.length ps))) → Q (.ref z) H'
theorem scBy : FnScope ["self", "highest_first", "old"] ["self"] (defScope sBy) := ⟨rfl, rfl, rfl, by decide +kernel, rfl, by decide +kernel, by decide +kernel⟩
theorem ok_by {f fE : Addr} {fd fdE : FuncData} (F : Fun K "by_earned_alone" "Tournament.by_earned_alone" sBy f fd) (T : Txt K mg C CNA CNR CCB fI) (FE : Fun K "earned" "Tournament.earned" sEarned fE fdE) (bE : Binds K fdE ["self", "old"] []) (mE : BMeth K C "earned" fE) :
    FnOk P w K mg base CX0 4 f fd ["self"] (spBy C) := by
  have GE : FnOk P w K mg base CX0 1 fE fdE ["self", "old"] (spEarned C) := ok_earned FE T
  refine F.ok scBy (fun vs H Q E h => ?_) (fun cdv A outer s H vs Q E hr h => ?_)
  · obtain ⟨a, l, m, rfl, _⟩ := h
    rfl
  · refine ⟨_, pss_cons (ps_set (i := 1) scBy.nd rfl (Or.inr rfl) (pe_callBK (NrS.cr_sortK (g := fE) rfl) (by rfl) T.sorted (by decide +kernel)
        (pa_cons (pe_callTy NrS.cr_range1 (by rfl) T.range (by decide +kernel) (pa_cons (pe_callB call_len_seq (by rfl) T.len PySem.boot_len (pa_cons (pe_fld (pv 0) rfl) pa_nil)) pa_nil)) pa_nil) (pk_cons (NrS.pe_bound (pv 0) T.cl mE) pk_nil)))
      (pss_one (ps_ret (pe_lc (own := [("old", 2)]) (g := gName 2) (tt := tYes) (te := tBM K "list" (rIndex K) (tVar 1) (tCons (tVar 2) tNil)) rfl scBy.nd (pi_range1 rfl T.range (pa_cons (pe_callB call_len_seq (by rfl) T.len PySem.boot_len (pa_cons (pe_fld (pv 0) rfl) pa_nil)) pa_nil)) (blkOk_by (N := ["self", "highest_first", "old"]) (sc := defScope sBy) (by decide +kernel))
        (fun _ _ _ _ _ => pg_name (i := 2) scBy.nd rfl (Or.inl rfl)) (fun _ _ _ _ _ => pts_nil)
        (fun _ _ _ _ _ => by exact pe_bm PySem.F.plainAttrs_list PySem.F.slot_list_index PySem.F.type_list_index mt_index (pv 1) (pa_cons (pv 2) pa_nil))))), ?_⟩
    obtain ⟨a, l, m, rfl, t, fit, kk⟩ := h
    obtain ⟨dx, ha⟩ := t.ins
    have len : (m.more.map V.int).length = m.more.length := List.length_map _
    have h6 := fit.len
    refine ⟨_, rfl, a, C, dx, _, _, rfl, ha, T.cl, T.nM, tf_more _ _, l, _, rfl, .inl (SqL.of t.lst), _, rfl, fun r hr0 => ?_⟩
    have s1 : Same H (upd H r (.rng 0 (((m.more.map V.int).length : Nat) : Int))) := Same.upd hr0
    have t1 := t.keep s1
    obtain ⟨dx1, ha1⟩ := t1.ins
    refine ⟨_, rfl, a, dx1, _, rfl, ha1, tf_none _ _ (by decide +kernel) (by decide +kernel), fun q hq0 => ?_⟩
    have s2 := s1.trans (Same.upd (o := .met fE a) hq0)
    have hrq : r ≠ q := ne_of_none upd_same hq0
    refine ⟨r, q, a, _, ranks m.more.length, fun z => m.earned z.toNat, rfl, rfl, (upd_ne hrq).trans upd_same, RgOk.of_le (by omega) (by rw [len]; omega) (by omega) (by omega), ?_, upd_same, ?_, ?_⟩
    · rw [len]
      exact rgV_ranks _
    · refine NrS.keyDef_of (GE) (Room.in1 (Room.in1 hr)) rfl bE fun n hn H1 Q1 sm q1 => ?_
      unfold ranks at hn
      obtain ⟨i, hi, rfl⟩ := List.mem_map.mp hn
      exact ⟨a, l, m, i, rfl, t.keep (s2.trans sm), fit, List.mem_range.mp hi, q1⟩
    · intro ps H3 p s3 hp0 hp srt stb
      rw [zip_old] at stb
      have s13 := s2.trans s3
      have hps := whose_zs stb.perm
      have t3 := t.keep s13
      obtain ⟨dx3, ha3⟩ := t3.ins
      refine ⟨_, rfl, a, C, dx3, _, _, rfl, ha3, T.cl, T.nM, tf_more _ _, l, _, rfl, .inl (SqL.of t3.lst), _, rfl, by rw [len]; omega, by rw [len]; omega, ?_⟩
      have en : ((m.more.map V.int).length : Int).toNat = m.more.length := by rw [len]; omega
      rw [en]
      intro D hD
      rw [hps] at hp
      refine lc_it (walk_range (lo := 0) (n := m.more.length)) (fun i H' => Same H3 H' ∧ H' D = some (.lst (vN ((placesOf m.more.length ps).take i)))) ⟨Same.upd hD, upd_same⟩ (fun _ _ _ _ => trivial) ?_ ?_
      · rintro i y H4 H5 hi ⟨s4, d4⟩ ⟨rfl, ey⟩
        have ey' : y = V.int (i : Nat) := ey.trans (congrArg V.int (Int.zero_add _))
        subst ey'
        obtain ⟨f1, f2⟩ := find_here (whose_has stb.perm hi)
        refine ⟨rfl, ?_⟩
        refine ⟨_, rfl, .inl ⟨rfl, _, SqL.of (s4 _ _ hp)⟩, _, rfl, p, _, _, _, V.int (i : Nat), rfl, rfl, SqL.of (s4 _ _ hp), rfl, flat_ints _, index_at f1, eqV_same _, index_no f2, ?_⟩
        have tl : ((placesOf m.more.length ps).take i).length ≤ (placesOf m.more.length ps).length := List.length_take_le' i _
        rw [placesOf_length] at tl
        refine ⟨_, d4, by rw [vN_length]; exact small1000 (by omega), fun b o e => ?_, ?_⟩
        · rw [upd_ne (ne_of_none e hD)]
          exact s4 b o e
        · refine upd_same.trans ?_
          have pi : (placesOf m.more.length ps)[i]? = some ((whoseOf ps).findIdx fun x => x == i) := by
            unfold placesOf
            rw [List.getElem?_map, List.getElem?_range hi]
            rfl
          rw [take_one pi, vN_app]
          rfl
      · rintro H4 ⟨s4, d4⟩
        rw [List.take_of_length_le (by rw [placesOf_length]; exact Nat.le_refl _)] at d4
        exact kk ps H4 D srt stb (s13.trans s4) (s13.free hD) d4
end
end Nr
set_option Elab.async false
set_option linter.all false
set_option maxRecDepth 100000
set_option maxHeartbeats 4000000
/-! best, fair, plain -/
namespace Nr
open PySem PySem.Spec PyProof.Rows L2
def M.sumOf (m : M) (x : List Nat) : Int := (m.offs (zs x)).sum
def M.mostOf (m : M) (x : List Nat) : Int := topOf (m.offs (zs x))
theorem all_ne (m : M) (h : ∀ i x, i < m.more.length → m.ok i x = false → x ≠ i) : m.all ≠ [] := fun e => by
  have : List.range m.more.length ∈ m.all := by
    unfold M.all
    rw [mem_grow]
    refine ⟨List.length_range, List.nodup_range, fun x hx => List.mem_range.mp hx, fun i hi => ?_⟩
    have e2 : (List.range m.more.length).getD i 0 = i := by
      rw [List.getD_eq_getElem?_getD, List.getElem?_range hi]
      rfl
    rw [e2]
    cases c : m.ok i i with
    | true => rfl
    | false => exact absurd rfl (h i i hi c)
  rw [e] at this
  cases this
theorem old_ok (m : M) (i : Nat) : m.ok i i = true := by
  unfold M.ok M.mnm
  split
  · rw [decide_eq_false (Int.lt_irrefl _)]
    rfl
  · split
    · rw [decide_eq_false (Int.lt_irrefl _)]
      rfl
    · rfl
theorem all_pos (m : M) : 0 < m.all.length := by
  cases e : m.all with
  | nil =>
    refine absurd e (all_ne m fun i x hi h z => ?_)
    rw [z, old_ok] at h
    cases h
  | cons x r => exact Nat.zero_lt_succ _
theorem all_len {m : M} {x : List Nat} (h : x ∈ m.all) : x.length = m.more.length := ((mem_grow _ _ _ _).mp h).1
theorem all_told {m : M} {x : List Nat} (h : x ∈ m.all) : x.length ≤ m.more.length := Nat.le_of_eq (all_len h)
section
variable {P : Program} {w : World} {K : PySem.W.Frag} {mg : Str → Option Value} {base : Heap} {C CNA CNR CCB fI : Addr}
/-- the nearest of the lists that can be: how far, how many, the first of them -/
def spNear (C : Addr) (f : M → List Nat → Int) : Sp := fun vs H Q _ => ∃ (a l : Addr) (m : M), vs = [.ref a] ∧ TAt C H a l m ∧ m.Fit ∧
  ∀ (i : Nat) (x : List Nat), (∀ y ∈ m.all, f m x ≤ f m y) → m.all[i]? = some x → (∀ j, j < i → ∀ y, m.all[j]? = some y → f m y ≠ f m x) →
    ∀ (H' : Hp) (z : Addr), Same H H' → H z = none → H' z = some (.lst (V.int (f m x) :: V.int ((m.all.map (f m)).count (f m x) : Nat) :: vN x)) → Q (.ref z) H'
theorem scBest : FnScope ["self", "lists", "one"] ["self"] (defScope sBest) := ⟨rfl, rfl, rfl, by decide +kernel, rfl, by decide +kernel, by decide +kernel⟩
theorem ok_best {f fL fS fN : Addr} {fd fdL fdS fdN : FuncData} (F : Fun K "best" "Tournament.best" sBest f fd) (T : Txt K mg C CNA CNR CCB fI)
    (GL : ∀ base : Heap, FnOk P w K mg base CX0 3 fL fdL ["self"] (spLists K C)) (bL : Binds K fdL ["self"] []) (mL : Meth K C "lists_that_can_be" fL)
    (GS : ∀ base : Heap, FnOk P w K mg base CX0 3 fS fdS ["self", "new_list"] (spSum K C)) (bS : Binds K fdS ["self", "new_list"] []) (mS : Meth K C "off_together" fS)
    (GN : ∀ base : Heap, FnOk P w K mg base CX0 1 fN fdN ["lists", "how_far"] spNearest) (gN : mg "nearest" = some (.ref fN)) (kN : PySem.W.keepIn K (.ref fN) = true) (bN : Binds K fdN ["lists", "how_far"] []) :
    FnOk P w K mg base CX0 4 f fd ["self"] (spNear C M.sumOf) := by
  refine F.ok scBest (fun vs H Q E h => ?_) (fun cdv A outer s H vs Q E hr h => ?_)
  · obtain ⟨a, l, m, rfl, _⟩ := h
    rfl
  · have hr1 : Room 1 _ := hr.mono (by decide)
    refine ⟨_, pss_cons (ps_set (i := 1) scBest.nd rfl (Or.inl rfl) (pe_meth0 (pv 0) T.cl mL (GL _) hr bL .nil pass0))
      (pss_one (ps_ret (pe_call (GN _) hr1 rfl gN kN bN .nil pass0 (pa_cons (pv 1) (pa_cons (pe_lc (own := [("one", 2)]) (g := gName 2) (tt := tYes) (te := tMeth C "off_together" (spSum K C) [] E0 (tVar 0) (tCons (tVar 2) tNil)) rfl scBest.nd (pi_list (pv 1)) (blkOk_by (N := ["self", "lists", "one"]) (sc := defScope sBest) (by decide +kernel))
        (fun _ _ _ _ _ => pg_name (i := 2) scBest.nd rfl (Or.inl rfl)) (fun _ _ _ _ _ => pts_nil)
        (fun _ _ _ _ _ => by exact pe_meth (pv 0) T.cl mS (GS _) hr bS .nil pass0 (pa_cons (pv 2) pa_nil))) pa_nil))))), ?_⟩
    obtain ⟨a, l, m, rfl, t, fit, kk⟩ := h
    obtain ⟨dx, ha⟩ := t.ins
    refine ⟨_, rfl, a, dx, _, rfl, ha, tf_none _ _ (by decide +kernel) (by decide +kernel), a, l, m, rfl, t, fit.len, fun H1 p us s1 np L1 => ?_⟩
    refine ⟨_, rfl, _, rfl, p, rfl, ⟨_, SqL.of L1.lst⟩, fun D hD => ?_⟩
    have big : m.all.length ≤ 46656 := grow_small fit.len fit.len
    refine lc_it (walk_list (K := K) (a := p) (xs := us.map V.ref)) (fun i H' => Same H1 H' ∧ H' D = some (.lst (((m.all.map (m.sumOf)).take i).map V.int))) ⟨Same.upd hD, upd_same⟩ (fun i H' _ q => SqL.of (q.1 _ _ L1.lst)) ?_ ?_
    · rintro i y H2 H3 hi ⟨s2, d2⟩ ⟨rfl, hy⟩
      rw [List.length_map, L1.len] at hi
      obtain ⟨t1, ht1, _, hx⟩ := L1.each i m.all[i] (List.getElem?_eq_getElem hi)
      have ey : y = V.ref t1 := by
        rw [List.getElem?_map, ht1] at hy
        exact (Option.some.inj hy).symm
      subst ey
      have s12 := s1.trans s2
      have t2 := t.keep s12
      obtain ⟨dx2, ha2⟩ := t2.ins
      refine ⟨rfl, ?_⟩
      refine ⟨_, rfl, a, dx2, _, rfl, ha2, tf_none _ _ (by decide +kernel) (by decide +kernel), _, rfl, a, l, t1, m, zs m.all[i], rfl, t2, fit, SqL.of (s2 _ _ hx), by rw [zs_length]; exact all_told (List.getElem_mem hi), fun H4 s4 => ?_⟩
      have tl : ((m.all.map (m.sumOf)).take i).length ≤ (m.all.map (m.sumOf)).length := List.length_take_le' i _
      rw [List.length_map] at tl
      refine ⟨_, s4 _ _ d2, by rw [List.length_map]; exact ints_line (by omega), fun b o e => ?_, ?_⟩
      · rw [upd_ne (ne_of_none e hD)]
        exact s4 b o (s2 b o e)
      · refine upd_same.trans ?_
        have pi : (m.all.map (m.sumOf))[i]? = some (m.sumOf m.all[i]) := by
          rw [List.getElem?_map, List.getElem?_eq_getElem hi]
          rfl
        rw [take_one pi, List.map_append]
        rfl
    · rintro H2 ⟨s2, d2⟩
      rw [List.take_of_length_le (by rw [List.length_map, List.length_map, L1.len]; exact Nat.le_refl _)] at d2
      refine ⟨p, D, m.all, us, _, rfl, L1.keep s2, d2, List.length_map _, by rw [List.length_map]; exact all_pos m, fun x hx => by rw [all_len hx]; exact fit.len, fun least i x hle hi hb hx H3 z s3 hz hz3 => ?_⟩
      have ef : m.sumOf x = least := by
        rw [List.getElem?_map, hx] at hi
        exact Option.some.inj hi
      subst ef
      refine kk i x (fun y hy => hle _ (List.mem_map.mpr ⟨y, hy, rfl⟩)) hx (fun j hj y hy e => hb j hj ?_) H3 z ((s1.trans s2).trans s3) ((s1.trans s2).free hz) hz3
      rw [List.getElem?_map, hy]
      exact congrArg some e
theorem scFair : FnScope ["self", "lists", "one"] ["self"] (defScope sFair) := ⟨rfl, rfl, rfl, by decide +kernel, rfl, by decide +kernel, by decide +kernel⟩
theorem ok_fair {f fL fS fN : Addr} {fd fdL fdS fdN : FuncData} (F : Fun K "fair" "Tournament.fair" sFair f fd) (T : Txt K mg C CNA CNR CCB fI)
    (GL : ∀ base : Heap, FnOk P w K mg base CX0 3 fL fdL ["self"] (spLists K C)) (bL : Binds K fdL ["self"] []) (mL : Meth K C "lists_that_can_be" fL)
    (GS : ∀ base : Heap, FnOk P w K mg base CX0 3 fS fdS ["self", "new_list"] (spMost K C)) (bS : Binds K fdS ["self", "new_list"] []) (mS : Meth K C "off_the_most" fS)
    (GN : ∀ base : Heap, FnOk P w K mg base CX0 1 fN fdN ["lists", "how_far"] spNearest) (gN : mg "nearest" = some (.ref fN)) (kN : PySem.W.keepIn K (.ref fN) = true) (bN : Binds K fdN ["lists", "how_far"] []) :
    FnOk P w K mg base CX0 4 f fd ["self"] (spNear C M.mostOf) := by
  refine F.ok scFair (fun vs H Q E h => ?_) (fun cdv A outer s H vs Q E hr h => ?_)
  · obtain ⟨a, l, m, rfl, _⟩ := h
    rfl
  · have hr1 : Room 1 _ := hr.mono (by decide)
    refine ⟨_, pss_cons (ps_set (i := 1) scFair.nd rfl (Or.inl rfl) (pe_meth0 (pv 0) T.cl mL (GL _) hr bL .nil pass0))
      (pss_one (ps_ret (pe_call (GN _) hr1 rfl gN kN bN .nil pass0 (pa_cons (pv 1) (pa_cons (pe_lc (own := [("one", 2)]) (g := gName 2) (tt := tYes) (te := tMeth C "off_the_most" (spMost K C) [] E0 (tVar 0) (tCons (tVar 2) tNil)) rfl scFair.nd (pi_list (pv 1)) (blkOk_by (N := ["self", "lists", "one"]) (sc := defScope sFair) (by decide +kernel))
        (fun _ _ _ _ _ => pg_name (i := 2) scFair.nd rfl (Or.inl rfl)) (fun _ _ _ _ _ => pts_nil)
        (fun _ _ _ _ _ => by exact pe_meth (pv 0) T.cl mS (GS _) hr bS .nil pass0 (pa_cons (pv 2) pa_nil))) pa_nil))))), ?_⟩
    obtain ⟨a, l, m, rfl, t, fit, kk⟩ := h
    obtain ⟨dx, ha⟩ := t.ins
    refine ⟨_, rfl, a, dx, _, rfl, ha, tf_none _ _ (by decide +kernel) (by decide +kernel), a, l, m, rfl, t, fit.len, fun H1 p us s1 np L1 => ?_⟩
    refine ⟨_, rfl, _, rfl, p, rfl, ⟨_, SqL.of L1.lst⟩, fun D hD => ?_⟩
    have big : m.all.length ≤ 46656 := grow_small fit.len fit.len
    refine lc_it (walk_list (K := K) (a := p) (xs := us.map V.ref)) (fun i H' => Same H1 H' ∧ H' D = some (.lst (((m.all.map (m.mostOf)).take i).map V.int))) ⟨Same.upd hD, upd_same⟩ (fun i H' _ q => SqL.of (q.1 _ _ L1.lst)) ?_ ?_
    · rintro i y H2 H3 hi ⟨s2, d2⟩ ⟨rfl, hy⟩
      rw [List.length_map, L1.len] at hi
      obtain ⟨t1, ht1, _, hx⟩ := L1.each i m.all[i] (List.getElem?_eq_getElem hi)
      have ey : y = V.ref t1 := by
        rw [List.getElem?_map, ht1] at hy
        exact (Option.some.inj hy).symm
      subst ey
      have s12 := s1.trans s2
      have t2 := t.keep s12
      obtain ⟨dx2, ha2⟩ := t2.ins
      refine ⟨rfl, ?_⟩
      refine ⟨_, rfl, a, dx2, _, rfl, ha2, tf_none _ _ (by decide +kernel) (by decide +kernel), _, rfl, a, l, t1, m, zs m.all[i], rfl, t2, fit, SqL.of (s2 _ _ hx), by rw [zs_length]; exact all_told (List.getElem_mem hi), fun H4 s4 => ?_⟩
      have tl : ((m.all.map (m.mostOf)).take i).length ≤ (m.all.map (m.mostOf)).length := List.length_take_le' i _
      rw [List.length_map] at tl
      refine ⟨_, s4 _ _ d2, by rw [List.length_map]; exact ints_line (by omega), fun b o e => ?_, ?_⟩
      · rw [upd_ne (ne_of_none e hD)]
        exact s4 b o (s2 b o e)
      · refine upd_same.trans ?_
        have pi : (m.all.map (m.mostOf))[i]? = some (m.mostOf m.all[i]) := by
          rw [List.getElem?_map, List.getElem?_eq_getElem hi]
          rfl
        rw [take_one pi, List.map_append]
        rfl
    · rintro H2 ⟨s2, d2⟩
      rw [List.take_of_length_le (by rw [List.length_map, List.length_map, L1.len]; exact Nat.le_refl _)] at d2
      refine ⟨p, D, m.all, us, _, rfl, L1.keep s2, d2, List.length_map _, by rw [List.length_map]; exact all_pos m, fun x hx => by rw [all_len hx]; exact fit.len, fun least i x hle hi hb hx H3 z s3 hz hz3 => ?_⟩
      have ef : m.mostOf x = least := by
        rw [List.getElem?_map, hx] at hi
        exact Option.some.inj hi
      subst ef
      refine kk i x (fun y hy => hle _ (List.mem_map.mpr ⟨y, hy, rfl⟩)) hx (fun j hj y hy e => hb j hj ?_) H3 z ((s1.trans s2).trans s3) ((s1.trans s2).free hz) hz3
      rw [List.getElem?_map, hy]
      exact congrArg some e
/-! ### plain -/
def spPlain (C : Addr) : Sp := fun vs H Q _ => ∃ (a l : Addr) (m : M), vs = [.ref a] ∧ TAt C H a l m ∧ m.Fit ∧
  ∀ (ps : List (Int × Int)), SrtO.Srtd NrS.ltK ps → SrtO.Stb NrS.ltK ps m.byOld → ∀ (H' : Hp) (z : Addr), Same H H' → H z = none →
    H' z = some (.lst (V.int (m.sumOf (placesOf m.more.length ps)) :: V.int (if (m.wrong (zs (placesOf m.more.length ps))).isNone = true then 1 else 0) :: vN (placesOf m.more.length ps))) → Q (.ref z) H'
theorem scPlain : FnScope ["self", "new_list", "can_be"] ["self"] (defScope sPlain) := ⟨rfl, rfl, rfl, by decide +kernel, rfl, by decide +kernel, by decide +kernel⟩
theorem ok_plain {f fY fW fS : Addr} {fd fdY fdW fdS : FuncData} (F : Fun K "plain" "Tournament.plain" sPlain f fd) (T : Txt K mg C CNA CNR CCB fI)
    (GY : ∀ base : Heap, FnOk P w K mg base CX0 4 fY fdY ["self"] (spBy C)) (bY : Binds K fdY ["self"] []) (mY : Meth K C "by_earned_alone" fY)
    (GW : ∀ base : Heap, FnOk P w K mg base CX0 2 fW fdW ["self", "new_list"] (spWho K C)) (bW : Binds K fdW ["self", "new_list"] []) (mW : Meth K C "who_must_not_move" fW)
    (GS : ∀ base : Heap, FnOk P w K mg base CX0 3 fS fdS ["self", "new_list"] (spSum K C)) (bS : Binds K fdS ["self", "new_list"] []) (mS : Meth K C "off_together" fS) :
    FnOk P w K mg base CX0 5 f fd ["self"] (spPlain C) := by
  refine F.ok scPlain (fun vs H Q E h => ?_) (fun cdv A outer s H vs Q E hr h => ?_)
  · obtain ⟨a, l, m, rfl, _⟩ := h
    rfl
  · have hr2 : Room 2 _ := hr.mono (by decide)
    have hr3 : Room 3 _ := hr.mono (by decide)
    refine ⟨_, pss_cons (ps_set (i := 1) scPlain.nd rfl (Or.inl rfl) (pe_meth0 (pv 0) T.cl mY (GY _) hr bY .nil pass0))
      (pss_cons (ps_set (i := 2) scPlain.nd rfl (Or.inl rfl) (pe_ifExp (pt_truth (pe_meth (pv 0) T.cl mW (GW _) hr2 bW .nil pass0 (pa_cons (pv 1) pa_nil)) (by intro _; rfl)) pe_int pe_int))
      (pss_one (ps_ret (pe_op op_cat (pe_lst (pa_cons (pe_meth (pv 0) T.cl mS (GS _) hr3 bS .nil pass0 (pa_cons (pv 1) pa_nil)) (pa_cons (pv 2) pa_nil))) (pv 1))))), ?_⟩
    obtain ⟨a, l, m, rfl, t, fit, kk⟩ := h
    obtain ⟨dx, ha⟩ := t.ins
    refine ⟨_, rfl, a, dx, _, rfl, ha, tf_none _ _ (by decide +kernel) (by decide +kernel), a, l, m, rfl, t, fit, fun ps H1 p srt stb s1 np h1 => ?_⟩
    have t1 := t.keep s1
    obtain ⟨dx1, ha1⟩ := t1.ins
    have pl := placesOf_length m.more.length ps
    have h6 := fit.len
    refine ⟨_, rfl, a, dx1, _, rfl, ha1, tf_none _ _ (by decide +kernel) (by decide +kernel), _, rfl, a, l, p, m, zs (placesOf m.more.length ps), rfl, t1, h6, SqL.of h1, by rw [zs_length, pl]; exact Nat.le_refl _, fun H2 q s2 nq h2 => ?_⟩
    refine ⟨_, .inl ⟨_, SqL.of h2, rfl⟩, ?_⟩
    have wh := wrong_head m (zs (placesOf m.more.length ps))
    have s12 := s1.trans s2
    have t2 := t.keep s12
    obtain ⟨dx2, ha2⟩ := t2.ins
    have fin : ∀ k : Int, k = (if (m.wrong (zs (placesOf m.more.length ps))).isNone = true then 1 else 0) → tRet (tOp rCat (tLst (tCons (tMeth C "off_together" (spSum K C) [] E0 (tVar 0) (tCons (tVar 1) tNil)) (tCons (tVar 2) tNil))) (tVar 1)) { nx := fun x H' => Q V.non H', rt := Q } [some (V.ref a), some (V.ref p), some (V.int k)] H2 := fun k ek => by
      subst ek
      refine ⟨_, rfl, a, dx2, _, rfl, ha2, tf_none _ _ (by decide +kernel) (by decide +kernel), _, rfl, a, l, p, m, zs (placesOf m.more.length ps), rfl, t2, fit, SqL.of (s2 _ _ h1), by rw [zs_length, pl]; exact Nat.le_refl _, fun H3 s3 => ?_⟩
      refine ⟨_, rfl, by show 2 ≤ sizeLine; decide, fun d hd => ?_⟩
      have s23 := s2.trans (s3.trans (Same.upd (o := HO.lst [V.int (m.sumOf (placesOf m.more.length ps)), V.int (if (m.wrong (zs (placesOf m.more.length ps))).isNone = true then 1 else 0)]) hd))
      refine ⟨_, rfl, d, p, _, _, rfl, rfl, upd_same, s23 _ _ h1, ?_, fun z hz => ?_⟩
      · rw [vN_length, pl]
        show 2 + _ ≤ sizeLine
        exact Nat.le_of_lt (small1000 (by omega))
      · exact kk ps srt stb _ z ((s1.trans s23).trans (Same.upd hz)) ((s1.trans s23).free hz) upd_same
    cases e : m.whos (zs (placesOf m.more.length ps)) (zs (placesOf m.more.length ps)).length with
    | nil =>
      rw [e] at wh
      have wh' : m.wrong (zs (placesOf m.more.length ps)) = none := wh.symm
      refine if_false_of rfl (fin 1 ?_)
      rw [wh']
      rfl
    | cons i r =>
      rw [e] at wh
      have wh' : m.wrong (zs (placesOf m.more.length ps)) = some i := wh.symm
      refine if_true_of rfl (fin 0 ?_)
      rw [wh']
      rfl
end
end Nr
set_option Elab.async false
set_option linter.all false
set_option maxRecDepth 100000
set_option maxHeartbeats 4000000
/-! read_calls -/
namespace Nr
open PySem PySem.Spec PyProof.Rows L2
theorem encs_append : ∀ a b : List (List Int), encs (a ++ b) = encs a ++ encs b
  | [], _ => rfl
  | c :: a, b => by
    show enc1 c ++ encs (a ++ b) = enc1 c ++ encs a ++ encs b
    rw [encs_append a b, List.append_assoc]
/-- where a call stands in the list -/
structure Stands (ns : List Int) (at_ : Nat) (p : Int) (xs : List Int) : Prop where
  place : ns[at_]? = some p
  count : ns[at_ + 1]? = some (xs.length : Nat)
  cut : (ns.drop (at_ + 2)).take xs.length = xs
  room : at_ + 2 + xs.length + 1 ≤ ns.length
theorem stands (a b : List (List Int)) (p : Int) (xs : List Int) : Stands (encs (a ++ (p :: xs) :: b)) (encs a).length p xs := by
  have e : encs (a ++ (p :: xs) :: b) = encs a ++ (p :: (xs.length : Nat) :: (xs ++ (0 :: encs b))) := by
    rw [encs_append]
    show encs a ++ ((p :: ((xs.length : Int) :: (xs ++ [0]))) ++ encs b) = _
    simp
  rw [e]
  refine ⟨?_, ?_, ?_, ?_⟩
  · rw [List.getElem?_append_right (Nat.le_refl _), Nat.sub_self]
    rfl
  · rw [List.getElem?_append_right (by omega)]
    have : (encs a).length + 1 - (encs a).length = 1 := by omega
    rw [this]
    rfl
  · rw [List.drop_append]
    have h1 : (encs a).drop ((encs a).length + 2) = [] := List.drop_eq_nil_of_le (by omega)
    have h2 : (encs a).length + 2 - (encs a).length = 2 := by omega
    rw [h1, h2]
    show (xs ++ (0 :: encs b)).take xs.length = xs
    rw [List.take_append_of_le_length (Nat.le_refl _), List.take_of_length_le (Nat.le_refl _)]
  · simp
    omega
theorem enc1_length (p : Int) (xs : List Int) : (enc1 (p :: xs)).length = xs.length + 3 := by
  show (p :: ((xs.length : Int) :: (xs ++ [0]))).length = _
  simp
/-- the calls that are read, at p: a list of pairs -/
structure ReadAt (H0 H : Hp) (p : Addr) (cs : List (List Int)) (ts : List Addr) : Prop where
  lst : H p = some (.lst (ts.map V.ref))
  len : ts.length = cs.length
  each : ∀ (i : Nat) (c : List Int), cs[i]? = some c → ∃ t q n xs, c = n :: xs ∧ ts[i]? = some t ∧ H t = some (.tup [.int n, .ref q]) ∧ H q = some (.lst (xs.map V.int)) ∧ H0 t = none ∧ H0 q = none ∧ q ≠ p
section
variable {P : Program} {w : World} {K : PySem.W.Frag} {mg : Str → Option Value} {base : Heap} {C CNA CNR CCB fI : Addr}
def spRead (K : PySem.W.Frag) : Sp := fun vs H Q _ => ∃ (g : Addr) (cs : List (List Int)), vs = [.ref g] ∧ SqL K H g ((encs cs).map V.int) ∧ cs.length ≤ 60 ∧ (∀ c ∈ cs, c ≠ []) ∧ (encs cs).length ≤ 800 ∧
  ∀ (H' : Hp) (p : Addr) (ts : List Addr), Same H H' → H p = none → ReadAt H H' p cs ts → Q (.ref p) H'
theorem scRead : FnScope ["calls", "read", "at", "first", "behind"] ["calls"] (defScope sRead) := ⟨rfl, rfl, rfl, by decide +kernel, rfl, by decide +kernel, by decide +kernel⟩
theorem cut_is {ns : List Int} {at_ : Nat} {p : Int} {xs : List Int} (s : Stands ns at_ p xs) {i j : Int} (hi : i = (at_ + 2 : Nat)) (hj : j = (at_ + 2 + xs.length : Nat)) : cutV (ns.map V.int) (some i) (some j) = xs.map V.int := by
  subst hi
  subst hj
  unfold cutV
  have r := s.room
  rw [HT.sIx_nat, HT.sIx_nat, List.length_map]
  have e1 : min (at_ + 2) ns.length = at_ + 2 := by omega
  have e2 : min (at_ + 2 + xs.length) ns.length = at_ + 2 + xs.length := by omega
  have e3 : at_ + 2 + xs.length - (at_ + 2) = xs.length := by omega
  rw [e1, e2, e3, ← List.map_drop, ← List.map_take, s.cut]
theorem ok_read {f : Addr} {fd : FuncData} (F : Fun K "read_calls" "read_calls" sRead f fd) (T : Txt K mg C CNA CNR CCB fI) : FnOk P w K mg base CX0 1 f fd ["calls"] (spRead K) := by
  refine F.ok scRead (fun vs H Q E h => ?_) (fun cdv A outer s H vs Q E hr h => ?_)
  · obtain ⟨g, cs, rfl, _⟩ := h
    rfl
  · refine ⟨_, pss_cons (ps_set (i := 1) scRead.nd rfl (Or.inl rfl) (pe_lst pa_nil))
      (pss_cons (ps_set (i := 2) scRead.nd rfl (Or.inl rfl) pe_int)
      (pss_cons (ps_while PassesOwn.never (pt_cmpR op_lt (pv 2) (pe_callB call_len_seq (by rfl) T.len PySem.boot_len (pa_cons (pv 0) pa_nil)) (nomark _))
        (pss_cons (ps_set (i := 3) scRead.nd rfl (Or.inl rfl) (pe_op op_add (pv 2) pe_int))
        (pss_cons (ps_set (i := 4) scRead.nd rfl (Or.inl rfl) (pe_op op_add (pv 3) (pe_ix ix_list (pv 0) (pe_op op_add (pv 2) pe_int) (fun _ _ => rfl))))
        (pss_cons (ps_expr (pe_bm PySem.F.plainAttrs_list PySem.F.slot_list_append PySem.F.type_list_append mt_append (pv 1) (pa_cons (pe_tup (pa_cons (pe_ix ix_list (pv 0) (pv 2) (fun _ _ => rfl)) (pa_cons (pe_slice sl_list (pv 0) (po_some (pv 3)) (po_some (pv 4))) pa_nil))) pa_nil)))
        (pss_one (ps_set (i := 2) scRead.nd rfl (Or.inl rfl) (pe_op op_add (pv 4) pe_int)))))))
      (pss_one (ps_ret (pv 1))))), ?_⟩
    obtain ⟨g, cs, rfl, hg, h60, hne, h800, k⟩ := h
    refine ⟨by show 0 ≤ sizeLine; exact Nat.zero_le _, fun r hr0 => ?_⟩
    refine ⟨fun n σ H' => ∃ (a b : List (List Int)) (ts : List Addr) (u v : Option V), cs = a ++ b ∧ n = b.length ∧ σ = [some (.ref g), some (.ref r), some (.int ((encs a).length : Nat)), u, v] ∧ Same H H' ∧ ReadAt H H' r a ts,
      ⟨_, [], cs, [], none, none, rfl, rfl, rfl, Same.upd hr0, upd_same, rfl, fun i c e => by simp at e⟩, ?_⟩
    rintro n σ H1 ⟨a, b, ts, u, v, rfl, rfl, rfl, s1, R⟩
    refine ⟨_, rfl, _, rfl, g, _, rfl, .inl (s1.seq hg), _, _, rfl, rfl, _, rfl, ?_⟩
    have len : (((encs (a ++ b)).map V.int).length : Int) = ((encs a).length + (encs b).length : Nat) := by rw [List.length_map, encs_append, List.length_append]
    cases b with
    | nil =>
      refine if_false_of (decide_eq_false ?_) ?_
      · rw [len]
        show ¬ (((encs a).length : Nat) : Int) < ((encs a).length + 0 : Nat)
        omega
      · refine ⟨_, rfl, ?_⟩
        rw [List.append_nil] at k
        exact k H1 r ts s1 hr0 R
    | cons c b =>
      obtain ⟨p, xs, rfl⟩ : ∃ p xs, c = p :: xs := by
        cases c with
        | nil => exact absurd rfl (hne [] (List.mem_append_right _ List.mem_cons_self))
        | cons p xs => exact ⟨p, xs, rfl⟩
      have st := stands a b p xs
      refine if_true_of (decide_eq_true ?_) ?_
      · rw [len]
        show (((encs a).length : Nat) : Int) < ((encs a).length + (enc1 (p :: xs) ++ encs b).length : Nat)
        rw [List.length_append, enc1_length]
        omega
      have hg1 : SqL K H1 g ((encs (a ++ (p :: xs) :: b)).map V.int) := s1.seq hg
      refine ⟨fun σ' H' => ∃ (ts : List Addr) (u v : Option V), σ' = [some (.ref g), some (.ref r), some (.int ((encs (a ++ [p :: xs])).length : Nat)), u, v] ∧ Same H H' ∧ ReadAt H H' r (a ++ [p :: xs]) ts, fun σ' H' hN => ?_, ?_⟩
      · obtain ⟨ts', u', v', e1, s', R'⟩ := hN
        exact ⟨b.length, Nat.lt_succ_self _, a ++ [p :: xs], b, ts', u', v', by simp, rfl, e1, s', R'⟩
      have i1 : ((encs (a ++ (p :: xs) :: b)).map V.int)[(encs a).length + 1]? = some (V.int (xs.length : Nat)) := by rw [List.getElem?_map, st.count]; rfl
      have i0 : ((encs (a ++ (p :: xs) :: b)).map V.int)[(encs a).length]? = some (V.int p) := by rw [List.getElem?_map, st.place]; rfl
      refine ⟨_, rfl, _, _, rfl, rfl, ?_⟩
      refine ⟨_, rfl, _, rfl, _, rfl, _, _, rfl, rfl, g, _, _, _, rfl, rfl, hg1, at_of (by show (((encs a).length : Nat) : Int) + 1 = (((encs a).length + 1 : Nat) : Int); omega) i1, _, _, rfl, rfl, ?_⟩
      refine ⟨_, rfl, .inl ⟨rfl, _, SqL.of R.lst⟩, _, rfl, _, rfl, g, _, _, _, rfl, rfl, hg1, atI_nat i0, _, rfl, _, rfl, _, rfl, _, rfl, _, rfl, g, _, rfl, hg1, fun q hq => ?_⟩
      rw [cut_is st (by show (((encs a).length : Nat) : Int) + 2 = (((encs a).length + 2 : Nat) : Int); omega) (by show (((encs a).length : Nat) : Int) + 2 + ((xs.length : Nat) : Int) = (((encs a).length + 2 + xs.length : Nat) : Int); omega)]
      refine ⟨by show 2 ≤ sizeLine; decide, fun t ht => ?_⟩
      have hqt : q ≠ t := ne_of_none upd_same ht
      have ht1 : H1 t = none := by
        rw [upd_ne (Ne.symm hqt)] at ht
        exact ht
      have s2 : Same H1 (upd (upd H1 q (.lst (xs.map V.int))) t (.tup [.int p, .ref q])) := (Same.upd hq).trans (Same.upd ht)
      refine ⟨r, _, _, rfl, rfl, s2 _ _ R.lst, small1000 (by rw [List.length_map, R.len]; rw [List.length_append] at h60; omega), ?_⟩
      have hrn : ∀ b, H1 b = none → b ≠ r := fun b e z => by
        rw [z, R.lst] at e
        cases e
      refine ⟨_, rfl, _, _, rfl, rfl, ?_⟩
      have base_ : ∀ b o, H b = some o → b ≠ r := fun b o e => ne_of_none e hr0
      have cell : ∀ x o, (upd (upd H1 q (.lst (xs.map V.int))) t (.tup [.int p, .ref q])) x = some o → x ≠ r → (upd (upd (upd H1 q (.lst (xs.map V.int))) t (.tup [.int p, .ref q])) r (.lst (ts.map V.ref ++ [V.ref t]))) x = some o := fun x o e nx => (upd_ne nx).trans e
      refine ⟨ts ++ [t], some (.int (((encs a).length : Nat) + 2)), some (.int (((encs a).length : Nat) + 2 + (xs.length : Nat))), ?_, fun x o e => cell x o (s2 x o (s1 x o e)) (base_ x o e), ?_, ?_, ?_⟩
      · have e : (((encs (a ++ [p :: xs])).length : Nat) : Int) = ((encs a).length : Nat) + 2 + (xs.length : Nat) + 1 := by
          rw [encs_append, List.length_append]
          show (((encs a).length + (enc1 (p :: xs) ++ []).length : Nat) : Int) = _
          rw [List.append_nil, enc1_length]
          omega
        rw [e]
        rfl
      · rw [upd_same, List.map_append]
        rfl
      · rw [List.length_append, List.length_append, R.len]
        rfl
      · intro i c e
        rcases Nat.lt_or_ge i a.length with hlt | hge
        · rw [List.getElem?_append_left hlt] at e
          obtain ⟨t', q', n', xs', e1, e2, e3, e4, e5, e6, e7⟩ := R.each i c e
          refine ⟨t', q', n', xs', e1, ?_, cell _ _ (s2 _ _ e3) (fun z => ?_), cell _ _ (s2 _ _ e4) e7, e5, e6, e7⟩
          · rw [List.getElem?_append_left (by rw [R.len]; exact hlt)]
            exact e2
          · rw [z, R.lst] at e3
            cases e3
        · have hia : i = a.length := by
            have := (List.getElem?_eq_some_iff.mp e).1
            rw [List.length_append] at this
            have : i < a.length + 1 := this
            omega
          subst hia
          rw [List.getElem?_append_right (Nat.le_refl _), Nat.sub_self] at e
          have ec : p :: xs = c := Option.some.inj e
          refine ⟨t, q, p, xs, ec.symm, ?_, cell _ _ upd_same (hrn t ht1), cell _ _ ((upd_ne hqt).trans upd_same) (hrn q hq), s1.free ht1, s1.free hq, hrn q hq⟩
          rw [List.getElem?_append_right (by rw [R.len]; exact Nat.le_refl _), R.len, Nat.sub_self]
          rfl
end
end Nr
set_option Elab.async false
set_option linter.all false
set_option maxRecDepth 100000
set_option maxHeartbeats 4000000
/-! The mirror's state of the specification's: what check says of both. -/
namespace Nr
open Sj11 (Ranks Wrestler)
/-- wins more than losses -/
def moreOf (w : Wrestler) : Int := (w.wins : Int) - (w.losses : Int)
def toM (r : Ranks) : M := ⟨(r.worth : Nat), r.wrestlers.map moreOf⟩
/-- what the calls keep -/
structure Good (r : Ranks) : Prop where
  worth : r.worth ≤ 30
  count : r.wrestlers.length ≤ 6
  bouts : ∀ w ∈ r.wrestlers, w.wins + w.losses ≤ 15
theorem Good.fit {r : Ranks} (g : Good r) : (toM r).Fit where
  w0 := Int.natCast_nonneg _
  w1 := by
    show ((r.worth : Nat) : Int) ≤ 30
    have := g.worth
    omega
  len := by
    show (r.wrestlers.map moreOf).length ≤ 6
    rw [List.length_map]
    exact g.count
  lo := fun z hz => by
    obtain ⟨w, hw, rfl⟩ := List.mem_map.mp hz
    have := g.bouts w hw
    unfold moreOf
    omega
  hi := fun z hz => by
    obtain ⟨w, hw, rfl⟩ := List.mem_map.mp hz
    have := g.bouts w hw
    unfold moreOf
    omega
theorem toM_len (r : Ranks) : (toM r).more.length = r.count := List.length_map _
theorem at_of_ (r : Ranks) (i : Nat) : (toM r).at_ i = moreOf (r.of_ i) := by
  show (r.wrestlers.map moreOf).getD i 0 = moreOf (r.wrestlers.getD i ⟨0, 0⟩)
  rw [List.getD_eq_getElem?_getD, List.getElem?_map, List.getD_eq_getElem?_getD]
  cases r.wrestlers[i]? with
  | none => rfl
  | some w => rfl
theorem earned_is (r : Ranks) (i : Nat) : (toM r).earned i = r.earned i := by
  show 10 * (i : Int) - ((r.worth : Nat) : Int) * (toM r).at_ i = _
  rw [at_of_]
  rfl
theorem zs_getD (l : List Nat) (i : Nat) : (zs l).getD i 0 = ((l.getD i 0 : Nat) : Int) := by
  unfold zs
  rw [List.getD_eq_getElem?_getD, List.getElem?_map, List.getD_eq_getElem?_getD]
  cases l[i]? with
  | none => rfl
  | some w => rfl
theorem zs_back (l : List Nat) : (zs l).map Int.toNat = l := by
  unfold zs
  rw [List.map_map]
  have : (Int.toNat ∘ fun (n : Nat) => (n : Int)) = id := by
    funext n
    rfl
  rw [this, List.map_id]
theorem ranks_ints (n : Nat) : ranks n = zs (List.range n) := rfl
theorem perm_told (r : Ranks) (l : List Nat) : (zs l).Perm (ranks (toM r).more.length) ↔ r.told l = true := by
  rw [told_perm, toM_len, ranks_ints]
  refine ⟨fun p => ?_, fun p => p.map _⟩
  have q := p.map Int.toNat
  rw [zs_back, zs_back] at q
  exact q
theorem mnm_is (r : Ranks) (i x : Nat) : (toM r).mnm i (x : Int) = ((r.up i && decide (i < x)) || (r.down i && decide (x < i))) := by
  unfold M.mnm Ranks.up Ranks.down
  rw [at_of_]
  unfold moreOf
  by_cases c : (r.of_ i).losses < (r.of_ i).wins
  · rw [if_pos (by omega), decide_eq_true c, decide_eq_false (by omega : ¬ (r.of_ i).wins < (r.of_ i).losses)]
    simp
  · rw [if_neg (by omega), decide_eq_false c]
    by_cases d : (r.of_ i).wins < (r.of_ i).losses
    · rw [if_pos (by omega), decide_eq_true d]
      simp
    · rw [if_neg (by omega), decide_eq_false d]
      rfl
theorem find_congr {α : Type} {p q : α → Bool} : ∀ {l : List α}, (∀ x ∈ l, p x = q x) → l.find? p = l.find? q
  | [], _ => rfl
  | a :: l, h => by
    rw [List.find?_cons, List.find?_cons, h a List.mem_cons_self, find_congr fun x hx => h x (List.mem_cons_of_mem _ hx)]
theorem wrong_is (r : Ranks) (l : List Nat) (h : l.length = r.count) : (toM r).wrong (zs l) = r.wrong l := by
  unfold M.wrong Ranks.wrong
  rw [zs_length, h]
  refine find_congr fun i _ => ?_
  rw [zs_getD, mnm_is]
theorem off_is (r : Ranks) (l : List Nat) (i : Nat) : (toM r).off i ((l.getD i 0 : Nat) : Int) = ((r.off l i : Nat) : Int) := by
  unfold M.off Ranks.off
  rw [earned_is]
  split <;> omega
theorem offs_is (r : Ranks) (l : List Nat) (h : l.length = r.count) : (toM r).offs (zs l) = zs ((List.range r.count).map (r.off l)) := by
  refine List.ext_getElem? fun i => ?_
  unfold zs
  rw [List.getElem?_map, List.getElem?_map]
  by_cases c : i < r.count
  · rw [List.getElem?_range c]
    have hi : (List.map (fun (n : Nat) => (n : Int)) l)[i]? = some ((l.getD i 0 : Nat) : Int) := by
      rw [List.getElem?_map, List.getElem?_eq_getElem (by omega), List.getD_eq_getElem?_getD, List.getElem?_eq_getElem (by omega)]
      rfl
    rw [offs_at hi, off_is]
    rfl
  · rw [List.getElem?_eq_none (by rw [offs_length, List.length_map]; omega), List.getElem?_eq_none (by rw [List.length_range]; omega)]
    rfl
theorem sum_ints : ∀ l : List Nat, (zs l).sum = ((l.sum : Nat) : Int)
  | [] => rfl
  | n :: l => by
    show ((n : Int) :: zs l).sum = (((n :: l).sum : Nat) : Int)
    rw [List.sum_cons, List.sum_cons, sum_ints l]
    omega
theorem top_ints : ∀ (l : List Nat) (z : Nat), (zs l).foldl max (z : Int) = ((l.foldl max z : Nat) : Int)
  | [], _ => rfl
  | n :: l, z => by
    show (zs l).foldl max (max (z : Int) (n : Int)) = ((l.foldl max (max z n) : Nat) : Int)
    have e : max (z : Int) (n : Int) = ((max z n : Nat) : Int) := by omega
    rw [e]
    exact top_ints l _
theorem cost_is (r : Ranks) (l : List Nat) (h : l.length = r.count) : ((toM r).offs (zs l)).sum = ((r.cost l : Nat) : Int) := by
  rw [offs_is r l h, sum_ints]
  rfl
theorem worst_is (r : Ranks) (l : List Nat) (h : l.length = r.count) : topOf ((toM r).offs (zs l)) = ((r.worst l : Nat) : Int) := by
  rw [offs_is r l h]
  exact top_ints _ 0
/-! ### the calls keep the state good -/
theorem good_init : Good Sj11.init := ⟨by decide, by decide, fun w hw => by cases hw⟩
theorem step_begins (r : Ranks) (w : Nat) : Sj11.step r (.begins w) = if Sj11.WORTH < w then (r, Sj11.ok (-1)) else (⟨w, []⟩, Sj11.ok 0) := rfl
theorem step_wrestler (r : Ranks) (w : Wrestler) : Sj11.step r (.wrestler w) = if Sj11.BOUTS < w.wins + w.losses then (r, Sj11.ok (-1)) else if Sj11.COUNT ≤ r.count then (r, Sj11.ok (-5)) else ({ r with wrestlers := r.wrestlers ++ [w] }, Sj11.ok ((r.count : Nat) : Int)) := rfl
theorem step_check (r : Ranks) (l : List Nat) : Sj11.step r (.check l) = if r.told l = false then (r, Sj11.ok (-1)) else (r, match r.wrong l with
    | some i => ⟨-6, Sj11.ints [i]⟩
    | none => ⟨((r.cost l : Nat) : Int), Sj11.ints [r.worst l]⟩) := rfl
theorem good_step {r : Ranks} (g : Good r) (q : Sj11.Call) : Good (Sj11.step r q).1 := by
  cases q with
  | begins w =>
    rw [step_begins]
    by_cases c : Sj11.WORTH < w
    · rw [if_pos c]
      exact g
    · rw [if_neg c]
      refine ⟨?_, Nat.zero_le _, fun w hw => by cases hw⟩
      have : ¬ 30 < w := c
      show w ≤ 30
      omega
  | wrestler w =>
    rw [step_wrestler]
    by_cases c : Sj11.BOUTS < w.wins + w.losses
    · rw [if_pos c]
      exact g
    · rw [if_neg c]
      by_cases d : Sj11.COUNT ≤ r.count
      · rw [if_pos d]
        exact g
      · rw [if_neg d]
        refine ⟨g.worth, ?_, fun v hv => ?_⟩
        · show (r.wrestlers ++ [w]).length ≤ 6
          have : ¬ 6 ≤ r.wrestlers.length := d
          rw [List.length_append]
          show r.wrestlers.length + 1 ≤ 6
          omega
        · have hv' : v ∈ r.wrestlers ++ [w] := hv
          rw [List.mem_append, List.mem_singleton] at hv'
          rcases hv' with h | rfl
          · exact g.bouts v h
          · have : ¬ 15 < v.wins + v.losses := c
            omega
  | check l =>
    rw [step_check]
    split <;> exact g
  | best => exact g
  | fair => exact g
  | plain => exact g
end Nr
set_option Elab.async false
set_option linter.all false
set_option maxRecDepth 100000
set_option maxHeartbeats 4000000
/-! Refusals; what all calls together answer. -/
namespace Nr
open Sj11 (Ranks Wrestler)
inductive Ref
  | na
  | nr
  | cb (i : Nat)
def Ref.ans : Ref → List Int
  | .na => [-1]
  | .nr => [-5]
  | .cb i => [-6, (i : Nat)]
def refusal (r : Ranks) : Sj11.Call → Option Ref
  | .begins w => if 30 < w then some .na else none
  | .wrestler w => if 15 < w.wins + w.losses then some .na else if 6 ≤ r.count then some .nr else none
  | .check l => if r.told l = false then some .na else match r.wrong l with
    | some i => some (.cb i)
    | none => none
  | _ => none
def ansOf (r : Ranks) (q : Sj11.Call) : List Int := (Sj11.step r q).2.v :: (Sj11.step r q).2.l
theorem refused {r : Ranks} {q : Sj11.Call} {x : Ref} (h : refusal r q = some x) : (Sj11.step r q).1 = r ∧ ansOf r q = x.ans := by
  unfold ansOf
  cases q with
  | begins w =>
    have h' : (if 30 < w then some Ref.na else none) = some x := h
    by_cases c : 30 < w
    · rw [if_pos c] at h'
      cases h'
      rw [step_begins, if_pos (show Sj11.WORTH < w from c)]
      exact ⟨rfl, rfl⟩
    · rw [if_neg c] at h'
      cases h'
  | wrestler w =>
    have h' : (if 15 < w.wins + w.losses then some Ref.na else if 6 ≤ r.count then some Ref.nr else none) = some x := h
    by_cases c : 15 < w.wins + w.losses
    · rw [if_pos c] at h'
      cases h'
      rw [step_wrestler, if_pos (show Sj11.BOUTS < w.wins + w.losses from c)]
      exact ⟨rfl, rfl⟩
    · rw [if_neg c] at h'
      by_cases d : 6 ≤ r.count
      · rw [if_pos d] at h'
        cases h'
        rw [step_wrestler, if_neg (show ¬ Sj11.BOUTS < w.wins + w.losses from c), if_pos (show Sj11.COUNT ≤ r.count from d)]
        exact ⟨rfl, rfl⟩
      · rw [if_neg d] at h'
        cases h'
  | check l =>
    have h' : (if r.told l = false then some Ref.na else match r.wrong l with
      | some i => some (.cb i)
      | none => none) = some x := h
    by_cases c : r.told l = false
    · rw [if_pos c] at h'
      cases h'
      rw [step_check, if_pos c]
      exact ⟨rfl, rfl⟩
    · rw [if_neg c] at h'
      cases e : r.wrong l with
      | none =>
        rw [e] at h'
        cases h'
      | some i =>
        rw [e] at h'
        cases h'
        rw [step_check, if_neg c, e]
        exact ⟨rfl, rfl⟩
  | best => cases h
  | fair => cases h
  | plain => cases h
/-! ### how long an answer is -/
theorem best_row {r : Ranks} {f : List Nat → Nat} : ∃ b, Sj11.bestBy f r.lists = some b ∧ IsBest f r.lists b ∧ b.row.length = r.count := by
  obtain ⟨b, e, h⟩ := bestBy_is (f := f) (lists_ne r)
  have m := (mem_lists r b.row).mp (List.mem_of_find?_eq_some h.first)
  have t : r.told b.row = true := by
    unfold Ranks.right at m
    rw [Bool.and_eq_true] at m
    exact m.1
  have p := (told_perm r b.row).mp t
  exact ⟨b, e, h, by rw [p.length_eq, List.length_range]⟩
theorem plain_length (r : Ranks) : r.plain.length = r.count := by
  show ((List.range r.count).map _).length = r.count
  rw [List.length_map, List.length_range]
theorem ans_length {r : Ranks} (g : Good r) (q : Sj11.Call) : (ansOf r q).length ≤ 8 := by
  have c6 : r.count ≤ 6 := g.count
  unfold ansOf
  rw [List.length_cons]
  cases q with
  | begins w =>
    rw [step_begins]
    split <;> exact (by decide : 0 + 1 ≤ 8)
  | wrestler w =>
    rw [step_wrestler]
    split
    · exact (by decide : 0 + 1 ≤ 8)
    · split <;> exact (by decide : 0 + 1 ≤ 8)
  | check l =>
    rw [step_check]
    split
    · exact (by decide : 0 + 1 ≤ 8)
    · cases r.wrong l <;> exact (by decide : 1 + 1 ≤ 8)
  | best =>
    obtain ⟨b, e, _, hl⟩ := best_row (r := r) (f := r.cost)
    have e' : r.best = some b := e
    show (Sj11.toldBest r.best).l.length + 1 ≤ 8
    rw [e']
    show ((b.many :: b.row).map _).length + 1 ≤ 8
    rw [List.length_map, List.length_cons, hl]
    omega
  | fair =>
    obtain ⟨b, e, _, hl⟩ := best_row (r := r) (f := r.worst)
    have e' : r.fair = some b := e
    show (Sj11.toldBest r.fair).l.length + 1 ≤ 8
    rw [e']
    show ((b.many :: b.row).map _).length + 1 ≤ 8
    rw [List.length_map, List.length_cons, hl]
    omega
  | plain =>
    show (((if r.right r.plain = true then 1 else 0) :: r.plain).map _).length + 1 ≤ 8
    rw [List.length_map, List.length_cons, plain_length]
    omega
/-! ### all calls -/
def runR : Ranks → List Sj11.Call → Ranks
  | r, [] => r
  | r, q :: qs => runR (Sj11.step r q).1 qs
theorem runR_more : ∀ (qs : List Sj11.Call) (r : Ranks) (q : Sj11.Call), runR r (qs ++ [q]) = (Sj11.step (runR r qs) q).1
  | [], _, _ => rfl
  | p :: qs, r, q => runR_more qs (Sj11.step r p).1 q
theorem runR_good : ∀ (qs : List Sj11.Call) {r : Ranks}, Good r → Good (runR r qs)
  | [], _, g => g
  | p :: qs, _, g => runR_good qs (good_step g p)
/-- one answer as it is told -/
def toldOne (r : Ranks) (q : Sj11.Call) : List Int := ((ansOf r q).length : Int) :: ansOf r q
theorem tolds_more : ∀ (qs : List Sj11.Call) (r : Ranks) (q : Sj11.Call), tolds r (qs ++ [q]) = tolds r qs ++ toldOne (runR r qs) q
  | [], r, q => by
    show _ :: _ ++ [] = _
    rw [List.append_nil]
    rfl
  | p :: qs, r, q => by
    have ih := tolds_more qs (Sj11.step r p).1 q
    show _ :: _ ++ tolds (Sj11.step r p).1 (qs ++ [q]) = (_ :: _ ++ tolds (Sj11.step r p).1 qs) ++ toldOne (runR (Sj11.step r p).1 qs) q
    rw [ih, ← List.append_assoc]
theorem tolds_length : ∀ (qs : List Sj11.Call) {r : Ranks}, Good r → (tolds r qs).length ≤ 9 * qs.length
  | [], _, _ => Nat.le_refl _
  | q :: qs, r, g => by
    have a := ans_length g q
    have b := tolds_length qs (good_step g q)
    show (((((Sj11.step r q).2.l.length + 1 : Nat) : Int) :: (ansOf r q)) ++ tolds (Sj11.step r q).1 qs).length ≤ 9 * (qs.length + 1)
    rw [List.length_append, List.length_cons]
    omega
end Nr
set_option Elab.async false
set_option linter.all false
set_option maxRecDepth 100000
set_option maxHeartbeats 4000000
/-! best, fair, plain: the mirror's are the specification's -/
namespace Nr
open PySem PySem.Spec PyProof.Rows L2
open Sj11 (Ranks Wrestler Best)
theorem ok_is (r : Ranks) : (toM r).ok = okR r := by
  funext i x
  unfold M.ok okR
  rw [mnm_is]
theorem all_is (r : Ranks) : (toM r).all = r.lists := by
  unfold M.all
  rw [toM_len, ok_is, grow_lists]
theorem lists_len {r : Ranks} {l : List Nat} (h : l ∈ r.lists) : l.length = r.count := ((right_iff r l).mp ((mem_lists r l).mp h)).1
theorem sumOf_is {r : Ranks} {l : List Nat} (h : l.length = r.count) : (toM r).sumOf l = ((r.cost l : Nat) : Int) := cost_is r l h
theorem mostOf_is {r : Ranks} {l : List Nat} (h : l.length = r.count) : (toM r).mostOf l = ((r.worst l : Nat) : Int) := worst_is r l h
theorem count_cast (f : List Nat → Nat) (n : Nat) : ∀ L : List (List Nat), (L.map fun l => ((f l : Nat) : Int)).count ((n : Nat) : Int) = (L.map f).count n
  | [] => rfl
  | l :: L => by
    rw [List.map_cons, List.map_cons, List.count_cons, List.count_cons, count_cast f n L]
    by_cases c : f l = n
    · rw [c, beq_self_eq_true, beq_self_eq_true]
    · rw [beq_eq_false_iff_ne.mpr c, beq_eq_false_iff_ne.mpr fun e => c (by omega)]
/-- what the nearest asks is what best tells -/
theorem near_is {r : Ranks} {g : M → List Nat → Int} {f : List Nat → Nat} (hg : ∀ l, l.length = r.count → g (toM r) l = ((f l : Nat) : Int)) {i : Nat} {x : List Nat} (hle : ∀ y ∈ (toM r).all, g (toM r) x ≤ g (toM r) y) (hx : (toM r).all[i]? = some x) (hb : ∀ j, j < i → ∀ y, (toM r).all[j]? = some y → g (toM r) y ≠ g (toM r) x) :
    Sj11.bestBy f r.lists = some ⟨f x, (r.lists.map f).count (f x), x⟩ ∧ g (toM r) x = ((f x : Nat) : Int) ∧ ((toM r).all.map (g (toM r))).count (g (toM r) x) = (r.lists.map f).count (f x) := by
  rw [all_is] at hle hx hb ⊢
  have len : ∀ l ∈ r.lists, l.length = r.count := fun l h => lists_len h
  have mx : x ∈ r.lists := List.mem_of_getElem? hx
  have gx := hg x (len x mx)
  refine ⟨best_ans (isBest_at (fun l hl => ?_) hx rfl fun j hj l hl => ?_), gx, ?_⟩
  · have := hle l hl
    rw [gx, hg l (len l hl)] at this
    omega
  · have := hb j hj l hl
    rw [gx, hg l (len l (List.mem_of_getElem? hl))] at this
    exact fun e => this (by rw [e])
  · rw [gx, ← count_cast f (f x)]
    congr 1
    exact List.map_congr_left fun l hl => hg l (len l hl)
theorem ans_best {r : Ranks} {b : Best} (h : Sj11.bestBy r.cost r.lists = some b) : ansOf r .best = ((b.far : Nat) : Int) :: ((b.many : Nat) : Int) :: zs b.row := by
  have h' : r.best = some b := h
  show (Sj11.toldBest r.best).v :: (Sj11.toldBest r.best).l = _
  rw [h']
  rfl
theorem ans_fair {r : Ranks} {b : Best} (h : Sj11.bestBy r.worst r.lists = some b) : ansOf r .fair = ((b.far : Nat) : Int) :: ((b.many : Nat) : Int) :: zs b.row := by
  have h' : r.fair = some b := h
  show (Sj11.toldBest r.fair).v :: (Sj11.toldBest r.fair).l = _
  rw [h']
  rfl
/-! ### plain -/
def keyed (r : Ranks) (i : Nat) : Int × Int := (r.earned i, (i : Int))
theorem byOld_is (r : Ranks) : (toM r).byOld = (List.range r.count).map (keyed r) := by
  unfold M.byOld keyed
  rw [toM_len]
  exact List.map_congr_left fun i _ => by rw [earned_is]
theorem eqv_keyed (r : Ranks) (z : Int × Int) : (SrtO.eqv NrS.ltK z ∘ keyed r) = fun i => decide (r.earned i = z.1) := by
  funext i
  show SrtO.eqv NrS.ltK z (keyed r i) = _
  by_cases c : r.earned i = z.1
  · rw [decide_eq_true c, SrtO.eqv_iff]
    refine ⟨decide_eq_false (p := z.1 < r.earned i) (by omega), decide_eq_false (p := r.earned i < z.1) (by omega)⟩
  · rw [decide_eq_false c]
    cases e : SrtO.eqv NrS.ltK z (keyed r i) with
    | false => rfl
    | true =>
      obtain ⟨h1, h2⟩ := SrtO.eqv_iff.mp e
      have h1' := of_decide_eq_false (p := z.1 < r.earned i) h1
      have h2' := of_decide_eq_false (p := r.earned i < z.1) h2
      exact absurd (by omega) c
theorem order_stb (r : Ranks) : SrtO.Stb NrS.ltK ((order r).map (keyed r)) (toM r).byOld := by
  rw [byOld_is]
  refine ⟨(order_perm r).map _, fun z => ?_⟩
  rw [List.filter_map, List.filter_map, eqv_keyed, order_class]
theorem order_srt (r : Ranks) : SrtO.Srtd NrS.ltK ((order r).map (keyed r)) := by
  refine List.pairwise_map.mpr ((order_sorted r).imp fun {a b} h => ?_)
  rw [le_iff] at h
  exact decide_eq_false (p := r.earned b < r.earned a) (by omega)
theorem whose_order (r : Ranks) : whoseOf ((order r).map (keyed r)) = order r := by
  unfold whoseOf
  rw [List.map_map]
  have e : ((fun p : Int × Int => p.2.toNat) ∘ keyed r) = id := by
    funext i
    rfl
  rw [e, List.map_id]
theorem places_is {r : Ranks} {ps : List (Int × Int)} (srt : SrtO.Srtd NrS.ltK ps) (stb : SrtO.Stb NrS.ltK ps (toM r).byOld) : placesOf (toM r).more.length ps = r.plain := by
  have o := order_stb r
  have e : ps = (order r).map (keyed r) := SrtO.stb_uniq NrS.swo_ltK srt (order_srt r) ⟨stb.perm.trans o.perm.symm, fun x => (stb.cls x).trans (o.cls x).symm⟩
  rw [e]
  unfold placesOf
  rw [whose_order, toM_len]
  exact (plain_eq r).symm
theorem ans_plain (r : Ranks) : ansOf r .plain = (toM r).sumOf r.plain :: (if ((toM r).wrong (zs r.plain)).isNone = true then 1 else 0) :: zs r.plain := by
  have hl := plain_len r
  rw [sumOf_is hl, wrong_is r r.plain hl, ← plain_right]
  show ((r.cost r.plain : Nat) : Int) :: ((((if r.right r.plain = true then 1 else 0) : Nat) : Int) :: zs r.plain) = _
  cases r.right r.plain <;> rfl
end Nr
set_option Elab.async false
set_option linter.all false
set_option maxRecDepth 100000
set_option maxHeartbeats 4000000
/-! carry_out (as far as it goes), answer_one, answers -/
namespace Nr
open PySem PySem.Spec PyProof.Rows L2
open Sj11 (Ranks Wrestler)
abbrev sAnswers : Stmt := top 18
abbrev sOne : Stmt := top 20
abbrev sCarry : Stmt := top 21
structure Txt2 (mg : Str → Option Value) : Prop where
  begins : ∃ t, mg "BEGINS" = some (.int 0 t)
  wrestler : ∃ t, mg "WRESTLER" = some (.int 1 t)
  check : ∃ t, mg "CHECK" = some (.int 2 t)
  best : ∃ t, mg "BEST" = some (.int 3 t)
  fair : ∃ t, mg "FAIR" = some (.int 4 t)
  plain : ∃ t, mg "PLAIN" = some (.int 5 t)
section
variable {P : Program} {w : World} {K : PySem.W.Frag} {mg : Str → Option Value} {base : Heap} {C CNA CNR CCB fI : Addr}
/-- the tournament's own change of state: from l to l', of the heap all else as it was -/
structure Went (C : Addr) (H H' : Hp) (a l l' : Addr) (m : M) : Prop where
  at_ : TAt C H' a l' m
  new : l' = l ∨ H l' = none
  keep : ∀ b o, H b = some o → b ≠ a → b ≠ l → H' b = some o
theorem Went.same {C : Addr} {H H' : Hp} {a l : Addr} {m : M} (t : TAt C H a l m) (s : Same H H') : Went C H H' a l l m := ⟨t.keep s, .inl rfl, fun b o e _ _ => s b o e⟩
theorem Went.more {C : Addr} {H H' H2 : Hp} {a l l' : Addr} {m : M} (g : Went C H H' a l l' m) (s : Same H' H2) : Went C H H2 a l l' m := ⟨g.at_.keep s, g.new, fun b o e n1 n2 => s b o (g.keep b o e n1 n2)⟩
/-- what is asked of a call of carry_out and answer_one -/
structure Asks (K : PySem.W.Frag) (C : Addr) (Ok : Sj11.Call → Prop) (H : Hp) (a l g : Addr) (r : Ranks) (n : Int) (xs : List Int) (q : Sj11.Call) : Prop where
  at_ : TAt C H a l (toM r)
  good : Good r
  okc : Okc (n :: xs) q
  ok : Ok q
  given : SqL K H g (xs.map V.int)
/-- a refusal leaves as it is told -/
def leaves (CNA CNR CCB : Addr) (E : XK) (H' : Hp) : Ref → Prop
  | .na => E (.ref CNA) none H'
  | .nr => E (.ref CNR) none H'
  | .cb i => ∀ d, H' d = some (.xd [(("who" : Str), .int (i : Nat))]) → E (.ref CCB) (some d) H'
def spCarry (K : PySem.W.Frag) (C CNA CNR CCB : Addr) (Ok : Sj11.Call → Prop) : Sp := fun vs H Q E => ∃ (a l g : Addr) (r : Ranks) (n : Int) (xs : List Int) (q : Sj11.Call), vs = [.ref a, .int n, .ref g] ∧ Asks K C Ok H a l g r n xs q ∧
  (∀ x, refusal r q = some x → ∀ H', Same H H' → leaves CNA CNR CCB E H' x) ∧
  (refusal r q = none → ∀ (H' : Hp) (l' p : Addr), Went C H H' a l l' (toM (Sj11.step r q).1) → H p = none → H' p = some (.lst ((ansOf r q).map V.int)) → p ≠ l' → Q (.ref p) H')
def spOne (K : PySem.W.Frag) (C : Addr) (Ok : Sj11.Call → Prop) : Sp := fun vs H Q _ => ∃ (a l g : Addr) (r : Ranks) (n : Int) (xs : List Int) (q : Sj11.Call), vs = [.ref a, .int n, .ref g] ∧ Asks K C Ok H a l g r n xs q ∧
  (∀ (H' : Hp) (l' p : Addr), Went C H H' a l l' (toM (Sj11.step r q).1) → H p = none → H' p = some (.lst ((ansOf r q).map V.int)) → p ≠ l' → Q (.ref p) H')
theorem scOne : FnScope ["tournament", "number", "given", "refusal"] ["tournament", "number", "given"] (defScope sOne) := ⟨rfl, rfl, rfl, by decide +kernel, rfl, by decide +kernel, by decide +kernel⟩
/-- the three clauses -/
def refusals (CNA CNR CCB : Addr) : List Cl :=
  [⟨.ref CNA, none, fun _ _ _ => tRet (tLst (tCons (tUn (rU fun i => .int (-i)) (tC (.int 1))) tNil))⟩,
   ⟨.ref CNR, none, fun _ _ _ => tRet (tLst (tCons (tUn (rU fun i => .int (-i)) (tC (.int 5))) tNil))⟩,
   ⟨.ref CCB, some 3, fun a cls d => tRet (tLst (tCons (tUn (rU fun i => .int (-i)) (tC (.int 6))) (tCons (tWhoCb CCB a cls d (tVar 3)) tNil)))⟩]
theorem ok_one {Ok : Sj11.Call → Prop} {k : Nat} {f fC : Addr} {fd fdC : FuncData} (F : Fun K "answer_one" "answer_one" sOne f fd) (T : Txt K mg C CNA CNR CCB fI)
    (GC : ∀ base : Heap, FnOk P w K mg base (L2.CX P w) k fC fdC ["tournament", "number", "given"] (spCarry K C CNA CNR CCB Ok)) (gC : mg "carry_out" = some (.ref fC)) (kC : PySem.W.keepIn K (.ref fC) = true) (bC : Binds K fdC ["tournament", "number", "given"] []) :
    FnOk P w K mg base CX0 (k + 1) f fd ["tournament", "number", "given"] (spOne K C Ok) := by
  refine F.ok scOne (fun vs H Q E h => ?_) (fun cdv A outer s H vs Q E hr h => ?_)
  · obtain ⟨a, l, g, r, n, xs, q, rfl, _⟩ := h
    rfl
  · refine ⟨_, pss_one (ps_try_cls (l := refusals CNA CNR CCB) (tb := fun W => tRet (tCallS (spCarry K C CNA CNR CCB Ok) (WE W) (tCons (tVar 0) (tCons (tVar 1) (tCons (tVar 2) tNil))))) (Wout := fun _ _ _ _ => False) rfl rfl takes0
      (fun W pn xe tk _ => pss_one (ps_ret (by exact (pe_callS (GC _) hr rfl gC kC bC (fun σ => passAt tk σ) (by exact (pa_cons (pv 0) (pa_cons (pv 1) (pa_cons (pv 2) pa_nil))))))))
      (.bare ⟨rfl, by decide, .inl T.gNA⟩ (fun a oe cls d pn hz hf => pss_one (ps_ret (pe_lst (pa_cons (pe_un un_neg pe_int) pa_nil))))
      (.bare ⟨rfl, by decide, .inl T.gNR⟩ (fun a oe cls d pn hz hf => pss_one (ps_ret (pe_lst (pa_cons (pe_un un_neg pe_int) pa_nil))))
      (.named ⟨rfl, by decide, .inl T.cb.gC⟩ scOne.nd rfl rfl (fun a oe cls d pn hz hf => pss_one (ps_ret (pe_lst (pa_cons (pe_un un_neg pe_int) (pa_cons (pe_whoCb T.cb hz hf (pv 3)) pa_nil))))) .nil)))), ?_⟩
    obtain ⟨a, l, g, r, n, xs, q, rfl, ask, kk⟩ := h
    have fin : ∀ (x : Ref), refusal r q = some x → ∀ (H' : Hp) (p : Addr), Same H H' → H' p = none → Q (.ref p) (upd H' p (.lst (x.ans.map V.int))) := fun x hx H' p s' np => by
      obtain ⟨e1, e2⟩ := refused hx
      refine kk _ l p ?_ (s'.free np) (by rw [e2]; exact upd_same) (fun z => ?_)
      · rw [e1]
        exact Went.same ask.at_ (s'.trans (Same.upd np))
      · rw [z, s' _ _ ask.at_.lst] at np
        cases np
    refine ⟨_, rfl, _, rfl, _, rfl, a, l, g, r, n, xs, q, rfl, ask, fun x hx H' s' => ?_, fun hx => kk⟩
    cases x with
    | na => exact ⟨true, T.eAA, fun _ a0 _ => ⟨_, rfl, by show 1 ≤ sizeLine; decide, fun p np => fin _ hx H' p s' np⟩, fun z => Bool.noConfusion z⟩
    | nr => exact ⟨false, T.eRA, fun z => Bool.noConfusion z, fun _ => ⟨true, T.eRR, fun _ a0 _ => ⟨_, rfl, by show 1 ≤ sizeLine; decide, fun p np => fin _ hx H' p s' np⟩, fun z => Bool.noConfusion z⟩⟩
    | cb i => exact fun d hd => ⟨false, T.eCA, fun z => Bool.noConfusion z, fun _ => ⟨false, T.eCR, fun z => Bool.noConfusion z, fun _ => ⟨true, T.eCC, fun _ a0 _ =>
        ⟨_, rfl, _, rfl, rfl, rfl, d, _, rfl, hd, by show 2 ≤ sizeLine; decide, fun p np => fin _ hx H' p s' np⟩, fun z => Bool.noConfusion z⟩⟩⟩
end
end Nr
set_option Elab.async false
set_option linter.all false
set_option maxRecDepth 100000
set_option maxHeartbeats 4000000
/-! answers -/
namespace Nr
open PySem PySem.Spec PyProof.Rows L2
open Sj11 (Ranks Wrestler)
theorem okcs_length : ∀ {cs : List (List Int)} {qs : List Sj11.Call}, Okcs cs qs → qs.length = cs.length := by
  intro cs qs h
  induction h with
  | nil => rfl
  | cons _ _ ih => rw [List.length_cons, List.length_cons, ih]
theorem okcs_at : ∀ {cs : List (List Int)} {qs : List Sj11.Call}, Okcs cs qs → ∀ {i : Nat} {c : List Int}, cs[i]? = some c → ∃ q, qs[i]? = some q ∧ Okc c q := by
  intro cs qs h
  induction h with
  | nil => intro i c e; simp at e
  | @cons c q cs qs h _ ih =>
    intro i d e
    cases i with
    | zero =>
      have e' : c = d := Option.some.inj e
      subst e'
      exact ⟨q, rfl, h⟩
    | succ i => exact ih (i := i) e
theorem okcs_ne : ∀ {cs : List (List Int)} {qs : List Sj11.Call}, Okcs cs qs → ∀ c ∈ cs, c ≠ [] := by
  intro cs qs o
  induction o with
  | nil => intro c hc; cases hc
  | cons h _ ih =>
    intro c hc
    cases hc with
    | head => cases h <;> (intro z; cases z)
    | tail _ hc => exact ih c hc
section
variable {P : Program} {w : World} {K : PySem.W.Frag} {mg : Str → Option Value} {base : Heap} {C CNA CNR CCB fI : Addr}
def spAns (K : PySem.W.Frag) (Ok : Sj11.Call → Prop) : Sp := fun vs H Q _ => ∃ (g : Addr) (cs : List (List Int)) (qs : List Sj11.Call), vs = [.ref g] ∧ SqL K H g ((encs cs).map V.int) ∧ Okcs cs qs ∧ cs.length ≤ 60 ∧ (encs cs).length ≤ 800 ∧ (∀ q ∈ qs, Ok q) ∧
  ∀ (H' : Hp) (p : Addr), H' p = some (.lst ((tolds Sj11.init qs).map V.int)) → Q (.ref p) H'
theorem scAns : FnScope ["calls", "tournament", "told", "number", "given", "answer"] ["calls"] (defScope sAnswers) := ⟨rfl, rfl, rfl, by decide +kernel, rfl, by decide +kernel, by decide +kernel⟩
theorem ok_answers {Ok : Sj11.Call → Prop} {k : Nat} {f fN fR fO : Addr} {fd fdN fdR fdO : FuncData} (hk : 2 ≤ k) (F : Fun K "answers" "answers" sAnswers f fd) (T : Txt K mg C CNA CNR CCB fI) (M : Mk K C fN)
    (FN : Fun K "__init__" "Tournament.__init__" sInit fN fdN) (bN : Binds K fdN ["self"] [])
    (FR : Fun K "read_calls" "read_calls" sRead fR fdR) (bR : Binds K fdR ["calls"] []) (gR : mg "read_calls" = some (.ref fR))
    (GO : FnOk P w K mg base CX0 k fO fdO ["tournament", "number", "given"] (spOne K C Ok)) (gO : mg "answer_one" = some (.ref fO)) (kO : PySem.W.keepIn K (.ref fO) = true) (bO : Binds K fdO ["tournament", "number", "given"] []) :
    FnOk P w K mg base CX0 (k + 1) f fd ["calls"] (spAns K Ok) := by
  have GN : FnOk P w K mg base CX0 1 fN fdN ["self"] (spInit C) := ok_init FN T
  have GR : FnOk P w K mg base CX0 1 fR fdR ["calls"] (spRead K) := ok_read FR T
  refine F.ok scAns (fun vs H Q E h => ?_) (fun cdv A outer s H vs Q E hr h => ?_)
  · obtain ⟨g, cs, qs, rfl, _⟩ := h
    rfl
  · have hr1 : Room 1 _ := hr.mono (by omega)
    have hr2 : Room 2 _ := hr.mono hk
    refine ⟨_, pss_cons (ps_set (i := 1) scAns.nd rfl (Or.inl rfl) (pe_make0 M GN hr2 rfl T.gC bN .nil pass0))
      (pss_cons (ps_set (i := 2) scAns.nd rfl (Or.inl rfl) (pe_lst pa_nil))
      (pss_cons (ps_for PassesOwn.never rfl (pi_list (pe_call GR hr1 rfl gR FR.kp bR .nil pass0 (pa_cons (pv 0) pa_nil))) (pg_tup rfl (pgs_cons (pg_name (i := 3) scAns.nd rfl (Or.inl rfl)) (pgs_cons (pg_name (i := 4) scAns.nd rfl (Or.inl rfl)) pgs_nil)))
        (pss_cons (ps_set (i := 5) scAns.nd rfl (Or.inl rfl) (pe_call GO hr rfl gO kO bO .nil pass0 (pa_cons (pv 1) (pa_cons (pv 3) (pa_cons (pv 4) pa_nil)))))
        (pss_cons (ps_expr (pe_bm PySem.F.plainAttrs_list PySem.F.slot_list_append PySem.F.type_list_append mt_append (pv 2) (pa_cons (pe_callB call_len_seq (by rfl) T.len PySem.boot_len (pa_cons (pv 5) pa_nil)) pa_nil)))
        (pss_one (ps_expr (pe_bm PySem.F.plainAttrs_list PySem.F.slot_list_extend PySem.F.type_list_extend mt_extend (pv 2) (pa_cons (pv 5) pa_nil)))))))
      (pss_one (ps_ret (pv 2))))), ?_⟩
    obtain ⟨g, cs, qs, rfl, hg, ok, h60, h800, hOk, kk⟩ := h
    have hlen := okcs_length ok
    intro x dx nx nd ne
    refine ⟨x, dx, rfl, upd_same, fun H1 l0 t0 nl kp => ⟨rfl, ?_⟩⟩
    have s1 : Same H H1 := Same.made nx nd kp
    refine ⟨by show 0 ≤ sizeLine; exact Nat.zero_le _, fun t ht => ?_⟩
    have s2 : Same H1 (upd H1 t (.lst [])) := Same.upd ht
    have hg2 := (s1.trans s2).seq hg
    refine ⟨_, rfl, g, cs, rfl, hg2, h60, okcs_ne ok, h800, fun H3 p ts s3 np R => ⟨p, rfl, ⟨_, SqL.of R.lst⟩, ?_⟩⟩
    -- what stands apart
    obtain ⟨d0, hx1⟩ := t0.ins
    have x2 : upd H1 t (.lst []) x = some (.ins C d0 (TF 0 l0)) := s2 _ _ hx1
    have l2 : upd H1 t (.lst []) l0 = some (.lst []) := s2 _ _ t0.lst
    have t2 : upd H1 t (.lst []) t = some (.lst []) := upd_same
    have apart : ∀ {b : Addr}, upd H1 t (.lst []) b = none → b ≠ x ∧ b ≠ l0 ∧ b ≠ t := fun {b} e => ⟨fun z => (by rw [z, x2] at e; cases e), fun z => (by rw [z, l2] at e; cases e), fun z => (by rw [z, t2] at e; cases e)⟩
    have xt : x ≠ t := ne_of_none hx1 ht
    have l0t : l0 ≠ t := ne_of_none t0.lst ht
    obtain ⟨px, pl, pt⟩ := apart np
    refine for_list (K := K) (a := p) (xs := ts.map V.ref) (fun i σ H' => ∃ (l : Addr) (u v z : Option V), σ = [some (.ref g), some (.ref x), some (.ref t), u, v, z] ∧ TAt C H' x l (toM (runR Sj11.init (qs.take i))) ∧ (l = l0 ∨ H3 l = none) ∧ l ≠ t ∧
        H' t = some (.lst ((tolds Sj11.init (qs.take i)).map V.int)) ∧ ∀ b o, H3 b = some o → b ≠ x → b ≠ l0 → b ≠ t → H' b = some o)
      ⟨l0, none, none, none, rfl, (t0.keep s2).keep s3, .inl rfl, l0t, s3 _ _ t2, fun b o e _ _ _ => e⟩ (fun i σ H' _ iv => ?_) ?_ ?_
    · obtain ⟨_, _, _, _, _, _, _, _, _, keep⟩ := iv
      exact SqL.of (keep _ _ R.lst px pl pt)
    · rintro i y σ H4 hi ⟨l, u, v, z, rfl, at_, lnew, lt, told, keep⟩
      have hi' : i < cs.length := by
        have := (List.getElem?_eq_some_iff.mp hi).1
        rw [List.length_map, R.len] at this
        exact this
      obtain ⟨T1, q1, n, xs, ec, et, h3T, h3q, n2T, n2q, _⟩ := R.each i cs[i] (List.getElem?_eq_getElem hi')
      have ey : y = V.ref T1 := by
        rw [List.getElem?_map, et] at hi
        exact (Option.some.inj hi).symm
      subst ey
      obtain ⟨q, hq, okq⟩ := okcs_at ok (List.getElem?_eq_getElem hi')
      rw [ec] at okq
      obtain ⟨Tx, Tl, Tt⟩ := apart n2T
      obtain ⟨Qx, Ql, Qt⟩ := apart n2q
      have h4T := keep _ _ h3T Tx Tl Tt
      have h4q := keep _ _ h3q Qx Ql Qt
      have good := runR_good (qs.take i) good_init
      refine ⟨T1, _, rfl, SqT.of h4T, rfl, _, _, rfl, _, _, rfl, rfl, ?_⟩
      refine ⟨_, rfl, _, rfl, _, rfl, x, l, q1, _, n, xs, q, rfl, ⟨at_, good, okq, hOk q (List.mem_of_getElem? hq), SqL.of h4q⟩, fun H5 l' a went na ha nal => ?_⟩
      have h5t : H5 t = some (.lst ((tolds Sj11.init (qs.take i)).map V.int)) := went.keep _ _ told (Ne.symm xt) (Ne.symm lt)
      have hat : a ≠ t := fun e => by
        rw [e, told] at na
        cases na
      have tl := tolds_length (qs.take i) good_init
      have al := ans_length good q
      have ql : (qs.take i).length ≤ 60 := by
        rw [List.length_take]
        omega
      have l't : l' ≠ t := by
        rcases went.new with e | e
        · rw [e]
          exact lt
        · intro zz
          rw [zz, told] at e
          cases e
      refine ⟨_, rfl, .inl ⟨rfl, _, SqL.of h5t⟩, _, rfl, a, _, rfl, .inl (SqL.of ha), t, _, _, rfl, rfl, h5t, small1000 (by rw [List.length_map]; omega), ?_⟩
      have ha6 : ∀ o, upd H5 t o a = some (.lst ((ansOf (runR Sj11.init (qs.take i)) q).map V.int)) := fun o => (upd_ne hat).trans ha
      refine ⟨_, rfl, .inl ⟨rfl, _, SqL.of upd_same⟩, _, rfl, t, a, _, _, rfl, rfl, upd_same, ha6 _, ?_, ?_⟩
      · rw [List.length_append, List.length_map, List.length_map]
        refine Nat.le_of_lt (small1000 ?_)
        show (tolds Sj11.init (qs.take i)).length + 1 + (ansOf (runR Sj11.init (qs.take i)) q).length ≤ 1000
        omega
      · have two : qs.take (i + 1) = qs.take i ++ [q] := take_one hq
        have tw : ∀ o1 o2 b o, H5 b = some o → b ≠ t → upd (upd H5 t o1) t o2 b = some o := fun o1 o2 b o e nb => (upd_ne nb).trans ((upd_ne nb).trans e)
        refine ⟨l', _, _, _, rfl, ?_, ?_, l't, ?_, fun b o e b1 b2 b3 => ?_⟩
        · rw [two, runR_more]
          obtain ⟨d5, hx5⟩ := went.at_.ins
          exact ⟨⟨d5, tw _ _ _ _ hx5 xt⟩, tw _ _ _ _ went.at_.lst l't⟩
        · rcases went.new with e | e
          · rw [e]
            exact lnew
          · by_cases e0 : l' = l0
            · exact .inl e0
            · cases e3 : H3 l' with
              | none => exact .inr rfl
              | some o =>
                have lx : l' ≠ x := Ne.symm went.at_.ne
                have := keep _ _ e3 lx e0 l't
                rw [e] at this
                cases this
        · rw [two, tolds_more]
          refine upd_same.trans (congrArg (fun l => some (HO.lst l)) ?_)
          unfold toldOne
          rw [List.map_append, List.map_cons, List.length_map, List.append_assoc]
          rfl
        · have bl : b ≠ l := fun zz => by
            rcases lnew with e1 | e1
            · exact b2 (zz.trans e1)
            · rw [zz, e1] at e
              cases e
          exact tw _ _ _ _ (went.keep _ _ (keep _ _ e b1 b2 b3) b1 bl) b3
    · rintro σ H4 ⟨l, u, v, z, rfl, at_, lnew, lt, told, keep⟩
      refine ⟨_, rfl, kk _ t ?_⟩
      rw [List.length_map, R.len, ← hlen, List.take_length] at told
      exact told
end
end Nr
set_option Elab.async false
set_option linter.all false
set_option maxRecDepth 100000
set_option maxHeartbeats 4000000
/-! carry_out -/
namespace Nr
open PySem PySem.Spec PyProof.Rows L2
open Sj11 (Ranks Wrestler)
/-- every call -/
def AnyCall : Sj11.Call → Prop := fun _ => True
theorem moreOf_app (r : Ranks) (w : Wrestler) : toM { r with wrestlers := r.wrestlers ++ [w] } = ⟨(toM r).worth, (toM r).more ++ [(w.wins : Int) - (w.losses : Int)]⟩ := by
  show (⟨((r.worth : Nat) : Int), (r.wrestlers ++ [w]).map moreOf⟩ : M) = ⟨((r.worth : Nat) : Int), r.wrestlers.map moreOf ++ [(w.wins : Int) - (w.losses : Int)]⟩
  rw [List.map_append]
  rfl
section
variable {P : Program} {w : World} {K : PySem.W.Frag} {mg : Str → Option Value} {base : Heap} {C CNA CNR CCB fI : Addr}
theorem at0 {xs : List V} {v : V} (h : xs[0]? = some v) : atI xs 0 = some v := atI_nat (j := 0) h
theorem at1 {xs : List V} {v : V} (h : xs[1]? = some v) : atI xs 1 = some v := atI_nat (j := 1) h
theorem scCarry : FnScope ["tournament", "number", "given"] ["tournament", "number", "given"] (defScope sCarry) := ⟨rfl, rfl, rfl, by decide +kernel, rfl, by decide +kernel, by decide +kernel⟩
theorem dec_ne {i j : Int} (h : i ≠ j) : decide (V.int i = V.int j) = false := decide_eq_false fun e => h (V.int.inj e)
theorem ok_carry {f fB fW fK fT fA fP : Addr} {fd fdB fdW fdK fdT fdA fdP : FuncData} (F : Fun K "carry_out" "carry_out" sCarry f fd) (T : Txt K mg C CNA CNR CCB fI) (T2 : Txt2 mg)
    (GB : ∀ base : Heap, FnOk P w K mg base (L2.CX P w) 1 fB fdB ["self", "worth"] (spBegins C CNA)) (bB : Binds K fdB ["self", "worth"] []) (mB : Meth K C "begins" fB)
    (GW : ∀ base : Heap, FnOk P w K mg base (L2.CX P w) 1 fW fdW ["self", "won", "lost"] (spWrestler C CNA CNR)) (bW : Binds K fdW ["self", "won", "lost"] []) (mW : Meth K C "wrestler" fW)
    (GK : ∀ base : Heap, FnOk P w K mg base (L2.CX P w) 4 fK fdK ["self", "new_list"] (spCheck K C CNA CCB)) (bK : Binds K fdK ["self", "new_list"] []) (mK : Meth K C "check" fK)
    (GT : ∀ base : Heap, FnOk P w K mg base CX0 4 fT fdT ["self"] (spNear C M.sumOf)) (bT : Binds K fdT ["self"] []) (mT : Meth K C "best" fT)
    (GA : ∀ base : Heap, FnOk P w K mg base CX0 4 fA fdA ["self"] (spNear C M.mostOf)) (bA : Binds K fdA ["self"] []) (mA : Meth K C "fair" fA)
    (GP : ∀ base : Heap, FnOk P w K mg base CX0 5 fP fdP ["self"] (spPlain C)) (bP : Binds K fdP ["self"] []) (mP : Meth K C "plain" fP) :
    FnOk P w K mg base (L2.CX P w) 6 f fd ["tournament", "number", "given"] (spCarry K C CNA CNR CCB AnyCall) := by
  refine F.okX scCarry (fun vs H Q E h => ?_) (fun cdv A outer s H vs Q E hr h => ?_)
  · obtain ⟨a, l, g, r, n, xs, q, rfl, _⟩ := h
    rfl
  · have hr1 : Room 1 _ := hr.mono (by decide)
    have hr4 : Room 4 _ := hr.mono (by decide)
    obtain ⟨tt, ht⟩ := T2.best
    obtain ⟨tf, hf⟩ := T2.fair
    obtain ⟨tp, hp⟩ := T2.plain
    obtain ⟨tb, hb⟩ := T2.begins
    obtain ⟨tw, hw⟩ := T2.wrestler
    obtain ⟨tc, hc⟩ := T2.check
    refine ⟨_, pss_cons (ps_if (pt_cmpR op_eq (pv 1) (pe_glob (v := .int 0) rfl hb ⟨_, rfl⟩) (nomark _))
        (pss_cons (ps_expr (pe_meth (pv 0) T.cl mB (GB _) hr1 bB .nil (passes_call (takes_of rfl rfl rfl rfl) (fun _ _ _ _ h => h)) (pa_cons (pe_ix ix_list (pv 2) pe_int (fun _ _ => rfl)) pa_nil)))
        (pss_one (ps_ret (pe_lst (pa_cons pe_int pa_nil))))) pss_nil)
      (pss_cons (ps_if (pt_cmpR op_eq (pv 1) (pe_glob (v := .int 1) rfl hw ⟨_, rfl⟩) (nomark _))
        (pss_one (ps_ret (pe_lst (pa_cons (pe_meth (pv 0) T.cl mW (GW _) hr1 bW .nil (passes_call (takes_of rfl rfl rfl rfl) (fun _ _ _ _ h => h)) (pa_cons (pe_ix ix_list (pv 2) pe_int (fun _ _ => rfl)) (pa_cons (pe_ix ix_list (pv 2) pe_int (fun _ _ => rfl)) pa_nil))) pa_nil)))) pss_nil)
      (pss_cons (ps_if (pt_cmpR op_eq (pv 1) (pe_glob (v := .int 2) rfl hc ⟨_, rfl⟩) (nomark _))
        (pss_one (ps_ret (pe_meth (pv 0) T.cl mK (GK _) hr4 bK .nil (passes_call (takes_of rfl rfl rfl rfl) (fun _ _ _ _ h => h)) (pa_cons (pv 2) pa_nil)))) pss_nil)
      (pss_cons (ps_if (pt_cmpR op_eq (pv 1) (pe_glob (v := .int 3) rfl ht ⟨_, rfl⟩) (nomark _)) (pss_one (ps_ret (pe_meth0 (pv 0) T.cl mT (GT _) hr4 bT .nil pass0))) pss_nil)
      (pss_cons (ps_if (pt_cmpR op_eq (pv 1) (pe_glob (v := .int 4) rfl hf ⟨_, rfl⟩) (nomark _)) (pss_one (ps_ret (pe_meth0 (pv 0) T.cl mA (GA _) hr4 bA .nil pass0))) pss_nil)
      (pss_cons (ps_if (pt_cmpR op_eq (pv 1) (pe_glob (v := .int 5) rfl hp ⟨_, rfl⟩) (nomark _)) (pss_one (ps_ret (pe_meth0 (pv 0) T.cl mP (GP _) hr bP .nil pass0))) pss_nil)
      (pss_one ps_never)))))), ?_⟩
    obtain ⟨a, l, g, r, n, xs, q, rfl, ask, kN, kS⟩ := h
    obtain ⟨at_, good, okc, ok, hg⟩ := ask
    obtain ⟨dx, ha⟩ := at_.ins
    refine ⟨_, rfl, rfl, _, rfl, ?_⟩
    cases okc with
    | begins v hv =>
      refine if_true_of (decide_eq_true rfl) ?_
      refine ⟨_, rfl, a, dx, _, rfl, ha, tf_none _ _ (by decide +kernel) (by decide +kernel), _, rfl, g, _, _, _, rfl, rfl, hg, at0 (v := V.int (v : Nat)) rfl, ?_⟩
      refine ⟨a, l, toM r, (v : Nat), rfl, at_, fun c => ?_, fun c H' l' t' nl keep => ?_⟩
      · exact kN .na (if_pos (by omega)) H (Same.refl H)
      · have cN : refusal r (.begins v) = none := if_neg (by omega)
        have cw : ¬ Sj11.WORTH < v := by
          show ¬ 30 < v
          omega
        refine ⟨by show 1 ≤ sizeLine; decide, fun p np => ?_⟩
        have e1 : (Sj11.step r (.begins v)).1 = ⟨v, []⟩ := by rw [step_begins, if_neg cw]
        have e2 : ansOf r (.begins v) = [0] := by
          unfold ansOf
          rw [step_begins, if_neg cw]
          rfl
        refine kS cN _ l' p ?_ ?_ (by rw [e2]; exact upd_same) (fun z => ?_)
        · rw [e1]
          exact Went.more ⟨t', .inr nl, fun b o e n1 n2 => keep b o e n1⟩ (Same.upd np)
        · cases e : H p with
          | none => rfl
          | some o =>
            by_cases pa : p = a
            · rw [pa] at np
              obtain ⟨d', h'⟩ := t'.ins
              rw [h'] at np
              cases np
            · rw [keep _ _ e pa] at np
              cases np
        · rw [z, t'.lst] at np
          cases np
    | wrestler i j hi hj =>
      refine if_false_of (dec_ne (by decide)) ?_
      refine ⟨_, rfl, rfl, _, rfl, if_true_of (decide_eq_true rfl) ?_⟩
      refine ⟨_, rfl, a, dx, _, rfl, ha, tf_none _ _ (by decide +kernel) (by decide +kernel), _, rfl, g, _, _, _, rfl, rfl, hg, at0 (v := V.int (i : Nat)) rfl, _, rfl, g, _, _, _, rfl, rfl, hg, at1 (v := V.int (j : Nat)) rfl, ?_⟩
      have len := toM_len r
      have c6 : r.count ≤ 6 := good.count
      refine ⟨a, l, toM r, (i : Nat), (j : Nat), rfl, at_, by omega, fun c => ?_, fun c d => ?_, fun c d H' t' keep => ?_⟩
      · exact kN .na (if_pos (show 15 < i + j by omega)) H (Same.refl H)
      · exact kN .nr ((if_neg (show ¬ 15 < i + j by omega)).trans (if_pos (by omega))) H (Same.refl H)
      · have c' : ¬ Sj11.BOUTS < (Wrestler.mk i j).wins + (Wrestler.mk i j).losses := by
          show ¬ 15 < i + j
          omega
        have d' : ¬ Sj11.COUNT ≤ r.count := by
          show ¬ 6 ≤ r.count
          omega
        have cN : refusal r (.wrestler ⟨i, j⟩) = none := (if_neg (show ¬ 15 < i + j by omega)).trans (if_neg (show ¬ 6 ≤ r.count by omega))
        refine ⟨by show 1 ≤ sizeLine; decide, fun p np => ?_⟩
        have e1 : (Sj11.step r (.wrestler ⟨i, j⟩)).1 = { r with wrestlers := r.wrestlers ++ [⟨i, j⟩] } := by rw [step_wrestler, if_neg c', if_neg d']
        have e2 : ansOf r (.wrestler ⟨i, j⟩) = [((r.count : Nat) : Int)] := by
          unfold ansOf
          rw [step_wrestler, if_neg c', if_neg d']
          rfl
        refine kS cN _ l p ?_ ?_ (by rw [e2, ← len]; exact upd_same) (fun z => ?_)
        · rw [e1, moreOf_app]
          exact Went.more ⟨t', .inl rfl, fun b o e n1 n2 => keep b o e n2⟩ (Same.upd np)
        · cases e : H p with
          | none => rfl
          | some o =>
            by_cases pl : p = l
            · rw [pl, t'.lst] at np
              cases np
            · rw [keep _ _ e pl] at np
              cases np
        · rw [z, t'.lst] at np
          cases np
    | check x hl hx =>
      refine if_false_of (dec_ne (by decide)) ?_
      refine ⟨_, rfl, rfl, _, rfl, if_false_of (dec_ne (by decide)) ?_⟩
      refine ⟨_, rfl, rfl, _, rfl, if_true_of (decide_eq_true rfl) ?_⟩
      refine ⟨_, rfl, a, dx, _, rfl, ha, tf_none _ _ (by decide +kernel) (by decide +kernel), _, rfl, ?_⟩
      have hg' : SqL K H g ((zs x).map V.int) := hg
      refine ⟨a, l, g, toM r, zs x, rfl, at_, good.fit, hg', fun c H' s' => ?_, fun c i ci H' d s' hd => ?_, fun c ci H' p s' np hp => ?_⟩
      · have ct : r.told x = false := by
          cases e : r.told x with
          | false => rfl
          | true => exact absurd ((perm_told r x).mpr e) c
        exact kN .na (if_pos ct) H' s'
      · have ct := (perm_told r x).mp c
        have hxl : x.length = r.count := by
          have := ((told_perm r x).mp ct).length_eq
          rw [List.length_range] at this
          exact this
        rw [wrong_is r x hxl] at ci
        have cR : refusal r (.check x) = some (.cb i) := by
          show (if r.told x = false then some Ref.na else match r.wrong x with
            | some i => some (.cb i)
            | none => none) = some (.cb i)
          rw [if_neg (by rw [ct]; exact Bool.noConfusion), ci]
        exact kN (.cb i) cR H' s' d hd
      · have ct := (perm_told r x).mp c
        have hxl : x.length = r.count := by
          have := ((told_perm r x).mp ct).length_eq
          rw [List.length_range] at this
          exact this
        rw [wrong_is r x hxl] at ci
        have nf : ¬ r.told x = false := by rw [ct]; exact Bool.noConfusion
        have cN : refusal r (.check x) = none := by
          show (if r.told x = false then some Ref.na else match r.wrong x with
            | some i => some (.cb i)
            | none => none) = none
          rw [if_neg nf, ci]
        have e1 : (Sj11.step r (.check x)).1 = r := by rw [step_check, if_neg nf]
        have e2 : ansOf r (.check x) = [((r.cost x : Nat) : Int), ((r.worst x : Nat) : Int)] := by
          unfold ansOf
          rw [step_check, if_neg nf, ci]
          rfl
        refine kS cN H' l p ?_ np ?_ (fun z => ?_)
        · rw [e1]
          exact Went.same at_ s'
        · rw [e2, hp, cost_is r x hxl, worst_is r x hxl]
          rfl
        · rw [z, at_.lst] at np
          cases np
    | best =>
      refine if_false_of (dec_ne (by decide)) ⟨_, rfl, rfl, _, rfl, if_false_of (dec_ne (by decide)) ⟨_, rfl, rfl, _, rfl, if_false_of (dec_ne (by decide)) ⟨_, rfl, rfl, _, rfl, if_true_of (decide_eq_true rfl) ?_⟩⟩⟩
      refine ⟨_, rfl, a, dx, _, rfl, ha, tf_none _ _ (by decide +kernel) (by decide +kernel), a, l, toM r, rfl, at_, good.fit, fun i x hle hx hb H' z s' nz hz => ?_⟩
      obtain ⟨e1, e2, e3⟩ := near_is (g := M.sumOf) (f := r.cost) (fun l h => sumOf_is h) hle hx hb
      refine kS rfl H' l z (Went.same at_ s') nz ?_ (fun e => ?_)
      · rw [ans_best e1, hz, e3, e2]
        rfl
      · rw [e, at_.lst] at nz
        cases nz
    | fair =>
      refine if_false_of (dec_ne (by decide)) ⟨_, rfl, rfl, _, rfl, if_false_of (dec_ne (by decide)) ⟨_, rfl, rfl, _, rfl, if_false_of (dec_ne (by decide)) ⟨_, rfl, rfl, _, rfl, if_false_of (dec_ne (by decide)) ⟨_, rfl, rfl, _, rfl, if_true_of (decide_eq_true rfl) ?_⟩⟩⟩⟩
      refine ⟨_, rfl, a, dx, _, rfl, ha, tf_none _ _ (by decide +kernel) (by decide +kernel), a, l, toM r, rfl, at_, good.fit, fun i x hle hx hb H' z s' nz hz => ?_⟩
      obtain ⟨e1, e2, e3⟩ := near_is (g := M.mostOf) (f := r.worst) (fun l h => mostOf_is h) hle hx hb
      refine kS rfl H' l z (Went.same at_ s') nz ?_ (fun e => ?_)
      · rw [ans_fair e1, hz, e3, e2]
        rfl
      · rw [e, at_.lst] at nz
        cases nz
    | plain =>
      refine if_false_of (dec_ne (by decide)) ⟨_, rfl, rfl, _, rfl, if_false_of (dec_ne (by decide)) ⟨_, rfl, rfl, _, rfl, if_false_of (dec_ne (by decide)) ⟨_, rfl, rfl, _, rfl, if_false_of (dec_ne (by decide)) ⟨_, rfl, rfl, _, rfl, if_false_of (dec_ne (by decide)) ⟨_, rfl, rfl, _, rfl, if_true_of (decide_eq_true rfl) ?_⟩⟩⟩⟩⟩
      refine ⟨_, rfl, a, dx, _, rfl, ha, tf_none _ _ (by decide +kernel) (by decide +kernel), a, l, toM r, rfl, at_, good.fit, fun ps srt stb H' z s' nz hz => ?_⟩
      rw [places_is srt stb] at hz
      refine kS rfl H' l z (Went.same at_ s') nz ?_ (fun e => ?_)
      · rw [ans_plain, hz]
        rfl
      · rw [e, at_.lst] at nz
        cases nz
end
end Nr
set_option Elab.async false
set_option linter.all false
set_option maxRecDepth 100000
set_option maxHeartbeats 8000000
namespace Nr
open PySem PySem.Spec PyProof.Rows L2
/-- is an error of the class at S what a clause that names D takes? -/
theorem exm_is {K : PySem.W.Frag} {S D : Addr} {b : Bool} (h1 : PySem.W.subIn K (.ref D) (.type "BaseException") = some true) (h2 : PySem.W.isClsIn K D = true) (h3 : PySem.W.typeIn K (.ref D) = some (.type "type")) (h4 : PySem.W.subIn K (.ref S) (.ref D) = some b) :
    PySem.W.exmOne K (.ref S) (.ref D) = some b := by
  have e1 : (PySem.W.subIn K (.ref D) (.type "BaseException") == some true) = true := by rw [h1] <;> rfl
  have e2 : ((PySem.W.clsIn K D).isSome && PySem.W.typeIn K (.ref D) == some (.type "type")) = true := by
    have h2' : (PySem.W.clsIn K D).isSome = true := h2
    rw [h2', h3] <;> rfl
  show (if (PySem.W.subIn K (.ref D) (.type "BaseException") == some true) = true then (if ((PySem.W.clsIn K D).isSome && PySem.W.typeIn K (.ref D) == some (.type "type")) = true then PySem.W.subIn K (.ref S) (.ref D) else none) else none) = some b
  rw [if_pos e1, if_pos e2]
  exact h4
theorem all_mk {P : Program} {w : World} {K : PySem.W.Frag} {h : Heap} {mg : Str → Option Value} {fa C CNA CNR CCB f0 f1 f2 f3 f4 f5 f6 f7 f8 f9 f10 f11 f12 f13 f14 f15 f16 f17 f18 f19 f20 f21 f22 : Addr} (X : K.In h) (G : h.Ns mainGlobals mg) (hfa : mg "answers" = some (.ref fa))
    {nm q : Str} {N : Addr} {bs : List Value} {sn : List Str} {sub : List Value} {ab : Bool} {col : Option Bool} {dd : Option Addr} {m0 m1 m2 m3 m5 : Option Value}
    {od0 an0 : Option Addr} {sl0 : Array (Option Value)} {oc0 dc0 pm0 cd0 ct0 : Value}
    {od1 an1 : Option Addr} {sl1 : Array (Option Value)} {oc1 kV1 dc1 pm1 cd1 ct1 : Value}
    {od2 an2 : Option Addr} {sl2 : Array (Option Value)} {oc2 kV2 dc2 pm2 cd2 ct2 : Value}
    {od3 an3 : Option Addr} {sl3 : Array (Option Value)} {oc3 kV3 dc3 pm3 cd3 ct3 : Value}
    {od4 an4 : Option Addr} {sl4 : Array (Option Value)} {oc4 kV4 dc4 pm4 cd4 ct4 : Value}
    {od5 an5 : Option Addr} {sl5 : Array (Option Value)} {oc5 kV5 dc5 pm5 cd5 ct5 : Value}
    {od6 an6 : Option Addr} {sl6 : Array (Option Value)} {oc6 kV6 dc6 pm6 cd6 ct6 : Value}
    {od7 an7 : Option Addr} {sl7 : Array (Option Value)} {oc7 kV7 dc7 pm7 cd7 ct7 : Value}
    {od8 an8 : Option Addr} {sl8 : Array (Option Value)} {oc8 kV8 dc8 pm8 cd8 ct8 : Value}
    {od9 an9 : Option Addr} {sl9 : Array (Option Value)} {oc9 kV9 dc9 pm9 cd9 ct9 : Value}
    {od10 an10 : Option Addr} {sl10 : Array (Option Value)} {oc10 kV10 dc10 pm10 cd10 ct10 : Value}
    {od11 an11 : Option Addr} {sl11 : Array (Option Value)} {oc11 kV11 dc11 pm11 cd11 ct11 : Value}
    {od12 an12 : Option Addr} {sl12 : Array (Option Value)} {oc12 kV12 dc12 pm12 cd12 ct12 : Value}
    {od13 an13 : Option Addr} {sl13 : Array (Option Value)} {oc13 kV13 dc13 pm13 cd13 ct13 : Value}
    {od14 an14 : Option Addr} {sl14 : Array (Option Value)} {oc14 kV14 dc14 pm14 cd14 ct14 : Value}
    {od15 an15 : Option Addr} {sl15 : Array (Option Value)} {oc15 kV15 dc15 pm15 cd15 ct15 : Value}
    {od16 an16 : Option Addr} {sl16 : Array (Option Value)} {oc16 kV16 dc16 pm16 cd16 ct16 : Value}
    {od17 an17 : Option Addr} {sl17 : Array (Option Value)} {oc17 kV17 dc17 pm17 cd17 ct17 : Value}
    {od18 an18 : Option Addr} {sl18 : Array (Option Value)} {oc18 kV18 dc18 pm18 cd18 ct18 : Value}
    {od19 an19 : Option Addr} {sl19 : Array (Option Value)} {oc19 kV19 dc19 pm19 cd19 ct19 : Value}
    {od20 an20 : Option Addr} {sl20 : Array (Option Value)} {oc20 kV20 dc20 pm20 cd20 ct20 : Value}
    {od21 an21 : Option Addr} {sl21 : Array (Option Value)} {oc21 kV21 dc21 pm21 cd21 ct21 : Value}
    {od22 an22 : Option Addr} {sl22 : Array (Option Value)} {oc22 kV22 dc22 pm22 cd22 ct22 : Value}
    {w0 w1 w2 w3 w4 w5 w6 w7 w8 w9 : Tok}
    (aC : PySem.W.nsIn K mainGlobals "Tournament" = some (some (.ref C)))
    (gNA : PySem.W.nsIn K mainGlobals "NotAllowed" = some (some (.ref CNA)))
    (xNA : PySem.W.excIn K CNA [.type "Exception", .type "BaseException", .type "object"] "Exception.__new__" = true)
    (kNA : PySem.W.keepIn K (.ref CNA) = true)
    (bNA : PySem.W.subIn K (.ref CNA) (.type "BaseException") = some true)
    (tNA : PySem.W.typeIn K (.ref CNA) = some (.type "type"))
    (iNA : PySem.W.isClsIn K CNA = true)
    (gNR : PySem.W.nsIn K mainGlobals "NoRoom" = some (some (.ref CNR)))
    (xNR : PySem.W.excIn K CNR [.type "Exception", .type "BaseException", .type "object"] "Exception.__new__" = true)
    (kNR : PySem.W.keepIn K (.ref CNR) = true)
    (bNR : PySem.W.subIn K (.ref CNR) (.type "BaseException") = some true)
    (tNR : PySem.W.typeIn K (.ref CNR) = some (.type "type"))
    (iNR : PySem.W.isClsIn K CNR = true)
    (gCB : PySem.W.nsIn K mainGlobals "CannotBe" = some (some (.ref CCB)))
    (xCB : K.lookup CCB = some (PySem.excClassObj nm q CCB N bs [.type "Exception", .type "BaseException", .type "object"] true sn sub ab col dd m0 m1 m2 m3 m5 "Exception.__new__"))
    (saCB : PySem.W.findIn K (.ref CCB) "__setattr__" = some (some (.builtin "object.__setattr__")))
    (gaCB : PySem.W.findIn K (.ref CCB) "__getattribute__" = some (some (.builtin "BaseException.__getattribute__")))
    (ggCB : PySem.W.findIn K (.ref CCB) "__getattr__" = some none)
    (nbCB : PySem.W.findIn K (.ref CCB) "who" = some none)
    (iiCB : PySem.W.findIn K (.ref CCB) "__init__" = some (some (.ref f0)))
    (ti0 : PySem.W.typeIn K (.ref f0) = some (.type "function"))
    (l0 : K.lookup f0 = some ⟨oc0, od0, .func (PySem.W.fnOf "__init__" "CannotBe.__init__" (PySem.CbX.iA ⟨12, 17, 12, 21⟩ ⟨12, 23, 12, 26⟩) (PySem.CbX.iB ⟨13, 8, 13, 12⟩ ⟨13, 8, 13, 16⟩ ⟨13, 19, 13, 22⟩ ⟨13, 8, 13, 22⟩) PySem.CbX.iS .none .none dc0 pm0 an0 cd0 ct0), sl0⟩)
    (c0 : PySem.W.codeIn K cd0 "CannotBe.__init__" = true)
    (kCB : PySem.W.keepIn K (.ref CCB) = true)
    (eCB : PySem.W.subIn K (.ref CCB) (.type "BaseException") = some true)
    (tCB : PySem.W.typeIn K (.ref CCB) = some (.type "type"))
    (hCB : PySem.W.hasDictIn K CCB = true)
    (iCB : PySem.W.isClsIn K CCB = true)
    (sNANA : PySem.W.subIn K (.ref CNA) (.ref CNA) = some true)
    (sNRNA : PySem.W.subIn K (.ref CNR) (.ref CNA) = some false)
    (sNRNR : PySem.W.subIn K (.ref CNR) (.ref CNR) = some true)
    (sCBNA : PySem.W.subIn K (.ref CCB) (.ref CNA) = some false)
    (sCBNR : PySem.W.subIn K (.ref CCB) (.ref CNR) = some false)
    (sCBCB : PySem.W.subIn K (.ref CCB) (.ref CCB) = some true)
    (a1 : PySem.W.findIn K (.ref C) "__init__" = some (some (.ref f1)))
    (i1 : PySem.W.isFn K (.ref f1) = true)
    (l1 : K.lookup f1 = some ⟨oc1, od1, .func (PySem.W.fnOf "__init__" "Tournament.__init__" (defArgs sInit) (defBody sInit) (defScope sInit) .none kV1 dc1 pm1 an1 cd1 ct1), sl1⟩)
    (c1 : PySem.W.codeIn K cd1 "Tournament.__init__" = true)
    (k1 : PySem.W.keepIn K (.ref f1) = true)
    (a2 : PySem.W.findIn K (.ref C) "begins" = some (some (.ref f2)))
    (i2 : PySem.W.isFn K (.ref f2) = true)
    (l2 : K.lookup f2 = some ⟨oc2, od2, .func (PySem.W.fnOf "begins" "Tournament.begins" (defArgs sBegins) (defBody sBegins) (defScope sBegins) .none kV2 dc2 pm2 an2 cd2 ct2), sl2⟩)
    (c2 : PySem.W.codeIn K cd2 "Tournament.begins" = true)
    (k2 : PySem.W.keepIn K (.ref f2) = true)
    (a3 : PySem.W.findIn K (.ref C) "wrestler" = some (some (.ref f3)))
    (i3 : PySem.W.isFn K (.ref f3) = true)
    (l3 : K.lookup f3 = some ⟨oc3, od3, .func (PySem.W.fnOf "wrestler" "Tournament.wrestler" (defArgs sWrestler) (defBody sWrestler) (defScope sWrestler) .none kV3 dc3 pm3 an3 cd3 ct3), sl3⟩)
    (c3 : PySem.W.codeIn K cd3 "Tournament.wrestler" = true)
    (k3 : PySem.W.keepIn K (.ref f3) = true)
    (a4 : PySem.W.findIn K (.ref C) "check" = some (some (.ref f4)))
    (i4 : PySem.W.isFn K (.ref f4) = true)
    (l4 : K.lookup f4 = some ⟨oc4, od4, .func (PySem.W.fnOf "check" "Tournament.check" (defArgs sCheck) (defBody sCheck) (defScope sCheck) .none kV4 dc4 pm4 an4 cd4 ct4), sl4⟩)
    (c4 : PySem.W.codeIn K cd4 "Tournament.check" = true)
    (k4 : PySem.W.keepIn K (.ref f4) = true)
    (a5 : PySem.W.findIn K (.ref C) "best" = some (some (.ref f5)))
    (i5 : PySem.W.isFn K (.ref f5) = true)
    (l5 : K.lookup f5 = some ⟨oc5, od5, .func (PySem.W.fnOf "best" "Tournament.best" (defArgs sBest) (defBody sBest) (defScope sBest) .none kV5 dc5 pm5 an5 cd5 ct5), sl5⟩)
    (c5 : PySem.W.codeIn K cd5 "Tournament.best" = true)
    (k5 : PySem.W.keepIn K (.ref f5) = true)
    (a6 : PySem.W.findIn K (.ref C) "fair" = some (some (.ref f6)))
    (i6 : PySem.W.isFn K (.ref f6) = true)
    (l6 : K.lookup f6 = some ⟨oc6, od6, .func (PySem.W.fnOf "fair" "Tournament.fair" (defArgs sFair) (defBody sFair) (defScope sFair) .none kV6 dc6 pm6 an6 cd6 ct6), sl6⟩)
    (c6 : PySem.W.codeIn K cd6 "Tournament.fair" = true)
    (k6 : PySem.W.keepIn K (.ref f6) = true)
    (a7 : PySem.W.findIn K (.ref C) "plain" = some (some (.ref f7)))
    (i7 : PySem.W.isFn K (.ref f7) = true)
    (l7 : K.lookup f7 = some ⟨oc7, od7, .func (PySem.W.fnOf "plain" "Tournament.plain" (defArgs sPlain) (defBody sPlain) (defScope sPlain) .none kV7 dc7 pm7 an7 cd7 ct7), sl7⟩)
    (c7 : PySem.W.codeIn K cd7 "Tournament.plain" = true)
    (k7 : PySem.W.keepIn K (.ref f7) = true)
    (a8 : PySem.W.findIn K (.ref C) "lists_that_can_be" = some (some (.ref f8)))
    (i8 : PySem.W.isFn K (.ref f8) = true)
    (l8 : K.lookup f8 = some ⟨oc8, od8, .func (PySem.W.fnOf "lists_that_can_be" "Tournament.lists_that_can_be" (defArgs sLists) (defBody sLists) (defScope sLists) .none kV8 dc8 pm8 an8 cd8 ct8), sl8⟩)
    (c8 : PySem.W.codeIn K cd8 "Tournament.lists_that_can_be" = true)
    (k8 : PySem.W.keepIn K (.ref f8) = true)
    (a9 : PySem.W.findIn K (.ref C) "lists_with_one_more" = some (some (.ref f9)))
    (i9 : PySem.W.isFn K (.ref f9) = true)
    (l9 : K.lookup f9 = some ⟨oc9, od9, .func (PySem.W.fnOf "lists_with_one_more" "Tournament.lists_with_one_more" (defArgs sMore) (defBody sMore) (defScope sMore) .none kV9 dc9 pm9 an9 cd9 ct9), sl9⟩)
    (c9 : PySem.W.codeIn K cd9 "Tournament.lists_with_one_more" = true)
    (k9 : PySem.W.keepIn K (.ref f9) = true)
    (a10 : PySem.W.findIn K (.ref C) "by_earned_alone" = some (some (.ref f10)))
    (i10 : PySem.W.isFn K (.ref f10) = true)
    (l10 : K.lookup f10 = some ⟨oc10, od10, .func (PySem.W.fnOf "by_earned_alone" "Tournament.by_earned_alone" (defArgs sBy) (defBody sBy) (defScope sBy) .none kV10 dc10 pm10 an10 cd10 ct10), sl10⟩)
    (c10 : PySem.W.codeIn K cd10 "Tournament.by_earned_alone" = true)
    (k10 : PySem.W.keepIn K (.ref f10) = true)
    (a11 : PySem.W.findIn K (.ref C) "has_each_rank_once" = some (some (.ref f11)))
    (i11 : PySem.W.isFn K (.ref f11) = true)
    (l11 : K.lookup f11 = some ⟨oc11, od11, .func (PySem.W.fnOf "has_each_rank_once" "Tournament.has_each_rank_once" (defArgs sEach) (defBody sEach) (defScope sEach) .none kV11 dc11 pm11 an11 cd11 ct11), sl11⟩)
    (c11 : PySem.W.codeIn K cd11 "Tournament.has_each_rank_once" = true)
    (k11 : PySem.W.keepIn K (.ref f11) = true)
    (a12 : PySem.W.findIn K (.ref C) "who_must_not_move" = some (some (.ref f12)))
    (i12 : PySem.W.isFn K (.ref f12) = true)
    (l12 : K.lookup f12 = some ⟨oc12, od12, .func (PySem.W.fnOf "who_must_not_move" "Tournament.who_must_not_move" (defArgs sWho) (defBody sWho) (defScope sWho) .none kV12 dc12 pm12 an12 cd12 ct12), sl12⟩)
    (c12 : PySem.W.codeIn K cd12 "Tournament.who_must_not_move" = true)
    (k12 : PySem.W.keepIn K (.ref f12) = true)
    (a13 : PySem.W.findIn K (.ref C) "must_not_move" = some (some (.ref f13)))
    (i13 : PySem.W.isFn K (.ref f13) = true)
    (l13 : K.lookup f13 = some ⟨oc13, od13, .func (PySem.W.fnOf "must_not_move" "Tournament.must_not_move" (defArgs sMnm) (defBody sMnm) (defScope sMnm) .none kV13 dc13 pm13 an13 cd13 ct13), sl13⟩)
    (c13 : PySem.W.codeIn K cd13 "Tournament.must_not_move" = true)
    (k13 : PySem.W.keepIn K (.ref f13) = true)
    (a14 : PySem.W.findIn K (.ref C) "earned" = some (some (.ref f14)))
    (i14 : PySem.W.isFn K (.ref f14) = true)
    (l14 : K.lookup f14 = some ⟨oc14, od14, .func (PySem.W.fnOf "earned" "Tournament.earned" (defArgs sEarned) (defBody sEarned) (defScope sEarned) .none kV14 dc14 pm14 an14 cd14 ct14), sl14⟩)
    (c14 : PySem.W.codeIn K cd14 "Tournament.earned" = true)
    (k14 : PySem.W.keepIn K (.ref f14) = true)
    (a15 : PySem.W.findIn K (.ref C) "all_off" = some (some (.ref f15)))
    (i15 : PySem.W.isFn K (.ref f15) = true)
    (l15 : K.lookup f15 = some ⟨oc15, od15, .func (PySem.W.fnOf "all_off" "Tournament.all_off" (defArgs sOff) (defBody sOff) (defScope sOff) .none kV15 dc15 pm15 an15 cd15 ct15), sl15⟩)
    (c15 : PySem.W.codeIn K cd15 "Tournament.all_off" = true)
    (k15 : PySem.W.keepIn K (.ref f15) = true)
    (a16 : PySem.W.findIn K (.ref C) "off_together" = some (some (.ref f16)))
    (i16 : PySem.W.isFn K (.ref f16) = true)
    (l16 : K.lookup f16 = some ⟨oc16, od16, .func (PySem.W.fnOf "off_together" "Tournament.off_together" (defArgs sSum) (defBody sSum) (defScope sSum) .none kV16 dc16 pm16 an16 cd16 ct16), sl16⟩)
    (c16 : PySem.W.codeIn K cd16 "Tournament.off_together" = true)
    (k16 : PySem.W.keepIn K (.ref f16) = true)
    (a17 : PySem.W.findIn K (.ref C) "off_the_most" = some (some (.ref f17)))
    (i17 : PySem.W.isFn K (.ref f17) = true)
    (l17 : K.lookup f17 = some ⟨oc17, od17, .func (PySem.W.fnOf "off_the_most" "Tournament.off_the_most" (defArgs sMost) (defBody sMost) (defScope sMost) .none kV17 dc17 pm17 an17 cd17 ct17), sl17⟩)
    (c17 : PySem.W.codeIn K cd17 "Tournament.off_the_most" = true)
    (k17 : PySem.W.keepIn K (.ref f17) = true)
    (a18 : PySem.W.nsIn K mainGlobals "nearest" = some (some (.ref f18)))
    (l18 : K.lookup f18 = some ⟨oc18, od18, .func (PySem.W.fnOf "nearest" "nearest" (defArgs sNearest) (defBody sNearest) (defScope sNearest) .none kV18 dc18 pm18 an18 cd18 ct18), sl18⟩)
    (c18 : PySem.W.codeIn K cd18 "nearest" = true)
    (k18 : PySem.W.keepIn K (.ref f18) = true)
    (a19 : PySem.W.nsIn K mainGlobals "answers" = some (some (.ref f19)))
    (l19 : K.lookup f19 = some ⟨oc19, od19, .func (PySem.W.fnOf "answers" "answers" (defArgs sAnswers) (defBody sAnswers) (defScope sAnswers) .none kV19 dc19 pm19 an19 cd19 ct19), sl19⟩)
    (c19 : PySem.W.codeIn K cd19 "answers" = true)
    (k19 : PySem.W.keepIn K (.ref f19) = true)
    (a20 : PySem.W.nsIn K mainGlobals "read_calls" = some (some (.ref f20)))
    (l20 : K.lookup f20 = some ⟨oc20, od20, .func (PySem.W.fnOf "read_calls" "read_calls" (defArgs sRead) (defBody sRead) (defScope sRead) .none kV20 dc20 pm20 an20 cd20 ct20), sl20⟩)
    (c20 : PySem.W.codeIn K cd20 "read_calls" = true)
    (k20 : PySem.W.keepIn K (.ref f20) = true)
    (a21 : PySem.W.nsIn K mainGlobals "answer_one" = some (some (.ref f21)))
    (l21 : K.lookup f21 = some ⟨oc21, od21, .func (PySem.W.fnOf "answer_one" "answer_one" (defArgs sOne) (defBody sOne) (defScope sOne) .none kV21 dc21 pm21 an21 cd21 ct21), sl21⟩)
    (c21 : PySem.W.codeIn K cd21 "answer_one" = true)
    (k21 : PySem.W.keepIn K (.ref f21) = true)
    (a22 : PySem.W.nsIn K mainGlobals "carry_out" = some (some (.ref f22)))
    (l22 : K.lookup f22 = some ⟨oc22, od22, .func (PySem.W.fnOf "carry_out" "carry_out" (defArgs sCarry) (defBody sCarry) (defScope sCarry) .none kV22 dc22 pm22 an22 cd22 ct22), sl22⟩)
    (c22 : PySem.W.codeIn K cd22 "carry_out" = true)
    (k22 : PySem.W.keepIn K (.ref f22) = true)
    (bg : PySem.W.specialIn K (.ref f14) "__get__" = some (some (.builtin "function.__get__")))
    (bt : PySem.W.takesIn K (.ref f14) = some false)
    (bf : PySem.W.fnIn K f14 = true)
    (pg : PySem.W.plainGet K C Str.empty = true)
    (hd : PySem.W.hasDictIn K C = true)
    (po : PySem.W.plainOver K C = true)
    (sa : PySem.W.findIn K (.ref C) "__setattr__" = some (some (.builtin "object.__setattr__")))
    (mk : PySem.W.makesIn K C = true)
    (kc : PySem.W.keepIn K (.ref C) = true)
    (n0 : PySem.W.findIn K (.ref C) "worth" = some none)
    (n1 : PySem.W.findIn K (.ref C) "wins_more" = some none)
    (v0 : PySem.W.nsIn K mainGlobals "MOST_WORTH" = some (some (.int 30 w0)))
    (v1 : PySem.W.nsIn K mainGlobals "MOST_BOUTS" = some (some (.int 15 w1)))
    (v2 : PySem.W.nsIn K mainGlobals "MOST_WRESTLERS" = some (some (.int 6 w2)))
    (v3 : PySem.W.nsIn K mainGlobals "PLACE" = some (some (.int 10 w3)))
    (v4 : PySem.W.nsIn K mainGlobals "BEGINS" = some (some (.int 0 w4)))
    (v5 : PySem.W.nsIn K mainGlobals "WRESTLER" = some (some (.int 1 w5)))
    (v6 : PySem.W.nsIn K mainGlobals "CHECK" = some (some (.int 2 w6)))
    (v7 : PySem.W.nsIn K mainGlobals "BEST" = some (some (.int 3 w7)))
    (v8 : PySem.W.nsIn K mainGlobals "FAIR" = some (some (.int 4 w8)))
    (v9 : PySem.W.nsIn K mainGlobals "PLAIN" = some (some (.int 5 w9)))
    (z0 : PySem.W.nsIn K mainGlobals "len" = some none)
    (z1 : PySem.W.nsIn K mainGlobals "enumerate" = some none)
    (z2 : PySem.W.nsIn K mainGlobals "sum" = some none)
    (z3 : PySem.W.nsIn K mainGlobals "max" = some none)
    (z4 : PySem.W.nsIn K mainGlobals "min" = some none)
    (z5 : PySem.W.nsIn K mainGlobals "sorted" = some none)
    (z6 : PySem.W.nsIn K mainGlobals "list" = some none)
    (z7 : PySem.W.nsIn K mainGlobals "range" = some none)
    (z8 : PySem.W.nsIn K mainGlobals "abs" = some none)
    : ∃ fd : FuncData, (∀ (s : Shared) (us : List Value), us.length = (["calls"] : List Str).length → BindsTo s fd ⟨us, []⟩ ((["calls"] : List Str).zip us)) ∧ ∀ base : Heap, K.In base → base.Ns mainGlobals mg → FnOk P w K mg base CX0 8 fa fd ["calls"] (spAns K AnyCall) := by
  have e := hfa.symm.trans (PySem.W.mg_of X G a19)
  cases e
  have cb : PySem.CbX.CbTxt K mg CCB f0 :=
    { gC := PySem.W.mg_of X G gCB, cls := ⟨nm, q, N, bs, sn, sub, ab, col, dd, m0, m1, m2, m3, m5, xCB⟩, sa := saCB, ga := gaCB, gg := ggCB, noN := nbCB, iC := iiCB, tC := ti0, kC := kCB, exC := eCB, tyC := tCB, hdC := hCB, te := exm_is eCB iCB tCB sCBCB,
      fn := ⟨_, _, _, _, _, _, _, _, _, _, _, _, _, _, l0, c0⟩ }
  have T : Txt K mg C CNA CNR CCB f0 :=
    { cl := ⟨pg, hd, po, sa⟩, nW := n0, nM := n1, gC := PySem.W.mg_of X G aC, gNA := PySem.W.mg_of X G gNA, xNA := xNA, kNA := kNA, bNA := bNA, tNA := tNA, gNR := PySem.W.mg_of X G gNR, xNR := xNR, kNR := kNR, bNR := bNR, tNR := tNR, cb := cb,
      eAA := exm_is bNA iNA tNA sNANA, eRA := exm_is bNA iNA tNA sNRNA, eRR := exm_is bNR iNR tNR sNRNR, eCA := exm_is bNA iNA tNA sCBNA, eCR := exm_is bNR iNR tNR sCBNR, eCC := exm_is eCB iCB tCB sCBCB,
      worth := ⟨_, PySem.W.mg_of X G v0⟩, bouts := ⟨_, PySem.W.mg_of X G v1⟩, six := ⟨_, PySem.W.mg_of X G v2⟩, place := ⟨_, PySem.W.mg_of X G v3⟩,
      len := PySem.W.mg_none_of X G z0, enum := PySem.W.mg_none_of X G z1, sum := PySem.W.mg_none_of X G z2, max := PySem.W.mg_none_of X G z3, min := PySem.W.mg_none_of X G z4, sorted := PySem.W.mg_none_of X G z5, list := PySem.W.mg_none_of X G z6, range := PySem.W.mg_none_of X G z7, abs := PySem.W.mg_none_of X G z8 }
  have T2 : Txt2 mg := ⟨⟨_, PySem.W.mg_of X G v4⟩, ⟨_, PySem.W.mg_of X G v5⟩, ⟨_, PySem.W.mg_of X G v6⟩, ⟨_, PySem.W.mg_of X G v7⟩, ⟨_, PySem.W.mg_of X G v8⟩, ⟨_, PySem.W.mg_of X G v9⟩⟩
  have F1 := fun_mk (st := sInit) l1 c1 k1
  have F2 := fun_mk (st := sBegins) l2 c2 k2
  have F3 := fun_mk (st := sWrestler) l3 c3 k3
  have F4 := fun_mk (st := sCheck) l4 c4 k4
  have F5 := fun_mk (st := sBest) l5 c5 k5
  have F6 := fun_mk (st := sFair) l6 c6 k6
  have F7 := fun_mk (st := sPlain) l7 c7 k7
  have F8 := fun_mk (st := sLists) l8 c8 k8
  have F9 := fun_mk (st := sMore) l9 c9 k9
  have F10 := fun_mk (st := sBy) l10 c10 k10
  have F11 := fun_mk (st := sEach) l11 c11 k11
  have F12 := fun_mk (st := sWho) l12 c12 k12
  have F13 := fun_mk (st := sMnm) l13 c13 k13
  have F14 := fun_mk (st := sEarned) l14 c14 k14
  have F15 := fun_mk (st := sOff) l15 c15 k15
  have F16 := fun_mk (st := sSum) l16 c16 k16
  have F17 := fun_mk (st := sMost) l17 c17 k17
  have F18 := fun_mk (st := sNearest) l18 c18 k18
  have F19 := fun_mk (st := sAnswers) l19 c19 k19
  have F20 := fun_mk (st := sRead) l20 c20 k20
  have F21 := fun_mk (st := sOne) l21 c21 k21
  have F22 := fun_mk (st := sCarry) l22 c22 k22
  have b1 := F1.binds (ps := ["self"]) fun _ _ _ _ _ _ us hl => match us, hl with | [_], _ => rfl
  have b2 := F2.binds (ps := ["self", "worth"]) fun _ _ _ _ _ _ us hl => match us, hl with | [_, _], _ => rfl
  have b3 := F3.binds (ps := ["self", "won", "lost"]) fun _ _ _ _ _ _ us hl => match us, hl with | [_, _, _], _ => rfl
  have b4 := F4.binds (ps := ["self", "new_list"]) fun _ _ _ _ _ _ us hl => match us, hl with | [_, _], _ => rfl
  have b5 := F5.binds (ps := ["self"]) fun _ _ _ _ _ _ us hl => match us, hl with | [_], _ => rfl
  have b6 := F6.binds (ps := ["self"]) fun _ _ _ _ _ _ us hl => match us, hl with | [_], _ => rfl
  have b7 := F7.binds (ps := ["self"]) fun _ _ _ _ _ _ us hl => match us, hl with | [_], _ => rfl
  have b8 := F8.binds (ps := ["self"]) fun _ _ _ _ _ _ us hl => match us, hl with | [_], _ => rfl
  have b9 := F9.binds (ps := ["self", "lists", "old"]) fun _ _ _ _ _ _ us hl => match us, hl with | [_, _, _], _ => rfl
  have b10 := F10.binds (ps := ["self"]) fun _ _ _ _ _ _ us hl => match us, hl with | [_], _ => rfl
  have b11 := F11.binds (ps := ["self", "new_list"]) fun _ _ _ _ _ _ us hl => match us, hl with | [_, _], _ => rfl
  have b12 := F12.binds (ps := ["self", "new_list"]) fun _ _ _ _ _ _ us hl => match us, hl with | [_, _], _ => rfl
  have b13 := F13.binds (ps := ["self", "old", "new"]) fun _ _ _ _ _ _ us hl => match us, hl with | [_, _, _], _ => rfl
  have b14 := F14.binds (ps := ["self", "old"]) fun _ _ _ _ _ _ us hl => match us, hl with | [_, _], _ => rfl
  have b15 := F15.binds (ps := ["self", "new_list"]) fun _ _ _ _ _ _ us hl => match us, hl with | [_, _], _ => rfl
  have b16 := F16.binds (ps := ["self", "new_list"]) fun _ _ _ _ _ _ us hl => match us, hl with | [_, _], _ => rfl
  have b17 := F17.binds (ps := ["self", "new_list"]) fun _ _ _ _ _ _ us hl => match us, hl with | [_, _], _ => rfl
  have b18 := F18.binds (ps := ["lists", "how_far"]) fun _ _ _ _ _ _ us hl => match us, hl with | [_, _], _ => rfl
  have b20 := F20.binds (ps := ["calls"]) fun _ _ _ _ _ _ us hl => match us, hl with | [_], _ => rfl
  have b21 := F21.binds (ps := ["tournament", "number", "given"]) fun _ _ _ _ _ _ us hl => match us, hl with | [_, _, _], _ => rfl
  have b22 := F22.binds (ps := ["tournament", "number", "given"]) fun _ _ _ _ _ _ us hl => match us, hl with | [_, _, _], _ => rfl
  have M1 : Meth K C "__init__" f1 := ⟨a1, i1, k1⟩
  have M2 : Meth K C "begins" f2 := ⟨a2, i2, k2⟩
  have M3 : Meth K C "wrestler" f3 := ⟨a3, i3, k3⟩
  have M4 : Meth K C "check" f4 := ⟨a4, i4, k4⟩
  have M5 : Meth K C "best" f5 := ⟨a5, i5, k5⟩
  have M6 : Meth K C "fair" f6 := ⟨a6, i6, k6⟩
  have M7 : Meth K C "plain" f7 := ⟨a7, i7, k7⟩
  have M8 : Meth K C "lists_that_can_be" f8 := ⟨a8, i8, k8⟩
  have M9 : Meth K C "lists_with_one_more" f9 := ⟨a9, i9, k9⟩
  have M10 : Meth K C "by_earned_alone" f10 := ⟨a10, i10, k10⟩
  have M11 : Meth K C "has_each_rank_once" f11 := ⟨a11, i11, k11⟩
  have M12 : Meth K C "who_must_not_move" f12 := ⟨a12, i12, k12⟩
  have M13 : Meth K C "must_not_move" f13 := ⟨a13, i13, k13⟩
  have M14 : Meth K C "earned" f14 := ⟨a14, i14, k14⟩
  have M15 : Meth K C "all_off" f15 := ⟨a15, i15, k15⟩
  have M16 : Meth K C "off_together" f16 := ⟨a16, i16, k16⟩
  have M17 : Meth K C "off_the_most" f17 := ⟨a17, i17, k17⟩
  have G_begins : ∀ base : Heap, FnOk P w K mg base (L2.CX P w) 1 f2 _ ["self", "worth"] (spBegins C CNA) := fun base => ok_begins F2 T
  have G_wrestler : ∀ base : Heap, FnOk P w K mg base (L2.CX P w) 1 f3 _ ["self", "won", "lost"] (spWrestler C CNA CNR) := fun base => ok_wrestler F3 T
  have G_has_each_rank_once : ∀ base : Heap, FnOk P w K mg base CX0 1 f11 _ ["self", "new_list"] (spEach K C) := fun base => ok_each F11 T
  have G_who_must_not_move : ∀ base : Heap, FnOk P w K mg base CX0 2 f12 _ ["self", "new_list"] (spWho K C) := fun base => ok_who F12 T F13 b13 M13
  have G_off_together : ∀ base : Heap, FnOk P w K mg base CX0 3 f16 _ ["self", "new_list"] (spSum K C) := fun base => ok_sum F16 T F15 b15 M15 F14 b14 M14
  have G_off_the_most : ∀ base : Heap, FnOk P w K mg base CX0 3 f17 _ ["self", "new_list"] (spMost K C) := fun base => ok_most F17 T F15 b15 M15 F14 b14 M14
  have LK := Looks.mk (P := P) (w := w) (K := K) (mg := mg) (C := C) G_has_each_rank_once b11 M11 G_who_must_not_move b12 M12 G_off_together b16 M16 G_off_the_most b17 M17
  have G_check : ∀ base : Heap, FnOk P w K mg base (L2.CX P w) 4 f4 _ ["self", "new_list"] (spCheck K C CNA CCB) := fun base => ok_check F4 T LK
  have G_lists_that_can_be : ∀ base : Heap, FnOk P w K mg base CX0 3 f8 _ ["self"] (spLists K C) := fun base => ok_lists F8 T F9 b9 M9 F13 b13 M13
  have G_nearest : ∀ base : Heap, FnOk P w K mg base CX0 1 f18 _ ["lists", "how_far"] (spNearest) := fun base => ok_nearest F18 T
  have G_best : ∀ base : Heap, FnOk P w K mg base CX0 4 f5 _ ["self"] (spNear C M.sumOf) := fun base => ok_best F5 T G_lists_that_can_be b8 M8 G_off_together b16 M16 G_nearest (PySem.W.mg_of X G a18) k18 b18
  have G_fair : ∀ base : Heap, FnOk P w K mg base CX0 4 f6 _ ["self"] (spNear C M.mostOf) := fun base => ok_fair F6 T G_lists_that_can_be b8 M8 G_off_the_most b17 M17 G_nearest (PySem.W.mg_of X G a18) k18 b18
  have BM : BMeth K C "earned" f14 := ⟨M14, bg, bt, by decide +kernel, bf⟩
  have G_by_earned_alone : ∀ base : Heap, FnOk P w K mg base CX0 4 f10 _ ["self"] (spBy C) := fun base => ok_by F10 T F14 b14 BM
  have G_plain : ∀ base : Heap, FnOk P w K mg base CX0 5 f7 _ ["self"] (spPlain C) := fun base => ok_plain F7 T G_by_earned_alone b10 M10 G_who_must_not_move b12 M12 G_off_together b16 M16
  have G_carry_out : ∀ base : Heap, FnOk P w K mg base (L2.CX P w) 6 f22 _ ["tournament", "number", "given"] (spCarry K C CNA CNR CCB AnyCall) := fun base => ok_carry F22 T T2 G_begins b2 M2 G_wrestler b3 M3 G_check b4 M4 G_best b5 M5 G_fair b6 M6 G_plain b7 M7
  have G_answer_one : ∀ base : Heap, FnOk P w K mg base CX0 7 f21 _ ["tournament", "number", "given"] (spOne K C AnyCall) := fun base => ok_one F21 T G_carry_out (PySem.W.mg_of X G a22) k22 b22
  exact ⟨_, fun s us hu => match us, hu with | [_], _ => .of_eq rfl, fun base _ _ => ok_answers (by decide) F19 T ⟨mk, a1, i1, kc⟩ F1 b1 F20 b20 (PySem.W.mg_of X G a20) (G_answer_one base) (PySem.W.mg_of X G a21) k21 b21⟩
end Nr
open PySem PySem.W PyProof.Rows
set_option maxRecDepth 100000 in
set_option maxHeartbeats 8000000 in
theorem PySem.Challenge.cw_newranks_s01_answers_holds : PySem.Challenge.rw_newranks_s01_answers.Holds := by
  w_on; k_headS; (case hw => exact ⟨[.list [.int 3, .int 0, .int 0]], by decide +kernel, by decide +kernel⟩)
  k_fillS
  refine L2.walk_specK (r := PySem.Challenge.rw_newranks_s01_answers) (k := 8) (CX := L2.CX0) (ps := ["calls"]) (sp := fun K => Nr.spAns K Nr.AnyCall) (by decide +kernel) rfl rfl ⟨rfl, by decide, by decide⟩ (fun w h Y => PySem.W.kIn_of Y) ?F ?S (fun _ _ _ _ z => z)
  case F =>
    intro w mg fa h Y KX G hmg
    refine' Nr.all_mk KX G hmg ?aC ?gNA ?xNA ?kNA ?bNA ?tNA ?iNA ?gNR ?xNR ?kNR ?bNR ?tNR ?iNR ?gCB ?xCB ?saCB ?gaCB ?ggCB ?nbCB ?iiCB ?ti0 ?l0 ?c0 ?kCB ?eCB ?tCB ?hCB ?iCB ?sNANA ?sNRNA ?sNRNR ?sCBNA ?sCBNR ?sCBCB ?a1 ?i1 ?l1 ?c1 ?k1 ?a2 ?i2 ?l2 ?c2 ?k2 ?a3 ?i3 ?l3 ?c3 ?k3 ?a4 ?i4 ?l4 ?c4 ?k4 ?a5 ?i5 ?l5 ?c5 ?k5 ?a6 ?i6 ?l6 ?c6 ?k6 ?a7 ?i7 ?l7 ?c7 ?k7 ?a8 ?i8 ?l8 ?c8 ?k8 ?a9 ?i9 ?l9 ?c9 ?k9 ?a10 ?i10 ?l10 ?c10 ?k10 ?a11 ?i11 ?l11 ?c11 ?k11 ?a12 ?i12 ?l12 ?c12 ?k12 ?a13 ?i13 ?l13 ?c13 ?k13 ?a14 ?i14 ?l14 ?c14 ?k14 ?a15 ?i15 ?l15 ?c15 ?k15 ?a16 ?i16 ?l16 ?c16 ?k16 ?a17 ?i17 ?l17 ?c17 ?k17 ?a18 ?l18 ?c18 ?k18 ?a19 ?l19 ?c19 ?k19 ?a20 ?l20 ?c20 ?k20 ?a21 ?l21 ?c21 ?k21 ?a22 ?l22 ?c22 ?k22 ?bg ?bt ?bf ?pg ?hd ?po ?sa ?mk ?kc ?n0 ?n1 ?v0 ?v1 ?v2 ?v3 ?v4 ?v5 ?v6 ?v7 ?v8 ?v9 ?z0 ?z1 ?z2 ?z3 ?z4 ?z5 ?z6 ?z7 ?z8
    (case aC => k_is)
    (case gNA => k_is)
    (case xNA => k_exc)
    (case kNA => k_is)
    (case bNA => k_is)
    (case tNA => k_is)
    (case iNA => k_is)
    (case gNR => k_is)
    (case xNR => k_exc)
    (case kNR => k_is)
    (case bNR => k_is)
    (case tNR => k_is)
    (case iNR => k_is)
    (case gCB => k_is)
    (case xCB => k_is)
    (case saCB => k_is)
    (case gaCB => k_is)
    (case ggCB => k_is)
    (case nbCB => k_is)
    (case iiCB => k_is)
    (case ti0 => k_is)
    (case l0 => k_is)
    (case c0 => k_is)
    (case kCB => k_is)
    (case eCB => k_is)
    (case tCB => k_is)
    (case hCB => k_is)
    (case iCB => k_is)
    (case sNANA => first | rfl | k_is)
    (case sNRNA => first | rfl | k_is)
    (case sNRNR => first | rfl | k_is)
    (case sCBNA => first | rfl | k_is)
    (case sCBNR => first | rfl | k_is)
    (case sCBCB => first | rfl | k_is)
    (case a1 => k_is)
    (case i1 => k_is)
    (case l1 => k_is)
    (case c1 => k_is)
    (case k1 => k_is)
    (case a2 => k_is)
    (case i2 => k_is)
    (case l2 => k_is)
    (case c2 => k_is)
    (case k2 => k_is)
    (case a3 => k_is)
    (case i3 => k_is)
    (case l3 => k_is)
    (case c3 => k_is)
    (case k3 => k_is)
    (case a4 => k_is)
    (case i4 => k_is)
    (case l4 => k_is)
    (case c4 => k_is)
    (case k4 => k_is)
    (case a5 => k_is)
    (case i5 => k_is)
    (case l5 => k_is)
    (case c5 => k_is)
    (case k5 => k_is)
    (case a6 => k_is)
    (case i6 => k_is)
    (case l6 => k_is)
    (case c6 => k_is)
    (case k6 => k_is)
    (case a7 => k_is)
    (case i7 => k_is)
    (case l7 => k_is)
    (case c7 => k_is)
    (case k7 => k_is)
    (case a8 => k_is)
    (case i8 => k_is)
    (case l8 => k_is)
    (case c8 => k_is)
    (case k8 => k_is)
    (case a9 => k_is)
    (case i9 => k_is)
    (case l9 => k_is)
    (case c9 => k_is)
    (case k9 => k_is)
    (case a10 => k_is)
    (case i10 => k_is)
    (case l10 => k_is)
    (case c10 => k_is)
    (case k10 => k_is)
    (case a11 => k_is)
    (case i11 => k_is)
    (case l11 => k_is)
    (case c11 => k_is)
    (case k11 => k_is)
    (case a12 => k_is)
    (case i12 => k_is)
    (case l12 => k_is)
    (case c12 => k_is)
    (case k12 => k_is)
    (case a13 => k_is)
    (case i13 => k_is)
    (case l13 => k_is)
    (case c13 => k_is)
    (case k13 => k_is)
    (case a14 => k_is)
    (case i14 => k_is)
    (case l14 => k_is)
    (case c14 => k_is)
    (case k14 => k_is)
    (case a15 => k_is)
    (case i15 => k_is)
    (case l15 => k_is)
    (case c15 => k_is)
    (case k15 => k_is)
    (case a16 => k_is)
    (case i16 => k_is)
    (case l16 => k_is)
    (case c16 => k_is)
    (case k16 => k_is)
    (case a17 => k_is)
    (case i17 => k_is)
    (case l17 => k_is)
    (case c17 => k_is)
    (case k17 => k_is)
    (case a18 => k_is)
    (case l18 => k_is)
    (case c18 => k_is)
    (case k18 => k_is)
    (case a19 => k_is)
    (case l19 => k_is)
    (case c19 => k_is)
    (case k19 => k_is)
    (case a20 => k_is)
    (case l20 => k_is)
    (case c20 => k_is)
    (case k20 => k_is)
    (case a21 => k_is)
    (case l21 => k_is)
    (case c21 => k_is)
    (case k21 => k_is)
    (case a22 => k_is)
    (case l22 => k_is)
    (case c22 => k_is)
    (case k22 => k_is)
    (case bg => k_is)
    (case bt => k_is)
    (case bf => k_is)
    (case pg => k_is)
    (case hd => k_is)
    (case po => k_is)
    (case sa => k_is)
    (case mk => k_is)
    (case kc => k_is)
    (case n0 => k_is)
    (case n1 => k_is)
    (case v0 => k_is)
    (case v1 => k_is)
    (case v2 => k_is)
    (case v3 => k_is)
    (case v4 => k_is)
    (case v5 => k_is)
    (case v6 => k_is)
    (case v7 => k_is)
    (case v8 => k_is)
    (case v9 => k_is)
    (case z0 => k_is)
    (case z1 => k_is)
    (case z2 => k_is)
    (case z3 => k_is)
    (case z4 => k_is)
    (case z5 => k_is)
    (case z6 => k_is)
    (case z7 => k_is)
    (case z8 => k_is)
  case S =>
    intro K H xs a hO hwi hask hx
    cases hx with
    | cons h1 h2 =>
      cases h2
      cases h1 with
      | lst hs ha =>
        have e := L2.ints_dw a.1 _ ha
        subst e
        obtain ⟨cs, qs, e1, e2, e3, e4, e5⟩ := Nr.asked_calls (ns := a.1) hask
        have q : ((PySem.W.Codec.inLen 0 800 a.1 && a.1.all (PySem.W.Codec.inInt 0 4294967295)) && true) = true := hwi
        rw [Bool.and_eq_true, Bool.and_eq_true] at q
        refine ⟨_, cs, qs, rfl, by rw [← e1]; exact hs, e2, e4, by rw [← e1]; exact (PySem.W.Codec.inNat_iff.mp q.1.1).2, ?_, fun H' p hp => ?_⟩
        rotate_left
        · show L2.Dw K H' (.ref p) (.list ((PySj11.answers a.1).map WData.int))
          rw [e5]
          exact .lst (L2.SqL.of hp) (L2.dw_ints _)
        exact fun _ _ => trivial
#print axioms PySem.Challenge.cw_newranks_s01_answers_holds
