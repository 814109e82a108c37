import PyProof.Rows.All
import Wide.All
import OpenK.AllK
import Wide.FinOn
import PyProof.EqAt
import PyProof.EqKinds
import PyProof.TupleCall
import KE.BitLaws
import KE.KTryMore
import KE.OsGo
import Open.SpecLaws
import PyFlatLaws
import PySem.Challenge.RW_filevault_s01_answers
set_option Elab.async false
set_option linter.all false
set_option maxRecDepth 100000
namespace FV
open Rc22
abbrev nb (b : Bytes) : List Nat := b.map UInt8.toNat
def g (r : List Nat) (i : Nat) : Nat := r.getD i 0
def n2 (r : List Nat) (i : Nat) : Nat := g r i + g r (i + 1) * 256
def n4 (r : List Nat) (i : Nat) : Nat := n2 r i + n2 r (i + 2) * 65536
theorem g_nb_lt {b : Bytes} {i : Nat} : g (nb b) i < 256 := by
  unfold g
  rw [List.getD_eq_getElem?_getD, List.getElem?_map]
  cases b[i]? with
  | none => simp
  | some x => simpa using x.toNat_lt
theorem num_zero (b : Bytes) (i : Nat) : num b i 0 = 0 := by simp [num]
theorem num_succ (b : Bytes) (i k : Nat) : num b i (k + 1) = g (nb b) i + 256 * num b (i + 1) k := by
  unfold num g
  by_cases h : i < b.length
  · rw [List.drop_eq_getElem_cons h, List.take_succ_cons, List.foldr_cons]
    simp [List.getD_eq_getElem?_getD, h]
  · have h1 : b.drop i = [] := List.drop_eq_nil_of_le (by omega)
    have h2 : b.drop (i + 1) = [] := List.drop_eq_nil_of_le (by omega)
    have h3 : (nb b)[i]? = none := by simp; omega
    rw [h1, h2, List.getD_eq_getElem?_getD, h3]
    simp
theorem num1 (b : Bytes) (i : Nat) : num b i 1 = g (nb b) i := by
  rw [num_succ, num_zero]; omega
theorem num2 (b : Bytes) (i : Nat) : num b i 2 = n2 (nb b) i := by
  rw [num_succ, num1]; unfold n2; omega
theorem num4 (b : Bytes) (i : Nat) : num b i 4 = n4 (nb b) i := by
  rw [num_succ, num_succ, num2]; unfold n4 n2; simp only [Nat.add_assoc, Nat.reduceAdd]; omega
theorem n2_lt {b : Bytes} {i : Nat} : n2 (nb b) i < 65536 := by
  have h1 := @g_nb_lt b i
  have h2 := @g_nb_lt b (i + 1)
  unfold n2; omega
theorem n4_lt {b : Bytes} {i : Nat} : n4 (nb b) i < 4294967296 := by
  have h1 := @n2_lt b i
  have h2 := @n2_lt b (i + 2)
  unfold n4; omega
def nums (r : List Nat) : List Nat := (List.range (r.length / 4)).map fun k => n4 r (4 * k)
theorem nums_length (r : List Nat) : (nums r).length = r.length / 4 := by simp [nums]
theorem nums_get {r : List Nat} {k : Nat} (h : k < r.length / 4) : (nums r)[k]? = some (n4 r (4 * k)) := by
  unfold nums
  rw [List.getElem?_map, List.getElem?_range h]; rfl
theorem g_left {a b : List Nat} {i : Nat} (h : i < a.length) : g (a ++ b) i = g a i := by
  unfold g; simp [List.getD_eq_getElem?_getD, List.getElem?_append_left h]
theorem g_right {a b : List Nat} {i : Nat} : g (a ++ b) (a.length + i) = g b i := by
  unfold g; simp [List.getD_eq_getElem?_getD, List.getElem?_append_right]
theorem n4_left {a b : List Nat} {i : Nat} (h : i + 3 < a.length) : n4 (a ++ b) i = n4 a i := by
  unfold n4 n2
  rw [g_left (by omega), g_left (by omega), g_left (by omega), g_left (by omega)]
theorem n4_right {a b : List Nat} {i : Nat} : n4 (a ++ b) (a.length + i) = n4 b i := by
  unfold n4 n2
  have e1 : a.length + i + 1 = a.length + (i + 1) := by omega
  have e2 : a.length + i + 2 = a.length + (i + 2) := by omega
  have e3 : a.length + (i + 2) + 1 = a.length + (i + 2 + 1) := by omega
  rw [e1, e2, e3, g_right, g_right, g_right, g_right]
theorem nums_append {a b : List Nat} (h : a.length % 4 = 0) : nums (a ++ b) = nums a ++ nums b := by
  obtain ⟨q, hq⟩ : ∃ q, a.length = 4 * q := ⟨a.length / 4, by omega⟩
  unfold nums
  have e : (a ++ b).length / 4 = q + b.length / 4 := by rw [List.length_append, hq]; omega
  have e2 : a.length / 4 = q := by omega
  rw [e, e2, List.range_add, List.map_append, List.map_map]
  congr 1
  · apply List.map_congr_left
    intro k hk
    have hk := List.mem_range.mp hk
    exact n4_left (by omega)
  · apply List.map_congr_left
    intro k hk
    show n4 (a ++ b) (4 * (q + k)) = n4 b (4 * k)
    rw [Nat.mul_add, ← hq, n4_right]
theorem nums_nil : nums [] = [] := rfl
theorem nums_flat {f : Nat → List Nat} : ∀ {l : List Nat}, (∀ x ∈ l, (f x).length % 4 = 0) → nums (l.flatMap f) = l.flatMap fun x => nums (f x)
  | [], _ => by simp [nums]
  | x :: l, h => by
    rw [List.flatMap_cons, List.flatMap_cons, nums_append (h x List.mem_cons_self), nums_flat fun y hy => h y (List.mem_cons_of_mem _ hy)]
theorem nb_length (b : Bytes) : (nb b).length = b.length := by simp
theorem nb_part (b : Bytes) (i n : Nat) : nb (part b i n) = ((nb b).drop i).take n := by
  simp [part, nb, List.map_take, List.map_drop]
theorem sector_length {b : Bytes} {i : Nat} (h0 : b.length % 512 = 0) (h : i < sectors b) : (sector b i).length = 512 := by
  unfold sector part
  unfold sectors at h
  rw [List.length_take, List.length_drop]
  omega
theorem nums_sector {b : Bytes} {i : Nat} (h : (sector b i).length = 512) : nums (nb (sector b i)) = (List.range 128).map fun k => num (sector b i) (4 * k) 4 := by
  unfold nums
  rw [nb_length, h]
  apply List.map_congr_left
  intro k _
  rw [num4]
theorem nb_bytesOf (b : Bytes) (l : List Nat) : nb (bytesOf b l) = l.flatMap fun i => nb (sector b i) := by
  unfold bytesOf nb
  rw [List.map_flatMap]
theorem entries_eq {b : Bytes} {ts : List Nat} (h0 : b.length % 512 = 0) (h : ∀ s ∈ ts, s < sectors b) : entries b ts = nums (nb (bytesOf b ts)) := by
  rw [nb_bytesOf, nums_flat]
  · unfold entries
    rw [List.flatMap_def, List.flatMap_def]
    congr 1
    apply List.map_congr_left
    intro s hs
    rw [nums_sector (sector_length h0 (h s hs))]
  · intro s hs
    rw [nb_length, sector_length h0 (h s hs)]
theorem bytesOf_length {b : Bytes} (h0 : b.length % 512 = 0) : ∀ {l : List Nat}, (∀ s ∈ l, s < sectors b) → (bytesOf b l).length = 512 * l.length
  | [], _ => rfl
  | x :: l, h => by
    have := bytesOf_length h0 (l := l) fun s hs => h s (List.mem_cons_of_mem _ hs)
    unfold bytesOf at *
    rw [List.flatMap_cons, List.length_append, sector_length h0 (h x List.mem_cons_self), this, List.length_cons]; omega
def every (b : Bytes) (st : List Nat) : List Nat := (List.range (128 * st.length)).map fun k => num (bytesOf b st) (4 * k) 4
theorem every_eq {b : Bytes} {st : List Nat} (h0 : b.length % 512 = 0) (h : ∀ s ∈ st, s < sectors b) : every b st = nums (nb (bytesOf b st)) := by
  unfold every nums
  rw [nb_length, bytesOf_length h0 h]
  have : 512 * st.length / 4 = 128 * st.length := by omega
  rw [this]
  apply List.map_congr_left
  intro k _
  rw [num4]
theorem distinct_iff : ∀ l : List Nat, distinct l = true ↔ l.Nodup
  | [] => by simp [distinct]
  | x :: r => by
    have := distinct_iff r
    simp [distinct, List.nodup_cons, this]
theorem allSome_iff {α : Type} : ∀ {l : List (Option α)} {r : List α}, allSome l = some r ↔ l = r.map some
  | [], r => by
    cases r <;> simp [allSome]
  | none :: l, r => by
    cases r <;> simp [allSome]
  | some x :: l, r => by
    simp only [allSome, Option.map_eq_some_iff]
    constructor
    · rintro ⟨a, h1, rfl⟩
      rw [allSome_iff.mp h1]; rfl
    · intro h
      cases r with
      | nil => cases h
      | cons y r =>
        simp only [List.map_cons, List.cons.injEq, Option.some.injEq] at h
        obtain ⟨rfl, h⟩ := h
        exact ⟨r, allSome_iff.mpr h, rfl⟩
theorem allSome_length {α : Type} {l : List (Option α)} {r : List α} (h : allSome l = some r) : r.length = l.length := by
  rw [allSome_iff.mp h, List.length_map]
def tab (b : Bytes) (ts : List Nat) : List Nat := (entries b ts).take (sectors b)
def mk (b : Bytes) (ts st : List Nat) (ds : List Item) (lies : List Nat) (size : Nat) : Store := ⟨ds, tab b ts, (bytesOf b lies).take size, (every b st).take (ceil size 64)⟩
def filesOf (rest : List Item) : List Item := rest.filter fun d => d.kind == 2
def bigOf (rest : List Item) (cs : List (List Nat)) : List Nat := (((filesOf rest).zip cs).filter fun x => decide (CUT ≤ x.1.size)).flatMap fun x => x.2
def fewOf (rest : List Item) (cs : List (List Nat)) : List Nat := (((filesOf rest).zip cs).filter fun x => decide (x.1.size < CUT)).flatMap fun x => x.2
def hungOf (ds : List Item) : List (Option (List Nat)) := (List.range ds.length).map fun i => if ((ds[i]?).any fun d => d.kind == 1 || d.kind == 5) = true then children ds i else some []
def wantedOf (ds : List Item) : List Nat := (List.range ds.length).filter fun i => (ds[i]?).any fun d => d.kind == 1 || d.kind == 2
structure Treed (ds : List Item) (hs : List (List Nat)) : Prop where
  hung : allSome (hungOf ds) = some hs
  once : hs.flatten.Nodup
  all : hs.flatten.length = (wantedOf ds).length
  under : (under ds ds.length 0).length = (wantedOf ds).length
  ord : (hs.all fun l => ordered ds l) = true
structure Is (b : Bytes) (ls ts dir st : List Nat) (root : Item) (rest : List Item) (lies : List Nat) (cs hs : List (List Nat)) : Prop where
  head : headGood b = true
  hls : lists b (num b 72 4) (num b 68 4) = some ls
  hts : tables b ls = some ts
  len : sectors b ≤ (entries b ts).length
  more : (((entries b ts).drop (sectors b)).all fun x => x == FREE) = true
  hdir : chain (tab b ts) (sectors b) (num b 48 4) = some dir
  hst : chain (tab b ts) (sectors b) (num b 60 4) = some st
  items : allSome ((List.range (4 * dir.length)).map fun i => item (part (bytesOf b dir) (128 * i) 128)) = some (root :: rest)
  rk : root.kind = 5
  rl : root.left = NONE
  rr : root.right = NONE
  stl : st.length = num b 64 4
  noroot : (rest.any fun d => d.kind == 5) = false
  hlies : chain (tab b ts) (sectors b) root.start = some lies
  liesl : lies.length = ceil root.size 512
  r64 : root.size % 64 = 0
  elen : ceil root.size 64 ≤ (every b st).length
  emore : (((every b st).drop (ceil root.size 64)).all fun x => x == FREE) = true
  own : allSome ((filesOf rest).map fun d => ownChain (mk b ts st (root :: rest) lies root.size) d) = some cs
  used : (ts ++ (ls ++ (dir ++ (st ++ (lies ++ bigOf rest cs))))).Nodup
  few : (fewOf rest cs).Nodup
  markT : (ts.all fun i => (tab b ts).getD i 0 == TABLE) = true
  markL : (ls.all fun i => (tab b ts).getD i 0 == LIST) = true
  free : ((List.range (sectors b)).all fun i => (ts ++ (ls ++ (dir ++ (st ++ (lies ++ bigOf rest cs))))).contains i || (tab b ts).getD i 0 == FREE) = true
  sfree : ((List.range (ceil root.size 64)).all fun i => (fewOf rest cs).contains i || ((every b st).take (ceil root.size 64)).getD i 0 == FREE) = true
  tree : Treed (root :: rest) hs
theorem store_iff {b : Bytes} {x : Store} : store b = some x ↔ ∃ ls ts dir st root rest lies cs hs, Is b ls ts dir st root rest lies cs hs ∧ x = mk b ts st (root :: rest) lies root.size := by
  constructor
  · intro h
    unfold store at h
    split at h
    · cases h
    rename_i hh
    simp only [Option.bind_eq_some_iff] at h
    obtain ⟨ls, hls, ts, hts, h⟩ := h
    (try dsimp only at h)
    split at h
    · cases h
    rename_i hsz
    simp only [Option.bind_eq_some_iff] at h
    obtain ⟨dir, hdir, st, hst, ds, hds, h⟩ := h
    cases ds with
    | nil => cases h
    | cons root rest =>
      (try dsimp only at h)
      split at h
      · cases h
      rename_i hroot
      simp only [Option.bind_eq_some_iff] at h
      obtain ⟨lies, hlies, h⟩ := h
      (try dsimp only at h)
      split at h
      · cases h
      rename_i hsm
      simp only [Option.bind_eq_some_iff] at h
      obtain ⟨cs, hcs, hs, hhs, h⟩ := h
      (try dsimp only at h)
      split at h
      · rename_i hall
        simp only [Bool.and_eq_true, decide_eq_true_eq] at hall
        obtain ⟨h1, h2, ⟨h3, h3'⟩, ⟨h4, h4'⟩, h5, ⟨h6, h7⟩, h8⟩ := hall
        simp only [not_or, Nat.not_lt, Bool.not_eq_false, ne_eq, Decidable.not_not, Bool.not_eq_true] at hsz hroot hsm
        obtain ⟨r1, r2, r3, r4, r5⟩ := hroot
        obtain ⟨s1, s2, s3, s4⟩ := hsm
        refine ⟨ls, ts, dir, st, root, rest, lies, cs, hs, ⟨by simpa using hh, hls, hts, hsz.1, hsz.2, hdir, hst, hds, r1, r2, r3, r4, r5, hlies, s1, s2, s3, s4, hcs, (distinct_iff _).mp h1, (distinct_iff _).mp h2, h3, h3', h4, h4', ⟨hhs, (distinct_iff _).mp h5, h6, h7, h8⟩⟩, ?_⟩
        exact (Option.some.inj h).symm
      · cases h
  · rintro ⟨ls, ts, dir, st, root, rest, lies, cs, hs, I, rfl⟩
    unfold store
    rw [if_neg (by rw [I.head]; decide), I.hls]
    dsimp only [Option.bind]
    rw [I.hts]
    (try dsimp only)
    rw [if_neg (by rw [I.more]; have := I.len; simp; omega)]
    have e1 := I.hdir
    have e2 := I.hst
    have e3 := I.hlies
    unfold tab at e1 e2 e3
    rw [e1]
    (try dsimp only)
    rw [e2]
    (try dsimp only)
    rw [I.items]
    (try dsimp only)
    rw [if_neg (by simp only [not_or, ne_eq, Decidable.not_not, Bool.not_eq_true]; exact ⟨I.rk, I.rl, I.rr, I.stl, I.noroot⟩), e3]
    (try dsimp only)
    have e4 := I.elen
    have e5 := I.emore
    unfold every at e4 e5
    rw [if_neg (by simp only [not_or, ne_eq, Decidable.not_not, Bool.not_eq_false, Nat.not_lt]; exact ⟨I.liesl, I.r64, e4, e5⟩)]
    have e6 := I.own
    unfold mk filesOf at e6
    unfold every tab at e6
    rw [e6]
    (try dsimp only)
    have e7 := I.tree.hung
    unfold hungOf at e7
    rw [e7]
    (try dsimp only)
    rw [if_pos]
    · rfl
    · simp only [Bool.and_eq_true, decide_eq_true_eq]
      exact ⟨(distinct_iff _).mpr I.used, (distinct_iff _).mpr I.few, ⟨I.markT, I.markL⟩, ⟨I.free, I.sfree⟩, (distinct_iff _).mpr I.tree.once, ⟨I.tree.all, I.tree.under⟩, I.tree.ord⟩
theorem store_none {b : Bytes} (h : ∀ ls ts dir st root rest lies cs hs, ¬ Is b ls ts dir st root rest lies cs hs) : store b = none := by
  cases e : store b with
  | none => rfl
  | some x =>
    obtain ⟨ls, ts, dir, st, root, rest, lies, cs, hs, I, _⟩ := store_iff.mp e
    exact (h _ _ _ _ _ _ _ _ _ I).elim
end FV
namespace FV
open Rc22
theorem nodup_le : ∀ (m : Nat) (l : List Nat), l.Nodup → (∀ x ∈ l, x < m) → l.length ≤ m
  | 0, l, _, h => by
    cases l with
    | nil => simp
    | cons x r => exact absurd (h x List.mem_cons_self) (by omega)
  | m + 1, l, hn, h => by
    by_cases hm : m ∈ l
    · have h1 := nodup_le m (l.erase m) (hn.erase m) fun x hx => by
        have hx' := (List.Nodup.mem_erase_iff hn).mp hx
        have := h x hx'.2
        omega
      rw [List.length_erase_of_mem hm] at h1
      omega
    · have h1 := nodup_le m l hn fun x hx => by
        have := h x hx
        have : x ≠ m := fun e => hm (e ▸ hx)
        omega
      omega
def marks (m : Nat) (used : List Nat) : List Bool := (List.range m).map fun i => used.contains i
theorem marks_length (m : Nat) (used : List Nat) : (marks m used).length = m := by simp [marks]
theorem marks_get {m : Nat} {used : List Nat} {i : Nat} (h : i < m) : (marks m used)[i]? = some (used.contains i) := by
  unfold marks; rw [List.getElem?_map, List.getElem?_range h]; rfl
theorem marks_set {m : Nat} {used : List Nat} {i : Nat} (h : i < m) : (marks m used).set i true = marks m (used ++ [i]) := by
  apply List.ext_getElem?
  intro j
  by_cases hj : j < m
  · rw [marks_get hj]
    by_cases e : i = j
    · subst e
      rw [List.getElem?_set_self (by rw [marks_length]; exact h)]
      simp
    · rw [List.getElem?_set_ne e, marks_get hj]
      have : (j == i) = false := by simp; omega
      simp
      intro q
      exact absurd q.symm e
  · have h1 : (marks m (used ++ [i]))[j]? = none := by simp [marks]; omega
    have h2 : ((marks m used).set i true)[j]? = none := by simp [marks]; omega
    rw [h1, h2]
theorem marks_nil (m : Nat) : marks m [] = List.replicate m false := by
  apply List.ext_getElem?
  intro j
  by_cases hj : j < m
  · rw [marks_get hj, List.getElem?_replicate, if_pos hj]; simp
  · have h1 : (marks m [])[j]? = none := by simp [marks]; omega
    rw [h1, List.getElem?_replicate, if_neg hj]
def untaken (m : Nat) (used : List Nat) : List Nat := (List.range m).filter fun i => !used.contains i
theorem mem_untaken {m : Nat} {used : List Nat} {i : Nat} : i ∈ untaken m used ↔ i < m ∧ i ∉ used := by
  unfold untaken; simp
structure Apart (m : Nat) (used : List Nat) : Prop where
  nd : used.Nodup
  lt : ∀ x ∈ used, x < m
theorem Apart.nil (m : Nat) : Apart m [] := ⟨List.nodup_nil, fun _ h => nomatch h⟩
theorem Apart.le {m : Nat} {used : List Nat} (h : Apart m used) : used.length ≤ m := nodup_le m used h.nd h.lt
theorem Apart.snoc {m : Nat} {used : List Nat} {i : Nat} (h : Apart m used) (h1 : i < m) (h2 : i ∉ used) : Apart m (used ++ [i]) := by
  refine ⟨List.nodup_append.mpr ⟨h.nd, by simp, fun a ha b hb => ?_⟩, fun x hx => ?_⟩
  · have : b = i := by simpa using hb
    subst this
    rintro rfl
    exact h2 ha
  · rcases List.mem_append.mp hx with hx | hx
    · exact h.lt x hx
    · have : x = i := by simpa using hx
      rw [this]; exact h1
theorem Apart.room {m : Nat} {used : List Nat} {i : Nat} (h : Apart m used) (h1 : i < m) (h2 : i ∉ used) : used.length < m := by
  have := (h.snoc h1 h2).le
  rw [List.length_append] at this
  simp at this
  omega
theorem Apart.left {m : Nat} {a b : List Nat} (h : Apart m (a ++ b)) : Apart m a := ⟨(List.nodup_append.mp h.nd).1, fun x hx => h.lt x (List.mem_append_left _ hx)⟩
theorem Apart.right {m : Nat} {a b : List Nat} (h : Apart m (a ++ b)) : Apart m b := ⟨(List.nodup_append.mp h.nd).2.1, fun x hx => h.lt x (List.mem_append_right _ hx)⟩
theorem chain_zero (t : List Nat) (s : Nat) : chain t 0 s = if s = END then some [] else none := rfl
theorem chain_succ (t : List Nat) (n s : Nat) : chain t (n + 1) s = if s = END then some [] else if s < t.length then (chain t n (t.getD s FREE)).map fun l => s :: l else none := rfl
theorem chain_end (t : List Nat) (n : Nat) : chain t n END = some [] := by
  cases n <;> simp [chain]
theorem chain_cons {t : List Nat} {n s : Nat} {c : List Nat} (hs : s ≠ END) (h : chain t n s = some c) : ∃ k r, n = k + 1 ∧ c = s :: r ∧ s < t.length ∧ chain t k (t.getD s FREE) = some r := by
  cases n with
  | zero => rw [chain_zero, if_neg hs] at h; cases h
  | succ k =>
    rw [chain_succ, if_neg hs] at h
    split at h
    · rename_i hlt
      cases e : chain t k (t.getD s FREE) with
      | none => rw [e] at h; cases h
      | some r =>
        rw [e] at h
        exact ⟨k, r, rfl, (Option.some.inj h).symm, hlt, e⟩
    · cases h
theorem chain_mem {t : List Nat} : ∀ {n s : Nat} {c : List Nat}, chain t n s = some c → ∀ x ∈ c, x < t.length
  | 0, s, c, h => by
    rw [chain_zero] at h
    split at h
    · cases h; simp
    · cases h
  | n + 1, s, c, h => by
    by_cases hs : s = END
    · subst hs
      rw [chain_end] at h
      cases h; simp
    · obtain ⟨k, r, e1, rfl, h1, h2⟩ := chain_cons hs h
      cases e1
      intro x hx
      rcases List.mem_cons.mp hx with rfl | hx
      · exact h1
      · exact chain_mem h2 x hx
def Follows (t : List Nat) (m first : Nat) (pre : List Nat) (cur : Nat) : Prop := ∀ c, chain t m first = some c ↔ ∃ r, c = pre ++ r ∧ chain t (m - pre.length) cur = some r
theorem Follows.start (t : List Nat) (m first : Nat) : Follows t m first [] first := fun c => by simp
theorem Follows.step {t : List Nat} {m first cur : Nat} {pre : List Nat} (h : Follows t m first pre cur) (h1 : cur ≠ END) (h2 : cur < t.length) (h3 : pre.length < m) : Follows t m first (pre ++ [cur]) (t.getD cur FREE) := fun c => by
  rw [h c]
  obtain ⟨k, hk⟩ : ∃ k, m - pre.length = k + 1 := ⟨m - pre.length - 1, by omega⟩
  have hk2 : m - (pre ++ [cur]).length = k := by rw [List.length_append]; simp; omega
  rw [hk, hk2, chain_succ, if_neg h1, if_pos h2]
  constructor
  · rintro ⟨r, rfl, e⟩
    obtain ⟨r', e1, rfl⟩ := Option.map_eq_some_iff.mp e
    exact ⟨r', by simp, e1⟩
  · rintro ⟨r, rfl, e⟩
    exact ⟨cur :: r, by simp, by rw [e]; rfl⟩
theorem Follows.done {t : List Nat} {m first : Nat} {pre : List Nat} (h : Follows t m first pre END) : chain t m first = some pre := (h pre).mpr ⟨[], by simp, chain_end _ _⟩
theorem Follows.out {t : List Nat} {m first cur : Nat} {pre : List Nat} (h : Follows t m first pre cur) (h1 : cur ≠ END) (h2 : t.length ≤ cur) (c : List Nat) : chain t m first ≠ some c := fun e => by
  obtain ⟨r, _, e2⟩ := (h c).mp e
  obtain ⟨_, _, _, _, h3, _⟩ := chain_cons h1 e2
  omega
theorem Follows.twice {t : List Nat} {m first cur : Nat} {pre used : List Nat} (h : Follows t m first pre cur) (h1 : cur ≠ END) (h2 : cur ∈ used ++ pre) (c : List Nat) (e : chain t m first = some c) : ¬ (used ++ c).Nodup := fun nd => by
  obtain ⟨r, rfl, e2⟩ := (h c).mp e
  obtain ⟨_, r', _, rfl, _, _⟩ := chain_cons h1 e2
  rw [← List.append_assoc] at nd
  exact (List.nodup_append.mp nd).2.2 cur h2 cur List.mem_cons_self rfl
theorem lists_zero (b : Bytes) (s : Nat) : lists b 0 s = if s = END ∨ s = FREE then some [] else none := rfl
theorem lists_succ (b : Bytes) (n s : Nat) : lists b (n + 1) s = if s < sectors b then (lists b n (num (sector b s) 508 4)).map fun l => s :: l else none := rfl
def Lists (b : Bytes) (n first : Nat) (pre : List Nat) (cur : Nat) : Prop := pre.length ≤ n ∧ ∀ c, lists b n first = some c ↔ ∃ r, c = pre ++ r ∧ lists b (n - pre.length) cur = some r
theorem Lists.start (b : Bytes) (n first : Nat) : Lists b n first [] first := ⟨by simp, fun c => by simp⟩
theorem Lists.step {b : Bytes} {n first cur : Nat} {pre : List Nat} (h : Lists b n first pre cur) (h2 : cur < sectors b) (h3 : pre.length < n) : Lists b n first (pre ++ [cur]) (num (sector b cur) 508 4) := by
  refine ⟨by rw [List.length_append]; simp; omega, fun c => ?_⟩
  rw [h.2 c]
  obtain ⟨k, hk⟩ : ∃ k, n - pre.length = k + 1 := ⟨n - pre.length - 1, by omega⟩
  have hk2 : n - (pre ++ [cur]).length = k := by rw [List.length_append]; simp; omega
  rw [hk, hk2, lists_succ, if_pos h2]
  constructor
  · rintro ⟨r, rfl, e⟩
    obtain ⟨r', e1, rfl⟩ := Option.map_eq_some_iff.mp e
    exact ⟨r', by simp, e1⟩
  · rintro ⟨r, rfl, e⟩
    exact ⟨cur :: r, by simp, by rw [e]; rfl⟩
theorem Lists.cons {b : Bytes} {n first cur : Nat} {pre c : List Nat} (h : Lists b n first pre cur) (h3 : pre.length < n) (e : lists b n first = some c) : cur < sectors b ∧ ∃ r, c = pre ++ cur :: r := by
  obtain ⟨r, rfl, e2⟩ := (h.2 c).mp e
  obtain ⟨k, hk⟩ : ∃ k, n - pre.length = k + 1 := ⟨n - pre.length - 1, by omega⟩
  rw [hk, lists_succ] at e2
  split at e2
  · obtain ⟨r', _, rfl⟩ := Option.map_eq_some_iff.mp e2
    exact ⟨by assumption, r', rfl⟩
  · cases e2
theorem Lists.out {b : Bytes} {n first cur : Nat} {pre : List Nat} (h : Lists b n first pre cur) (h3 : pre.length < n) (h2 : sectors b ≤ cur) (c : List Nat) : lists b n first ≠ some c := fun e => by
  have := (h.cons h3 e).1
  omega
theorem Lists.twice {b : Bytes} {n first cur : Nat} {pre : List Nat} (h : Lists b n first pre cur) (h3 : pre.length < n) (h2 : cur ∈ pre) (c : List Nat) (e : lists b n first = some c) : ¬ c.Nodup := fun nd => by
  obtain ⟨_, r, rfl⟩ := h.cons h3 e
  exact (List.nodup_append.mp nd).2.2 cur h2 cur List.mem_cons_self rfl
theorem Lists.done {b : Bytes} {n first cur : Nat} {pre : List Nat} (h : Lists b n first pre cur) (h3 : ¬ pre.length < n) (h2 : cur = END ∨ cur = FREE) : lists b n first = some pre :=
  (h.2 pre).mpr ⟨[], by simp, by have : n - pre.length = 0 := by omega
                                 rw [this, lists_zero, if_pos h2]⟩
theorem Lists.open {b : Bytes} {n first cur : Nat} {pre : List Nat} (h : Lists b n first pre cur) (h3 : ¬ pre.length < n) (h2 : ¬ (cur = END ∨ cur = FREE)) (c : List Nat) : lists b n first ≠ some c := fun e => by
  obtain ⟨r, _, e2⟩ := (h.2 c).mp e
  have : n - pre.length = 0 := by omega
  rw [this, lists_zero, if_neg h2] at e2
  cases e2
theorem lists_mem {b : Bytes} : ∀ {n s : Nat} {c : List Nat}, lists b n s = some c → ∀ x ∈ c, x < sectors b
  | 0, s, c, h => by
    rw [lists_zero] at h
    split at h
    · cases h; simp
    · cases h
  | n + 1, s, c, h => by
    rw [lists_succ] at h
    split at h
    · rename_i hlt
      obtain ⟨r, e, rfl⟩ := Option.map_eq_some_iff.mp h
      intro x hx
      rcases List.mem_cons.mp hx with rfl | hx
      · exact hlt
      · exact lists_mem e x hx
    · cases h
theorem nums_last {r : List Nat} (h : r.length = 512) : (nums r)[127]? = some (n4 r 508) := by
  have : 127 < r.length / 4 := by omega
  rw [nums_get this]
def namedOf (b : Bytes) (ls : List Nat) : List Nat := nums (((nb b).drop 76).take 436) ++ ls.flatMap fun s => (nums (nb (sector b s))).take 127
theorem named_eq {b : Bytes} {ls : List Nat} (h0 : b.length % 512 = 0) (hb : 512 ≤ b.length) (h : ∀ s ∈ ls, s < sectors b) :
    (((List.range 109).map fun k => num b (76 + 4 * k) 4) ++ ls.flatMap fun s => (List.range 127).map fun k => num (sector b s) (4 * k) 4) = namedOf b ls := by
  unfold namedOf
  congr 1
  · rw [← nb_part]
    unfold nums
    have e : (nb (part b 76 436)).length / 4 = 109 := by
      rw [nb_length]; unfold part; rw [List.length_take, List.length_drop]; omega
    rw [e]
    apply List.map_congr_left
    intro k hk
    have hk := List.mem_range.mp hk
    rw [← num4]
    have : ∀ n, num (part b 76 436) (4 * k) n = if 4 * k + n ≤ 436 then num b (76 + 4 * k) n else num (part b 76 436) (4 * k) n := fun n => by
      split
      · unfold num part
        rw [List.drop_take, List.drop_drop, List.take_take]
        have : min n (436 - 4 * k) = n := by omega
        rw [this]
      · rfl
    rw [this 4, if_pos (by omega)]
  · rw [List.flatMap_def, List.flatMap_def]
    congr 1
    apply List.map_congr_left
    intro s hs
    rw [nums_sector (sector_length h0 (h s hs)), ← List.map_take, List.take_range]
    rfl
theorem tables_iff {b : Bytes} {ls ts : List Nat} (h0 : b.length % 512 = 0) (hb : 512 ≤ b.length) (h : ∀ s ∈ ls, s < sectors b) :
    tables b ls = some ts ↔ num b 44 4 ≤ (namedOf b ls).length ∧ ts = (namedOf b ls).take (num b 44 4) ∧ (∀ s ∈ ts, s < sectors b) ∧ ((namedOf b ls).drop (num b 44 4)).all (fun s => s == FREE) = true := by
  unfold tables
  dsimp only
  rw [named_eq h0 hb h]
  constructor
  · intro e
    split at e
    · rename_i hc
      obtain ⟨h1, h2, h3⟩ := hc
      have e := Option.some.inj e
      subst e
      exact ⟨h1, rfl, fun s hs => of_decide_eq_true (List.all_eq_true.mp h2 s hs), h3⟩
    · cases e
  · rintro ⟨h1, rfl, h2, h3⟩
    rw [if_pos ⟨h1, List.all_eq_true.mpr fun s hs => decide_eq_true (h2 s hs), h3⟩]
end FV
namespace FV
open Rc22
theorem nodup_sub_le : ∀ (l l' : List Nat), l.Nodup → (∀ x ∈ l, x ∈ l') → l.length ≤ l'.length
  | [], _, _, _ => by simp
  | x :: r, l', hn, h => by
    have hx : x ∈ l' := h x List.mem_cons_self
    have h1 := nodup_sub_le r (l'.erase x) (List.nodup_cons.mp hn).2 fun y hy => by
      have hne : y ≠ x := fun e => (List.nodup_cons.mp hn).1 (e ▸ hy)
      exact (List.mem_erase_of_ne hne).mpr (h y (List.mem_cons_of_mem _ hy))
    rw [List.length_erase_of_mem hx] at h1
    have : 0 < l'.length := List.length_pos_of_mem hx
    simp only [List.length_cons]
    omega
inductive T (ds : List Item) : Nat → List Nat → Prop
  | nil : T ds NONE []
  | node {i : Nat} {d : Item} {l r : List Nat} (h : ds[i]? = some d) (hk : d.kind = 1 ∨ d.kind = 2) (hn : i ≠ NONE) (hl : T ds d.left l) (hr : T ds d.right r) : T ds i (l ++ i :: r)
theorem T.det {ds : List Item} {i : Nat} {l l' : List Nat} (h : T ds i l) : T ds i l' → l = l' := by
  induction h generalizing l' with
  | nil =>
    intro h'
    cases h' with
    | nil => rfl
    | node _ _ hn _ _ => exact absurd rfl hn
  | node h hk hn _ _ ih1 ih2 =>
    intro h'
    cases h' with
    | nil => exact absurd rfl hn
    | node g _ _ gl gr =>
      rw [h] at g
      cases g
      rw [ih1 gl, ih2 gr]
theorem T.none_nil {ds : List Item} {l : List Nat} (h : T ds NONE l) : l = [] := h.det .nil
theorem T.node_inv {ds : List Item} {i : Nat} {l : List Nat} (hn : i ≠ NONE) (h : T ds i l) : ∃ d a c, ds[i]? = some d ∧ (d.kind = 1 ∨ d.kind = 2) ∧ T ds d.left a ∧ T ds d.right c ∧ l = a ++ i :: c := by
  cases h with
  | nil => exact absurd rfl hn
  | node h hk _ hl hr => exact ⟨_, _, _, h, hk, hl, hr, rfl⟩
theorem T.mem {ds : List Item} {i : Nat} {l : List Nat} (h : T ds i l) : ∀ x ∈ l, ∃ d, ds[x]? = some d ∧ (d.kind = 1 ∨ d.kind = 2) := by
  induction h with
  | nil => intro x hx; cases hx
  | node h hk hn _ _ ih1 ih2 =>
    intro x hx
    rcases List.mem_append.mp hx with hx | hx
    · exact ih1 x hx
    · rcases List.mem_cons.mp hx with rfl | hx
      · exact ⟨_, h, hk⟩
      · exact ih2 x hx
theorem tree_T {ds : List Item} : ∀ {n i : Nat} {l : List Nat}, tree ds n i = some l → T ds i l
  | 0, i, l, h => by
    unfold tree at h
    split at h
    · rename_i e; cases h; rw [e]; exact .nil
    · cases h
  | n + 1, i, l, h => by
    unfold tree at h
    split at h
    · rename_i e; cases h; rw [e]; exact .nil
    · rename_i hn
      cases e : ds[i]? with
      | none => rw [e] at h; cases h
      | some d =>
        rw [e] at h
        dsimp only at h
        split at h
        · rename_i hk
          obtain ⟨a, h1, h2⟩ := Option.bind_eq_some_iff.mp h
          obtain ⟨c, h3, rfl⟩ := Option.map_eq_some_iff.mp h2
          exact .node e hk hn (tree_T h1) (tree_T h3)
        · cases h
theorem T.tree {ds : List Item} {i : Nat} {l : List Nat} (h : T ds i l) : ∀ n, l.length ≤ n → Rc22.tree ds n i = some l := by
  induction h with
  | nil => intro n _; cases n <;> simp [Rc22.tree]
  | node h hk hn _ _ ih1 ih2 =>
    intro n hl
    rw [List.length_append, List.length_cons] at hl
    cases n with
    | zero => omega
    | succ n =>
      unfold Rc22.tree
      rw [if_neg hn, h]
      dsimp only
      rw [if_pos hk, ih1 n (by omega), Option.bind_some, ih2 n (by omega)]
      rfl
def After (ds : List Item) : List Nat → List Nat → Prop
  | [], r => r = []
  | w :: ws, r => ∃ d a r', ds[w]? = some d ∧ T ds d.right a ∧ r = w :: (a ++ r') ∧ After ds ws r'
def Rest (ds : List Item) (cur : Nat) (ws r : List Nat) : Prop := ∃ a r', T ds cur a ∧ r = a ++ r' ∧ After ds ws r'
def Walks (ds : List Item) (first : Nat) (pre : List Nat) (cur : Nat) (ws : List Nat) : Prop := ∀ l, T ds first l ↔ ∃ r, l = pre ++ r ∧ Rest ds cur ws r
theorem After.mem {ds : List Item} : ∀ {ws r : List Nat}, After ds ws r → ∀ w ∈ ws, w ∈ r
  | [], _, _, w, hw => nomatch hw
  | v :: ws, r, h, w, hw => by
    obtain ⟨d, a, r', _, _, rfl, h'⟩ := h
    rcases List.mem_cons.mp hw with rfl | hw
    · exact List.mem_cons_self
    · exact List.mem_cons_of_mem _ (List.mem_append_right _ (h'.mem w hw))
theorem Walks.start (ds : List Item) (first : Nat) : Walks ds first [] first [] := fun l => by
  constructor
  · intro h; exact ⟨l, rfl, l, [], h, by simp, rfl⟩
  · rintro ⟨r, rfl, a, r', h, rfl, h2⟩
    have : r' = [] := h2
    subst this
    simpa using h
theorem Walks.down {ds : List Item} {first cur : Nat} {pre ws : List Nat} {d : Item} (h : Walks ds first pre cur ws) (hd : ds[cur]? = some d) (hk : d.kind = 1 ∨ d.kind = 2) (hn : cur ≠ NONE) : Walks ds first pre d.left (cur :: ws) := fun l => by
  rw [h l]
  constructor
  · rintro ⟨r, rfl, a, r', h1, rfl, h2⟩
    obtain ⟨d', a1, a2, e, _, hl, hr, rfl⟩ := h1.node_inv hn
    rw [hd] at e
    cases e
    exact ⟨_, rfl, a1, cur :: (a2 ++ r'), hl, by simp, d, a2, r', hd, hr, rfl, h2⟩
  · rintro ⟨r, rfl, a, r', h1, rfl, d', a2, r'', e, hr, rfl, h2⟩
    rw [hd] at e
    cases e
    exact ⟨_, rfl, a ++ cur :: a2, r'', .node hd hk hn h1 hr, by simp, h2⟩
theorem Walks.up {ds : List Item} {first w : Nat} {pre ws : List Nat} {d : Item} (h : Walks ds first pre NONE (w :: ws)) (hd : ds[w]? = some d) : Walks ds first (pre ++ [w]) d.right ws := fun l => by
  rw [h l]
  constructor
  · rintro ⟨r, rfl, a, r', h1, rfl, d', a2, r'', e, hr, rfl, h2⟩
    rw [hd] at e
    cases e
    have := h1.none_nil
    subst this
    exact ⟨a2 ++ r'', by simp, a2, r'', hr, rfl, h2⟩
  · rintro ⟨r, rfl, a, r', h1, rfl, h2⟩
    exact ⟨w :: (a ++ r'), by simp, [], w :: (a ++ r'), .nil, rfl, d, a, r', hd, h1, rfl, h2⟩
theorem Walks.done {ds : List Item} {first : Nat} {pre : List Nat} (h : Walks ds first pre NONE []) : T ds first pre := (h pre).mpr ⟨[], by simp, [], [], .nil, rfl, rfl⟩
theorem Walks.out {ds : List Item} {first cur : Nat} {pre ws : List Nat} (h : Walks ds first pre cur ws) (hn : cur ≠ NONE) (h2 : ∀ d, ds[cur]? = some d → ¬ (d.kind = 1 ∨ d.kind = 2)) (l : List Nat) : ¬ T ds first l := fun e => by
  obtain ⟨r, _, a, r', h1, _, _⟩ := (h l).mp e
  obtain ⟨d, _, _, e1, e2, _⟩ := h1.node_inv hn
  exact h2 d e1 e2
theorem Walks.twice {ds : List Item} {first cur : Nat} {pre ws used : List Nat} (h : Walks ds first pre cur ws) (hn : cur ≠ NONE) (h2 : cur ∈ used ∨ cur ∈ pre ∨ cur ∈ ws) (l : List Nat) (e : T ds first l) : ¬ (used ++ l).Nodup := fun nd => by
  obtain ⟨r, rfl, a, r', h1, rfl, h3⟩ := (h l).mp e
  obtain ⟨d, a1, a2, _, _, _, _, rfl⟩ := h1.node_inv hn
  have hc : cur ∈ a1 ++ cur :: a2 := List.mem_append_right _ List.mem_cons_self
  have nd2 := List.nodup_append.mp nd
  have nd3 := List.nodup_append.mp nd2.2.1
  have nd4 := List.nodup_append.mp nd3.2.1
  rcases h2 with h2 | h2 | h2
  · exact nd2.2.2 cur h2 cur (List.mem_append_right _ (List.mem_append_left _ hc)) rfl
  · exact nd3.2.2 cur h2 cur (List.mem_append_left _ hc) rfl
  · exact nd4.2.2 cur hc cur (h3.mem cur h2) rfl
def kindAt (ds : List Item) (i : Nat) : Nat := ((ds[i]?).map (·.kind)).getD 0
def belowAt (ds : List Item) (i : Nat) : Nat := ((ds[i]?).map (·.below)).getD NONE
def folders (ds : List Item) (w : List Nat) : List Nat := w.filter fun i => kindAt ds i == 1
theorem kindAt_some {ds : List Item} {i : Nat} {d : Item} (h : ds[i]? = some d) : kindAt ds i = d.kind := by simp [kindAt, h]
theorem belowAt_some {ds : List Item} {i : Nat} {d : Item} (h : ds[i]? = some d) : belowAt ds i = d.below := by simp [belowAt, h]
theorem kindAt_lt {ds : List Item} {i : Nat} (h : kindAt ds i ≠ 0) : i < ds.length := by
  unfold kindAt at h
  cases e : ds[i]? with
  | none => rw [e] at h; exact absurd rfl h
  | some d => exact (List.getElem?_eq_some_iff.mp e).1
theorem T.kinds {ds : List Item} {i : Nat} {l : List Nat} (h : T ds i l) : ∀ x ∈ l, kindAt ds x = 1 ∨ kindAt ds x = 2 := fun x hx => by
  obtain ⟨d, e, hk⟩ := h.mem x hx
  rw [kindAt_some e]; exact hk
inductive Run (ds : List Item) : List Nat → List (Nat × List Nat) → Prop
  | nil : Run ds [] []
  | cons {f : Nat} {w rest : List Nat} {L : List (Nat × List Nat)} (ht : T ds (belowAt ds f) w) (hk : kindAt ds f = 1 ∨ kindAt ds f = 5) (h : Run ds (rest ++ folders ds w) L) : Run ds (rest ++ [f]) ((f, w) :: L)
theorem Run.all {ds : List Item} {F : List Nat} {L : List (Nat × List Nat)} (h : Run ds F L) : ∀ p ∈ L, T ds (belowAt ds p.1) p.2 ∧ (kindAt ds p.1 = 1 ∨ kindAt ds p.1 = 5) := by
  induction h with
  | nil => intro p hp; cases hp
  | cons ht hk _ ih =>
    intro p hp
    rcases List.mem_cons.mp hp with rfl | hp
    · exact ⟨ht, hk⟩
    · exact ih p hp
theorem Run.perm {ds : List Item} {F : List Nat} {L : List (Nat × List Nat)} (h : Run ds F L) : (L.map (·.1)).Perm (F ++ folders ds (L.flatMap (·.2))) := by
  induction h with
  | nil => exact .refl _
  | @cons f w rest L ht hk _ ih =>
    have e : folders ds (List.flatMap (·.2) ((f, w) :: L)) = folders ds w ++ folders ds (L.flatMap (·.2)) := by
      rw [List.flatMap_cons]; exact List.filter_append ..
    rw [e, List.map_cons]
    refine (List.Perm.cons f ih).trans ?_
    rw [List.append_assoc, List.append_assoc]
    exact List.perm_middle.symm
theorem under_succ (ds : List Item) (n i : Nat) : under ds (n + 1) i = ((children ds i).getD []).flatMap fun k => k :: under ds n k := rfl
theorem under_file {ds : List Item} {k : Nat} (h : kindAt ds k = 2) : ∀ n, under ds n k = []
  | 0 => rfl
  | n + 1 => by
    rw [under_succ]
    unfold kindAt at h
    cases e : ds[k]? with
    | none => rw [e] at h; cases h
    | some d =>
      rw [e] at h
      have hk : d.kind = 2 := h
      have : children ds k = some [] := by
        unfold children
        rw [e, Option.bind_some, if_neg (by omega)]
      rw [this]; rfl
theorem under_len {ds : List Item} {f n : Nat} {w : List Nat} (hc : children ds f = some w) (hw : ∀ x ∈ w, kindAt ds x = 1 ∨ kindAt ds x = 2) :
    (under ds (n + 1) f).length = w.length + ((folders ds w).map fun k => (under ds n k).length).sum := by
  rw [under_succ, hc]
  show (w.flatMap fun k => k :: under ds n k).length = _
  clear hc
  induction w with
  | nil => rfl
  | cons x r ih =>
    have hr := ih fun y hy => hw y (List.mem_cons_of_mem _ hy)
    rw [List.flatMap_cons, List.length_append, hr, List.length_cons, List.length_cons]
    unfold folders
    rw [List.filter_cons]
    rcases hw x List.mem_cons_self with hk | hk
    · rw [if_pos (by simp [hk]), List.map_cons, List.sum_cons]
      omega
    · rw [if_neg (by simp [hk]), under_file hk n]
      simp only [List.length_nil]
      omega
theorem Run.sizes {ds : List Item} {F : List Nat} {L : List (Nat × List Nat)} (h : Run ds F L) (hc : ∀ p ∈ L, children ds p.1 = some p.2) :
    (∀ f ∈ F, ∀ n, L.length ≤ n → (under ds n f).length = (under ds L.length f).length) ∧ (F.map fun f => (under ds L.length f).length).sum = (L.flatMap (·.2)).length := by
  induction h with
  | nil => exact ⟨fun f hf => (nomatch hf), rfl⟩
  | @cons f w rest L ht hk h ih =>
    obtain ⟨i1, i2⟩ := ih fun p hp => hc p (List.mem_cons_of_mem _ hp)
    have hcf : children ds f = some w := hc (f, w) List.mem_cons_self
    have st : ∀ k ∈ folders ds w, ∀ n, L.length ≤ n → (under ds n k).length = (under ds L.length k).length := fun k hk n hn => i1 k (List.mem_append_right _ hk) n hn
    have sf : ∀ n, L.length ≤ n → (under ds (n + 1) f).length = w.length + ((folders ds w).map fun k => (under ds L.length k).length).sum := fun n hn => by
      rw [under_len hcf ht.kinds]
      congr 2
      apply List.map_congr_left
      intro k hk
      exact st k hk n hn
    have sr : ∀ r ∈ rest, ∀ n, L.length ≤ n → (under ds n r).length = (under ds L.length r).length := fun r hr n hn => i1 r (List.mem_append_left _ hr) n hn
    refine ⟨fun x hx n hn => ?_, ?_⟩
    · rw [List.length_cons] at hn ⊢
      rcases List.mem_append.mp hx with hx | hx
      · rw [sr x hx n (by omega), sr x hx (L.length + 1) (by omega)]
      · have : x = f := by simpa using hx
        subst this
        obtain ⟨k, rfl⟩ : ∃ k, n = k + 1 := ⟨n - 1, by omega⟩
        rw [sf k (by omega), sf L.length (Nat.le_refl _)]
    · rw [List.length_cons, List.map_append, List.sum_append, List.flatMap_cons, List.length_append, ← i2, List.map_append, List.sum_append]
      have e1 : (rest.map fun f => (under ds (L.length + 1) f).length) = rest.map fun f => (under ds L.length f).length := by
        apply List.map_congr_left
        intro r hr
        exact sr r hr _ (by omega)
      rw [e1]
      have e2 : ([f].map fun f => (under ds (L.length + 1) f).length).sum = w.length + ((folders ds w).map fun k => (under ds L.length k).length).sum := by
        simp only [List.map_cons, List.map_nil, List.sum_cons, List.sum_nil, Nat.add_zero]
        exact sf L.length (Nat.le_refl _)
      rw [e2]
      show _ = w.length + _
      omega
def hsOf (n : Nat) (L : List (Nat × List Nat)) : List (List Nat) := (List.range n).map fun i => (L.lookup i).getD []
theorem hsOf_length (n : Nat) (L : List (Nat × List Nat)) : (hsOf n L).length = n := by simp [hsOf]
theorem hsOf_get {n : Nat} {L : List (Nat × List Nat)} {i : Nat} (h : i < n) : (hsOf n L)[i]? = some ((L.lookup i).getD []) := by
  unfold hsOf; rw [List.getElem?_map, List.getElem?_range h]; rfl
theorem lookup_app {L : List (Nat × List Nat)} {f i : Nat} {w : List Nat} : (L ++ [(f, w)]).lookup i = (L.lookup i).or (if i = f then some w else none) := by
  induction L with
  | nil =>
    by_cases e : i = f
    · subst e; simp [List.lookup]
    · have : (i == f) = false := by simpa using e
      simp [List.lookup, this, e]
  | cons p L ih =>
    obtain ⟨a, b⟩ := p
    by_cases e : i = a
    · subst e; simp [List.lookup]
    · have : (i == a) = false := by simpa using e
      simp only [List.cons_append, List.lookup, this, ih]
theorem lookup_none {L : List (Nat × List Nat)} {i : Nat} (h : i ∉ L.map (·.1)) : L.lookup i = none := by
  induction L with
  | nil => rfl
  | cons p L ih =>
    obtain ⟨a, b⟩ := p
    simp only [List.map_cons, List.mem_cons, not_or] at h
    have : (i == a) = false := by simpa using h.1
    simp only [List.lookup, this]
    exact ih h.2
theorem lookup_some {L : List (Nat × List Nat)} {i : Nat} {w : List Nat} (hn : (L.map (·.1)).Nodup) (h : (i, w) ∈ L) : L.lookup i = some w := by
  induction L with
  | nil => cases h
  | cons p L ih =>
    obtain ⟨a, b⟩ := p
    rw [List.map_cons, List.nodup_cons] at hn
    rcases List.mem_cons.mp h with e | h
    · cases e; simp [List.lookup]
    · have : i ≠ a := fun e => hn.1 (by rw [← e]; exact List.mem_map.mpr ⟨(i, w), h, rfl⟩)
      have : (i == a) = false := by simpa using this
      simp only [List.lookup, this]
      exact ih hn.2 h
theorem lookup_mem {L : List (Nat × List Nat)} {i : Nat} {w : List Nat} (h : L.lookup i = some w) : (i, w) ∈ L := by
  induction L with
  | nil => cases h
  | cons p L ih =>
    obtain ⟨a, b⟩ := p
    by_cases e : i = a
    · subst e
      simp [List.lookup] at h
      subst h
      exact List.mem_cons_self
    · have : (i == a) = false := by simpa using e
      simp only [List.lookup, this] at h
      exact List.mem_cons_of_mem _ (ih h)
theorem hsOf_set {n : Nat} {L : List (Nat × List Nat)} {f : Nat} {w : List Nat} (h : f < n) (hf : f ∉ L.map (·.1)) : (hsOf n L).set f w = hsOf n (L ++ [(f, w)]) := by
  apply List.ext_getElem?
  intro j
  by_cases hj : j < n
  · rw [hsOf_get hj, lookup_app]
    by_cases e : f = j
    · subst e
      rw [List.getElem?_set_self (by rw [hsOf_length]; exact h), lookup_none hf, if_pos rfl]
      rfl
    · rw [List.getElem?_set_ne e, hsOf_get hj, if_neg (fun q => e q.symm)]
      cases L.lookup j <;> rfl
  · have h1 : (hsOf n (L ++ [(f, w)]))[j]? = none := by simp [hsOf]; omega
    have h2 : ((hsOf n L).set f w)[j]? = none := by simp [hsOf]; omega
    rw [h1, h2]
theorem flat_put {h : Nat → List Nat} {f : Nat} {w : List Nat} (hf : h f = []) : ∀ {l : List Nat}, l.Nodup → f ∈ l → (l.flatMap fun i => if i = f then w else h i).Perm (w ++ l.flatMap h)
  | [], _, hm => nomatch hm
  | x :: l, hn, hm => by
    rw [List.nodup_cons] at hn
    rw [List.flatMap_cons, List.flatMap_cons]
    by_cases e : x = f
    · subst e
      rw [if_pos rfl, hf, List.nil_append]
      have : (l.flatMap fun i => if i = x then w else h i) = l.flatMap h := by
        rw [List.flatMap_def, List.flatMap_def]
        congr 1
        apply List.map_congr_left
        intro y hy
        rw [if_neg]
        rintro rfl
        exact hn.1 hy
      rw [this]
    · rw [if_neg e]
      have hm' : f ∈ l := by
        rcases List.mem_cons.mp hm with q | q
        · exact absurd q.symm e
        · exact q
      refine (List.Perm.append_left (h x) (flat_put hf hn.2 hm')).trans ?_
      rw [← List.append_assoc, ← List.append_assoc]
      exact List.Perm.append_right _ List.perm_append_comm
theorem hsOf_flat {n : Nat} : ∀ {L : List (Nat × List Nat)}, (L.map (·.1)).Nodup → (∀ p ∈ L, p.1 < n) → (hsOf n L).flatten.Perm (L.flatMap (·.2))
  | [], _, _ => by
    have : (hsOf n []).flatten = [] := by
      unfold hsOf
      rw [← List.flatMap_def]
      simp [List.lookup]
    rw [this]
    exact .refl _
  | (f, w) :: L, hn, hl => by
    rw [List.map_cons, List.nodup_cons] at hn
    have ih := hsOf_flat (n := n) hn.2 fun p hp => hl p (List.mem_cons_of_mem _ hp)
    have e : (hsOf n ((f, w) :: L)).flatten = (List.range n).flatMap fun i => if i = f then w else (L.lookup i).getD [] := by
      unfold hsOf
      rw [List.flatMap_def]
      congr 1
      apply List.map_congr_left
      intro i _
      by_cases e : i = f
      · subst e; simp [List.lookup]
      · have : (i == f) = false := by simpa using e
        simp [List.lookup, this, e]
    rw [e, List.flatMap_cons]
    refine (flat_put (h := fun i => (L.lookup i).getD []) (by rw [lookup_none hn.1]; rfl) List.nodup_range (List.mem_range.mpr (hl (f, w) List.mem_cons_self))).trans ?_
    refine List.Perm.append_left w ?_
    rw [List.flatMap_def]
    exact ih
theorem mem_wanted {ds : List Item} {i : Nat} : i ∈ wantedOf ds ↔ kindAt ds i = 1 ∨ kindAt ds i = 2 := by
  unfold wantedOf kindAt
  rw [List.mem_filter, List.mem_range]
  cases e : ds[i]? with
  | none =>
    simp
  | some d =>
    have := (List.getElem?_eq_some_iff.mp e).1
    simp [this]
theorem wanted_nodup (ds : List Item) : (wantedOf ds).Nodup := List.nodup_range.sublist List.filter_sublist
theorem folder_test {ds : List Item} {i : Nat} : (((ds[i]?).any fun d => d.kind == 1 || d.kind == 5) = true) ↔ (kindAt ds i = 1 ∨ kindAt ds i = 5) := by
  unfold kindAt
  cases e : ds[i]? with
  | none => simp
  | some d => simp
theorem children_T {ds : List Item} {f : Nat} {w : List Nat} (hk : kindAt ds f = 1 ∨ kindAt ds f = 5) (h : T ds (belowAt ds f) w) (hl : w.length ≤ ds.length) : children ds f = some w := by
  unfold children
  have hlt := kindAt_lt (ds := ds) (i := f) (by omega)
  obtain ⟨d, e⟩ : ∃ d, ds[f]? = some d := ⟨ds[f], List.getElem?_eq_getElem hlt⟩
  rw [kindAt_some e] at hk
  rw [belowAt_some e] at h
  rw [e, Option.bind_some, if_pos hk]
  exact h.tree _ hl
theorem T_children {ds : List Item} {f : Nat} {w : List Nat} (hk : kindAt ds f = 1 ∨ kindAt ds f = 5) (h : children ds f = some w) : T ds (belowAt ds f) w := by
  have hlt := kindAt_lt (ds := ds) (i := f) (by omega)
  obtain ⟨d, e⟩ : ∃ d, ds[f]? = some d := ⟨ds[f], List.getElem?_eq_getElem hlt⟩
  rw [kindAt_some e] at hk
  rw [belowAt_some e]
  unfold children at h
  rw [e, Option.bind_some, if_pos hk] at h
  exact tree_T h
structure Trees (ds : List Item) (F : List Nat) (L : List (Nat × List Nat)) : Prop where
  go : ∀ L', Run ds F L' → Run ds [0] (L ++ L')
  ap : Apart ds.length (0 :: L.flatMap (·.2))
  per : (F ++ L.map (·.1)).Perm (0 :: folders ds (L.flatMap (·.2)))
  all : ∀ p ∈ L, T ds (belowAt ds p.1) p.2 ∧ ordered ds p.2 = true
  kinds : ∀ f ∈ F, kindAt ds f = 1 ∨ kindAt ds f = 5
  kindsL : ∀ p ∈ L, kindAt ds p.1 = 1 ∨ kindAt ds p.1 = 5
theorem Trees.start {ds : List Item} (h : kindAt ds 0 = 5) : Trees ds [0] [] :=
  ⟨fun L' h => h, ⟨by simp, fun x hx => by
    have : x = 0 := by simpa using hx
    subst this
    exact kindAt_lt (by omega)⟩, .refl _, fun p hp => (nomatch hp), fun f hf => by
      have : f = 0 := by simpa using hf
      subst this
      exact .inr h, fun p hp => (nomatch hp)⟩
theorem Trees.nd {ds : List Item} {F : List Nat} {L : List (Nat × List Nat)} (h : Trees ds F L) : (F ++ L.map (·.1)).Nodup := by
  refine h.per.symm.nodup ?_
  have h1 : (0 :: folders ds (L.flatMap (·.2))).Sublist (0 :: L.flatMap (·.2)) := List.Sublist.cons_cons _ List.filter_sublist
  exact h.ap.nd.sublist h1
theorem Trees.lt {ds : List Item} {F : List Nat} {L : List (Nat × List Nat)} (h : Trees ds F L) : ∀ p ∈ L, p.1 < ds.length := fun p hp => kindAt_lt (by have := h.kindsL p hp; omega)
theorem Trees.step {ds : List Item} {rest : List Nat} {f : Nat} {L : List (Nat × List Nat)} {w : List Nat} (h : Trees ds (rest ++ [f]) L) (ht : T ds (belowAt ds f) w) (ho : ordered ds w = true) (hn : Apart ds.length (0 :: L.flatMap (·.2) ++ w)) :
    Trees ds (rest ++ folders ds w) (L ++ [(f, w)]) := by
  have ef : (L ++ [(f, w)]).flatMap (·.2) = L.flatMap (·.2) ++ w := by simp
  have hkf := h.kinds f (by simp)
  refine ⟨fun L' hr => ?_, ?_, ?_, ?_, ?_, ?_⟩
  · rw [List.append_assoc]
    exact h.go _ (.cons ht hkf hr)
  · rw [ef]; exact hn
  · rw [ef]
    have e2 : folders ds (L.flatMap (·.2) ++ w) = folders ds (L.flatMap (·.2)) ++ folders ds w := List.filter_append ..
    rw [e2, List.map_append]
    show (rest ++ folders ds w ++ (L.map (·.1) ++ [f])).Perm (0 :: (folders ds (L.flatMap (·.2)) ++ folders ds w))
    have p1 : (rest ++ folders ds w ++ (L.map (·.1) ++ [f])).Perm ((rest ++ [f] ++ L.map (·.1)) ++ folders ds w) := by
      rw [List.append_assoc, List.append_assoc, List.append_assoc]
      refine List.Perm.append_left rest ?_
      refine List.perm_append_comm.trans ?_
      rw [← List.append_assoc]
      exact List.Perm.append_right _ List.perm_append_comm
    refine p1.trans ?_
    exact List.Perm.append_right _ h.per
  · intro p hp
    rcases List.mem_append.mp hp with hp | hp
    · exact h.all p hp
    · have : p = (f, w) := by simpa using hp
      subst this
      exact ⟨ht, ho⟩
  · intro x hx
    rcases List.mem_append.mp hx with hx | hx
    · exact h.kinds x (List.mem_append_left _ hx)
    · have := (List.mem_filter.mp hx).2
      exact .inl (by simpa using this)
  · intro p hp
    rcases List.mem_append.mp hp with hp | hp
    · exact h.kindsL p hp
    · have : p = (f, w) := by simpa using hp
      subst this
      exact hkf
theorem Trees.short {ds : List Item} {F : List Nat} {L : List (Nat × List Nat)} (h : Trees ds F L) : ∀ p ∈ L, p.2.length ≤ ds.length := fun p hp => by
  have h1 : p.2.Nodup := by
    have := (List.nodup_cons.mp h.ap.nd).2
    refine this.sublist ?_
    obtain ⟨s, t, e⟩ := List.append_of_mem hp
    rw [e, List.flatMap_append, List.flatMap_cons]
    exact (List.sublist_append_left _ _).trans (List.sublist_append_right _ _)
  refine nodup_le _ _ h1 fun x hx => ?_
  exact h.ap.lt x (List.mem_cons_of_mem _ (List.mem_flatMap.mpr ⟨p, hp, hx⟩))
theorem Trees.ch {ds : List Item} {F : List Nat} {L : List (Nat × List Nat)} (h : Trees ds F L) : ∀ p ∈ L, children ds p.1 = some p.2 := fun p hp =>
  children_T (h.kindsL p hp) (h.all p hp).1 (h.short p hp)
theorem ordered_nil (ds : List Item) : ordered ds [] = true := rfl
theorem Trees.ndL {ds : List Item} {F : List Nat} {L : List (Nat × List Nat)} (h : Trees ds F L) : (L.map (·.1)).Nodup := (List.nodup_append.mp h.nd).2.1
theorem Trees.treed {ds : List Item} {L : List (Nat × List Nat)} (h : Trees ds [] L) (h0 : kindAt ds 0 = 5) (h5 : ∀ i, kindAt ds i = 5 → i = 0) (hk : ∀ i, kindAt ds i = 0 ∨ kindAt ds i = 1 ∨ kindAt ds i = 2 ∨ kindAt ds i = 5)
    (hu : ∀ i ∈ untaken ds.length (0 :: L.flatMap (·.2)), kindAt ds i = 0) : Treed ds (hsOf ds.length L) := by
  have hR : Run ds [0] L := by simpa using h.go [] .nil
  have hnd := h.ndL
  have hper : (L.map (·.1)).Perm (0 :: folders ds (L.flatMap (·.2))) := h.per
  have fl := hsOf_flat (n := ds.length) hnd h.lt
  have nd2 : (L.flatMap (·.2)).Nodup := (List.nodup_cons.mp h.ap.nd).2
  have full : ∀ i, kindAt ds i = 1 ∨ kindAt ds i = 2 → i ∈ L.flatMap (·.2) := fun i hi => by
    have hlt := kindAt_lt (ds := ds) (i := i) (by omega)
    have hi0 : i ≠ 0 := by rintro rfl; omega
    by_cases hm : i ∈ L.flatMap (·.2)
    · exact hm
    · have := hu i (mem_untaken.mpr ⟨hlt, by simp only [List.mem_cons, not_or]; exact ⟨hi0, hm⟩⟩)
      omega
  have part : ∀ i ∈ L.flatMap (·.2), kindAt ds i = 1 ∨ kindAt ds i = 2 := fun i hi => by
    obtain ⟨p, hp, hi⟩ := List.mem_flatMap.mp hi
    exact (h.all p hp).1.kinds i hi
  have pw : (L.flatMap (·.2)).length = (wantedOf ds).length := by
    apply Nat.le_antisymm
    · exact nodup_sub_le _ _ nd2 fun x hx => mem_wanted.mpr (part x hx)
    · exact nodup_sub_le _ _ (wanted_nodup ds) fun x hx => full x (mem_wanted.mp hx)
  refine ⟨?_, ?_, ?_, ?_, ?_⟩
  · rw [allSome_iff]
    unfold hungOf hsOf
    rw [List.map_map]
    apply List.map_congr_left
    intro i hi
    have hi := List.mem_range.mp hi
    by_cases hf : kindAt ds i = 1 ∨ kindAt ds i = 5
    · rw [if_pos (folder_test.mpr hf)]
      have hm : i ∈ L.map (·.1) := by
        refine hper.mem_iff.mpr ?_
        rcases hf with hf | hf
        · exact List.mem_cons_of_mem _ (List.mem_filter.mpr ⟨full i (.inl hf), by simp [hf]⟩)
        · rw [h5 i hf]; exact List.mem_cons_self
      obtain ⟨p, hp, rfl⟩ := List.mem_map.mp hm
      rw [h.ch p hp]
      show some p.2 = some ((L.lookup p.1).getD [])
      rw [lookup_some hnd (show (p.1, p.2) ∈ L from hp)]
      rfl
    · rw [if_neg (fun q => hf (folder_test.mp q))]
      show some [] = some ((L.lookup i).getD [])
      rw [lookup_none]
      · rfl
      · intro hm
        obtain ⟨p, hp, rfl⟩ := List.mem_map.mp hm
        exact hf (h.kindsL p hp)
  · exact fl.symm.nodup nd2
  · rw [fl.length_eq, pw]
  · obtain ⟨s1, s2⟩ := hR.sizes h.ch
    have hl : L.length ≤ ds.length := by
      have := nodup_le ds.length (L.map (·.1)) hnd fun x hx => by
        obtain ⟨p, hp, rfl⟩ := List.mem_map.mp hx
        exact h.lt p hp
      simpa using this
    rw [s1 0 (by simp) ds.length hl]
    simp only [List.map_cons, List.map_nil, List.sum_cons, List.sum_nil, Nat.add_zero] at s2
    rw [s2, pw]
  · rw [List.all_eq_true]
    intro l hl
    unfold hsOf at hl
    obtain ⟨i, _, rfl⟩ := List.mem_map.mp hl
    cases e : L.lookup i with
    | none => rfl
    | some w => exact (h.all _ (lookup_mem e)).2
theorem Treed.at {ds : List Item} {hs : List (List Nat)} (h : Treed ds hs) {f : Nat} (hk : kindAt ds f = 1 ∨ kindAt ds f = 5) : ∃ w, T ds (belowAt ds f) w ∧ children ds f = some w ∧ hs[f]? = some w ∧ ordered ds w = true := by
  have hlt := kindAt_lt (ds := ds) (i := f) (by omega)
  have e := allSome_iff.mp h.hung
  have e1 : (hungOf ds)[f]? = (hs.map some)[f]? := by rw [e]
  unfold hungOf at e1
  rw [List.getElem?_map, List.getElem?_range hlt, List.getElem?_map] at e1
  simp only [Option.map_some] at e1
  rw [if_pos (folder_test.mpr hk)] at e1
  cases e2 : hs[f]? with
  | none => rw [e2] at e1; cases e1
  | some w =>
    rw [e2] at e1
    have e3 : children ds f = some w := Option.some.inj e1
    exact ⟨w, T_children hk e3, e3, rfl, List.all_eq_true.mp h.ord w (List.mem_of_getElem? e2)⟩
theorem flatten_sub : ∀ {a b : List (List Nat)}, a.length = b.length → (∀ (i : Nat) (x : List Nat), a[i]? = some x → x = [] ∨ b[i]? = some x) → a.flatten.Sublist b.flatten
  | [], [], _, _ => List.Sublist.refl _
  | [], y :: b, hl, _ => by simp at hl
  | x :: a, [], hl, _ => by simp at hl
  | x :: a, y :: b, hl, h => by
    have ih := flatten_sub (a := a) (b := b) (by simpa using hl) fun i z hz => by simpa using h (i + 1) z (by simpa using hz)
    rw [List.flatten_cons, List.flatten_cons]
    rcases h 0 x rfl with rfl | e
    · exact (List.nil_append _ ▸ ih.trans (List.sublist_append_right _ _))
    · have e : y = x := by simpa using e
      subst e
      exact List.Sublist.append (List.Sublist.refl _) ih
theorem Treed.len {ds : List Item} {hs : List (List Nat)} (h : Treed ds hs) : hs.length = ds.length := by
  rw [allSome_length h.hung]; simp [hungOf]
theorem Treed.apart {ds : List Item} {hs : List (List Nat)} (h : Treed ds hs) (h0 : kindAt ds 0 = 5) {L : List (Nat × List Nat)} (hn : (L.map (·.1)).Nodup) (hL : ∀ p ∈ L, (kindAt ds p.1 = 1 ∨ kindAt ds p.1 = 5) ∧ T ds (belowAt ds p.1) p.2) :
    Apart ds.length (0 :: L.flatMap (·.2)) := by
  have hs1 : (hsOf ds.length L).flatten.Sublist hs.flatten := flatten_sub (by rw [hsOf_length, h.len]) fun i x hx => by
    have hi : i < ds.length := by
      have := (List.getElem?_eq_some_iff.mp hx).1
      rw [hsOf_length] at this; exact this
    rw [hsOf_get hi] at hx
    cases e : L.lookup i with
    | none => rw [e] at hx; exact .inl (Option.some.inj hx).symm
    | some w =>
      rw [e] at hx
      have hx : w = x := Option.some.inj hx
      subst hx
      obtain ⟨hk, ht⟩ := hL _ (lookup_mem e)
      obtain ⟨w', ht', _, hw', _⟩ := h.at hk
      exact .inr (by have q : w = w' := ht.det ht'; rw [q]; exact hw')
  have fl := hsOf_flat (n := ds.length) hn fun p hp => kindAt_lt (by have := (hL p hp).1; omega)
  have nd : (L.flatMap (·.2)).Nodup := fl.nodup (h.once.sublist hs1)
  have ks : ∀ x ∈ L.flatMap (·.2), kindAt ds x = 1 ∨ kindAt ds x = 2 := fun x hx => by
    obtain ⟨p, hp, hx⟩ := List.mem_flatMap.mp hx
    exact (hL p hp).2.kinds x hx
  refine ⟨List.nodup_cons.mpr ⟨fun hx => ?_, nd⟩, fun x hx => ?_⟩
  · have := ks 0 hx; omega
  · rcases List.mem_cons.mp hx with rfl | hx
    · exact kindAt_lt (by omega)
    · exact kindAt_lt (by have := ks x hx; omega)
theorem Trees.next {ds : List Item} {hs : List (List Nat)} (h : Treed ds hs) (h0 : kindAt ds 0 = 5) {rest : List Nat} {f : Nat} {L : List (Nat × List Nat)} (t : Trees ds (rest ++ [f]) L) :
    ∃ w, T ds (belowAt ds f) w ∧ ordered ds w = true ∧ Apart ds.length (0 :: L.flatMap (·.2) ++ w) := by
  obtain ⟨w, ht, _, _, ho⟩ := h.at (t.kinds f (by simp))
  refine ⟨w, ht, ho, ?_⟩
  have hn := t.nd
  have := h.apart h0 (L := L ++ [(f, w)]) (by
    rw [List.map_append]
    have p : (rest ++ [f] ++ L.map (·.1)).Perm (rest ++ (L.map (·.1) ++ [f])) := by
      rw [List.append_assoc]
      exact List.Perm.append_left rest List.perm_append_comm
    exact (List.nodup_append.mp (p.nodup hn)).2.1) fun p hp => by
    rcases List.mem_append.mp hp with hp | hp
    · exact ⟨t.kindsL p hp, (t.all p hp).1⟩
    · have : p = (f, w) := by simpa using hp
      subst this
      exact ⟨t.kinds f (by simp), ht⟩
  simpa using this
theorem Trees.rest {ds : List Item} {hs : List (List Nat)} (h : Treed ds hs) (h0 : kindAt ds 0 = 5) {L : List (Nat × List Nat)} (t : Trees ds [] L) {i : Nat} (hi : kindAt ds i = 1 ∨ kindAt ds i = 2) : i ∈ L.flatMap (·.2) := by
  have hR : Run ds [0] L := by simpa using t.go [] .nil
  obtain ⟨s1, s2⟩ := hR.sizes t.ch
  have hl : L.length ≤ ds.length := by
    have := nodup_le ds.length (L.map (·.1)) t.ndL fun x hx => by
      obtain ⟨p, hp, rfl⟩ := List.mem_map.mp hx
      exact t.lt p hp
    simpa using this
  have e := s1 0 (by simp) ds.length hl
  simp only [List.map_cons, List.map_nil, List.sum_cons, List.sum_nil, Nat.add_zero] at s2
  rw [s2, h.under] at e
  have nd2 : (L.flatMap (·.2)).Nodup := (List.nodup_cons.mp t.ap.nd).2
  by_cases hm : i ∈ L.flatMap (·.2)
  · exact hm
  · have := nodup_sub_le (i :: L.flatMap (·.2)) (wantedOf ds) (List.nodup_cons.mpr ⟨hm, nd2⟩) fun x hx => by
      rcases List.mem_cons.mp hx with rfl | hx
      · exact mem_wanted.mpr hi
      · obtain ⟨p, hp, hx⟩ := List.mem_flatMap.mp hx
        exact mem_wanted.mpr ((t.all p hp).1.kinds x hx)
    rw [List.length_cons] at this
    omega
end FV
namespace FV
open Rc22
def gr (c : Nat) : Nat := if 97 ≤ c ∧ c ≤ 122 then c - 32 else c
theorem great_eq (c : UInt8) : great c = gr c.toNat := rfl
def key (n : List Nat) : List Nat := n.length :: n.map gr
theorem key_inj {a b : Bytes} : (key (nb a) = key (nb b)) ↔ alike a b = true := by
  unfold key alike
  have e : ∀ x : Bytes, (nb x).map gr = x.map great := fun x => by simp [nb, great_eq, Function.comp_def]
  rw [e, e, List.cons.injEq]
  constructor
  · rintro ⟨_, h⟩; simpa using h
  · intro h
    have h : a.map great = b.map great := by simpa using h
    exact ⟨by simpa using congrArg List.length h, h⟩
def lexN : List Nat → List Nat → Bool
  | [], [] => false
  | [], _ :: _ => true
  | _ :: _, [] => false
  | x :: xs, y :: ys => if x = y then lexN xs ys else decide (x < y)
theorem lexN_lessBy : ∀ {a b : List Nat}, a.length = b.length → lexN a b = lessBy a b
  | [], [], _ => rfl
  | [], _ :: _, h => by simp at h
  | _ :: _, [], h => by simp at h
  | x :: a, y :: b, h => by
    have ih := lexN_lessBy (a := a) (b := b) (by simpa using h)
    unfold lexN lessBy
    by_cases e : x = y
    · subst e; simp [ih]
    · simp [e]
theorem lexN_key (a b : Bytes) : lexN (key (nb a)) (key (nb b)) = less a b := by
  have e : ∀ x : Bytes, (nb x).map gr = x.map great := fun x => by simp [nb, great_eq, Function.comp_def]
  unfold key less
  rw [e, e]
  unfold lexN
  rw [nb_length, nb_length]
  by_cases h : a.length = b.length
  · rw [if_pos h, lexN_lessBy (by simpa using h)]
    simp [h]
  · rw [if_neg h]
    simp [h]
def nameAt (ds : List Item) (i : Nat) : Bytes := ((ds[i]?).map fun d => d.name).getD []
theorem ordered_iff {ds : List Item} {l : List Nat} : ordered ds l = true ↔ ∀ (k : Nat) (x y : Nat), l[k]? = some x → l[k + 1]? = some y → less (nameAt ds x) (nameAt ds y) = true := by
  unfold ordered
  rw [List.all_eq_true]
  constructor
  · intro h k x y hx hy
    have : (x, y) ∈ l.zip (l.drop 1) := by
      refine List.mem_of_getElem? (i := k) ?_
      rw [List.getElem?_zip_eq_some]
      refine ⟨hx, ?_⟩
      rw [List.getElem?_drop, Nat.add_comm]; exact hy
    exact h (x, y) this
  · rintro h ⟨x, y⟩ hm
    obtain ⟨k, hk⟩ := List.mem_iff_getElem?.mp hm
    rw [List.getElem?_zip_eq_some] at hk
    refine h k x y hk.1 ?_
    have := hk.2
    rw [List.getElem?_drop, Nat.add_comm] at this
    exact this
def cutStep (c : UInt8) (l : List Bytes) : List Bytes := if c = 47 then [] :: l else match l with
  | [] => [[c]]
  | x :: r => (c :: x) :: r
theorem cut_ne : ∀ p : Bytes, ∃ x r, p.foldr cutStep [[]] = x :: r
  | [] => ⟨[], [], rfl⟩
  | c :: p => by
    obtain ⟨x, r, e⟩ := cut_ne p
    rw [List.foldr_cons, e]
    unfold cutStep
    split
    · exact ⟨_, _, rfl⟩
    · exact ⟨_, _, rfl⟩
theorem namesOf_eq (p : Bytes) (h : p ≠ []) : namesOf p = p.foldr cutStep [[]] := by
  unfold namesOf
  rw [if_neg (by simpa using h)]
  rfl
def cutFrom (cur : Bytes) (p : Bytes) : List Bytes := match p.foldr cutStep [[]] with
  | [] => [cur]
  | x :: r => (cur ++ x) :: r
theorem cutFrom_nil (cur : Bytes) : cutFrom cur [] = [cur] := by simp [cutFrom]
theorem cutFrom_slash (cur p : Bytes) : cutFrom cur (47 :: p) = cur :: cutFrom [] p := by
  unfold cutFrom
  obtain ⟨x, r, e⟩ := cut_ne p
  rw [List.foldr_cons, e]
  simp [cutStep]
theorem cutFrom_other {c : UInt8} (h : c ≠ 47) (cur p : Bytes) : cutFrom cur (c :: p) = cutFrom (cur ++ [c]) p := by
  unfold cutFrom
  obtain ⟨x, r, e⟩ := cut_ne p
  rw [List.foldr_cons, e]
  simp [cutStep, h]
theorem namesOf_cut (p : Bytes) (h : p ≠ []) : namesOf p = cutFrom [] p := by
  rw [namesOf_eq p h]
  unfold cutFrom
  obtain ⟨x, r, e⟩ := cut_ne p
  rw [e]; simp
theorem is_slash (c : UInt8) : c.toNat = 47 ↔ c = 47 := by
  constructor
  · intro h
    have : c = UInt8.ofNat c.toNat := by simp
    rw [this, h]; rfl
  · rintro rfl; rfl
theorem cutFrom_length : ∀ (p cur : Bytes), (cutFrom cur p).length ≤ p.length + 1
  | [], cur => by simp [cutFrom_nil]
  | c :: p, cur => by
    by_cases h : c = 47
    · subst h
      have := cutFrom_length p []
      rw [cutFrom_slash, List.length_cons, List.length_cons]; omega
    · have := cutFrom_length p (cur ++ [c])
      rw [cutFrom_other h, List.length_cons]; omega
def okChar (c : Nat) : Bool := decide (32 ≤ c ∧ c ≤ 126) && !([33, 47, 58, 92].contains c)
theorem ofNat_toNat {c : Nat} (h : c < 256) : (UInt8.ofNat c).toNat = c := by simp [UInt8.toNat_ofNat', Nat.mod_eq_of_lt h]
theorem plain_eq {c : Nat} (h : c < 256) : plain (UInt8.ofNat c) = okChar c := by
  unfold plain okChar
  rw [ofNat_toNat h]
  have e : ∀ k : Nat, k < 256 → ((UInt8.ofNat c == UInt8.ofNat k) = (c == k)) := fun k hk => by
    by_cases q : c = k
    · subst q; simp
    · have : UInt8.ofNat c ≠ UInt8.ofNat k := fun z => q (by rw [← ofNat_toNat h, ← ofNat_toNat hk, z])
      have h1 : (UInt8.ofNat c == UInt8.ofNat k) = false := by simpa using this
      have h2 : (c == k) = false := by simpa using q
      rw [h1, h2]
  have e47 := e 47 (by decide)
  have e92 := e 92 (by decide)
  have e58 := e 58 (by decide)
  have e33 := e 33 (by decide)
  simp only [List.contains_cons, List.contains_nil, Bool.or_false]
  have : (![UInt8.ofNat 47, UInt8.ofNat 92, UInt8.ofNat 58, UInt8.ofNat 33].contains (UInt8.ofNat c)) = !(c == 47 || (c == 92 || (c == 58 || c == 33))) := by
    simp only [List.contains_cons, List.contains_nil, Bool.or_false]
    rw [e47, e92, e58, e33]
  have t := this
  simp only [List.contains_cons, List.contains_nil, Bool.or_false] at t
  show (decide (32 ≤ c ∧ c ≤ 126) && !(UInt8.ofNat c == UInt8.ofNat 47 || (UInt8.ofNat c == UInt8.ofNat 92 || (UInt8.ofNat c == UInt8.ofNat 58 || UInt8.ofNat c == UInt8.ofNat 33)))) = _
  rw [t]
  cases c == 47 <;> cases c == 92 <;> cases c == 58 <;> cases c == 33 <;> rfl
theorem okChar_lt {c : Nat} (h : okChar c = true) : c < 256 := by
  unfold okChar at h
  simp at h
  omega
def chars (r : List Nat) (k : Nat) : List Nat := (List.range k).map fun j => n2 r (2 * j)
theorem chars_length (r : List Nat) (k : Nat) : (chars r k).length = k := by simp [chars]
structure NameOk (r : List Nat) (k : Nat) : Prop where
  len : n2 r 64 = 2 * (k + 1)
  one : 1 ≤ k
  most : k ≤ 31
  ok : (chars r k).all okChar = true
  zero : n2 r (2 * k) = 0
theorem nameIn_some {e : Bytes} {n : Bytes} (h : nameIn e = some n) : NameOk (nb e) n.length ∧ nb n = chars (nb e) n.length := by
  unfold nameIn at h
  dsimp only at h
  split at h
  · rename_i hc
    obtain ⟨h1, h2, h3, h4, h5⟩ := hc
    rw [num2] at h1 h2 h3 h4 h5 h
    have hk : n2 (nb e) 64 / 2 - 1 ≤ 31 := by omega
    have hcs : ((List.range 32).map fun k => num e (2 * k) 2).take (n2 (nb e) 64 / 2 - 1) = chars (nb e) (n2 (nb e) 64 / 2 - 1) := by
      rw [← List.map_take, List.take_range]
      have : min (n2 (nb e) 64 / 2 - 1) 32 = n2 (nb e) 64 / 2 - 1 := by omega
      rw [this]
      unfold chars
      apply List.map_congr_left
      intro j _
      rw [num2]
    rw [hcs] at h h5
    have h := Option.some.inj h
    subst h
    have hl : ((chars (nb e) (n2 (nb e) 64 / 2 - 1)).map UInt8.ofNat).length = n2 (nb e) 64 / 2 - 1 := by simp [chars]
    rw [hl]
    have small : ∀ c ∈ chars (nb e) (n2 (nb e) 64 / 2 - 1), c < 256 ∧ okChar c = true := fun c hc => by
      have := List.all_eq_true.mp h5 c hc
      simp only [Bool.and_eq_true, decide_eq_true_eq] at this
      exact ⟨this.1, by rw [← plain_eq this.1]; exact this.2⟩
    refine ⟨⟨by omega, by omega, hk, List.all_eq_true.mpr fun c hc => (small c hc).2, ?_⟩, ?_⟩
    · rw [List.getD_eq_getElem?_getD, List.getElem?_map, List.getElem?_range (by omega)] at h4
      simp only [Option.map_some, Option.getD_some] at h4
      rw [num2] at h4
      exact h4
    · unfold nb
      rw [List.map_map]
      conv => rhs; rw [← List.map_id (chars (e.map UInt8.toNat) _)]
      apply List.map_congr_left
      intro c hc
      exact ofNat_toNat (small c hc).1
  · cases h
theorem nameIn_of {e : Bytes} {k : Nat} (h : NameOk (nb e) k) : nameIn e = some ((chars (nb e) k).map UInt8.ofNat) := by
  unfold nameIn
  dsimp only
  have hn : num e 64 2 = 2 * (k + 1) := by rw [num2]; exact h.len
  have h1 := h.one
  have h2 := h.most
  rw [hn]
  have hk : 2 * (k + 1) / 2 - 1 = k := by omega
  rw [hk]
  have hcs : ((List.range 32).map fun k => num e (2 * k) 2).take k = chars (nb e) k := by
    rw [← List.map_take, List.take_range]
    have : min k 32 = k := by omega
    rw [this]
    unfold chars
    apply List.map_congr_left
    intro j _
    rw [num2]
  rw [hcs, if_pos]
  refine ⟨by omega, by omega, by omega, ?_, ?_⟩
  · rw [List.getD_eq_getElem?_getD, List.getElem?_map, List.getElem?_range (by omega)]
    simp only [Option.map_some, Option.getD_some]
    rw [num2]; exact h.zero
  · rw [List.all_eq_true]
    intro c hc
    have h3 := List.all_eq_true.mp h.ok c hc
    simp only [Bool.and_eq_true, decide_eq_true_eq]
    exact ⟨okChar_lt h3, by rw [plain_eq (okChar_lt h3)]; exact h3⟩
theorem nb_chars {e : Bytes} {k : Nat} (h : (chars (nb e) k).all okChar = true) : nb ((chars (nb e) k).map UInt8.ofNat) = chars (nb e) k := by
  unfold nb
  rw [List.map_map]
  conv => rhs; rw [← List.map_id (chars (e.map UInt8.toNat) _)]
  apply List.map_congr_left
  intro c hc
  exact ofNat_toNat (okChar_lt (List.all_eq_true.mp h c hc))
def nothing : Item := ⟨[], 0, NONE, NONE, NONE, 0, 0⟩
structure Sound (r : List Nat) : Prop where
  flag : g r 67 ≤ 1
  zero : n4 r 124 = 0
  kind : g r 66 = 1 ∨ g r 66 = 2 ∨ g r 66 = 5
  file : g r 66 = 2 → n4 r 76 = NONE
  fold : g r 66 = 1 → n4 r 116 = 0 ∧ n4 r 120 = 0
def itemOf (r : List Nat) (n : Bytes) : Item := ⟨n, g r 66, n4 r 68, n4 r 72, n4 r 76, n4 r 116, n4 r 120⟩
theorem item_nothing {e : Bytes} (h : g (nb e) 66 = 0) : item e = some nothing := by
  unfold item
  rw [num1, h]; rfl
theorem item_some {e : Bytes} {d : Item} (h : item e = some d) (h0 : g (nb e) 66 ≠ 0) : Sound (nb e) ∧ ∃ n, nameIn e = some n ∧ d = itemOf (nb e) n := by
  unfold item at h
  dsimp only at h
  simp only [num1, num4] at h
  rw [if_neg h0] at h
  split at h
  · rename_i hk
    split at h
    · rename_i hc
      obtain ⟨n, h1, h2⟩ := Option.map_eq_some_iff.mp h
      exact ⟨⟨hc.1, hc.2.1, hk, hc.2.2.1, hc.2.2.2⟩, n, h1, h2.symm⟩
    · cases h
  · cases h
theorem item_of {e : Bytes} {n : Bytes} (h : Sound (nb e)) (hn : nameIn e = some n) : item e = some (itemOf (nb e) n) := by
  unfold item
  dsimp only
  simp only [num1, num4]
  have hk := h.kind
  rw [if_neg (by omega), if_pos hk, if_pos ⟨h.flag, h.zero, h.file, h.fold⟩, hn]
  rfl
def placed (number : Nat) (d : Item) : Prop := if number = 0 then d.kind = 5 ∧ d.left = NONE ∧ d.right = NONE else d.kind ≠ 5
theorem items_iff {l : List (Option Item)} {root : Item} {rest : List Item} :
    (allSome l = some (root :: rest) ∧ root.kind = 5 ∧ root.left = NONE ∧ root.right = NONE ∧ (rest.any fun d => d.kind == 5) = false) ↔
      (l.length = rest.length + 1 ∧ ∀ (i : Nat) (d : Item), (root :: rest)[i]? = some d → l[i]? = some (some d) ∧ placed i d) := by
  rw [allSome_iff]
  constructor
  · rintro ⟨rfl, h1, h2, h3, h4⟩
    refine ⟨by simp, fun i d hd => ⟨by rw [List.getElem?_map, hd]; rfl, ?_⟩⟩
    unfold placed
    cases i with
    | zero =>
      rw [if_pos rfl]
      have : root = d := by simpa using hd
      subst this
      exact ⟨h1, h2, h3⟩
    | succ i =>
      rw [if_neg (by omega)]
      have : rest[i]? = some d := by simpa using hd
      intro q
      have := List.any_eq_false.mp h4 d (List.mem_of_getElem? this)
      simp [q] at this
  · rintro ⟨hl, h⟩
    have h0 := (h 0 root rfl).2
    unfold placed at h0
    rw [if_pos rfl] at h0
    refine ⟨?_, h0.1, h0.2.1, h0.2.2, ?_⟩
    · apply List.ext_getElem?
      intro i
      rw [List.getElem?_map]
      by_cases hi : i < rest.length + 1
      · have hd := List.getElem?_eq_getElem (l := root :: rest) (i := i) (by simpa using hi)
        rw [(h i _ hd).1, hd]; rfl
      · have h1 : l[i]? = none := List.getElem?_eq_none_iff.mpr (by omega)
        have h2 : (root :: rest)[i]? = none := List.getElem?_eq_none_iff.mpr (by simp; omega)
        rw [h1, h2]; rfl
    · rw [List.any_eq_false]
      intro d hd
      obtain ⟨i, hi⟩ := List.mem_iff_getElem?.mp hd
      have := (h (i + 1) d (by simpa using hi)).2
      unfold placed at this
      rw [if_neg (by omega)] at this
      simpa using this
end FV
namespace FV
open Rc22
def MARK : List Nat := [208, 207, 17, 224, 161, 177, 26, 225]
theorem num_zero_iff (b : Bytes) : ∀ (n i : Nat), num b i n = 0 ↔ ∀ j, i ≤ j → j < i + n → g (nb b) j = 0
  | 0, i => by simp [num_zero]; intro j h1 h2; omega
  | n + 1, i => by
    rw [num_succ]
    have ih := num_zero_iff b n (i + 1)
    constructor
    · intro h j h1 h2
      have h3 : g (nb b) i = 0 := by omega
      have h4 : num b (i + 1) n = 0 := by omega
      by_cases e : j = i
      · rw [e]; exact h3
      · exact ih.mp h4 j (by omega) (by omega)
    · intro h
      have h3 := h i (Nat.le_refl _) (by omega)
      have h4 := ih.mpr fun j h1 h2 => h j (by omega) (by omega)
      omega
theorem cut_zero {r : List Nat} {i n : Nat} (h : i + n ≤ r.length) : (∀ x ∈ (r.drop i).take n, x = 0) ↔ ∀ j, i ≤ j → j < i + n → g r j = 0 := by
  constructor
  · intro hx j h1 h2
    have h3 : ((r.drop i).take n)[j - i]? = r[j]? := by
      rw [List.getElem?_take_of_lt (by omega), List.getElem?_drop]
      congr 1; omega
    unfold g
    rw [List.getD_eq_getElem?_getD]
    cases e : r[j]? with
    | none => rfl
    | some x =>
      rw [e] at h3
      exact hx x (List.mem_of_getElem? h3)
  · intro hx x hm
    obtain ⟨k, hk⟩ := List.mem_iff_getElem?.mp hm
    have hkn : k < n := by
      have := (List.getElem?_eq_some_iff.mp hk).1
      rw [List.length_take] at this
      omega
    rw [List.getElem?_take_of_lt hkn, List.getElem?_drop] at hk
    have := hx (i + k) (by omega) (by omega)
    unfold g at this
    rw [List.getD_eq_getElem?_getD, hk] at this
    exact this
structure HeadOk (r : List Nat) : Prop where
  whole : r.length % 512 = 0
  two : 1024 ≤ r.length
  mark : (r.drop 0).take 8 = MARK
  z8 : ∀ x ∈ (r.drop 8).take 16, x = 0
  p26 : n2 r 26 = 3
  p28 : n2 r 28 = 65534
  p30 : n2 r 30 = 9
  p32 : n2 r 32 = 6
  z34 : ∀ x ∈ (r.drop 34).take 10, x = 0
  p56 : n4 r 56 = 4096
theorem nb_inj {a b : Bytes} (h : nb a = nb b) : a = b := by
  have : ∀ x : Bytes, (nb x).map UInt8.ofNat = x := fun x => by
    unfold nb
    rw [List.map_map]
    conv => rhs; rw [← List.map_id x]
    apply List.map_congr_left
    intro c _
    simp
  rw [← this a, ← this b, h]
theorem head_iff (b : Bytes) : headGood b = true ↔ HeadOk (nb b) := by
  unfold headGood
  simp only [Bool.and_eq_true, decide_eq_true_eq, beq_iff_eq]
  have e1 : part b 0 8 = [0xD0, 0xCF, 0x11, 0xE0, 0xA1, 0xB1, 0x1A, 0xE1] ↔ ((nb b).drop 0).take 8 = MARK := by
    rw [← nb_part]
    constructor
    · intro h; rw [h]; rfl
    · intro h; exact nb_inj (h.trans rfl)
  have e2 : 24 ≤ b.length → (part b 8 16 = List.replicate 16 0 ↔ ∀ x ∈ ((nb b).drop 8).take 16, x = 0) := fun hl => by
    rw [← nb_part]
    constructor
    · intro h x hx
      rw [h] at hx
      unfold nb at hx
      rw [List.map_replicate] at hx
      exact (List.mem_replicate.mp hx).2
    · intro h
      apply nb_inj
      have h1 : (nb (part b 8 16)).length = 16 := by
        rw [nb_length]; unfold part; rw [List.length_take, List.length_drop]; omega
      have := List.eq_replicate_of_mem h
      rw [this, h1]
      unfold nb
      rw [List.map_replicate]; rfl
  have e3 : 44 ≤ b.length → ((num b 34 6 = 0 ∧ num b 40 4 = 0) ↔ ∀ x ∈ ((nb b).drop 34).take 10, x = 0) := fun hl => by
    rw [num_zero_iff, num_zero_iff, cut_zero (by rw [nb_length]; omega)]
    constructor
    · rintro ⟨h1, h2⟩ j h3 h4
      by_cases q : j < 40
      · exact h1 j h3 (by omega)
      · exact h2 j (by omega) (by omega)
    · intro h
      exact ⟨fun j h1 h2 => h j (by omega) (by omega), fun j h1 h2 => h j (by omega) (by omega)⟩
  constructor
  · rintro ⟨h1, h2, h3, h4, h5, h6, h7, h8, h9, h10, h11⟩
    simp only [num2, num4] at h5 h6 h7 h8 h11
    exact ⟨by rw [nb_length]; exact h1, by rw [nb_length]; exact h2, e1.mp h3, (e2 (by omega)).mp h4, h5, h6, h7, h8, (e3 (by omega)).mp ⟨h9, h10⟩, h11⟩
  · intro h
    have hl := h.two
    rw [nb_length] at hl
    have hw := h.whole
    rw [nb_length] at hw
    obtain ⟨z1, z2⟩ := (e3 (by omega)).mpr h.z34
    refine ⟨hw, hl, e1.mpr h.mark, (e2 (by omega)).mpr h.z8, ?_, ?_, ?_, ?_, z1, z2, ?_⟩
    · rw [num2]; exact h.p26
    · rw [num2]; exact h.p28
    · rw [num2]; exact h.p30
    · rw [num2]; exact h.p32
    · rw [num4]; exact h.p56
def Owns (s : Store) (p : List Item) (cs : List (List Nat)) : Prop := (filesOf p).map (ownChain s) = cs.map some
theorem Owns.nil (s : Store) : Owns s [] [] := rfl
theorem Owns.len {s : Store} {p : List Item} {cs : List (List Nat)} (h : Owns s p cs) : (filesOf p).length = cs.length := by
  have := congrArg List.length h
  simpa using this
theorem files_snoc (p : List Item) (d : Item) : filesOf (p ++ [d]) = filesOf p ++ if d.kind = 2 then [d] else [] := by
  unfold filesOf
  rw [List.filter_append]
  congr 1
  by_cases h : d.kind = 2
  · simp [h]
  · simp [h]
theorem files_append (p q : List Item) : filesOf (p ++ q) = filesOf p ++ filesOf q := List.filter_append ..
theorem Owns.skip {s : Store} {p : List Item} {cs : List (List Nat)} {d : Item} (h : Owns s p cs) (hd : d.kind ≠ 2) : Owns s (p ++ [d]) cs := by
  unfold Owns at *
  rw [files_snoc, if_neg hd, List.append_nil]; exact h
theorem Owns.snoc {s : Store} {p : List Item} {cs : List (List Nat)} {d : Item} {c : List Nat} (h : Owns s p cs) (hd : d.kind = 2) (hc : ownChain s d = some c) : Owns s (p ++ [d]) (cs ++ [c]) := by
  unfold Owns at *
  rw [files_snoc, if_pos hd, List.map_append, List.map_append, h]
  simp [hc]
theorem big_append {p q : List Item} {cp cq : List (List Nat)} (h : (filesOf p).length = cp.length) : bigOf (p ++ q) (cp ++ cq) = bigOf p cp ++ bigOf q cq := by
  unfold bigOf
  rw [files_append, List.zip_append h, List.filter_append, List.flatMap_append]
theorem few_append {p q : List Item} {cp cq : List (List Nat)} (h : (filesOf p).length = cp.length) : fewOf (p ++ q) (cp ++ cq) = fewOf p cp ++ fewOf q cq := by
  unfold fewOf
  rw [files_append, List.zip_append h, List.filter_append, List.flatMap_append]
theorem big_one {d : Item} {c : List Nat} (hd : d.kind = 2) : bigOf [d] [c] = if CUT ≤ d.size then c else [] := by
  unfold bigOf filesOf
  by_cases h : CUT ≤ d.size
  · simp [hd, h]
  · simp [hd, h]
theorem few_one {d : Item} {c : List Nat} (hd : d.kind = 2) : fewOf [d] [c] = if d.size < CUT then c else [] := by
  unfold fewOf filesOf
  by_cases h : d.size < CUT
  · simp [hd, h]
  · simp [hd, h]
theorem big_skip {d : Item} (p : List Item) (cs : List (List Nat)) (hd : d.kind ≠ 2) : bigOf (p ++ [d]) cs = bigOf p cs := by
  unfold bigOf; rw [files_snoc, if_neg hd, List.append_nil]
theorem few_skip {d : Item} (p : List Item) (cs : List (List Nat)) (hd : d.kind ≠ 2) : fewOf (p ++ [d]) cs = fewOf p cs := by
  unfold fewOf; rw [files_snoc, if_neg hd, List.append_nil]
theorem files_root {root : Item} (rest : List Item) (h : root.kind = 5) : filesOf (root :: rest) = filesOf rest := by
  unfold filesOf; rw [List.filter_cons, if_neg (by simp [h])]
theorem big_root {root : Item} (rest : List Item) (cs : List (List Nat)) (h : root.kind = 5) : bigOf (root :: rest) cs = bigOf rest cs := by
  unfold bigOf; rw [files_root rest h]
theorem few_root {root : Item} (rest : List Item) (cs : List (List Nat)) (h : root.kind = 5) : fewOf (root :: rest) cs = fewOf rest cs := by
  unfold fewOf; rw [files_root rest h]
theorem Owns.split {s : Store} {p q : List Item} {d : Item} {cs cp : List (List Nat)} (h : Owns s (p ++ d :: q) cs) (hp : Owns s p cp) (hd : d.kind = 2) : ∃ c cq, ownChain s d = some c ∧ cs = cp ++ c :: cq ∧ Owns s q cq := by
  unfold Owns at *
  have e : filesOf (p ++ d :: q) = filesOf p ++ d :: filesOf q := by
    rw [files_append]
    congr 1
    unfold filesOf
    rw [List.filter_cons, if_pos (by simp [hd])]
  rw [e, List.map_append, hp, List.map_cons] at h
  have h1 : cp.map some = (cs.take cp.length).map some := by
    have := congrArg (List.take cp.length) h
    rw [List.take_left' (by simp)] at this
    rw [this, List.map_take]
  have h2 : ownChain s d :: (filesOf q).map (ownChain s) = (cs.drop cp.length).map some := by
    have := congrArg (List.drop cp.length) h
    rw [List.drop_left' (by simp)] at this
    rw [this, List.map_drop]
  have inj : ∀ {a b : List (List Nat)}, a.map some = b.map some → a = b := fun {a b} h => by
    have := congrArg (List.filterMap id) h
    simpa [List.filterMap_map, Function.comp_def] using this
  cases e2 : cs.drop cp.length with
  | nil => rw [e2] at h2; cases h2
  | cons c cq =>
    rw [e2, List.map_cons, List.cons.injEq] at h2
    refine ⟨c, cq, h2.1, ?_, h2.2⟩
    rw [inj h1, ← e2, List.take_append_drop]
section
variable {b : Bytes} {ls ts dir st : List Nat} {root : Item} {rest : List Item} {lies : List Nat} {cs hs : List (List Nat)}
theorem Is.ok (I : Is b ls ts dir st root rest lies cs hs) : HeadOk (nb b) := (head_iff b).mp I.head
theorem Is.whole (I : Is b ls ts dir st root rest lies cs hs) : b.length % 512 = 0 := by have := I.ok.whole; rwa [nb_length] at this
theorem Is.two (I : Is b ls ts dir st root rest lies cs hs) : 1024 ≤ b.length := by have := I.ok.two; rwa [nb_length] at this
theorem Is.tabl (I : Is b ls ts dir st root rest lies cs hs) : (tab b ts).length = sectors b := by
  unfold tab; rw [List.length_take]; have := I.len; omega
theorem Is.owns (I : Is b ls ts dir st root rest lies cs hs) : Owns (FV.mk b ts st (root :: rest) lies root.size) rest cs := allSome_iff.mp I.own
theorem Is.tsm (I : Is b ls ts dir st root rest lies cs hs) : ∀ s ∈ ts, s < sectors b :=
  ((tables_iff I.whole (by have := I.two; omega) (lists_mem I.hls)).mp I.hts).2.2.1
theorem own_big {s : Store} {d : Item} {c : List Nat} (h : ownChain s d = some c) (hs : CUT ≤ d.size) : chain s.table s.table.length d.start = some c ∧ c.length = ceil d.size 512 := by
  unfold ownChain at h
  rw [if_neg (by omega)] at h
  obtain ⟨l, h1, h2⟩ := Option.bind_eq_some_iff.mp h
  split at h2
  · rename_i hl
    cases h2
    exact ⟨h1, hl⟩
  · cases h2
theorem own_few {s : Store} {d : Item} {c : List Nat} (h : ownChain s d = some c) (hs : d.size < CUT) : chain s.smallTable s.smallTable.length d.start = some c ∧ c.length = ceil d.size 64 := by
  unfold ownChain at h
  rw [if_pos hs] at h
  obtain ⟨l, h1, h2⟩ := Option.bind_eq_some_iff.mp h
  split at h2
  · rename_i hl
    cases h2
    exact ⟨h1, hl⟩
  · cases h2
theorem big_own {s : Store} {d : Item} {c : List Nat} (hs : CUT ≤ d.size) (h1 : chain s.table s.table.length d.start = some c) (h2 : c.length = ceil d.size 512) : ownChain s d = some c := by
  unfold ownChain
  rw [if_neg (by omega), h1, Option.bind_some, if_pos h2]
theorem few_own {s : Store} {d : Item} {c : List Nat} (hs : d.size < CUT) (h1 : chain s.smallTable s.smallTable.length d.start = some c) (h2 : c.length = ceil d.size 64) : ownChain s d = some c := by
  unfold ownChain
  rw [if_pos hs, h1, Option.bind_some, if_pos h2]
theorem zip_own {s : Store} : ∀ {p : List Item} {cs : List (List Nat)}, Owns s p cs → ∀ x ∈ (filesOf p).zip cs, ownChain s x.1 = some x.2 := fun {p cs} h x hx => by
  obtain ⟨k, hk⟩ := List.mem_iff_getElem?.mp hx
  rw [show x = (x.1, x.2) from rfl, List.getElem?_zip_eq_some] at hk
  have h1 : ((filesOf p).map (ownChain s))[k]? = (cs.map some)[k]? := by rw [h]
  rw [List.getElem?_map, List.getElem?_map, hk.1, hk.2] at h1
  simpa using h1
theorem big_mem {s : Store} {p : List Item} {cs : List (List Nat)} (h : Owns s p cs) : ∀ x ∈ bigOf p cs, x < s.table.length := fun x hx => by
  unfold bigOf at hx
  obtain ⟨y, hy, hx⟩ := List.mem_flatMap.mp hx
  obtain ⟨hy1, hy2⟩ := List.mem_filter.mp hy
  exact chain_mem (own_big (zip_own h y hy1) (of_decide_eq_true hy2)).1 x hx
theorem few_mem {s : Store} {p : List Item} {cs : List (List Nat)} (h : Owns s p cs) : ∀ x ∈ fewOf p cs, x < s.smallTable.length := fun x hx => by
  unfold fewOf at hx
  obtain ⟨y, hy, hx⟩ := List.mem_flatMap.mp hx
  obtain ⟨hy1, hy2⟩ := List.mem_filter.mp hy
  exact chain_mem (own_few (zip_own h y hy1) (of_decide_eq_true hy2)).1 x hx
theorem used_perm (a b c d e f : List Nat) : (a ++ (b ++ (c ++ (d ++ (e ++ f))))).Perm (b ++ a ++ c ++ e ++ d ++ f) := by
  have h1 : (a ++ (b ++ (c ++ (d ++ (e ++ f))))).Perm (b ++ (a ++ (c ++ (d ++ (e ++ f))))) := by
    rw [← List.append_assoc a b, ← List.append_assoc b a]
    exact List.Perm.append_right _ List.perm_append_comm
  refine h1.trans ?_
  simp only [List.append_assoc]
  refine List.Perm.append_left _ (List.Perm.append_left _ (List.Perm.append_left _ ?_))
  rw [← List.append_assoc d e, ← List.append_assoc e d]
  exact List.Perm.append_right _ List.perm_append_comm
theorem Is.apart (I : Is b ls ts dir st root rest lies cs hs) : Apart (sectors b) (ls ++ ts ++ dir ++ lies ++ st ++ bigOf rest cs) := by
  refine ⟨(used_perm _ _ _ _ _ _).nodup I.used, fun x hx => ?_⟩
  have tl := I.tabl
  simp only [List.mem_append] at hx
  rcases hx with ((((hx | hx) | hx) | hx) | hx) | hx
  · exact lists_mem I.hls x hx
  · exact I.tsm x hx
  · rw [← tl]; exact chain_mem I.hdir x hx
  · rw [← tl]; exact chain_mem I.hlies x hx
  · rw [← tl]; exact chain_mem I.hst x hx
  · have := big_mem I.owns x hx
    rw [← tl]; exact this
theorem ceil64 {n : Nat} (h : n % 64 = 0) : ceil n 64 = n / 64 := by unfold ceil; omega
theorem Is.smalll (I : Is b ls ts dir st root rest lies cs hs) : ((every b st).take (ceil root.size 64)).length = ceil root.size 64 := by
  rw [List.length_take]; have := I.elen; omega
theorem Is.fapart (I : Is b ls ts dir st root rest lies cs hs) : Apart (ceil root.size 64) (fewOf rest cs) :=
  ⟨I.few, fun x hx => by have := few_mem I.owns x hx; rw [← I.smalll]; exact this⟩
end
theorem free_iff {m : Nat} {used t : List Nat} : ((List.range m).all fun i => used.contains i || t.getD i 0 == FREE) = true ↔ ∀ i ∈ untaken m used, t.getD i 0 = FREE := by
  rw [List.all_eq_true]
  constructor
  · intro h i hi
    obtain ⟨h1, h2⟩ := mem_untaken.mp hi
    have := h i (List.mem_range.mpr h1)
    simp only [Bool.or_eq_true, List.contains_iff_mem, beq_iff_eq] at this
    rcases this with q | q
    · exact absurd q h2
    · exact q
  · intro h i hi
    simp only [Bool.or_eq_true, List.contains_iff_mem, beq_iff_eq]
    by_cases q : i ∈ used
    · exact .inl q
    · exact .inr (h i (mem_untaken.mpr ⟨List.mem_range.mp hi, q⟩))
theorem untaken_perm {m : Nat} {a b : List Nat} (h : a.Perm b) : untaken m a = untaken m b := by
  unfold untaken
  apply List.filter_congr
  intro i _
  have := h.mem_iff (a := i)
  have e : a.contains i = b.contains i := by
    rw [Bool.eq_iff_iff]; simpa using this
  rw [e]
theorem marks_perm {m : Nat} {a b : List Nat} (h : a.Perm b) : marks m a = marks m b := by
  unfold marks
  apply List.map_congr_left
  intro i _
  have := h.mem_iff (a := i)
  rw [Bool.eq_iff_iff]; simpa using this
theorem Treed.children {ds : List Item} {hs : List (List Nat)} (h : Treed ds hs) {i : Nat} (hi : i < ds.length) : Rc22.children ds i = hs[i]? := by
  have e := allSome_iff.mp h.hung
  have e1 : (hungOf ds)[i]? = (hs.map some)[i]? := by rw [e]
  unfold hungOf at e1
  rw [List.getElem?_map, List.getElem?_range hi, List.getElem?_map] at e1
  simp only [Option.map_some] at e1
  by_cases hk : kindAt ds i = 1 ∨ kindAt ds i = 5
  · rw [if_pos (folder_test.mpr hk)] at e1
    cases e2 : hs[i]? with
    | none => rw [e2] at e1; cases e1
    | some w => rw [e2] at e1; exact Option.some.inj e1
  · rw [if_neg (fun q => hk (folder_test.mp q))] at e1
    have hd := List.getElem?_eq_getElem hi
    rw [kindAt_some hd] at hk
    unfold Rc22.children
    rw [hd, Option.bind_some, if_neg hk]
    cases e2 : hs[i]? with
    | none => rw [e2] at e1; cases e1
    | some w =>
      rw [e2] at e1
      exact Option.some.inj e1
theorem Treed.kinds {ds : List Item} {hs : List (List Nat)} (h : Treed ds hs) {i : Nat} {w : List Nat} (hw : hs[i]? = some w) : ∀ x ∈ w, kindAt ds x = 1 ∨ kindAt ds x = 2 := by
  have hi : i < ds.length := by
    have := (List.getElem?_eq_some_iff.mp hw).1
    rw [h.len] at this; exact this
  have hc := h.children hi
  rw [hw] at hc
  by_cases hk : kindAt ds i = 1 ∨ kindAt ds i = 5
  · exact (T_children hk hc).kinds
  · have hd := List.getElem?_eq_getElem hi
    rw [kindAt_some hd] at hk
    unfold Rc22.children at hc
    rw [hd, Option.bind_some, if_neg hk] at hc
    cases hc
    intro x hx; cases hx
theorem found_nil (ds : List Item) (i : Nat) : found ds i [] = some i := rfl
theorem found_cons (ds : List Item) (i : Nat) (n : Bytes) (r : List Bytes) : found ds i (n :: r) = (childNamed ds i n).bind fun k => found ds k r := rfl
theorem childNamed_eq {ds : List Item} {hs : List (List Nat)} (h : Treed ds hs) {i : Nat} {w : List Nat} (hw : hs[i]? = some w) (n : Bytes) : childNamed ds i n = w.find? fun k => decide (key (nb (nameAt ds k)) = key (nb n)) := by
  have hi : i < ds.length := by
    have := (List.getElem?_eq_some_iff.mp hw).1
    rw [h.len] at this; exact this
  unfold childNamed
  rw [h.children hi, hw, Option.bind_some]
  have ks := h.kinds hw
  clear hw
  induction w with
  | nil => rfl
  | cons x r ih =>
    have ihr := ih fun y hy => ks y (List.mem_cons_of_mem _ hy)
    rw [List.find?_cons, List.find?_cons]
    have hx : x < ds.length := kindAt_lt (by have := ks x List.mem_cons_self; omega)
    have hd := List.getElem?_eq_getElem hx
    have e : ((ds[x]?).any fun d => alike d.name n) = decide (key (nb (nameAt ds x)) = key (nb n)) := by
      unfold nameAt
      rw [hd]
      simp only [Option.any_some, Option.map_some, Option.getD_some]
      rw [Bool.eq_iff_iff, decide_eq_true_eq, key_inj]
    rw [e, ihr]
end FV
namespace FV
open Rc22
def natZ (ns : List Nat) : List Int := ns.map fun (n : Nat) => (n : Int)
theorem natZ_length (ns : List Nat) : (natZ ns).length = ns.length := by simp [natZ]
inductive Flat : List (List Int) → List Int → Prop
  | begin : Flat [[0]] [0]
  | open_ (x : List Int) : Flat [[1], x] (1 :: (x.length : Int) :: x)
  | find (x : List Int) : Flat [[2], x] (2 :: (x.length : Int) :: x)
  | item (i : Int) : Flat [[3, i]] [3, i]
  | child (i k : Int) : Flat [[4, i, k]] [4, i, k]
  | read (i a m : Int) : Flat [[5, i, a, m]] [5, i, a, m]
theorem flat_of {c : List (List Int)} (h : PyFlat.okCall PyRc22.shape c) : Flat c (PyFlat.put1 c) := by
  obtain ⟨p, a, xs, rfl, hs⟩ := h
  unfold PyRc22.shape at hs
  have l0 : ∀ {α : Type} {l : List α}, l.length = 0 → l = [] := fun h => List.eq_nil_of_length_eq_zero h
  have l1 : ∀ {α : Type} {l : List α}, l.length = 1 → ∃ x, l = [x] := fun {α l} h => by
    match l, h with
    | [x], _ => exact ⟨x, rfl⟩
  split at hs
  · rename_i e
    simp only [Option.some.injEq, Prod.mk.injEq] at hs
    rw [l0 hs.1.symm, l0 hs.2.symm, e]
    exact .begin
  split at hs
  · rename_i e
    simp only [Option.some.injEq, Prod.mk.injEq] at hs
    obtain ⟨x, rfl⟩ := l1 hs.2.symm
    rw [l0 hs.1.symm, e]
    have := Flat.open_ x
    simpa [PyFlat.put1, PyFlat.putRows, PyFlat.putRow] using this
  split at hs
  · rename_i e
    simp only [Option.some.injEq, Prod.mk.injEq] at hs
    obtain ⟨x, rfl⟩ := l1 hs.2.symm
    rw [l0 hs.1.symm, e]
    have := Flat.find x
    simpa [PyFlat.put1, PyFlat.putRows, PyFlat.putRow] using this
  split at hs
  · rename_i e
    simp only [Option.some.injEq, Prod.mk.injEq] at hs
    obtain ⟨x, rfl⟩ := l1 hs.1.symm
    rw [l0 hs.2.symm, e]
    exact .item x
  split at hs
  · rename_i e
    simp only [Option.some.injEq, Prod.mk.injEq] at hs
    rw [l0 hs.2.symm, e]
    match a, hs.1 with
    | [i, k], _ => exact .child i k
  split at hs
  · rename_i e
    simp only [Option.some.injEq, Prod.mk.injEq] at hs
    rw [l0 hs.2.symm, e]
    match a, hs.1 with
    | [i, k, m], _ => exact .read i k m
  · cases hs
theorem answers_nil (l : List Int) (h : PyRc22.calls l = none) : PyRc22.answers l = [] := by
  unfold PyRc22.answers; rw [h]
theorem asked_iff {l : List Int} (h : PyRc22.answers_asked l = true) : ∃ cs : List (List (List Int)), l = PyFlat.put cs ∧ (∀ c ∈ cs, Flat c (PyFlat.put1 c)) ∧ (∀ c ∈ cs, Rc22Neutral.asked1 (PyRc22.whole c) = true) ∧ cs.length ≤ 300 ∧
    PyRc22.answers l = PyFlat.told (PyFlat.played Rc22Neutral.step Rc22Neutral.start (cs.map PyRc22.whole)) := by
  unfold PyRc22.answers_asked at h
  cases e : PyRc22.calls l with
  | none => rw [e] at h; cases h
  | some ws =>
    rw [e] at h
    simp only [Bool.and_eq_true] at h
    obtain ⟨h1, h2⟩ := h
    have e' := e
    unfold PyRc22.calls at e'
    cases e2 : PyFlat.calls PyRc22.shape l.length l with
    | none => rw [e2] at e'; cases e'
    | some cs =>
      rw [e2] at e'
      have e3 : cs.map PyRc22.whole = ws := Option.some.inj e'
      subst e3
      obtain ⟨p1, p2⟩ := PyFlat.put_calls l.length l cs e2
      refine ⟨cs, p1, fun c hc => flat_of (p2 c hc), fun c hc => ?_, ?_, ?_⟩
      · unfold Rc22Neutral.asked at h2
        simp only [Bool.and_eq_true] at h2
        exact List.all_eq_true.mp h2.1 _ (List.mem_map.mpr ⟨c, hc, rfl⟩)
      · unfold PyFlat.atMost at h1
        simpa using h1
      · unfold PyRc22.answers
        rw [e]
theorem played_cons {S : Type} (st : S → List (List Int) → S × List Int) (s : S) (c : List (List Int)) (r : List (List (List Int))) : PyFlat.told (PyFlat.played st s (c :: r)) = (((st s c).2.length : Int) :: (st s c).2) ++ PyFlat.told (PyFlat.played st (st s c).1 r) := by
  rw [PyFlat.played, PyFlat.told, List.flatMap_cons]
  rfl
theorem nb_ofInts {a : List Int} (h : (a.all fun z => Rc22Neutral.natural z 8) = true) : a = natZ (nb (Rc22Neutral.bytesOf a)) := by
  unfold natZ nb Rc22Neutral.bytesOf
  rw [List.map_map, List.map_map]
  conv => lhs; rw [← List.map_id a]
  apply List.map_congr_left
  intro z hz
  have := List.all_eq_true.mp h z hz
  unfold Rc22Neutral.natural at this
  simp only [Bool.and_eq_true, decide_eq_true_eq] at this
  have h2 : z < 256 := by have := this.2; simpa using this
  show z = (((UInt8.ofNat z.toNat).toNat : Nat) : Int)
  rw [ofNat_toNat (by omega)]
  omega
end FV
namespace L2
open PySem PySem.Spec PyProof.Rows
abbrev Key := Sum Int Str
def keyIs : Key → Value → Bool
  | .inl k, v => Value.isInt k v
  | .inr x, v => Value.isStrOf x v
def keyH (w : World) : Key → Int
  | .inl k => hashInt k
  | .inr x => hashStr w x
theorem keyIs_shape : ∀ {k : Key} {v : Value}, keyIs k v = true → (∃ i t, k = Sum.inl i ∧ v = Value.int i t) ∨ (∃ x t, k = Sum.inr x ∧ v = Value.str x t)
  | .inl i, v, h => by
    obtain ⟨t, e⟩ := Value.isInt_shape (k := i) (v := v) h
    exact .inl ⟨i, t, rfl, e⟩
  | .inr x, v, h => by
    obtain ⟨t, e⟩ := Value.isStrOf_shape (x := x) (v := v) h
    exact .inr ⟨x, t, rfl, e⟩
theorem keyIs_int (i : Int) (t : Tok) : keyIs (.inl i) (.int i t) = true := by simp [keyIs, Value.isInt]
theorem keyIs_str (x : Str) (t : Tok) : keyIs (.inr x) (.str x t) = true := by simp [keyIs, Value.isStrOf]
theorem key_ll (a b : Int) : decide ((Sum.inl a : Key) = Sum.inl b) = (a == b) := by
  by_cases e : a = b
  · subst e; simp
  · have h : ¬ (Sum.inl a : Key) = Sum.inl b := fun q => e (Sum.inl.inj q)
    rw [decide_eq_false h]
    exact (beq_eq_false_iff_ne.mpr e).symm
theorem key_rr (a b : Str) : decide ((Sum.inr a : Key) = Sum.inr b) = decide (a = b) := by
  by_cases e : a = b
  · subst e; simp
  · have h : ¬ (Sum.inr a : Key) = Sum.inr b := fun q => e (Sum.inr.inj q)
    rw [decide_eq_false h, decide_eq_false e]
theorem key_lr (a : Int) (b : Str) : decide ((Sum.inl a : Key) = Sum.inr b) = false := decide_eq_false (fun q => nomatch q)
theorem key_rl (a : Str) (b : Int) : decide ((Sum.inr a : Key) = Sum.inl b) = false := decide_eq_false (fun q => nomatch q)
def mixKind (prog : Program) (w : World) : PySem.KeyKind prog w Key where
  is := keyIs
  hash := keyH w
  inj := fun v a b ha hb => by
    rcases keyIs_shape ha with ⟨i, t, rfl, rfl⟩ | ⟨x, t, rfl, rfl⟩
    · rcases keyIs_shape hb with ⟨j, u, rfl, e⟩ | ⟨y, u, rfl, e⟩
      · injection e with e1 _; rw [e1]
      · exact nomatch e
    · rcases keyIs_shape hb with ⟨j, u, rfl, e⟩ | ⟨y, u, rfl, e⟩
      · exact nomatch e
      · injection e with e1 _; rw [e1]
  byValue := fun k v h => by
    rcases keyIs_shape h with ⟨i, t, rfl, rfl⟩ | ⟨x, t, rfl, rfl⟩ <;> rfl
  pyHash := fun hv h => by
    rcases keyIs_shape hv with ⟨i, t, rfl, rfl⟩ | ⟨x, t, rfl, rfl⟩
    · exact wpAny_pyHash_int h
    · exact wpAny_pyHash_str h
  eqBool := fun hu hv h => by
    rcases keyIs_shape hu with ⟨i, t, rfl, rfl⟩ | ⟨x, t, rfl, rfl⟩
    · rcases keyIs_shape hv with ⟨j, u, rfl, rfl⟩ | ⟨y, u, rfl, rfl⟩
      · rw [key_ll] at h; exact wpAny_eqBool_int h
      · rw [key_lr] at h; exact SeqAt.EqAt.int_str i t y u _ _ _ _ h
    · rcases keyIs_shape hv with ⟨j, u, rfl, rfl⟩ | ⟨y, u, rfl, rfl⟩
      · rw [key_rl] at h; exact SeqAt.EqAt.str_int x t j u _ _ _ _ h
      · rw [key_rr] at h; exact wpAny_eqBool_str h
  «strs» := fun k x t v h => by
    rcases keyIs_shape h with ⟨i, u, rfl, e⟩ | ⟨y, u, rfl, e⟩
    · exact nomatch e
    · injection e with e1 _
      subst e1
      cases v <;> rfl
theorem mixKind_int (prog : Program) (w : World) (i : Int) (t : Tok) : (mixKind prog w).is (.inl i) (.int i t) = true := keyIs_int i t
theorem mixKind_str (prog : Program) (w : World) (x : Str) (t : Tok) : (mixKind prog w).is (.inr x) (.str x t) = true := keyIs_str x t
end L2
namespace L2
open PySem PySem.Spec PyProof.Rows
inductive V where
  | non | bl (b : Bool) | int (i : Int) | str (x : Str) | byt (b : Array UInt8) | flt (b : UInt64) | ref (a : Addr) | ty (n : String)
  deriving DecidableEq
def RelV : V → Value → Prop
  | .non, u => u = Value.none
  | .bl b, u => u = Value.bool b
  | .int i, u => ∃ t, u = Value.int i t
  | .str x, u => ∃ t, u = Value.str x t
  | .byt b, u => ∃ t, u = Value.bytes b t
  | .flt b, u => ∃ t, u = Value.float b t
  | .ref a, u => u = Value.ref a
  | .ty n, u => u = Value.type n
abbrev Vals : List V → List Value → Prop := Paired RelV
theorem Vals.length {xs : List V} {us : List Value} (r : Vals xs us) : xs.length = us.length := Paired.length r
theorem Vals.get : ∀ {xs : List V} {us : List Value} {i : Nat} {x : V}, Vals xs us → xs[i]? = some x → ∃ u, us[i]? = some u ∧ RelV x u
  | _, _, _, _, .nil, e => by simp at e
  | _, _, 0, _, .cons r _, e => by simp at e; subst e; exact ⟨_, rfl, r⟩
  | _, _, i + 1, x, .cons _ t, e => by
    obtain ⟨u, h1, h2⟩ := Vals.get (i := i) (x := x) t (by simpa using e)
    exact ⟨u, by simpa using h1, h2⟩
theorem Vals.set {x : V} {u : Value} (r : RelV x u) : ∀ {xs : List V} {us : List Value} (i : Nat), Vals xs us → Vals (xs.set i x) (us.set i u)
  | _, _, _, .nil => .nil
  | _, _, 0, .cons _ t => .cons r t
  | _, _, i + 1, .cons q t => .cons q (Vals.set r i t)
theorem Vals.append : ∀ {xs ys : List V} {us ws : List Value}, Vals xs us → Vals ys ws → Vals (xs ++ ys) (us ++ ws)
  | _, _, _, _, .nil, s => s
  | _, _, _, _, .cons r t, s => .cons r (Vals.append t s)
theorem Vals.take : ∀ {xs : List V} {us : List Value} (n : Nat), Vals xs us → Vals (xs.take n) (us.take n)
  | _, _, 0, _ => .nil
  | _, _, _ + 1, .nil => .nil
  | _, _, n + 1, .cons r t => .cons r (Vals.take n t)
theorem Vals.drop : ∀ {xs : List V} {us : List Value} (n : Nat), Vals xs us → Vals (xs.drop n) (us.drop n)
  | _, _, 0, r => r
  | _, _, _ + 1, .nil => .nil
  | _, _, n + 1, .cons _ t => Vals.drop n t
def RelO : Option V → Option Value → Prop
  | some v, some u => RelV v u
  | none, none => True
  | _, _ => False
def KV {κ : Type} : List (κ × V) → List (κ × Value) → Prop := Paired fun (p : κ × V) (q : κ × Value) => p.1 = q.1 ∧ RelV p.2 q.2
def kV : Key → V
  | .inl i => .int i
  | .inr x => .str x
inductive HO where
  | lst (xs : List V)
  | tup (xs : List V)
  | dK (kvs : List (Key × V)) | dT (kvs : List (List Key × V))
  | set (S : Int → Bool) (n : Nat)
  | ins (C dx : Addr) (fs : List (Str × V))
  | own (x : Addr)
  | xd (fs : List (Str × V))
  | met (f x : Addr)
  | rng (lo hi : Int)
  | frz (o : Obj) (u : HO)
  | tbl (ps : Array Value)
  | ext (φ : Heap → Prop)
abbrev Hp := Addr → Option HO
def upd (H : Hp) (a : Addr) (o : HO) : Hp := fun b => if b = a then some o else H b
theorem upd_same {H : Hp} {a : Addr} {o : HO} : upd H a o a = some o := by unfold upd; rw [if_pos rfl]
theorem upd_ne {H : Hp} {a b : Addr} {o : HO} (h : b ≠ a) : upd H a o b = H b := by unfold upd; rw [if_neg h]
theorem upd_upd {H : Hp} {a : Addr} {o u : HO} : upd (upd H a o) a u = upd H a u := by
  funext b; unfold upd; split <;> rfl
theorem ne_of {H : Hp} {a b : Addr} {o u : HO} (h : H a = some o) (h' : H b = some u) (d : o ≠ u) : a ≠ b := by
  intro e; subst e; rw [h] at h'; exact d (Option.some.inj h')
theorem ne_of_none {H : Hp} {a b : Addr} {o : HO} (h : H a = some o) (h' : H b = none) : a ≠ b := by
  intro e; subst e; rw [h] at h'; cases h'
section
variable (P : Program) (w : World)
def ObjOk (H : Hp) (h : Heap) (a : Addr) : HO → Prop
  | .lst xs => xs.length ≤ sizeLine ∧ ∃ (its : List Value) (n : Nat), Vals xs its ∧ h.get? a = some { cls := .type "list", data := .seq its.toArray n }
  | .tup xs => xs.length ≤ sizeLine ∧ ∃ its : List Value, Vals xs its ∧ IsTup h a its.toArray
  | .dK kvs => kvs.length ≤ sizeLine ∧ (a == sysModules) = false ∧ ∃ vs, KV kvs vs ∧ h.DictOf (mixKind P w) a vs
  | .dT kvs => kvs.length ≤ sizeLine ∧ (a == sysModules) = false ∧ ∃ xs : List (List Key × Addr × Value),
      Paired (fun (p : List Key × V) (q : List Key × Addr × Value) => p.1 = q.1 ∧ H q.2.1 = some (.tup (p.1.map kV)) ∧ RelV p.2 q.2.2) kvs xs ∧
      ∃ o es ep, h.get? a = some o ∧ o.ExactDict ∧ o.data = .dict es ep ∧ es.toList = xs.map (entryOfKey (tupleKind (mixKind P w))) ∧ (xs.map (·.1)).Nodup
  | .set S n => h.SetOf (intKind P w) a S n
  | .ins C dx fs => H dx = some (.own a) ∧ fs.length ≤ 1000 ∧ dx ≠ a ∧ h.get? a = some (PySem.W.instObj C dx) ∧
      ∃ mA, h.Ns1 dx mA ∧ (∀ f, RelO (fs.lookup f) (mA f)) ∧ PySem.Within mA (fs.map (·.1))
  | .own _ => ∃ o, h.get? a = some o
  | .xd fs => ∃ mA, h.Ns1 a mA ∧ ∀ f, RelO (fs.lookup f) (mA f)
  | .rng lo hi => ∃ t u v, h.get? a = some { cls := .type "range", data := .fields #[.int lo t, .int hi u, .int 1 v] }
  | .frz o u => h.get? a = some o ∧ ObjOk H h a u
  | .tbl ps => h.get? a = some { cls := .none, data := .fields ps }
  | .met f x => h.get? a = some (PySem.W.methodObj (.ref f) (.ref x))
  | .ext φ => φ h ∧ (∃ o, h.get? a = some o) ∧ ∀ h1 h2 : Heap, φ h1 → (∀ o, h1.get? a = some o → h2.get? a = some o) → φ h2
def HOk (H : Hp) (h : Heap) : Prop := ∀ a o, H a = some o → ObjOk P w H h a o
end
section
variable {P : Program} {w : World} {H H' : Hp} {h h' : Heap} {a : Addr} {o : HO}
theorem ObjOk.lt (x : ObjOk P w H h a o) : a < h.objs.size := by
  cases o with
  | lst xs => obtain ⟨_, _, _, _, e⟩ := x; exact Heap.lt_size e
  | tup xs => obtain ⟨_, _, _, p⟩ := x; exact p.lt
  | dK kvs => obtain ⟨_, _, _, _, o, _, _, e, _⟩ := x; exact Heap.lt_size e
  | dT kvs => obtain ⟨_, _, _, _, o, _, _, e, _⟩ := x; exact Heap.lt_size e
  | set S n => obtain ⟨o, _, _, _, e, _⟩ := x; exact Heap.lt_size e
  | ins C dx fs => obtain ⟨_, _, _, e, _⟩ := x; exact Heap.lt_size e
  | own y => obtain ⟨_, e⟩ := x; exact Heap.lt_size e
  | xd fs => obtain ⟨_, ⟨_, _, _, e, _⟩, _⟩ := x; exact Heap.lt_size e
  | rng lo hi => obtain ⟨_, _, _, e⟩ := x; exact Heap.lt_size e
  | frz ob u => obtain ⟨e, _⟩ := x; exact Heap.lt_size e
  | tbl ps => exact Heap.lt_size (show h.get? a = some _ from x)
  | met f y => exact Heap.lt_size (show h.get? a = some _ from x)
  | ext φ => obtain ⟨_, ⟨_, e⟩, _⟩ := x; exact Heap.lt_size e
theorem Paired.mapP {α β : Type} {F G : α → β → Prop} : ∀ {l₁ : List α} {l₂ : List β}, Paired F l₁ l₂ → (∀ a b, F a b → G a b) → Paired G l₁ l₂
  | _, _, .nil, _ => .nil
  | _, _, .cons r t, f => .cons (f _ _ r) (Paired.mapP t f)
theorem ObjOk.stay (x : ObjOk P w H h a o) (k : ∀ b u, (b = a ∨ H b = some (.own a)) → h.get? b = some u → h'.get? b = some u)
    (ho : ∀ b, H b = some (.own a) → H' b = some (.own a)) (ht : ∀ b xs, H b = some (.tup xs) → H' b = some (.tup xs)) : ObjOk P w H' h' a o := by
  induction o with
  | lst xs => obtain ⟨z, its, n, r, e⟩ := x; exact ⟨z, its, n, r, k _ _ (.inl rfl) e⟩
  | tup xs => obtain ⟨z, its, r, ob, e, c⟩ := x; exact ⟨z, its, r, ob, k _ _ (.inl rfl) e, c⟩
  | dK kvs => obtain ⟨z, y, vs, r, ob, es, ep, e, c⟩ := x; exact ⟨z, y, vs, r, ob, es, ep, k _ _ (.inl rfl) e, c⟩
  | dT kvs =>
    obtain ⟨z, y, xs, r, ob, es, ep, e, c⟩ := x
    exact ⟨z, y, xs, Paired.mapP r fun p q z => ⟨z.1, ht _ _ z.2.1, z.2.2⟩, ob, es, ep, k _ _ (.inl rfl) e, c⟩
  | set S n => obtain ⟨ob, es, ep, t, e, c⟩ := x; exact ⟨ob, es, ep, t, k _ _ (.inl rfl) e, c⟩
  | ins C dx fs =>
    obtain ⟨d, z, ne, e, mA, ⟨od, es, ep, e2, c⟩, r⟩ := x
    exact ⟨ho _ d, z, ne, k _ _ (.inl rfl) e, mA, ⟨od, es, ep, k _ _ (.inr d) e2, c⟩, r⟩
  | own y => obtain ⟨ob, e⟩ := x; exact ⟨ob, k _ _ (.inl rfl) e⟩
  | xd fs => obtain ⟨mA, ⟨od, es, ep, e, c⟩, r⟩ := x; exact ⟨mA, ⟨od, es, ep, k _ _ (.inl rfl) e, c⟩, r⟩
  | rng lo hi => obtain ⟨t, u, v, e⟩ := x; exact ⟨t, u, v, k _ _ (.inl rfl) e⟩
  | frz ob u ih => obtain ⟨e, q⟩ := x; exact ⟨k _ _ (.inl rfl) e, ih q⟩
  | tbl ps =>
    have e : h.get? a = some { cls := .none, data := .fields ps } := x
    show h'.get? a = some { cls := .none, data := .fields ps }
    exact k a _ (.inl rfl) e
  | met f y =>
    have e : h.get? a = some (PySem.W.methodObj (.ref f) (.ref y)) := x
    show h'.get? a = some (PySem.W.methodObj (.ref f) (.ref y))
    exact k a _ (.inl rfl) e
  | ext φ => obtain ⟨p, ⟨o, e⟩, st⟩ := x; exact ⟨st _ _ p fun o q => k _ _ (.inl rfl) q, ⟨o, k _ _ (.inl rfl) e⟩, st⟩
theorem HOk.lt (x : HOk P w H h) (e : H a = some o) : a < h.objs.size := (x a o e).lt
theorem HOk.fresh (x : HOk P w H h) (e : h.objs.size ≤ a) : H a = none := by
  cases q : H a with
  | none => rfl
  | some u => exact absurd (Nat.lt_of_lt_of_le (x.lt q) e) (Nat.lt_irrefl _)
theorem HOk.kept (x : HOk P w H h) (k : ∀ b u, h.get? b = some u → h'.get? b = some u) : HOk P w H h' := fun a o e =>
  (x a o e).stay (fun b u _ q => k b u q) (fun _ q => q) fun _ _ q => q
theorem HOk.laid (x : HOk P w H h) (k : ∀ b u, h.get? b = some u → h'.get? b = some u) (hp : h.objs.size ≤ a) (new : ObjOk P w (upd H a o) h' a o) : HOk P w (upd H a o) h' := fun b u e => by
  have hn := x.fresh hp
  by_cases hb : b = a
  · subst hb; rw [upd_same] at e; cases e; exact new
  · rw [upd_ne hb] at e
    exact (x b u e).stay (fun c v _ q => k c v q) (fun c q => by rw [upd_ne (ne_of_none q hn)]; exact q) fun c xs q => by rw [upd_ne (ne_of_none q hn)]; exact q
end
def Rd (H : Hp) (a : Addr) (u : HO) : Prop := H a = some u ∨ ∃ o, H a = some (.frz o u)
theorem Rd.ok {P : Program} {w : World} {H : Hp} {h : Heap} {a : Addr} {u : HO} (r : Rd H a u) (x : HOk P w H h) : ObjOk P w H h a u := by
  rcases r with r | ⟨o, r⟩
  · exact x a u r
  · obtain ⟨_, q⟩ := x a _ r
    exact q
def Mut : Option HO → Prop
  | some (.lst _) => True
  | some (.dK _) => True
  | some (.dT _) => True
  | some (.set _ _) => True
  | some (.ins _ _ _) => True
  | some (.ext _) => True
  | _ => False
section
variable {P : Program} {w : World} {H : Hp} {h h' : Heap} {x e : Addr} {o' : HO}
theorem HOk.write (ok : HOk P w H h) (mu : Mut (H x)) (he : e = x ∨ H e = some (.own x)) (k : ∀ b u, b ≠ e → h.get? b = some u → h'.get? b = some u) (heo : ∃ u, h'.get? e = some u)
    (new : ObjOk P w (upd H x o') h' x o') : HOk P w (upd H x o') h' := fun b u q => by
  have nown : ∀ c y, H c = some (.own y) → c ≠ x := fun c y r z => by subst z; rw [r] at mu; exact mu
  have ntup : ∀ c xs, H c = some (.tup xs) → c ≠ x := fun c xs r z => by subst z; rw [r] at mu; exact mu
  by_cases hb : b = x
  · subst hb; rw [upd_same] at q; cases q; exact new
  · rw [upd_ne hb] at q
    by_cases hbe : b = e
    · have q' : H b = some (.own x) := by
        rcases he with z | z
        · exact absurd (hbe.trans z) hb
        · rw [hbe]; exact z
      rw [q] at q'; cases q'
      obtain ⟨v, hv⟩ := heo
      exact ⟨v, by rw [hbe]; exact hv⟩
    · refine (ok b u q).stay (fun c v hc r => k c v ?_ r) (fun c r => by rw [upd_ne (nown c b r)]; exact r) fun c xs r => by rw [upd_ne (ntup c xs r)]; exact r
      rcases hc with rfl | hc
      · exact hbe
      · rintro rfl
        rcases he with z | z
        · exact nown c b hc z
        · rw [hc] at z; cases z; exact hb rfl
end
structure Un (fs ex : List Addr) (H H' : Hp) (h h' : Heap) : Prop where
  keep : ∀ b o, h.get? b = some o → H b = none → b ∉ fs → b ∉ ex → h'.get? b = some o
  slot : ∀ b o, h.get? b = some o → H b = none → b ∈ fs → b ∉ ex → ∃ sl, h'.get? b = some { o with slots := sl }
  free : ∀ b o, h.get? b = some o → H b = none → b ∉ ex → H' b = none
  there : ∀ b o, h.get? b = some o → b ∉ ex → ∃ o', h'.get? b = some o'
  tups : ∀ b xs, H b = some (.tup xs) → H' b = some (.tup xs)
  frzs : ∀ b o u, H b = some (.frz o u) → H' b = some (.frz o u)
  tbls : ∀ b ps, H b = some (.tbl ps) → ∃ more, H' b = some (.tbl (ps ++ more))
section
variable {fs fs' ex ex' : List Addr} {H H1 H2 : Hp} {h h1 h2 h' : Heap} {a x e : Addr} {o : HO}
theorem Un.any (u : Un fs ex H H1 h h1) {b : Addr} {ob : Obj} (q : h.get? b = some ob) (n : H b = none) (hx : b ∉ ex) : ∃ sl, h1.get? b = some { ob with slots := sl } := by
  by_cases hb : b ∈ fs
  · exact u.slot b ob q n hb hx
  · exact ⟨ob.slots, u.keep b ob q n hb hx⟩
theorem Un.kept (k : ∀ b u, h.get? b = some u → h'.get? b = some u) : Un fs ex H H h h' :=
  ⟨fun b ob q _ _ _ => k b ob q, fun b ob q _ _ _ => ⟨ob.slots, k b ob q⟩, fun _ _ _ n _ => n, fun b ob q _ => ⟨ob, k b ob q⟩, fun _ _ q => q, fun _ _ _ q => q, fun _ ps q => ⟨#[], by rw [q]; simp⟩⟩
theorem Un.refl : Un fs ex H H h h := Un.kept fun _ _ q => q
theorem Un.laid (k : ∀ b u, h.get? b = some u → h'.get? b = some u) (hp : h.objs.size ≤ a) (hn : H a = none) : Un fs ex H (upd H a o) h h' where
  keep := fun b u q _ _ _ => k b u q
  slot := fun b u q _ _ _ => ⟨u.slots, k b u q⟩
  free := fun b u q n _ => by rw [upd_ne (Nat.ne_of_lt (Nat.lt_of_lt_of_le (Heap.lt_size q) hp))]; exact n
  there := fun b u q _ => ⟨u, k b u q⟩
  tups := fun b xs q => by rw [upd_ne (ne_of_none q hn)]; exact q
  frzs := fun b u xs q => by rw [upd_ne (ne_of_none q hn)]; exact q
  tbls := fun b ps q => ⟨#[], by rw [upd_ne (ne_of_none q hn), q]; simp⟩
theorem Un.write (mu : Mut (H x)) (he : e = x ∨ H e = some (.own x)) (k : ∀ b u, b ≠ e → h.get? b = some u → h'.get? b = some u) (heo : ∃ u, h'.get? e = some u) : Un fs ex H (upd H x o) h h' := by
  have hx : ∀ b, H b = none → b ≠ x := fun b n z => by subst z; rw [n] at mu; exact mu
  have hb : ∀ b, H b = none → b ≠ e := fun b n z => by
    subst z
    rcases he with r | r
    · exact hx b n r
    · rw [n] at r; cases r
  have hm : ∀ b u, H b = some u → ¬ Mut (some u) → b ≠ x := fun b u q nm z => by subst z; rw [q] at mu; exact nm mu
  refine ⟨fun b u q n _ _ => k b u (hb b n) q, fun b u q n _ _ => ⟨u.slots, k b u (hb b n) q⟩, fun b u q n _ => by rw [upd_ne (hx b n)]; exact n, fun b u q _ => ?_,
    fun b xs q => by rw [upd_ne (hm b _ q fun z => z)]; exact q, fun b u xs q => by rw [upd_ne (hm b _ q fun z => z)]; exact q, fun b ps q => ⟨#[], by rw [upd_ne (hm b _ q fun z => z), q]; simp⟩⟩
  by_cases hbe : b = e
  · subst hbe; exact heo
  · exact ⟨u, k b u hbe q⟩
end
def trk (h : Heap) (H : Hp) : List Addr := (List.range h.objs.size).filter fun a => (H a).isSome
def hidT (h : Heap) (H : Hp) : Heap := PySem.W.hideAll h (trk h H)
theorem hidT_size (h : Heap) (H : Hp) : (hidT h H).objs.size = h.objs.size := PySem.W.hideAll_size _ _
theorem hidT_get {h : Heap} {H : Hp} {b : Addr} {o : Obj} (e : h.get? b = some o) (n : H b = none) : (hidT h H).get? b = some o :=
  PySem.W.hideAll_get _ e fun hm => by
    have q : (H b).isSome = true := (List.mem_filter.mp hm).2
    rw [n] at q; simp at q
theorem of_hidT {h : Heap} {H : Hp} {b : Addr} {o : Obj} (e : (hidT h H).get? b = some o) : h.get? b = some o ∧ H b = none := by
  have e' : h.get? b = some o := PySem.W.of_hideAll (trk h H) e
  refine ⟨e', ?_⟩
  cases q : H b with
  | none => rfl
  | some x =>
    have hm : b ∈ trk h H := List.mem_filter.mpr ⟨List.mem_range.mpr (Heap.lt_size e'), by simp [q]⟩
    have z : (hidT h H).get? b = none := PySem.W.hideAll_none (trk h H) hm
    rw [z] at e; cases e
end L2
namespace L2
open PySem PySem.Spec PyProof.Rows
structure Mod (K : PySem.W.Frag) (mg : Str → Option Value) (base : Heap) : Prop where
  kin : K.In base
  glob : base.Ns mainGlobals mg
  blt : ∃ mb, base.Ns builtinsNs mb ∧ ∀ x : Str, x ≠ "__name__" → mb x = bootBuiltins x
  nolimit : base.NoLimit
structure Cx where
  prog : Program
  w : World
  K : PySem.W.Frag
  mg : Str → Option Value
  base : Heap
  A : Around
  N : List Str
  s₀ : Shared
  H₀ : Hp
  env : Env
  outer : List Env
  stack : List Env
  ex : List Addr
  fn : Str → Bool
  calm : Bool
  pn : List (Addr × Obj)
  xe : Value → Shared → Prop
def frs (l : List Env) : List Addr := l.filterMap (·.frame)
abbrev Cx.fs (X : Cx) : List Addr := frs X.outer
def Vis (sc : Scope) (x : Str) : Prop := sc.names.lookup x = some .local ∨ sc.names.lookup x = some .cell ∨ sc.names.lookup x = some .free
def Loc (sc : Scope) (x : Str) : Prop := sc.names.lookup x = some .local ∨ sc.names.lookup x = some .cell
def Look (env : Env) (h : Heap) (m : Str → Option Value) (x : Str) (u : Value) : Prop :=
  (env.kindOf x = some .local ∧ m x = some u) ∨ ((env.kindOf x = some .cell ∨ env.kindOf x = some .free) ∧ ∃ c, env.cells.lookup x = some c ∧ h.IsCell c (some u))
structure Cx.Ok (X : Cx) : Prop where
  mod : Mod X.K X.mg X.base
  kind : X.env.scope.kind = .function
  glob : X.env.globals = mainGlobals
  blt : X.env.builtins = builtinsNs
  above : X.s₀.heap.objs.size ≤ X.env.locals
  inj : ∀ x y c, X.env.cells.lookup x = some c → X.env.cells.lookup y = some c → x = y
  has : ∀ x, (X.env.kindOf x = some .cell ∨ X.env.kindOf x = some .free) → ∃ c, X.env.cells.lookup x = some c
  cab : ∀ x c, X.fn x = true → X.env.cells.lookup x = some c → X.s₀.heap.objs.size ≤ c
  hd : X.calm = true → X.A.handled = none
  frames : X.A.frames = some X.stack
  stk : X.stack = X.outer ∨ (X.stack = X.env :: X.outer ∧ X.env.frame = some X.env.locals)
  exf : ∀ b ∈ X.ex, b ≠ X.env.locals ∧ ∀ x c, X.env.cells.lookup x = some c → c ≠ b
  bs : ∀ b o, X.base.get? b = some o → X.s₀.heap.get? b = some o ∧ X.H₀ b = none
  bsz : X.base.objs.size ≤ X.s₀.heap.objs.size
  noex : ∀ b o, X.base.get? b = some o → b ∉ X.ex
  exfs : ∀ b ∈ X.ex, b ∉ X.fs
  funs : X.s₀.heap.FunFrames X.base X.outer
  frf : ∀ b ∈ X.fs, X.H₀ b = none
structure Inv (X : Cx) (pins : List (Addr × Obj)) (σ : List (Option V)) (H : Hp) (s : Shared) : Prop where
  ok : X.Ok
  os : s.os = X.s₀.os
  bare : AllBare s.gens
  base : Un X.fs X.ex X.H₀ H X.s₀.heap s.heap
  loc : ∃ m, s.heap.Ns X.env.locals m ∧ ∀ (i : Nat) (x : Str) (v : V), X.N[i]? = some x → σ[i]? = some (some v) → Vis X.env.scope x → ∃ u, RelV v u ∧ Look X.env s.heap m x u
  cell : ∀ x c, X.env.cells.lookup x = some c → ∃ v, s.heap.IsCell c v
  free : H X.env.locals = none
  freeC : ∀ x c, X.env.cells.lookup x = some c → H c = none
  pin : ∀ p ∈ X.pn ++ pins, s.heap.get? p.1 = some p.2 ∧ H p.1 = none ∧ p.1 ≠ X.env.locals ∧ p.1 ∉ X.fs ∧ ∀ v, p.2.data ≠ .cell v
  hok : HOk X.prog X.w H s.heap
  len : σ.length = X.N.length
section
variable {X : Cx} {pins : List (Addr × Obj)} {σ : List (Option V)} {H H' : Hp} {s : Shared} {h' : Heap}
theorem Cx.Ok.nofr (ok : X.Ok) {b : Addr} {o : Obj} (e : X.base.get? b = some o) : b ∉ X.fs := fun hb => by
  have := (ok.funs.mem hb).1
  rw [e] at this; cases this
theorem Inv.bs (I : Inv X pins σ H s) : ∀ b o, X.base.get? b = some o → s.heap.get? b = some o ∧ H b = none := fun b o e =>
  ⟨I.base.keep b o (I.ok.bs b o e).1 (I.ok.bs b o e).2 (I.ok.nofr e) (I.ok.noex b o e), I.base.free b o (I.ok.bs b o e).1 (I.ok.bs b o e).2 (I.ok.noex b o e)⟩
theorem Inv.bk (I : Inv X pins σ H s) : ∀ b o, X.base.get? b = some o → s.heap.get? b = some o := fun b o e => (I.bs b o e).1
theorem Inv.mod (I : Inv X pins σ H s) : Mod X.K X.mg X.base := I.ok.mod
theorem Inv.kIn (I : Inv X pins σ H s) : X.K.In s.heap := I.ok.mod.kin.keeps I.bk
theorem Inv.fr (I : Inv X pins σ H s) : ∃ m, Fr X.base X.env.locals s.heap m :=
  let ⟨m, hn, _⟩ := I.loc
  ⟨m, hn, I.bk, Nat.le_trans I.ok.bsz I.ok.above⟩
theorem Inv.lt (I : Inv X pins σ H s) : X.env.locals < s.heap.objs.size := let ⟨_, hn, _⟩ := I.loc; hn.lt
theorem Inv.sz (I : Inv X pins σ H s) : X.s₀.heap.objs.size ≤ s.heap.objs.size := Nat.le_trans I.ok.above (Nat.le_of_lt I.lt)
theorem Inv.nofs (I : Inv X pins σ H s) {a : Addr} (h : s.heap.objs.size ≤ a) : a ∉ X.fs := fun hb => by
  obtain ⟨_, o, ho, _⟩ := I.ok.funs.mem hb
  exact absurd (Nat.lt_of_lt_of_le (Heap.lt_size ho) (Nat.le_trans I.sz h)) (Nat.lt_irrefl _)
theorem Inv.cne (I : Inv X pins σ H s) : ∀ x c, X.env.cells.lookup x = some c → c ≠ X.env.locals := fun x c e z => by
  obtain ⟨v, o, ho, hd⟩ := I.cell x c e
  obtain ⟨m, ⟨o', es, ep, ho', hd', _⟩, _⟩ := I.loc
  rw [z, ho'] at ho; cases ho; rw [hd'] at hd; cases hd
theorem Inv.funs (I : Inv X pins σ H s) : s.heap.FunFrames X.base X.outer := by
  have all : ∀ (l : List Env), (∀ b ∈ frs l, b ∈ X.fs) → X.s₀.heap.FunFrames X.base l → s.heap.FunFrames X.base l := by
    intro l
    induction l with
    | nil => intro _ _; trivial
    | cons env r ih =>
      intro hs hl
      obtain ⟨hk, ⟨L, o, hf, hn, ho, hd⟩, hr⟩ := hl
      have hL : L ∈ X.fs := hs L (by unfold frs; rw [List.filterMap_cons, hf]; exact List.mem_cons_self)
      obtain ⟨sl, e⟩ := I.base.slot L o ho (I.ok.frf L hL) hL fun z => I.ok.exfs L z hL
      exact ⟨hk, ⟨L, _, hf, hn, e, hd⟩, ih (fun b hb => hs b (by unfold frs; rw [List.filterMap_cons, hf]; exact List.mem_cons_of_mem _ hb)) hr⟩
  exact all X.outer (fun _ hb => hb) I.ok.funs
theorem Inv.stack (I : Inv X pins σ H s) : s.heap.FunFrames X.base X.stack := by
  rcases I.ok.stk with e | ⟨e, hf⟩
  · rw [e]; exact I.funs
  · rw [e]
    obtain ⟨m, hn, _⟩ := I.loc
    refine .cons (by rw [I.ok.kind]; decide) hf hn ?_ I.funs
    exact Heap.get?_none_of_le (Nat.le_trans I.ok.bsz I.ok.above)
theorem Inv.stkSub (I : Inv X pins σ H s) : ∀ b ∈ frs X.stack, b ∈ X.env.locals :: X.fs := fun b hb => by
  rcases I.ok.stk with e | ⟨e, hf⟩
  · rw [e] at hb; exact List.mem_cons_of_mem _ hb
  · rw [e] at hb
    unfold frs at hb
    rw [List.filterMap_cons, hf] at hb
    exact hb
theorem Inv.stkFree (I : Inv X pins σ H s) : ∀ b ∈ frs X.stack, H b = none := fun b hb => by
  rcases List.mem_cons.mp (I.stkSub b hb) with e | hb
  · rw [e]; exact I.free
  · obtain ⟨_, o, ho, _⟩ := I.ok.funs.mem hb
    exact I.base.free b o ho (I.ok.frf b hb) fun z => I.ok.exfs b z hb
theorem Inv.step {g' : Array GenState} {t' : Nat} {d' : Drawn} {ch : List Addr} (I : Inv X pins σ H s)
    (hch : ∀ b ∈ ch, (b ∈ X.ex ∨ X.s₀.heap.objs.size ≤ b) ∧ b ≠ X.env.locals ∧ (∀ x c, X.env.cells.lookup x = some c → c ≠ b) ∧ ∀ p ∈ X.pn ++ pins, p.1 ≠ b)
    (keep : ∀ b o, b ≠ X.env.locals → b ∉ X.fs → b ∉ ch → s.heap.get? b = some o → H b = none → h'.get? b = some o)
    (slot : ∀ b o, b ≠ X.env.locals → b ∈ X.fs → b ∉ ch → s.heap.get? b = some o → H b = none → ∃ sl, h'.get? b = some { o with slots := sl }) (free : ∀ b o, b ∉ ch → s.heap.get? b = some o → H b = none → H' b = none)
    (there : ∀ b o, b ∉ ch → s.heap.get? b = some o → ∃ o', h'.get? b = some o')
    (tups : ∀ b xs, H b = some (.tup xs) → H' b = some (.tup xs)) (frzs : ∀ b o u, H b = some (.frz o u) → H' b = some (.frz o u)) (tbls : ∀ b ps, H b = some (.tbl ps) → ∃ more, H' b = some (.tbl (ps ++ more)))
    (ns : ∀ m, s.heap.Ns X.env.locals m → h'.Ns X.env.locals m) (hok : HOk X.prog X.w H' h') (hg : AllBare g') :
    Inv X pins σ H' { s with heap := h', gens := g', drawn := d', toks := t' } := by
  have neL : ∀ b o, X.s₀.heap.get? b = some o → b ≠ X.env.locals := fun b o e => Nat.ne_of_lt (Nat.lt_of_lt_of_le (Heap.lt_size e) I.ok.above)
  have neC : ∀ b o, X.s₀.heap.get? b = some o → b ∉ X.ex → b ∉ ch := fun b o e hx hb => by
    rcases (hch b hb).1 with z | z
    · exact hx z
    · exact absurd (Nat.lt_of_lt_of_le (Heap.lt_size e) z) (Nat.lt_irrefl _)
  have cellK : ∀ x c, X.env.cells.lookup x = some c → ∀ v, s.heap.IsCell c v → h'.IsCell c v := fun x c e v ⟨o, ho, hd⟩ => by
    have nch : c ∉ ch := fun z => (hch c z).2.2.1 x c e rfl
    by_cases hc : c ∈ X.fs
    · obtain ⟨sl, q⟩ := slot c o (I.cne x c e) hc nch ho (I.freeC x c e)
      exact ⟨_, q, hd⟩
    · exact ⟨o, keep c o (I.cne x c e) hc nch ho (I.freeC x c e), hd⟩
  refine ⟨I.ok, I.os, hg, ⟨fun b o e n hb hx => ?_, fun b o e n hb hx => ?_, fun b o e n hx => ?_, fun b o e hx => ?_, fun b xs e => tups b xs (I.base.tups b xs e), fun b o xs e => frzs b o xs (I.base.frzs b o xs e), fun b ps e => ?_⟩, ?_, fun x c e => ?_, ?_, fun x c e => ?_, fun p hp => ?_, hok, I.len⟩
  · exact keep b o (neL b o e) hb (neC b o e hx) (I.base.keep b o e n hb hx) (I.base.free b o e n hx)
  · obtain ⟨sl, e1⟩ := I.base.slot b o e n hb hx
    obtain ⟨sl', e2⟩ := slot b _ (neL b o e) hb (neC b o e hx) e1 (I.base.free b o e n hx)
    exact ⟨sl', e2⟩
  · obtain ⟨o', e1⟩ := I.base.there b o e hx
    exact free b o' (neC b o e hx) e1 (I.base.free b o e n hx)
  · obtain ⟨o', e1⟩ := I.base.there b o e hx
    exact there b o' (neC b o e hx) e1
  · obtain ⟨m1, e1⟩ := I.base.tbls b ps e
    obtain ⟨m2, e2⟩ := tbls b _ e1
    exact ⟨m1 ++ m2, by rw [e2, Array.append_assoc]⟩
  · obtain ⟨m, hn, hl⟩ := I.loc
    refine ⟨m, ns m hn, fun i x v e1 e2 e3 => ?_⟩
    obtain ⟨u, r, l⟩ := hl i x v e1 e2 e3
    refine ⟨u, r, ?_⟩
    rcases l with l | ⟨k, c, e, z⟩
    · exact .inl l
    · exact .inr ⟨k, c, e, cellK x c e _ z⟩
  · obtain ⟨v, z⟩ := I.cell x c e
    exact ⟨v, cellK x c e v z⟩
  · obtain ⟨m, ⟨o, _, _, ho, _⟩, _⟩ := I.loc
    exact free _ o (fun z => (hch _ z).2.1 rfl) ho I.free
  · obtain ⟨v, o, ho, hd⟩ := I.cell x c e
    exact free c o (fun z => (hch c z).2.2.1 x c e rfl) ho (I.freeC x c e)
  · obtain ⟨e, n, ne, nf, d⟩ := I.pin p hp
    have nch : p.1 ∉ ch := fun z => (hch p.1 z).2.2.2 p hp rfl
    exact ⟨keep p.1 p.2 ne nf nch e n, free p.1 p.2 nch e n, ne, nf, d⟩
theorem Inv.un {t' : Nat} (I : Inv X pins σ H s) (u : Un X.fs [] H H' s.heap h') (hok : HOk X.prog X.w H' h') : Inv X pins σ H' { s with heap := h', toks := t' } := by
  obtain ⟨m, ⟨o, es, ep, ho, r⟩, _⟩ := id I.loc
  obtain ⟨sl, hL⟩ := u.any ho I.free (by simp)
  exact I.step (g' := s.gens) (d' := s.drawn) (ch := []) (fun _ z => nomatch z) (fun b o _ hb _ e n => u.keep b o e n hb (by simp)) (fun b o _ hb _ e n => u.slot b o e n hb (by simp)) (fun b o _ e n => u.free b o e n (by simp)) (fun b o _ e => u.there b o e (by simp)) u.tups u.frzs u.tbls (fun m' hm => by
    obtain ⟨o', es', ep', ho', r'⟩ := hm
    rw [ho] at ho'; cases ho'
    exact ⟨_, es', ep', hL, r'⟩) hok I.bare
theorem Inv.call {g' : Array GenState} {t' : Nat} {d' : Drawn} {ch : List Addr} (I : Inv X pins σ H s) (u : Un (frs X.stack) ch H H' s.heap h') (hok : HOk X.prog X.w H' h') (hg : AllBare g')
    (hch : ∀ b ∈ ch, (b ∈ X.ex ∨ X.s₀.heap.objs.size ≤ b) ∧ b ≠ X.env.locals ∧ (∀ x c, X.env.cells.lookup x = some c → c ≠ b) ∧ ∀ p ∈ X.pn ++ pins, p.1 ≠ b) :
    Inv X pins σ H' { s with heap := h', gens := g', drawn := d', toks := t' } := by
  obtain ⟨m, ⟨o, es, ep, ho, r⟩, _⟩ := id I.loc
  obtain ⟨sl, hL⟩ := u.any ho I.free fun z => (hch _ z).2.1 rfl
  exact I.step (ch := ch) hch (fun b o hL hb hc e n => u.keep b o e n (fun z => (List.mem_cons.mp (I.stkSub b z)).elim hL hb) hc) (fun b o _ _ hc e n => u.any e n hc) (fun b o hc e n => u.free b o e n hc) (fun b o hc e => u.there b o e hc) u.tups u.frzs u.tbls (fun m' hm => by
    obtain ⟨o', es', ep', ho', r'⟩ := hm
    rw [ho] at ho'; cases ho'
    exact ⟨_, es', ep', hL, r'⟩) hok hg
theorem Inv.turned {t' : Nat} {it : Addr} (I : Inv X pins σ H s) (k : ∀ b o, b ≠ it → s.heap.get? b = some o → h'.get? b = some o) (hn : H it = none) (hL : it ≠ X.env.locals)
    (h1 : it ∈ X.ex ∨ X.s₀.heap.objs.size ≤ it) (h2 : ∀ x c, X.env.cells.lookup x = some c → c ≠ it) (h3 : ∀ p ∈ X.pn ++ pins, p.1 ≠ it) : Inv X pins σ H { s with heap := h', toks := t' } := by
  have nit : ∀ b u, H b = some u → b ≠ it := fun b u e z => by rw [z, hn] at e; cases e
  refine I.step (g' := s.gens) (d' := s.drawn) (ch := [it]) (fun b hb => ?_) (fun b o _ _ hc e _ => k b o (fun z => hc (by simp [z])) e) (fun b o _ _ hc e _ => ⟨o.slots, k b o (fun z => hc (by simp [z])) e⟩) (fun _ _ _ _ n => n)
    (fun b o hc e => ⟨o, k b o (fun z => hc (by simp [z])) e⟩) (fun _ _ e => e) (fun _ _ _ e => e) (fun b ps e => ⟨#[], by rw [e]; simp⟩) (fun m hm => ?_) (fun b u e => ?_) I.bare
  · have e : b = it := by simpa using hb
    subst e
    exact ⟨h1, hL, h2, h3⟩
  · obtain ⟨o, es, ep, ho, r⟩ := hm
    exact ⟨o, es, ep, k _ o (Ne.symm hL) ho, r⟩
  · refine (I.hok b u e).stay (fun c v hc q => k c v ?_ q) (fun _ q => q) fun _ _ q => q
    rcases hc with z | z
    · rw [z]; exact nit b u e
    · exact nit c _ z
theorem Inv.tok (I : Inv X pins σ H s) (t : Nat) : Inv X pins σ H { s with toks := t } := I.un (h' := s.heap) (t' := t) Un.refl I.hok
theorem Inv.kept {t' : Nat} (I : Inv X pins σ H s) (k : ∀ b u, s.heap.get? b = some u → h'.get? b = some u) : Inv X pins σ H { s with heap := h', toks := t' } := I.un (Un.kept k) (I.hok.kept k)
theorem Inv.laid {a : Addr} {o : HO} {t' : Nat} (I : Inv X pins σ H s) (k : ∀ b u, s.heap.get? b = some u → h'.get? b = some u) (hp : s.heap.objs.size ≤ a) (new : ObjOk X.prog X.w (upd H a o) h' a o) :
    Inv X pins σ (upd H a o) { s with heap := h', toks := t' } := I.un (Un.laid k hp (I.hok.fresh hp)) (I.hok.laid k hp new)
theorem Inv.write {x e : Addr} {o : HO} {t' : Nat} (I : Inv X pins σ H s) (mu : Mut (H x)) (he : e = x ∨ H e = some (.own x)) (k : ∀ b u, b ≠ e → s.heap.get? b = some u → h'.get? b = some u) (heo : ∃ u, h'.get? e = some u)
    (new : ObjOk X.prog X.w (upd H x o) h' x o) : Inv X pins σ (upd H x o) { s with heap := h', toks := t' } := I.un (Un.write mu he k heo) (I.hok.write mu he k heo new)
theorem Inv.weak {σ' : List (Option V)} (I : Inv X pins σ H s) (hl : σ'.length = σ.length) (w : ∀ (i : Nat) v, σ'[i]? = some (some v) → σ[i]? = some (some v)) : Inv X pins σ' H s :=
  ⟨I.ok, I.os, I.bare, I.base, let ⟨m, hn, hl'⟩ := I.loc; ⟨m, hn, fun i x v e1 e2 e3 => hl' i x v e1 (w i v e2) e3⟩, I.cell, I.free, I.freeC, I.pin, I.hok, hl.trans I.len⟩
theorem Inv.pins_of {pins' : List (Addr × Obj)} (I : Inv X pins σ H s) (h : ∀ p ∈ pins', s.heap.get? p.1 = some p.2 ∧ H p.1 = none ∧ p.1 ≠ X.env.locals ∧ p.1 ∉ X.fs ∧ ∀ v, p.2.data ≠ .cell v) : Inv X pins' σ H s :=
  ⟨I.ok, I.os, I.bare, I.base, I.loc, I.cell, I.free, I.freeC, fun p hp => (List.mem_append.mp hp).elim (fun z => I.pin p (List.mem_append_left _ z)) (h p), I.hok, I.len⟩
theorem nodup_ix {N : List Str} (hN : N.Nodup) {i j : Nat} {x : Str} (a : N[i]? = some x) (b : N[j]? = some x) : i = j := by
  obtain ⟨h1, e1⟩ := List.getElem?_eq_some_iff.mp a
  obtain ⟨h2, e2⟩ := List.getElem?_eq_some_iff.mp b
  exact (List.getElem_inj hN).mp (e1.trans e2.symm)
theorem store_ok2 {M : Model} {A : Around} {E : Value → Shared → Prop} {i : Nat} {x : Str} {v : V} {u : Value} {Q : Unit → Shared → Prop} (I : Inv X pins σ H s) (hN : X.N.Nodup) (hi : X.N[i]? = some x) (hx : Loc X.env.scope x) (r : RelV v u)
    (h : ∀ s', Inv X pins (σ.set i (some v)) H s' → (∃ a, Heap.SameBut a s.heap s'.heap ∧ (a = X.env.locals ∨ X.env.cells.lookup x = some a)) → Q () s') (hf : X.fn x = true ∨ X.env.scope.names.lookup x = some .local := by first | exact .inl rfl | exact .inr rfl | assumption) : wpAny M A (storeName X.env x u) Q E s := by
  obtain ⟨m, hn, hl⟩ := id I.loc
  have hcls : (X.env.scope.kind == .class || (X.env.scope.kind == .module && X.env.locals != X.env.globals)) = false := by rw [I.ok.kind]; rfl
  have hiσ : i < σ.length := by rw [I.len]; exact (List.getElem?_eq_some_iff.mp hi).1
  have cne := I.cne
  have tracked : ∀ {a : Addr} {h' : Heap}, (∃ o, s.heap.get? a = some o ∧ H a = none) → Heap.SameBut a s.heap h' → HOk X.prog X.w H h' := fun {a h'} ha hs b ob e => by
    obtain ⟨_, _, hfree⟩ := ha
    refine (I.hok b ob e).stay (fun c w' hc q => (hs.2 c ?_).trans q) (fun _ q => q) fun _ _ q => q
    rintro rfl
    rcases hc with rfl | hc
    · rw [hfree] at e; cases e
    · rw [hfree] at hc; cases hc
  rcases hx with hk | hk
  · refine wpAny_storeName_local hk hn (fun h' hn' hs => ?_) hcls
    obtain ⟨oL, _, _, hoL, _⟩ := id hn
    refine h _ ⟨I.ok, I.os, I.bare, ⟨fun b o e n hb hx => ?_, fun b o e n hb hx => ?_, I.base.free, fun b o e hx => ?_, I.base.tups, I.base.frzs, I.base.tbls⟩, ⟨_, hn', fun j y v' e1 e2 e3 => ?_⟩, fun y c e => ?_, I.free, I.freeC, fun p hp => ?_, tracked ⟨oL, hoL, I.free⟩ hs, by simpa using I.len⟩ ⟨_, hs, .inl rfl⟩
    · exact (hs.2 b (Nat.ne_of_lt (Nat.lt_of_lt_of_le (Heap.lt_size e) I.ok.above))).trans (I.base.keep b o e n hb hx)
    · obtain ⟨sl, e1⟩ := I.base.slot b o e n hb hx
      exact ⟨sl, (hs.2 b (Nat.ne_of_lt (Nat.lt_of_lt_of_le (Heap.lt_size e) I.ok.above))).trans e1⟩
    · obtain ⟨o', e1⟩ := I.base.there b o e hx
      exact ⟨o', (hs.2 b (Nat.ne_of_lt (Nat.lt_of_lt_of_le (Heap.lt_size e) I.ok.above))).trans e1⟩
    · by_cases hj : j = i
      · subst hj
        rw [hi] at e1; cases e1
        rw [List.getElem?_set_self hiσ] at e2
        cases e2
        exact ⟨u, r, .inl ⟨hk, by simp⟩⟩
      · rw [List.getElem?_set_ne (Ne.symm hj)] at e2
        obtain ⟨u', r', q⟩ := hl j y v' e1 e2 e3
        refine ⟨u', r', ?_⟩
        rcases q with ⟨k, e⟩ | ⟨k, c, e, z⟩
        · refine .inl ⟨k, ?_⟩
          have : y ≠ x := fun e => hj (nodup_ix hN e1 (e ▸ hi))
          simp [this, e]
        · exact .inr ⟨k, c, e, z.sameBut hs (cne y c e)⟩
    · obtain ⟨w', z⟩ := I.cell y c e
      exact ⟨w', z.sameBut hs (cne y c e)⟩
    · obtain ⟨e, n, ne, nf, d⟩ := I.pin p hp
      exact ⟨(hs.2 p.1 ne).trans e, n, ne, nf, d⟩
  · have hfn : X.fn x = true := by
      rcases hf with z | z
      · exact z
      · rw [z] at hk; cases hk
    obtain ⟨c, hc⟩ := I.ok.has x (.inl hk)
    obtain ⟨w', z⟩ := I.cell x c hc
    refine wpAny_storeName_cell I.ok.kind hk hc z (fun h' hc' hs => ?_)
    obtain ⟨oc, hoc, hocd⟩ := id z
    refine h { s with heap := h' } ⟨I.ok, I.os, I.bare, ⟨fun b o e n hb hx => ?_, fun b o e n hb hx => ?_, I.base.free, fun b o e hx => ?_, I.base.tups, I.base.frzs, I.base.tbls⟩, ⟨m, hn.sameBut hs (Ne.symm (cne x c hc)), fun j y v' e1 e2 e3 => ?_⟩, fun y c' e => ?_, I.free, I.freeC, fun p hp => ?_, tracked ⟨oc, hoc, I.freeC x c hc⟩ hs, by simpa using I.len⟩ ⟨c, hs, .inr hc⟩
    · exact (hs.2 b (Nat.ne_of_lt (Nat.lt_of_lt_of_le (Heap.lt_size e) (I.ok.cab x c hfn hc)))).trans (I.base.keep b o e n hb hx)
    · obtain ⟨sl, e1⟩ := I.base.slot b o e n hb hx
      exact ⟨sl, (hs.2 b (Nat.ne_of_lt (Nat.lt_of_lt_of_le (Heap.lt_size e) (I.ok.cab x c hfn hc)))).trans e1⟩
    · obtain ⟨o', e1⟩ := I.base.there b o e hx
      exact ⟨o', (hs.2 b (Nat.ne_of_lt (Nat.lt_of_lt_of_le (Heap.lt_size e) (I.ok.cab x c hfn hc)))).trans e1⟩
    · by_cases hj : j = i
      · subst hj
        rw [hi] at e1; cases e1
        rw [List.getElem?_set_self hiσ] at e2
        cases e2
        exact ⟨u, r, .inr ⟨.inl hk, c, hc, hc'⟩⟩
      · rw [List.getElem?_set_ne (Ne.symm hj)] at e2
        obtain ⟨u', r', q⟩ := hl j y v' e1 e2 e3
        refine ⟨u', r', ?_⟩
        rcases q with q | ⟨k, c', e, z'⟩
        · exact .inl q
        · refine .inr ⟨k, c', e, z'.sameBut hs ?_⟩
          rintro rfl
          exact hj (nodup_ix hN e1 (I.ok.inj _ _ _ e hc ▸ hi))
    · by_cases hcc : c' = c
      · subst hcc; exact ⟨_, hc'⟩
      · obtain ⟨w2, z2⟩ := I.cell y c' e
        exact ⟨w2, z2.sameBut hs hcc⟩
    · obtain ⟨e, n, ne, nf, d⟩ := I.pin p hp
      refine ⟨(hs.2 p.1 ?_).trans e, n, ne, nf, d⟩
      intro q
      rw [q, hoc] at e
      have q' : oc = p.2 := Option.some.inj e
      exact d w' (by rw [← q']; exact hocd)
theorem store_ok {M : Model} {A : Around} {E : Value → Shared → Prop} {i : Nat} {x : Str} {v : V} {u : Value} {Q : Unit → Shared → Prop} (I : Inv X pins σ H s) (hN : X.N.Nodup) (hi : X.N[i]? = some x) (hx : Loc X.env.scope x) (r : RelV v u)
    (h : ∀ s', Inv X pins (σ.set i (some v)) H s' → Q () s') (hf : X.fn x = true ∨ X.env.scope.names.lookup x = some .local := by first | exact .inl rfl | exact .inr rfl | assumption) : wpAny M A (storeName X.env x u) Q E s :=
  store_ok2 I hN hi hx r (fun s' I' _ => h s' I') hf
theorem Inv.call' {s' : Shared} {ch : List Addr} (I : Inv X pins σ H s) (ho : s'.os = s.os) (u : Un (frs X.stack) ch H H' s.heap s'.heap) (hok : HOk X.prog X.w H' s'.heap) (hg : AllBare s'.gens)
    (hch : ∀ b ∈ ch, (b ∈ X.ex ∨ X.s₀.heap.objs.size ≤ b) ∧ b ≠ X.env.locals ∧ (∀ x c, X.env.cells.lookup x = some c → c ≠ b) ∧ ∀ p ∈ X.pn ++ pins, p.1 ≠ b) : Inv X pins σ H' s' := by
  obtain ⟨h', g', d', t', o'⟩ := s'
  have e : o' = s.os := ho
  subst e
  exact I.call (g' := g') (t' := t') (d' := d') u hok hg hch
end
abbrev XK := Value → Option Addr → Hp → Prop
abbrev St := List (Option V)
abbrev VK := V → Hp → Prop
abbrev TE := St → Hp → VK → Prop
abbrev TT := St → Hp → (Bool → Hp → Prop) → Prop
abbrev TA := St → Hp → (List V → Hp → Prop) → Prop
structure Ends where
  nx : St → Hp → Prop
  rt : VK
  bk : St → Hp → Prop := fun _ _ => False
  ct : St → Hp → Prop := fun _ _ => False
abbrev TS := Ends → St → Hp → Prop
def EP (X : Cx) (pins : List (Addr × Obj)) (σ : St) (Q : VK) (u : Value) (s' : Shared) : Prop := ∃ v H', Inv X pins σ H' s' ∧ RelV v u ∧ Q v H'
def TP (X : Cx) (pins : List (Addr × Obj)) (σ : St) (Q : Bool → Hp → Prop) (b : Bool) (s' : Shared) : Prop := ∃ H', Inv X pins σ H' s' ∧ Q b H'
def AP (X : Cx) (pins : List (Addr × Obj)) (σ : St) (Q : List V → Hp → Prop) (us : List Value) (s' : Shared) : Prop := ∃ vs H', Inv X pins σ H' s' ∧ Vals vs us ∧ Q vs H'
def SP (X : Cx) (pins : List (Addr × Obj)) (D : Ends) (f : Flow) (s' : Shared) : Prop :=
  match f with
  | .next => ∃ σ' H', Inv X pins σ' H' s' ∧ D.nx σ' H'
  | .brk => ∃ σ' H', Inv X pins σ' H' s' ∧ D.bk σ' H'
  | .cont => ∃ σ' H', Inv X pins σ' H' s' ∧ D.ct σ' H'
  | .ret u => ∃ v σ' H', Inv X pins σ' H' s' ∧ RelV v u ∧ D.rt v H'
def PE (X : Cx) (e : Expr) (t : TE) : Prop :=
  ∀ (pins : List (Addr × Obj)) (s : Shared) (σ : St) (H : Hp) (Q : VK), Inv X pins σ H s → t σ H Q → wpAny (model X.prog X.w) X.A (eval e X.env) (EP X pins σ Q) X.xe s
def PT (X : Cx) (e : Expr) (t : TT) : Prop :=
  ∀ (pins : List (Addr × Obj)) (s : Shared) (σ : St) (H : Hp) (Q : Bool → Hp → Prop), Inv X pins σ H s → t σ H Q → wpAny (model X.prog X.w) X.A (isTrue e X.env (eval e X.env)) (TP X pins σ Q) X.xe s
def PW (X : Cx) (e : Expr) (t : TT) : Prop :=
  ∀ (whole : Sem Value) (pins : List (Addr × Obj)) (s : Shared) (σ : St) (H : Hp) (Q : Bool → Hp → Prop), Inv X pins σ H s → t σ H Q → wpAny (model X.prog X.w) X.A (isTrue e X.env whole) (TP X pins σ Q) X.xe s
theorem PW.pt {X : Cx} {e : Expr} {t : TT} (h : PW X e t) : PT X e t := h _
def PA (X : Cx) (es : List Expr) (t : TA) : Prop :=
  ∀ (pos : Pos) (pins : List (Addr × Obj)) (s : Shared) (σ : St) (H : Hp) (Q : List V → Hp → Prop), Inv X pins σ H s → t σ H Q → wpAny (model X.prog X.w) X.A (spliced (backTo pos (starEach es X.env))) (AP X pins σ Q) X.xe s
def PS (X : Cx) (st : Stmt) (t : TS) : Prop :=
  ∀ (pins : List (Addr × Obj)) (s : Shared) (σ : St) (H : Hp) (D : Ends), Inv X pins σ H s → t D σ H → wpAny (model X.prog X.w) X.A (exec st X.env) (SP X pins D) X.xe s
def PSs (X : Cx) (st : List Stmt) (t : TS) : Prop :=
  ∀ (pins : List (Addr × Obj)) (s : Shared) (σ : St) (H : Hp) (D : Ends), Inv X pins σ H s → t D σ H → wpAny (model X.prog X.w) X.A (execs st X.env) (SP X pins D) X.xe s
theorem thn {α : Type} {t : Sem α} {Q Q' : α → Shared → Prop} {M : Model} {A : Around} {E : Value → Shared → Prop} {s : Shared} (h : wpAny M A t Q E s) (hQ : ∀ a s, Q a s → Q' a s) : wpAny M A t Q' E s := wpAny_mono h hQ fun _ _ x => x
end L2
namespace L2
open PySem PySem.Spec PyProof.Rows
section
variable {X : Cx}
theorem bin {a b : Expr} {ta tb : TE} (ha : PE X a ta) (hb : PE X b tb) {pins : List (Addr × Obj)} {s : Shared} {σ : St} {H : Hp} {R : V → V → Hp → Prop} (I : Inv X pins σ H s) (h : ta σ H fun x H1 => tb σ H1 fun y H2 => R x y H2)
    {α : Type} {Q : α → Shared → Prop} {f : Value → Value → Sem α}
    (hf : ∀ v u s2 x y H2, Inv X pins σ H2 s2 → RelV x v → RelV y u → R x y H2 → wpAny (model X.prog X.w) X.A (f v u) Q X.xe s2) :
    wpAny (model X.prog X.w) X.A (eval a X.env) (fun v s₁ => wpAny (model X.prog X.w) X.A (eval b X.env) (fun u s₂ => wpAny (model X.prog X.w) X.A (f v u) Q X.xe s₂) X.xe s₁) X.xe s := by
  refine thn (ha pins s σ H _ I h) fun v s1 ⟨x, H1, I1, r1, q1⟩ => ?_
  refine thn (hb pins s1 σ H1 _ I1 q1) fun u s2 ⟨y, H2, I2, r2, q2⟩ => ?_
  exact hf v u s2 x y H2 I2 r1 r2 q2
def tVar (i : Nat) : TE := fun σ H Q => ∃ v, σ[i]? = some (some v) ∧ Q v H
def tC (v : V) : TE := fun _ H Q => Q v H
theorem pe_var {i : Nat} {x : Str} {pos : Pos} (hN : X.N[i]? = some x) (hv : Vis X.env.scope x) (hd : (x == ("__debug__" : Str)) = false := by decide) (hcd : (x == ("__classdict__" : Str)) = false := by decide) : PE X (.Name x pos) (tVar i) := by
  intro pins s σ H Q I h
  obtain ⟨v, e, h⟩ := h
  obtain ⟨m, hn, hl⟩ := I.loc
  obtain ⟨u, r, l⟩ := hl i x v hN e hv
  have fin : EP X pins σ Q u s := ⟨v, H, I, r, h⟩
  rcases l with ⟨hk, hm⟩ | ⟨hk, c, hc, hcell⟩
  · exact wpAny_Name (wpAny_loadName_local I.ok.kind hk hn hm fin) hd
  · rcases hk with hk | hk
    · exact wpAny_Name (wpAny_loadName_cell I.ok.kind hk hc hcell fin) hd
    · exact wpAny_Name (wpAny_loadName_free I.ok.kind hk hc hcell fin hcd) hd
theorem pe_int {i j pos} : PE X (.Constant (.int i) j pos) (tC (.int i)) := fun _ _ _ H _ I h => wpAny_Constant_int ⟨.int i, H, I.tok _, ⟨_, rfl⟩, h⟩
theorem pe_bl {b j pos} : PE X (.Constant (.bool b) j pos) (tC (.bl b)) := fun _ _ _ H _ I h => Constant_bool ⟨.bl b, H, I, rfl, h⟩
theorem pe_non {j pos} : PE X (.Constant .none j pos) (tC .non) := fun _ _ _ H _ I h => Constant_none ⟨.non, H, I, rfl, h⟩
theorem pe_str {x j pos} : PE X (.Constant (.str x) j pos) (tC (.str x)) := fun _ _ _ H _ I h => Calls.Constant_str ⟨.str x, H, I.tok _, ⟨_, rfl⟩, h⟩
def Gl (X : Cx) (x : Str) : Prop := X.env.kindOf x = some .globalImplicit
theorem ld_glob {E : Value → Shared → Prop} {pins : List (Addr × Obj)} {s : Shared} {σ : St} {H : Hp} {x : Str} {u : Value} {pos : Pos} {Q : Value → Shared → Prop} (I : Inv X pins σ H s) (hg : Gl X x) (hm : X.mg x = some u) (h : Q u s)
    (hd : (x == ("__debug__" : Str)) = false := by decide) : wpAny (model X.prog X.w) X.A (eval (.Name x pos) X.env) Q E s :=
  Calls.Name_function_global I.ok.kind hg (Calls.loadGlobal_global (by rw [I.ok.glob]; exact I.mod.glob.keeps I.bk) hm h) hd
theorem ld_blt {E : Value → Shared → Prop} {pins : List (Addr × Obj)} {s : Shared} {σ : St} {H : Hp} {x : Str} {u : Value} {pos : Pos} {Q : Value → Shared → Prop} (I : Inv X pins σ H s) (hg : Gl X x) (hm : X.mg x = none) (hv : bootBuiltins x = some u) (h : Q u s)
    (hn : x ≠ "__name__" := by decide) (hd : (x == ("__debug__" : Str)) = false := by decide) : wpAny (model X.prog X.w) X.A (eval (.Name x pos) X.env) Q E s := by
  obtain ⟨mb, h1, h2⟩ := I.mod.blt
  exact Calls.Name_function_global I.ok.kind hg (Calls.loadGlobal_builtin (by rw [I.ok.glob]; exact I.mod.glob.keeps I.bk) hm (by rw [I.ok.blt]; exact h1.keeps I.bk) ((h2 x hn).trans hv) h) hd
theorem pe_glob {x : Str} {v : V} {u : Value} {pos : Pos} (hg : Gl X x) (hm : X.mg x = some u) (r : RelV v u) (hd : (x == ("__debug__" : Str)) = false := by decide) : PE X (.Name x pos) (tC v) :=
  fun _ _ _ H _ I h => ld_glob I hg hm ⟨v, H, I, r, h⟩ hd
variable {a b : Expr} {ta tb : TE} {pos : Pos}
def PC (X : Cx) (op : CmpOp) (a b : Expr) (t : TE) : Prop :=
  ∀ (pins : List (Addr × Obj)) (s : Shared) (σ : St) (H : Hp) (Q : VK), Inv X pins σ H s → t σ H Q →
    wpAny (model X.prog X.w) X.A (eval a X.env) (fun v s₁ => wpAny (model X.prog X.w) X.A (eval b X.env) (fun u s₂ => wpAny (model X.prog X.w) X.A (compareOp op v u) (EP X pins σ Q) X.xe s₂) X.xe s₁) X.xe s
theorem nobehind (b : Expr) {op : CmpOp} (h : op ≠ .In) (h2 : op ≠ .NotIn) : behindInMarks op b = false := by
  have e1 : (op == CmpOp.In) = false := by cases op <;> first | rfl | exact absurd rfl h
  have e2 : (op == CmpOp.NotIn) = false := by cases op <;> first | rfl | exact absurd rfl h2
  cases b <;> simp [behindInMarks, e1, e2]
def tIsN (ta : TE) : TE := fun σ H Q => ta σ H fun x H1 => Q (.bl (decide (x = .non))) H1
def tNotN (ta : TE) : TE := fun σ H Q => ta σ H fun x H1 => Q (.bl (!decide (x = .non))) H1
theorem RelV.none_iff {x : V} {v : Value} (r : RelV x v) : (v == Value.none) = decide (x = .non) := by
  cases x with
  | non => cases r; rfl
  | bl _ => cases r; rfl
  | int _ => obtain ⟨t, rfl⟩ := r; rfl
  | str _ => obtain ⟨t, rfl⟩ := r; rfl
  | byt _ => obtain ⟨t, rfl⟩ := r; rfl
  | flt _ => obtain ⟨t, rfl⟩ := r; rfl
  | ref _ => cases r; rfl
  | ty _ => cases r; rfl
theorem pc_isN {j pos'} (ha : PE X a ta) : PC X .Is a (.Constant .none j pos') (tIsN ta) := by
  intro pins s σ H Q I h
  refine thn (ha pins s σ H _ I h) fun v s1 ⟨x, H1, I1, r1, q1⟩ => ?_
  exact Constant_none (is_none_gen ⟨.bl _, H1, I1, by rw [r1.none_iff]; rfl, q1⟩)
theorem pc_notN {j pos'} (ha : PE X a ta) : PC X .IsNot a (.Constant .none j pos') (tNotN ta) := by
  intro pins s σ H Q I h
  refine thn (ha pins s σ H _ I h) fun v s1 ⟨x, H1, I1, r1, q1⟩ => ?_
  exact Constant_none (isnot_none_gen ⟨.bl _, H1, I1, by rw [r1.none_iff]; rfl, q1⟩)
def tB (t : TE) : TT := fun σ H Q => t σ H fun x H1 => ∃ c, x = .bl c ∧ Q c H1
theorem pe_cmp {op : CmpOp} {t : TE} (h : PC X op a b t) (h1 : behindInMarks op b = false := by first | exact nobehind _ (by decide) (by decide) | rfl) : PE X (.Compare a [op] [b] pos) t := fun pins s σ H Q I hw => wpAny_Compare1 (h pins s σ H Q I hw) h1
theorem pt_cmp {op : CmpOp} {t : TE} (h : PC X op a b t) (h1 : behindInMarks op b = false := by first | exact nobehind _ (by decide) (by decide) | rfl) : PT X (.Compare a [op] [b] pos) (tB t) := by
  intro pins s σ H Q I hw
  refine wpAny_isTrue_Compare1 (thn (h pins s σ H _ I hw) fun v s1 h1 => thn h1 fun u s2 h2 => thn h2 fun c s3 ⟨x, H1, I1, r1, q1⟩ => ?_) h1
  obtain ⟨d, rfl, q⟩ := q1
  cases r1
  exact wpAny_truthy_bool ⟨H1, I1, q⟩
theorem pt_val {e : Expr} {t : TE} (h : PE X e t) (he : ∀ whole, isTrue e X.env whole = (do let v ← whole; standAt e.pos; holding [v] (truthy v)) := by intro _; rfl) : PT X e (tB t) := by
  intro pins s σ H Q I hw
  refine isTrue_plain (thn (h pins s σ H _ I hw) fun v s1 ⟨x, H1, I1, r1, q1⟩ => ?_) (he _)
  obtain ⟨d, rfl, q⟩ := q1
  cases r1
  exact wpAny_truthy_bool ⟨H1, I1, q⟩
variable {tA tB' : TT} {rest : List Expr}
def tAnd (t u : TT) : TT := fun σ H Q => t σ H fun c H1 => if c = true then u σ H1 Q else Q false H1
def tOr (t u : TT) : TT := fun σ H Q => t σ H fun c H1 => if c = true then Q true H1 else u σ H1 Q
def tNot (t : TT) : TT := fun σ H Q => t σ H fun c H1 => Q (!c) H1
theorem pw_and1 (ha : PT X a tA) : PW X (.BoolOp .And [a] pos) tA := by
  intro wh pins s σ H Q I h
  refine isTrue_and (thn (ha pins s σ H Q I h) fun c s1 e => ?_)
  cases c with
  | true => exact isTrue_and_nil e
  | false => exact e
theorem pw_or1 (ha : PT X a tA) : PW X (.BoolOp .Or [a] pos) tA := by
  intro wh pins s σ H Q I h
  refine isTrue_or (thn (ha pins s σ H Q I h) fun c s1 e => ?_)
  cases c with
  | false => exact isTrue_or_nil e
  | true => exact e
theorem pw_and (ha : PT X a tA) (hb : PW X (.BoolOp .And (b :: rest) pos) tB') : PW X (.BoolOp .And (a :: b :: rest) pos) (tAnd tA tB') := by
  intro wh pins s σ H Q I h
  refine isTrue_and (thn (ha pins s σ H _ I h) fun c s1 ⟨H1, I1, q1⟩ => ?_)
  cases c with
  | true => exact hb wh pins s1 σ H1 Q I1 q1
  | false => exact ⟨H1, I1, q1⟩
theorem pw_or (ha : PT X a tA) (hb : PW X (.BoolOp .Or (b :: rest) pos) tB') : PW X (.BoolOp .Or (a :: b :: rest) pos) (tOr tA tB') := by
  intro wh pins s σ H Q I h
  refine isTrue_or (thn (ha pins s σ H _ I h) fun c s1 ⟨H1, I1, q1⟩ => ?_)
  cases c with
  | true => exact ⟨H1, I1, q1⟩
  | false => exact hb wh pins s1 σ H1 Q I1 q1
theorem pt_not (ha : PT X a tA) : PT X (.UnaryOp .Not a pos) (tNot tA) := by
  intro pins s σ H Q I h
  exact isTrue_not (ha pins s σ H (fun c H1 => Q (!c) H1) I h)
def tAndV (ta tb : TE) : TE := fun σ H Q => ta σ H fun x H1 => ∃ c, x = .bl c ∧ if c = true then tb σ H1 Q else Q (.bl false) H1
def tNotV (ta : TE) : TE := fun σ H Q => ta σ H fun x H1 => ∃ c, x = .bl c ∧ Q (.bl (!c)) H1
theorem pe_one {op} {t : TE} (h : PE X a t) : PE X (.BoolOp op [a] pos) t := fun pins s σ H Q I hw => BoolOp_one (h pins s σ H Q I hw)
theorem pe_and (ha : PE X a ta) (hb : PE X (.BoolOp .And (b :: rest) pos) tb) : PE X (.BoolOp .And (a :: b :: rest) pos) (tAndV ta tb) := by
  intro pins s σ H Q I h
  refine BoolOp_and (thn (ha pins s σ H _ I h) fun v s1 ⟨x, H1, I1, r1, q1⟩ => ?_)
  obtain ⟨c, rfl, q1⟩ := q1
  cases r1
  refine wpAny_truthy_bool ?_
  cases c with
  | true => exact hb pins s1 σ H1 Q I1 q1
  | false => exact ⟨.bl false, H1, I1, rfl, q1⟩
theorem pe_not (ha : PE X a ta) : PE X (.UnaryOp .Not a pos) (tNotV ta) := by
  intro pins s σ H Q I h
  refine UnaryOp_ (thn (ha pins s σ H _ I h) fun v s1 ⟨x, H1, I1, r1, q1⟩ => ?_)
  obtain ⟨c, rfl, q1⟩ := q1
  cases r1
  exact not_of (wpAny_truthy_bool ⟨.bl (!c), H1, I1, rfl, q1⟩)
def tIf (t : TT) (ta tb : TE) : TE := fun σ H Q => t σ H fun c H1 => if c = true then ta σ H1 Q else tb σ H1 Q
theorem pe_ifExp {c : Expr} (hc : PT X c tA) (ha : PE X a ta) (hb : PE X b tb) : PE X (.IfExp c a b pos) (tIf tA ta tb) := by
  intro pins s σ H Q I h
  refine wpAny_IfExp (thn (hc pins s σ H _ I h) fun d s1 ⟨H1, I1, q1⟩ => ?_)
  cases d with
  | true => exact ha pins s1 σ H1 Q I1 q1
  | false => exact hb pins s1 σ H1 Q I1 q1
end
end L2
namespace L2
open PySem PySem.Spec PyProof.Rows
def SqL (K : PySem.W.Frag) (H : Hp) (a : Addr) (xs : List V) : Prop :=
  Rd H a (.lst xs) ∨
    ∃ (o : Obj) (its : Array Value) (n : Nat), K.lookup a = some o ∧ o.cls = .type "list" ∧ o.dict = none ∧ o.data = .seq its n ∧ its.size ≤ sizeLine ∧ Vals xs its.toList
def SqT (K : PySem.W.Frag) (H : Hp) (a : Addr) (xs : List V) : Prop :=
  Rd H a (.tup xs) ∨
    ∃ (o : Obj) (its : Array Value) (n : Nat), K.lookup a = some o ∧ o.cls = .type "tuple" ∧ o.data = .seq its n ∧ its.size ≤ sizeLine ∧ Vals xs its.toList
def absV : Value → Option V
  | .none => some .non
  | .bool b => some (.bl b)
  | .int i _ => some (.int i)
  | .str x _ => some (.str x)
  | .bytes b _ => some (.byt b)
  | .float b _ => some (.flt b)
  | .ref a => some (.ref a)
  | .type n => some (.ty n)
  | _ => none
theorem RelV.abs {x : V} {u : Value} (r : RelV x u) : absV u = some x := by
  cases x with
  | non => cases r; rfl
  | bl _ => cases r; rfl
  | int _ => obtain ⟨t, rfl⟩ := r; rfl
  | str _ => obtain ⟨t, rfl⟩ := r; rfl
  | byt _ => obtain ⟨t, rfl⟩ := r; rfl
  | flt _ => obtain ⟨t, rfl⟩ := r; rfl
  | ref _ => cases r; rfl
  | ty _ => cases r; rfl
theorem RelV.inj {x y : V} {u : Value} (r : RelV x u) (q : RelV y u) : x = y := Option.some.inj (r.abs.symm.trans q.abs)
theorem Vals.inj : ∀ {xs ys : List V} {us : List Value}, Vals xs us → Vals ys us → xs = ys
  | _, _, _, .nil, .nil => rfl
  | _, _, _, .cons r t, .cons r' t' => by rw [r.inj r', Vals.inj t t']
section
variable {X : Cx} {pins : List (Addr × Obj)} {σ : St} {H : Hp} {s : Shared} {a : Addr} {xs ys : List V}
theorem SqL.of {K : PySem.W.Frag} (h : H a = some (.lst xs)) : SqL K H a xs := .inl (.inl h)
theorem SqT.of {K : PySem.W.Frag} (h : H a = some (.tup xs)) : SqT K H a xs := .inl (.inl h)
theorem Inv.list (I : Inv X pins σ H s) (h : SqL X.K H a xs) : ∃ its : List Value, Vals xs its ∧ PlainL s.heap a its.toArray ∧ xs.length ≤ sizeLine := by
  rcases h with h | ⟨o, its, n, hk, hc, hd, hs, hz, r⟩
  · obtain ⟨z, its, n, r, e⟩ := h.ok I.hok
    exact ⟨its, r, ⟨_, n, e, rfl, rfl, rfl⟩, z⟩
  · refine ⟨its.toList, r, ⟨o, n, I.kIn a o hk, hc, hd, by simpa using hs⟩, ?_⟩
    have e := r.length
    simp only [Array.length_toList] at e
    omega
theorem Inv.tuple (I : Inv X pins σ H s) (h : SqT X.K H a xs) : ∃ its : List Value, Vals xs its ∧ IsTup s.heap a its.toArray ∧ xs.length ≤ sizeLine := by
  rcases h with h | ⟨o, its, n, hk, hc, hs, hz, r⟩
  · obtain ⟨z, its, r, p⟩ := h.ok I.hok
    exact ⟨its, r, p, z⟩
  · refine ⟨its.toList, r, ⟨o, I.kIn a o hk, hc, n, by simpa using hs⟩, ?_⟩
    have e := r.length
    simp only [Array.length_toList] at e
    omega
theorem Inv.list_inj (I : Inv X pins σ H s) (h : SqL X.K H a xs) (h' : SqL X.K H a ys) : xs = ys := by
  obtain ⟨its, r, ⟨o, n, e, _, _, d⟩, _⟩ := I.list h
  obtain ⟨its', r', ⟨o', n', e', _, _, d'⟩, _⟩ := I.list h'
  rw [e] at e'; cases e'
  rw [d] at d'
  injection d' with d1 _
  have : its = its' := by simpa using congrArg Array.toList d1
  subst this
  exact r.inj r'
end
abbrev Cx.wish (X : Cx) (E : Value → Shared → Prop) : Cx := { X with xe := E }
abbrev Cx.nox (X : Cx) : Cx := X.wish fun _ _ => False
theorem Cx.Ok.wish {X : Cx} (ok : X.Ok) (E : Value → Shared → Prop) : (X.wish E).Ok :=
  ⟨ok.mod, ok.kind, ok.glob, ok.blt, ok.above, ok.inj, ok.has, ok.cab, ok.hd, ok.frames, ok.stk, ok.exf, ok.bs, ok.bsz, ok.noex, ok.exfs, ok.funs, ok.frf⟩
theorem Cx.Ok.unwish {X : Cx} {E : Value → Shared → Prop} (ok : (X.wish E).Ok) : X.Ok :=
  ⟨ok.mod, ok.kind, ok.glob, ok.blt, ok.above, ok.inj, ok.has, ok.cab, ok.hd, ok.frames, ok.stk, ok.exf, ok.bs, ok.bsz, ok.noex, ok.exfs, ok.funs, ok.frf⟩
section
variable {X : Cx} {pins : List (Addr × Obj)} {σ : St} {H : Hp} {s : Shared} {E : Value → Shared → Prop}
theorem Inv.wish (I : Inv X pins σ H s) (E : Value → Shared → Prop) : Inv (X.wish E) pins σ H s := ⟨I.ok.wish E, I.os, I.bare, I.base, I.loc, I.cell, I.free, I.freeC, I.pin, I.hok, I.len⟩
theorem Inv.unwish (I : Inv (X.wish E) pins σ H s) : Inv X pins σ H s := ⟨I.ok.unwish, I.os, I.bare, I.base, I.loc, I.cell, I.free, I.freeC, I.pin, I.hok, I.len⟩
theorem SP.unwish {D : Ends} {f : Flow} {s' : Shared} (h : SP (X.wish E) pins D f s') : SP X pins D f s' := by
  cases f with
  | next => obtain ⟨σ', H', I, q⟩ := h; exact ⟨σ', H', I.unwish, q⟩
  | brk => obtain ⟨σ', H', I, q⟩ := h; exact ⟨σ', H', I.unwish, q⟩
  | cont => obtain ⟨σ', H', I, q⟩ := h; exact ⟨σ', H', I.unwish, q⟩
  | ret u => obtain ⟨v, σ', H', I, r, q⟩ := h; exact ⟨v, σ', H', I.unwish, r, q⟩
theorem PSs.nox {st : List Stmt} {t : TS} (h : PSs X.nox st t) : PSs X st t := fun pins s σ H D I hw =>
  wpAny_mono (h pins s σ H D (I.wish _) hw) (fun _ _ q => q.unwish) fun _ _ z => False.elim z
end
section
variable {X : Cx} {st : Stmt} {rest : List Stmt} {t u : TS} {e : Expr} {te : TE} {pos : Pos}
def tNext : TS := fun D σ H => D.nx σ H
def tSeq (t u : TS) : TS := fun D σ H => t { D with nx := u D } σ H
theorem pss_nil : PSs X [] tNext := fun _ _ σ H _ I h => wpAny_execs_nil ⟨σ, H, I, h⟩
theorem pss_cons (h1 : PS X st t) (h2 : PSs X rest u) : PSs X (st :: rest) (tSeq t u) := by
  intro pins s σ H D I h
  refine wpAny_execs_cons (thn (h1 pins s σ H { D with nx := u D } I h) fun f s1 q => ?_)
  cases f with
  | next =>
    obtain ⟨σ', H', I', q⟩ := q
    exact h2 pins s1 σ' H' D I' q
  | ret v => exact q
  | brk => exact q
  | cont => exact q
theorem pss_one (h1 : PS X st t) : PSs X [st] t := by
  intro pins s σ H D I h
  refine wpAny_execs_cons (thn (h1 pins s σ H D I h) fun f s1 q => ?_)
  cases f with
  | next => exact wpAny_execs_nil q
  | ret v => exact q
  | brk => exact q
  | cont => exact q
theorem Inv.quiet {pins : List (Addr × Obj)} {σ : St} {H : Hp} {s : Shared} (I : Inv X pins σ H s) : interactive X.env = false := by simp [interactive, I.ok.kind]
def tDrop (te : TE) : TS := fun D σ H => te σ H fun _ H1 => D.nx σ H1
theorem ps_expr (he : PE X e te) (hs : swapsWith e none pos.line X.env = pure false := by rfl) : PS X (.Expr e pos) (tDrop te) := by
  intro pins s σ H D I h
  exact wpAny_Expr_any (thn (he pins s σ H _ I h) fun v s1 ⟨x, H1, I1, r1, q1⟩ => ⟨σ, H1, I1, q1⟩) I.quiet hs
def tRet (te : TE) : TS := fun D σ H => te σ H D.rt
theorem ps_ret (he : PE X e te) : PS X (.Return (some e) pos) (tRet te) := by
  intro pins s σ H D I h
  exact wpAny_Return_some (thn (he pins s σ H _ I h) fun v s1 ⟨x, H1, I1, r1, q1⟩ => ⟨x, σ, H1, I1, r1, q1⟩)
def tIfS (c : TT) (t u : TS) : TS := fun D σ H => c σ H fun b H1 => if b = true then t D σ H1 else u D σ H1
theorem ps_if {c : Expr} {a b : List Stmt} {tc : TT} (hc : PT X c tc) (ha : PSs X a t) (hb : PSs X b u) : PS X (.If c a b pos) (tIfS tc t u) := by
  intro pins s σ H D I h
  refine wpAny_If (thn (hc pins s σ H _ I h) fun d s1 ⟨H1, I1, q1⟩ => ?_)
  cases d with
  | true => exact ha pins s1 σ H1 D I1 q1
  | false => exact hb pins s1 σ H1 D I1 q1
end
abbrev TG := V → St → Hp → (St → Hp → Prop) → Prop
abbrev TGs := List V → St → Hp → (St → Hp → Prop) → Prop
def PG (X : Cx) (target : Expr) (t : TG) : Prop :=
  ∀ (pins : List (Addr × Obj)) (s : Shared) (σ : St) (H : Hp) (v : V) (u : Value) (Q : St → Hp → Prop), Inv X pins σ H s → RelV v u → t v σ H Q →
    wpAny (model X.prog X.w) X.A (assign target X.env u) (fun _ s' => ∃ σ' H', Inv X pins σ' H' s' ∧ Q σ' H') X.xe s
def PGs (X : Cx) (ts : List Expr) (t : TGs) : Prop :=
  ∀ (pins : List (Addr × Obj)) (s : Shared) (σ : St) (H : Hp) (vs : List V) (us : List Value) (Q : St → Hp → Prop), Inv X pins σ H s → Vals vs us → t vs σ H Q →
    wpAny (model X.prog X.w) X.A (assignInOrder ((assignEach ts X.env).map (·.2)) us) (fun _ s' => ∃ σ' H', Inv X pins σ' H' s' ∧ Q σ' H') X.xe s
abbrev TSet := V → V → V → Hp → (Hp → Prop) → Prop
def PSet (X : Cx) (t : TSet) : Prop :=
  ∀ (pins : List (Addr × Obj)) (s : Shared) (σ : St) (H : Hp) (o i v : V) (ov iv u : Value) (Q : Hp → Prop), Inv X pins σ H s → RelV o ov → RelV i iv → RelV v u → t o i v H Q →
    wpAny (model X.prog X.w) X.A (setItem ov iv u) (fun _ s' => ∃ H', Inv X pins σ H' s' ∧ Q H') X.xe s
abbrev TIp := V → V → Hp → VK → Prop
def PIp (X : Cx) (op : Operator) (t : TIp) : Prop :=
  ∀ (pins : List (Addr × Obj)) (s : Shared) (σ : St) (H : Hp) (x y : V) (v u : Value) (Q : VK), Inv X pins σ H s → RelV x v → RelV y u → t x y H Q →
    wpAny (model X.prog X.w) X.A (inplaceOp op v u) (EP X pins σ Q) X.xe s
section
variable {X : Cx} {pos : Pos}
def gName (i : Nat) : TG := fun v σ H Q => Q (σ.set i (some v)) H
theorem pg_name {i : Nat} {x : Str} (hN : X.N.Nodup) (hi : X.N[i]? = some x) (hx : Loc X.env.scope x) (hf : X.fn x = true ∨ X.env.scope.names.lookup x = some .local := by first | exact .inl rfl | exact .inr rfl | assumption) : PG X (.Name x pos) (gName i) := by
  intro pins s σ H v u Q I r h
  exact wpAny_assign_Name (store_ok I hN hi hx r (fun s' I' => ⟨_, H, I', h⟩) hf)
def gNil : TGs := fun vs σ H Q => vs = [] ∧ Q σ H
def gCons (t : TG) (u : TGs) : TGs := fun vs σ H Q => ∃ v r, vs = v :: r ∧ t v σ H fun σ' H' => u r σ' H' Q
theorem pgs_nil : PGs X [] gNil := by
  intro pins s σ H vs us Q I r h
  obtain ⟨e, h⟩ := h
  subst e
  cases r
  exact assignInOrder_nil ⟨σ, H, I, h⟩
theorem pgs_cons {e : Expr} {es : List Expr} {t : TG} {u : TGs} (h1 : PG X e t) (h2 : PGs X es u)
    (hs : (assignEach (e :: es) X.env).map (·.2) = assign e X.env :: (assignEach es X.env).map (·.2) := by rfl) : PGs X (e :: es) (gCons t u) := by
  intro pins s σ H vs us Q I r h
  obtain ⟨v, vr, e1, h⟩ := h
  subst e1
  cases r with
  | cons r rr =>
    rw [hs]
    refine assignInOrder_cons (thn (h1 pins s σ H _ _ _ I r h) fun _ s1 ⟨σ1, H1, I1, q1⟩ => ?_)
    exact h2 pins s1 σ1 H1 _ _ Q I1 rr q1
def gTup (K : PySem.W.Frag) (n : Nat) (t : TGs) : TG := fun v σ H Q => ∃ a xs, v = .ref a ∧ SqT K H a xs ∧ xs.length = n ∧ t xs σ H Q
theorem pg_tup {es : List Expr} {k : Nat} {t : TGs} {n : Nat} (hc : X.calm = true) (h : PGs X es t)
    (hn : (assignEach es X.env).length = n := by rfl) (hst : (assignEach es X.env).findIdx? (·.1) = none := by rfl) : PG X (.Tuple es k pos) (gTup X.K n t) := by
  intro pins s σ H v u Q I r hw
  obtain ⟨a, xs, e1, hq, hl, hw⟩ := hw
  subst e1
  cases r
  obtain ⟨its, rv, ht, hz⟩ := I.tuple hq
  refine assign_Tuple_tuple (I.ok.hd hc) ht (by simp [hn, ← hl, rv.length]) hst fun h' hx => ?_
  have I1 : Inv X pins σ H { s with heap := h' } := I.kept (t' := s.toks) fun b o e => hx b o (Nat.ne_of_lt (Heap.lt_size e)) e
  exact h pins _ σ H xs _ Q I1 (by simpa using rv) hw
def gSub (to ti : TE) (t : TSet) : TG := fun v σ H Q => to σ H fun o H1 => ti σ H1 fun i H2 => t o i v H2 fun H3 => Q σ H3
theorem pg_sub {o i : Expr} {to ti : TE} {t : TSet} (ho : PE X o to) (hi : PE X i ti) (hs : PSet X t)
    (ha : ∀ v, assign (.Subscript o i pos) X.env v = (do
      let ov ← holding [v] (eval o X.env)
      let iv ← holding [v, ov] (eval i X.env)
      standAt pos
      holding [v, ov, iv] (setItem ov iv v)
      release [v, ov, iv] []) := by intro _; rfl) : PG X (.Subscript o i pos) (gSub to ti t) := by
  intro pins s σ H v u Q I r h
  rw [ha]
  refine wpAny_bind (wpAny_holding (thn (ho pins s σ H _ I h) fun ov s1 ⟨x, H1, I1, r1, q1⟩ => ?_))
  refine wpAny_bind (wpAny_holding (thn (hi pins s1 σ H1 _ I1 q1) fun iv s2 ⟨y, H2, I2, r2, q2⟩ => ?_))
  refine wpAny_bind (wpAny_standAt (wpAny_bind (wpAny_holding (thn (hs pins s2 σ H2 x y v ov iv u _ I2 r1 r2 r q2) fun _ s3 ⟨H3, I3, q3⟩ => ?_))))
  exact wpAny_release ⟨σ, H3, I3, q3⟩
def tAsg (te : TE) (g : TG) : TS := fun D σ H => te σ H fun x H1 => g x σ H1 D.nx
theorem ps_asg {tg e : Expr} {te : TE} {g : TG} (he : PE X e te) (hg : PG X tg g) (hs : swapsWithSole [tg] e pos.line X.env = pure false := by rfl) (hw : swappedStores [tg] e X.env = pure none := by rfl)
    (h1 : (assignEach [tg] X.env).map (·.2) = [assign tg X.env] := by rfl) : PS X (.Assign [tg] e pos) (tAsg te g) := by
  intro pins s σ H D I h
  refine wpAny_Assign_stores (thn (he pins s σ H _ I h) fun v s1 ⟨x, H1, I1, r1, q1⟩ => ?_) hs hw
  rw [h1]
  exact thn (hg pins s1 σ H1 x v _ I1 r1 q1) fun _ s2 q => q
theorem ps_set {i : Nat} {x : Str} {e : Expr} {te : TE} {pos' : Pos} (hN : X.N.Nodup) (hi : X.N[i]? = some x) (hx : Loc X.env.scope x) (he : PE X e te) (hs : swapsWith e (some (.Name x pos')) pos.line X.env = pure false := by rfl) (hf : X.fn x = true ∨ X.env.scope.names.lookup x = some .local := by first | exact .inl rfl | exact .inr rfl | assumption) :
    PS X (.Assign [.Name x pos'] e pos) (tAsg te (gName i)) := by
  intro pins s σ H D I h
  refine wpAny_Assign_Name (thn (he pins s σ H _ I h) fun v s1 ⟨y, H1, I1, r1, q1⟩ => ?_) hs
  exact store_ok I1 hN hi hx r1 (fun s2 I2 => ⟨_, H1, I2, q1⟩) hf
def tAug (i : Nat) (te : TE) (ti : TIp) : TS := fun D σ H => ∃ x, σ[i]? = some (some x) ∧ te σ H fun y H1 => ti x y H1 fun z H2 => D.nx (σ.set i (some z)) H2
theorem ps_aug {i : Nat} {x : Str} {e : Expr} {te : TE} {op : Operator} {ti : TIp} {pos' : Pos} (hN : X.N.Nodup) (hi : X.N[i]? = some x) (hx : Loc X.env.scope x) (he : PE X e te) (ho : PIp X op ti) (hf : X.fn x = true ∨ X.env.scope.names.lookup x = some .local := by first | exact .inl rfl | exact .inr rfl | assumption) :
    PS X (.AugAssign (.Name x pos') op e pos) (tAug i te ti) := by
  intro pins s σ H D I h
  obtain ⟨v, e1, h⟩ := h
  obtain ⟨m, hn, hl⟩ := I.loc
  have vis : Vis X.env.scope x := by rcases hx with k | k; exact .inl k; exact .inr (.inl k)
  obtain ⟨u, r, l⟩ := hl i x v hi e1 vis
  refine wpAny_AugAssign_Name ?_
  have go : wpAny (model X.prog X.w) X.A (eval e X.env) (fun w s₂ => wpAny (model X.prog X.w) X.A (inplaceOp op u w) (fun r s₃ => wpAny (model X.prog X.w) X.A (storeName X.env x r) (fun _ => SP X pins D .next) X.xe s₃) X.xe s₂) X.xe s := by
    refine thn (he pins s σ H _ I h) fun w s1 ⟨y, H1, I1, r1, q1⟩ => ?_
    refine thn (ho pins s1 σ H1 v y u w _ I1 r r1 q1) fun z s2 ⟨zv, H2, I2, r2, q2⟩ => ?_
    exact store_ok I2 hN hi hx r2 (fun s3 I3 => ⟨_, H2, I3, q2⟩) hf
  rcases l with ⟨hk, hm⟩ | ⟨hk, c, hc, hcell⟩
  · exact wpAny_loadName_local I.ok.kind hk hn hm go
  · rcases hk with hk | hk
    · exact wpAny_loadName_cell I.ok.kind hk hc hcell go
    · rcases hx with k | k
      · have : X.env.scope.names.lookup x = some .free := hk
        rw [k] at this; cases this
      · have : X.env.scope.names.lookup x = some .free := hk
        rw [k] at this; cases this
def ipI (f : Int → Int → Int) : TIp := fun x y H Q => ∃ i j, x = .int i ∧ y = .int j ∧ Q (.int (f i j)) H
theorem ip_add : PIp X .Add (ipI fun i j => i + j) := by
  intro pins s σ H x y v u Q I r1 r2 h
  obtain ⟨i, j, e1, e2, q⟩ := h
  subst e1; subst e2
  obtain ⟨t, rfl⟩ := r1
  obtain ⟨t', rfl⟩ := r2
  exact iadd_int ⟨.int _, H, I.tok _, ⟨_, rfl⟩, q⟩
end
section
variable {X : Cx} {pos : Pos}
def tWhile (c : TT) (tb : TS) : TS := fun D σ H => ∃ W : Nat → St → Hp → Prop, (∃ m, W m σ H) ∧ ∀ m σ H, W m σ H →
  c σ H fun b H1 => if b = true then ∃ N : St → Hp → Prop, (∀ σ' H', N σ' H' → ∃ m', m' < m ∧ W m' σ' H') ∧ tb { D with nx := N, ct := N, bk := D.nx } σ H1 else D.nx σ H1
theorem ps_while {c : Expr} {body : List Stmt} {tc : TT} {tb : TS} (hp : PassesOwn (model X.prog X.w) X.A X.env X.xe) (hc : PT X c tc) (hb : PSs X body tb) : PS X (.While c body [] pos) (tWhile tc tb) := by
  intro pins s σ H D I h
  obtain ⟨W, ⟨m0, w0⟩, turn⟩ := h
  refine wpAny_While (codeAny_whileLoop (fun n s' => ∃ σ' H', Inv X pins σ' H' s' ∧ W n σ' H') ?_ m0 ⟨σ, H, I, w0⟩)
  rintro n s1 ⟨σ1, H1, I1, w1⟩
  refine wpAny_passesOwn hp (thn (hc pins s1 σ1 H1 _ I1 (turn n σ1 H1 w1)) fun b s2 ⟨H2, I2, q2⟩ => ?_)
  cases b with
  | true =>
    obtain ⟨N, hN, q2⟩ := q2
    rw [if_pos rfl]
    refine wpAny_passesOwn hp (thn (hb pins s2 σ1 H2 _ I2 q2) fun f s3 q3 => ?_)
    cases f with
    | next =>
      obtain ⟨σ3, H3, I3, n3⟩ := q3
      obtain ⟨m', hm, w3⟩ := hN σ3 H3 n3
      exact ⟨m', hm, σ3, H3, I3, w3⟩
    | cont =>
      obtain ⟨σ3, H3, I3, n3⟩ := q3
      obtain ⟨m', hm, w3⟩ := hN σ3 H3 n3
      exact ⟨m', hm, σ3, H3, I3, w3⟩
    | brk => exact q3
    | ret v => exact q3
  | false =>
    rw [if_neg Bool.false_ne_true]
    exact wpAny_execs_nil ⟨σ1, H2, I2, q2⟩
end
structure It where
  go : Nat → Hp → Prop
  yld : Nat → Hp → V → Hp → Prop
  stop : Nat → Hp → Prop
def FpOk (X : Cx) (pins : List (Addr × Obj)) (H : Hp) (b : Addr) : Prop :=
  H b = none ∧ b ≠ X.env.locals ∧ b ∉ X.fs ∧ (b ∈ X.ex ∨ X.s₀.heap.objs.size ≤ b) ∧ (∀ x c, X.env.cells.lookup x = some c → c ≠ b) ∧ ∀ p ∈ X.pn ++ pins, p.1 ≠ b
theorem Inv.fpOk {X : Cx} {pins : List (Addr × Obj)} {σ : St} {H H' : Hp} {s : Shared} {b : Addr} (I : Inv X pins σ H s) (hb : s.heap.objs.size ≤ b) (hn : H' b = none) : FpOk X pins H' b := by
  refine ⟨hn, Nat.ne_of_gt (Nat.lt_of_lt_of_le I.lt hb), I.nofs hb, .inr (Nat.le_trans I.sz hb), fun x c e z => ?_, fun p hp z => ?_⟩
  · obtain ⟨v, q⟩ := I.cell x c e
    exact absurd (Nat.lt_of_lt_of_le q.lt (by rw [z]; exact hb)) (Nat.lt_irrefl _)
  · exact absurd (Nat.lt_of_lt_of_le (Heap.lt_size (I.pin p hp).1) (by rw [z]; exact hb)) (Nat.lt_irrefl _)
structure Turn (P : Program) (w : World) (K : PySem.W.Frag) (tg : Expr) (J : It) (fp : List Addr) (it : Addr) (tn : Nat → Heap → Prop) : Prop where
  mem : it ∈ fp
  obj : ∀ i h, tn i h → ∀ b ∈ fp, ∃ o, h.get? b = some o ∧ ∀ v, o.data ≠ .cell v
  keep : ∀ i h h', tn i h → (∀ b ∈ fp, ∀ o, h.get? b = some o → h'.get? b = some o) → tn i h'
  item : ∀ (X : Cx), X.prog = P → X.w = w → X.K = K → X.calm = true → ∀ (i : Nat) (pins : List (Addr × Obj)) (s : Shared) (σ : St) (H : Hp) (E : Value → Shared → Prop), Inv X pins σ H s → (∀ b ∈ fp, FpOk X pins H b) → tn i s.heap → J.go i H →
    wpAny (model P w) X.A (pyNext (.ref it)) (fun r s1 => ∃ u, r = some u ∧
      wpAny (model P w) X.A (letOwnedTupleGo tg (.ref it) u) (fun _ s2 => ∃ x H', Inv X pins σ H' s2 ∧ RelV x u ∧ J.yld i H x H' ∧ tn (i + 1) s2.heap ∧ ∀ b ∈ fp, H' b = none) E s1) E s
  done : ∀ (X : Cx), X.prog = P → X.w = w → X.K = K → X.calm = true → ∀ (i : Nat) (pins : List (Addr × Obj)) (s : Shared) (σ : St) (H : Hp) (E : Value → Shared → Prop), Inv X pins σ H s → (∀ b ∈ fp, FpOk X pins H b) → tn i s.heap → J.stop i H →
    wpAny (model P w) X.A (pyNext (.ref it)) (fun r s1 => r = none ∧ Inv X pins σ H s1) E s
  self : ∀ (A : Around) (i : Nat) (s : Shared) (Q : Value → Shared → Prop) (E : Value → Shared → Prop), tn i s.heap → Q (.ref it) s → wpAny (model P w) A (pyIter (.ref it)) Q E s
abbrev TI := St → Hp → (It → Hp → Prop) → Prop
def PIE (X : Cx) (pins : List (Addr × Obj)) (σ : St) (tg : Expr) (R : It → Hp → Prop) (itv : Value) (s2 : Shared) : Prop :=
  ∃ (it : Addr) (fp : List Addr) (tn : Nat → Heap → Prop) (J : It) (H' : Hp), itv = .ref it ∧ Inv X pins σ H' s2 ∧ Turn X.prog X.w X.K tg J fp it tn ∧ tn 0 s2.heap ∧ (∀ b ∈ fp, FpOk X pins H' b) ∧ R J H'
def PI (X : Cx) (tg iter : Expr) (wi : TI) : Prop :=
  ∀ (pins : List (Addr × Obj)) (s : Shared) (σ : St) (H : Hp) (R : It → Hp → Prop), Inv X pins σ H s → wi σ H R →
    wpAny (model X.prog X.w) X.A (eval iter X.env) (fun v s1 => wpAny (model X.prog X.w) X.A (pyIter v) (PIE X pins σ tg R) X.xe s1) X.xe s
theorem go_of {M : Model} {A : Around} {E : Value → Shared → Prop} {s : Shared} {tg : Expr} {it : Addr} {u : Value} {o : Obj} {n : String} {vs : Array Value} {Q : Unit → Shared → Prop} (ho : s.heap.get? it = some o) (hc : o.cls = .type n) (hd : o.data = .fields vs)
    (hn : ["enumerate", "zip", "dict_itemiterator", "dict_reverseitemiterator", "odict_iterator", "itertools.zip_longest", "itertools.pairwise"].contains n = false) (hQ : Q () s) : wpAny M A (letOwnedTupleGo tg (.ref it) u) Q E s := by
  unfold letOwnedTupleGo
  cases tg <;> first
    | exact wpAny_pure hQ
    | (cases u <;> first
        | exact wpAny_pure hQ
        | (refine wpAny_bind (wpAny_load ho ?_)
           rw [hc, hd]
           show wpAny M A (if (["enumerate", "zip", "dict_itemiterator", "dict_reverseitemiterator", "odict_iterator", "itertools.zip_longest", "itertools.pairwise"].contains n && vs[0]? == some (rawInt _)) = true then _ else _) Q E s
           rw [if_neg (by intro h; rw [hn, Bool.false_and] at h; cases h)]
           exact wpAny_pure hQ))
def Itl (K : PySem.W.Frag) (a : Addr) : It :=
  ⟨fun i H => ∃ xs x, SqL K H a xs ∧ xs[i]? = some x, fun i H x H' => H' = H ∧ ∀ xs, SqL K H a xs → xs[i]? = some x, fun i H => ∃ xs, SqL K H a xs ∧ xs.length ≤ i⟩
def Itr (lo : Int) (n : Nat) : It := ⟨fun i _ => i < n, fun i H x H' => H' = H ∧ x = .int (lo + i), fun i _ => n ≤ i⟩
theorem turn_list {P : Program} {w : World} {K : PySem.W.Frag} {tg : Expr} (a it : Addr) : Turn P w K tg (Itl K a) [it] it (fun i h => h.IsListIter it a i) where
  mem := by simp
  obj := fun i h st b hb => by
    have e : b = it := by simpa using hb
    subst e
    obtain ⟨o, e, c, d⟩ := st
    exact ⟨o, e, fun v z => by rw [d] at z; cases z⟩
  keep := fun i h h' st k => st.at fun o e => k it (by simp) o e
  item := by
    intro X hP hw hK hc i pins s σ H E I hf st hg
    subst hP hw hK
    obtain ⟨xs, x, hq, hx⟩ := hg
    obtain ⟨its, rv, p, hz⟩ := I.list hq
    obtain ⟨u, hu, ru⟩ := rv.get hx
    obtain ⟨f0, f1, f2, f3, f4, f5⟩ := hf it (by simp)
    refine wpAny_pyNext_list_item st p.isList (x := u) (by simpa using hu) fun h' st' sb => ?_
    have I1 : Inv X pins σ H { s with heap := h' } := I.turned (t' := s.toks) (fun b o hb e => (sb.2 b hb).trans e) f0 f1 f3 f4 f5
    obtain ⟨o, e, c, d⟩ := id st'
    exact ⟨u, rfl, go_of (s := { s with heap := h' }) e c d (by decide) ⟨x, H, I1, ru, ⟨rfl, fun ys hy => by rw [I.list_inj hy hq]; exact hx⟩, st', fun b hb => (hf b hb).1⟩⟩
  done := by
    intro X hP hw hK hc i pins s σ H E I hf st hg
    subst hP hw hK
    obtain ⟨xs, hq, hx⟩ := hg
    obtain ⟨its, rv, p, hz⟩ := I.list hq
    obtain ⟨f0, f1, f2, f3, f4, f5⟩ := hf it (by simp)
    have hl := rv.length
    exact wpAny_pyNext_list_end (I.ok.hd hc) st p.isList (by simp; omega) fun h' eb => ⟨rfl, I.turned (t' := s.toks) (fun b o hb e => eb b o hb e) f0 f1 f3 f4 f5⟩
  self := fun _ _ _ _ _ st h => wpAny_pyIter_listiter st h
theorem turn_range {P : Program} {w : World} {K : PySem.W.Frag} {tg : Expr} (it : Addr) (lo : Int) (n : Nat) : Turn P w K tg (Itr lo n) [it] it (fun i h => IsRangeIter h it (lo + (i : Nat) * 1) ((n : Int) - (i : Nat)) 1) where
  mem := by simp
  obj := fun i h st b hb => by
    have e : b = it := by simpa using hb
    subst e
    exact ⟨_, st, fun v z => by
      have z' : Data.fields _ = Data.cell v := z
      cases z'⟩
  keep := fun i h h' st k => k it (by simp) _ st
  item := by
    intro X hP hw hK hc i pins s σ H E I hf st hg
    subst hP hw hK
    obtain ⟨f0, f1, f2, f3, f4, f5⟩ := hf it (by simp)
    have W := Walks.range (prog := X.prog) (w := X.w) (I.ok.hd hc) it lo 1 n
    refine W.item i s _ _ hg st fun v h' tk hv st' kk => ?_
    obtain ⟨t, rfl⟩ := hv
    have I1 : Inv X pins σ H { s with heap := h', toks := tk } := I.turned (fun b o hb e => kk b o (by simpa using hb) e) f0 f1 f3 f4 f5
    refine ⟨_, rfl, go_of (s := { s with heap := h', toks := tk }) (n := "range_iterator") st' rfl rfl (by decide) ⟨.int (lo + i), H, I1, ⟨t, ?_⟩, ⟨rfl, rfl⟩, st', fun b hb => (hf b hb).1⟩⟩
    rw [Int.mul_one]
  done := by
    intro X hP hw hK hc i pins s σ H E I hf st hg
    subst hP hw hK
    obtain ⟨f0, f1, f2, f3, f4, f5⟩ := hf it (by simp)
    exact wpAny_pyNext_range_end (I.ok.hd hc) st (by have : n ≤ i := hg; omega) fun h' eb => ⟨rfl, I.turned (t' := s.toks) (fun b o hb e => eb b o hb e) f0 f1 f3 f4 f5⟩
  self := fun _ _ _ _ _ st h => wpAny_pyIter_rangeiter st h
end L2
namespace L2
open PySem PySem.Spec PyProof.Rows
section
variable {X : Cx} {tg : Expr}
def iList (K : PySem.W.Frag) (tl : TE) : TI := fun σ H R => tl σ H fun x H1 => ∃ a, x = .ref a ∧ (∃ xs, SqL K H1 a xs) ∧ R (Itl K a) H1
theorem pi_list {l : Expr} {tl : TE} (hl : PE X l tl) : PI X tg l (iList X.K tl) := by
  intro pins s σ H R I h
  refine thn (hl pins s σ H _ I h) fun v s1 ⟨x, H1, I1, r1, q1⟩ => ?_
  obtain ⟨a, e, ⟨xs, hq⟩, q⟩ := q1
  subst e
  cases r1
  obtain ⟨its, rv, p, hz⟩ := I1.list hq
  refine wpAny_pyIter_list p.isList ?_
  refine ⟨s1.heap.objs.size, [s1.heap.objs.size], _, _, H1, rfl, I1.kept (t' := s1.toks) fun b o e => Heap.get?_push_of_some _ e, turn_list a _, ⟨_, Heap.get?_push_size _ rfl, rfl, rfl⟩, fun b hb => ?_, q⟩
  have e : b = s1.heap.objs.size := by simpa using hb
  subst e
  exact I1.fpOk (Nat.le_refl _) (I1.hok.fresh (Nat.le_refl _))
theorem range_it {pins : List (Addr × Obj)} {σ : St} {H : Hp} {s : Shared} {R : It → Hp → Prop} {E : Value → Shared → Prop} {lo hi : Int} {t u v : Tok} {tk : Nat} (I : Inv X pins σ H s) (h1 : -(2 ^ 62) ≤ lo) (h2 : lo < 2 ^ 62) (h3 : -(2 ^ 62) ≤ hi) (h4 : hi < 2 ^ 62)
    (q : R (Itr lo (hi - lo).toNat) H) : wpAny (model X.prog X.w) X.A (pyIter (.ref s.heap.objs.size)) (PIE X pins σ tg R) E { s with heap := s.heap.push { cls := .type "range", data := .fields #[.int lo t, .int hi u, .int 1 v] }, toks := tk } := by
  refine wpAny_pyIter_range (IsRange.new ..) (small_one h1 h2 h3 h4) ?_
  have I1 : Inv X pins σ H { s with heap := s.heap.push { cls := .type "range", data := .fields #[.int lo t, .int hi u, .int 1 v] }, toks := tk } := I.kept fun b o e => Heap.get?_push_of_some _ e
  refine ⟨(s.heap.push { cls := .type "range", data := .fields #[.int lo t, .int hi u, .int 1 v] }).objs.size, [(s.heap.push { cls := .type "range", data := .fields #[.int lo t, .int hi u, .int 1 v] }).objs.size], _, _, H, rfl,
    I1.kept (t' := tk) fun b o e => Heap.get?_push_of_some _ e, turn_range _ lo (hi - lo).toNat, ?_, fun b hb => ?_, q⟩
  · have e1 : lo + ((0 : Nat) : Int) * 1 = lo := by simp
    have e2 : (((hi - lo).toNat : Nat) : Int) - ((0 : Nat) : Int) = Builtin.Range.rangeSize lo hi 1 := by rw [rangeSize_one]; split <;> omega
    show IsRangeIter _ _ (lo + ((0 : Nat) : Int) * 1) ((((hi - lo).toNat : Nat) : Int) - ((0 : Nat) : Int)) 1
    rw [e1, e2]
    exact Heap.get?_push_size _ rfl
  · have e : b = (s.heap.push { cls := .type "range", data := .fields #[.int lo t, .int hi u, .int 1 v] }).objs.size := by simpa using hb
    subst e
    exact I1.fpOk (Nat.le_refl _) (I1.hok.fresh (Nat.le_refl _))
def iRng1 (ta : TA) : TI := fun σ H R => ta σ H fun vs H1 => ∃ j : Int, vs = [.int j] ∧ -(2 ^ 62) ≤ j ∧ j < 2 ^ 62 ∧ R (Itr 0 j.toNat) H1
theorem pi_range1 {a : Expr} {ta : TA} {p pos : Pos} (hg : Gl X "range") (hm : X.mg "range" = none) (ha : PA X [a] ta) (hs : starEach [a] X.env = [(false, eval a X.env)] := by rfl) : PI X tg (.Call (.Name "range" p) [a] [] pos) (iRng1 ta) := by
  intro pins s σ H R I h
  refine Call_ (ld_blt I hg hm boot_range (PyProof.Rows.callWith_type1 (thn (ha pos pins s σ H _ I h) fun us s1 ⟨vs, H1, I1, r1, q1⟩ => ?_) hs rfl))
  obtain ⟨j, e, q1, q2, q⟩ := q1
  subst e
  cases r1 with
  | cons r rr =>
    cases rr
    obtain ⟨t, rfl⟩ := r
    exact call_range_1 (range_it I1 (by omega) (by omega) q1 q2 (by simpa using q))
def tFor (wi : TI) (g : TG) (tb : TS) : TS := fun D σ H => wi σ H fun J H1 => ∃ W : Nat → Nat → St → Hp → Prop, (∃ m, W 0 m σ H1) ∧ ∀ i m σ H, W i m σ H →
  (J.stop i H ∧ D.nx σ H) ∨ (J.go i H ∧ ∃ N : St → Hp → Prop, (∀ σ' H', N σ' H' → ∃ m', m' < m ∧ W (i + 1) m' σ' H') ∧ ∀ x H', J.yld i H x H' → g x σ H' fun σ2 H2 => tb { D with nx := N, ct := N, bk := D.nx } σ2 H2)
def pinsAt (fp : List Addr) (h : Heap) : List (Addr × Obj) := fp.filterMap fun b => (h.get? b).map fun o => (b, o)
theorem mem_pinsAt {fp : List Addr} {h : Heap} {b : Addr} {o : Obj} (hb : b ∈ fp) (e : h.get? b = some o) : (b, o) ∈ pinsAt fp h := List.mem_filterMap.mpr ⟨b, hb, by rw [e]; rfl⟩
theorem of_pinsAt {fp : List Addr} {h : Heap} {p : Addr × Obj} (hp : p ∈ pinsAt fp h) : p.1 ∈ fp ∧ h.get? p.1 = some p.2 := by
  obtain ⟨b, hb, e⟩ := List.mem_filterMap.mp hp
  cases q : h.get? b with
  | none => rw [q] at e; cases e
  | some o =>
    rw [q] at e
    have e' : (b, o) = p := Option.some.inj e
    subst e'
    exact ⟨hb, q⟩
theorem Inv.pinned {pins : List (Addr × Obj)} {σ : St} {H : Hp} {s : Shared} {fp : List Addr} (I : Inv X pins σ H s) (hf : ∀ b ∈ fp, FpOk X pins H b) (ho : ∀ b ∈ fp, ∃ o, s.heap.get? b = some o ∧ ∀ v, o.data ≠ .cell v) : Inv X (pins ++ pinsAt fp s.heap) σ H s :=
  I.pins_of fun p hp => (List.mem_append.mp hp).elim (fun z => I.pin p (List.mem_append_right _ z)) fun z => by
    obtain ⟨hb, e⟩ := of_pinsAt z
    obtain ⟨f0, f1, f2, _⟩ := hf p.1 hb
    obtain ⟨o, e', d⟩ := ho p.1 hb
    rw [e] at e'; cases e'
    exact ⟨e, f0, f1, f2, d⟩
theorem Inv.unpinned {pins pl : List (Addr × Obj)} {σ : St} {H : Hp} {s : Shared} (I : Inv X (pins ++ pl) σ H s) : Inv X pins σ H s := I.pins_of fun p hp => I.pin p (List.mem_append_right _ (List.mem_append_left _ hp))
theorem ps_for {iter : Expr} {body : List Stmt} {wi : TI} {g : TG} {tb : TS} {pos : Pos} (hp : PassesOwn (model X.prog X.w) X.A X.env X.xe) (hc : X.calm = true) (hi : PI X tg iter wi) (hg : PG X tg g) (hb : PSs X body tb)
    (hs : ∀ x, foldedSetIterable iter X.env x = pure x := by intro _; rfl) : PS X (.For tg iter body [] pos) (tFor wi g tb) := by
  intro pins s σ H D I h
  refine wpAny_For (thn (hi pins s σ H _ I h) fun v s1 h1 => thn h1 fun itv s2 h2 => ?_) hs
  obtain ⟨it, fp, tn, J, H2, e, I2, T, st2, f2, W, ⟨m0, w0⟩, turn⟩ := h2
  subst e
  have stat : ∀ {H' : Hp}, (∀ b ∈ fp, H' b = none) → ∀ b ∈ fp, FpOk X pins H' b := fun hn b hb => ⟨hn b hb, (f2 b hb).2⟩
  refine codeAny_forLoop_any (fun n s' => ∃ i σ' H', Inv X pins σ' H' s' ∧ tn i s'.heap ∧ (∀ b ∈ fp, H' b = none) ∧ W i n σ' H') ?_ m0 ⟨0, σ, H2, I2, st2, fun b hb => (f2 b hb).1, w0⟩
  rintro n s3 ⟨i, σ3, H3, I3, st3, fr3, w3⟩
  rcases turn i n σ3 H3 w3 with ⟨stop, qn⟩ | ⟨go, N, hN, step⟩
  · refine wpAny_passesOwn hp (thn (T.done X rfl rfl rfl hc i pins s3 σ3 H3 X.xe I3 (stat fr3) st3 stop) fun r s4 ⟨hr, I4⟩ => ?_)
    subst hr
    exact wpAny_execs_nil ⟨σ3, H3, I4, qn⟩
  · refine wpAny_passesOwn hp (thn (T.item X rfl rfl rfl hc i pins s3 σ3 H3 X.xe I3 (stat fr3) st3 go) fun r s4 ⟨u, hr, h4⟩ => ?_)
    subst hr
    refine wpAny_passesOwn hp (thn h4 fun _ s5 ⟨x, H5, I5, r5, y5, st5, fr5⟩ => ?_)
    have I5' := I5.pinned (stat fr5) (T.obj _ _ st5)
    refine wpAny_passesOwn hp (thn (hg _ s5 σ3 H5 x u _ I5' r5 (step x H5 y5)) fun _ s6 ⟨σ6, H6, I6, q6⟩ => ?_)
    refine wpAny_passesOwn hp (thn (hb _ s6 σ6 H6 _ I6 q6) fun f s7 q7 => ?_)
    have again : ∀ {σ7 : St} {H7 : Hp}, Inv X (pins ++ pinsAt fp s5.heap) σ7 H7 s7 → N σ7 H7 → ∃ m, m < n ∧ ∃ i σ' H', Inv X pins σ' H' s7 ∧ tn i s7.heap ∧ (∀ b ∈ fp, H' b = none) ∧ W i m σ' H' := fun {σ7 H7} I7 n7 => by
      obtain ⟨m', hm, w7⟩ := hN σ7 H7 n7
      refine ⟨m', hm, i + 1, σ7, H7, I7.unpinned, T.keep _ _ _ st5 fun b hb o e => (I7.pin (b, o) (List.mem_append_right _ (List.mem_append_right _ (mem_pinsAt hb e)))).1, fun b hb => ?_, w7⟩
      obtain ⟨o, e, d⟩ := T.obj _ _ st5 b hb
      exact (I7.pin (b, o) (List.mem_append_right _ (List.mem_append_right _ (mem_pinsAt hb e)))).2.1
    cases f with
    | next => obtain ⟨σ7, H7, I7, n7⟩ := q7; exact again I7 n7
    | cont => obtain ⟨σ7, H7, I7, n7⟩ := q7; exact again I7 n7
    | brk => obtain ⟨σ7, H7, I7, q7⟩ := q7; exact ⟨σ7, H7, I7.unpinned, q7⟩
    | ret v => obtain ⟨x7, σ7, H7, I7, r7, q7⟩ := q7; exact ⟨x7, σ7, H7, I7.unpinned, r7, q7⟩
end
theorem for_list {K : PySem.W.Frag} {a : Addr} {xs : List V} {g : TG} {tb : TS} {D : Ends} {σ : St} {H : Hp} (Pv : Nat → St → Hp → Prop) (h0 : Pv 0 σ H) (hl : ∀ i σ H, i ≤ xs.length → Pv i σ H → SqL K H a xs)
    (hs : ∀ i x σ H, xs[i]? = some x → Pv i σ H → g x σ H fun σ2 H2 => tb { D with nx := Pv (i + 1), ct := Pv (i + 1), bk := D.nx } σ2 H2) (hd : ∀ σ H, Pv xs.length σ H → D.nx σ H) :
    ∃ W : Nat → Nat → St → Hp → Prop, (∃ m, W 0 m σ H) ∧ ∀ i m σ H, W i m σ H →
      ((Itl K a).stop i H ∧ D.nx σ H) ∨ ((Itl K a).go i H ∧ ∃ N : St → Hp → Prop, (∀ σ' H', N σ' H' → ∃ m', m' < m ∧ W (i + 1) m' σ' H') ∧ ∀ x H', (Itl K a).yld i H x H' → g x σ H' fun σ2 H2 => tb { D with nx := N, ct := N, bk := D.nx } σ2 H2) := by
  refine ⟨fun i m σ H => m = xs.length - i ∧ i ≤ xs.length ∧ Pv i σ H, ⟨xs.length, by simp, Nat.zero_le _, h0⟩, ?_⟩
  rintro i m σ H ⟨rfl, hi, p⟩
  have q := hl i σ H hi p
  by_cases hlt : i < xs.length
  · refine .inr ⟨⟨xs, xs[i], q, by simp [hlt]⟩, Pv (i + 1), fun σ' H' p' => ⟨xs.length - (i + 1), by omega, rfl, hlt, p'⟩, fun x H' y => ?_⟩
    obtain ⟨e, y⟩ := y
    subst e
    exact hs i x σ _ (y xs q) p
  · have e : i = xs.length := by omega
    subst e
    exact .inl ⟨⟨xs, q, Nat.le_refl _⟩, hd σ H p⟩
theorem for_range {lo : Int} {n : Nat} {g : TG} {tb : TS} {D : Ends} {σ : St} {H : Hp} (Pv : Nat → St → Hp → Prop) (h0 : Pv 0 σ H)
    (hs : ∀ i σ H, i < n → Pv i σ H → g (.int (lo + i)) σ H fun σ2 H2 => tb { D with nx := Pv (i + 1), ct := Pv (i + 1), bk := D.nx } σ2 H2) (hd : ∀ σ H, Pv n σ H → D.nx σ H) :
    ∃ W : Nat → Nat → St → Hp → Prop, (∃ m, W 0 m σ H) ∧ ∀ i m σ H, W i m σ H →
      ((Itr lo n).stop i H ∧ D.nx σ H) ∨ ((Itr lo n).go i H ∧ ∃ N : St → Hp → Prop, (∀ σ' H', N σ' H' → ∃ m', m' < m ∧ W (i + 1) m' σ' H') ∧ ∀ x H', (Itr lo n).yld i H x H' → g x σ H' fun σ2 H2 => tb { D with nx := N, ct := N, bk := D.nx } σ2 H2) := by
  refine ⟨fun i m σ H => m = n - i ∧ i ≤ n ∧ Pv i σ H, ⟨n, by simp, Nat.zero_le _, h0⟩, ?_⟩
  rintro i m σ H ⟨rfl, hi, p⟩
  by_cases hlt : i < n
  · refine .inr ⟨hlt, Pv (i + 1), fun σ' H' p' => ⟨n - (i + 1), by omega, rfl, hlt, p'⟩, fun x H' y => ?_⟩
    obtain ⟨e, y⟩ := y
    subst e y
    exact hs i σ _ hlt p
  · have e : i = n := by omega
    subst e
    exact .inl ⟨Nat.le_refl _, hd σ H p⟩
end L2
namespace L2
open PySem PySem.Spec PyProof.Rows
abbrev R2 := V → V → Hp → VK → Prop
def OpR (X : Cx) (f : Value → Value → Sem Value) (r : R2) : Prop :=
  ∀ (pins : List (Addr × Obj)) (s : Shared) (σ : St) (H : Hp) (x y : V) (v u : Value) (Q : VK), Inv X pins σ H s → RelV x v → RelV y u → r x y H Q →
    wpAny (model X.prog X.w) X.A (f v u) (EP X pins σ Q) X.xe s
def UnR (X : Cx) (f : Value → Sem Value) (r : V → Hp → VK → Prop) : Prop :=
  ∀ (pins : List (Addr × Obj)) (s : Shared) (σ : St) (H : Hp) (x : V) (v : Value) (Q : VK), Inv X pins σ H s → RelV x v → r x H Q →
    wpAny (model X.prog X.w) X.A (f v) (EP X pins σ Q) X.xe s
def CallR (X : Cx) (f : Value) (r : List V → Hp → VK → Prop) : Prop :=
  ∀ (pins : List (Addr × Obj)) (s : Shared) (σ : St) (H : Hp) (xs : List V) (us : List Value) (Q : VK), Inv X pins σ H s → Vals xs us → r xs H Q →
    wpAny (model X.prog X.w) X.A (call f us) (EP X pins σ Q) X.xe s
def TruR (X : Cx) (r : V → Hp → (Bool → Hp → Prop) → Prop) : Prop :=
  ∀ (pins : List (Addr × Obj)) (s : Shared) (σ : St) (H : Hp) (x : V) (v : Value) (Q : Bool → Hp → Prop), Inv X pins σ H s → RelV x v → r x H Q →
    wpAny (model X.prog X.w) X.A (truthy v) (TP X pins σ Q) X.xe s
def tOp (r : R2) (ta tb : TE) : TE := fun σ H Q => ta σ H fun x H1 => tb σ H1 fun y H2 => r x y H2 Q
def tUn (r : V → Hp → VK → Prop) (ta : TE) : TE := fun σ H Q => ta σ H fun x H1 => r x H1 Q
def rI (C : Int → Int → Prop) (g : Int → Int → V) : R2 := fun x y H Q => ∃ i j, x = .int i ∧ y = .int j ∧ C i j ∧ Q (g i j) H
def rI0 (g : Int → Int → V) : R2 := fun x y H Q => ∃ i j, x = .int i ∧ y = .int j ∧ Q (g i j) H
def rU (g : Int → V) : V → Hp → VK → Prop := fun x H Q => ∃ i, x = .int i ∧ Q (g i) H
section
variable {X : Cx} {a b c : Expr} {ta tb tc : TE} {pos : Pos}
theorem binT (ha : PE X a ta) (hb : PE X b tb) {pins : List (Addr × Obj)} {s : Shared} {σ : St} {H : Hp} {R : V → V → Hp → Prop} (I : Inv X pins σ H s)
    (h : ta σ H fun x H1 => tb σ H1 fun y H2 => R x y H2) {Q : Value → Shared → Prop} {f : Value → Value → Sem Value}
    (hf : ∀ v u s2 x y H2, Inv X pins σ H2 s2 → RelV x v → RelV y u → R x y H2 → wpAny (model X.prog X.w) X.A (f v u) Q X.xe s2) :
    wpAny (model X.prog X.w) X.A (eval a X.env) (fun v s₁ => wpAny (model X.prog X.w) X.A (eval b X.env) (fun u s₂ => wpAny (model X.prog X.w) X.A (f v u) Q X.xe s₂) X.xe s₁) X.xe s := by
  refine thn (ha pins s σ H _ I h) fun v s1 ⟨x, H1, I1, r1, q1⟩ => ?_
  refine thn (hb pins s1 σ H1 _ I1 q1) fun u s2 ⟨y, H2, I2, r2, q2⟩ => ?_
  exact hf v u s2 x y H2 I2 r1 r2 q2
theorem pe_op {op : Operator} {r : R2} (ho : OpR X (binaryOp op) r) (ha : PE X a ta) (hb : PE X b tb) : PE X (.BinOp a op b pos) (tOp r ta tb) := by
  intro pins s σ H Q I h
  exact wpAny_BinOp (binT ha hb I h fun v u s2 x y H2 I2 rx ry q => ho pins s2 σ H2 x y v u Q I2 rx ry q)
theorem pe_un {op : UnaryOp} {r : V → Hp → VK → Prop} (ho : UnR X (unaryOp op) r) (ha : PE X a ta) : PE X (.UnaryOp op a pos) (tUn r ta) := by
  intro pins s σ H Q I h
  exact UnaryOp_ (thn (ha pins s σ H _ I h) fun v s1 ⟨x, H1, I1, r1, q1⟩ => ho pins s1 σ H1 x v Q I1 r1 q1)
theorem opI {f : Value → Value → Sem Value} {C : Int → Int → Prop} {g : Int → Int → Int}
    (rule : ∀ (i j : Int) (t u : Tok) (s : Shared) (Q : Value → Shared → Prop) (E : Value → Shared → Prop), C i j → Q (.int (g i j) s.toks) { s with toks := s.toks + 1 } → wpAny (model X.prog X.w) X.A (f (.int i t) (.int j u)) Q E s) :
    OpR X f (rI C fun i j => .int (g i j)) := by
  intro pins s σ H x y v u Q I rx ry h
  obtain ⟨i, j, rfl, rfl, hc, q⟩ := h
  obtain ⟨t, rfl⟩ := rx
  obtain ⟨t', rfl⟩ := ry
  exact rule i j t t' s _ _ hc ⟨.int (g i j), H, I.tok _, ⟨_, rfl⟩, q⟩
theorem opI0 {f : Value → Value → Sem Value} {g : Int → Int → Int}
    (rule : ∀ (i j : Int) (t u : Tok) (s : Shared) (Q : Value → Shared → Prop) (E : Value → Shared → Prop), Q (.int (g i j) s.toks) { s with toks := s.toks + 1 } → wpAny (model X.prog X.w) X.A (f (.int i t) (.int j u)) Q E s) :
    OpR X f (rI0 fun i j => .int (g i j)) := by
  intro pins s σ H x y v u Q I rx ry h
  obtain ⟨i, j, rfl, rfl, q⟩ := h
  obtain ⟨t, rfl⟩ := rx
  obtain ⟨t', rfl⟩ := ry
  exact rule i j t t' s _ _ ⟨.int (g i j), H, I.tok _, ⟨_, rfl⟩, q⟩
theorem opB0 {f : Value → Value → Sem Value} {g : Int → Int → Bool}
    (rule : ∀ (i j : Int) (t u : Tok) (s : Shared) (Q : Value → Shared → Prop) (E : Value → Shared → Prop), Q (.bool (g i j)) s → wpAny (model X.prog X.w) X.A (f (.int i t) (.int j u)) Q E s) :
    OpR X f (rI0 fun i j => .bl (g i j)) := by
  intro pins s σ H x y v u Q I rx ry h
  obtain ⟨i, j, rfl, rfl, q⟩ := h
  obtain ⟨t, rfl⟩ := rx
  obtain ⟨t', rfl⟩ := ry
  exact rule i j t t' s _ _ ⟨.bl (g i j), H, I, rfl, q⟩
def CDiv (i j : Int) : Prop := 0 < j ∧ j < 1073741824
def CMul (i j : Int) : Prop := (-(2 ^ 64) < i ∧ i < 2 ^ 64) ∨ (-(2 ^ 64) < j ∧ j < 2 ^ 64)
theorem CMul.ok {i j : Int} (h : CMul i j) : IntMulOk i j := by
  rcases h with ⟨h1, h2⟩ | ⟨h1, h2⟩
  · exact .of_left (intBits_le_64 h1 h2)
  · exact .of_right (intBits_le_64 h1 h2)
theorem op_add : OpR X (binaryOp .Add) (rI0 fun i j => .int (i + j)) := opI0 fun _ _ _ _ _ _ _ q => add_int q
theorem op_sub : OpR X (binaryOp .Sub) (rI0 fun i j => .int (i - j)) := opI0 fun _ _ _ _ _ _ _ q => sub_int q
theorem op_mul : OpR X (binaryOp .Mult) (rI CMul fun i j => .int (i * j)) := opI fun _ _ _ _ _ _ _ hc q => mul_int q hc.ok
theorem op_fdiv : OpR X (binaryOp .FloorDiv) (rI CDiv fun i j => .int (i / j)) := opI fun i j _ _ _ _ _ hc q => by
  have h1 : (0 : Int) < j := hc.1
  have h2 : j < 1073741824 := hc.2
  exact floordiv_int (by omega) (by rw [Int.fdiv_eq_ediv_of_nonneg i (by omega)]; exact q) (.inl (PyProof.noPylong_small (by omega)))
theorem op_mod : OpR X (binaryOp .Mod) (rI (fun _ j => 0 < j) fun i j => .int (i % j)) := opI fun i j _ _ _ _ _ hc q => by
  have h1 : (0 : Int) < j := hc
  exact mod_int' (by omega) (by rw [Int.fmod_eq_emod_of_nonneg i (by omega)]; exact q)
theorem unI {f : Value → Sem Value} {g : Int → Int}
    (rule : ∀ (i : Int) (t : Tok) (s : Shared) (Q : Value → Shared → Prop) (E : Value → Shared → Prop), Q (.int (g i) s.toks) { s with toks := s.toks + 1 } → wpAny (model X.prog X.w) X.A (f (.int i t)) Q E s) :
    UnR X f (rU fun i => .int (g i)) := by
  intro pins s σ H x v Q I rx h
  obtain ⟨i, rfl, q⟩ := h
  obtain ⟨t, rfl⟩ := rx
  exact rule i t s _ _ ⟨.int (g i), H, I.tok _, ⟨_, rfl⟩, q⟩
theorem un_neg : UnR X (unaryOp .USub) (rU fun i => .int (-i)) := unI fun _ _ _ _ _ q => neg_int q
end
def scal : V → V → Bool
  | .non, .non => true | .non, .int _ => true | .int _, .non => true | .non, .bl _ => true | .bl _, .non => true | .non, .str _ => true | .str _, .non => true
  | .int _, .int _ => true | .bl _, .bl _ => true | .str _, .str _ => true | .byt _, .byt _ => true
  | .int _, .str _ => true | .str _, .int _ => true | .bl _, .str _ => true | .str _, .bl _ => true
  | _, _ => false
def rEq : R2 := fun x y H Q => scal x y = true ∧ Q (.bl (decide (x = y))) H
def rNe : R2 := fun x y H Q => scal x y = true ∧ Q (.bl (!decide (x = y))) H
theorem dec_int {i j : Int} : decide (V.int i = V.int j) = (i == j) := by
  rw [Bool.eq_iff_iff]
  simp
theorem dec_bl {i j : Bool} : decide (V.bl i = V.bl j) = (i == j) := by
  rw [Bool.eq_iff_iff]
  simp
theorem dec_str {i j : Str} : decide (V.str i = V.str j) = (i == j) := by
  rw [Bool.eq_iff_iff]
  simp
theorem dec_byt {i j : Array UInt8} : decide (V.byt i = V.byt j) = (i.toList == j.toList) := by
  rw [Bool.eq_iff_iff]
  cases i
  cases j
  simp
section
variable {X : Cx} {a b c : Expr} {ta tb tc : TE} {pos : Pos}
theorem fin_bl {pins : List (Addr × Obj)} {σ : St} {H : Hp} {s : Shared} {Q : VK} {k k' : Bool} (I : Inv X pins σ H s) (q : Q (.bl k) H) (e : k = k') : EP X pins σ Q (.bool k') s := by
  subst e
  exact ⟨.bl k, H, I, rfl, q⟩
theorem op_eq : OpR X (compareOp .Eq) rEq := by
  intro pins s σ H x y v u Q I rx ry h
  obtain ⟨hs, q⟩ := h
  cases x with
  | non =>
    cases rx
    cases y with
    | non => cases ry; exact PySem.EqNone.eq_none_none (fin_bl I q (by simp))
    | bl j => cases ry; exact PySem.EqNone.eq_none_bool (fin_bl I q (by simp))
    | int j => obtain ⟨t', rfl⟩ := ry; exact PySem.EqNone.eq_none_int (fin_bl I q (by simp))
    | str j => obtain ⟨t', rfl⟩ := ry; exact PySem.EqNone.eq_none_str (fin_bl I q (by simp))
    | _ => exact absurd (show false = true from hs) Bool.false_ne_true
  | bl i =>
    cases rx
    cases y with
    | non => cases ry; exact PySem.EqNone.eq_bool_none (fin_bl I q (by simp))
    | bl j => cases ry; exact eq_bool (fin_bl I q dec_bl)
    | str j => obtain ⟨t', rfl⟩ := ry; exact PySem.EqMixed.eq_bool_str (fin_bl I q (by simp))
    | _ => exact absurd (show false = true from hs) Bool.false_ne_true
  | int i =>
    obtain ⟨t, rfl⟩ := rx
    cases y with
    | non => cases ry; exact PySem.EqNone.eq_int_none (fin_bl I q (by simp))
    | int j => obtain ⟨t', rfl⟩ := ry; exact eq_int (fin_bl I q dec_int)
    | str j => obtain ⟨t', rfl⟩ := ry; exact PySem.EqMixed.eq_int_str (fin_bl I q (by simp))
    | _ => exact absurd (show false = true from hs) Bool.false_ne_true
  | str i =>
    obtain ⟨t, rfl⟩ := rx
    cases y with
    | non => cases ry; exact PySem.EqNone.eq_str_none (fin_bl I q (by simp))
    | bl j => cases ry; exact PySem.EqMixed.eq_str_bool (fin_bl I q (by simp))
    | int j => obtain ⟨t', rfl⟩ := ry; exact PySem.EqMixed.eq_str_int (fin_bl I q (by simp))
    | str j => obtain ⟨t', rfl⟩ := ry; exact eq_str (fin_bl I q dec_str)
    | _ => exact absurd (show false = true from hs) Bool.false_ne_true
  | byt i =>
    obtain ⟨t, rfl⟩ := rx
    cases y with
    | byt j => obtain ⟨t', rfl⟩ := ry; exact PySem.W.eq_bytes (fin_bl I q dec_byt)
    | _ => exact absurd (show false = true from hs) Bool.false_ne_true
  | _ => cases y <;> exact absurd (show false = true from hs) Bool.false_ne_true
theorem op_ne : OpR X (compareOp .NotEq) rNe := by
  intro pins s σ H x y v u Q I rx ry h
  obtain ⟨hs, q⟩ := h
  cases x with
  | non =>
    cases rx
    cases y with
    | non => cases ry; exact PySem.EqNone.ne_none_none (fin_bl I q (by simp))
    | bl j => cases ry; exact PySem.EqNone.ne_none_bool (fin_bl I q (by simp))
    | int j => obtain ⟨t', rfl⟩ := ry; exact PySem.EqNone.ne_none_int (fin_bl I q (by simp))
    | str j => obtain ⟨t', rfl⟩ := ry; exact PySem.EqNone.ne_none_str (fin_bl I q (by simp))
    | _ => exact absurd (show false = true from hs) Bool.false_ne_true
  | bl i =>
    cases rx
    cases y with
    | non => cases ry; exact PySem.EqNone.ne_bool_none (fin_bl I q (by simp))
    | bl j => cases ry; exact ne_bool (fin_bl I q (congrArg not dec_bl))
    | str j => obtain ⟨t', rfl⟩ := ry; exact PySem.EqMixed.ne_bool_str (fin_bl I q (by simp))
    | _ => exact absurd (show false = true from hs) Bool.false_ne_true
  | int i =>
    obtain ⟨t, rfl⟩ := rx
    cases y with
    | non => cases ry; exact PySem.EqNone.ne_int_none (fin_bl I q (by simp))
    | int j => obtain ⟨t', rfl⟩ := ry; exact ne_int (fin_bl I q (congrArg not dec_int))
    | str j => obtain ⟨t', rfl⟩ := ry; exact PySem.EqMixed.ne_int_str (fin_bl I q (by simp))
    | _ => exact absurd (show false = true from hs) Bool.false_ne_true
  | str i =>
    obtain ⟨t, rfl⟩ := rx
    cases y with
    | non => cases ry; exact PySem.EqNone.ne_str_none (fin_bl I q (by simp))
    | bl j => cases ry; exact PySem.EqMixed.ne_str_bool (fin_bl I q (by simp))
    | int j => obtain ⟨t', rfl⟩ := ry; exact PySem.EqMixed.ne_str_int (fin_bl I q (by simp))
    | str j => obtain ⟨t', rfl⟩ := ry; exact ne_str (fin_bl I q (congrArg not dec_str))
    | _ => exact absurd (show false = true from hs) Bool.false_ne_true
  | byt i =>
    obtain ⟨t, rfl⟩ := rx
    cases y with
    | byt j => obtain ⟨t', rfl⟩ := ry; exact PySem.W.ne_bytes (fin_bl I q (congrArg not dec_byt))
    | _ => exact absurd (show false = true from hs) Bool.false_ne_true
  | _ => cases y <;> exact absurd (show false = true from hs) Bool.false_ne_true
theorem op_lt : OpR X (compareOp .Lt) (rI0 fun i j => .bl (decide (i < j))) := opB0 fun _ _ _ _ _ _ _ q => lt_int q
theorem op_le : OpR X (compareOp .LtE) (rI0 fun i j => .bl (decide (i ≤ j))) := opB0 fun _ _ _ _ _ _ _ q => le_int q
theorem op_gt : OpR X (compareOp .Gt) (rI0 fun i j => .bl (decide (j < i))) := opB0 fun _ _ _ _ _ _ _ q => gt_int q
theorem op_ge : OpR X (compareOp .GtE) (rI0 fun i j => .bl (decide (j ≤ i))) := opB0 fun _ _ _ _ _ _ _ q => ge_int q
theorem nomark (b : Expr) {op : CmpOp} (h : op ≠ .In := by decide) (h2 : op ≠ .NotIn := by decide) : behindInMarks op b = false := by
  have e1 : (op == CmpOp.In) = false := by cases op <;> first | rfl | exact absurd rfl h
  have e2 : (op == CmpOp.NotIn) = false := by cases op <;> first | rfl | exact absurd rfl h2
  cases b <;> simp [behindInMarks, e1, e2]
theorem pe_cmpR {op : CmpOp} {r : R2} (ho : OpR X (compareOp op) r) (ha : PE X a ta) (hb : PE X b tb) (hm : behindInMarks op b = false) : PE X (.Compare a [op] [b] pos) (tOp r ta tb) := by
  intro pins s σ H Q I h
  exact wpAny_Compare1 (binT ha hb I h fun v u s2 x y H2 I2 rx ry q => ho pins s2 σ H2 x y v u Q I2 rx ry q) hm
def tTest (t : TE) : TT := fun σ H Q => t σ H fun x H' => ∃ k, x = .bl k ∧ Q k H'
theorem pt_cmpR {op : CmpOp} {r : R2} (ho : OpR X (compareOp op) r) (ha : PE X a ta) (hb : PE X b tb) (hm : behindInMarks op b = false) : PT X (.Compare a [op] [b] pos) (tTest (tOp r ta tb)) := by
  intro pins s σ H Q I h
  refine wpAny_isTrue_Compare1 (thn (ha pins s σ H _ I h) fun v s1 ⟨x, H1, I1, r1, q1⟩ => thn (hb pins s1 σ H1 _ I1 q1) fun u s2 ⟨y, H2, I2, r2, q2⟩ =>
    thn (ho pins s2 σ H2 x y v u _ I2 r1 r2 q2) fun c s3 ⟨z, H3, I3, r3, k, e, q3⟩ => ?_) hm
  subst e
  cases r3
  exact wpAny_truthy_bool ⟨H3, I3, q3⟩
def tChain (r r' : R2) (ta tb tc : TE) : TE := fun σ H Q => ta σ H fun x H1 => tb σ H1 fun y H2 => r x y H2 fun z H3 => ∃ k, z = .bl k ∧
  (if k = true then tc σ H3 fun w' H4 => r' y w' H4 Q else Q (.bl false) H3)
theorem pe_chain {op op' : CmpOp} {r r' : R2} (ho : OpR X (compareOp op) r) (ho' : OpR X (compareOp op') r') (ha : PE X a ta) (hb : PE X b tb) (hc : PE X c tc)
    (hm : lastMarks [op, op'] [b, c] = false := by with_unfolding_all rfl) : PE X (.Compare a [op, op'] [b, c] pos) (tChain r r' ta tb tc) := by
  intro pins s σ H Q I h
  refine Compare_chain (thn (ha pins s σ H _ I h) fun v s1 ⟨x, H1, I1, r1, q1⟩ => chain_link (thn (hb pins s1 σ H1 _ I1 q1) fun u s2 ⟨y, H2, I2, r2, q2⟩ =>
    thn (ho pins s2 σ H2 x y v u _ I2 r1 r2 q2) fun d s3 ⟨z, H3, I3, r3, k, e, q3⟩ => ?_)) hm
  subst e
  cases r3
  refine wpAny_truthy_bool ?_
  cases k with
  | false => exact ite_ff ⟨.bl false, H3, I3, rfl, q3⟩
  | true => exact ite_tt (chain_last (thn (hc pins s3 σ H3 _ I3 q3) fun w' s4 ⟨z', H4, I4, r4, q4⟩ => ho' pins s4 σ H4 y z' u w' Q I4 r2 r4 q4))
theorem pt_chain {op op' : CmpOp} {r r' : R2} (ho : OpR X (compareOp op) r) (ho' : OpR X (compareOp op') r') (ha : PE X a ta) (hb : PE X b tb) (hc : PE X c tc)
    (hm : lastMarks [op, op'] [b, c] = false := by with_unfolding_all rfl) : PT X (.Compare a [op, op'] [b, c] pos) (tTest (tChain r r' ta tb tc)) := by
  intro pins s σ H Q I h
  refine isTrue_chain (thn (ha pins s σ H _ I h) fun v s1 ⟨x, H1, I1, r1, q1⟩ => test_link (thn (hb pins s1 σ H1 _ I1 q1) fun u s2 ⟨y, H2, I2, r2, q2⟩ =>
    thn (ho pins s2 σ H2 x y v u _ I2 r1 r2 q2) fun d s3 ⟨z, H3, I3, r3, k, e, q3⟩ => ?_)) hm
  subst e
  cases r3
  refine wpAny_truthy_bool ?_
  cases k with
  | false =>
    obtain ⟨k', e', q'⟩ := q3
    cases e'
    exact ite_ff ⟨H3, I3, q'⟩
  | true =>
    refine ite_tt (test_last (thn (hc pins s3 σ H3 _ I3 q3) fun w' s4 ⟨z', H4, I4, r4, q4⟩ => thn (ho' pins s4 σ H4 y z' u w' _ I4 r2 r4 q4) fun d' s5 ⟨z2, H5, I5, r5, k2, e2, q5⟩ => ?_))
    subst e2
    cases r5
    exact wpAny_truthy_bool ⟨H5, I5, q5⟩
def TruV (K : PySem.W.Frag) (x : V) (H : Hp) (k : Bool) : Prop :=
  match x with
  | .non => k = false
  | .bl b => k = b
  | .int i => k = (i != 0)
  | .str y => y.length ≤ sizeLine ∧ k = ((y.length : Int) != 0)
  | .byt y => y.size ≤ sizeLine ∧ k = ((y.size : Int) != 0)
  | .ref p => (∃ xs, SqL K H p xs ∧ k = !xs.isEmpty) ∨ (∃ xs, SqT K H p xs ∧ k = !xs.isEmpty) ∨ ∃ kvs, H p = some (.dK kvs) ∧ k = !kvs.isEmpty
  | _ => False
theorem isEmpty_kv {κ : Type} {kvs : List (κ × V)} {vs : List (κ × Value)} (r : KV kvs vs) : (!vs.isEmpty) = !kvs.isEmpty := by
  cases r <;> rfl
theorem isEmpty_of {xs : List V} {its : List Value} (r : Vals xs its) : (!its.toArray.isEmpty) = !xs.isEmpty := by
  cases r <;> simp
theorem line63 : (sizeLine : Nat) < 2 ^ 63 := by rw [sizeLine_eq]; decide
theorem tru_ok : TruR X (fun x H Q => ∃ k, TruV X.K x H k ∧ Q k H) := by
  intro pins s σ H x v Q I rx h
  obtain ⟨k, e, q⟩ := h
  have hl := line63
  have hs : sizeLine = 16777216 := sizeLine_eq
  cases x with
  | non =>
    cases rx
    have e' : k = false := e
    subst e'
    exact truthy_none ⟨H, I, q⟩
  | bl b =>
    cases rx
    have e' : k = b := e
    subst e'
    exact wpAny_truthy_bool ⟨H, I, q⟩
  | int i =>
    obtain ⟨t, rfl⟩ := rx
    have e' : k = (i != 0) := e
    subst e'
    exact PySem.P.truthy_int ⟨H, I, q⟩
  | str y =>
    obtain ⟨t, rfl⟩ := rx
    obtain ⟨hy, e'⟩ : y.length ≤ sizeLine ∧ k = ((y.length : Int) != 0) := e
    subst e'
    exact PySem.P.truthy_str (by omega) ⟨H, I.tok _, q⟩
  | byt y =>
    obtain ⟨t, rfl⟩ := rx
    obtain ⟨hy, e'⟩ : y.size ≤ sizeLine ∧ k = ((y.size : Int) != 0) := e
    subst e'
    exact PySem.W.truthy_bytes (by omega) ⟨H, I.tok _, q⟩
  | ref p =>
    cases rx
    have e' : (∃ xs, SqL X.K H p xs ∧ k = !xs.isEmpty) ∨ (∃ xs, SqT X.K H p xs ∧ k = !xs.isEmpty) ∨ ∃ kvs, H p = some (.dK kvs) ∧ k = !kvs.isEmpty := e
    rcases e' with ⟨xs, hx, e'⟩ | ⟨xs, hx, e'⟩ | ⟨kvs, hx, e'⟩
    · subst e'
      obtain ⟨its, r, pl, hz⟩ := I.list hx
      have hlen := r.length
      exact wpAny_truthy_list pl.isList (by simp only [List.size_toArray]; omega) ⟨H, I.tok _, by rw [isEmpty_of r]; exact q⟩
    · subst e'
      obtain ⟨its, r, pl, hz⟩ := I.tuple hx
      have hlen := r.length
      exact truthy_tuple pl (by simp only [List.size_toArray]; omega) ⟨H, I.tok _, by rw [isEmpty_of r]; exact q⟩
    · subst e'
      obtain ⟨hz, hS, vs, r, m⟩ : kvs.length ≤ sizeLine ∧ (p == sysModules) = false ∧ ∃ vs, KV kvs vs ∧ s.heap.DictOf (mixKind X.prog X.w) p vs := I.hok p _ hx
      have hlen : kvs.length = vs.length := Paired.length r
      exact wpAny_truthy_dict hS m (by omega) ⟨H, I.tok _, by rw [isEmpty_kv r]; exact q⟩
  | _ => exact (show False from e).elim
theorem pt_truth (ha : PE X a ta) (he : ∀ whole, isTrue a X.env whole = (do let v ← whole; standAt a.pos; holding [v] (truthy v))) :
    PT X a (fun σ H Q => ta σ H fun x H' => ∃ k, TruV X.K x H' k ∧ Q k H') := by
  intro pins s σ H Q I h
  exact isTrue_plain (thn (ha pins s σ H _ I h) fun v s1 ⟨x, H1, I1, r1, q1⟩ => tru_ok pins s1 σ H1 x v Q I1 r1 q1) (he _)
theorem vals1 {x : V} {us : List Value} (r : Vals [x] us) : ∃ u, us = [u] ∧ RelV x u := by
  cases r with
  | cons r1 r2 => cases r2; exact ⟨_, rfl, r1⟩
end
end L2
namespace L2
open PySem PySem.Spec PyProof.Rows
structure ObjM (h : Heap) (x dx C : Addr) (mA : Str → Option Value) : Prop where
  obj : h.get? x = some (PySem.W.instObj C dx)
  ns : h.Ns1 dx mA
  ne : dx ≠ x
theorem lookIn_ns {h : Heap} {dx : Addr} {mA : Str → Option Value} (n : h.Ns1 dx mA) : ∃ od, h.get? dx = some od ∧ ∀ name, PySem.W.lookIn name od = some (mA name) := by
  obtain ⟨o, es, ep, ho, hd, hk, _, hm⟩ := n
  refine ⟨o, ho, fun name => ?_⟩
  have e := hm name
  unfold nsFind findBy at e
  rw [← Array.find?_toList] at e
  unfold PySem.W.lookIn
  rw [hd]
  dsimp only
  split
  · rename_i y q
    rw [q] at e
    exact congrArg some e
  · rename_i q
    rw [q] at e
    have a : es.toList.any (·.refKey) = false := by
      rw [List.any_eq_false]
      intro y hy
      obtain ⟨z, t, hkey⟩ := hk y (Array.mem_toList_iff.mp hy)
      simp [DictEntry.refKey, hkey]
    have a' : ¬ es.toList.any (·.refKey) = true := by rw [a]; exact Bool.false_ne_true
    rw [if_neg a']
    exact congrArg some e
theorem ObjM.look {h : Heap} {x dx C : Addr} {mA : Str → Option Value} (I : ObjM h x dx C mA) : ∃ od, PySem.W.InstAt h x (PySem.W.instObj C dx) C (some od) ∧ ∀ name, PySem.W.lookIn name od = some (mA name) :=
  let ⟨od, ho, hl⟩ := lookIn_ns I.ns
  ⟨od, ⟨I.obj, rfl, rfl, ho⟩, hl⟩
section
variable {prog : Program} {w : World} {A : Around} {E : Value → Shared → Prop} {s : Shared} {K : PySem.W.Frag} {x dx C f : Addr} {mA : Str → Option Value} {name : Str} {v : Value}
theorem get_map {expr : Bool} {Q : Value → Shared → Prop} (X : K.In s.heap) (I : ObjM s.heap x dx C mA) (hg : PySem.W.plainGet K C name = true) (hh : PySem.W.hasDictIn K C = true)
    (ha : PySem.W.findIn K (.ref C) name = some none) (hv : mA name = some v) (hv' : PySem.W.handedIn v = true) (h : Q v { s with toks := s.toks + 1 }) :
    wpAny (model prog w) A (getAttr (.ref x) name expr) Q E s := by
  obtain ⟨od, J, hl⟩ := I.look
  exact PySem.W.get_value X J (PySem.W.plainGet_of hg).1 (PySem.W.findObj_own hh ha rfl (by rw [hl, hv])) hv' h
theorem get_meth {pl : Sem Bool} {Q : Value × List Value → Shared → Prop} (X : K.In s.heap) (I : ObjM s.heap x dx C mA) (hg : PySem.W.plainGet K C name = true)
    (hf : PySem.W.findIn K (.ref C) name = some (some (.ref f))) (ht : PySem.W.isFn K (.ref f) = true) (hv : mA name = none) (h : Q (.ref f, [.ref x]) s) :
    wpAny (model prog w) A (getMethod (.ref x) name pl) Q E s := by
  obtain ⟨od, J, hl⟩ := I.look
  exact PySem.W.method_fn X J (PySem.W.plainGet_of hg).1 (PySem.W.plainGet_of hg).2 hf (beq_iff_eq.mp ht) (by show (PySem.W.lookIn name od).map (·.isSome) = some false; rw [hl, hv]; rfl) h
theorem set_map {ns : List Str} {Q : Unit → Shared → Prop} (X : K.In s.heap) (I : ObjM s.heap x dx C mA)
    (hs : PySem.W.findIn K (.ref C) "__setattr__" = some (some (.builtin "object.__setattr__"))) (hp : PySem.W.plainOver K C = true) (ht : PySem.W.takerIn K C name = some none) (hh : PySem.W.hasDictIn K C = true)
    (hw : PySem.Within mA ns) (hsz : ns.length ≤ sizeLine)
    (h : ∀ h', ObjM h' x dx C (fun y => if y = name then some v else mA y) → Heap.SameBut dx s.heap h' → Q () { s with heap := h', toks := s.toks + 2 }) :
    wpAny (model prog w) A (setAttr (.ref x) name v) Q E s := by
  obtain ⟨od, J, hl⟩ := I.look
  refine PySem.W.set_plain X J hs (PySem.W.osa_open (s := { s with toks := s.toks + 1 }) (r := none) X J hp ht fun b => ?_)
  obtain ⟨cd, hc, hd'⟩ := PySem.W.any_some hh
  have hx : s.heap.get? x = some ⟨.ref C, some dx, .plain, #[]⟩ := I.obj
  refine wpAny_bind (wpAny_pure (wpAny_bind (wpAny_bind (wpAny_loadPart hx (wpAny_bind (PySem.W.Looks.here (s := { s with toks := s.toks + 1 }) (PySem.W.looks_clsIn X hc) ?_))))))
  rw [hd']
  refine wpAny_pure (a := some dx) (wpAny_bind (wpAny_pure (wpAny_bind ?_)))
  refine wpAny_nsSet1 (s := { s with toks := s.toks + 1 }) I.ns fun h' hn2 hs2 => ?_
  obtain ⟨oD, esD, epD, hoD, hdD, hcD⟩ := hn2.count (PySem.Within.cons name v hw)
  refine wpAny_bind (wpAny_lookBehind hoD (by rw [hdD]; exact pastItsLine_dict (Nat.le_trans hcD (by rw [List.length_cons]; omega))) ?_)
  exact wpAny_pure (h _ ⟨(hs2.2 _ (Ne.symm I.ne)).trans I.obj, hn2, I.ne⟩ hs2)
theorem make_map {R : Result → Shared → Prop} {vs : List Value} {kw : List (Str × Value)} (X : K.In s.heap) (hm : PySem.W.makesIn K C = true)
    (hi : PySem.W.findIn K (.ref C) "__init__" = some (some (.ref f))) (hf : PySem.W.typeIn K (.ref f) = some (.type "function"))
    (h : codeAny (model prog w) (A.under (.builtin "type.__call__" ⟨.ref C :: vs, kw⟩)) (.call (.ref f) ⟨.ref (s.heap.objs.size + 1) :: vs, kw⟩) (PySem.W.InitBack (s.heap.objs.size + 1) R)
      { s with heap := (s.heap.push PySem.W.emptyDict).push (PySem.W.instObj C s.heap.objs.size) }) :
    codeAny (model prog w) A (.call (.ref C) ⟨vs, kw⟩) R s := by
  obtain ⟨hh, g, d, t, os⟩ := s
  exact PySem.W.make_core (PySem.W.makes_of X hm) (PySem.W.looks_findIn X hi) (fun self => PySem.W.bind_fn X self hf) (.inl rfl) h
end
def putF (f : Str) (v : V) : List (Str × V) → List (Str × V)
  | [] => [(f, v)]
  | (g, x) :: r => if g = f then (g, v) :: r else (g, x) :: putF f v r
theorem lookup_putF (f g : Str) (v : V) : ∀ fs : List (Str × V), (putF f v fs).lookup g = if g = f then some v else fs.lookup g
  | [] => by
    show List.lookup g [(f, v)] = _
    by_cases h : g = f
    · have hb : (g == f) = true := beq_iff_eq.mpr h
      simp only [List.lookup, hb, if_pos h]
    · have hb : (g == f) = false := beq_eq_false_iff_ne.mpr h
      simp only [List.lookup, hb, if_neg h]
  | (k, x) :: r => by
    have ih := lookup_putF f g v r
    rw [show putF f v ((k, x) :: r) = (if k = f then (k, v) :: r else (k, x) :: putF f v r) from rfl]
    by_cases hk : k = f
    · rw [if_pos hk]
      by_cases h : g = k
      · have hb : (g == k) = true := beq_iff_eq.mpr h
        simp only [List.lookup, hb, if_pos (h.trans hk)]
      · have hb : (g == k) = false := beq_eq_false_iff_ne.mpr h
        simp only [List.lookup, hb, if_neg (fun e : g = f => h (e.trans hk.symm))]
    · rw [if_neg hk]
      by_cases h : g = k
      · have hb : (g == k) = true := beq_iff_eq.mpr h
        simp only [List.lookup, hb, if_neg (fun e : g = f => hk (h.symm.trans e))]
      · have hb : (g == k) = false := beq_eq_false_iff_ne.mpr h
        simp only [List.lookup, hb]
        exact ih
theorem keys_putF (f : Str) (v : V) : ∀ fs : List (Str × V), f ∈ (putF f v fs).map (·.1) ∧ ∀ g, g ∈ fs.map (·.1) → g ∈ (putF f v fs).map (·.1)
  | [] => ⟨by simp [putF], fun g h => by simp at h⟩
  | (k, x) :: r => by
    obtain ⟨i1, i2⟩ := keys_putF f v r
    rw [show putF f v ((k, x) :: r) = (if k = f then (k, v) :: r else (k, x) :: putF f v r) from rfl]
    by_cases hk : k = f
    · rw [if_pos hk]
      subst hk
      exact ⟨by simp, fun g h => by simpa using h⟩
    · rw [if_neg hk]
      refine ⟨?_, fun g h => ?_⟩
      · rw [List.map_cons]
        exact List.mem_cons_of_mem _ i1
      · rw [List.map_cons] at h ⊢
        rcases List.mem_cons.mp h with e | e
        · exact List.mem_cons.mpr (.inl e)
        · exact List.mem_cons_of_mem _ (i2 g e)
theorem length_putF (f : Str) (v : V) : ∀ fs : List (Str × V), (putF f v fs).length ≤ fs.length + 1
  | [] => by simp [putF]
  | (k, x) :: r => by
    have ih := length_putF f v r
    rw [show putF f v ((k, x) :: r) = (if k = f then (k, v) :: r else (k, x) :: putF f v r) from rfl]
    by_cases hk : k = f
    · rw [if_pos hk, List.length_cons, List.length_cons]; omega
    · rw [if_neg hk, List.length_cons, List.length_cons]; omega
theorem RelO.some_of {v : V} {o : Option Value} (r : RelO (some v) o) : ∃ u, o = some u ∧ RelV v u := by
  cases o with
  | none => exact (show False from r).elim
  | some u => exact ⟨u, rfl, r⟩
theorem RelO.none_of {o : Option Value} (r : RelO none o) : o = none := by
  cases o with
  | none => rfl
  | some u => exact (show False from r).elim
theorem handed_of {v : V} {u : Value} (r : RelV v u) : PySem.W.handedIn u = true := by
  cases v with
  | non => cases (show u = Value.none from r); rfl
  | bl b => cases (show u = Value.bool b from r); rfl
  | int i => obtain ⟨t, e⟩ := (show ∃ t, u = Value.int i t from r); cases e; rfl
  | str x => obtain ⟨t, e⟩ := (show ∃ t, u = Value.str x t from r); cases e; rfl
  | byt b => obtain ⟨t, e⟩ := (show ∃ t, u = Value.bytes b t from r); cases e; rfl
  | flt b => obtain ⟨t, e⟩ := (show ∃ t, u = Value.float b t from r); cases e; rfl
  | ref a => cases (show u = Value.ref a from r); rfl
  | ty n => cases (show u = Value.type n from r); rfl
section
variable {P : Program} {w : World} {H H' : Hp} {h h' : Heap} {a C dx : Addr} {fs fs' : List (Str × V)}
theorem ins_get (hok : HOk P w H h) (e : H a = some (.ins C dx fs)) : ∃ mA, ObjM h a dx C mA ∧ (∀ f, RelO (fs.lookup f) (mA f)) ∧ PySem.Within mA (fs.map (·.1)) ∧ fs.length ≤ 1000 ∧ H dx = some (.own a) := by
  obtain ⟨d, z, ne, ob, mA, n, r, q⟩ := (show ObjOk P w H h a (.ins C dx fs) from hok a _ e)
  exact ⟨mA, ⟨ob, n, ne⟩, r, q, z, d⟩
end
structure Cls (K : PySem.W.Frag) (C : Addr) : Prop where
  pg : PySem.W.plainGet K C Str.empty = true
  hd : PySem.W.hasDictIn K C = true
  po : PySem.W.plainOver K C = true
  sa : PySem.W.findIn K (.ref C) "__setattr__" = some (some (.builtin "object.__setattr__"))
theorem Cls.get {K : PySem.W.Frag} {C : Addr} (c : Cls K C) (f : Str) : PySem.W.plainGet K C f = true := c.pg
def NoAttr (K : PySem.W.Frag) (C : Addr) (f : Str) : Prop := PySem.W.findIn K (.ref C) f = some none
theorem NoAttr.taker {K : PySem.W.Frag} {C : Addr} {f : Str} (n : NoAttr K C f) : PySem.W.takerIn K C f = some none := by
  unfold PySem.W.takerIn
  rw [show PySem.W.findIn K (.ref C) f = some none from n]
  rfl
structure Meth (K : PySem.W.Frag) (C : Addr) (m : Str) (f : Addr) : Prop where
  at_ : PySem.W.findIn K (.ref C) m = some (some (.ref f))
  fn : PySem.W.isFn K (.ref f) = true
  kp : PySem.W.keepIn K (.ref f) = true
section
variable {X : Cx} {pins : List (Addr × Obj)} {σ : St} {H : Hp} {s : Shared} {a C dx : Addr} {fs : List (Str × V)} {f : Str} {v : V} {A : Around} {E : Value → Shared → Prop}
theorem getattr_ok {b : Bool} {Q : Value → Shared → Prop} (I : Inv X pins σ H s) (e : H a = some (.ins C dx fs)) (c : Cls X.K C) (n : NoAttr X.K C f) (l : fs.lookup f = some v)
    (h : ∀ u s', Inv X pins σ H s' → RelV v u → Q u s') : wpAny (model X.prog X.w) A (getAttr (.ref a) f b) Q E s := by
  obtain ⟨mA, O, r, _, _, _⟩ := ins_get I.hok e
  obtain ⟨u, hu, ru⟩ := RelO.some_of (v := v) (o := mA f) (by rw [← l]; exact r f)
  exact get_map I.kIn O (c.get f) c.hd n hu (handed_of ru) (h u _ (I.tok _) ru)
theorem getmeth_ok {m : Str} {g : Addr} {pl : Sem Bool} {Q : Value × List Value → Shared → Prop} (I : Inv X pins σ H s) (e : H a = some (.ins C dx fs)) (c : Cls X.K C) (k : Meth X.K C m g) (l : fs.lookup m = none)
    (h : Q (.ref g, [.ref a]) s) : wpAny (model X.prog X.w) A (getMethod (.ref a) m pl) Q E s := by
  obtain ⟨mA, O, r, _, _, _⟩ := ins_get I.hok e
  have hn : mA m = none := RelO.none_of (by rw [← l]; exact r m)
  exact get_meth I.kIn O (c.get m) k.at_ k.fn hn h
theorem setattr_ok {y : V} {u : Value} {Q : Unit → Shared → Prop} (I : Inv X pins σ H s) (e : H a = some (.ins C dx fs)) (c : Cls X.K C) (n : NoAttr X.K C f) (hl : fs.length < 1000) (ry : RelV y u)
    (h : ∀ s', Inv X pins σ (upd H a (.ins C dx (putF f y fs))) s' → Q () s') : wpAny (model X.prog X.w) A (setAttr (.ref a) f u) Q E s := by
  obtain ⟨mA, O, r, wi, _, ho⟩ := ins_get I.hok e
  have hz : (fs.map (·.1)).length ≤ sizeLine := by rw [List.length_map, sizeLine_eq]; omega
  refine set_map I.kIn O c.sa c.po n.taker c.hd wi hz fun h' O' sb => h _ ?_
  have hd : ∃ o, h'.get? dx = some o := let ⟨o, _, _, e', _⟩ := O'.ns; ⟨o, e'⟩
  refine I.write (x := a) (e := dx) (by rw [e]; exact True.intro) (.inr ho) (fun b q hb z => (sb.2 b hb).trans z) hd ?_
  refine ⟨by rw [upd_ne O.ne]; exact ho, ?_, O.ne, O'.obj, _, O'.ns, fun g => ?_, fun g hg => ?_⟩
  · have := length_putF f y fs; omega
  · show RelO ((putF f y fs).lookup g) (if g = f then some u else mA g)
    rw [lookup_putF]
    by_cases q : g = f
    · rw [if_pos q, if_pos q]; exact ry
    · rw [if_neg q, if_neg q]; exact r g
  · by_cases q : g = f
    · rw [q]; exact (keys_putF f y fs).1
    · refine (keys_putF f y fs).2 g (wi g fun z => hg ?_)
      show (if g = f then some u else mA g) = none
      rw [if_neg q]; exact z
theorem Inv.made (I : Inv X pins σ H s) : Inv X pins σ (upd (upd H s.heap.objs.size (.own (s.heap.objs.size + 1))) (s.heap.objs.size + 1) (.ins C s.heap.objs.size []))
    { s with heap := (s.heap.push PySem.W.emptyDict).push (PySem.W.instObj C s.heap.objs.size) } := by
  have e1 : (s.heap.push PySem.W.emptyDict).get? s.heap.objs.size = some PySem.W.emptyDict := Heap.get?_push_size s.heap rfl
  have e2 : ((s.heap.push PySem.W.emptyDict).push (PySem.W.instObj C s.heap.objs.size)).get? (s.heap.objs.size + 1) = some (PySem.W.instObj C s.heap.objs.size) := by
    have := Heap.get?_push_size (s.heap.push PySem.W.emptyDict) (o := PySem.W.instObj C s.heap.objs.size) rfl
    rwa [Heap.size_push] at this
  have e3 : (s.heap.push PySem.W.emptyDict).Ns s.heap.objs.size (fun _ => none) := ⟨PySem.W.emptyDict, #[], _, e1, rfl, (fun e he => absurd he (by simp)), fun _ => rfl⟩
  have I1 := I.laid (a := s.heap.objs.size) (o := .own (s.heap.objs.size + 1)) (h' := s.heap.push PySem.W.emptyDict) (t' := s.toks) (fun b u q => Heap.get?_push_of_some _ q) (Nat.le_refl _) ⟨_, e1⟩
  refine I1.laid (a := s.heap.objs.size + 1) (o := .ins C s.heap.objs.size []) (t' := s.toks) (fun b u q => Heap.get?_push_of_some _ q) (Nat.le_of_eq (Heap.size_push _ _)) ?_
  have ne : s.heap.objs.size ≠ s.heap.objs.size + 1 := Nat.ne_of_lt (Nat.lt_succ_self _)
  refine ⟨by rw [upd_ne ne, upd_same], Nat.zero_le _, ne, e2, fun _ => none, (Heap.Ns1.of_empty e3).at fun o q => Heap.get?_push_of_some _ q, fun _ => True.intro, fun y hy => absurd rfl hy⟩
theorem attr_of {prog : Program} {w : World} {env : Env} {e : Expr} {f : Str} {pos : Pos} {s : Shared} {Q : Value → Shared → Prop} (hb : attributeBase e f env (eval e env) = eval e env)
    (h : wpAny (model prog w) A (eval e env) (fun o s₁ => wpAny (model prog w) A (getAttr o f true) Q E s₁) E s) : wpAny (model prog w) A (eval (.Attribute e f pos) env) Q E s :=
  Attribute_any_ h (by rw [arm_eval_Attribute, hb])
end
def tFld (K : PySem.W.Frag) (ta : TE) (f : Str) : TE := fun σ H Q => ta σ H fun x H1 => ∃ a C dx fs v, x = .ref a ∧ H1 a = some (.ins C dx fs) ∧ Cls K C ∧ NoAttr K C f ∧ fs.lookup f = some v ∧ Q v H1
def sFld (K : PySem.W.Frag) (ta tv : TE) (f : Str) : TS := fun D σ H => tv σ H fun y H1 => ta σ H1 fun x H2 => ∃ a C dx fs, x = .ref a ∧ H2 a = some (.ins C dx fs) ∧ Cls K C ∧ NoAttr K C f ∧ fs.length < 1000 ∧
  D.nx σ (upd H2 a (.ins C dx (putF f y fs)))
section
variable {X : Cx} {o e value : Expr} {f : Str} {pos pos' tpos : Pos} {ta tv : TE}
theorem pe_fld (he : PE X e ta) (hb : attributeBase e f X.env (eval e X.env) = eval e X.env) : PE X (.Attribute e f pos) (tFld X.K ta f) := by
  intro pins s σ H Q I h
  refine attr_of hb (thn (he pins s σ H _ I h) fun u s1 ⟨x, H1, I1, rx, a, C, dx, fs, v, ex, ea, c, n, l, q⟩ => ?_)
  subst ex
  obtain rfl : u = Value.ref a := rx
  exact getattr_ok I1 ea c n l fun u' s2 I2 ru => ⟨v, H1, I2, ru, q⟩
theorem ps_fld (ha : PE X o ta) (hv : PE X value tv) (hs : swapsWith value (some (.Attribute o f pos')) pos.line X.env = pure false) : PS X (.Assign [.Attribute o f pos'] value pos) (sFld X.K ta tv f) := by
  intro pins s σ H D I h
  refine plainObj_wpAny_Assign_Attribute (thn (hv pins s σ H _ I h) fun u s1 ⟨y, H1, I1, ry, q⟩ => thn (ha pins s1 σ H1 _ I1 q) fun ov s2 ⟨x, H2, I2, rx, a, C, dx, fs, ex, ea, c, n, l, q2⟩ => ?_) hs
  subst ex
  obtain rfl : ov = Value.ref a := rx
  exact setattr_ok I2 ea c n l ry fun s3 I3 => ⟨σ, _, I3, q2⟩
theorem methcall_of {pl : Sem Bool} {m : Str} {apos : Pos} {args : List Expr} {pins : List (Addr × Obj)} {s : Shared} {σ : St} {H : Hp} {Q : Value → Shared → Prop} {te : TE} (he : PE X e te) (I : Inv X pins σ H s)
    (h : te σ H fun x H1 => ∃ a C dx fs g, x = .ref a ∧ H1 a = some (.ins C dx fs) ∧ Cls X.K C ∧ Meth X.K C m g ∧ fs.lookup m = none ∧
      ∀ s1, Inv X pins σ H1 s1 → wpAny (model X.prog X.w) X.A (callWith pos (.ref g) [.ref a] (backTo pos (starEach args X.env)) (backToKw pos (keywordEach [] X.env))) Q X.xe s1)
    (ht : eval (.Call (.Attribute e m apos) args [] pos) X.env = (do
      let ov ← eval e X.env
      standAt apos.atName
      let (f, first) ← holding [ov] (getMethod ov m pl)
      callWith pos f first (backTo pos (starEach args X.env)) (backToKw pos (keywordEach [] X.env)))) :
    wpAny (model X.prog X.w) X.A (eval (.Call (.Attribute e m apos) args [] pos) X.env) Q X.xe s := by
  refine PySem.W.methodCall_KW (pl := pl) (thn (he pins s σ H _ I h) fun u s1 ⟨x, H1, I1, rx, a, C, dx, fs, g, ex, ea, c, k, l, q⟩ => ?_) ht
  subst ex
  obtain rfl : u = Value.ref a := rx
  exact getmeth_ok I1 ea c k l (q s1 I1)
end
section
variable {X : Cx} {pins : List (Addr × Obj)} {σ : St} {H : Hp} {s : Shared} {A : Around} {E : Value → Shared → Prop} {Q : Value → Shared → Prop} {c : Value} {b : Bool}
end
end L2
namespace L2
open PySem PySem.Spec PyProof.Rows
structure Room (k : Nat) (A : Around) : Prop where
  hd : A.handled = none
  dp : A.depth + 3 * k + 5 < recursionLimit
  un : A.units + 16 * k + 200 < cLine
theorem Room.mono {j k : Nat} {A : Around} (r : Room k A) (h : j ≤ k) : Room j A := ⟨r.hd, by have := r.dp; omega, by have := r.un; omega⟩
theorem Room.deeper {k : Nat} {A : Around} (r : Room (k + 1) A) (env : Env) : Room k (A.deeper env) :=
  ⟨r.hd, by have := r.dp; show A.depth + 1 + 3 * k + 5 < _; omega, by have := r.un; show A.units + 3 + 16 * k + 200 < _; omega⟩
theorem make_depth {A : Around} {C : Addr} {us : List Value} {kw : List (Str × Value)} : (A.under (.builtin "type.__call__" ⟨.ref C :: us, kw⟩)).depth = A.depth + 1 := by
  first | rfl | simp [Around.under, Code.weight, Code.isCreation, Code.isGuard, Code.isCaller, Code.frames, Code.isFrame, guardIds]
theorem make_units {A : Around} {C : Addr} {us : List Value} {kw : List (Str × Value)} : (A.under (.builtin "type.__call__" ⟨.ref C :: us, kw⟩)).units = A.units + 1 := by
  first | rfl | simp [Around.under, Code.cUnits, Code.frames, Code.isFrame]
theorem Room.make {k : Nat} {A : Around} (r : Room (k + 1) A) (C : Addr) (us : List Value) (kw : List (Str × Value)) : Room k (A.under (.builtin "type.__call__" ⟨.ref C :: us, kw⟩)) :=
  ⟨r.hd, by have := r.dp; rw [make_depth]; omega, by have := r.un; rw [make_units]; omega⟩
theorem Room.depth {k : Nat} {A : Around} (r : Room k A) : A.depth < recursionLimit := by have := r.dp; omega
theorem Room.units {k : Nat} {A : Around} (r : Room k A) : A.units + 64 < cLine := by have := r.un; omega
theorem Room.units0 {k : Nat} {A : Around} (r : Room k A) : A.units < cLine := by have := r.un; omega
def tNil : TA := fun _ H Q => Q [] H
def tCons (ta : TE) (tr : TA) : TA := fun σ H Q => ta σ H fun x H1 => tr σ H1 fun xs H2 => Q (x :: xs) H2
section
variable {X : Cx} {e : Expr} {es : List Expr} {te : TE} {t : TA} {pos : Pos}
theorem pa_nil : PA X [] tNil := fun _ _ _ _ H Q I h => Calls.spliced_nil ⟨[], H, I, .nil, h⟩
theorem pa_cons (ha : PE X e te) (hr : PA X es t) (hs : starEach (e :: es) X.env = (false, eval e X.env) :: starEach es X.env := by rfl) : PA X (e :: es) (tCons te t) := by
  intro pos pins s σ H Q I h
  rw [hs]
  show wpAny _ _ (spliced ((false, eval e X.env) :: backTo pos (starEach es X.env))) _ _ s
  refine Calls.spliced_cons (thn (ha pins s σ H _ I h) fun u s1 ⟨x, H1, I1, r1, q1⟩ => ?_)
  exact thn (hr pos pins s1 σ H1 _ I1 q1) fun us s2 ⟨xs, H2, I2, r2, q2⟩ => ⟨x :: xs, H2, I2, .cons r1 r2, q2⟩
def tTup (t : TA) : TE := fun σ H Q => t σ H fun xs H1 => xs.length ≤ sizeLine ∧ ∀ p, H1 p = none → Q (.ref p) (upd H1 p (.tup xs))
def tLst (t : TA) : TE := fun σ H Q => t σ H fun xs H1 => xs.length ≤ sizeLine ∧ ∀ p, H1 p = none → Q (.ref p) (upd H1 p (.lst xs))
theorem pe_tup {x1} (h : PA X es t) : PE X (.Tuple es x1 pos) (tTup t) := by
  intro pins s σ H Q I hq
  refine wpAny_Tuple_spliced (thn (h pos pins s σ H _ I hq) fun us s1 ⟨xs, H1, I1, r, z, q⟩ => ⟨by rw [← r.length]; exact z, ?_⟩)
  have hf : H1 s1.heap.objs.size = none := I1.hok.fresh (Nat.le_refl _)
  refine ⟨.ref s1.heap.objs.size, upd H1 s1.heap.objs.size (.tup xs), I1.laid (t' := s1.toks) (fun b u e => Heap.get?_push_of_some _ e) (Nat.le_refl _) ?_, rfl, q _ hf⟩
  exact ⟨z, us, r, ⟨_, Heap.get?_push_size _ rfl, rfl, _, rfl⟩⟩
theorem pe_lst (h : PA X es t) : PE X (.List es pos) (tLst t) := by
  intro pins s σ H Q I hq
  refine wpAny_List_spliced (thn (h pos pins s σ H _ I hq) fun us s1 ⟨xs, H1, I1, r, z, q⟩ => ⟨by rw [← r.length]; exact z, ?_⟩)
  have hf : H1 s1.heap.objs.size = none := I1.hok.fresh (Nat.le_refl _)
  refine ⟨.ref s1.heap.objs.size, upd H1 s1.heap.objs.size (.lst xs), I1.laid (t' := s1.toks) (fun b u e => Heap.get?_push_of_some _ e) (Nat.le_refl _) ?_, rfl, q _ hf⟩
  exact ⟨z, us, 0, r, Heap.get?_push_size _ rfl⟩
end
abbrev Sp := List V → Hp → VK → XK → Prop
abbrev CXT := List Env → Hp → Shared → XK → Value → Shared → Prop
structure Env0 (P : Program) (w : World) (K : PySem.W.Frag) (mg : Str → Option Value) (base : Heap) (A : Around) (outer : List Env) (s : Shared) (H : Hp) : Prop where
  frames : A.frames = some outer
  mod : Mod K mg base
  bs : ∀ b o, base.get? b = some o → s.heap.get? b = some o ∧ H b = none
  bsz : base.objs.size ≤ s.heap.objs.size
  funs : s.heap.FunFrames base outer
  frf : ∀ b ∈ frs outer, H b = none
  hok : HOk P w H s.heap
  bare : AllBare s.gens
def CE (outer : List Env) (P : Program) (w : World) (H : Hp) (s : Shared) (Q : VK) (u : Value) (s' : Shared) : Prop :=
  ∃ v H', s'.os = s.os ∧ AllBare s'.gens ∧ Un (frs outer) [] H H' s.heap s'.heap ∧ HOk P w H' s'.heap ∧ RelV v u ∧ Q v H'
def CR (CX : CXT) (outer : List Env) (P : Program) (w : World) (H : Hp) (s : Shared) (Q : VK) (E : XK) (r : Result) (s' : Shared) : Prop :=
  match r with
  | .ok (.ret u) => CE outer P w H s Q u s'
  | .ok _ => False
  | .error e => CX outer H s E e s'
structure FnOk (P : Program) (w : World) (K : PySem.W.Frag) (mg : Str → Option Value) (base : Heap) (CX : CXT) (k : Nat) (f : Addr) (fd : FuncData) (ps : List Str) (sp : Sp) : Prop where
  len : ∀ vs H Q E, sp vs H Q E → vs.length = ps.length
  run : ∀ (A : Around) (outer : List Env) (s : Shared) (H : Hp) (args : Args) (us : List Value) (vs : List V) (Q : VK) (E : XK), Room k A → Env0 P w K mg base A outer s H → BindsTo s fd args (ps.zip us) → Vals vs us → sp vs H Q E →
    codeAny (model P w) A (.call (.ref f) args) (CR CX outer P w H s Q E) s
theorem Env0.make {P : Program} {w : World} {K : PySem.W.Frag} {mg : Str → Option Value} {base : Heap} {A : Around} {outer : List Env} {s : Shared} {H : Hp} (e : Env0 P w K mg base A outer s H) (C : Addr) (us : List Value) (kw : List (Str × Value)) :
    Env0 P w K mg base (A.under (.builtin "type.__call__" ⟨.ref C :: us, kw⟩)) outer s H := ⟨by first | exact e.frames | (simpa [Around.under, Code.envs, Code.isFrame, pushEnvs] using e.frames), e.mod, e.bs, e.bsz, e.funs, e.frf, e.hok, e.bare⟩
section
variable {X : Cx} {pins : List (Addr × Obj)} {σ : St} {H : Hp} {s s' : Shared}
theorem Inv.env0 (I : Inv X pins σ H s) : Env0 X.prog X.w X.K X.mg X.base X.A X.stack s H :=
  ⟨I.ok.frames, I.ok.mod, I.bs, Nat.le_trans I.ok.bsz I.sz, I.stack, I.stkFree, I.hok, I.bare⟩
theorem Inv.after {Q : VK} {u : Value} (I : Inv X pins σ H s) (h : CE X.stack X.prog X.w H s Q u s') : EP X pins σ Q u s' := by
  obtain ⟨v, H', os, bare, un, hok, r, q⟩ := h
  obtain ⟨hh, g, d, t, os'⟩ := s'
  obtain rfl : os' = s.os := os
  exact ⟨v, H', I.call (h' := hh) (g' := g) (d' := d) (t' := t) (ch := []) un hok bare (fun b z => absurd z (by simp)), r, q⟩
end
def tCall (sp : Sp) (dvs : List V) (E : XK) (t : TA) : TE := fun σ H Q => t σ H fun vs H1 => sp (vs ++ dvs) H1 Q E
def tMeth (C : Addr) (m : Str) (sp : Sp) (dvs : List V) (E : XK) (ta : TE) (t : TA) : TE := fun σ H Q => ta σ H fun x H1 => ∃ a dx fs, x = .ref a ∧ H1 a = some (.ins C dx fs) ∧ fs.lookup m = none ∧
  t σ H1 fun vs H2 => sp (x :: (vs ++ dvs)) H2 Q E
def tMake (C : Addr) (sp : Sp) (dvs : List V) (E : XK) (t : TA) : TE := fun σ H Q => t σ H fun vs H1 => ∀ x dx, H1 x = none → H1 dx = none → dx ≠ x →
  sp (.ref x :: (vs ++ dvs)) (upd (upd H1 dx (.own x)) x (.ins C dx [])) (fun v H2 => v = .non ∧ Q (.ref x) H2) E
def Binds (K : PySem.W.Frag) (fd : FuncData) (ps : List Str) (ds : List Value) : Prop :=
  ∀ (s : Shared) (us : List Value), K.In s.heap → (us ++ ds).length = ps.length → BindsTo s fd ⟨us, []⟩ (ps.zip (us ++ ds))
theorem Binds.all {K : PySem.W.Frag} {fd : FuncData} {ps : List Str} (h : ∀ us : List Value, us.length = ps.length → bindArgs fd ⟨us, []⟩ = pure (ps.zip us)) : Binds K fd ps [] := fun s us _ hl => by
  rw [List.append_nil] at hl ⊢
  exact .of_eq (h us hl)
def Passes (CX : CXT) (X : Cx) (E : XK) : Prop := ∀ (pins : List (Addr × Obj)) (σ : St) (H : Hp) (s : Shared) (e : Value) (s' : Shared), Inv X pins σ H s → CX X.stack H s E e s' → X.xe e s'
section
variable {X : Cx} {CX : CXT} {k : Nat} {f C : Addr} {fd : FuncData} {ps : List Str} {sp : Sp} {dvs : List V} {ds : List Value} {E : XK} {x m : Str} {p pos apos : Pos} {e o : Expr} {es : List Expr} {ta : TE} {t : TA}
theorem run_fn {pins : List (Addr × Obj)} {σ : St} {H : Hp} {s : Shared} {Q : VK} {us : List Value} {vs : List V} (F : FnOk X.prog X.w X.K X.mg X.base CX k f fd ps sp) (hr : Room k X.A) (hb : Binds X.K fd ps ds) (hd : Vals dvs ds) (hx : Passes CX X E)
    (I : Inv X pins σ H s) (r : Vals vs us) (h : sp (vs ++ dvs) H Q E) : wpAny (model X.prog X.w) X.A (call (.ref f) us) (EP X pins σ Q) X.xe s := by
  have r2 : Vals (vs ++ dvs) (us ++ ds) := r.append hd
  have hl : (us ++ ds).length = ps.length := by rw [← r2.length]; exact F.len _ _ _ _ h
  refine wpAny_call (codeAny_mono (F.run X.A X.stack s H ⟨us, []⟩ (us ++ ds) (vs ++ dvs) Q E hr I.env0 (hb s us I.kIn hl) r2 h) fun r s' hq => ?_)
  cases r with
  | error e => exact hx pins σ H s e s' I hq
  | ok fl =>
    cases fl with
    | ret u => exact I.after hq
    | next => exact False.elim hq
    | brk => exact False.elim hq
    | cont => exact False.elim hq
theorem pe_call (F : FnOk X.prog X.w X.K X.mg X.base CX k f fd ps sp) (hr : Room k X.A) (hg : Gl X x) (hm : X.mg x = some (.ref f)) (hk : PySem.W.keepIn X.K (.ref f) = true) (hb : Binds X.K fd ps ds) (hd : Vals dvs ds) (hx : Passes CX X E)
    (ha : PA X (e :: es) t) (hdb : (x == ("__debug__" : Str)) = false := by decide) (he : starEach (e :: es) X.env = (false, eval e X.env) :: starEach es X.env := by rfl) (hpl : (backTo pos (starEach es X.env)).any (·.1) = false := by rfl) :
    PE X (.Call (.Name x p) (e :: es) [] pos) (tCall sp dvs E t) := by
  intro pins s σ H Q I h
  refine wpAny_Call_Name_kw (ld_glob I hg hm ?_ hdb)
  refine PySem.W.callWith_K (h₀ := X.base) I.ok.mod.kin hk (thn (ha pos pins s σ H _ I h) fun us s1 ⟨vs, H1, I1, r, q⟩ => ⟨I1.kIn, ?_⟩) he hpl
  exact run_fn F hr hb hd hx I1 r q
theorem pe_meth {pl : Sem Bool} (he : PE X o ta) (c : Cls X.K C) (hm : Meth X.K C m f) (F : FnOk X.prog X.w X.K X.mg X.base CX k f fd ps sp) (hr : Room k X.A) (hb : Binds X.K fd ps ds) (hd : Vals dvs ds) (hx : Passes CX X E) (ha : PA X (e :: es) t)
    (hst : starEach (e :: es) X.env = (false, eval e X.env) :: starEach es X.env := by rfl) (hpl : (backTo pos (starEach es X.env)).any (·.1) = false := by rfl)
    (ht : eval (.Call (.Attribute o m apos) (e :: es) [] pos) X.env = (do
      let ov ← eval o X.env
      standAt apos.atName
      let (f, first) ← holding [ov] (getMethod ov m pl)
      callWith pos f first (backTo pos (starEach (e :: es) X.env)) (backToKw pos (keywordEach [] X.env))) := by rfl) :
    PE X (.Call (.Attribute o m apos) (e :: es) [] pos) (tMeth C m sp dvs E ta t) := by
  intro pins s σ H Q I h
  refine PySem.W.methodCall_KW (pl := pl) (thn (he pins s σ H _ I h) fun u s1 ⟨x, H1, I1, rx, a, dx, fs, ex, ea, l, q⟩ => ?_) ht
  subst ex
  obtain rfl : u = Value.ref a := rx
  refine getmeth_ok I1 ea c hm l ?_
  refine PySem.W.callWith_K (first := [.ref a]) (h₀ := X.base) I.ok.mod.kin hm.kp (thn (ha pos pins s1 σ H1 _ I1 q) fun us s2 ⟨vs, H2, I2, r, q2⟩ => ⟨I2.kIn, ?_⟩) hst hpl
  exact run_fn (us := .ref a :: us) (vs := .ref a :: vs) F hr hb hd hx I2 (.cons rfl r) q2
theorem pe_meth0 {pl : Sem Bool} (he : PE X o ta) (c : Cls X.K C) (hm : Meth X.K C m f) (F : FnOk X.prog X.w X.K X.mg X.base CX k f fd ps sp) (hr : Room k X.A) (hb : Binds X.K fd ps ds) (hd : Vals dvs ds) (hx : Passes CX X E)
    (ht : eval (.Call (.Attribute o m apos) [] [] pos) X.env = (do
      let ov ← eval o X.env
      standAt apos.atName
      let (f, first) ← holding [ov] (getMethod ov m pl)
      callWith pos f first (backTo pos (starEach [] X.env)) (backToKw pos (keywordEach [] X.env))) := by rfl) :
    PE X (.Call (.Attribute o m apos) [] [] pos) (tMeth C m sp dvs E ta tNil) := by
  intro pins s σ H Q I h
  refine PySem.W.methodCall_KW (pl := pl) (thn (he pins s σ H _ I h) fun u s1 ⟨x, H1, I1, rx, a, dx, fs, ex, ea, l, q⟩ => ?_) ht
  subst ex
  obtain rfl : u = Value.ref a := rx
  refine getmeth_ok I1 ea c hm l ?_
  exact PySem.W.callWith_K0 (first := [.ref a]) I1.kIn hm.kp (run_fn (us := [.ref a]) (vs := [.ref a]) F hr hb hd hx I1 (.cons rfl .nil) q)
structure Mk (K : PySem.W.Frag) (C f : Addr) : Prop where
  makes : PySem.W.makesIn K C = true
  init : PySem.W.findIn K (.ref C) "__init__" = some (some (.ref f))
  fn : PySem.W.isFn K (.ref f) = true
  kp : PySem.W.keepIn K (.ref C) = true
theorem run_make {pins : List (Addr × Obj)} {σ : St} {H : Hp} {s : Shared} {Q : VK} {us : List Value} {vs : List V} (M : Mk X.K C f) (F : FnOk X.prog X.w X.K X.mg X.base CX k f fd ps sp) (hr : Room (k + 1) X.A) (hb : Binds X.K fd ps ds) (hd : Vals dvs ds)
    (hx : Passes CX X E) (I : Inv X pins σ H s) (r : Vals vs us)
    (h : ∀ x dx, H x = none → H dx = none → dx ≠ x → sp (.ref x :: (vs ++ dvs)) (upd (upd H dx (.own x)) x (.ins C dx [])) (fun v H2 => v = .non ∧ Q (.ref x) H2) E) :
    wpAny (model X.prog X.w) X.A (call (.ref C) us) (EP X pins σ Q) X.xe s := by
  have hq := h (s.heap.objs.size + 1) s.heap.objs.size (I.hok.fresh (Nat.le_succ _)) (I.hok.fresh (Nat.le_refl _)) (Nat.ne_of_lt (Nat.lt_succ_self _))
  have I2 := Inv.made (C := C) I
  have r2 : Vals (V.ref (s.heap.objs.size + 1) :: (vs ++ dvs)) (Value.ref (s.heap.objs.size + 1) :: (us ++ ds)) := .cons rfl (r.append hd)
  have hl : (Value.ref (s.heap.objs.size + 1) :: us ++ ds).length = ps.length := by
    have e := r2.length
    rw [F.len _ _ _ _ hq] at e
    exact e.symm
  refine wpAny_call (make_map (f := f) I.kIn M.makes M.init (beq_iff_eq.mp M.fn) (codeAny_mono (F.run _ X.stack _ _ ⟨Value.ref (s.heap.objs.size + 1) :: us, []⟩ (Value.ref (s.heap.objs.size + 1) :: (us ++ ds)) _ _ E (hr.make C us [])
    (I2.env0.make C us []) (hb _ (Value.ref (s.heap.objs.size + 1) :: us) I2.kIn hl) r2 hq) fun r s' hq' => ?_))
  cases r with
  | error e => exact hx pins σ _ _ e s' I2 hq'
  | ok fl =>
    cases fl with
    | ret u =>
      obtain ⟨v, H', I3, rv, ev, q3⟩ := I2.after hq'
      subst ev
      exact ⟨rv, ⟨V.ref (s.heap.objs.size + 1), H', I3, rfl, q3⟩⟩
    | next => exact False.elim hq'
    | brk => exact False.elim hq'
    | cont => exact False.elim hq'
theorem pe_make (M : Mk X.K C f) (F : FnOk X.prog X.w X.K X.mg X.base CX k f fd ps sp) (hr : Room (k + 1) X.A) (hg : Gl X x) (hm : X.mg x = some (.ref C)) (hb : Binds X.K fd ps ds) (hd : Vals dvs ds) (hx : Passes CX X E)
    (ha : PA X (e :: es) t) (hdb : (x == ("__debug__" : Str)) = false := by decide) (he : starEach (e :: es) X.env = (false, eval e X.env) :: starEach es X.env := by rfl) (hpl : (backTo pos (starEach es X.env)).any (·.1) = false := by rfl) :
    PE X (.Call (.Name x p) (e :: es) [] pos) (tMake C sp dvs E t) := by
  intro pins s σ H Q I h
  refine wpAny_Call_Name_kw (ld_glob I hg hm ?_ hdb)
  refine PySem.W.callWith_K (h₀ := X.base) I.ok.mod.kin M.kp (thn (ha pos pins s σ H _ I h) fun us s1 ⟨vs, H1, I1, r, q⟩ => ⟨I1.kIn, ?_⟩) he hpl
  exact run_make M F hr hb hd hx I1 r q
theorem pe_make0 (M : Mk X.K C f) (F : FnOk X.prog X.w X.K X.mg X.base CX k f fd ps sp) (hr : Room (k + 1) X.A) (hg : Gl X x) (hm : X.mg x = some (.ref C)) (hb : Binds X.K fd ps ds) (hd : Vals dvs ds) (hx : Passes CX X E)
    (hdb : (x == ("__debug__" : Str)) = false := by decide) : PE X (.Call (.Name x p) [] [] pos) (tMake C sp dvs E tNil) := by
  intro pins s σ H Q I h
  refine wpAny_Call_Name_kw (ld_glob I hg hm ?_ hdb)
  exact PySem.W.callWith_K0 I.kIn M.kp (run_make (us := []) M F hr hb hd hx I .nil h)
end
section
variable {X : Cx} {CX : CXT} {k : Nat} {f C : Addr} {fd : FuncData} {ps ks : List Str} {sp : Sp} {E : XK} {x m : Str} {p pos apos kpos : Pos} {e o : Expr} {es : List Expr} {kws : List Keyword} {te ta : TE} {t tk : TA} {nm : Option Str}
variable {g : List Value → List Value → List Value} {gV : List V → List V → List V}
end
structure FnScope (N P : List Str) (sc : Scope) : Prop where
  kind : sc.kind = .function
  co : sc.isCoroutine = false
  gen : sc.isGenerator = false
  nd : N.Nodup
  pre : N.take P.length = P
  par : ∀ x ∈ P, sc.names.lookup x = some .local ∨ sc.names.lookup x = some .cell
  nofree : ∀ y ∈ sc.names, y.2 ≠ .free
theorem bindL_out {kindOf : Str → Option NameKind} {x : Str} : ∀ {binds : List (Str × Value)} {m : Str → Option Value}, (∀ v, (x, v) ∉ binds) → bindL kindOf binds m x = m x
  | [], _, _ => rfl
  | (n, v) :: r, m, h => by
    unfold bindL
    rw [bindL_out fun w hw => h w (List.mem_cons_of_mem _ hw)]
    split
    · have : x ≠ n := by rintro rfl; exact h v List.mem_cons_self
      simp [this]
    · rfl
theorem bindC_out {kindOf : Str → Option NameKind} {x : Str} : ∀ {binds : List (Str × Value)} {m : Str → Option Value}, (∀ v, (x, v) ∉ binds) → bindC kindOf binds m x = m x
  | [], _, _ => rfl
  | (n, v) :: r, m, h => by
    unfold bindC
    rw [bindC_out fun w hw => h w (List.mem_cons_of_mem _ hw)]
    split
    · rfl
    · have : x ≠ n := by rintro rfl; exact h v List.mem_cons_self
      simp [this]
theorem bindL_get {kindOf : Str → Option NameKind} {x : Str} {v : Value} : ∀ {P : List Str} {vs : List Value} {i : Nat} {m : Str → Option Value}, P.Nodup → P[i]? = some x → vs[i]? = some v → kindOf x = some .local →
    bindL kindOf (P.zip vs) m x = some v
  | [], _, _, _, _, h, _, _ => by simp at h
  | _ :: _, [], _, _, _, _, h, _ => by simp at h
  | p :: P, w :: vs, 0, m, nd, h1, h2, hk => by
    simp at h1 h2; subst h1; subst h2
    show bindL kindOf ((p, w) :: P.zip vs) m p = _
    unfold bindL
    rw [bindL_out fun v hv => (List.nodup_cons.mp nd).1 (List.of_mem_zip hv).1, if_pos hk]
    simp
  | p :: P, w :: vs, i + 1, m, nd, h1, h2, hk => by
    show bindL kindOf ((p, w) :: P.zip vs) m x = _
    unfold bindL
    exact bindL_get (i := i) (List.nodup_cons.mp nd).2 (by simpa using h1) (by simpa using h2) hk
theorem bindC_get {kindOf : Str → Option NameKind} {x : Str} {v : Value} : ∀ {P : List Str} {vs : List Value} {i : Nat} {m : Str → Option Value}, P.Nodup → P[i]? = some x → vs[i]? = some v → kindOf x ≠ some .local →
    bindC kindOf (P.zip vs) m x = some v
  | [], _, _, _, _, h, _, _ => by simp at h
  | _ :: _, [], _, _, _, _, h, _ => by simp at h
  | p :: P, w :: vs, 0, m, nd, h1, h2, hk => by
    simp at h1 h2; subst h1; subst h2
    show bindC kindOf ((p, w) :: P.zip vs) m p = _
    unfold bindC
    rw [bindC_out fun v hv => (List.nodup_cons.mp nd).1 (List.of_mem_zip hv).1, if_neg hk]
    simp
  | p :: P, w :: vs, i + 1, m, nd, h1, h2, hk => by
    show bindC kindOf ((p, w) :: P.zip vs) m x = _
    unfold bindC
    exact bindC_get (i := i) (List.nodup_cons.mp nd).2 (by simpa using h1) (by simpa using h2) hk
def start (N : List Str) (vs : List V) : St := vs.map some ++ List.replicate (N.length - vs.length) none
def cxOf (CX : CXT) (P : Program) (w : World) (K : PySem.W.Frag) (mg : Str → Option Value) (base : Heap) (N : List Str) (qual : Str) (scope : Scope) (f : Addr) (cd : Value) (A : Around) (outer : List Env) (s : Shared) (H : Hp) (E : XK) : Cx where
  prog := P
  w := w
  K := K
  mg := mg
  base := base
  A := A.deeper (envOfC qual scope s.heap.objs.size f cd)
  N := N
  s₀ := s
  H₀ := H
  env := envOfC qual scope s.heap.objs.size f cd
  outer := outer
  stack := envOfC qual scope s.heap.objs.size f cd :: outer
  ex := []
  calm := true
  fn := fun _ => true
  pn := []
  xe := fun e s' => wpAny (model P w) (A.deeper (envOfC qual scope s.heap.objs.size f cd)) (leaving (envOfC qual scope s.heap.objs.size f cd) e) (fun _ s'' => CX outer H s E e s'') (fun e' s'' => CX outer H s E e' s'') s'
theorem cell_has {sc : Scope} {n : Nat} {x : Str} (h : sc.names.lookup x = some .cell) : ∃ c, (cellsFrom n sc.names []).lookup x = some c := by
  have q := PySem.W.cellsFrom_some sc.names n [] (.inl h)
  exact Option.isSome_iff_exists.mp q
theorem inv_start {CX : CXT} {P : Program} {w : World} {K : PySem.W.Frag} {mg : Str → Option Value} {base : Heap} {N ps : List Str} {qual : Str} {scope : Scope} {f : Addr} {cd : Value} {A : Around} {outer : List Env} {s s1 : Shared} {H : Hp} {E : XK} {us : List Value} {vs : List V}
    (S : FnScope N ps scope) (hd : A.handled = none) (e0 : Env0 P w K mg base A outer s H) (hl : vs.length = ps.length) (r : Vals vs us)
    (x : InCallC s s.heap.objs.size (bindL (envOfC qual scope s.heap.objs.size f cd).kindOf (ps.zip us) fun _ => none) (cellsFrom (s.heap.objs.size + 1) scope.names []) (bindC (envOfC qual scope s.heap.objs.size f cd).kindOf (ps.zip us) fun _ => none) s1) :
    Inv (cxOf CX P w K mg base N qual scope f cd A outer s H E) [] (start N vs) H s1 := by
  have hpl : ps.length ≤ N.length := by have := congrArg List.length S.pre; rw [List.length_take] at this; omega
  obtain ⟨h1, tk, rfl, hk⟩ := x.done
  have noA : ∀ b : Addr, b ∉ (cxOf CX P w K mg base N qual scope f cd A outer s H E).ex := fun b z => absurd (show b ∈ ([] : List Addr) from z) (by simp)
  refine ⟨⟨e0.mod, S.kind, rfl, rfl, Nat.le_refl _, fun y z c h1 h2 => ?_, fun y hy => ?_, fun y c _ h => ?_, fun _ => hd, Around.frames_deeper e0.frames, .inr ⟨rfl, rfl⟩, fun b z => absurd z (noA b), e0.bs, e0.bsz, fun b _ _ => noA b, fun b z => absurd z (noA b), e0.funs, e0.frf⟩,
    rfl, e0.bare, Un.kept hk, ⟨_, x.toInCall.ns, fun i y v h1 h2 h3 => ?_⟩, fun y c h => ⟨_, x.cell y c h⟩, e0.hok.fresh (Nat.le_refl _), fun y c h => ?_, fun p hp => absurd (show p ∈ ([] : List (Addr × Obj)) from hp) (by simp), e0.hok.kept hk, ?_⟩
  · exact name_of_addr x.apart (PySem.mem_of_lookup h1) (PySem.mem_of_lookup h2)
  · have hy : scope.names.lookup y = some .cell ∨ scope.names.lookup y = some .free := hy
    rcases hy with hy | hy
    · exact cell_has hy
    · exact absurd rfl (S.nofree _ (PySem.mem_of_lookup hy))
  · exact Nat.le_of_lt (x.above y c (PySem.mem_of_lookup h))
  · have hi : i < vs.length := by
      unfold start at h2
      by_cases hi : i < vs.length
      · exact hi
      · rw [List.getElem?_append_right (by simpa using hi)] at h2
        rw [List.getElem?_replicate] at h2
        split at h2 <;> cases h2
    have ha : vs[i]? = some v := by
      unfold start at h2
      rw [List.getElem?_append_left (by simpa using hi), List.getElem?_map] at h2
      cases e : vs[i]? with
      | none => rw [e] at h2; cases h2
      | some a => rw [e] at h2; cases h2; rfl
    obtain ⟨u, hu, rv⟩ := r.get ha
    have hp : ps[i]? = some y := by
      rw [← S.pre, List.getElem?_take_of_lt (by omega)]; exact h1
    have ndP : ps.Nodup := by rw [← S.pre]; exact S.nd.sublist (List.take_sublist _ _)
    refine ⟨u, rv, ?_⟩
    rcases S.par y (List.mem_of_getElem? hp) with k | k
    · exact .inl ⟨k, bindL_get ndP hp hu k⟩
    · obtain ⟨c, e⟩ := cell_has (n := s.heap.objs.size + 1) k
      refine .inr ⟨.inl k, c, e, ?_⟩
      have q := x.cell y c e
      rw [bindC_get ndP hp hu (by show scope.names.lookup y ≠ _; rw [k]; decide)] at q
      exact q
  · exact e0.hok.fresh (Nat.le_of_lt (x.above y c (PySem.mem_of_lookup h)))
  · unfold start
    show _ = N.length
    rw [List.length_append, List.length_map, List.length_replicate]
    omega
theorem fn_of {CX : CXT} {P : Program} {w : World} {K : PySem.W.Frag} {mg : Str → Option Value} {base : Heap} {k : Nat} {f : Addr} {name qual : Str} {params : Arguments} {body : List Stmt} {scope : Scope} {dV kV doc pm cdv ct oc : Value} {an od : Option Addr}
    {osl : Array (Option Value)} {N ps : List Str} {sp : Sp} (lk : K.lookup f = some ⟨oc, od, .func (PySem.W.fnOf name qual params body scope dV kV doc pm an cdv ct), osl⟩) (hcd : PySem.W.codeIn K cdv qual = true) (S : FnScope N ps scope)
    (len : ∀ vs H Q E, sp vs H Q E → vs.length = ps.length)
    (hbody : ∀ (A : Around) (outer : List Env) (s : Shared) (H : Hp) (vs : List V) (Q : VK) (E : XK), Room k (A.deeper (envOfC qual scope s.heap.objs.size f cdv)) → sp vs H Q E →
      ∃ t, PSs (cxOf CX P w K mg base N qual scope f cdv A outer s H E) body t ∧ t { nx := fun _ H' => Q .non H', rt := Q } (start N vs) H) :
    FnOk P w K mg base CX (k + 1) f (PySem.W.fnOf name qual params body scope dV kV doc pm an cdv ct) ps sp := by
  refine ⟨len, fun A outer s H args us vs Q E hr e0 hb r hsp => ?_⟩
  have hl := len _ _ _ _ hsp
  have KX : K.In s.heap := e0.mod.kin.keeps fun b o e => (e0.bs b o e).1
  have lim : s.heap.NoLimit := e0.mod.nolimit.keeps fun b o e => (e0.bs b o e).1
  have hkind : ∀ y ∈ ps.zip us, scope.names.lookup y.1 = some .local ∨ (scope.names.lookup y.1 = some .cell ∧ ((cellsFrom (s.heap.objs.size + 1) scope.names []).lookup y.1).isSome = true) := fun ⟨n, v⟩ hy => by
    rcases S.par n (List.of_mem_zip hy).1 with q | q
    · exact .inl q
    · exact .inr ⟨q, PySem.W.cellsFrom_some _ _ _ (.inl q)⟩
  refine codeAny_call_function hr.depth (KX _ _ lk) rfl S.co S.gen rfl (PySem.W.codeRec_of KX hcd) (hb _ _ _ _ ?_)
  refine wpAny_newFunctionEnv_cells S.kind hkind fun env he s1 x => ?_
  subst he
  refine ⟨lim.keeps x.toInCall.keep, codeAny_func ?_⟩
  obtain ⟨t, ht, hq⟩ := hbody A outer s H vs Q E (hr.deeper _) hsp
  have I : Inv (cxOf CX P w K mg base N qual scope f cdv A outer s H E) [] (start N vs) H s1 := inv_start S hr.hd e0 hl r x
  refine wpAny_mono (ht [] s1 (start N vs) H _ I hq) (fun fl s' hs => ?_) fun e s' hs => hs
  have fin : ∀ {σ' : St} {H' : Hp} {v : V} {u : Value}, Inv (cxOf CX P w K mg base N qual scope f cdv A outer s H E) [] σ' H' s' → RelV v u → Q v H' → CE outer P w H s Q u s' :=
    fun {σ' H' v u} J rv q => ⟨v, H', J.os, J.bare, J.base, J.hok, rv, q⟩
  cases fl with
  | ret u =>
    obtain ⟨v, σ', H', J, rv, q⟩ := hs
    exact fin J rv q
  | next =>
    obtain ⟨σ', H', J, q⟩ := hs
    exact fin (v := V.non) (u := Value.none) J rfl q
  | brk =>
    obtain ⟨_, _, _, q⟩ := hs
    exact False.elim q
  | cont =>
    obtain ⟨_, _, _, q⟩ := hs
    exact False.elim q
end L2
namespace L2
open PySem PySem.Spec PyProof.Rows
section
variable {X : Cx} {x : Str} {p pos : Pos} {e : Expr} {es : List Expr} {t : TA} {id T : String} {r : List V → Hp → VK → Prop}
def tCB (r : List V → Hp → VK → Prop) (t : TA) : TE := fun σ H Q => t σ H fun vs H1 => r vs H1 Q
theorem pe_callB (hc : CallR X (.builtin id) r) (hg : Gl X x) (hm : X.mg x = none) (hv : bootBuiltins x = some (.builtin id)) (ha : PA X (e :: es) t) (hn : x ≠ "__name__" := by decide) (hdb : (x == ("__debug__" : Str)) = false := by decide)
    (he : starEach (e :: es) X.env = (false, eval e X.env) :: starEach es X.env := by rfl) (hpl : (backTo pos (starEach es X.env)).any (·.1) = false := by rfl) : PE X (.Call (.Name x p) (e :: es) [] pos) (tCB r t) := by
  intro pins s σ H Q I h
  refine wpAny_Call_Name_kw (ld_blt I hg hm hv ?_ hn hdb)
  exact PyProof.Rows.callWith_builtin1 (thn (ha pos pins s σ H _ I h) fun us s1 ⟨vs, H1, I1, r1, q1⟩ => hc pins s1 σ H1 vs us Q I1 r1 q1) he hpl
theorem pe_callTy (hc : CallR X (.type T) r) (hg : Gl X x) (hm : X.mg x = none) (hv : bootBuiltins x = some (.type T)) (ha : PA X (e :: es) t) (hn : x ≠ "__name__" := by decide) (hdb : (x == ("__debug__" : Str)) = false := by decide)
    (he : starEach (e :: es) X.env = (false, eval e X.env) :: starEach es X.env := by rfl) (hpl : (backTo pos (starEach es X.env)).any (·.1) = false := by rfl) : PE X (.Call (.Name x p) (e :: es) [] pos) (tCB r t) := by
  intro pins s σ H Q I h
  refine wpAny_Call_Name_kw (ld_blt I hg hm hv ?_ hn hdb)
  exact PyProof.Rows.callWith_type1 (thn (ha pos pins s σ H _ I h) fun us s1 ⟨vs, H1, I1, r1, q1⟩ => hc pins s1 σ H1 vs us Q I1 r1 q1) he hpl
end
end L2
namespace HT
open PySem PyProof.Rows
def lexLt : List Int → List Int → Bool
  | [], [] => false
  | [], _ :: _ => true
  | _ :: _, [] => false
  | x :: xs, y :: ys => if x = y then lexLt xs ys else decide (x < y)
theorem lexLt_cons (x y : Int) (xs ys : List Int) : lexLt (x :: xs) (y :: ys) = if x = y then lexLt xs ys else decide (x < y) := rfl
theorem lexLt_nil_nil : lexLt [] [] = false := rfl
theorem lexLt_nil_cons (y : Int) (ys : List Int) : lexLt [] (y :: ys) = true := rfl
theorem lexLt_cons_nil (x : Int) (xs : List Int) : lexLt (x :: xs) [] = false := rfl
theorem eqAt_int (A : Around) (s : Shared) (a : Int) (t : Tok) (c : Int) (u : Tok) : ∃ e, SeqAt.EqAt A s (.int a t) (.int c u) e ∧ (e = true ↔ a = c) :=
  ⟨(a == c), SeqAt.EqAt.int_int a t c u, by simp⟩
theorem rcLt_int (A : Around) (s : Shared) (a : Int) (t : Tok) (c : Int) (u : Tok) (prog : Program) (w : World) (E : Value → Shared → Prop) (Q : Value → Shared → Prop) (h : Q (.bool (decide (a < c))) s) :
    wpAny (model prog w) A (richCompare .Lt (.int a t) (.int c u)) Q E s :=
  (PyProof.Rows.lt_int h : wpAny (model prog w) A (compareOp .Lt (.int a t) (.int c u)) Q E s)
section
open PySem.SeqAt
open PySem.AutoSeq1 (wpAny_loadPart')
open PySem.MeetsSeq PySem.MeetsSeq2 PySem.MeetsSeq3
end
section
variable {prog : Program} {w : World} {A : Around} {E : Value → Shared → Prop} {s : Shared}
def sIx (n d : Nat) : Option Int → Nat
  | none => d
  | some v => if v < 0 then (v + (n : Int)).toNat else min v.toNat n
theorem sIx_none (n d : Nat) : sIx n d none = d := rfl
theorem sIx_nat (n d k : Nat) : sIx n d (some (k : Int)) = min k n := by
  show (if (k : Int) < 0 then ((k : Int) + (n : Int)).toNat else min (k : Int).toNat n) = min k n
  rw [if_neg (by omega), Int.toNat_natCast]
end
end HT
namespace L2
open PySem PySem.Spec PyProof.Rows
abbrev TO := St → Hp → (Option Int → Hp → Prop) → Prop
def PO (X : Cx) (e : Option Expr) (t : TO) : Prop :=
  ∀ (pins : List (Addr × Obj)) (s : Shared) (σ : St) (H : Hp) (Q : Option Int → Hp → Prop), Inv X pins σ H s → t σ H Q →
    wpAny (model X.prog X.w) X.A (evalPart e X.env) (fun u s' => ∃ o H', Inv X pins σ H' s' ∧ IsPart u o ∧ Q o H') X.xe s
def tNoPart : TO := fun _ H Q => Q none H
def tPart (t : TE) : TO := fun σ H Q => t σ H fun x H1 => ∃ i, x = .int i ∧ Q (some i) H1
theorem intsAre_of {ns : List Int} : ∀ {us : List Value}, Vals (ns.map V.int) us → IntsAre us ns := by
  induction ns with
  | nil => intro us r; rw [List.map_nil] at r; cases r; exact .nil
  | cons n ns ih =>
    intro us r
    rw [List.map_cons] at r
    cases r with
    | cons r1 r2 =>
      obtain ⟨t, e⟩ := r1
      subst e
      exact .cons n t (ih r2)
section
variable {X : Cx} {e : Expr} {te : TE} {lo hi : Option Expr} {tl th : TO} {pos p2 : Pos}
theorem po_none : PO X none tNoPart := by
  intro pins s σ H Q I h
  rw [evalPart_none]
  exact wpAny_pure ⟨none, H, I, .none, h⟩
theorem po_some (h : PE X e te) : PO X (some e) (tPart te) := by
  intro pins s σ H Q I hw
  rw [evalPart_some]
  refine thn (h pins s σ H _ I hw) fun u s1 ⟨x, H1, I1, r1, q1⟩ => ?_
  obtain ⟨i, rfl, q⟩ := q1
  obtain ⟨t, rfl⟩ := r1
  exact ⟨some i, H1, I1, .int i t, q⟩
def SlR (X : Cx) (r : V → Option Int → Option Int → Hp → VK → Prop) : Prop :=
  ∀ (pins : List (Addr × Obj)) (s : Shared) (σ : St) (H : Hp) (x : V) (v vl vu : Value) (lo hi : Option Int) (sl : Addr) (Q : VK), Inv X pins σ H s → RelV x v → s.heap.IsSliceOf sl vl vu .none → IsPart vl lo → IsPart vu hi → r x lo hi H Q →
    ∃ T id, typeLookup (.type T) "__getitem__" = pure (some (.builtin id)) ∧ s.TypeIs v T ∧ wpAny (model X.prog X.w) X.A (getItem v (.ref sl)) (EP X pins σ Q) X.xe s
def tSl (r : V → Option Int → Option Int → Hp → VK → Prop) (te : TE) (tl th : TO) : TE := fun σ H Q => te σ H fun x H1 => tl σ H1 fun l H2 => th σ H2 fun u H3 => r x l u H3 Q
theorem pe_slice {r : V → Option Int → Option Int → Hp → VK → Prop} (hr : SlR X r) (he : PE X e te) (hl : PO X lo tl) (hu : PO X hi th) : PE X (.Subscript e (.Slice lo hi none p2) pos) (tSl r te tl th) := by
  intro pins s σ H Q I h
  refine Subscript_ (thn (he pins s σ H _ I h) fun v s1 ⟨x, H1, I1, r1, q1⟩ => ?_)
  refine wpAny_Slice (thn (hl pins s1 σ H1 _ I1 q1) fun vl s2 ⟨l, H2, I2, pl, q2⟩ => thn (hu pins s2 σ H2 _ I2 q2) fun vu s3 ⟨u, H3, I3, pu, q3⟩ => ?_)
  rw [evalPart_none]
  refine wpAny_pure ?_
  have I4 : Inv X pins σ H3 { s3 with heap := s3.heap.push { cls := .type "slice", data := .fields #[vl, vu, .none] } } := I3.kept (t' := s3.toks) fun b ob q => Heap.get?_push_of_some _ q
  obtain ⟨T, id, hT, ht, hg⟩ := hr pins { s3 with heap := s3.heap.push { cls := .type "slice", data := .fields #[vl, vu, .none] } } σ H3 x v vl vu l u s3.heap.objs.size Q I4 r1 (Heap.IsSliceOf.new ..) pl pu q3
  show wpAny (model X.prog X.w) X.A (subscriptTail e (.Slice lo hi none p2) v (.ref s3.heap.objs.size)) (EP X pins σ Q) X.xe { s3 with heap := s3.heap.push { cls := .type "slice", data := .fields #[vl, vu, .none] } }
  exact tail_any (ops := [.ref s3.heap.objs.size, v]) ht hT hg (by with_unfolding_all rfl)
def cutV (xs : List V) (lo hi : Option Int) : List V := (xs.drop (HT.sIx xs.length 0 lo)).take (HT.sIx xs.length xs.length hi - HT.sIx xs.length 0 lo)
theorem cutV_length (xs : List V) (lo hi : Option Int) : (cutV xs lo hi).length ≤ xs.length := by
  unfold cutV
  rw [List.length_take, List.length_drop]
  omega
end
end L2
namespace L2
open PySem PySem.Spec PyProof.Rows
def ixN (n : Nat) (i : Int) : Option Nat := if 0 ≤ i then (if i < n then some i.toNat else none) else if -(n : Int) ≤ i then some (i + n).toNat else none
def atI {α : Type} (xs : List α) (i : Int) : Option α := (ixN xs.length i).bind fun j => xs[j]?
theorem ixN_seq {n : Nat} {i : Int} {j : Nat} (h : ixN n i = some j) : seqIndex? i n = some j ∧ j < n ∧ -(n : Int) ≤ i ∧ i < n := by
  unfold ixN at h
  by_cases h0 : 0 ≤ i
  · rw [if_pos h0] at h
    by_cases h1 : i < n
    · rw [if_pos h1] at h
      have e : i.toNat = j := Option.some.inj h
      exact ⟨by rw [seqIndex_of h0 h1, e], by omega, by omega, h1⟩
    · rw [if_neg h1] at h; cases h
  · rw [if_neg h0] at h
    by_cases h1 : -(n : Int) ≤ i
    · rw [if_pos h1] at h
      have e : (i + n).toNat = j := Option.some.inj h
      exact ⟨by rw [seqIndex_neg (by omega) h1, e], by omega, h1, by omega⟩
    · rw [if_neg h1] at h; cases h
theorem atI_get {α : Type} {xs : List α} {i : Int} {v : α} (h : atI xs i = some v) : ∃ j, seqIndex? i xs.length = some j ∧ xs[j]? = some v ∧ j < xs.length ∧ -(xs.length : Int) ≤ i ∧ i < xs.length := by
  unfold atI at h
  cases e : ixN xs.length i with
  | none => rw [e] at h; cases h
  | some j =>
    rw [e] at h
    obtain ⟨h1, h2, h3, h4⟩ := ixN_seq e
    exact ⟨j, h1, h, h2, h3, h4⟩
theorem atI_nat {α : Type} {xs : List α} {j : Nat} {v : α} (h : xs[j]? = some v) : atI xs (j : Int) = some v := by
  have hj : j < xs.length := (List.getElem?_eq_some_iff.mp h).1
  have e : ixN xs.length (j : Int) = some j := by
    unfold ixN
    rw [if_pos (by omega), if_pos (by omega)]; simp
  unfold atI; rw [e]; exact h
def PlainIx (b : Expr) : Prop := ∀ o i, subscripted b false o i = operate [o, i] (getItem o i)
def IxR (X : Cx) (r : R2) : Prop :=
  ∀ (value slice : Expr) (pins : List (Addr × Obj)) (s : Shared) (σ : St) (H : Hp) (x y : V) (v u : Value) (Q : VK), Inv X pins σ H s → RelV x v → RelV y u → r x y H Q →
    subscripted slice false v u = operate [v, u] (getItem v u) → wpAny (model X.prog X.w) X.A (subscriptTail value slice v u) (EP X pins σ Q) X.xe s
def MtR (X : Cx) (id : String) (r : V → List V → Hp → VK → Prop) : Prop :=
  ∀ (pins : List (Addr × Obj)) (s : Shared) (σ : St) (H : Hp) (x : V) (xs : List V) (v : Value) (us : List Value) (Q : VK), Inv X pins σ H s → RelV x v → Vals xs us → r x xs H Q →
    wpAny (model X.prog X.w) X.A (call (.builtin id) (v :: us)) (EP X pins σ Q) X.xe s
section
variable {X : Cx} {a b : Expr} {ta tb : TE} {pos : Pos}
theorem pe_ix {r : R2} (hr : IxR X r) (ha : PE X a ta) (hb : PE X b tb) (hs : PlainIx b) : PE X (.Subscript a b pos) (tOp r ta tb) := by
  intro pins s σ H Q I h
  exact Subscript_ (binT ha hb I h fun v u s2 x y H2 I2 rx ry q => hr a b pins s2 σ H2 x y v u Q I2 rx ry q (hs _ _))
def rIxL (K : PySem.W.Frag) : R2 := fun x y H Q => ∃ p xs i v, x = .ref p ∧ y = .int i ∧ SqL K H p xs ∧ atI xs i = some v ∧ Q v H
def rIxT (K : PySem.W.Frag) : R2 := fun x y H Q => ∃ p xs i v, x = .ref p ∧ y = .int i ∧ SqT K H p xs ∧ atI xs i = some v ∧ Q v H
theorem ix_list : IxR X (rIxL X.K) := by
  intro value slice pins s σ H x y v u Q I rx ry h hs
  obtain ⟨p, xs, i, z, rfl, rfl, hq, he, q⟩ := h
  cases rx
  obtain ⟨t, rfl⟩ := ry
  obtain ⟨its, r, pl, hz⟩ := I.list hq
  obtain ⟨j, h1, h2, h3, h4, h5⟩ := atI_get he
  obtain ⟨w, ew, rw'⟩ := r.get h2
  have hl := r.length
  have hn := line63
  have fin : EP X pins σ Q w s := ⟨z, H, I, rw', q⟩
  by_cases h0 : 0 ≤ i
  · have hj : i.toNat = j := by
      rw [seqIndex_of h0 h5] at h1
      exact Option.some.inj h1
    exact item_listR pl.isList h0 (by omega) (by rw [hj]; simpa using ew) fin hs
  · have hj : (i + (its.toArray.size : Int)).toNat = j := by
      rw [seqIndex_neg (by omega) h4] at h1
      rw [List.size_toArray, ← hl]
      exact Option.some.inj h1
    exact subscriptTail_builtinR (x := w) pl.isList.typeIs slot_list_getitem.lookup
      (wpAny_getItem_list_neg (Q := fun r s' => r = w ∧ EP X pins σ Q r s') pl.isList (by omega) (by rw [List.size_toArray] <;> omega) (by omega) (by rw [hj]; simpa using ew) ⟨rfl, fin⟩) hs
theorem ix_tup : IxR X (rIxT X.K) := by
  intro value slice pins s σ H x y v u Q I rx ry h hs
  obtain ⟨p, xs, i, z, rfl, rfl, hq, he, q⟩ := h
  cases rx
  obtain ⟨t, rfl⟩ := ry
  obtain ⟨its, r, pl, hz⟩ := I.tuple hq
  obtain ⟨j, h1, h2, h3, h4, h5⟩ := atI_get he
  obtain ⟨w, ew, rw'⟩ := r.get h2
  have hl := r.length
  have hn := line63
  have fin : EP X pins σ Q w s := ⟨z, H, I, rw', q⟩
  exact subscriptTail_builtinR (x := w) pl.typeIs slot_tuple_getitem.lookup
    (getItem_tuple (j := j) (Q := fun r s' => r = w ∧ EP X pins σ Q r s') pl (by omega) (by omega) (by rw [List.size_toArray, ← hl]; exact h1) (by simpa using ew) ⟨rfl, fin⟩) hs
theorem mapSeq_set (its : List Value) (n j : Nat) (u : Value) : Obj.mapSeq (·.setIfInBounds j u) { cls := .type "list", data := .seq its.toArray n } = { cls := .type "list", data := .seq (its.set j u).toArray n } := by
  simp [Obj.mapSeq]
theorem Inv.lst {pins : List (Addr × Obj)} {σ : St} {H : Hp} {s : Shared} {p : Addr} {xs : List V} (I : Inv X pins σ H s) (h : H p = some (.lst xs)) :
    ∃ (its : List Value) (n : Nat), Vals xs its ∧ s.heap.get? p = some { cls := .type "list", data := .seq its.toArray n } ∧ xs.length ≤ sizeLine := by
  obtain ⟨z, its, n, r, e⟩ := I.hok p _ h
  exact ⟨its, n, r, e, z⟩
theorem Inv.lstUpd {pins : List (Addr × Obj)} {σ : St} {H : Hp} {s : Shared} {p : Addr} {xs ys : List V} {its its' : List Value} {n n' : Nat} {f : Obj → Obj} (I : Inv X pins σ H s) (h : H p = some (.lst xs))
    (ho : s.heap.get? p = some { cls := .type "list", data := .seq its.toArray n }) (hf : f { cls := .type "list", data := .seq its.toArray n } = { cls := .type "list", data := .seq its'.toArray n' }) (r : Vals ys its') (hz : ys.length ≤ sizeLine) (t : Nat) :
    Inv X pins σ (upd H p (.lst ys)) { s with heap := s.heap.update p f, toks := t } := by
  have e : (s.heap.update p f).get? p = some { cls := .type "list", data := .seq its'.toArray n' } := by
    rw [Heap.get?_update_self f ho (by rw [hf] <;> rfl), hf]
  refine I.write (x := p) (e := p) (by rw [h]; trivial) (.inl rfl) (fun b u hb q => (Heap.get?_update_other _ _ (Ne.symm hb)).trans q) ⟨_, e⟩ ?_
  exact ⟨hz, its', n', r, e⟩
def rSetL : V → V → V → Hp → (Hp → Prop) → Prop := fun o i v H Q => ∃ p xs k j, o = .ref p ∧ i = .int k ∧ H p = some (.lst xs) ∧ ixN xs.length k = some j ∧ Q (upd H p (.lst (xs.set j v)))
theorem set_list : PSet X rSetL := by
  intro pins s σ H o i v ov iv u Q I ro ri rv h
  obtain ⟨p, xs, k, j, rfl, rfl, hp, hj, q⟩ := h
  cases ro
  obtain ⟨t, rfl⟩ := ri
  obtain ⟨its, n, r, ho, hz⟩ := I.lst hp
  obtain ⟨h1, h2, h3, h4⟩ := ixN_seq hj
  have hl := r.length
  have hn := line63
  have I' : Inv X pins σ (upd H p (.lst (xs.set j v))) { s with heap := s.heap.update p (Obj.mapSeq (·.setIfInBounds j u)) } :=
    I.lstUpd hp ho (mapSeq_set its n j u) (r.set rv j) (by rw [List.length_set]; exact hz) s.toks
  by_cases h0 : 0 ≤ k
  · have hk : k.toNat = j := by
      rw [seqIndex_of h0 h4] at h1
      exact Option.some.inj h1
    exact PySem.W.ki_setAt ho h0 (by omega) (by rw [List.size_toArray, ← hl]; exact h4) (by rw [hk]; exact ⟨_, I', q⟩)
  · have hk : (k + (its.toArray.size : Int)).toNat = j := by
      rw [seqIndex_neg (by omega) h3] at h1
      rw [List.size_toArray, ← hl]
      exact Option.some.inj h1
    exact PySem.W.ki_setBack ho (by omega) (by rw [List.size_toArray, ← hl]; exact h3) (by omega) (by rw [hk]; exact ⟨_, I', q⟩)
theorem slice_bounds (lo hi : Option Int) (n : Nat) : (sliceBounds lo hi none n).1 = ((HT.sIx n 0 lo : Nat) : Int) ∧ (sliceBounds lo hi none n).2.1 = ((HT.sIx n n hi : Nat) : Int) ∧ (sliceBounds lo hi none n).2.2 = 1 := by
  refine ⟨?_, ?_, rfl⟩
  · cases lo with
    | none => simp [sliceBounds, HT.sIx]
    | some i =>
      simp only [sliceBounds, HT.sIx, Option.getD_none, show (1 : Int) > 0 by decide, if_true]
      by_cases h : i < 0
      · simp only [h, if_true] <;> omega
      · simp only [h, if_false] <;> omega
  · cases hi with
    | none => simp [sliceBounds, HT.sIx]
    | some i =>
      simp only [sliceBounds, HT.sIx, Option.getD_none, show (1 : Int) > 0 by decide, if_true]
      by_cases h : i < 0
      · simp only [h, if_true] <;> omega
      · simp only [h, if_false] <;> omega
theorem slicePick_cut (its : List Value) (lo hi : Option Int) : slicePick its.toArray lo hi none = ((its.drop (HT.sIx its.length 0 lo)).take (HT.sIx its.length its.length hi - HT.sIx its.length 0 lo)).toArray := by
  obtain ⟨h1, h2, h3⟩ := slice_bounds lo hi its.toArray.size
  unfold slicePick
  rw [h1, h2, h3]
  simp only [sliceRange_one, pick_run, List.size_toArray] <;> rfl
def rSlL (K : PySem.W.Frag) : V → Option Int → Option Int → Hp → VK → Prop := fun x lo hi H Q => ∃ a xs, x = .ref a ∧ SqL K H a xs ∧ ∀ p, H p = none → Q (.ref p) (upd H p (.lst (cutV xs lo hi)))
theorem sl_list : SlR X (rSlL X.K) := by
  intro pins s σ H x v vl vu lo hi sl Q I rx hs pl pu h
  obtain ⟨a, xs, rfl, hx, q⟩ := h
  cases rx
  obtain ⟨its, r, ht, hz⟩ := I.list hx
  have hlen := r.length
  refine ⟨"list", _, slot_list_getitem.lookup, ht.isList.typeIs, ?_⟩
  refine wpAny_getItem_list_slice ht.isList hs pl pu .none (by simp) ?_ (by rw [List.size_toArray] <;> omega)
  rw [slicePick_cut, ← hlen]
  refine ⟨.ref s.heap.objs.size, _, I.laid (t' := s.toks) (o := .lst (cutV xs lo hi)) (fun b ob q => Heap.get?_push_of_some _ q) (Nat.le_refl _) ?_, rfl, q _ (I.hok.fresh (Nat.le_refl _))⟩
  exact ⟨Nat.le_trans (cutV_length xs lo hi) hz, _, 0, (r.drop (HT.sIx xs.length 0 lo)).take (HT.sIx xs.length xs.length hi - HT.sIx xs.length 0 lo), Heap.get?_push_size _ rfl⟩
def flatV : V → Bool
  | .non => true
  | .bl _ => true
  | .int _ => true
  | .str _ => true
  | _ => false
def eqV : V → V → Bool
  | .non, .non => true
  | .bl a, .bl b => a == b
  | .bl a, .int b => (if a then 1 else 0) == b
  | .int a, .bl b => a == (if b then 1 else 0)
  | .int a, .int b => a == b
  | .str a, .str b => a == b
  | _, _ => false
theorem eqAt_V {A : Around} {s : Shared} {y x : V} {u v : Value} (ry : RelV y u) (rx : RelV x v) (fy : flatV y = true) (fx : flatV x = true) : SeqAt.EqAt A s u v (eqV y x) := by
  cases y with
  | non =>
    cases ry
    cases x with
    | non => cases rx; exact SeqAt.EqAt.same _
    | bl b => cases rx; exact SeqAt.EqAt.none_bool b
    | int b => obtain ⟨t, rfl⟩ := rx; exact SeqAt.EqAt.none_int b t
    | str b => obtain ⟨t, rfl⟩ := rx; exact SeqAt.EqAt.none_str b t
    | _ => exact absurd (show false = true from fx) Bool.false_ne_true
  | bl a =>
    cases ry
    cases x with
    | non => cases rx; exact SeqAt.EqAt.bool_none a
    | bl b => cases rx; exact SeqAt.EqAt.bool_bool a b
    | int b => obtain ⟨t, rfl⟩ := rx; exact SeqAt.EqAt.bool_int a b t
    | str b => obtain ⟨t, rfl⟩ := rx; exact SeqAt.EqAt.bool_str a b t
    | _ => exact absurd (show false = true from fx) Bool.false_ne_true
  | int a =>
    obtain ⟨t', rfl⟩ := ry
    cases x with
    | non => cases rx; exact SeqAt.EqAt.int_none a t'
    | bl b => cases rx; exact SeqAt.EqAt.int_bool a t' b
    | int b => obtain ⟨t, rfl⟩ := rx; exact SeqAt.EqAt.int_int a t' b t
    | str b => obtain ⟨t, rfl⟩ := rx; exact SeqAt.EqAt.int_str a t' b t
    | _ => exact absurd (show false = true from fx) Bool.false_ne_true
  | str a =>
    obtain ⟨t', rfl⟩ := ry
    cases x with
    | non => cases rx; exact SeqAt.EqAt.str_none a t'
    | bl b => cases rx; exact SeqAt.EqAt.str_bool a t' b
    | int b => obtain ⟨t, rfl⟩ := rx; exact SeqAt.EqAt.str_int a t' b t
    | str b => obtain ⟨t, rfl⟩ := rx; exact SeqAt.EqAt.str_str a t' b t
    | _ => exact absurd (show false = true from fx) Bool.false_ne_true
  | _ => exact absurd (show false = true from fy) Bool.false_ne_true
def eqU (x : V) (u : Value) : Bool := match u with
  | .none => eqV .non x
  | .bool b => eqV (.bl b) x
  | .int i _ => eqV (.int i) x
  | .str z _ => eqV (.str z) x
  | _ => false
theorem eqU_of {x y : V} {u : Value} (r : RelV y u) (f : flatV y = true) : eqU x u = eqV y x := by
  cases y with
  | non => cases r; rfl
  | bl b => cases r; rfl
  | int i => obtain ⟨t, rfl⟩ := r; rfl
  | str z => obtain ⟨t, rfl⟩ := r; rfl
  | _ => exact absurd (show false = true from f) Bool.false_ne_true
theorem any_eqU {x : V} : ∀ {xs : List V} {us : List Value}, Vals xs us → xs.all flatV = true → us.any (eqU x) = xs.any fun y => eqV y x
  | _, _, .nil, _ => rfl
  | y :: xs, u :: us, .cons r t, f => by
    rw [List.all_cons, Bool.and_eq_true] at f
    rw [List.any_cons, List.any_cons, eqU_of r f.1, any_eqU t f.2]
theorem mem_eqAt {A : Around} {s : Shared} {x : V} {v : Value} (rx : RelV x v) (fx : flatV x = true) : ∀ {xs : List V} {us : List Value}, Vals xs us → xs.all flatV = true → ∀ u ∈ us, SeqAt.EqAt A s u v (eqU x u)
  | _, _, .nil, _ => fun u hu => by cases hu
  | y :: xs, u :: us, .cons r t, f => fun u' hu => by
    rw [List.all_cons, Bool.and_eq_true] at f
    rcases List.mem_cons.mp hu with rfl | hu
    · rw [eqU_of r f.1]; exact eqAt_V r rx f.1 fx
    · exact mem_eqAt rx fx t f.2 u' hu
def inV (x : V) (xs : List V) : Bool := xs.any fun y => eqV y x
def rIn (K : PySem.W.Frag) (neg : Bool) : R2 := fun x y H Q => ∃ p xs, y = .ref p ∧ (SqL K H p xs ∨ SqT K H p xs) ∧ flatV x = true ∧ xs.all flatV = true ∧ Q (.bl (if neg then !inV x xs else inV x xs)) H
theorem op_in_seq : OpR X (compareOp .In) (rIn X.K false) := by
  intro pins s σ H x y v u Q I rx ry h
  obtain ⟨p, xs, rfl, hq, fx, fs, q⟩ := h
  cases ry
  rcases hq with hq | hq
  · obtain ⟨its, r, pl, hz⟩ := I.list hq
    refine SeqAt.in_listAt (eqU x) pl.isList (fun w hw => mem_eqAt rx fx r fs w (by simpa using hw)) ⟨.bl _, H, I, rfl, ?_⟩
    rw [show its.toArray.any (eqU x) = its.any (eqU x) by simp, any_eqU r fs]
    exact q
  · obtain ⟨its, r, pl, hz⟩ := I.tuple hq
    refine SeqAt.in_tupleAt (eqU x) pl (fun w hw => mem_eqAt rx fx r fs w (by simpa using hw)) ⟨.bl _, H, I, rfl, ?_⟩
    rw [show its.toArray.any (eqU x) = its.any (eqU x) by simp, any_eqU r fs]
    exact q
theorem op_notIn_seq : OpR X (compareOp .NotIn) (rIn X.K true) := by
  intro pins s σ H x y v u Q I rx ry h
  obtain ⟨p, xs, rfl, hq, fx, fs, q⟩ := h
  cases ry
  rcases hq with hq | hq
  · obtain ⟨its, r, pl, hz⟩ := I.list hq
    refine SeqAt.notIn_listAt (eqU x) pl.isList (fun w hw => mem_eqAt rx fx r fs w (by simpa using hw)) ⟨.bl _, H, I, rfl, ?_⟩
    rw [show its.toArray.any (eqU x) = its.any (eqU x) by simp, any_eqU r fs]
    exact q
  · obtain ⟨its, r, pl, hz⟩ := I.tuple hq
    refine SeqAt.notIn_tupleAt (eqU x) pl (fun w hw => mem_eqAt rx fx r fs w (by simpa using hw)) ⟨.bl _, H, I, rfl, ?_⟩
    rw [show its.toArray.any (eqU x) = its.any (eqU x) by simp, any_eqU r fs]
    exact q
theorem call_len_seq : CallR X (.builtin "len") (fun xs H Q => ∃ p ys, xs = [.ref p] ∧ (SqL X.K H p ys ∨ SqT X.K H p ys) ∧ Q (.int ys.length) H) := by
  intro pins s σ H xs us Q I r h
  obtain ⟨p, ys, rfl, hq, q⟩ := h
  obtain ⟨u, rfl, rx⟩ := vals1 r
  cases rx
  have hn := line63
  rcases hq with hq | hq
  · obtain ⟨its, r', pl, hz⟩ := I.list hq
    have hlen := r'.length
    exact Calls.call_len_list pl.isList (by simp only [List.size_toArray] <;> omega) ⟨.int ys.length, H, I.tok _, ⟨s.toks + 1, by rw [List.size_toArray, hlen]⟩, q⟩
  · obtain ⟨its, r', pl, hz⟩ := I.tuple hq
    have hlen := r'.length
    exact len_tuple pl (by simp only [List.size_toArray] <;> omega) ⟨.int ys.length, H, I.tok _, ⟨s.toks + 1, by rw [List.size_toArray, hlen]⟩, q⟩
theorem call_list_of : CallR X (.type "list") (fun xs H Q => ∃ p ys, xs = [.ref p] ∧ (SqL X.K H p ys ∨ SqT X.K H p ys) ∧ ∀ l, H l = none → Q (.ref l) (upd H l (.lst ys))) := by
  intro pins s σ H xs us Q I r h
  obtain ⟨p, ys, rfl, hq, q⟩ := h
  obtain ⟨u, rfl, rx⟩ := vals1 r
  cases rx
  have fin : ∀ (its : List Value), Vals ys its → ys.length ≤ sizeLine → ∀ (h' : Heap) (c' : Nat), (∀ b o', s.heap.get? b = some o' → h'.get? b = some o') →
      h'.get? s.heap.objs.size = some { cls := .type "list", dict := none, data := .seq its.toArray c', slots := #[] } → EP X pins σ Q (.ref s.heap.objs.size) { s with heap := h' } := fun its r' hz h' c' kp e =>
    ⟨.ref s.heap.objs.size, _, I.laid (t' := s.toks) kp (Nat.le_refl _) (show ObjOk X.prog X.w _ h' _ (.lst ys) from ⟨hz, its, c', r', e⟩), rfl, q _ (I.hok.fresh (Nat.le_refl _))⟩
  rcases hq with hq | hq
  · obtain ⟨its, r', pl, hz⟩ := I.list hq
    have hlen := r'.length
    obtain ⟨o, ho, hc, n, hd⟩ := pl.isList
    exact call_list_seq p (.inl rfl) ho hc hd (fun h' c' kp e => fin its r' hz h' c' kp e) (by simp only [List.size_toArray] <;> omega)
  · obtain ⟨its, r', pl, hz⟩ := I.tuple hq
    have hlen := r'.length
    obtain ⟨o, ho, hc, n, hd⟩ := pl
    exact call_list_seq p (.inr rfl) ho hc hd (fun h' c' kp e => fin its r' hz h' c' kp e) (by simp only [List.size_toArray] <;> omega)
theorem call_tuple_of : CallR X (.type "tuple") (fun xs H Q => ∃ p ys, xs = [.ref p] ∧ ((SqL X.K H p ys ∧ ∀ l, H l = none → Q (.ref l) (upd H l (.tup ys))) ∨ (SqT X.K H p ys ∧ Q (.ref p) H))) := by
  intro pins s σ H xs us Q I r h
  obtain ⟨p, ys, rfl, h⟩ := h
  obtain ⟨u, rfl, rx⟩ := vals1 r
  cases rx
  rcases h with ⟨hq, q⟩ | ⟨hq, q⟩
  · obtain ⟨its, r', pl, hz⟩ := I.list hq
    have hlen := r'.length
    refine call_tuple_list pl.isList (fun h' kp => ?_) (by simp only [List.size_toArray] <;> omega)
    have I1 : Inv X pins σ H { s with heap := h' } := I.kept (t' := s.toks) kp
    have I2 : Inv X pins σ (upd H h'.objs.size (.tup ys)) { s with heap := h'.push { cls := .type "tuple", data := .seq its.toArray } } :=
      I1.laid (t' := s.toks) (fun b o e => Heap.get?_push_of_some _ e) (Nat.le_refl _) (show ObjOk X.prog X.w _ _ _ (.tup ys) from ⟨hz, its, r', IsTup.new _ _⟩)
    exact ⟨.ref h'.objs.size, _, I2, rfl, q _ (I1.hok.fresh (Nat.le_refl _))⟩
  · obtain ⟨its, r', pl, hz⟩ := I.tuple hq
    exact call_tuple_same pl ⟨.ref p, H, I, rfl, q⟩
def tyV (K : PySem.W.Frag) (T : String) (x : V) (H : Hp) : Prop := match x with
  | .str _ => T = "str"
  | .int _ => T = "int"
  | .ref p => (T = "list" ∧ ∃ xs, SqL K H p xs) ∨ (T = "tuple" ∧ ∃ o, K.lookup p = some o ∧ o.cls = .type "tuple" ∧ o.dict = none) ∨
      (T = "dict" ∧ ((∃ kvs, H p = some (.dK kvs)) ∨ ∃ kvs, H p = some (.dT kvs))) ∨ (T = "set" ∧ ∃ S n, H p = some (.set S n))
  | _ => False
theorem tyV_is {pins : List (Addr × Obj)} {σ : St} {H : Hp} {s : Shared} {T : String} {x : V} {v : Value} (I : Inv X pins σ H s) (r : RelV x v) (ty : tyV X.K T x H) :
    s.TypeIs v T ∧ ∀ a, v = .ref a → ∃ ob, s.heap.get? a = some ob ∧ ob.dict = none := by
  cases x with
  | str z =>
    obtain ⟨t, rfl⟩ := r
    cases (show T = "str" from ty)
    exact ⟨typeIs_str s z t, fun _ e => nomatch e⟩
  | int i =>
    obtain ⟨t, rfl⟩ := r
    cases (show T = "int" from ty)
    exact ⟨typeIs_int s i t, fun _ e => nomatch e⟩
  | ref p =>
    cases r
    rcases ty with ⟨rfl, xs, hq⟩ | ⟨rfl, o, hk, hc, hd⟩ | ⟨rfl, hk⟩ | ⟨rfl, S, n, hk⟩
    · obtain ⟨its, _, pl, _⟩ := I.list hq
      refine ⟨pl.isList.typeIs, fun a e => ?_⟩
      cases e
      obtain ⟨o, n, e, c, hd, _⟩ := pl
      exact ⟨o, e, hd⟩
    · refine ⟨⟨o, I.kIn p o hk, hc⟩, fun a e => ?_⟩
      cases e
      exact ⟨o, I.kIn _ o hk, hd⟩
    · have z : ∃ o, s.heap.get? p = some o ∧ o.ExactDict := by
        rcases hk with ⟨kvs, hk⟩ | ⟨kvs, hk⟩
        · obtain ⟨_, _, _, _, o, _, _, e, ex, _⟩ := I.hok p _ hk
          exact ⟨o, e, ex⟩
        · obtain ⟨_, _, _, _, o, _, _, e, ex, _⟩ := I.hok p _ hk
          exact ⟨o, e, ex⟩
      obtain ⟨o, e, ex⟩ := z
      refine ⟨⟨o, e, ex.1⟩, fun a e2 => ?_⟩
      cases e2
      exact ⟨o, e, ex.2.1⟩
    · obtain ⟨o, _, _, _, e, ex, _⟩ := I.hok p _ hk
      refine ⟨⟨o, e, ex.1⟩, fun a e2 => ?_⟩
      cases e2
      exact ⟨o, e, ex.2.1⟩
  | _ => exact False.elim ty
def tBM0 (K : PySem.W.Frag) (T : String) (r : V → List V → Hp → VK → Prop) (to : TE) : TE := fun σ H Q => to σ H fun x H1 => tyV K T x H1 ∧ r x [] H1 Q
def tBM (K : PySem.W.Frag) (T : String) (r : V → List V → Hp → VK → Prop) (to : TE) (t : TA) : TE := fun σ H Q => to σ H fun x H1 => tyV K T x H1 ∧ t σ H1 fun xs H2 => r x xs H2 Q
variable {o e : Expr} {es : List Expr} {to : TE} {t : TA} {name : Str} {apos cpos : Pos} {T id : String} {r : V → List V → Hp → VK → Prop}
theorem pe_bm0 (pa : PlainAttrs T) (slot : Slot T name id) (hty : typeOf (.builtin id) = pure (.type "method_descriptor")) (hm : MtR X id r) (ho : PE X o to)
    (hbase : attributeBase o name X.env (eval o X.env) = eval o X.env := by rfl) (hline : (apos.endLine == cpos.line) = true := by rfl) : PE X (.Call (.Attribute o name apos) [] [] cpos) (tBM0 X.K T r to) := by
  intro pins s σ H Q I h
  refine wpAny_Call_method0_late hbase hline (thn (ho pins s σ H _ I h) fun v s1 ⟨x, H1, I1, r1, ty, q1⟩ => ?_)
  obtain ⟨h1, h2⟩ := tyV_is I1 r1 ty
  exact ⟨T, id, pa, slot, hty, h1, h2, Calls.callWith_builtin rfl (PySem.evalArgs_none (hm pins s1 σ H1 x [] v [] Q I1 r1 .nil q1))⟩
theorem pe_bm (pa : PlainAttrs T) (slot : Slot T name id) (hty : typeOf (.builtin id) = pure (.type "method_descriptor")) (hm : MtR X id r) (ho : PE X o to) (ha : PA X (e :: es) t)
    (hbase : attributeBase o name X.env (eval o X.env) = eval o X.env := by rfl)
    (hfew : ((backTo cpos (starEach (e :: es) X.env)).all (fun x => !x.1) && (backToKw cpos (keywordEach [] X.env)).all (fun x => x.1.isSome)
      && decide ((e :: es).length + ([] : List Keyword).length + (if ([] : List Keyword).isEmpty then 0 else 1) < 30)) = true := by rfl)
    (hline : (apos.endLine == cpos.line) = true := by rfl) (hs : starEach (e :: es) X.env = (false, eval e X.env) :: starEach es X.env := by rfl) (hplain : (backTo cpos (starEach es X.env)).any (·.1) = false := by rfl) :
    PE X (.Call (.Attribute o name apos) (e :: es) [] cpos) (tBM X.K T r to t) := by
  intro pins s σ H Q I h
  refine wpAny_Call_method_late hbase hfew hline rfl (thn (ho pins s σ H _ I h) fun v s1 ⟨x, H1, I1, r1, ty, q1⟩ => ?_)
  obtain ⟨h1, h2⟩ := tyV_is I1 r1 ty
  refine ⟨T, id, pa, slot, hty, h1, h2, ?_⟩
  have hA := ha cpos pins s1 σ H1 _ I1 q1
  rw [hs] at hA ⊢
  refine Calls.callWith_builtin (by show (false || (backTo cpos (starEach es X.env)).any (·.1)) = false; rw [hplain] <;> rfl) (Calls.evalArgs_plain ?_)
  exact thn hA fun us s2 ⟨vs, H2, I2, r2, q2⟩ => hm pins s2 σ H2 x vs v us Q I2 r1 r2 q2
end
end L2
namespace L2
open PySem PySem.Spec PyProof.Rows
def MtM (X : Cx) (id : String) (r : V → List V → Hp → VK → Prop) : Prop :=
  ∀ (pins : List (Addr × Obj)) (s : Shared) (σ : St) (H : Hp) (x : V) (xs : List V) (v : Value) (us : List Value) (Q : VK), Inv X pins σ H s → RelV x v → Vals xs us → r x xs H Q →
    wpAny (model X.prog X.w) X.A (call (.builtin id) (v :: us)) (EP X pins σ Q) X.xe s
theorem Vals.one : ∀ {x : V} {us : List Value}, Vals [x] us → ∃ u, us = [u] ∧ RelV x u
  | _, _, .cons r .nil => ⟨_, rfl, r⟩
theorem Vals.zero : ∀ {us : List Value}, Vals [] us → us = []
  | _, .nil => rfl
theorem Vals.dropLast {xs : List V} {us : List Value} (h : Vals xs us) : Vals xs.dropLast us.dropLast := by
  induction h with
  | nil => exact .nil
  | cons r t ih =>
    cases t with
    | nil => exact .nil
    | cons q t' => exact .cons r ih
theorem Vals.rep {xs : List V} {us : List Value} (h : Vals xs us) : ∀ k : Nat, Vals (List.replicate k xs).flatten (List.replicate k us).flatten
  | 0 => .nil
  | k + 1 => by
    rw [List.replicate_succ, List.replicate_succ, List.flatten_cons, List.flatten_cons]
    exact Vals.append h (Vals.rep h k)
theorem erase_last {α : Type} (l : List α) : l.eraseIdx (l.length - 1) = l.dropLast := by
  induction l with
  | nil => rfl
  | cons a r ih =>
    cases r with
    | nil => rfl
    | cons b r =>
      have e : (a :: b :: r).length - 1 = ((b :: r).length - 1) + 1 := by
        have h1 : (a :: b :: r).length = r.length + 2 := rfl
        have h2 : (b :: r).length = r.length + 1 := rfl
        omega
      rw [e, List.eraseIdx_cons_succ, ih]
      all_goals rfl
theorem foldl_rep (its : List Value) : ∀ (k : Nat) (acc : List Value),
    List.foldl (fun x1 x2 => x1 ++ x2) acc.toArray (List.replicate k its.toArray) = (acc ++ (List.replicate k its).flatten).toArray
  | 0, acc => by simp
  | k + 1, acc => by
    have e : acc.toArray ++ its.toArray = (acc ++ its).toArray := by simp
    have e2 : (acc ++ its) ++ (List.replicate k its).flatten = acc ++ (List.replicate (k + 1) its).flatten := by
      rw [List.replicate_succ, List.flatten_cons, List.append_assoc]
    rw [← e2, ← foldl_rep its k (acc ++ its), ← e, List.replicate_succ, List.foldl_cons]
section
variable {X : Cx} {pins : List (Addr × Obj)} {σ : St} {H : Hp} {s : Shared} {l b : Addr} {xs ys zs : List V}
theorem Inv.lset {its its' : List Value} {n : Nat} {f : Array Value → Array Value} {t' : Nat} (I : Inv X pins σ H s) (hH : H l = some (.lst xs))
    (e : s.heap.get? l = some { cls := .type "list", data := .seq its.toArray n }) (hf : f its.toArray = its'.toArray) (hv : Vals ys its') (hz : ys.length ≤ sizeLine) :
    Inv X pins σ (upd H l (.lst ys)) { s with heap := s.heap.update l (Obj.mapSeq f), toks := t' } := by
  have q := PySem.IsL.update e f
  rw [hf] at q
  refine I.write (x := l) (e := l) (by rw [hH]; exact trivial) (.inl rfl) (fun b' u hb hu => (Heap.get?_update_other s.heap (Obj.mapSeq f) (Ne.symm hb)).trans hu) ⟨_, q⟩ ?_
  exact ⟨hz, its', _, hv, q⟩
theorem Inv.lnew {its : List Value} {t' : Nat} (I : Inv X pins σ H s) (hv : Vals ys its) (hz : ys.length ≤ sizeLine) :
    Inv X pins σ (upd H s.heap.objs.size (.lst ys)) { s with heap := s.heap.push { cls := .type "list", data := .seq its.toArray }, toks := t' } :=
  I.laid (fun _ _ q => Heap.get?_push_of_some _ q) (Nat.le_refl _) ⟨hz, its, 0, hv, Heap.get?_push_size _ rfl⟩
theorem Inv.fresh (I : Inv X pins σ H s) : H s.heap.objs.size = none := I.hok.fresh (Nat.le_refl _)
theorem Inv.lstM (I : Inv X pins σ H s) (hH : H l = some (.lst xs)) : xs.length ≤ sizeLine ∧ ∃ (its : List Value) (n : Nat), Vals xs its ∧ xs.length = its.length ∧ s.heap.get? l = some { cls := .type "list", data := .seq its.toArray n } := by
  obtain ⟨z, its, n, r, e⟩ := I.hok l _ hH
  exact ⟨z, its, n, r, r.length, e⟩
theorem notLongL {n : Nat} (h : n ≤ sizeLine) : Builtin.List.listTooLong n = false := by
  unfold Builtin.List.listTooLong
  exact decide_eq_false (by omega)
end
section
variable {X : Cx}
def rAppend : V → List V → Hp → VK → Prop := fun x vs H Q => ∃ l xs y, x = .ref l ∧ vs = [y] ∧ H l = some (.lst xs) ∧ xs.length < sizeLine ∧ Q .non (upd H l (.lst (xs ++ [y])))
theorem mt_append : MtM X "list.append" rAppend := by
  intro pins s σ H x vs v us Q I rx rv h
  obtain ⟨l, xs, y, rfl, rfl, hH, hz, q⟩ := h
  cases rx
  obtain ⟨u, rfl, ru⟩ := rv.one
  obtain ⟨z, its, n, r, hl, e⟩ := I.lstM hH
  refine call_meets F.slot_list_append ⟨_, e, rfl⟩ F.entry_list_append (F.args_list_append_2 _ _) (PySem.list_append l its.toArray n u (by rw [List.size_toArray]; omega)) ⟨e, ?_⟩
  refine ⟨.non, _, I.lset (its' := its ++ [u]) hH e (by simp) (r.append (.cons ru .nil)) ?_, rfl, q⟩
  rw [List.length_append, List.length_singleton]
  omega
def rExtend : V → List V → Hp → VK → Prop := fun x vs H Q => ∃ l b xs zs, x = .ref l ∧ vs = [.ref b] ∧ H l = some (.lst xs) ∧ H b = some (.lst zs) ∧ xs.length + zs.length ≤ sizeLine ∧ Q .non (upd H l (.lst (xs ++ zs)))
theorem mt_extend : MtM X "list.extend" rExtend := by
  intro pins s σ H x vs v us Q I rx rv h
  obtain ⟨l, b, xs, zs, rfl, rfl, hH, hB, hz, q⟩ := h
  cases rx
  obtain ⟨u, rfl, ru⟩ := rv.one
  cases ru
  obtain ⟨z, its, n, r, hl, e⟩ := I.lstM hH
  obtain ⟨z2, its2, n2, r2, hl2, e2⟩ := I.lstM hB
  have hsz : its.toArray.size + its2.toArray.size ≤ sizeLine := by rw [List.size_toArray, List.size_toArray]; omega
  have hlong : ¬ (!its.toArray.isEmpty && Builtin.List.listTooLong (its.toArray.size + its2.toArray.size)) = true := by
    rw [notLongL hsz, Bool.and_false]
    exact Bool.false_ne_true
  refine call_meets F.slot_list_extend ⟨_, e, rfl⟩ F.entry_list_extend (F.args_list_extend_2 _ _)
    (AutoSeq1.list_extend_list_list_0 l its.toArray n b its2.toArray n2 hlong (by rw [List.size_toArray]; omega) (by omega)) ⟨e, e2, ?_⟩
  refine ⟨.non, _, I.lset (its' := its ++ its2) hH e (by simp) (r.append r2) ?_, rfl, q⟩
  rw [List.length_append]
  omega
def rPop : V → List V → Hp → VK → Prop := fun x vs H Q => ∃ l xs y, x = .ref l ∧ vs = [] ∧ H l = some (.lst xs) ∧ xs[xs.length - 1]? = some y ∧ Q y (upd H l (.lst xs.dropLast))
theorem mt_pop : MtM X "list.pop" rPop := by
  intro pins s σ H x vs v us Q I rx rv h
  obtain ⟨l, xs, y, rfl, rfl, hH, hy, q⟩ := h
  cases rx
  have hus := rv.zero
  subst hus
  obtain ⟨z, its, n, r, hl, e⟩ := I.lstM hH
  obtain ⟨u, hu, ru⟩ := r.get hy
  have hy' : its.toArray[its.toArray.size - 1]? = some u := by
    show its.toArray[its.length - 1]? = some u
    rw [← Array.getElem?_toList, ← hl]
    exact hu
  refine call_meets F.slot_list_pop ⟨_, e, rfl⟩ F.entry_list_pop (F.args_list_pop_1 _) (MeetsSeq.list_pop_last l its.toArray n u hy' (by rw [List.size_toArray]; omega)) ⟨e, ?_⟩
  refine ⟨y, _, I.lset (its' := its.dropLast) hH e ?_ r.dropLast ?_, ru, q⟩
  · show its.toArray.eraseIdxIfInBounds (its.toArray.size - 1) = its.dropLast.toArray
    rw [List.size_toArray, List.eraseIdxIfInBounds_toArray, erase_last]
  · rw [List.length_dropLast]
    omega
def rCat : R2 := fun x y H Q => ∃ l b xs zs, x = .ref l ∧ y = .ref b ∧ H l = some (.lst xs) ∧ H b = some (.lst zs) ∧ xs.length + zs.length ≤ sizeLine ∧ ∀ p, H p = none → Q (.ref p) (upd H p (.lst (xs ++ zs)))
theorem op_cat : OpR X (binaryOp .Add) rCat := by
  intro pins s σ H x y v u Q I rx ry h
  obtain ⟨l, b, xs, zs, rfl, rfl, hH, hB, hz, q⟩ := h
  cases rx
  cases ry
  obtain ⟨z, its, n, r, hl, e⟩ := I.lstM hH
  obtain ⟨z2, its2, n2, r2, hl2, e2⟩ := I.lstM hB
  refine PySem.P.add_list e e2 ?_ (by rw [List.size_toArray, List.size_toArray]; omega)
  have ea : its.toArray ++ its2.toArray = (its ++ its2).toArray := by simp
  rw [ea]
  exact ⟨.ref _, _, I.lnew (t' := s.toks) (r.append r2) (by rw [List.length_append]; omega), rfl, q _ I.fresh⟩
def rRep : R2 := fun x y H Q => ∃ l k xs, x = .ref l ∧ y = .int k ∧ H l = some (.lst xs) ∧ -(2 ^ 63) ≤ k ∧ k < 2 ^ 63 ∧ xs.length * k.toNat ≤ sizeLine ∧
  ∀ p, H p = none → Q (.ref p) (upd H p (.lst (List.replicate k.toNat xs).flatten))
theorem len_rep {α : Type} (xs : List α) (k : Nat) : (List.replicate k xs).flatten.length = k * xs.length := by
  induction k with
  | zero => simp
  | succ k ih => rw [List.replicate_succ, List.flatten_cons, List.length_append, ih, Nat.succ_mul, Nat.add_comm]
theorem op_rep : OpR X (binaryOp .Mult) rRep := by
  intro pins s σ H x y v u Q I rx ry h
  obtain ⟨l, k, xs, rfl, rfl, hH, h1, h2, hz, q⟩ := h
  cases rx
  obtain ⟨t, rfl⟩ := ry
  obtain ⟨z, its, n, r, hl, e⟩ := I.lstM hH
  have hlen : its.toArray.size * k.toNat ≤ sizeLine := by rw [List.size_toArray, ← hl]; exact hz
  have hcap : ¬ its.toArray.size * k.toNat > (2 ^ 63 - 1) / 8 := by
    have : (sizeLine : Nat) ≤ (2 ^ 63 - 1) / 8 := by decide
    omega
  have hfit : ¬ (!Builtin.List.listFitsIndex k) = true := by
    rw [fitsIndex_both h1 h2]
    exact Bool.false_ne_true
  have hlong : ¬ Builtin.List.listTooLong (its.toArray.size * k.toNat) = true := by
    rw [notLongL hlen]
    exact Bool.false_ne_true
  have hnew : List.foldl (fun x1 x2 => x1 ++ x2) #[] (List.replicate (if its.toArray.isEmpty = true then 0 else k.toNat) its.toArray) = (List.replicate k.toNat its).flatten.toArray := by
    have f0 : ∀ m : Nat, List.foldl (fun x1 x2 => x1 ++ x2) #[] (List.replicate m its.toArray) = (List.replicate m its).flatten.toArray := fun m => by
      have := foldl_rep its m []
      rw [List.nil_append] at this
      exact this
    rw [f0]
    cases its with
    | nil => simp
    | cons a r' => rw [if_neg (by simp)]
  refine wpAny_binaryOp_repeat_ref (T := "list") (U := "int") (by decide) ⟨_, e, rfl⟩ (fun s' => typeIs_int s' k t) noFill_list_mul F.fills_int_mul F.slot_int_rmul repeat_list F.slot_int_index.lookup
    (call_meets F.slot_int_rmul (typeIs_int s k t) F.entry_int_rmul (F.args_int_rmul_2 _ _) (int___rmul___int_list k t l its.toArray n)
      ⟨e, rfl, ⟨_, e, rfl⟩, call_meets F.slot_list_mul ⟨_, e, rfl⟩ F.entry_list_mul (F.args_list_mul_2 _ _) (AutoListH.list___mul___list_int_3 l its.toArray n k t hfit hcap hlong) ⟨e, ?_⟩⟩)
  rw [hnew]
  exact ⟨.ref _, _, I.lnew (t' := s.toks) (r.rep k.toNat) (by rw [len_rep, Nat.mul_comm]; exact hz), rfl, q _ I.fresh⟩
end
section
variable {prog : Program} {w : World} {A : Around} {E : Value → Shared → Prop} {s : Shared}
set_option maxRecDepth 100000 in
end
section
variable {X : Cx}
end
end L2
namespace L2
open PySem PySem.Spec PyProof.Rows
theorem vals_of_ints : ∀ {us : List Value} {ns : List Int}, IntsAre us ns → Vals (ns.map V.int) us
  | _, _, .nil => by rw [List.map_nil]; exact Paired.nil
  | _, _, .cons n t h => by rw [List.map_cons]; exact Paired.cons (show RelV (V.int n) (Value.int n t) from ⟨t, rfl⟩) (vals_of_ints h)
theorem Vals.bls : ∀ {bs : List Bool} {us : List Value}, Vals (bs.map V.bl) us → us = bs.map Value.bool
  | [], us, h => by
    rw [List.map_nil] at h
    cases h
    rfl
  | b :: bs, us, h => by
    rw [List.map_cons] at h
    cases h with
    | cons r t =>
      cases r
      rw [Vals.bls t, List.map_cons]
theorem Vals.ref1 {a : Addr} {us : List Value} (r : Vals [V.ref a] us) : us = [Value.ref a] := by
  cases r with
  | cons r t =>
    cases t
    cases r
    rfl
section
variable {prog : Program} {w : World} {A : Around} {E : Value → Shared → Prop} {s : Shared} {l : Addr} {its : List Value} {ns : List Int} {Q : Value → Shared → Prop}
end
section
variable {X : Cx}
end
section
variable {X : Cx}
end
section
variable {X : Cx}
end
theorem iter_any {prog : Program} {w : World} {A : Around} {E : Value → Shared → Prop} {s : Shared} {l : Addr} {items : Array Value} {Q : Value → Shared → Prop} (hl : s.heap.IsList l items)
    (h : ∀ s₂ : Shared, s₂ = { s with heap := s.heap.push { cls := .type "list_iterator", data := .fields #[.ref l, .int 0 0] } } →
      (s₂.heap.IsListIter s.heap.objs.size l 0 ∧ s₂.heap.IsList l items) → l ≠ s.heap.objs.size → Q (.ref s.heap.objs.size) s₂) : wpAny (model prog w) A (pyIter (.ref l)) Q E s := by
  have hlt : l < s.heap.objs.size := by obtain ⟨_, e, _⟩ := hl; exact Heap.lt_size e
  exact wpAny_pyIter_list hl (h _ rfl ⟨⟨_, Heap.get?_push_size _ rfl, rfl, rfl⟩, hl.push _⟩ (Nat.ne_of_lt hlt))
theorem truth_bools {prog : Program} {w : World} {A : Around} {bs : List Bool} {its : List Value} (e : its = bs.map Value.bool) :
    TruthOf prog w A (fun i v => its.toArray[i]? = some v) (fun i => bs.getD i false) := fun i v s Q E hv hq => by
  have hv' : its[i]? = some v := by simpa using hv
  rw [e, List.getElem?_map] at hv'
  obtain ⟨b, hb, rfl⟩ := Option.map_eq_some_iff.mp hv'
  have hg : bs.getD i false = b := by rw [List.getD_eq_getElem?_getD, hb] <;> rfl
  have hq' : Q (bs.getD i false) s := hq
  rw [hg] at hq'
  exact wpAny_truthy_bool hq'
theorem any_range : ∀ bs : List Bool, (List.range bs.length).any (fun i => bs.getD i false) = bs.any id
  | [] => rfl
  | b :: bs => by
    rw [List.length_cons, List.range_succ_eq_map, List.any_cons, List.any_map, List.any_cons, ← any_range bs]
    all_goals rfl
theorem all_range : ∀ bs : List Bool, (List.range bs.length).all (fun i => bs.getD i false) = bs.all id
  | [] => rfl
  | b :: bs => by
    rw [List.length_cons, List.range_succ_eq_map, List.all_cons, List.all_map, List.all_cons, ← all_range bs]
    all_goals rfl
section
variable {X : Cx}
def rAll (K : PySem.W.Frag) : List V → Hp → VK → Prop := fun vs H Q => ∃ (a : Addr) (bs : List Bool), vs = [V.ref a] ∧ SqL K H a (bs.map V.bl) ∧ Q (.bl (bs.all id)) H
theorem cr_all (hc : X.calm = true) : CallR X (.builtin "all") (rAll X.K) := by
  intro pins s σ H vs us Q I r h
  obtain ⟨a, bs, rfl, hs, q⟩ := h
  obtain ⟨its, rv, hl, _⟩ := I.list hs
  rw [Vals.ref1 r]
  have hb := rv.bls
  refine call_all_walk (iter_any hl.isList fun s₂ e2 st hne => ?_)
  subst e2
  refine ⟨_, _, _, _, _, _, _, rfl, Walks.list (A := X.A.in1) (I.ok.hd hc) _ a hne its.toArray, st, truth_bools hb, fun h' tk hk => ?_⟩
  refine ⟨.bl _, H, I.kept fun b o eo => hk b o (fun hmem => ?_) (Heap.get?_push_of_some _ eo), ?_, q⟩
  · rcases List.mem_cons.mp hmem with e1 | hmem
    · exact absurd (e1 ▸ Heap.lt_size eo) (Nat.lt_irrefl _)
    · cases hmem
  · show Value.bool _ = Value.bool _
    rw [← all_range, hb, List.size_toArray, List.length_map]
end
mutual
inductive Dp (K : PySem.W.Frag) (H : Hp) : V → PyData → Prop
  | non : Dp K H .non .none
  | bl (b : Bool) : Dp K H (.bl b) (.bool b)
  | int (i : Int) : Dp K H (.int i) (.int i)
  | str (x : Str) : Dp K H (.str x) (.str x)
  | lst {a : Addr} {xs : List V} {ds : List PyData} : SqL K H a xs → DpAll K H xs ds → Dp K H (.ref a) (.list ds)
  | tup {a : Addr} {xs : List V} {ds : List PyData} : SqT K H a xs → DpAll K H xs ds → Dp K H (.ref a) (.tuple ds)
inductive DpAll (K : PySem.W.Frag) (H : Hp) : List V → List PyData → Prop
  | nil : DpAll K H [] []
  | cons {v : V} {vs : List V} {d : PyData} {ds : List PyData} : Dp K H v d → DpAll K H vs ds → DpAll K H (v :: vs) (d :: ds)
end
section
variable {X : Cx} {pins : List (Addr × Obj)} {σ : St} {H : Hp} {s : Shared}
mutual
theorem Dp.reads (I : Inv X pins σ H s) : ∀ (d : PyData) (v : V) (u : Value), Dp X.K H v d → RelV v u → ∃ as, Reads s.heap u d as
  | .none, _, _, h, r => by
    cases h
    cases r
    exact ⟨_, Reads.none⟩
  | .bool b, _, _, h, r => by
    cases h
    cases r
    exact ⟨_, Reads.bool b⟩
  | .int i, _, _, h, r => by
    cases h
    obtain ⟨t, rfl⟩ := r
    exact ⟨_, Reads.int i t⟩
  | .str x, _, _, h, r => by
    cases h
    obtain ⟨t, rfl⟩ := r
    exact ⟨_, Reads.str x t⟩
  | .list ds, _, _, h, r => by
    cases h with
    | lst hs ha =>
      cases r
      obtain ⟨its, rv, ⟨o, n, ho, hc, _, hd⟩, _⟩ := I.list hs
      obtain ⟨as, hr⟩ := Dp.readsAll I ds _ its ha rv
      exact ⟨_, Reads.list ho hc hd hr⟩
  | .tuple ds, _, _, h, r => by
    cases h with
    | tup hs ha =>
      cases r
      obtain ⟨its, rv, ⟨o, ho, hc, n, hd⟩, _⟩ := I.tuple hs
      obtain ⟨as, hr⟩ := Dp.readsAll I ds _ its ha rv
      exact ⟨_, Reads.tuple ho hc hd hr⟩
  | .dict _, _, _, h, _ => by cases h
theorem Dp.readsAll (I : Inv X pins σ H s) : ∀ (ds : List PyData) (vs : List V) (us : List Value), DpAll X.K H vs ds → Vals vs us → ∃ as, ReadsAll s.heap us ds as
  | [], _, _, h, r => by
    cases h
    cases r
    exact ⟨_, ReadsAll.nil⟩
  | d :: ds, _, _, h, r => by
    cases h with
    | cons h1 h2 =>
      cases r with
      | cons r1 r2 =>
        obtain ⟨as, q1⟩ := Dp.reads I d _ _ h1 r1
        obtain ⟨bs, q2⟩ := Dp.readsAll I ds _ _ h2 r2
        exact ⟨_, ReadsAll.cons q1 q2⟩
end
end
section
variable {X : Cx}
def rEqD (K : PySem.W.Frag) : R2 := fun x y H Q => ∃ d e, Dp K H x d ∧ Dp K H y e ∧ SeqAt.shaped d = true ∧ SeqAt.shaped e = true ∧ Q (.bl (PyData.eqv d e)) H
theorem op_eqD (hu : X.A.units + 64 < cLine) : OpR X (compareOp .Eq) (rEqD X.K) := by
  intro pins s σ H x y v u Q I rx ry h
  obtain ⟨d, e, hd, he, sd, se, q⟩ := h
  obtain ⟨as, r1⟩ := Dp.reads I d x v hd rx
  obtain ⟨bs, r2⟩ := Dp.reads I e y u he ry
  exact SeqAt.compareEq_shaped r1 r2 sd se hu ⟨.bl _, H, I, rfl, q⟩
end
end L2
namespace L2
open PySem PySem.Spec PyProof.Rows
abbrev CellAt (h : Heap) (c : Addr) (v : Option Value) : Prop := h.IsCell c v
def relS (scope sc : Scope) : Scope :=
  { scope with names := scope.names.map fun (n, k) => if (k == .free && sc.kind == .function && sc.names.lookup n == some .cell) then (n, .cell) else (n, k) }
def cloFrom (cells : List (Str × Addr)) : List (Str × NameKind) → List (Str × Addr) → List (Str × Addr)
  | [], acc => acc
  | (n, k) :: r, acc => if k == .free then cloFrom cells r ((n, (cells.lookup n).getD 0) :: acc) else cloFrom cells r acc
theorem closure_loop (env : Env) (f : Str × NameKind → List (Str × Addr) → Sem (ForInStep (List (Str × Addr))))
    (hf : ∀ n k c, f (n, k) c = if k == .free then (do let a ← cellOf env n; pure (.yield ((n, a) :: c))) else pure (.yield c)) :
    ∀ (names : List (Str × NameKind)) (acc : List (Str × Addr)), (∀ y ∈ names, y.2 = .free → ∃ c, env.cells.lookup y.1 = some c) → forIn names acc f = pure (cloFrom env.cells names acc)
  | [], acc, _ => by rw [List.forIn_nil]; rfl
  | (n, k) :: r, acc, h => by
    rw [List.forIn_cons, hf]
    have ih := fun acc => closure_loop env f hf r acc fun y hy => h y (List.mem_cons_of_mem _ hy)
    unfold cloFrom
    by_cases hk : (k == NameKind.free) = true
    · rw [if_pos hk, if_pos hk]
      obtain ⟨c, hc⟩ := h (n, k) List.mem_cons_self (by simpa using hk)
      have e : cellOf env n = pure c := by unfold cellOf; rw [hc]
      rw [e]
      have e2 : (env.cells.lookup n).getD 0 = c := by rw [hc]; rfl
      rw [e2]
      exact ih _
    · rw [if_neg hk, if_neg hk]
      exact ih _
theorem closure_ok {scope : Scope} {env : Env} (h : ∀ y ∈ scope.names, y.2 = .free → ∃ c, env.cells.lookup y.1 = some c) : closureFor scope env = pure (cloFrom env.cells scope.names []) := by
  simp only [closureFor]
  rw [closure_loop env _ (fun n k c => rfl) scope.names [] h]
  rfl
theorem mem_lookup {α : Type} : ∀ {l : List (Str × α)} {n : Str} {c : α}, (n, c) ∈ l → ∃ c', l.lookup n = some c'
  | (k, v) :: r, n, c, h => by
    rw [List.lookup_cons]
    cases hb : n == k with
    | true => exact ⟨_, rfl⟩
    | false =>
      rcases List.mem_cons.mp h with e | h
      · cases e; simp at hb
      · exact mem_lookup h
theorem cloFrom_mem {cells : List (Str × Addr)} : ∀ {names : List (Str × NameKind)} {acc : List (Str × Addr)} {n : Str} {c : Addr}, (n, c) ∈ cloFrom cells names acc → (n, c) ∈ acc ∨ ((n, .free) ∈ names ∧ c = (cells.lookup n).getD 0)
  | [], _, _, _, h => .inl h
  | (m, k) :: r, acc, n, c, h => by
    unfold cloFrom at h
    split at h
    · rename_i hk
      have hk : k = .free := by simpa using hk
      rcases cloFrom_mem h with h | ⟨h1, h2⟩
      · rcases List.mem_cons.mp h with e | h
        · cases e; exact .inr ⟨hk ▸ List.mem_cons_self, rfl⟩
        · exact .inl h
      · exact .inr ⟨List.mem_cons_of_mem _ h1, h2⟩
    · rcases cloFrom_mem h with h | ⟨h1, h2⟩
      · exact .inl h
      · exact .inr ⟨List.mem_cons_of_mem _ h1, h2⟩
theorem cloFrom_acc {cells : List (Str × Addr)} : ∀ {names : List (Str × NameKind)} {acc : List (Str × Addr)} {p : Str × Addr}, p ∈ acc → p ∈ cloFrom cells names acc
  | [], _, _, h => h
  | (m, k) :: r, acc, p, h => by
    unfold cloFrom
    split
    · exact cloFrom_acc (List.mem_cons_of_mem _ h)
    · exact cloFrom_acc h
theorem cloFrom_has {cells : List (Str × Addr)} : ∀ {names : List (Str × NameKind)} {acc : List (Str × Addr)} {n : Str}, (n, .free) ∈ names → (n, (cells.lookup n).getD 0) ∈ cloFrom cells names acc
  | (m, k) :: r, acc, n, h => by
    unfold cloFrom
    rcases List.mem_cons.mp h with e | h
    · cases e
      exact cloFrom_acc List.mem_cons_self
    · split
      · exact cloFrom_has h
      · exact cloFrom_has h
theorem cells_mem : ∀ {names : List (Str × NameKind)} {h : Heap} {acc : List (Str × Addr)} {x : Str} {c : Addr}, (x, c) ∈ cellsFrom h.objs.size names acc →
    (x, c) ∈ acc ∨ ((x, .cell) ∈ names ∧ h.objs.size ≤ c ∧ CellAt (pushCells h names) c none)
  | [], _, _, _, _, h => .inl h
  | (n, k) :: r, h, acc, x, c, hm => by
    unfold cellsFrom at hm
    unfold pushCells
    split at hm
    · rename_i hk
      rw [if_pos hk]
      have hk : k = .cell := by simpa using hk
      rw [← Heap.size_push h { cls := .type "cell", data := .cell none }] at hm
      rcases cells_mem hm with hm | ⟨h1, h2, h3⟩
      · rcases List.mem_cons.mp hm with e | hm
        · cases e
          exact .inr ⟨hk ▸ List.mem_cons_self, Nat.le_refl _, _, pushCells_keeps r _ _ _ (Heap.get?_push_size _ rfl), rfl⟩
        · exact .inl hm
      · rw [Heap.size_push] at h2
        exact .inr ⟨List.mem_cons_of_mem _ h1, Nat.le_of_succ_le h2, h3⟩
    · rename_i hk
      rw [if_neg hk]
      rcases cells_mem hm with hm | ⟨h1, h2, h3⟩
      · exact .inl hm
      · exact .inr ⟨List.mem_cons_of_mem _ h1, h2, h3⟩
theorem cells_acc : ∀ {names : List (Str × NameKind)} {n : Nat} {acc : List (Str × Addr)} {p : Str × Addr}, p ∈ acc → p ∈ cellsFrom n names acc
  | [], _, _, _, h => h
  | (m, k) :: r, n, acc, p, h => by
    unfold cellsFrom
    split
    · exact cells_acc (List.mem_cons_of_mem _ h)
    · exact cells_acc h
theorem cells_has : ∀ {names : List (Str × NameKind)} {n : Nat} {acc : List (Str × Addr)} {x : Str}, (x, .cell) ∈ names → ∃ c, (x, c) ∈ cellsFrom n names acc
  | (m, k) :: r, n, acc, x, h => by
    unfold cellsFrom
    rcases List.mem_cons.mp h with e | h
    · cases e
      exact ⟨n, cells_acc List.mem_cons_self⟩
    · split
      · exact cells_has h
      · exact cells_has h
theorem cells_inj : ∀ {names : List (Str × NameKind)} {h : Heap} {acc : List (Str × Addr)} {x y : Str} {c : Addr}, (∀ p ∈ acc, p.2 < h.objs.size) → (∀ x y c, (x, c) ∈ acc → (y, c) ∈ acc → x = y) →
    (x, c) ∈ cellsFrom h.objs.size names acc → (y, c) ∈ cellsFrom h.objs.size names acc → x = y
  | [], _, _, _, _, _, _, hi, h1, h2 => hi _ _ _ h1 h2
  | (n, k) :: r, h, acc, x, y, c, hl, hi, h1, h2 => by
    unfold cellsFrom at h1 h2
    split at h1
    · rename_i hk
      rw [if_pos hk] at h2
      rw [← Heap.size_push h { cls := .type "cell", data := .cell none }] at h1 h2
      refine cells_inj (h := h.push _) (fun p hp => ?_) (fun x y c a b => ?_) h1 h2
      · rw [Heap.size_push]
        rcases List.mem_cons.mp hp with rfl | hp
        · exact Nat.lt_succ_self _
        · exact Nat.lt_succ_of_lt (hl p hp)
      · rcases List.mem_cons.mp a with e | a <;> rcases List.mem_cons.mp b with e' | b
        · cases e; cases e'; rfl
        · cases e; exact absurd (hl _ b) (Nat.lt_irrefl _)
        · cases e'; exact absurd (hl _ a) (Nat.lt_irrefl _)
        · exact hi _ _ _ a b
    · rename_i hk
      rw [if_neg hk] at h2
      exact cells_inj hl hi h1 h2
theorem newEnv_comp {M : Model} {A : Around} {E : Value → Shared → Prop} {s : Shared} {scope : Scope} {globals : Addr} {closure : List (Str × Addr)} {qual : Str} {func : Option Addr} {code : Value} {around : Env} {builtins : Addr} {Q : Env → Shared → Prop}
    (h : Q (newEnv scope s.heap.objs.size globals (cellsFrom (s.heap.objs.size + 1) scope.names closure) qual func code (some around) builtins)
      { s with heap := pushCells (s.heap.push { cls := .type "dict", data := .dict #[] }) scope.names }) :
    wpAny M A (newFunctionEnv scope globals closure [] qual func code (some around) builtins) Q E s := by
  simp only [newFunctionEnv, Option.isSome_some, if_true]
  refine wpAny_bind (wpAny_alloc ?_)
  refine wpAny_bind (wpAny_layCells _ (fun n k c => rfl) scope.names closure _ _ ?_)
  rw [show ({ s with heap := s.heap.push { cls := .type "dict", data := .dict #[] } } : Shared).heap.objs.size = s.heap.objs.size + 1 from Heap.size_push ..]
  rw [List.forIn_nil]
  exact wpAny_bind (wpAny_pure (wpAny_pure h))
theorem lookup_relS {sc : Scope} : ∀ {names : List (Str × NameKind)} {x : Str} {k : NameKind},
    (names.map fun (n, k) => if (k == NameKind.free && sc.kind == .function && sc.names.lookup n == some .cell) then (n, NameKind.cell) else (n, k)).lookup x = some k →
    ∃ k', names.lookup x = some k' ∧ (k = k' ∨ (k' = .free ∧ k = .cell))
  | [], _, _, h => by simp at h
  | (n, k₀) :: r, x, k, h => by
    have ih := @lookup_relS sc r x k
    have h' : List.lookup x ((if (k₀ == NameKind.free && sc.kind == .function && sc.names.lookup n == some .cell) = true then (n, NameKind.cell) else (n, k₀)) :: (r.map _)) = some k := h
    cases hx : x == n with
    | true =>
      simp only [List.lookup_cons, hx]
      by_cases hc : (k₀ == NameKind.free && sc.kind == .function && sc.names.lookup n == some .cell) = true
      · rw [if_pos hc] at h'
        simp only [List.lookup_cons, hx] at h'
        cases h'
        simp only [Bool.and_eq_true, beq_iff_eq] at hc
        exact ⟨k₀, rfl, .inr ⟨hc.1.1, rfl⟩⟩
      · rw [if_neg hc] at h'
        simp only [List.lookup_cons, hx] at h'
        cases h'
        exact ⟨_, rfl, .inl rfl⟩
    | false =>
      simp only [List.lookup_cons, hx]
      by_cases hc : (k₀ == NameKind.free && sc.kind == .function && sc.names.lookup n == some .cell) = true
      · rw [if_pos hc] at h'
        simp only [List.lookup_cons, hx] at h'
        exact ih h'
      · rw [if_neg hc] at h'
        simp only [List.lookup_cons, hx] at h'
        exact ih h'
structure BlkOk (N : List Str) (sc scope : Scope) (own : List (Str × Nat)) : Prop where
  kind : scope.kind = .function
  uniq : ∀ y ∈ scope.names, scope.names.lookup y.1 = some y.2
  ix : ∀ p ∈ own, N[p.2]? = some p.1
  free : ∀ y ∈ scope.names, y.2 = .free → sc.names.lookup y.1 = some .cell ∨ sc.names.lookup y.1 = some .free
  own : ∀ y ∈ scope.names, y.2 = .local ∨ y.2 = .cell → y.1 ∈ own.map (·.1) ∨ y.1 ∉ N
def wipe (σ : St) : List Nat → St
  | [] => σ
  | v :: vs => (wipe σ vs).set v none
theorem wipe_length (σ : St) : ∀ vs : List Nat, (wipe σ vs).length = σ.length
  | [] => rfl
  | v :: vs => by unfold wipe; rw [List.length_set, wipe_length σ vs]
theorem wipe_some {σ : St} {i : Nat} {x : V} : ∀ {vs : List Nat}, (wipe σ vs)[i]? = some (some x) → σ[i]? = some (some x) ∧ i ∉ vs
  | [], h => ⟨h, by simp⟩
  | v :: vs, h => by
    unfold wipe at h
    by_cases hi : v = i
    · subst hi
      by_cases hv : v < (wipe σ vs).length
      · rw [List.getElem?_set_self hv] at h; cases h
      · rw [List.getElem?_eq_none (by simpa using hv)] at h; cases h
    · rw [List.getElem?_set_ne hi] at h
      obtain ⟨h1, h2⟩ := wipe_some h
      exact ⟨h1, by simp only [List.mem_cons, not_or]; exact ⟨fun e => hi e.symm, h2⟩⟩
abbrev Cx.blk (X : Cx) (s : Shared) (H : Hp) (scope : Scope) (cenv : Env) (fp : List Addr) : Cx := { X with s₀ := s, H₀ := H, env := cenv, outer := X.stack, ex := fp, fn := fun x => scope.names.lookup x == some .cell, pn := [], xe := fun _ _ => False }
section
variable {X : Cx} {pins : List (Addr × Obj)} {σ : St} {H : Hp} {s : Shared}
theorem block_start {scope : Scope} {own : List (Str × Nat)} {fp : List Addr} (I : Inv X pins σ H s) (ok : BlkOk X.N X.env.scope scope own) (hN : X.N.Nodup) (hfp : ∀ b ∈ fp, FpOk X pins H b ∧ b < s.heap.objs.size) :
    Inv (X.blk s H scope (compEnvC scope (cellsFrom (s.heap.objs.size + 1) scope.names (cloFrom X.env.cells scope.names [])) s.heap.objs.size X.env) fp) [] (wipe σ (own.map (·.2))) H { s with heap := pushCells (s.heap.push { cls := .type "dict", data := .dict #[] }) scope.names } := by
  have hfree : ∀ y ∈ scope.names, y.2 = .free → ∃ c, X.env.cells.lookup y.1 = some c := fun y hy e => by
    rcases ok.free y hy e with k | k
    · exact I.ok.has _ (.inl k)
    · exact I.ok.has _ (.inr k)
  generalize hcenv : compEnvC scope (cellsFrom (s.heap.objs.size + 1) scope.names (cloFrom X.env.cells scope.names [])) s.heap.objs.size X.env = cenv
  have kp : ∀ b o, s.heap.get? b = some o → (pushCells (s.heap.push { cls := .type "dict", data := .dict #[] }) scope.names).get? b = some o := fun b o e => pushCells_keeps _ _ _ _ (Heap.get?_push_of_some _ e)
  have hL : cenv.locals = s.heap.objs.size := by rw [← hcenv]; rfl
  have hcl : cenv.cells = cellsFrom (s.heap.objs.size + 1) scope.names (cloFrom X.env.cells scope.names []) := by rw [← hcenv]; rfl
  have hsc : cenv.scope = relS scope X.env.scope := by rw [← hcenv]; rfl
  rw [← Heap.size_push s.heap { cls := .type "dict", data := .dict #[] }] at hcl
  have cm : ∀ {y c}, (y, c) ∈ cloFrom X.env.cells scope.names [] → X.env.cells.lookup y = some c ∧ c < s.heap.objs.size := fun {y c} hm => by
    rcases cloFrom_mem hm with hm | ⟨h1, rfl⟩
    · cases hm
    · obtain ⟨c, hc⟩ := hfree _ h1 rfl
      rw [hc]
      obtain ⟨w, z⟩ := I.cell _ _ hc
      exact ⟨rfl, z.lt⟩
  have mem : ∀ {y c}, cenv.cells.lookup y = some c → (X.env.cells.lookup y = some c ∧ c < s.heap.objs.size) ∨ (s.heap.objs.size + 1 ≤ c ∧ CellAt (pushCells (s.heap.push { cls := .type "dict", data := .dict #[] }) scope.names) c none) := fun {y c} e => by
    rw [hcl] at e
    rcases cells_mem (PySem.mem_of_lookup e) with hm | ⟨_, h2, h3⟩
    · exact .inl (cm hm)
    · rw [Heap.size_push] at h2; exact .inr ⟨h2, h3⟩
  have look : ∀ {y}, scope.names.lookup y = some .free → ∃ c, cenv.cells.lookup y = some c ∧ X.env.cells.lookup y = some c := fun {y} hl => by
    have hy : (y, NameKind.free) ∈ scope.names := PySem.mem_of_lookup hl
    obtain ⟨c', e'⟩ := mem_lookup (cells_acc (names := scope.names) (n := (s.heap.push { cls := .type "dict", data := .dict #[] }).objs.size) (cloFrom_has (cells := X.env.cells) (acc := []) hy))
    rw [← hcl] at e'
    refine ⟨c', e', ?_⟩
    rw [hcl] at e'
    rcases cells_mem (PySem.mem_of_lookup e') with hm | ⟨h1, _, _⟩
    · exact (cm hm).1
    · have := ok.uniq _ h1
      rw [hl] at this; cases this
  have okB : (X.blk s H scope cenv fp).Ok := by
    refine ⟨I.ok.mod, by show cenv.scope.kind = _; rw [hsc]; exact ok.kind, by show cenv.globals = _; rw [← hcenv]; exact I.ok.glob, by show cenv.builtins = _; rw [← hcenv]; exact I.ok.blt, by show s.heap.objs.size ≤ cenv.locals; rw [hL]; exact Nat.le_refl _,
      fun y z c e1 e2 => ?_, fun y hy => ?_, fun y c z e => ?_, I.ok.hd, I.ok.frames, .inl rfl, fun b hb => ⟨?_, fun y c e z => ?_⟩, I.bs, Nat.le_trans I.ok.bsz I.sz, fun b o e hb => ?_, fun b hb z => ?_, I.stack, I.stkFree⟩
    · have e1 : cenv.cells.lookup y = some c := e1
      have e2 : cenv.cells.lookup z = some c := e2
      rw [hcl] at e1 e2
      refine cells_inj (fun p hp => ?_) (fun y z c a b => I.ok.inj y z c (cm a).1 (cm b).1) (PySem.mem_of_lookup e1) (PySem.mem_of_lookup e2)
      rw [Heap.size_push]
      exact Nat.lt_succ_of_lt (cm (y := p.1) (c := p.2) hp).2
    · show ∃ c, cenv.cells.lookup y = some c
      have key : ∀ k, cenv.kindOf y = some k → (k = .cell ∨ k = .free) → ∃ c, cenv.cells.lookup y = some c := fun k hk hk' => by
        unfold Env.kindOf at hk
        rw [hsc] at hk
        obtain ⟨k', e, r⟩ := lookup_relS hk
        have : k' = .cell ∨ k' = .free := by
          rcases r with rfl | ⟨rfl, _⟩
          · exact hk'
          · exact .inr rfl
        rcases this with rfl | rfl
        · obtain ⟨c, hm⟩ := cells_has (n := (s.heap.push { cls := .type "dict", data := .dict #[] }).objs.size) (acc := cloFrom X.env.cells scope.names []) (PySem.mem_of_lookup e)
          obtain ⟨c', e'⟩ := mem_lookup hm
          exact ⟨c', by rw [hcl]; exact e'⟩
        · obtain ⟨c, h1, _⟩ := look e
          exact ⟨c, h1⟩
      rcases hy with hy | hy
      · exact key _ hy (.inl rfl)
      · exact key _ hy (.inr rfl)
    · have z : (scope.names.lookup y == some NameKind.cell) = true := z
      have z : scope.names.lookup y = some .cell := by simpa using z
      have e : cenv.cells.lookup y = some c := e
      rw [hcl] at e
      rcases cells_mem (PySem.mem_of_lookup e) with hm | ⟨_, h2, _⟩
      · rcases cloFrom_mem hm with hm | ⟨h1, _⟩
        · cases hm
        · have q := ok.uniq _ h1
          rw [z] at q; cases q
      · rw [Heap.size_push] at h2
        exact Nat.le_of_succ_le h2
    · show b ≠ cenv.locals
      rw [hL]; exact Nat.ne_of_lt (hfp b hb).2
    · have e : cenv.cells.lookup y = some c := e
      rcases mem e with ⟨h1, _⟩ | ⟨h1, _⟩
      · exact (hfp b hb).1.2.2.2.2.1 y c h1 z
      · have h2 : s.heap.objs.size + 1 ≤ b := by rw [← z]; exact h1
        exact absurd (Nat.lt_of_lt_of_le (hfp b hb).2 (Nat.le_of_succ_le h2)) (Nat.lt_irrefl _)
    · rcases (hfp b hb).1.2.2.2.1 with z | z
      · exact I.ok.noex b o e z
      · exact absurd (Nat.lt_of_lt_of_le (Heap.lt_size e) (Nat.le_trans I.ok.bsz z)) (Nat.lt_irrefl _)
    · rcases List.mem_cons.mp (I.stkSub b z) with z | z
      · exact (hfp b hb).1.2.1 z
      · exact (hfp b hb).1.2.2.1 z
  refine ⟨okB, rfl, I.bare, Un.kept kp, ⟨fun _ => none, ?_, fun i y av e1 e2 e3 => ?_⟩, fun y c e => ?_, ?_, fun y c e => ?_, fun p hp => ?_, I.hok.kept kp, by rw [wipe_length]; exact I.len⟩
  · show Heap.Ns _ cenv.locals _
    rw [hL]
    exact Heap.Ns.keeps (Heap.Ns.new ..) fun b o e => pushCells_keeps _ _ _ _ e
  · obtain ⟨e2, hne⟩ := wipe_some e2
    have hfr : scope.names.lookup y = some .free ∧ (cenv.kindOf y = some .cell ∨ cenv.kindOf y = some .free) := by
      have key : ∀ k, cenv.scope.names.lookup y = some k → k = .local ∨ k = .cell ∨ k = .free → scope.names.lookup y = some .free ∧ (cenv.kindOf y = some .cell ∨ cenv.kindOf y = some .free) := fun k hk hk' => by
        have hk0 := hk
        rw [hsc] at hk
        obtain ⟨k', e, r⟩ := lookup_relS hk
        have no : ¬ (k' = .local ∨ k' = .cell) := fun hh => by
          rcases ok.own _ (PySem.mem_of_lookup e) hh with e' | e'
          · obtain ⟨p, hp, hpy⟩ := List.mem_map.mp e'
            have e3 := ok.ix p hp
            have : p.1 = y := hpy
            rw [this] at e3
            exact hne (List.mem_map.mpr ⟨p, hp, nodup_ix hN e3 e1⟩)
          · exact e' (List.mem_of_getElem? e1)
        rcases r with rfl | ⟨rfl, rfl⟩
        · rcases hk' with rfl | rfl | rfl
          · exact absurd (.inl rfl) no
          · exact absurd (.inr rfl) no
          · exact ⟨e, .inr hk0⟩
        · exact ⟨e, .inl hk0⟩
      have e3 : Vis cenv.scope y := e3
      rcases e3 with e3 | e3 | e3
      · exact key _ e3 (.inl rfl)
      · exact key _ e3 (.inr (.inl rfl))
      · exact key _ e3 (.inr (.inr rfl))
    obtain ⟨m, hn, hl⟩ := I.loc
    have hvis : Vis X.env.scope y := (ok.free _ (PySem.mem_of_lookup hfr.1) rfl).elim (fun k => .inr (.inl k)) (fun k => .inr (.inr k))
    obtain ⟨w, r, q⟩ := hl i y av e1 e2 hvis
    refine ⟨w, r, .inr ⟨hfr.2, ?_⟩⟩
    obtain ⟨c, h1, h2⟩ := look hfr.1
    rcases q with ⟨k, _⟩ | ⟨_, c', e', z⟩
    · have k : X.env.scope.names.lookup y = some .local := k
      rcases ok.free _ (PySem.mem_of_lookup hfr.1) rfl with k' | k' <;> rw [show X.env.scope.names.lookup y = _ from k'] at k <;> cases k
    · rw [h2] at e'; cases e'
      exact ⟨c, h1, z.keeps kp⟩
  · have e : cenv.cells.lookup y = some c := e
    rcases mem e with ⟨h1, _⟩ | ⟨_, z⟩
    · obtain ⟨w, z⟩ := I.cell y c h1
      exact ⟨w, z.keeps kp⟩
    · exact ⟨_, z⟩
  · show H cenv.locals = none
    rw [hL]; exact I.hok.fresh (Nat.le_refl _)
  · have e : cenv.cells.lookup y = some c := e
    rcases mem e with ⟨h1, _⟩ | ⟨h1, _⟩
    · exact I.freeC y c h1
    · exact I.hok.fresh (Nat.le_of_succ_le h1)
  · exact absurd (show p ∈ ([] : List (Addr × Obj)) ++ [] from hp) (by simp)
theorem app_ok {E : Value → Shared → Prop} {D : Addr} {xs : List V} {y : V} {v : Value} {Q : Value → Shared → Prop} (I : Inv X pins σ H s) (hD : H D = some (.lst xs)) (hz : xs.length < sizeLine) (r : RelV y v)
    (h : ∀ s', Inv X pins σ (upd H D (.lst (xs ++ [y]))) s' → Q .none s') : wpAny (model X.prog X.w) X.A (call (.builtin "list.append") [.ref D, v]) Q E s := by
  obtain ⟨hz', its, n, ri, e⟩ := I.hok D _ hD
  have hl := ri.length
  refine append_at (hsz := by rw [List.size_toArray]; omega) e fun h' sb ho' => ?_
  refine h { s with heap := h' } (I.write (t' := s.toks) (by rw [hD]; trivial) (.inl rfl) (fun b u hb q => (sb.2 b hb).trans q) ⟨_, ho'⟩ ⟨by rw [List.length_append]; exact hz, its ++ [v], n + 1, ri.append (.cons r .nil), ?_⟩)
  rw [ho']
  simp
def PTs (X : Cx) (ifs : List Expr) (t : TT) : Prop :=
  ∀ (pins : List (Addr × Obj)) (s : Shared) (σ : St) (H : Hp) (Q : Bool → Hp → Prop), Inv X pins σ H s → t σ H Q →
    wpAny (model X.prog X.w) X.A (forIn ifs true fun c r => if r = true then do let ok ← isTrue c X.env (eval c X.env); pure (ForInStep.yield ok) else pure (ForInStep.yield r)) (TP X pins σ Q) X.xe s
def tYes : TT := fun _ H Q => Q true H
theorem pts_nil : PTs X [] tYes := fun _ _ _ H _ I h => wpAny_tests_nil ⟨H, I, h⟩
theorem pts_one {c : Expr} {t : TT} (h : PT X c t) : PTs X [c] t := fun pins s σ H Q I hw => wpAny_tests_one (h pins s σ H Q I hw)
end
theorem thnF {α : Type} {t : Sem α} {Q Q' : α → Shared → Prop} {M : Model} {A : Around} {E : Value → Shared → Prop} {s : Shared} (h : wpAny M A t Q (fun _ _ => False) s) (hQ : ∀ a s, Q a s → Q' a s) : wpAny M A t Q' E s := wpAny_mono h hQ fun _ _ z => False.elim z
theorem compLoop_any {prog : Program} {w : World} {A : Around} {R : Result → Shared → Prop} {s : Shared} {elt target iter : Expr} {ifs : List Expr} {scope : Scope} {pos : Pos} {it acc : Value} {env : Env} (I : Nat → Shared → Prop)
    (turn : ∀ n s, I n s → wpAny (model prog w) A (pyNext it) (fun r s₁ => match r with
      | none => R (.ok .next) s₁
      | some v => wpAny (model prog w) A (letOwnedTupleGo target it v) (fun _ s₁' => wpAny (model prog w) A (assign target env v) (fun _ s₂ =>
          wpAny (model prog w) A (forIn ifs true fun c r => if r = true then do let ok ← isTrue c env (eval c env); pure (ForInStep.yield ok) else pure (ForInStep.yield r)) (fun ok s₃ =>
            if ok = true then wpAny (model prog w) A (eval elt env) (fun x s₄ =>
              wpAny (model prog w) A (call (.builtin "list.append") [acc, x]) (fun _ s₅ => ∃ m, m < n ∧ I m s₅) (notedBy (model prog w) A env fun e s' => R (.error e) s') s₄) (notedBy (model prog w) A env fun e s' => R (.error e) s') s₃
            else ∃ m, m < n ∧ I m s₃) (notedBy (model prog w) A env fun e s' => R (.error e) s') s₂) (notedBy (model prog w) A env fun e s' => R (.error e) s') s₁') (notedBy (model prog w) A env fun e s' => R (.error e) s') s₁) (notedBy (model prog w) A env fun e s' => R (.error e) s') s)
    (n : Nat) (h : I n s) :
    codeAny (model prog w) A (.compLoop (.ListComp elt [⟨target, iter, ifs, 0⟩] scope pos) 0 it acc env) R s := by
  refine codeAny_loop rfl I (fun n s hI => ?_) n h
  show wpAny _ A ((compTurn (.ListComp elt [⟨target, iter, ifs, 0⟩] scope pos) 0 it acc env).onRaise (fun x => do noteFrame x env; theTreesLotGoes x)) _ _ s
  refine wpAny_noted ?_
  rw [compTurn_list]
  refine wpAny_bind (wpAny_standAt (wpAny_bind (wpAny_mono (turn n s hI) (fun r s₁ h₁ => ?_) fun _ _ h' => h')))
  cases r with
  | none => exact wpAny_pure h₁
  | some v =>
    refine wpAny_bind (wpAny_mono h₁ (fun _ s₁' h₁' => ?_) fun _ _ h' => h')
    refine wpAny_bind (wpAny_mono h₁' (fun _ s₂ h₂ => wpAny_bind (wpAny_mono h₂ (fun ok s₃ h₃ => ?_) fun _ _ h' => h')) fun _ _ h' => h')
    cases ok with
    | false => exact wpAny_pure ⟨rfl, h₃⟩
    | true =>
      exact wpAny_bind (wpAny_bind (wpAny_mono h₃ (fun x s₄ h₄ => wpAny_bind (wpAny_mono h₄ (fun _ s₅ h₅ => wpAny_pure (wpAny_pure ⟨rfl, h₅⟩)) fun _ _ h' => h')) fun _ _ h' => h'))
section
variable {X : Cx}
def tLc (wi : TI) (g : TG) (tt : TT) (te : TE) (vs : List Nat) : TE := fun σ H Q => wi σ H fun J H1 => ∀ D, H1 D = none → ∃ W : Nat → Nat → Hp → Prop, (∃ m, W 0 m (upd H1 D (.lst []))) ∧ ∀ i m H, W i m H →
  (J.stop i H ∧ Q (.ref D) H) ∨ (J.go i H ∧ ∃ Nx : Hp → Prop, (∀ H', Nx H' → ∃ m', m' < m ∧ W (i + 1) m' H') ∧ ∀ x H', J.yld i H x H' → g x (wipe σ vs) H' fun σ2 H2 => wipe σ2 vs = wipe σ vs ∧ tt σ2 H2 fun b H3 =>
    if b = true then te σ2 H3 fun y H4 => ∃ acc, H4 D = some (.lst acc) ∧ acc.length < sizeLine ∧ Nx (upd H4 D (.lst (acc ++ [y]))) else Nx H3)
theorem lc_core {pins : List (Addr × Obj)} {s : Shared} {σ : St} {H : Hp} {Q : VK} {elt tg iter : Expr} {ifs : List Expr} {scope : Scope} {own : List (Str × Nat)} {pos pos' : Pos} {wi : TI} {g : TG} {tt : TT} {te : TE} {use : Option (Value → Sem Unit)} {Qf : Value → Shared → Prop}
    (hc : X.calm = true) (hN : X.N.Nodup) (I : Inv X pins σ H s) (hi : PI X tg iter wi) (ok : BlkOk X.N X.env.scope scope own)
    (hg : ∀ (s : Shared) (H : Hp) (C : Addr) (cl : List (Str × Addr)) (fp : List Addr), PG (X.blk s H scope (compEnvC scope cl C X.env) fp) tg g) (ht : ∀ (s : Shared) (H : Hp) (C : Addr) (cl : List (Str × Addr)) (fp : List Addr), PTs (X.blk s H scope (compEnvC scope cl C X.env) fp) ifs tt)
    (he : ∀ (s : Shared) (H : Hp) (C : Addr) (cl : List (Str × Addr)) (fp : List Addr), PE (X.blk s H scope (compEnvC scope cl C X.env) fp) elt te) (hs : ∀ x, foldedSetIterable iter X.env x = pure x)
    (h : tLc wi g tt te (own.map (·.2)) σ H Q)
    (hRR : ∀ D C s' m H', Inv X pins σ H' s' → Q (.ref D) H' → s'.heap.Ns C m → FpOk X pins H' C → compPost (model X.prog X.w) X.A X.xe use Qf (.ref D) C (.ok .next) s') :
    wpAny (model X.prog X.w) X.A (comprehension (.ListComp elt [⟨tg, iter, ifs, 0⟩] scope pos) scope X.env pos' (newList []) false (eval iter X.env) use) Qf X.xe s := by
  have hfree : ∀ y ∈ scope.names, y.2 = .free → ∃ c, X.env.cells.lookup y.1 = some c := fun y hy e => by
    rcases ok.free y hy e with k | k
    · exact I.ok.has _ (.inl k)
    · exact I.ok.has _ (.inr k)
  refine wpAny_comprehension_free (use := use) rfl hs (closure_ok hfree) ok.kind (fun y hy e => by rw [ok.uniq y hy, e])
    (thn (hi pins s σ H _ I h) fun xv s1 hx => thn hx fun itv s2 h2 => ?_)
  obtain ⟨it, fp, tn, J, H2, e, I2, T, st2, f2, q⟩ := h2
  subst e
  refine wpAny_newObj_type (newEnv_comp ?_) (by show 0 ≤ sizeLine; decide)
  generalize hD : s2.heap.objs.size = D
  have hDn : H2 D = none := I2.hok.fresh (Nat.le_of_eq hD)
  obtain ⟨W, ⟨m0, w0⟩, turn⟩ := q D hDn
  generalize hs3 : ({ s2 with heap := s2.heap.push { cls := .type "list", data := .seq ([] : List Value).toArray } } : Shared) = s3
  have I3 : Inv X pins σ (upd H2 D (.lst [])) s3 := by
    rw [← hs3]
    refine I2.laid (t' := s2.toks) (fun b o e => Heap.get?_push_of_some _ e) (Nat.le_of_eq hD) ⟨Nat.zero_le _, [], 0, .nil, ?_⟩
    rw [← hD]
    exact Heap.get?_push_size _ rfl
  have h3 : s3.heap = s2.heap.push { cls := .type "list", data := .seq ([] : List Value).toArray } := by rw [← hs3]
  have sz : ∀ b ∈ fp, b < s2.heap.objs.size := fun b hb => by
    obtain ⟨o, e, _⟩ := T.obj _ _ st2 b hb
    exact Heap.lt_size e
  have f3 : ∀ b ∈ fp, FpOk X pins (upd H2 D (.lst [])) b ∧ b < s3.heap.objs.size := fun b hb => by
    have hlt := sz b hb
    refine ⟨⟨?_, (f2 b hb).2⟩, by rw [h3, Heap.size_push]; exact Nat.lt_succ_of_lt hlt⟩
    rw [upd_ne (by rw [← hD]; exact Nat.ne_of_lt hlt)]
    exact (f2 b hb).1
  have st3 : tn 0 s3.heap := T.keep _ _ _ st2 fun b _ o e => by rw [h3]; exact Heap.get?_push_of_some _ e
  have I4 := block_start I3 ok hN f3
  have pg := hg s3 (upd H2 D (.lst [])) s3.heap.objs.size (cellsFrom (s3.heap.objs.size + 1) scope.names (cloFrom X.env.cells scope.names [])) fp
  have pt := ht s3 (upd H2 D (.lst [])) s3.heap.objs.size (cellsFrom (s3.heap.objs.size + 1) scope.names (cloFrom X.env.cells scope.names [])) fp
  have pe := he s3 (upd H2 D (.lst [])) s3.heap.objs.size (cellsFrom (s3.heap.objs.size + 1) scope.names (cloFrom X.env.cells scope.names [])) fp
  show codeAny _ _ (.compStart (.ListComp elt [⟨tg, iter, ifs, 0⟩] scope pos) 0 (.ref it) (.ref D) (compEnvC scope (cellsFrom (s3.heap.objs.size + 1) scope.names (cloFrom X.env.cells scope.names [])) s3.heap.objs.size X.env)) (compPost (model X.prog X.w) X.A X.xe use Qf (.ref D) s3.heap.objs.size) { s3 with heap := pushCells (s3.heap.push { cls := .type "dict", data := .dict #[] }) scope.names }
  have nfp : ∀ b ∈ fp, (upd H2 D (.lst [])) b = none := fun b hb => (f3 b hb).1.1
  generalize hce : compEnvC scope (cellsFrom (s3.heap.objs.size + 1) scope.names (cloFrom X.env.cells scope.names [])) s3.heap.objs.size X.env = ce at I4 pg pt pe ⊢
  have cL : ce.locals = s3.heap.objs.size := by subst hce; rfl
  generalize hH3 : upd H2 D (.lst []) = H3 at I3 I4 pg pt pe w0 nfp f3
  generalize hs4 : ({ s3 with heap := pushCells (s3.heap.push { cls := .type "dict", data := .dict #[] }) scope.names } : Shared) = s4 at I4 ⊢
  have st4 : tn 0 s4.heap := T.keep _ _ _ st3 fun b _ o e => by rw [← hs4]; exact pushCells_keeps _ _ _ _ (Heap.get?_push_of_some _ e)
  have stat : ∀ {σ' : St} {H' : Hp} {s' : Shared}, Inv (X.blk s3 H3 scope ce fp) [] σ' H' s' → (∀ b ∈ fp, H' b = none) → ∀ b ∈ fp, FpOk (X.blk s3 H3 scope ce fp) [] H' b := fun {σ' H' s'} I' hn b hb =>
    ⟨hn b hb, (I'.ok.exf b hb).1, I'.ok.exfs b hb, .inl hb, fun x c e => (I'.ok.exf b hb).2 x c e, fun p hp => absurd (show p ∈ ([] : List (Addr × Obj)) ++ [] from hp) (by simp)⟩
  have loop : codeAny (model X.prog X.w) X.A (.compLoop (.ListComp elt [⟨tg, iter, ifs, 0⟩] scope pos) 0 (.ref it) (.ref D) ce) (compPost (model X.prog X.w) X.A X.xe use Qf (.ref D) s3.heap.objs.size) s4 := by
    refine compLoop_any (fun n s' => ∃ i H', Inv (X.blk s3 H3 scope ce fp) [] (wipe σ (own.map (·.2))) H' s' ∧ tn i s'.heap ∧ (∀ b ∈ fp, H' b = none) ∧ W i n H') ?_ m0 ⟨0, H3, I4, st4, nfp, w0⟩
    rintro n s5 ⟨i, H5, I5, st5, n5, w5⟩
    rcases turn i n H5 w5 with ⟨stop, qq⟩ | ⟨go, Nx, hNx, step⟩
    · have td := T.done (X.blk s3 H3 scope ce fp) rfl rfl rfl hc i [] s5 _ H5 (fun _ _ => False) I5 (stat I5 n5) st5 stop
      refine thnF td fun r s6 ⟨hr, I6⟩ => ?_
      subst hr
      have I7 : Inv X pins σ H5 s6 := I3.call' (ch := fp) I6.os I6.base I6.hok I6.bare fun b hb => ⟨(f3 b hb).1.2.2.2.1, (f3 b hb).1.2.1, (f3 b hb).1.2.2.2.2.1, (f3 b hb).1.2.2.2.2.2⟩
      have nC : H5 s3.heap.objs.size = none := by
        have z : H5 ce.locals = none := I6.free
        rw [cL] at z
        exact z
      obtain ⟨m, hn, _⟩ := I6.loc
      have hn : s6.heap.Ns ce.locals m := hn
      rw [cL] at hn
      exact hRR D s3.heap.objs.size s6 m H5 I7 qq hn (I3.fpOk (Nat.le_refl _) nC)
    · have ti := T.item (X.blk s3 H3 scope ce fp) rfl rfl rfl hc i [] s5 _ H5 (fun _ _ => False) I5 (stat I5 n5) st5 go
      refine thnF ti fun r s6 ⟨u, hr, h6⟩ => ?_
      subst hr
      refine thnF h6 fun _ s7 ⟨x, H7, I7, r7, y7, st7, n7⟩ => ?_
      have I7' := I7.pinned (stat I7 n7) (T.obj _ _ st7)
      refine thnF (pg _ s7 _ H7 x u _ I7' r7 (step x H7 y7)) fun _ s8 ⟨σ8, H8, I8, hw8, q8⟩ => ?_
      refine thnF (pt _ s8 σ8 H8 _ I8 q8) fun b s9 ⟨H9, I9, q9⟩ => ?_
      have fin : ∀ {s' : Shared} {H' : Hp}, Inv (X.blk s3 H3 scope ce fp) ([] ++ pinsAt fp s7.heap) σ8 H' s' → Nx H' → ∃ m, m < n ∧ ∃ i H', Inv (X.blk s3 H3 scope ce fp) [] (wipe σ (own.map (·.2))) H' s' ∧ tn i s'.heap ∧ (∀ b ∈ fp, H' b = none) ∧ W i m H' := fun {s' H'} I' nx => by
        obtain ⟨m', hm, w'⟩ := hNx H' nx
        have pin' : ∀ b ∈ fp, ∀ o, s7.heap.get? b = some o → s'.heap.get? b = some o ∧ H' b = none := fun b hb o e =>
          let z := I'.pin (b, o) (List.mem_append_right _ (List.mem_append_right _ (mem_pinsAt hb e)))
          ⟨z.1, z.2.1⟩
        have hl : (wipe σ (own.map (·.2))).length = σ8.length := by rw [← hw8, wipe_length]
        refine ⟨m', hm, i + 1, H', (I'.unpinned (pins := [])).weak hl (fun j v e => ?_), T.keep _ _ _ st7 fun b hb o e => (pin' b hb o e).1, fun b hb => ?_, w'⟩
        · rw [← hw8] at e
          exact (wipe_some e).1
        · obtain ⟨o, e, _⟩ := T.obj _ _ st7 b hb
          exact (pin' b hb o e).2
      cases b with
      | false =>
        simp only [Bool.false_eq_true, if_false] at q9 ⊢
        exact fin I9 q9
      | true =>
        simp only [if_true] at q9 ⊢
        refine thnF (pe _ s9 σ8 H9 _ I9 q9) fun z s10 ⟨yv, H10, I10, r10, acc, hD10, hz10, nx⟩ => ?_
        exact app_ok (X := X.blk s3 H3 scope ce fp) I10 hD10 hz10 r10 fun s11 I11 => fin I11 nx
  exact codeAny_compStart_list loop (T.self X.A 0 _ _ _ st4 loop)
theorem pe_lc {elt tg iter : Expr} {ifs : List Expr} {scope : Scope} {own : List (Str × Nat)} {pos : Pos} {wi : TI} {g : TG} {tt : TT} {te : TE} (hc : X.calm = true) (hN : X.N.Nodup) (hi : PI X tg iter wi) (ok : BlkOk X.N X.env.scope scope own)
    (hg : ∀ (s : Shared) (H : Hp) (C : Addr) (cl : List (Str × Addr)) (fp : List Addr), PG (X.blk s H scope (compEnvC scope cl C X.env) fp) tg g) (ht : ∀ (s : Shared) (H : Hp) (C : Addr) (cl : List (Str × Addr)) (fp : List Addr), PTs (X.blk s H scope (compEnvC scope cl C X.env) fp) ifs tt)
    (he : ∀ (s : Shared) (H : Hp) (C : Addr) (cl : List (Str × Addr)) (fp : List Addr), PE (X.blk s H scope (compEnvC scope cl C X.env) fp) elt te) (hs : ∀ x, foldedSetIterable iter X.env x = pure x := by intro _; rfl) :
    PE X (.ListComp elt [⟨tg, iter, ifs, 0⟩] scope pos) (tLc wi g tt te (own.map (·.2))) := by
  intro pins s σ H Q I h
  rw [eval_ListComp]
  refine lc_core hc hN I hi ok hg ht he hs h fun D C s' m H' I' q hn f => ⟨m, hn, fun h'' sb => ?_⟩
  obtain ⟨f0, f1, f2, f3, f4, f5⟩ := f
  exact ⟨.ref D, H', I'.turned (t' := s'.toks) (fun b o hb e => (sb.2 b hb).trans e) f0 f1 f3 f4 f5, rfl, q⟩
theorem ps_setLc {i : Nat} {y : Str} {py : Pos} {elt tg iter : Expr} {ifs : List Expr} {scope : Scope} {own : List (Str × Nat)} {pos spos : Pos} {wi : TI} {g : TG} {tt : TT} {te : TE} (hc : X.calm = true) (hN : X.N.Nodup) (hy : X.N[i]? = some y) (hyl : X.env.scope.names.lookup y = some .local)
    (hsw : swapsWith (.ListComp elt [⟨tg, iter, ifs, 0⟩] scope pos) (some (.Name y py)) spos.line X.env = pure true) (hi : PI X tg iter wi) (ok : BlkOk X.N X.env.scope scope own)
    (hg : ∀ (s : Shared) (H : Hp) (C : Addr) (cl : List (Str × Addr)) (fp : List Addr), PG (X.blk s H scope (compEnvC scope cl C X.env) fp) tg g) (ht : ∀ (s : Shared) (H : Hp) (C : Addr) (cl : List (Str × Addr)) (fp : List Addr), PTs (X.blk s H scope (compEnvC scope cl C X.env) fp) ifs tt)
    (he : ∀ (s : Shared) (H : Hp) (C : Addr) (cl : List (Str × Addr)) (fp : List Addr), PE (X.blk s H scope (compEnvC scope cl C X.env) fp) elt te) (hs : ∀ x, foldedSetIterable iter X.env x = pure x := by intro _; rfl) :
    PS X (.Assign [.Name y py] (.ListComp elt [⟨tg, iter, ifs, 0⟩] scope pos) spos) (tAsg (tLc wi g tt te (own.map (·.2))) (gName i)) := by
  intro pins s σ H D I h
  rw [exec_Assign_Name_used _ _ _ _ hsw]
  refine wpAny_bind (wpAny_standAt (wpAny_bind ?_))
  show wpAny _ X.A (do let _ ← comprehension (.ListComp elt [⟨tg, iter, ifs, 0⟩] scope pos) scope X.env (firstIterPos [⟨tg, iter, ifs, 0⟩] pos) (newList []) false (eval iter X.env) (some (assign (.Name y py) X.env))) _ _ s
  have h : tLc wi g tt te (own.map (·.2)) σ H (fun x H1 => gName i x σ H1 D.nx) := h
  refine wpAny_bind (thn (lc_core (Qf := fun _ s' => SP X pins D .next s') hc hN I hi ok hg ht he hs h fun L C s' m H' I' q hn f => ?_) fun _ s' hq => wpAny_pure (wpAny_pure hq))
  show wpAny _ _ (assign (.Name y py) X.env (.ref L)) _ _ _
  refine wpAny_assign_Name (store_ok2 (v := V.ref L) I' hN hy (.inl hyl) rfl (fun s2 I2 ⟨a, sb, ha⟩ => ?_) (.inr hyl))
  obtain ⟨f0, f1, f2, f3, f4, f5⟩ := f
  have haC : C ≠ a := by
    rcases ha with z | z
    · rw [z]; exact f1
    · exact fun e => f4 y a z e.symm
  refine ⟨m, hn.sameBut sb haC, fun h3 sb3 => ?_⟩
  exact ⟨_, H', I2.turned (t' := s2.toks) (fun b o hb e => (sb3.2 b hb).trans e) f0 f1 f3 f4 f5, q⟩
theorem sw_true {elt : Expr} {gs : List Comprehension} {scope : Scope} {pos py : Pos} {y : Str} {l : Nat} {env : Env} (hk : env.scope.kind = .function) (hy : env.scope.names.lookup y = some .local) (hl : (py.line == pos.line) = true)
    (ha : (scope.names.any fun (n, k) => n == y && (k == .local || k == .cell)) = false) : swapsWith (.ListComp elt gs scope pos) (some (.Name y py)) l env = pure true := by
  have ky : env.kindOf y = some .local := hy
  have hb : env.blockKind = .function := by unfold Env.blockKind; rw [hk]; rfl
  unfold swapsWith
  simp only [hb, ky, ha, Expr.pos, hl]
  rfl
end
theorem lc_range {lo : Int} {n : Nat} {g : TG} {tt : TT} {te : TE} {vs : List Nat} {σ : St} {H1 : Hp} {D : Addr} {Qd : Hp → Prop} (Pv : Nat → Hp → Prop) (h0 : Pv 0 (upd H1 D (.lst [])))
    (hs : ∀ i H, i < n → Pv i H → g (.int (lo + i)) (wipe σ vs) H fun σ2 H2 => wipe σ2 vs = wipe σ vs ∧ tt σ2 H2 fun b H3 =>
      if b = true then te σ2 H3 fun y H4 => ∃ acc, H4 D = some (.lst acc) ∧ acc.length < sizeLine ∧ Pv (i + 1) (upd H4 D (.lst (acc ++ [y]))) else Pv (i + 1) H3) (hd : ∀ H, Pv n H → Qd H) :
    ∃ W : Nat → Nat → Hp → Prop, (∃ m, W 0 m (upd H1 D (.lst []))) ∧ ∀ i m H, W i m H →
      ((Itr lo n).stop i H ∧ Qd H) ∨ ((Itr lo n).go i H ∧ ∃ Nx : Hp → Prop, (∀ H', Nx H' → ∃ m', m' < m ∧ W (i + 1) m' H') ∧ ∀ x H', (Itr lo n).yld i H x H' → g x (wipe σ vs) H' fun σ2 H2 => wipe σ2 vs = wipe σ vs ∧ tt σ2 H2 fun b H3 =>
        if b = true then te σ2 H3 fun y H4 => ∃ acc, H4 D = some (.lst acc) ∧ acc.length < sizeLine ∧ Nx (upd H4 D (.lst (acc ++ [y]))) else Nx H3) := by
  refine ⟨fun i m H => m = n - i ∧ i ≤ n ∧ Pv i H, ⟨n, by simp, Nat.zero_le _, h0⟩, ?_⟩
  rintro i m H ⟨rfl, hi, p⟩
  by_cases hlt : i < n
  · refine .inr ⟨hlt, Pv (i + 1), fun H' p' => ⟨n - (i + 1), by omega, rfl, hlt, p'⟩, fun x H' y => ?_⟩
    obtain ⟨e, y⟩ := y
    subst e y
    exact hs i _ hlt p
  · have e : i = n := by omega
    subst e
    exact .inl ⟨Nat.le_refl _, hd H p⟩
theorem lc_list {K : PySem.W.Frag} {a : Addr} {xs : List V} {g : TG} {tt : TT} {te : TE} {vs : List Nat} {σ : St} {H1 : Hp} {D : Addr} {Qd : Hp → Prop} (Pv : Nat → Hp → Prop) (h0 : Pv 0 (upd H1 D (.lst []))) (hl : ∀ i H, i ≤ xs.length → Pv i H → SqL K H a xs)
    (hs : ∀ i x H, xs[i]? = some x → Pv i H → g x (wipe σ vs) H fun σ2 H2 => wipe σ2 vs = wipe σ vs ∧ tt σ2 H2 fun b H3 =>
      if b = true then te σ2 H3 fun y H4 => ∃ acc, H4 D = some (.lst acc) ∧ acc.length < sizeLine ∧ Pv (i + 1) (upd H4 D (.lst (acc ++ [y]))) else Pv (i + 1) H3) (hd : ∀ H, Pv xs.length H → Qd H) :
    ∃ W : Nat → Nat → Hp → Prop, (∃ m, W 0 m (upd H1 D (.lst []))) ∧ ∀ i m H, W i m H →
      ((Itl K a).stop i H ∧ Qd H) ∨ ((Itl K a).go i H ∧ ∃ Nx : Hp → Prop, (∀ H', Nx H' → ∃ m', m' < m ∧ W (i + 1) m' H') ∧ ∀ x H', (Itl K a).yld i H x H' → g x (wipe σ vs) H' fun σ2 H2 => wipe σ2 vs = wipe σ vs ∧ tt σ2 H2 fun b H3 =>
        if b = true then te σ2 H3 fun y H4 => ∃ acc, H4 D = some (.lst acc) ∧ acc.length < sizeLine ∧ Nx (upd H4 D (.lst (acc ++ [y]))) else Nx H3) := by
  refine ⟨fun i m H => m = xs.length - i ∧ i ≤ xs.length ∧ Pv i H, ⟨xs.length, by simp, Nat.zero_le _, h0⟩, ?_⟩
  rintro i m H ⟨rfl, hi, p⟩
  have q := hl i H hi p
  by_cases hlt : i < xs.length
  · refine .inr ⟨⟨xs, xs[i], q, by simp [hlt]⟩, Pv (i + 1), fun H' p' => ⟨xs.length - (i + 1), by omega, rfl, hlt, p'⟩, fun x H' y => ?_⟩
    obtain ⟨e, y⟩ := y
    subst e
    exact hs i x _ (y xs q) p
  · have e : i = xs.length := by omega
    subst e
    exact .inl ⟨⟨xs, q, Nat.le_refl _⟩, hd H p⟩
def blkC (N : List Str) (sc scope : Scope) (own : List (Str × Nat)) : Bool :=
  (match scope.kind with | .function => true | _ => false) && (scope.names.all fun y => decide (scope.names.lookup y.1 = some y.2)) && (own.all fun p => decide (N[p.2]? = some p.1)) &&
    (scope.names.all fun y => match y.2 with
      | .free => (match sc.names.lookup y.1 with | some .cell => true | some .free => true | _ => false)
      | .local => decide (y.1 ∈ own.map (·.1)) || decide (y.1 ∉ N)
      | .cell => decide (y.1 ∈ own.map (·.1)) || decide (y.1 ∉ N)
      | _ => true)
theorem blkOk_by {N : List Str} {sc scope : Scope} {own : List (Str × Nat)} (h : blkC N sc scope own = true) : BlkOk N sc scope own := by
  unfold blkC at h
  simp only [Bool.and_eq_true, List.all_eq_true, decide_eq_true_eq] at h
  obtain ⟨⟨⟨h1, h2⟩, h3⟩, h4⟩ := h
  refine ⟨?_, h2, h3, fun y hy e => ?_, fun y hy e => ?_⟩
  · split at h1
    · assumption
    · cases h1
  · have q := h4 y hy
    simp only [e] at q
    split at q <;> first | exact .inl (by assumption) | exact .inr (by assumption) | cases q
  · have q := h4 y hy
    rcases e with e | e <;> (simp only [e, Bool.or_eq_true, decide_eq_true_eq] at q; exact q)
end L2
namespace L2
open PySem PySem.Spec PyProof.Rows
section
variable {prog : Program} {w : World} {A : Around} {R : Result → Shared → Prop} {s : Shared} {elt t0 i0 t1 i1 : Expr} {ifs0 ifs1 : List Expr} {scope : Scope} {pos : Pos} {it acc : Value} {env : Env}
end
section
variable {X : Cx}
end
end L2
namespace L2
open PySem PySem.Spec PyProof.Rows
section
variable {κ : Type} [DecidableEq κ]
def valV (kvs : List (κ × V)) (k : κ) : Option V := (kvs.find? fun kv => decide (kv.1 = k)).map (·.2)
def putK (kvs : List (κ × V)) (k : κ) (v : V) : List (κ × V) :=
  if (kvs.any fun kv => decide (kv.1 = k)) = true then kvs.map (fun kv => if kv.1 = k then (kv.1, v) else kv) else kvs ++ [(k, v)]
theorem valV_pos {p : κ × V} {r : List (κ × V)} {k : κ} (e : p.1 = k) : valV (p :: r) k = some p.2 := by simp [valV, List.find?_cons, e]
theorem valV_neg {p : κ × V} {r : List (κ × V)} {k : κ} (e : ¬ p.1 = k) : valV (p :: r) k = valV r k := by simp [valV, List.find?_cons, e]
theorem valV_any (k : κ) : ∀ kvs : List (κ × V), (kvs.any fun kv => decide (kv.1 = k)) = (valV kvs k).isSome
  | [] => rfl
  | p :: r => by
    rw [List.any_cons]
    by_cases e : p.1 = k
    · simp only [valV_pos e, decide_eq_true e, Bool.true_or, Option.isSome_some]
    · rw [valV_neg e, decide_eq_false e, Bool.false_or]; exact valV_any k r
theorem valV_map (k j : κ) (y : V) : ∀ kvs : List (κ × V), valV (kvs.map fun kv => if kv.1 = k then (kv.1, y) else kv) j = (valV kvs j).map fun x => if j = k then y else x
  | [] => rfl
  | p :: r => by
    have ih := valV_map k j y r
    rw [List.map_cons]
    by_cases h : p.1 = k
    · rw [if_pos h]
      by_cases e : p.1 = j
      · rw [valV_pos (p := (p.1, y)) e, valV_pos e, Option.map_some, if_pos (e.symm.trans h)]
      · rw [valV_neg (p := (p.1, y)) e, valV_neg e, ih]
    · rw [if_neg h]
      by_cases e : p.1 = j
      · rw [valV_pos (p := p) e, valV_pos e, Option.map_some, if_neg (fun z => h (e.trans z))]
      · rw [valV_neg (p := p) e, valV_neg e, ih]
theorem valV_snoc (k j : κ) (y : V) : ∀ kvs : List (κ × V), valV kvs k = none → valV (kvs ++ [(k, y)]) j = if j = k then some y else valV kvs j
  | [], _ => by
    by_cases e : k = j
    · rw [if_pos e.symm]; exact valV_pos (p := (k, y)) e
    · rw [if_neg (fun z => e z.symm)]; exact valV_neg (p := (k, y)) e
  | p :: r, hn => by
    rw [List.cons_append]
    have hk : ¬ p.1 = k := fun z => by rw [valV_pos z] at hn; cases hn
    rw [valV_neg hk] at hn
    have ih := valV_snoc k j y r hn
    by_cases e : p.1 = j
    · rw [valV_pos e, valV_pos e, if_neg (fun z => hk (e.trans z))]
    · rw [valV_neg e, valV_neg e, ih]
theorem valV_put (kvs : List (κ × V)) (k j : κ) (y : V) : valV (putK kvs k y) j = if j = k then some y else valV kvs j := by
  unfold putK
  by_cases a : (kvs.any fun kv => decide (kv.1 = k)) = true
  · rw [if_pos a, valV_map]
    rw [valV_any] at a
    by_cases e : j = k
    · obtain ⟨x, hx⟩ := Option.isSome_iff_exists.mp a
      rw [if_pos e, e, hx, Option.map_some, if_pos rfl]
    · rw [if_neg e]
      cases valV kvs j with
      | none => rfl
      | some x => rw [Option.map_some, if_neg e]
  · rw [if_neg a]
    refine valV_snoc k j y kvs ?_
    rw [valV_any] at a
    cases q : valV kvs k with
    | none => rfl
    | some x => rw [q] at a; exact (a rfl).elim
theorem length_putK (kvs : List (κ × V)) (k : κ) (v : V) : (putK kvs k v).length ≤ kvs.length + 1 := by
  unfold putK
  split
  · rw [List.length_map]; omega
  · rw [List.length_append, List.length_cons, List.length_nil]; omega
theorem RelO.isSome_eq {o : Option V} {u : Option Value} (r : RelO o u) : o.isSome = u.isSome := by
  cases o with
  | none => cases u with
    | none => rfl
    | some _ => exact (show False from r).elim
  | some _ => cases u with
    | none => exact (show False from r).elim
    | some _ => rfl
theorem KV.val {kvs : List (κ × V)} {vs : List (κ × Value)} (r : KV kvs vs) (k : κ) : RelO (valV kvs k) (valueAt vs k) := by
  unfold KV at r
  induction r with
  | nil => exact True.intro
  | @cons p q ps qs h t ih =>
    obtain ⟨h1, h2⟩ := h
    by_cases e : p.1 = k
    · have e' : q.1 = k := h1.symm.trans e
      have b : valueAt (q :: qs) k = some q.2 := by simp [valueAt, List.find?_cons, e']
      rw [valV_pos e, b]; exact h2
    · have e' : ¬ q.1 = k := fun z => e (h1.trans z)
      have b : valueAt (q :: qs) k = valueAt qs k := by simp [valueAt, List.find?_cons, e']
      rw [valV_neg e, b]; exact ih
theorem KV.any {kvs : List (κ × V)} {vs : List (κ × Value)} (r : KV kvs vs) (k : κ) : (kvs.any fun kv => decide (kv.1 = k)) = vs.any fun kv => decide (kv.1 = k) := by
  unfold KV at r
  induction r with
  | nil => rfl
  | cons h t ih => rw [List.any_cons, List.any_cons, ih, h.1]
theorem KV.repl {kvs : List (κ × V)} {vs : List (κ × Value)} (r : KV kvs vs) (k : κ) {y : V} {u : Value} (ry : RelV y u) :
    KV (kvs.map fun kv => if kv.1 = k then (kv.1, y) else kv) (vs.map fun kv => if kv.1 = k then (kv.1, u) else kv) := by
  unfold KV at r ⊢
  induction r with
  | nil => exact .nil
  | @cons p q ps qs h t ih =>
    rw [List.map_cons, List.map_cons]
    refine .cons ?_ ih
    obtain ⟨h1, h2⟩ := h
    by_cases e : p.1 = k
    · rw [if_pos e, if_pos (h1.symm.trans e)]; exact ⟨h1, ry⟩
    · rw [if_neg e, if_neg (fun z => e (h1.trans z))]; exact ⟨h1, h2⟩
theorem KV.put {kvs : List (κ × V)} {vs : List (κ × Value)} (r : KV kvs vs) (k : κ) {y : V} {u : Value} (ry : RelV y u) : KV (putK kvs k y) (stored vs k u) := by
  unfold putK stored
  rw [r.any k]
  by_cases e : (vs.any fun kv => decide (kv.1 = k)) = true
  · rw [if_pos e, if_pos e]; exact r.repl k ry
  · rw [if_neg e, if_neg e]; exact Paired.snoc r ⟨rfl, ry⟩
theorem KV.length {kvs : List (κ × V)} {vs : List (κ × Value)} (r : KV kvs vs) : kvs.length = vs.length := Paired.length r
end
theorem kV_is {P : Program} {w : World} {k : Key} {u : Value} (r : RelV (kV k) u) : (mixKind P w).is k u = true := by
  cases k with
  | inl i => obtain ⟨t, e⟩ := (show ∃ t, u = Value.int i t from r); subst e; exact mixKind_int P w i t
  | inr x => obtain ⟨t, e⟩ := (show ∃ t, u = Value.str x t from r); subst e; exact mixKind_str P w x t
theorem items_are {P : Program} {w : World} : ∀ {ks : List Key} {us : List Value}, Vals (ks.map kV) us → ItemsAre (mixKind P w) ks us
  | [], _, r => by rw [List.map_nil] at r; cases r; exact .nil
  | k :: ks, _, r => by
    rw [List.map_cons] at r
    cases r with
    | cons h t => exact .cons (kV_is h) (items_are t)
abbrev KT (H : Hp) : List (List Key × V) → List (List Key × Addr × Value) → Prop := Paired fun p q => p.1 = q.1 ∧ H q.2.1 = some (.tup (p.1.map kV)) ∧ RelV p.2 q.2.2
theorem KT.val {H : Hp} {kvs : List (List Key × V)} {xs : List (List Key × Addr × Value)} (r : KT H kvs xs) (k : List Key) : RelO (valV kvs k) ((atKey xs k).map (·.2)) := by
  induction r with
  | nil => exact True.intro
  | @cons p q ps qs h t ih =>
    obtain ⟨h1, _, h2⟩ := h
    by_cases e : p.1 = k
    · have e' : q.1 = k := h1.symm.trans e
      have b : atKey (q :: qs) k = some q.2 := by simp [atKey, List.find?_cons, e']
      rw [valV_pos e, b]; exact h2
    · have e' : ¬ q.1 = k := fun z => e (h1.trans z)
      have b : atKey (q :: qs) k = atKey qs k := by simp [atKey, List.find?_cons, e']
      rw [valV_neg e, b]; exact ih
theorem KT.repl {H : Hp} {kvs : List (List Key × V)} {xs : List (List Key × Addr × Value)} (r : KT H kvs xs) (k : List Key) {y : V} {u : Value} (ry : RelV y u) :
    KT H (kvs.map fun kv => if kv.1 = k then (kv.1, y) else kv) (xs.map (putAt k u)) := by
  induction r with
  | nil => exact .nil
  | @cons p q ps qs h t ih =>
    rw [List.map_cons, List.map_cons]
    refine .cons ?_ ih
    obtain ⟨h1, h2, h3⟩ := h
    unfold putAt
    by_cases e : p.1 = k
    · rw [if_pos e, if_pos (h1.symm.trans e)]; exact ⟨h1, h2, ry⟩
    · rw [if_neg e, if_neg (fun z => e (h1.trans z))]; exact ⟨h1, h2, h3⟩
theorem KT.put {H : Hp} {kvs : List (List Key × V)} {xs : List (List Key × Addr × Value)} (r : KT H kvs xs) (k : List Key) {b : Addr} {y : V} {u : Value} (hb : H b = some (.tup (k.map kV))) (ry : RelV y u) :
    KT H (putK kvs k y) (storedH xs k b u) := by
  have e : (kvs.any fun kv => decide (kv.1 = k)) = (atKey xs k).isSome := by
    rw [valV_any, (r.val k).isSome_eq, Option.isSome_map]
  unfold putK storedH
  rw [e]
  by_cases q : (atKey xs k).isSome = true
  · rw [if_pos q, if_pos q]; exact r.repl k ry
  · rw [if_neg q, if_neg q]; exact Paired.snoc r ⟨rfl, hb, ry⟩
theorem KT.keeps {H H' : Hp} {kvs : List (List Key × V)} {xs : List (List Key × Addr × Value)} (r : KT H kvs xs) (ht : ∀ b ys, H b = some (.tup ys) → H' b = some (.tup ys)) : KT H' kvs xs :=
  Paired.mapP r fun _ _ z => ⟨z.1, ht _ _ z.2.1, z.2.2⟩
section
variable {P : Program} {w : World} {H : Hp} {h : Heap} {a : Addr}
theorem rd_of {u : HO} (ok : HOk P w H h) (e : Rd H a u) : ObjOk P w H h a u := e.ok ok
theorem dk_rd {kvs : List (Key × V)} (ok : HOk P w H h) (e : Rd H a (.dK kvs)) : kvs.length ≤ sizeLine ∧ (a == sysModules) = false ∧ ∃ vs, KV kvs vs ∧ h.DictOf (mixKind P w) a vs :=
  show ObjOk P w H h a (.dK kvs) from rd_of ok e
theorem dk_of {kvs : List (Key × V)} (ok : HOk P w H h) (e : H a = some (.dK kvs)) : kvs.length ≤ sizeLine ∧ (a == sysModules) = false ∧ ∃ vs, KV kvs vs ∧ h.DictOf (mixKind P w) a vs := dk_rd ok (.inl e)
theorem key_of {ks : List Key} (ok : HOk P w H h) (e : H a = some (.tup (ks.map kV))) : (tupleKind (mixKind P w)).is h ks a := by
  obtain ⟨_, its, r, o, h1, h2, n, h3⟩ := (show ObjOk P w H h a (.tup (ks.map kV)) from ok a _ e)
  exact ⟨o, its.toArray, n, h1, h2, h3, by simpa using items_are r⟩
theorem dt_rd {kvs : List (List Key × V)} (ok : HOk P w H h) (e : Rd H a (.dT kvs)) : kvs.length ≤ sizeLine ∧ (a == sysModules) = false ∧
    ∃ xs, KT H kvs xs ∧ h.DictOfH (tupleKind (mixKind P w)) a xs := by
  obtain ⟨z, y, xs, r, o, es, ep, h1, h2, h3, h4, h5⟩ := (show ObjOk P w H h a (.dT kvs) from rd_of ok e)
  refine ⟨z, y, xs, r, o, es, ep, h1, h2, h3, h4, fun x hx => ?_, h5⟩
  have all : ∀ {l : List (List Key × V)} {m : List (List Key × Addr × Value)}, KT H l m → ∀ x ∈ m, (tupleKind (mixKind P w)).is h x.1 x.2.1 := by
    intro l m q
    induction q with
    | nil => intro x hx; exact nomatch hx
    | @cons p q ps qs hq t ih =>
      intro x hx
      rcases List.mem_cons.mp hx with e | hx
      · subst e
        exact key_of ok (by rw [← hq.1]; exact hq.2.1)
      · exact ih x hx
  exact all r x hx
theorem dt_of {kvs : List (List Key × V)} (ok : HOk P w H h) (e : H a = some (.dT kvs)) : kvs.length ≤ sizeLine ∧ (a == sysModules) = false ∧
    ∃ xs, KT H kvs xs ∧ h.DictOfH (tupleKind (mixKind P w)) a xs := dt_rd ok (.inl e)
end
def DGet (H : Hp) (a : Addr) (y : V) (r : Option V) : Prop :=
  (∃ kvs k, Rd H a (.dK kvs) ∧ y = kV k ∧ r = valV kvs k) ∨ ∃ kvs k b, Rd H a (.dT kvs) ∧ y = .ref b ∧ H b = some (.tup (k.map kV)) ∧ r = valV kvs k
def DPut (H : Hp) (a : Addr) (y v : V) (H' : Hp) : Prop :=
  (∃ kvs k, H a = some (.dK kvs) ∧ y = kV k ∧ kvs.length < sizeLine ∧ H' = upd H a (.dK (putK kvs k v))) ∨
  ∃ kvs k b, H a = some (.dT kvs) ∧ y = .ref b ∧ H b = some (.tup (k.map kV)) ∧ kvs.length < sizeLine ∧ H' = upd H a (.dT (putK kvs k v))
theorem DGet.k {H : Hp} {a : Addr} {kvs : List (Key × V)} {k : Key} (e : H a = some (.dK kvs)) : DGet H a (kV k) (valV kvs k) := .inl ⟨kvs, k, .inl e, rfl, rfl⟩
theorem DPut.k {H : Hp} {a : Addr} {kvs : List (Key × V)} {k : Key} {v : V} (e : H a = some (.dK kvs)) (hl : kvs.length < sizeLine) : DPut H a (kV k) v (upd H a (.dK (putK kvs k v))) := .inl ⟨kvs, k, e, rfl, hl, rfl⟩
section
variable {X : Cx} {pins : List (Addr × Obj)} {σ : St} {H : Hp} {s : Shared} {a : Addr} {y v : V} {u r : Value} {o : Option V} {A : Around} {E : Value → Shared → Prop}
theorem Inv.big (I : Inv X pins σ H s) : sysModules < s.heap.objs.size := by
  have h : mainGlobals < s.heap.objs.size := (I.mod.glob.keeps I.bk).lt
  exact Nat.lt_trans (by decide) h
theorem d_getItem {Q : Value → Shared → Prop} (hu : A.units + 1 < cLine) (I : Inv X pins σ H s) (g : DGet H a y (some v)) (ry : RelV y u) (h : ∀ w' s', Inv X pins σ H s' → RelV v w' → Q w' s') :
    wpAny (model X.prog X.w) A (getItem (.ref a) u) Q E s := by
  rcases g with ⟨kvs, k, e, ey, l⟩ | ⟨kvs, k, b, e, ey, eb, l⟩
  · subst ey
    obtain ⟨z, hd, vs, rel, dd⟩ := dk_rd I.hok e
    obtain ⟨w', hw, rw'⟩ := RelO.some_of (v := v) (o := valueAt vs k) (by rw [l]; exact rel.val k)
    exact wpAny_getItem_of (kV_is ry) dd.mapOf hw (h w' _ (I.tok _) rw')
  · subst ey
    cases (show u = Value.ref b from ry)
    obtain ⟨z, hd, xs, rel, dd⟩ := dt_rd I.hok e
    obtain ⟨w', hw, rw'⟩ := RelO.some_of (v := v) (o := (atKey xs k).map (·.2)) (by rw [l]; exact rel.val k)
    obtain ⟨p, hp, hp2⟩ := Option.map_eq_some_iff.mp hw
    refine wpAny_getItem_heap (tupleKind_room_in1 hu) (key_of I.hok eb) dd hp ?_
    rw [hp2]
    exact h w' _ (I.tok _) rw'
theorem d_notIn {Q : Value → Shared → Prop} (hu : A.units + 1 < cLine) (I : Inv X pins σ H s) (g : DGet H a y o) (ry : RelV y u) (h : ∀ s', Inv X pins σ H s' → Q (.bool (!o.isSome)) s') :
    wpAny (model X.prog X.w) A (compareOp .NotIn u (.ref a)) Q E s := by
  rcases g with ⟨kvs, k, e, ey, l⟩ | ⟨kvs, k, b, e, ey, eb, l⟩
  · subst ey
    obtain ⟨z, hd, vs, rel, dd⟩ := dk_rd I.hok e
    refine wpAny_notIn_of (kV_is ry) hd dd.mapOf ?_
    rw [← (rel.val k).isSome_eq, ← l]
    exact h _ (I.tok _)
  · subst ey
    cases (show u = Value.ref b from ry)
    obtain ⟨z, hd, xs, rel, dd⟩ := dt_rd I.hok e
    refine wpAny_notIn_heap (tupleKind_room_in1 hu) (key_of I.hok eb) hd dd ?_
    have q := (rel.val k).isSome_eq
    rw [Option.isSome_map] at q
    rw [← q, ← l]
    exact h _ (I.tok _)
theorem d_write {h' : Heap} {t' : Nat} {ob : HO} (I : Inv X pins σ H s) (mu : Mut (H a)) (hs : Heap.SameBut a s.heap h') (he : ∃ q, h'.get? a = some q) (new : ObjOk X.prog X.w (upd H a ob) h' a ob) :
    Inv X pins σ (upd H a ob) { s with heap := h', toks := t' } :=
  I.write (x := a) (e := a) mu (.inl rfl) (fun b q hb z => (hs.2 b hb).trans z) he new
theorem dk_new {P : Program} {w : World} {H' : Hp} {h' : Heap} {kvs : List (Key × V)} {vs : List (Key × Value)} (z : kvs.length ≤ sizeLine) (hd : (a == sysModules) = false) (rel : KV kvs vs) (dd : h'.DictOf (mixKind P w) a vs) :
    ObjOk P w H' h' a (.dK kvs) := ⟨z, hd, vs, rel, dd⟩
theorem d_setItem {H' : Hp} {Q : Unit → Shared → Prop} (hu : A.units + 1 < cLine) (I : Inv X pins σ H s) (g : DPut H a y v H') (ry : RelV y u) (rv : RelV v r) (h : ∀ s', Inv X pins σ H' s' → Q () s') :
    wpAny (model X.prog X.w) A (setItem (.ref a) u r) Q E s := by
  rcases g with ⟨kvs, k, e, ey, l, eH⟩ | ⟨kvs, k, b, e, ey, eb, l, eH⟩
  · subst ey eH
    obtain ⟨z, hd, vs, rel, dd⟩ := dk_of I.hok e
    have hz : vs.length ≤ sizeLine := by rw [← rel.length]; exact z
    have hl : (putK kvs k v).length ≤ sizeLine := by have := length_putK kvs k v; omega
    refine wpAny_setItem_pairs (hsz := hz) (kV_is ry) dd fun h' dd' hs => h _ ?_
    have he : ∃ q, h'.get? a = some q := let ⟨q, _, _, hq, _⟩ := dd'; ⟨q, hq⟩
    exact d_write I (by rw [e]; exact True.intro) hs he (dk_new hl hd (rel.put k rv) dd')
  · subst ey eH
    cases (show u = Value.ref b from ry)
    obtain ⟨z, hd, xs, rel, dd⟩ := dt_of I.hok e
    have hz : xs.length ≤ sizeLine := by rw [← Paired.length rel]; exact z
    have hl : (putK kvs k v).length ≤ sizeLine := by have := length_putK kvs k v; omega
    refine wpAny_setItem_heap (hsz := hz) (tupleKind_room_in1 hu) (key_of I.hok eb) dd fun h' dd' hs => h _ ?_
    obtain ⟨q, es, ep, hq, h2, h3, h4, _, h5⟩ := dd'
    refine d_write I (by rw [e]; exact True.intro) hs ⟨q, hq⟩ ⟨hl, hd, _, (rel.put k eb rv).keeps fun c ys ec => ?_, q, es, ep, hq, h2, h3, h4, h5⟩
    rw [upd_ne (ne_of ec e (fun z => nomatch z))]
    exact ec
end
section
variable {X : Cx} {pins : List (Addr × Obj)} {σ : St} {H : Hp} {s : Shared} {a : Addr} {kvs : List (Key × V)} {k : Key} {u : Value} {A : Around} {E : Value → Shared → Prop}
end
def NoSl (i : Expr) : Prop := ∀ ov iv, subscripted i false ov iv = operate [ov, iv] (getItem ov iv)
theorem subD_of {prog : Program} {w : World} {A : Around} {E : Value → Shared → Prop} {s : Shared} {env : Env} {value slice : Expr} {pos : Pos} {T id : String} {Q : Value → Shared → Prop}
    (hl : typeLookup (.type T) "__getitem__" = pure (some (.builtin id))) (hs : NoSl slice)
    (h : wpAny (model prog w) A (eval value env) (fun o s₁ => wpAny (model prog w) A (eval slice env) (fun i s₂ => s₂.TypeIs o T ∧ wpAny (model prog w) A (getItem o i) Q E s₂) E s₁) E s) :
    wpAny (model prog w) A (eval (.Subscript value slice pos) env) Q E s := by
  refine Subscript_ (wpAny_mono h (fun o s₁ h₁ => wpAny_mono h₁ (fun i s₂ h₂ => ?_) fun _ _ x => x) fun _ _ x => x)
  obtain ⟨hT, h₂⟩ := h₂
  unfold subscriptTail
  refine wpAny_bind ?_
  rw [getitemInPython_of_ne hT.not_modules]
  refine wpAny_bind (wpAny_specialOf hT hl ?_)
  have fin : wpAny (model prog w) A (subscripted slice false o i) (fun r s₃ => wpAny (model prog w) A (letTemporaryGo value o r >>= fun _ => pure r) Q E s₃) E s₂ := by
    rw [hs o i]
    exact wpAny_operating (wpAny_mono h₂ (fun r s₃ h₃ => wpAny_bind (wpAny_letTemporaryGo (wpAny_pure h₃))) fun _ _ x => x)
  first
    | exact wpAny_pure (wpAny_bind fin)
    | exact wpAny_bind (wpAny_pure (wpAny_bind fin))
    | exact wpAny_bind fin
theorem dict_typeIs {X : Cx} {pins : List (Addr × Obj)} {σ : St} {H : Hp} {s : Shared} {a : Addr} {y : V} {o : Option V} (I : Inv X pins σ H s) (g : DGet H a y o) : s.TypeIs (.ref a) "dict" := by
  rcases g with ⟨kvs, k, e, _, _⟩ | ⟨kvs, k, b, e, _, _, _⟩
  · obtain ⟨_, _, vs, _, dd⟩ := dk_rd I.hok e
    exact dd.typeIs
  · obtain ⟨_, _, xs, _, dd⟩ := dt_rd I.hok e
    exact dd.typeIs
def tDGet (td ty : TE) : TE := fun σ H Q => td σ H fun x H1 => ty σ H1 fun y H2 => ∃ a v, x = .ref a ∧ DGet H2 a y (some v) ∧ Q v H2
def tDNotIn (ty td : TE) : TE := fun σ H Q => ty σ H fun y H1 => td σ H1 fun x H2 => ∃ a o, x = .ref a ∧ DGet H2 a y o ∧ Q (.bl (!o.isSome)) H2
def sDPut (td ty tv : TE) : TS := fun D σ H => tv σ H fun v H1 => td σ H1 fun x H2 => ty σ H2 fun y H3 => ∃ a H4, x = .ref a ∧ DPut H3 a y v H4 ∧ D.nx σ H4
section
variable {X : Cx} {o i e value : Expr} {pos pos' tpos : Pos} {td ty tv : TE}
theorem pe_dget (hu : X.A.units + 1 < cLine) (ho : PE X o td) (hi : PE X i ty) (hs : NoSl i) : PE X (.Subscript o i pos) (tDGet td ty) := by
  intro pins s σ H Q I h
  refine subD_of PySem.F.slot_dict_getitem.lookup hs (thn (ho pins s σ H _ I h) fun u s1 ⟨x, H1, I1, rx, q1⟩ => thn (hi pins s1 σ H1 _ I1 q1) fun iv s2 ⟨y, H2, I2, ry, a, v, ex, g, q2⟩ => ?_)
  subst ex
  obtain rfl : u = Value.ref a := rx
  exact ⟨dict_typeIs I2 g, d_getItem hu I2 g ry fun w' s3 I3 rw' => ⟨v, H2, I3, rw', q2⟩⟩
theorem pc_dnotin (hu : X.A.units + 1 < cLine) (hi : PE X i ty) (ho : PE X o td) : PC X .NotIn i o (tDNotIn ty td) := by
  intro pins s σ H Q I h
  refine thn (hi pins s σ H _ I h) fun iv s1 ⟨y, H1, I1, ry, q1⟩ => thn (ho pins s1 σ H1 _ I1 q1) fun u s2 ⟨x, H2, I2, rx, a, ov, ex, g, q2⟩ => ?_
  subst ex
  obtain rfl : u = Value.ref a := rx
  exact d_notIn hu I2 g ry fun s3 I3 => ⟨.bl (!ov.isSome), H2, I3, rfl, q2⟩
theorem ps_dput (hu : X.A.units + 1 < cLine) (ho : PE X o td) (hi : PE X i ty) (hv : PE X value tv) (hs : swapsWith value (some (.Subscript o i pos')) pos.line X.env = pure false) :
    PS X (.Assign [.Subscript o i pos'] value pos) (sDPut td ty tv) := by
  intro pins s σ H D I h
  refine wpAny_Assign_Subscript (thn (hv pins s σ H _ I h) fun r s1 ⟨v, H1, I1, rv, q1⟩ => thn (ho pins s1 σ H1 _ I1 q1) fun u s2 ⟨x, H2, I2, rx, q2⟩ => thn (hi pins s2 σ H2 _ I2 q2) fun iv s3 ⟨y, H3, I3, ry, a, H4, ex, g, q3⟩ => ?_) hs
  subst ex
  obtain rfl : u = Value.ref a := rx
  exact d_setItem hu I3 g ry rv fun s4 I4 => ⟨σ, H4, I4, q3⟩
end
theorem dk_empty {P : Program} {w : World} {H : Hp} (h : Heap) (hb : sysModules < h.objs.size) : ObjOk P w H (h.push { cls := .type "dict", data := .dict #[] }) h.objs.size (.dK []) :=
  ⟨Nat.zero_le _, beq_eq_false_iff_ne.mpr (Ne.symm (Nat.ne_of_lt hb)), [], .nil, Heap.DictOf.new h⟩
def tDNewK : TE := fun _ H Q => ∀ p, H p = none → Q (.ref p) (upd H p (.dK []))
section
variable {X : Cx} {pos : Pos}
theorem pe_dnewK : PE X (.Dict [] [] pos) tDNewK := fun pins s σ H Q I h =>
  wpAny_Dict_empty ⟨.ref s.heap.objs.size, _, I.laid (a := s.heap.objs.size) (o := .dK []) (t' := s.toks) (fun _ _ q => Heap.get?_push_of_some _ q) (Nat.le_refl _) (dk_empty s.heap I.big), rfl, h _ (I.hok.fresh (Nat.le_refl _))⟩
end
section
variable {X : Cx} {pins : List (Addr × Obj)} {σ : St} {H : Hp} {s : Shared} {a : Addr} {y d : V} {u r : Value} {o : Option V} {A : Around} {E : Value → Shared → Prop}
end
section
variable {X : Cx} {o e f : Expr} {apos cpos : Pos} {td ty tx : TE}
end
section
variable {X : Cx} {pins : List (Addr × Obj)} {σ : St} {H : Hp} {s : Shared} {a : Addr} {kvs : List (Key × V)} {A : Around} {E : Value → Shared → Prop}
end
section
variable {X : Cx} {pins : List (Addr × Obj)} {σ : St} {H : Hp} {s : Shared} {a : Addr} {y : V} {u : Value} {A : Around} {E : Value → Shared → Prop}
end
end L2
namespace L2
open PySem PySem.Spec PyProof.Rows
section
variable {prog : Program} {w : World} {A : Around} {E : Value → Shared → Prop}
end
section
variable {X : Cx}
end
end L2
namespace L2
open PySem PySem.Spec PyProof.Rows
section
variable {X : Cx} {pins : List (Addr × Obj)} {σ : St} {H : Hp} {s : Shared} {h' : Heap}
theorem Inv.turnedL {t' : Nat} {ch : List Addr} (I : Inv X pins σ H s) (k : ∀ b o, b ∉ ch → s.heap.get? b = some o → h'.get? b = some o) (hf : ∀ b ∈ ch, FpOk X pins H b) : Inv X pins σ H { s with heap := h', toks := t' } := by
  have nit : ∀ b u, H b = some u → b ∉ ch := fun b u e z => by
    have q := (hf b z).1
    rw [q] at e; cases e
  refine I.step (g' := s.gens) (d' := s.drawn) (ch := ch) (fun b hb => ⟨(hf b hb).2.2.2.1, (hf b hb).2.1, (hf b hb).2.2.2.2.1, (hf b hb).2.2.2.2.2⟩) (fun b o _ _ hc e _ => k b o hc e) (fun b o _ _ hc e _ => ⟨o.slots, k b o hc e⟩)
    (fun _ _ _ _ n => n) (fun b o hc e => ⟨o, k b o hc e⟩) (fun _ _ e => e) (fun _ _ _ e => e) (fun b ps e => ⟨#[], by rw [e]; simp⟩) (fun m hm => ?_) (fun b u e => ?_) I.bare
  · obtain ⟨o, es, ep, ho, r⟩ := hm
    exact ⟨o, es, ep, k _ o (fun z => (hf _ z).2.1 rfl) ho, r⟩
  · refine (I.hok b u e).stay (fun c v hc q => k c v ?_ q) (fun _ q => q) fun _ _ q => q
    rcases hc with z | z
    · rw [z]; exact nit b u e
    · exact nit c _ z
theorem Inv.turnedNew {t' : Nat} {ch : List Addr} {T : Addr} {ob : HO} (I : Inv X pins σ H s) (k : ∀ b o, b ∉ ch → s.heap.get? b = some o → h'.get? b = some o) (hf : ∀ b ∈ ch, FpOk X pins H b) (hT : s.heap.objs.size ≤ T)
    (new : ObjOk X.prog X.w (upd H T ob) h' T ob) : Inv X pins σ (upd H T ob) { s with heap := h', toks := t' } := by
  have hn : H T = none := I.hok.fresh hT
  have nit : ∀ b u, H b = some u → b ∉ ch := fun b u e z => by
    have q := (hf b z).1
    rw [q] at e; cases e
  refine I.step (g' := s.gens) (d' := s.drawn) (ch := ch) (fun b hb => ⟨(hf b hb).2.2.2.1, (hf b hb).2.1, (hf b hb).2.2.2.2.1, (hf b hb).2.2.2.2.2⟩) (fun b o _ _ hc e _ => k b o hc e) (fun b o _ _ hc e _ => ⟨o.slots, k b o hc e⟩)
    (fun b o _ e n => ?_) (fun b o hc e => ⟨o, k b o hc e⟩) (fun b xs e => ?_) (fun b o u e => ?_) (fun b ps e => ⟨#[], ?_⟩) (fun m hm => ?_) (fun b u e => ?_) I.bare
  · rw [upd_ne (Nat.ne_of_lt (Nat.lt_of_lt_of_le (Heap.lt_size e) hT))]; exact n
  · rw [upd_ne (ne_of_none e hn)]; exact e
  · rw [upd_ne (ne_of_none e hn)]; exact e
  · rw [upd_ne (ne_of_none e hn), e]; simp
  · obtain ⟨o, es, ep, ho, r⟩ := hm
    exact ⟨o, es, ep, k _ o (fun z => (hf _ z).2.1 rfl) ho, r⟩
  · by_cases hb : b = T
    · subst hb
      rw [upd_same] at e
      cases e
      exact new
    · rw [upd_ne hb] at e
      refine (I.hok b u e).stay (fun c v hc q => k c v ?_ q) (fun c q => by rw [upd_ne (ne_of_none q hn)]; exact q) fun c xs q => by rw [upd_ne (ne_of_none q hn)]; exact q
      rcases hc with z | z
      · rw [z]; exact nit b u e
      · exact nit c _ z
end
section
variable {X : Cx}
theorem pi_one {tg : Expr} {pins : List (Addr × Obj)} {σ : St} {H : Hp} {s : Shared} {R : It → Hp → Prop} {J : It} {tn : Nat → Heap → Prop} {tk : Nat} (I : Inv X pins σ H s) (o : Obj)
    (T : Turn X.prog X.w X.K tg J [s.heap.objs.size] s.heap.objs.size tn) (st : tn 0 (s.heap.push o)) (q : R J H) : PIE X pins σ tg R (.ref s.heap.objs.size) { s with heap := s.heap.push o, toks := tk } := by
  refine ⟨s.heap.objs.size, [s.heap.objs.size], tn, J, H, rfl, I.kept fun b ob e => Heap.get?_push_of_some _ e, T, st, fun b hb => ?_, q⟩
  have e : b = s.heap.objs.size := by simpa using hb
  subst e
  exact I.fpOk (Nat.le_refl _) (I.hok.fresh (Nat.le_refl _))
end
def Itc (lo c : Int) (n : Nat) : It := ⟨fun i _ => i < n, fun i H x H' => H' = H ∧ x = .int (lo + (i : Nat) * c), fun i _ => n ≤ i⟩
theorem turn_rangeC {P : Program} {w : World} {K : PySem.W.Frag} {tg : Expr} (it : Addr) (lo c : Int) (n : Nat) : Turn P w K tg (Itc lo c n) [it] it (fun i h => IsRangeIter h it (lo + (i : Nat) * c) ((n : Int) - (i : Nat)) c) where
  mem := by simp
  obj := fun i h st b hb => by
    have e : b = it := by simpa using hb
    subst e
    exact ⟨_, st, fun v z => nomatch z⟩
  keep := fun i h h' st k => k it (by simp) _ st
  item := by
    intro X hP hw hK hc i pins s σ H E I hf st hg
    subst hP hw hK
    obtain ⟨f0, f1, f2, f3, f4, f5⟩ := hf it (by simp)
    have W := Walks.range (prog := X.prog) (w := X.w) (I.ok.hd hc) it lo c n
    refine W.item i s _ _ hg st fun v h' tk hv st' kk => ?_
    obtain ⟨t, rfl⟩ := hv
    have I1 : Inv X pins σ H { s with heap := h', toks := tk } := I.turned (fun b o hb e => kk b o (by simpa using hb) e) f0 f1 f3 f4 f5
    exact ⟨_, rfl, go_of (s := { s with heap := h', toks := tk }) (n := "range_iterator") st' rfl rfl (by decide) ⟨.int (lo + (i : Nat) * c), H, I1, ⟨t, rfl⟩, ⟨rfl, rfl⟩, st', fun b hb => (hf b hb).1⟩⟩
  done := by
    intro X hP hw hK hc i pins s σ H E I hf st hg
    subst hP hw hK
    obtain ⟨f0, f1, f2, f3, f4, f5⟩ := hf it (by simp)
    exact wpAny_pyNext_range_end (I.ok.hd hc) st (by have : n ≤ i := hg; omega) fun h' eb => ⟨rfl, I.turned (t' := s.toks) (fun b o hb e => eb b o hb e) f0 f1 f3 f4 f5⟩
  self := fun A i s Q E st h => wpAny_pyIter_rangeiter st h
def RgC (i j c : Int) (n : Nat) : Prop := c ≠ 0 ∧ c.natAbs < 1073741824 ∧ Builtin.Range.small i j c = true ∧ Builtin.Range.rangeSize i j c = n
def iRng3 (ta : TA) : TI := fun σ H R => ta σ H fun vs H1 => ∃ (i j c : Int) (n : Nat), vs = [.int i, .int j, .int c] ∧ RgC i j c n ∧ R (Itc i c n) H1
section
variable {X : Cx} {tg : Expr}
theorem pi_range3 {a b c : Expr} {ta : TA} {p pos : Pos} (hg : Gl X "range") (hm : X.mg "range" = none) (ha : PA X [a, b, c] ta)
    (hs : starEach [a, b, c] X.env = (false, eval a X.env) :: starEach [b, c] X.env := by rfl) (hpl : (backTo pos (starEach [b, c] X.env)).any (·.1) = false := by rfl) :
    PI X tg (.Call (.Name "range" p) [a, b, c] [] pos) (iRng3 ta) := by
  intro pins s σ H R I h
  refine Call_ (ld_blt I hg hm boot_range (PyProof.Rows.callWith_type1 (thn (ha pos pins s σ H _ I h) fun us s1 ⟨vs, H1, I1, r1, q1⟩ => ?_) hs hpl))
  obtain ⟨i, j, k, n, e, ⟨c0, c1, c2, c3⟩, q⟩ := q1
  subst e
  cases r1 with
  | cons r rr =>
    cases rr with
    | cons r' rr =>
      cases rr with
      | cons r'' rr =>
        cases rr
        obtain ⟨t, rfl⟩ := r
        obtain ⟨t', rfl⟩ := r'
        obtain ⟨t'', rfl⟩ := r''
        refine call_range_3 c0 ?_ (.inl (PyProof.noPylong_small c1))
        refine wpAny_pyIter_range (IsRange.new ..) c2 ?_
        have I2 : Inv X pins σ H1 { s1 with heap := s1.heap.push { cls := .type "range", data := .fields #[.int i t, .int j t', .int k t''] } } := I1.kept (t' := s1.toks) fun b o e => Heap.get?_push_of_some _ e
        refine pi_one (tk := s1.toks) I2 _ (turn_rangeC _ i k n) ?_ q
        have e1 : i + ((0 : Nat) : Int) * k = i := by simp
        have e2 : (n : Int) - ((0 : Nat) : Int) = Builtin.Range.rangeSize i j k := by rw [c3]; simp
        show IsRangeIter _ _ (i + ((0 : Nat) : Int) * k) ((n : Int) - ((0 : Nat) : Int)) k
        rw [e1, e2]
        exact Heap.get?_push_size _ rfl
end
theorem for_rangeC {lo c : Int} {n : Nat} {g : TG} {tb : TS} {D : Ends} {σ : St} {H : Hp} (Pv : Nat → St → Hp → Prop) (h0 : Pv 0 σ H)
    (hs : ∀ i σ H, i < n → Pv i σ H → g (.int (lo + (i : Nat) * c)) σ H fun σ2 H2 => tb { D with nx := Pv (i + 1), ct := Pv (i + 1), bk := D.nx } σ2 H2) (hd : ∀ σ H, Pv n σ H → D.nx σ H) :
    ∃ W : Nat → Nat → St → Hp → Prop, (∃ m, W 0 m σ H) ∧ ∀ i m σ H, W i m σ H →
      ((Itc lo c n).stop i H ∧ D.nx σ H) ∨ ((Itc lo c n).go i H ∧ ∃ N : St → Hp → Prop, (∀ σ' H', N σ' H' → ∃ m', m' < m ∧ W (i + 1) m' σ' H') ∧ ∀ x H', (Itc lo c n).yld i H x H' → g x σ H' fun σ2 H2 => tb { D with nx := N, ct := N, bk := D.nx } σ2 H2) := by
  refine ⟨fun i m σ H => m = n - i ∧ i ≤ n ∧ Pv i σ H, ⟨n, by simp, Nat.zero_le _, h0⟩, ?_⟩
  rintro i m σ H ⟨rfl, hi, p⟩
  by_cases hlt : i < n
  · refine .inr ⟨hlt, Pv (i + 1), fun σ' H' p' => ⟨n - (i + 1), by omega, rfl, hlt, p'⟩, fun x H' y => ?_⟩
    obtain ⟨e, y⟩ := y
    subst e y
    exact hs i σ _ hlt p
  · have e : i = n := by omega
    subst e
    exact .inl ⟨Nat.le_refl _, hd σ H p⟩
section
variable {X : Cx} {tg : Expr}
end
section
variable {prog : Program} {w : World} {A : Around} {E : Value → Shared → Prop} {s : Shared}
end
section
variable {X : Cx} {pins : List (Addr × Obj)} {σ : St} {H : Hp} {s : Shared} {d : Addr} {o : Obj}
end
section
variable {P : Program} {w : World} {K : PySem.W.Frag} {tg : Expr} {d : Addr} {o : Obj} {es : Array DictEntry} {ep : Nat}
end
section
variable {X : Cx} {tg e : Expr} {td : TE} {apos cpos : Pos}
end
def Ite (K : PySem.W.Frag) (a : Addr) : It :=
  ⟨fun i H => ∃ (xs : List V) (x : V), SqL K H a xs ∧ xs[i]? = some x, fun i H v H' => ∃ T x, v = .ref T ∧ H T = none ∧ H' = upd H T (.tup [.int (i : Nat), x]) ∧ ∀ xs, SqL K H a xs → xs[i]? = some x, fun i H => ∃ xs : List V, SqL K H a xs ∧ xs.length ≤ i⟩
theorem turn_enum {P : Program} {w : World} {K : PySem.W.Frag} {elts : List Expr} {kk : Nat} {tpos : Pos} (a e it : Addr) :
    Turn P w K (.Tuple elts kk tpos) (Ite K a) [e, it] e (fun i h => (∃ old, IsEnum h e it ((i : Nat) : Int) old) ∧ h.IsListIter it a i ∧ e ≠ it) where
  mem := by simp
  obj := fun i h st b hb => by
    obtain ⟨⟨old, he⟩, ⟨o, ho, hc, hd⟩, _⟩ := st
    have e' : b = e ∨ b = it := by simpa using hb
    rcases e' with z | z
    · rw [z]; exact ⟨_, he, fun v q => nomatch q⟩
    · rw [z]; exact ⟨o, ho, fun v q => by rw [hd] at q; cases q⟩
  keep := fun i h h' st k => let ⟨⟨old, he⟩, hi, hne⟩ := st; ⟨⟨old, k e (by simp) _ he⟩, hi.at fun o q => k it (by simp) o q, hne⟩
  item := by
    intro X hP hw hK hc i pins s σ H E I hf st hg
    subst hP hw hK
    obtain ⟨⟨old, he⟩, hit, hne⟩ := st
    obtain ⟨xs, x, hq, hx⟩ := hg
    obtain ⟨its, rv, p, hz⟩ := I.list hq
    obtain ⟨u, hu, ru⟩ := rv.get hx
    have hel : e < s.heap.objs.size := Heap.lt_size he
    have hil : it < s.heap.objs.size := by obtain ⟨_, q, _⟩ := hit; exact Heap.lt_size q
    refine wpAny_pyNext_enum_item he hit p.isList (x := u) (by simpa using hu) hne fun h' ho hit' hT hsz hk => ?_
    refine ⟨_, rfl, wpAny_letOwnedTupleGo_enum (s := { s with heap := h', toks := s.toks + 1 }) ho fun h'' he' sb => ?_⟩
    have hT2 : h''.get? s.heap.objs.size = some { cls := .type "tuple", data := .seq #[.int i s.toks, u] } := (sb.2 _ (Nat.ne_of_gt hel)).trans hT
    have new : ObjOk X.prog X.w (upd H s.heap.objs.size (.tup [.int (i : Nat), x])) h'' s.heap.objs.size (.tup [.int (i : Nat), x]) :=
      ⟨by show 2 ≤ sizeLine; decide, [.int i s.toks, u], .cons ⟨_, rfl⟩ (.cons ru .nil), ⟨_, hT2, rfl, _, rfl⟩⟩
    have I1 : Inv X pins σ (upd H s.heap.objs.size (.tup [.int (i : Nat), x])) { s with heap := h'', toks := s.toks + 1 } :=
      I.turnedNew (ch := [e, it]) (fun b ob hb q => (sb.2 b (fun z => hb (by simp [z]))).trans (hk b ob (fun z => hb (by simp [z])) (fun z => hb (by simp [z])) q)) hf (Nat.le_refl _) new
    refine ⟨.ref s.heap.objs.size, _, I1, rfl, ⟨_, x, rfl, I.hok.fresh (Nat.le_refl _), rfl, fun ys hy => by rw [I.list_inj hy hq]; exact hx⟩, ⟨⟨u, ?_⟩, hit'.at fun o q => (sb.2 it (Ne.symm hne)).trans q, hne⟩, fun b hb => ?_⟩
    · have e1 : ((i + 1 : Nat) : Int) = (i : Int) + 1 := by omega
      rw [e1]; exact he'
    · have hb' : b < s.heap.objs.size := by
        have e' : b = e ∨ b = it := by simpa using hb
        rcases e' with z | z
        · rw [z]; exact hel
        · rw [z]; exact hil
      rw [upd_ne (Nat.ne_of_lt hb')]
      exact (hf b hb).1
  done := by
    intro X hP hw hK hc i pins s σ H E I hf st hg
    subst hP hw hK
    obtain ⟨⟨old, he⟩, hit, hne⟩ := st
    obtain ⟨xs, hq, hx⟩ := hg
    obtain ⟨its, rv, p, hz⟩ := I.list hq
    obtain ⟨f0, f1, f2, f3, f4, f5⟩ := hf it (by simp)
    have hl := rv.length
    exact wpAny_pyNext_enum_end (I.ok.hd hc) he hit p.isList (by simp; omega) fun h' eb => ⟨rfl, I.turned (t' := s.toks) (fun b o hb q => eb b o hb q) f0 f1 f3 f4 f5⟩
  self := fun A i s Q E st h => let ⟨⟨_, he⟩, _⟩ := st; wpAny_pyIter_enum he h
def iEnum (K : PySem.W.Frag) (ta : TA) : TI := fun σ H R => ta σ H fun vs H1 => ∃ a xs, vs = [.ref a] ∧ SqL K H1 a xs ∧ R (Ite K a) H1
theorem pi_enum {X : Cx} {e : Expr} {ta : TA} {p pos tpos : Pos} {elts : List Expr} {kk : Nat} (hg : Gl X "enumerate") (hm : X.mg "enumerate" = none) (ha : PA X [e] ta) (hs : starEach [e] X.env = [(false, eval e X.env)] := by rfl) :
    PI X (.Tuple elts kk tpos) (.Call (.Name "enumerate" p) [e] [] pos) (iEnum X.K ta) := by
  intro pins s σ H R I h
  refine Call_ (ld_blt I hg hm boot_enumerate (PyProof.Rows.callWith_type1 (thn (ha pos pins s σ H _ I h) fun us s1 ⟨vs, H1, I1, r1, q1⟩ => ?_) hs rfl))
  obtain ⟨a, xs, ex, hq, q⟩ := q1
  subst ex
  cases r1 with
  | cons r rr =>
    cases rr
    cases r
    obtain ⟨its, rv, p', hz⟩ := I1.list hq
    refine call_enumerate_list p'.isList fun h' he hit hsz hk => wpAny_pyIter_enum he ?_
    have I2 : Inv X pins σ H1 { s1 with heap := h' } := I1.kept (t' := s1.toks) hk
    refine ⟨s1.heap.objs.size + 1, [s1.heap.objs.size + 1, s1.heap.objs.size], _, _, H1, rfl, I2, turn_enum a (s1.heap.objs.size + 1) s1.heap.objs.size, ⟨⟨.none, he⟩, hit, Nat.succ_ne_self _⟩, fun b hb => ?_, q⟩
    have e' : b = s1.heap.objs.size + 1 ∨ b = s1.heap.objs.size := by simpa using hb
    have hle : s1.heap.objs.size ≤ b := by
      rcases e' with z | z
      · rw [z]; exact Nat.le_add_right _ _
      · rw [z]; exact Nat.le_refl _
    exact I1.fpOk hle (I1.hok.fresh hle)
theorem boot_zip5 : bootBuiltins "zip" = some (.type "zip") := by decide +kernel
def Itz (K : PySem.W.Frag) (a b : Addr) : It :=
  ⟨fun i H => ∃ (xs ys : List V) (x y : V), SqL K H a xs ∧ SqL K H b ys ∧ xs[i]? = some x ∧ ys[i]? = some y,
    fun i H v H' => ∃ T x y, v = .ref T ∧ H T = none ∧ H' = upd H T (.tup [x, y]) ∧ (∀ xs, SqL K H a xs → xs[i]? = some x) ∧ ∀ ys, SqL K H b ys → ys[i]? = some y,
    fun i H => ∃ xs ys : List V, SqL K H a xs ∧ SqL K H b ys ∧ (xs.length ≤ i ∨ ys.length ≤ i)⟩
theorem turn_zip {P : Program} {w : World} {K : PySem.W.Frag} {elts : List Expr} {kk : Nat} {tpos : Pos} {a b z TI TO i1 i2 : Addr} (D : ZipApart z TI TO i1 i2 a b) :
    Turn P w K (.Tuple elts kk tpos) (Itz K a b) [z, TI, TO, i1, i2] z (fun i h => IsZip h z TI TO .none ∧ IsPair h TI (.ref i1) (.ref i2) ∧ (∃ x y, IsPair h TO x y) ∧ h.IsListIter i1 a i ∧ h.IsListIter i2 b i) where
  mem := by simp
  obj := fun i h st c hc => by
    obtain ⟨hz, hTI, ⟨x, y, hTO⟩, ⟨o1, e1, _, d1⟩, ⟨o2, e2, _, d2⟩⟩ := st
    have e' : c = z ∨ c = TI ∨ c = TO ∨ c = i1 ∨ c = i2 := by simpa using hc
    rcases e' with q | q | q | q | q
    · rw [q]; exact ⟨_, hz, fun v q => nomatch q⟩
    · rw [q]; exact ⟨_, hTI, fun v q => nomatch q⟩
    · rw [q]; exact ⟨_, hTO, fun v q => nomatch q⟩
    · rw [q]; exact ⟨o1, e1, fun v q => by rw [d1] at q; cases q⟩
    · rw [q]; exact ⟨o2, e2, fun v q => by rw [d2] at q; cases q⟩
  keep := fun i h h' st k => by
    obtain ⟨hz, hTI, ⟨x, y, hTO⟩, h1, h2⟩ := st
    exact ⟨k z (by simp) _ hz, k TI (by simp) _ hTI, ⟨x, y, k TO (by simp) _ hTO⟩, h1.at fun o q => k i1 (by simp) o q, h2.at fun o q => k i2 (by simp) o q⟩
  item := by
    intro X hP hw hK hc i pins s σ H E I hf st hg
    subst hP hw hK
    obtain ⟨hz, hTI, ⟨x0, y0, hTO⟩, h1, h2⟩ := st
    obtain ⟨xs, ys, x, y, hqx, hqy, hx, hy⟩ := hg
    obtain ⟨its, rv, p, _⟩ := I.list hqx
    obtain ⟨its2, rv2, p2, _⟩ := I.list hqy
    obtain ⟨u, hu, ru⟩ := rv.get hx
    obtain ⟨u2, hu2, ru2⟩ := rv2.get hy
    have hzl : z < s.heap.objs.size := Heap.lt_size hz
    refine wpAny_pyNext_zip_item D hz hTI hTO h1 h2 p.isList p2.isList (x := u) (y := u2) (by simpa using hu) (by simpa using hu2) fun h' z' TO' h1' h2' hT hsz hk => ?_
    refine ⟨_, rfl, wpAny_letOwnedTupleGo_zip (s := { s with heap := h' }) z' fun h'' z'' sb => ?_⟩
    have hT2 : h''.get? s.heap.objs.size = some { cls := .type "tuple", data := .seq #[u, u2] } := (sb.2 _ (Nat.ne_of_gt hzl)).trans hT
    have new : ObjOk X.prog X.w (upd H s.heap.objs.size (.tup [x, y])) h'' s.heap.objs.size (.tup [x, y]) :=
      ⟨by show 2 ≤ sizeLine; decide, [u, u2], .cons ru (.cons ru2 .nil), ⟨_, hT2, rfl, _, rfl⟩⟩
    have I1 : Inv X pins σ (upd H s.heap.objs.size (.tup [x, y])) { s with heap := h'' } :=
      I.turnedNew (t' := s.toks) (ch := [z, TI, TO, i1, i2]) (fun c o hb q => (sb.2 c (fun q' => hb (by simp [q']))).trans (hk c o (fun q' => hb (by simp [q'])) (fun q' => hb (by simp [q'])) (fun q' => hb (by simp [q'])) (fun q' => hb (by simp [q'])) q)) hf (Nat.le_refl _) new
    refine ⟨.ref s.heap.objs.size, _, I1, rfl, ⟨_, x, y, rfl, I.hok.fresh (Nat.le_refl _), rfl, fun l hl => by rw [I.list_inj hl hqx]; exact hx, fun l hl => by rw [I.list_inj hl hqy]; exact hy⟩, ⟨z'', ?_, ⟨u, u2, ?_⟩, ?_, ?_⟩, fun c hcm => ?_⟩
    · exact (sb.2 _ D.TIz).trans (hk _ _ D.TIz D.TITO D.TIi1 D.TIi2 hTI)
    · exact (sb.2 _ D.TOz).trans TO'
    · exact h1'.at fun o q => (sb.2 _ D.i1z).trans q
    · exact h2'.at fun o q => (sb.2 _ D.i2z).trans q
    · have hlt : c < s.heap.objs.size := by
        have e' : c = z ∨ c = TI ∨ c = TO ∨ c = i1 ∨ c = i2 := by simpa using hcm
        rcases e' with q | q | q | q | q
        · rw [q]; exact hzl
        · rw [q]; exact Heap.lt_size hTI
        · rw [q]; exact Heap.lt_size hTO
        · rw [q]; obtain ⟨_, e1, _⟩ := h1; exact Heap.lt_size e1
        · rw [q]; obtain ⟨_, e2, _⟩ := h2; exact Heap.lt_size e2
      rw [upd_ne (Nat.ne_of_lt hlt)]
      exact (hf c hcm).1
  done := by
    intro X hP hw hK hc i pins s σ H E I hf st hg
    subst hP hw hK
    obtain ⟨hz, hTI, ⟨x0, y0, hTO⟩, h1, h2⟩ := st
    obtain ⟨xs, ys, hqx, hqy, hend⟩ := hg
    obtain ⟨its, rv, p, _⟩ := I.list hqx
    obtain ⟨its2, rv2, p2, _⟩ := I.list hqy
    have l1 := rv.length
    have l2 := rv2.length
    have he : its.toArray[i]? = none ∨ its2.toArray[i]? = none := by
      rcases hend with q | q
      · exact .inl (by simp; omega)
      · exact .inr (by simp; omega)
    exact wpAny_pyNext_zip_end (I.ok.hd hc) D hz hTI hTO h1 h2 p.isList p2.isList he fun h' hk => ⟨rfl, I.turnedL (t' := s.toks) (ch := [z, TI, TO, i1, i2]) (fun c o hb q =>
      hk c o (fun q' => hb (by simp [q'])) (fun q' => hb (by simp [q'])) (fun q' => hb (by simp [q'])) (fun q' => hb (by simp [q'])) q) hf⟩
  self := fun A i s Q E st h => wpAny_pyIter_zip st.1 h
def iZip (K : PySem.W.Frag) (ta : TA) : TI := fun σ H R => ta σ H fun vs H1 => ∃ a b xs ys, vs = [.ref a, .ref b] ∧ SqL K H1 a xs ∧ SqL K H1 b ys ∧ R (Itz K a b) H1
theorem pi_zip {X : Cx} {e e2 : Expr} {ta : TA} {p pos tpos : Pos} {elts : List Expr} {kk : Nat} (hg : Gl X "zip") (hm : X.mg "zip" = none) (ha : PA X [e, e2] ta)
    (hs : starEach [e, e2] X.env = (false, eval e X.env) :: starEach [e2] X.env := by rfl) (hpl : (backTo pos (starEach [e2] X.env)).any (·.1) = false := by rfl) :
    PI X (.Tuple elts kk tpos) (.Call (.Name "zip" p) [e, e2] [] pos) (iZip X.K ta) := by
  intro pins s σ H R I h
  refine Call_ (ld_blt I hg hm boot_zip5 (PyProof.Rows.callWith_type1 (thn (ha pos pins s σ H _ I h) fun us s1 ⟨vs, H1, I1, r1, q1⟩ => ?_) hs hpl))
  obtain ⟨a, b, xs, ys, ex, hqx, hqy, q⟩ := q1
  subst ex
  cases r1 with
  | cons r rr =>
    cases rr with
    | cons r' rr =>
      cases rr
      cases r
      cases r'
      obtain ⟨its, rv, p1, _⟩ := I1.list hqx
      obtain ⟨its2, rv2, p2, _⟩ := I1.list hqy
      have la : a < s1.heap.objs.size := p1.lt
      have lb : b < s1.heap.objs.size := p2.lt
      refine call_zip_2 p1.isList p2.isList fun h' hz hTI hTO h1 h2 hsz hk => wpAny_pyIter_zip hz ?_
      have I2 : Inv X pins σ H1 { s1 with heap := h' } := I1.kept (t' := s1.toks) hk
      refine ⟨s1.heap.objs.size + 4, [s1.heap.objs.size + 4, s1.heap.objs.size + 2, s1.heap.objs.size + 3, s1.heap.objs.size, s1.heap.objs.size + 1], _, _, H1, rfl, I2, turn_zip (PySem.W.ktu_apart s1.heap.objs.size a b la lb), ⟨hz, hTI, ⟨_, _, hTO⟩, h1, h2⟩, fun c hcm => ?_, q⟩
      have e' : c = s1.heap.objs.size + 4 ∨ c = s1.heap.objs.size + 2 ∨ c = s1.heap.objs.size + 3 ∨ c = s1.heap.objs.size ∨ c = s1.heap.objs.size + 1 := by simpa using hcm
      have hle : s1.heap.objs.size ≤ c := by
        rcases e' with z | z | z | z | z
        · rw [z]; exact Nat.le_add_right _ _
        · rw [z]; exact Nat.le_add_right _ _
        · rw [z]; exact Nat.le_add_right _ _
        · rw [z]; exact Nat.le_refl _
        · rw [z]; exact Nat.le_add_right _ _
      exact I1.fpOk hle (I1.hok.fresh hle)
end L2
section
namespace Bits
open PySem PyProof.Rows
end Bits
end
section
namespace TL
open PySem PySem.Builtin PySem.Builtin.Str PySem.StrLaws
end TL
end
namespace L2
open PySem PySem.Spec PyProof.Rows
section
variable {X : Cx} {pins : List (Addr × Obj)} {σ : St} {H : Hp} {s : Shared} {Q : VK}
end
section
variable {X : Cx}
end
section
variable {X : Cx} {o e : Expr} {to te : TE}
end
end L2
namespace L2
open PySem PySem.Spec PyProof.Rows
section
variable {X : Cx}
end
end L2
namespace Att
open PySem PySem.W PySem.Calls PyProof.Rows
theorem ints_of_wellAll {P : Params} {h : Heap} : ∀ (ns : List Int) (vs : List Value), WellAll P h vs (ns.map WData.int) → IntsAre vs ns := by
  intro ns
  induction ns with
  | nil =>
    intro vs w
    rw [List.map_nil] at w
    cases w
    exact .nil
  | cons n ns ih =>
    intro vs w
    rw [List.map_cons] at w
    cases w with
    | cons a b =>
      cases a
      exact .cons _ _ (ih _ b)
section
variable {prog : Program} {w : World} {A : Around} {E : Value → Shared → Prop} {s : Shared} {K : Frag}
end
end Att
namespace L2
open PySem PySem.Spec PyProof.Rows
theorem vals_ints : ∀ {vs : List Value} {ns : List Int}, IntsAre vs ns → Vals (ns.map V.int) vs
  | _, _, .nil => .nil
  | _, _, .cons n t h => .cons ⟨t, rfl⟩ (vals_ints h)
def Only (H : Hp) : Prop := ∀ b, H b = none ∨ ∃ o xs, H b = some (.frz o (.lst xs))
end L2
namespace L2
open PySem PySem.Spec PyProof.Rows
abbrev KOf {K : PySem.W.Frag} {h : Heap} (_ : K.In h) : PySem.W.Frag := K
end L2
namespace L2
open PySem PySem.Spec PyProof.Rows
def inClass (s : Stmt) (j : Nat) : Stmt := match s with
  | .ClassDef _ _ _ body _ _ _ _ _ _ _ => body.getD j (.Pass ⟨0, 0, 0, 0⟩)
  | _ => .Pass ⟨0, 0, 0, 0⟩
def defArgs (s : Stmt) : Arguments := match s with
  | .FunctionDef _ a _ _ _ _ _ _ _ _ => a
  | _ => { posonlyargs := [], args := [], vararg := none, kwonlyargs := [], kw_defaults := [], kwarg := none, defaults := [] }
def defBody (s : Stmt) : List Stmt := match s with
  | .FunctionDef _ _ b _ _ _ _ _ _ _ => b
  | _ => []
def defScope (s : Stmt) : Scope := match s with
  | .FunctionDef _ _ _ _ _ _ sc _ _ _ => sc
  | _ => { kind := .function, names := [], isGenerator := false, isCoroutine := false }
abbrev CX0 : CXT := fun _ _ _ _ _ _ => False
abbrev E0 : XK := fun _ _ _ => False
theorem pass0 {X : Cx} : Passes CX0 X E0 := fun _ _ _ _ _ _ _ h => h.elim
structure Fun (K : PySem.W.Frag) (x qual : Str) (st : Stmt) (f : Addr) (fd : FuncData) : Prop where
  ex : ∃ (oc : Value) (od : Option Addr) (kV doc pm : Value) (an : Option Addr) (cdv ct : Value) (osl : Array (Option Value)),
    fd = PySem.W.fnOf x qual (defArgs st) (defBody st) (defScope st) .none kV doc pm an cdv ct ∧ K.lookup f = some ⟨oc, od, .func fd, osl⟩ ∧ PySem.W.codeIn K cdv qual = true
  kp : PySem.W.keepIn K (.ref f) = true
section
variable {P : Program} {w : World} {K : PySem.W.Frag} {mg : Str → Option Value} {base : Heap}
theorem Fun.ok {x qual : Str} {st : Stmt} {f : Addr} {fd : FuncData} {N ps : List Str} {k : Nat} {sp : Sp} (F : Fun K x qual st f fd) (S : FnScope N ps (defScope st)) (len : ∀ vs H Q E, sp vs H Q E → vs.length = ps.length)
    (hbody : ∀ (cdv : Value) (A : Around) (outer : List Env) (s : Shared) (H : Hp) (vs : List V) (Q : VK) (E : XK), Room k (A.deeper (envOfC qual (defScope st) s.heap.objs.size f cdv)) → sp vs H Q E →
      ∃ t, PSs (cxOf CX0 P w K mg base N qual (defScope st) f cdv A outer s H E).nox (defBody st) t ∧ t { nx := fun _ H' => Q .non H', rt := Q } (start N vs) H) : FnOk P w K mg base CX0 (k + 1) f fd ps sp := by
  obtain ⟨oc, od, kV, doc, pm, an, cdv, ct, osl, rfl, lk, hcd⟩ := F.ex
  refine fn_of lk hcd S len fun A outer s H vs Q E hr hsp => ?_
  obtain ⟨t, h, q⟩ := hbody cdv A outer s H vs Q E hr hsp
  exact ⟨t, h.nox, q⟩
theorem Fun.binds {x qual : Str} {st : Stmt} {f : Addr} {fd : FuncData} {ps : List Str} (F : Fun K x qual st f fd)
    (h : ∀ (kV doc pm : Value) (an : Option Addr) (cdv ct : Value) (us : List Value), us.length = ps.length → bindArgs (PySem.W.fnOf x qual (defArgs st) (defBody st) (defScope st) .none kV doc pm an cdv ct) ⟨us, []⟩ = pure (ps.zip us)) : Binds K fd ps [] := by
  obtain ⟨oc, od, kV, doc, pm, an, cdv, ct, osl, rfl, lk, hcd⟩ := F.ex
  exact .all (h kV doc pm an cdv ct)
theorem fun_mk {x qual : Str} {st : Stmt} {f : Addr} {oc : Value} {od an : Option Addr} {osl : Array (Option Value)} {kV doc pm cdv ct : Value} (l : K.lookup f = some ⟨oc, od, .func (PySem.W.fnOf x qual (defArgs st) (defBody st) (defScope st) .none kV doc pm an cdv ct), osl⟩)
    (c : PySem.W.codeIn K cdv qual = true) (k : PySem.W.keepIn K (.ref f) = true) : Fun K x qual st f (PySem.W.fnOf x qual (defArgs st) (defBody st) (defScope st) .none kV doc pm an cdv ct) := ⟨⟨oc, od, kV, doc, pm, an, cdv, ct, osl, rfl, l, c⟩, k⟩
end
section
variable {X : Cx}
theorem pv (i : Nat) {x : Str} {pos : Pos} (hN : X.N[i]? = some x := by rfl) (hv : Vis X.env.scope x := by first | exact Or.inl rfl | exact Or.inr (Or.inl rfl) | exact Or.inr (Or.inr rfl)) (hd : (x == ("__debug__" : Str)) = false := by decide)
    (hcd : (x == ("__classdict__" : Str)) = false := by decide) : PE X (.Name x pos) (tVar i) := pe_var hN hv hd hcd
end
theorem iteF {A B : Prop} (h : B) : if false = true then A else B := by
  rw [if_neg Bool.false_ne_true]
  exact h
theorem iteT {A B : Prop} (h : A) : if true = true then A else B := by
  rw [if_pos rfl]
  exact h
theorem ite2 {c A B : Prop} [Decidable c] (h1 : c → A) (h2 : ¬ c → B) : if c then A else B := by
  by_cases h : c
  · rw [if_pos h]
    exact h1 h
  · rw [if_neg h]
    exact h2 h
def Same (H H' : Hp) : Prop := ∀ b o, H b = some o → H' b = some o
theorem Same.seq {K : PySem.W.Frag} {H H' : Hp} {a : Addr} {xs : List V} (e : Same H H') (h : SqL K H a xs) : SqL K H' a xs := by
  rcases h with (h | ⟨o, h⟩) | h
  · exact .inl (.inl (e _ _ h))
  · exact .inl (.inr ⟨o, e _ _ h⟩)
  · exact .inr h
section
variable {κ : Type} [DecidableEq κ]
end
theorem at_of {xs : List V} {z : Int} {j : Nat} {v : V} (e : z = (j : Int)) (h : xs[j]? = some v) : atI xs z = some v := by
  rw [e]
  exact atI_nat h
end L2
namespace L2
open PySem PySem.Spec PyProof.Rows
theorem ObjOk.there {P : Program} {w : World} {H : Hp} {h : Heap} {a : Addr} {o : HO} (x : ObjOk P w H h a o) : ∃ ob, h.get? a = some ob := by
  cases o with
  | lst xs => obtain ⟨_, _, _, _, e⟩ := x; exact ⟨_, e⟩
  | tup xs => obtain ⟨_, _, _, p⟩ := x; obtain ⟨o, e, _⟩ := p; exact ⟨_, e⟩
  | dK kvs => obtain ⟨_, _, _, _, o, _, _, e, _⟩ := x; exact ⟨_, e⟩
  | dT kvs => obtain ⟨_, _, _, _, o, _, _, e, _⟩ := x; exact ⟨_, e⟩
  | set S n => obtain ⟨o, _, _, _, e, _⟩ := x; exact ⟨_, e⟩
  | ins C dx fs => obtain ⟨_, _, _, e, _⟩ := x; exact ⟨_, e⟩
  | own y => exact x
  | xd fs => obtain ⟨_, ⟨_, _, _, e, _⟩, _⟩ := x; exact ⟨_, e⟩
  | rng lo hi => obtain ⟨_, _, _, e⟩ := x; exact ⟨_, e⟩
  | frz ob u => obtain ⟨e, _⟩ := x; exact ⟨_, e⟩
  | tbl ps => exact ⟨_, x⟩
  | met f y => exact ⟨_, x⟩
  | ext φ => obtain ⟨_, e, _⟩ := x; exact e
theorem HOk.unknown {P : Program} {w : World} {H : Hp} {h : Heap} {a : Addr} (x : HOk P w H h) (e : h.get? a = none) : H a = none := by
  cases q : H a with
  | none => rfl
  | some u =>
    obtain ⟨ob, z⟩ := (x a u q).there
    rw [e] at z; cases z
structure Exc (h₀ : Heap) (H : Hp) (e : Addr) (cls : Value) (h : Heap) : Prop where
  rcd : ∃ oe vs, h.get? e = some oe ∧ oe.cls = cls ∧ oe.data = .fields vs ∧
    (vs[1]? = some .none ∨ ∃ T oT ts, vs[1]? = some (.ref T) ∧ T ≠ e ∧ h.get? T = some oT ∧ oT.data = .fields ts ∧ ts[3]? = some .none ∧ H T = none ∧ h₀.get? T = none)
  un : H e = none
  new : h₀.get? e = none
structure ExcT (h₀ : Heap) (H : Hp) (e : Addr) (cls : Value) (h : Heap) : Prop where
  rcd : ∃ oe vs, h.get? e = some oe ∧ oe.cls = cls ∧ oe.data = .fields vs ∧
    ∃ T oT ts, vs[1]? = some (.ref T) ∧ T ≠ e ∧ h.get? T = some oT ∧ oT.data = .fields ts ∧ ts[3]? = some .none ∧ H T = none ∧ h₀.get? T = none
  un : H e = none
  new : h₀.get? e = none
theorem ExcT.exc {h₀ : Heap} {H : Hp} {e : Addr} {cls : Value} {h : Heap} (x : ExcT h₀ H e cls h) : Exc h₀ H e cls h := by
  obtain ⟨⟨oe, vs, a1, a2, a3, a4⟩, u, n⟩ := x
  exact ⟨⟨oe, vs, a1, a2, a3, .inr a4⟩, u, n⟩
theorem Exc.older {h₀ h₁ : Heap} {H : Hp} {e : Addr} {cls : Value} {h : Heap} (x : Exc h₀ H e cls h) (k : ∀ b, h₀.get? b = none → h₁.get? b = none) : Exc h₁ H e cls h := by
  obtain ⟨⟨oe, vs, a1, a2, a3, a4⟩, u, n⟩ := x
  refine ⟨⟨oe, vs, a1, a2, a3, ?_⟩, u, k _ n⟩
  rcases a4 with a4 | ⟨T, oT, ts, b1, b2, b3, b4, b5, b6, b7⟩
  · exact .inl a4
  · exact .inr ⟨T, oT, ts, b1, b2, b3, b4, b5, b6, k _ b7⟩
theorem Un.old {fs : List Addr} {H H' : Hp} {h h' : Heap} (u : Un fs [] H H' h h') {b : Addr} (e : h'.get? b = none) : h.get? b = none := by
  cases q : h.get? b with
  | none => rfl
  | some o =>
    obtain ⟨o', z⟩ := u.there b o q (by simp)
    rw [e] at z; cases z
def CXE (P : Program) (w : World) : CXT := fun outer H s E e s' => ∃ (a : Addr) (cls : Value) (H' : Hp), e = .ref a ∧ s'.os = s.os ∧ AllBare s'.gens ∧ Un (frs outer) [] H H' s.heap s'.heap ∧
  HOk P w H' s'.heap ∧ ExcT s.heap H' a cls s'.heap ∧ E cls none H'
section
variable {P : Program} {w : World} {K : PySem.W.Frag} {mg : Str → Option Value} {base : Heap} {N : List Str} {qual : Str} {scope : Scope} {f : Addr} {cd : Value} {A : Around} {outer : List Env} {s₀ : Shared} {H₀ : Hp} {E : XK}
theorem left_ok {pins : List (Addr × Obj)} {σ : St} {H : Hp} {s : Shared} {e : Addr} {cls : Value} {h' : Heap} {Z : List Addr}
    (I : Inv (cxOf (CXE P w) P w K mg base N qual scope f cd A outer s₀ H₀ E) pins σ H s) (hE : E cls none H) (hu : H e = none) (hn : s₀.heap.get? e = none)
    (hZ : ∀ b ∈ Z, H b = none ∧ (b ∈ frs outer ∨ s₀.heap.get? b = none))
    (hL : Heap.Left (PySem.W.hideAll s.heap Z) (envOfC qual scope s₀.heap.objs.size f cd :: outer) e cls s.heap h') :
    CXE P w outer H₀ s₀ E (.ref e) { s with heap := h' } := by
  obtain ⟨k1, k2, k3, k4⟩ := hL
  have B := I.base
  have keep : ∀ b o, s.heap.get? b = some o → b ∉ Z → h'.get? b = some o := fun b o q n => k1 b o (PySem.W.hideAll_get _ q n)
  have nZ : ∀ b o, s₀.heap.get? b = some o → b ∉ frs outer → b ∉ Z := fun b o q hb hz => by
    rcases (hZ b hz).2 with z | z
    · exact hb z
    · rw [q] at z; cases z
  have frD : ∀ b, b ∈ frs outer → ∃ o, s.heap.get? b = some o ∧ ∀ vs, o.data ≠ .fields vs := fun b hb => (I.funs.mem hb).2
  have thr : ∀ b o, s₀.heap.get? b = some o → ∃ o', h'.get? b = some o' := fun b o q => by
    obtain ⟨o1, q1⟩ := B.there b o q (by intro z; exact absurd (show b ∈ ([] : List Addr) from z) (by simp))
    by_cases hb : b ∈ frs outer
    · obtain ⟨o2, q2, hd⟩ := frD b hb
      obtain ⟨sl, q3⟩ := k4 b o2 q2 hd
      exact ⟨_, q3⟩
    · exact ⟨o1, keep b o1 q1 (nZ b o q hb)⟩
  have noex : ∀ b : Addr, b ∉ (cxOf (CXE P w) P w K mg base N qual scope f cd A outer s₀ H₀ E).ex := fun b z => absurd (show b ∈ ([] : List Addr) from z) (by simp)
  refine ⟨e, cls, H, rfl, I.os, I.bare, ⟨fun b o q n hb _ => ?_, fun b o q n hb _ => ?_, fun b o q n _ => B.free b o q n (noex b), fun b o q _ => thr b o q, B.tups, B.frzs, B.tbls⟩, fun a o q => ?_, ⟨?_, hu, hn⟩, hE⟩
  · exact keep b o (B.keep b o q n hb (noex b)) (nZ b o q hb)
  · obtain ⟨sl, q1⟩ := B.slot b o q n hb (noex b)
    obtain ⟨o2, q2, hd⟩ := frD b hb
    rw [q1] at q2; cases q2
    obtain ⟨sl2, q3⟩ := k4 b _ q1 hd
    exact ⟨sl2, q3⟩
  · refine (I.hok a o q).stay (fun b u hb q' => keep b u q' fun z => ?_) (fun _ q => q) fun _ _ q => q
    have := (hZ b z).1
    rcases hb with rfl | hb
    · rw [q] at this; cases this
    · rw [hb] at this; cases this
  · obtain ⟨oe, vs, T, oT, ts, a1, a2, a3, a4, a5, a6, a7, a8, a9⟩ := k3
    refine ⟨oe, vs, a1, a2, a3, T, oT, ts, a4, a6, a7, a8, a9, ?_⟩
    by_cases hz : T ∈ Z
    · refine ⟨(hZ T hz).1, ?_⟩
      rcases (hZ T hz).2 with z | z
      · obtain ⟨_, o, q, hd⟩ := (show h'.FunFrames _ outer from k2.2.2).mem z
        rw [a7] at q; cases q
        exact absurd a8 (hd ts)
      · exact z
    · have sn : s.heap.get? T = none := by
        cases q : s.heap.get? T with
        | none => rfl
        | some o => rw [PySem.W.hideAll_get _ q hz] at a5; cases a5
      refine ⟨I.hok.unknown sn, ?_⟩
      cases q : s₀.heap.get? T with
      | none => rfl
      | some o =>
        obtain ⟨o1, q1⟩ := B.there T o q (noex T)
        rw [sn] at q1; cases q1
theorem leave_ok {pins : List (Addr × Obj)} {σ : St} {H : Hp} {s : Shared} {e : Addr} {cls : Value}
    (I : Inv (cxOf (CXE P w) P w K mg base N qual scope f cd A outer s₀ H₀ E) pins σ H s) (X : Exc s₀.heap H e cls s.heap) (hE : E cls none H) :
    (cxOf (CXE P w) P w K mg base N qual scope f cd A outer s₀ H₀ E).xe (.ref e) s := by
  obtain ⟨⟨oe, vs, he, hc, hd, h1⟩, hu, hn⟩ := X
  have FF : s.heap.FunFrames base (envOfC qual scope s₀.heap.objs.size f cd :: outer) := I.stack
  have fr : (A.deeper (envOfC qual scope s₀.heap.objs.size f cd)).frames = some (envOfC qual scope s₀.heap.objs.size f cd :: outer) := I.ok.frames
  have frZ : ∀ b ∈ frs (envOfC qual scope s₀.heap.objs.size f cd :: outer), H b = none ∧ (b ∈ frs outer ∨ s₀.heap.get? b = none) := fun b hb => by
    refine ⟨I.stkFree b hb, ?_⟩
    have hb' : b ∈ s₀.heap.objs.size :: frs outer := hb
    rcases List.mem_cons.mp hb' with rfl | z
    · exact .inr (Heap.get?_none_of_le (Nat.le_refl _))
    · exact .inl z
  have inZ : ∀ (Z : List Addr), ∀ env ∈ (envOfC qual scope s₀.heap.objs.size f cd :: outer), ∀ a, env.frame = some a → a ∈ Z ++ frs (envOfC qual scope s₀.heap.objs.size f cd :: outer) := fun Z env he a ha =>
    List.mem_append_right _ (List.mem_filterMap.mpr ⟨env, he, ha⟩)
  show wpAny (model P w) (A.deeper (envOfC qual scope s₀.heap.objs.size f cd)) (leaving (envOfC qual scope s₀.heap.objs.size f cd) (.ref e)) _ _ s
  rcases h1 with h1 | ⟨T, oT, ts, b1, b2, b3, b4, b5, b6, b7⟩
  · refine wpAny_leaving_first (base := PySem.W.hideAll s.heap ([e] ++ frs (envOfC qual scope s₀.heap.objs.size f cd :: outer))) fr (PySem.W.funFrames_hide FF (inZ [e])) rfl he (fun b o q => PySem.W.of_hideAll _ q)
      (PySem.W.hideAll_none _ (List.mem_append_left _ (by simp))) hd h1 fun h' hL => ?_
    rw [hc] at hL
    refine left_ok I hE hu hn (fun b hb => ?_) hL
    rcases List.mem_append.mp hb with z | z
    · have : b = e := by simpa using z
      subst this
      exact ⟨hu, .inr hn⟩
    · exact frZ b z
  · refine wpAny_leaving_next (base := PySem.W.hideAll s.heap ([e, T] ++ frs (envOfC qual scope s₀.heap.objs.size f cd :: outer))) (cls := cls) fr (PySem.W.funFrames_hide FF (inZ [e, T])) rfl
      ⟨oe, vs, T, oT, ts, he, hc, hd, b1, PySem.W.hideAll_none _ (List.mem_append_left _ (by simp)), b2, b3, b4, b5⟩ (fun b o q => PySem.W.of_hideAll _ q)
      (PySem.W.hideAll_none _ (List.mem_append_left _ (by simp))) fun h' hL => ?_
    refine left_ok I hE hu hn (fun b hb => ?_) hL
    rcases List.mem_append.mp hb with z | z
    · have : b = e ∨ b = T := by simpa using z
      rcases this with rfl | rfl
      · exact ⟨hu, .inr hn⟩
      · exact ⟨b6, .inr b7⟩
    · exact frZ b z
theorem passX : Passes (CXE P w) (cxOf (CXE P w) P w K mg base N qual scope f cd A outer s₀ H₀ E) E := fun pins σ H s e s' I h => by
  obtain ⟨a, cls, H', rfl, os, bare, un, hok, X, hE⟩ := h
  have I' := I.call' (ch := []) os un hok bare (fun b z => absurd z (by simp))
  refine leave_ok I' (X.exc.older fun b hb => ?_) hE
  cases q : s₀.heap.get? b with
  | none => rfl
  | some o =>
    obtain ⟨o1, q1⟩ := I.base.there b o q (fun z => absurd (show b ∈ ([] : List Addr) from z) (by simp))
    rw [hb] at q1; cases q1
theorem passOwn : PassesOwn (model P w) (cxOf (CXE P w) P w K mg base N qual scope f cd A outer s₀ H₀ E).A (cxOf (CXE P w) P w K mg base N qual scope f cd A outer s₀ H₀ E).env (cxOf (CXE P w) P w K mg base N qual scope f cd A outer s₀ H₀ E).xe := PassesOwn.leaving
end
theorem Fun.okX {P : Program} {w : World} {K : PySem.W.Frag} {mg : Str → Option Value} {base : Heap} {x qual : Str} {st : Stmt} {f : Addr} {fd : FuncData} {N ps : List Str} {k : Nat} {sp : Sp} (F : Fun K x qual st f fd) (S : FnScope N ps (defScope st)) (len : ∀ vs H Q E, sp vs H Q E → vs.length = ps.length)
    (hbody : ∀ (cdv : Value) (A : Around) (outer : List Env) (s : Shared) (H : Hp) (vs : List V) (Q : VK) (E : XK), Room k (A.deeper (envOfC qual (defScope st) s.heap.objs.size f cdv)) → sp vs H Q E →
      ∃ t, PSs (cxOf (CXE P w) P w K mg base N qual (defScope st) f cdv A outer s H E) (defBody st) t ∧ t { nx := fun _ H' => Q .non H', rt := Q } (start N vs) H) : FnOk P w K mg base (CXE P w) (k + 1) f fd ps sp := by
  obtain ⟨oc, od, kV, doc, pm, an, cdv, ct, osl, rfl, lk, hcd⟩ := F.ex
  exact fn_of lk hcd S len fun A outer s H vs Q E hr hsp => hbody cdv A outer s H vs Q E hr hsp
abbrev excBm : List Value := [.type "Exception", .type "BaseException", .type "object"]
theorem exc_obj {K : PySem.W.Frag} {h : Heap} {C : Addr} (X : K.In h) (q : PySem.W.excIn K C excBm "Exception.__new__" = true) :
    ∃ bm N nm qn bs hd sn sub ab col dd k0 k1 k2 k3 k5 mN, h.get? C = some (excClassObj nm qn C N bs bm hd sn sub ab col dd k0 k1 k2 k3 k5 "Exception.__new__") ∧ h.Ns N mN ∧ mN "__init__" = none ∧ OwnTail h excBm bm := by
  unfold PySem.W.excIn at q
  split at q
  next dd cd sl ho =>
    split at q
    next C' bm k0 k1 k2 k3 n k5 hm hs =>
      simp only [Bool.and_eq_true, beq_iff_eq, Bool.not_eq_true'] at q
      obtain ⟨⟨⟨⟨⟨e1, e2⟩, e3⟩, e4⟩, e5⟩, e6⟩ := q
      obtain ⟨nm, bs, mro, ns, qn, hd, sn, sub, ab, col, del⟩ := cd
      dsimp only at hm e3 e5 e6
      subst e1 e2 hm e3
      have z : sl = #[k0, k1, k2, k3, some (.builtin "Exception.__new__"), k5] := by
        obtain ⟨l⟩ := sl
        have hs' : l = [k0, k1, k2, k3, some (.builtin "Exception.__new__"), k5] := hs
        rw [hs']
      subst z
      exact ⟨bm, ns, nm, qn, bs, hd, sn, sub, ab, col, dd, k0, k1, k2, k3, k5, h.nsMap ns, X _ _ ho, .of_isNs (PySem.W.isNs_of_in X e5), PySem.W.nsMap_none_of_in X e5 e6, PySem.W.tail_of_in X e4⟩
    next => cases q
  next => cases q
def tRaise (C : Addr) (te : TE) (E : XK) : TS := fun _ σ H => te σ H fun x H1 => [x].length ≤ sizeLine ∧ E (.ref C) none H1
section
variable {P : Program} {w : World} {K : PySem.W.Frag} {mg : Str → Option Value} {base : Heap} {N : List Str} {qual : Str} {scope : Scope} {f : Addr} {cd : Value} {A : Around} {outer : List Env} {s₀ : Shared} {H₀ : Hp} {E : XK}
theorem ps_raise {x : Str} {C : Addr} {arg : Expr} {te : TE} {np cpos pos : Pos} (hc : PySem.W.excIn K C excBm "Exception.__new__" = true)
    (hg : Gl (cxOf (CXE P w) P w K mg base N qual scope f cd A outer s₀ H₀ E) x) (hm : mg x = some (.ref C))
    (he : PE (cxOf (CXE P w) P w K mg base N qual scope f cd A outer s₀ H₀ E) arg te)
    (hs : starEach [arg] (envOfC qual scope s₀.heap.objs.size f cd) = [(false, eval arg (envOfC qual scope s₀.heap.objs.size f cd))] := by rfl)
    (hd : (x == ("__debug__" : Str)) = false := by decide) :
    PS (cxOf (CXE P w) P w K mg base N qual scope f cd A outer s₀ H₀ E) (.Raise (some (.Call (.Name x np) [arg] [] cpos)) none pos) (tRaise C te E) := by
  intro pins s σ H D I h
  have hx := exc_obj I.ok.mod.kin hc
  obtain ⟨bm, Nn, nm, qn, bs, hdct, sn, sub, ab, col, dd, k0, k1, k2, k3, k5, mN, hC, hN, hni, T⟩ := hx
  refine wpAny_Raise_call_subT (C := C) (nm := nm) (q := qn) (N := Nn) (bs := bs) (bm := bm) (hdct := hdct) (sn := sn) (sub := sub) (ab := ab) (col := col) (dd := dd) (k0 := k0) (k1 := k1) (k2 := k2) (k3 := k3) (k5 := k5)
    PySem.F.excBase_Exception (mN := mN) (T.hasType PySem.F.excBase_Exception.hasBase) (I.ok.hd rfl) (by show (backTo cpos (starEach [arg] (envOfC qual scope s₀.heap.objs.size f cd))).any (·.1) = false; rw [hs]; rfl) hni (ld_glob I hg hm ⟨rfl, ?_⟩ hd)
  have pa : PA (cxOf (CXE P w) P w K mg base N qual scope f cd A outer s₀ H₀ E) [arg] (tCons te tNil) := pa_cons he pa_nil hs
  have h3 := pa cpos pins s σ H (fun vs H1 => vs.length ≤ sizeLine ∧ E (.ref C) none H1) I h
  change wpAny (model P w) (A.deeper (envOfC qual scope s₀.heap.objs.size f cd)) (spliced (backTo cpos (starEach [arg] (envOfC qual scope s₀.heap.objs.size f cd)))) _ _ s at h3
  rw [hs] at h3
  show wpAny (model P w) (A.deeper (envOfC qual scope s₀.heap.objs.size f cd)) (evalArgs (.ref C) true (backTo cpos (starEach [arg] (envOfC qual scope s₀.heap.objs.size f cd))) []) _ _ s
  rw [hs]
  refine Calls.evalArgs_plain (wpAny_mono h3 (fun us s2 h4 => ?_) fun _ _ z => z)
  obtain ⟨vs, H1, I1, r1, hz, q1⟩ := h4
  have kb := I1.bk
  refine ⟨rfl, ?_, kb _ _ hC, hN.keeps kb, T.keeps kb, fun h' e hm => ?_⟩
  · rw [← r1.length]; exact hz
  · obtain ⟨t, ht, htn, _⟩ := hm.there
    refine leave_ok (I1.kept (t' := s2.toks) hm.keeps) ⟨⟨_, _, ht, rfl, rfl, .inl rfl⟩, I1.hok.unknown hm.new, ?_⟩ q1
    cases q : s₀.heap.get? e with
    | none => rfl
    | some o =>
      obtain ⟨o1, q2⟩ := I1.base.there e o q (fun z => absurd (show e ∈ ([] : List Addr) from z) (by simp))
      rw [hm.new] at q2; cases q2
end
end L2
namespace L2
open PySem PySem.Spec PyProof.Rows
theorem Inv.stepX {X : Cx} {pins : List (Addr × Obj)} {σ : St} {H : Hp} {s : Shared} {h' : Heap} {ch : List Addr} (I : Inv X pins σ H s)
    (hch : ∀ b ∈ ch, X.s₀.heap.get? b = none ∧ b ≠ X.env.locals ∧ (∀ x c, X.env.cells.lookup x = some c → c ≠ b) ∧ ∀ p ∈ X.pn ++ pins, p.1 ≠ b) (hcH : ∀ b ∈ ch, H b = none)
    (keep : ∀ b o, b ∉ frs X.stack → b ∉ ch → s.heap.get? b = some o → h'.get? b = some o)
    (slot : ∀ b o, b ∈ frs X.stack → b ∉ ch → s.heap.get? b = some o → ∃ sl, h'.get? b = some { o with slots := sl }) : Inv X pins σ H { s with heap := h' } := by
  have neC : ∀ b o, X.s₀.heap.get? b = some o → b ∉ ch := fun b o e hb => by
    have := (hch b hb).1
    rw [e] at this; cases this
  have any : ∀ b o, b ∉ ch → s.heap.get? b = some o → ∃ sl, h'.get? b = some { o with slots := sl } := fun b o hc e => by
    by_cases hb : b ∈ frs X.stack
    · exact slot b o hb hc e
    · exact ⟨o.slots, keep b o hb hc e⟩
  have fsS : ∀ b, b ∈ frs X.stack → b ≠ X.env.locals → b ∈ X.fs := fun b hb hL => (List.mem_cons.mp (I.stkSub b hb)).elim (fun z => absurd z hL) id
  have cellK : ∀ x c, X.env.cells.lookup x = some c → ∀ v, s.heap.IsCell c v → h'.IsCell c v := fun x c e v ⟨o, ho, hd⟩ => by
    obtain ⟨sl, q⟩ := any c o (fun z => (hch c z).2.2.1 x c e rfl) ho
    exact ⟨_, q, hd⟩
  have neL : ∀ b o, X.s₀.heap.get? b = some o → b ≠ X.env.locals := fun b o e => Nat.ne_of_lt (Nat.lt_of_lt_of_le (Heap.lt_size e) I.ok.above)
  refine ⟨I.ok, I.os, I.bare, ⟨fun b o e n hb hx => ?_, fun b o e n hb hx => ?_, fun b o e n hx => I.base.free b o e n hx, fun b o e hx => ?_, I.base.tups, I.base.frzs, I.base.tbls⟩, ?_, fun x c e => ?_, I.free, I.freeC, fun p hp => ?_, fun a o q => ?_, I.len⟩
  · exact keep b o (fun z => hb (fsS b z (neL b o e))) (neC b o e) (I.base.keep b o e n hb hx)
  · obtain ⟨sl, e1⟩ := I.base.slot b o e n hb hx
    obtain ⟨sl', e2⟩ := any b _ (neC b o e) e1
    exact ⟨sl', e2⟩
  · obtain ⟨o', e1⟩ := I.base.there b o e hx
    obtain ⟨sl', e2⟩ := any b _ (neC b o e) e1
    exact ⟨_, e2⟩
  · obtain ⟨m, ⟨o, es, ep, ho, r⟩, hl⟩ := I.loc
    obtain ⟨sl, hL⟩ := any _ o (fun z => (hch _ z).2.1 rfl) ho
    refine ⟨m, ⟨_, es, ep, hL, r⟩, fun i x v e1 e2 e3 => ?_⟩
    obtain ⟨u, ru, l⟩ := hl i x v e1 e2 e3
    refine ⟨u, ru, ?_⟩
    rcases l with l | ⟨k, c, e, z⟩
    · exact .inl l
    · exact .inr ⟨k, c, e, cellK x c e _ z⟩
  · obtain ⟨v, z⟩ := I.cell x c e
    exact ⟨v, cellK x c e v z⟩
  · obtain ⟨e, n, ne, nf, d⟩ := I.pin p hp
    exact ⟨keep p.1 p.2 (fun z => nf (fsS _ z ne)) (fun z => (hch p.1 z).2.2.2 p hp rfl) e, n, ne, nf, d⟩
  · refine (I.hok a o q).stay (fun b u hb q' => keep b u (fun z => ?_) (fun z => ?_) q') (fun _ q => q) fun _ _ q => q
    · have := I.stkFree b z
      rcases hb with rfl | hb
      · rw [q] at this; cases this
      · rw [hb] at this; cases this
    · have := hcH b z
      rcases hb with rfl | hb
      · rw [q] at this; cases this
      · rw [hb] at this; cases this
abbrev Cx.caught (X : Cx) (e : Value) : Cx := { X with A := X.A.mark (some e), calm := false }
theorem Inv.caught {X : Cx} {pins : List (Addr × Obj)} {σ : St} {H : Hp} {s : Shared} (I : Inv X pins σ H s) (e : Value) : Inv (X.caught e) pins σ H s :=
  ⟨⟨I.ok.mod, I.ok.kind, I.ok.glob, I.ok.blt, I.ok.above, I.ok.inj, I.ok.has, I.ok.cab, fun z => (nomatch z), I.ok.frames, I.ok.stk, I.ok.exf, I.ok.bs, I.ok.bsz, I.ok.noex, I.ok.exfs, I.ok.funs, I.ok.frf⟩,
    I.os, I.bare, I.base, I.loc, I.cell, I.free, I.freeC, I.pin, I.hok, I.len⟩
theorem Inv.uncaught {X : Cx} {pins : List (Addr × Obj)} {σ : St} {H : Hp} {s : Shared} {e : Value} (ok : X.Ok) (I : Inv (X.caught e) pins σ H s) : Inv X pins σ H s :=
  ⟨ok, I.os, I.bare, I.base, I.loc, I.cell, I.free, I.freeC, I.pin, I.hok, I.len⟩
theorem SP.uncaught {X : Cx} {pins : List (Addr × Obj)} {D : Ends} {f : Flow} {s' : Shared} {e : Value} (ok : X.Ok) (h : SP (X.caught e) pins D f s') : SP X pins D f s' := by
  cases f with
  | next => obtain ⟨σ, H, I, q⟩ := h; exact ⟨σ, H, I.uncaught ok, q⟩
  | brk => obtain ⟨σ, H, I, q⟩ := h; exact ⟨σ, H, I.uncaught ok, q⟩
  | cont => obtain ⟨σ, H, I, q⟩ := h; exact ⟨σ, H, I.uncaught ok, q⟩
  | ret u => obtain ⟨v, σ, H, I, r, q⟩ := h; exact ⟨v, σ, H, I.uncaught ok, r, q⟩
def Cx.Off (X : Cx) (pins : List (Addr × Obj)) (b : Addr) : Prop := X.s₀.heap.get? b = none ∧ b ≠ X.env.locals ∧ (∀ x c, X.env.cells.lookup x = some c → c ≠ b) ∧ ∀ p ∈ X.pn ++ pins, p.1 ≠ b
structure Held (X : Cx) (pins : List (Addr × Obj)) (σ : St) (H : Hp) (e : Addr) (cls : Value) (s : Shared) : Prop where
  inv : Inv X pins σ H s
  exc : ∃ oe vs T oT ts, s.heap.get? e = some oe ∧ oe.cls = cls ∧ oe.data = .fields vs ∧ vs[1]? = some (.ref T) ∧ T ≠ e ∧ s.heap.get? T = some oT ∧ oT.data = .fields ts ∧ ts[3]? = some .none ∧ ∀ b ∈ [e, T], H b = none ∧ X.Off pins b
def PH (X : Cx) (hs : List ExceptHandler) (t : Value → TS) : Prop :=
  ∀ (pins : List (Addr × Obj)) (s : Shared) (σ : St) (H : Hp) (D : Ends) (e : Addr) (cls : Value), Held X pins σ H e cls s → t cls D σ H → wpAny (model X.prog X.w) X.A (handleBy (.ref e) X.env hs) (SP X pins D) X.xe s
def tNoH : Value → TS := fun _ _ _ _ => False
theorem ph_nil {X : Cx} : PH X [] tNoH := fun _ _ _ _ _ _ _ _ h => h.elim
def tHc (K : PySem.W.Frag) (C : Addr) (tb : TS) (r : Value → TS) : Value → TS := fun cls D σ H => ∃ b, PySem.W.exmOne K cls (.ref C) = some b ∧ if b = true then tb D σ H else r cls D σ H
theorem ph_cons {X : Cx} {x : Str} {C : Addr} {b₀ : Stmt} {suite : List Stmt} {np pos : Pos} {rest : List ExceptHandler} {tb : TS} {r : Value → TS} (hE : ∀ e, PassesOwnAt (model X.prog X.w) (X.A.mark (some (.ref e))) X.A X.env X.xe)
    (hg : Gl X x) (hm : X.mg x = some (.ref C)) (hb : ∀ e, PSs (X.caught e) (b₀ :: suite) tb) (hr : PH X rest r) (hd : (x == ("__debug__" : Str)) = false := by decide) :
    PH X (.ExceptHandler (some (.Name x np)) none (b₀ :: suite) pos :: rest) (tHc X.K C tb r) := by
  intro pins s σ H D e cls hh h
  obtain ⟨b, hx, h⟩ := h
  obtain ⟨I, oe, vs, T, oT, ts, h1, h2, h3, h4, h5, h6, h7, h8, h9⟩ := id hh
  have hv0 : 0 < vs.size := Nat.lt_of_le_of_lt (Nat.zero_le _) (Array.getElem?_eq_some_iff.mp h4).1
  have inZ : ∀ env ∈ X.stack, ∀ a, env.frame = some a → a ∈ [e, T] ++ frs X.stack := fun env he a ha => List.mem_append_right _ (List.mem_filterMap.mpr ⟨env, he, ha⟩)
  have fl : Heap.FlyingW (PySem.W.hideAll s.heap ([e, T] ++ frs X.stack)) X.stack e cls vs[0] s.heap :=
    ⟨fun b o q => PySem.W.of_hideAll _ q, PySem.W.hideAll_none _ (List.mem_append_left _ (by simp)), PySem.W.funFrames_hide I.stack inZ,
      oe, vs, T, oT, ts, h1, ⟨h2, Array.getElem?_eq_getElem hv0⟩, h3, h4, PySem.W.hideAll_none _ (List.mem_append_left _ (by simp)), h5, h6, h7, h8⟩
  refine wpAny_handleBy_cons (codeAny_handlers_test ?_) (by intro q; cases q)
  refine ld_glob (I.caught (.ref e)) hg hm ?_ hd
  have LT : PySem.W.Looks (model X.prog X.w) s.heap (typeOf (.ref e)) cls := by
    subst h2
    exact (PySem.W.Looks.ld h1).andThen .now
  refine PySem.W.Looks.here (PySem.W.exm_one I.kIn LT hx) ?_
  cases b with
  | false =>
    rw [if_neg Bool.false_ne_true] at h
    exact hr pins s σ H D e cls hh h
  | true =>
    rw [if_pos rfl] at h
    refine codeAny_handlers_suite (lands_againW fl fun h' fl' up => ?_)
    have I' : Inv X pins σ H { s with heap := h' } := by
      refine I.stepX (ch := [e, T]) (fun b hb => (h9 b hb).2) (fun b hb => (h9 b hb).1) (fun b o hf hc q => ?_) fun b o hf hc q => ?_
      · refine fl'.1 b o (PySem.W.hideAll_get _ q fun z => ?_)
        rcases List.mem_append.mp z with z | z
        · exact hc z
        · exact hf z
      · obtain ⟨_, o', q', hdat⟩ := I.stack.mem hf
        rw [q] at q'; cases q'
        exact up b o q hdat
    refine wpAny_passesOwnAt (hE e) (thn (hb (.ref e) pins _ σ H D (I'.caught (.ref e)) h) fun f s2 q2 => ?_)
    exact SP.uncaught I.ok q2
def tTryCall (sp : Sp) (t : TA) (th : Value → TS) : TS := fun D σ H => t σ H fun vs H1 => sp vs H1 D.rt fun cls _ H' => th cls D σ H'
theorem held_of {X : Cx} {pins : List (Addr × Obj)} {σ : St} {H : Hp} {s s' : Shared} {E : XK} {v : Value} {Q : Value → Shared → Prop} {F : Value → Shared → Prop} (I : Inv X pins σ H s) (hf : X.env.frame = some X.env.locals) (hk : X.stack = X.env :: X.outer) (hex : X.ex = [])
    (h : CXE X.prog X.w X.stack H s E v s')
    (k : ∀ e cls H2 s2, v = .ref e → E cls none H2 → Held X pins σ H2 e cls s2 → Q v s2) :
    wpAny (model X.prog X.w) X.A (noteFrame v X.env) (fun _ s₂ => wpAny (model X.prog X.w) X.A (setFlight v none) (fun _ s₃ => Q v s₃) F s₂) F s' := by
  obtain ⟨e, cls, H', rfl, os, bare, un, hok, Xc, hE⟩ := h
  have I' := I.call' (ch := []) os un hok bare (fun b z => absurd z (by simp))
  obtain ⟨⟨oe, vs, he, hc, hd, T, oT, ts, b1, b2, b3, b4, b5, b6, b7⟩, hu, hn⟩ := Xc
  have stk := I'.stack
  have fr := I'.ok.frames
  rw [hk] at fr stk
  have apart : ∀ b, s.heap.get? b = none → X.Off pins b := fun b hb => by
    refine ⟨?_, fun z => ?_, fun x c q z => ?_, fun p hp z => ?_⟩
    · cases q : X.s₀.heap.get? b with
      | none => rfl
      | some o =>
        obtain ⟨o1, q1⟩ := I.base.there b o q (by rw [hex]; simp)
        rw [hb] at q1; cases q1
    · obtain ⟨m, ⟨o, _, _, ho, _⟩, _⟩ := I.loc
      rw [← z, hb] at ho; cases ho
    · obtain ⟨v, o, ho, _⟩ := I.cell x c q
      rw [z, hb] at ho; cases ho
    · have := (I.pin p hp).1
      rw [z, hb] at this; cases this
  have hv0 : 0 < vs.size := Nat.lt_of_le_of_lt (Nat.zero_le _) (Array.getElem?_eq_some_iff.mp b1).1
  have inZ : ∀ env ∈ X.env :: X.outer, ∀ a, env.frame = some a → a ∈ [e, T] ++ frs X.stack := fun env he a ha => List.mem_append_right _ (by rw [hk]; exact List.mem_filterMap.mpr ⟨env, he, ha⟩)
  have fl : Heap.FlyingW (PySem.W.hideAll s'.heap ([e, T] ++ frs X.stack)) (X.env :: X.outer) e cls vs[0] s'.heap :=
    ⟨fun b o q => PySem.W.of_hideAll _ q, PySem.W.hideAll_none _ (List.mem_append_left _ (by simp)), PySem.W.funFrames_hide stk inZ,
      oe, vs, T, oT, ts, he, ⟨hc, Array.getElem?_eq_getElem hv0⟩, hd, b1, PySem.W.hideAll_none _ (List.mem_append_left _ (by simp)), b2, b3, b4, b5⟩
  refine wpAny_looks_onW fr hf fl fun h4 hh4 up4 => wpAny_landsW hh4 fun h5 fl5 up5 => ?_
  have keep5 : ∀ b o, s'.heap.get? b = some o → b ∉ [e, T] ++ frs X.stack → h5.get? b = some o := fun b o q hb => fl5.1 b o (PySem.W.hideAll_get _ q hb)
  have newsZ : ∀ b ∈ [e, T], s.heap.get? b = none ∧ H' b = none := fun b hb => by
    have : b = e ∨ b = T := by simpa using hb
    rcases this with rfl | rfl
    · exact ⟨hn, hu⟩
    · exact ⟨b7, b6⟩
  have I5 : Inv X pins σ H' { s' with heap := h5 } := by
    refine I'.stepX (ch := [e, T]) (fun b hb => apart b (newsZ b hb).1) (fun b hb => (newsZ b hb).2) (fun b o hf hc q => keep5 b o q ?_) fun b o hf hc q => ?_
    · intro z
      rcases List.mem_append.mp z with z | z
      · exact hc z
      · exact hf z
    · obtain ⟨_, o', q', hdat⟩ := I'.stack.mem hf
      rw [q] at q'; cases q'
      exact (up4.trans up5) b o q hdat
  obtain ⟨_, _, ff5, oe', vs', T', oT', ts', c1, ⟨c2, _⟩, c3, c4, c5, c6, c7, c8, c9⟩ := fl5
  refine k e cls H' _ rfl hE ⟨I5, oe', vs', T', oT', ts', c1, c2, c3, c4, c6, c7, c8, c9, fun b hb => ?_⟩
  have hb' : b = e ∨ b = T' := by simpa using hb
  rcases hb' with rfl | rfl
  · exact ⟨hu, apart b hn⟩
  · by_cases hz : b ∈ [e, T] ++ frs X.stack
    · rcases List.mem_append.mp hz with z | z
      · exact ⟨(newsZ b z).2, apart b (newsZ b z).1⟩
      · rw [hk] at z
        obtain ⟨_, o, q, hdat⟩ := ff5.mem z
        rw [c7] at q; cases q
        exact absurd c8 (hdat ts')
    · have sn : s'.heap.get? b = none := by
        cases q : s'.heap.get? b with
        | none => rfl
        | some o => rw [PySem.W.hideAll_get _ q hz] at c5; cases c5
      exact ⟨hok.unknown sn, apart b (un.old sn)⟩
theorem ps_tryCall {X : Cx} {k : Nat} {f : Addr} {fd : FuncData} {ps : List Str} {sp : Sp} {x : Str} {p pos cpos rp : Pos} {e : Expr} {es : List Expr} {t : TA} {h₀ : ExceptHandler} {hs : List ExceptHandler} {th : Value → TS}
    (hf : X.env.frame = some X.env.locals) (hst : X.stack = X.env :: X.outer) (hex : X.ex = [])
    (F : FnOk X.prog X.w X.K X.mg X.base (CXE X.prog X.w) k f fd ps sp) (hr : Room k X.A) (hg : Gl X x) (hm : X.mg x = some (.ref f)) (hk : PySem.W.keepIn X.K (.ref f) = true) (hb : Binds X.K fd ps [])
    (ha : ∀ Ex, PA (X.wish Ex) (e :: es) t) (hh : PH X (h₀ :: hs) th)
    (hdb : (x == ("__debug__" : Str)) = false := by decide) (he : starEach (e :: es) X.env = (false, eval e X.env) :: starEach es X.env := by rfl) (hpl : (backTo cpos (starEach es X.env)).any (·.1) = false := by rfl) :
    PS X (.Try [.Return (some (.Call (.Name x p) (e :: es) [] cpos)) rp] (h₀ :: hs) [] [] pos) (tTryCall sp t th) := by
  intro pins s σ H D I h
  refine wpAny_Try_except ?_
  let Ex : Value → Shared → Prop := fun v s₁ => wpAny (model X.prog X.w) X.A (noteFrame v X.env) (fun _ s₂ => wpAny (model X.prog X.w) X.A (setFlight v none) (fun _ s₃ => wpAny (model X.prog X.w) X.A (handleBy v X.env (h₀ :: hs)) (SP X pins D) X.xe s₃) X.xe s₂) X.xe s₁
  have call : wpAny (model X.prog X.w) X.A (eval (.Call (.Name x p) (e :: es) [] cpos) X.env) (EP X pins σ D.rt) Ex s := by
    refine wpAny_Call_Name_kw (ld_glob I hg hm ?_ hdb)
    refine PySem.W.callWith_K (h₀ := X.base) I.ok.mod.kin hk (thn (ha Ex cpos pins s σ H _ (I.wish Ex) h) fun us s1 ⟨vs, H1, I1w, r, q⟩ => ?_) he hpl
    have I1 : Inv X pins σ H1 s1 := I1w.unwish
    refine ⟨I1.kIn, ?_⟩
    have hl : us.length = ps.length := by rw [← r.length]; exact F.len _ _ _ _ q
    have hb1 := hb s1 us I1.kIn (by rw [List.append_nil]; exact hl)
    rw [List.append_nil] at hb1
    refine wpAny_call (codeAny_mono (F.run X.A X.stack s1 H1 ⟨us, []⟩ us vs D.rt _ hr I1.env0 hb1 r q) fun res s' hq => ?_)
    cases res with
    | error v =>
      have hq' : CXE X.prog X.w X.stack H1 s1 (fun cls _ H' => th cls D σ H') v s' := hq
      refine held_of (Q := fun v s₃ => wpAny (model X.prog X.w) X.A (handleBy v X.env (h₀ :: hs)) (SP X pins D) X.xe s₃) I1 hf hst hex hq' fun e1 cls H2 s2 ev hE hd => ?_
      subst ev
      exact hh pins s2 σ H2 D e1 cls hd hE
    | ok fl =>
      cases fl with
      | ret u => exact I1.after hq
      | next => exact False.elim hq
      | brk => exact False.elim hq
      | cont => exact False.elim hq
  refine wpAny_execs_cons (wpAny_Return_some (thn call fun v s1 ⟨y, H1, I1, r1, q1⟩ => ?_))
  exact ⟨y, σ, H1, I1, r1, q1⟩
end L2
namespace HT
open PySem PyProof.Rows
open PySem.SeqAt
open PySem.AutoSeq1 (wpAny_loadPart')
open PySem.MeetsSeq PySem.MeetsSeq2 PySem.MeetsSeq3
theorem intsAre_get {its : Array Value} {ns : List Int} (h : IntsAre its.toList ns) {i : Nat} (hi : i < its.size) : ∃ a t, its[i]? = some (.int a t) ∧ ns[i]? = some a := by
  have aux : ∀ {vs : List Value} {ns : List Int}, IntsAre vs ns → ∀ i, i < vs.length → ∃ a t, vs[i]? = some (.int a t) ∧ ns[i]? = some a := by
    intro vs ns h
    induction h with
    | nil => intro i hi; simp at hi
    | cons n t h ih =>
      intro i hi
      cases i with
      | zero => exact ⟨n, t, rfl, rfl⟩
      | succ i =>
        obtain ⟨a, u, e1, e2⟩ := ih i (by simpa using hi)
        exact ⟨a, u, by simpa using e1, by simpa using e2⟩
  obtain ⟨a, t, e1, e2⟩ := aux h i (by simpa using hi)
  exact ⟨a, t, by simpa using e1, e2⟩
theorem ltLoop (l b : Addr) (xs ys : Array Value) (n n2 : Nat) (dd dd2 : Option Addr) (sl sl2 : Array (Option Value)) (ns ms : List Int) (hi : IntsAre xs.toList ns) (hj : IntsAre ys.toList ms) :
    ∀ (k i : Nat), xs.size - i = k → i ≤ xs.size → i ≤ ys.size → Meets (Builtin.«list.__eq__.loop» ⟨[.ref l, .ref b, rawInt i, rawInt 0], []⟩)
      (fun _ R s => (s.heap.get? l = some { cls := .type "list", dict := dd, data := .seq xs n, slots := sl } ∧ s.heap.get? b = some { cls := .type "list", dict := dd2, data := .seq ys n2, slots := sl2 }) ∧
        R (.ok (.ret (.bool (lexLt (ns.drop i) (ms.drop i))))) s) := by
  have z1 : xs.size = ns.length := by rw [← hi.length]; simp
  have z2 : ys.size = ms.length := by rw [← hj.length]; simp
  intro k
  induction k with
  | zero =>
    intro i hk g1 g2 prog w A R s h
    obtain ⟨hp, g, d, tk, os⟩ := s
    obtain ⟨⟨hl, hb⟩, h⟩ := h
    wp_walk using wpAny_loadPart' hl, wpAny_loadPart' hb
    have e1 : xs[((i : Nat) : Int).toNat]? = none := by simp; omega
    have e2 : ns.drop i = [] := List.drop_eq_nil_of_le (by omega)
    rw [e1]
    rw [e2] at h
    wp_walk using wpAny_loadPart' hl, wpAny_loadPart' hb
    show R (.ok (.ret (.bool (decide (xs.size < ys.size))))) _
    have e3 : lexLt [] (ms.drop i) = decide (xs.size < ys.size) := by
      have ln : (ms.drop i).length = ms.length - i := List.length_drop
      cases q : ms.drop i with
      | nil =>
        rw [q, List.length_nil] at ln
        rw [lexLt_nil_nil]
        exact (decide_eq_false (by omega)).symm
      | cons y r =>
        rw [q, List.length_cons] at ln
        rw [lexLt_nil_cons]
        exact (decide_eq_true (by omega)).symm
    rw [← e3]; exact h
  | succ k ih =>
    intro i hk g1 g2 prog w A R s h
    obtain ⟨hp, g, d, tk, os⟩ := s
    obtain ⟨⟨hl, hb⟩, h⟩ := h
    wp_walk using wpAny_loadPart' hl, wpAny_loadPart' hb
    have hlt : i < xs.size := by omega
    obtain ⟨x, t, x1, x2⟩ := intsAre_get hi hlt
    have e1 : xs[((i : Nat) : Int).toNat]? = some (.int x t) := by simpa using x1
    have dn : ns.drop i = x :: ns.drop (i + 1) := by
      rw [List.drop_eq_getElem_cons (by omega)]
      congr 1
      rw [List.getElem?_eq_getElem (by omega)] at x2
      exact Option.some.inj x2
    have hc : ((i : Int) + 1) = ((i + 1 : Nat) : Int) := by push_cast; rfl
    by_cases hlt2 : i < ys.size
    · obtain ⟨y, u, y1, y2⟩ := intsAre_get hj hlt2
      have e2 : ys[((i : Nat) : Int).toNat]? = some (.int y u) := by simpa using y1
      have dm : ms.drop i = y :: ms.drop (i + 1) := by
        rw [List.drop_eq_getElem_cons (by omega)]
        congr 1
        rw [List.getElem?_eq_getElem (by omega)] at y2
        exact Option.some.inj y2
      rw [e1, e2]
      rw [dn, dm, lexLt_cons] at h
      obtain ⟨e, he, hiff⟩ := eqAt_int A.in1 ⟨hp, g, d, tk, os⟩ x t y u
      refine wpAny_bind (he prog w _ _ ?_)
      cases e with
      | true =>
        rw [if_pos (hiff.mp rfl)] at h
        wp_walk
        rw [hc]
        exact ⟨plainId_quiet plain_eq_loop _, codeAny_builtin entry_eq_loop (by
          rw [Around.under_plainId plain_eq_loop _]
          exact ih (i + 1) (by omega) (by omega) (by omega) prog w A R _ ⟨⟨hl, hb⟩, h⟩)⟩
      | false =>
        rw [if_neg (fun q => absurd (hiff.mpr q) Bool.false_ne_true)] at h
        have hri := rcLt_int A.in1 ⟨hp, g, d, tk, os⟩ x t y u prog w
        wp_walk using wpAny_loadPart' hl, wpAny_loadPart' hb
        rw [e1, e2]
        wp_walk using hri
        exact h
    · have e2 : ys[((i : Nat) : Int).toNat]? = none := by simp; omega
      have dm : ms.drop i = [] := List.drop_eq_nil_of_le (by omega)
      rw [e1, e2]
      rw [dn, dm, lexLt_cons_nil] at h
      wp_walk using wpAny_loadPart' hl, wpAny_loadPart' hb
      show R (.ok (.ret (.bool (decide (xs.size < ys.size))))) _
      rw [decide_eq_false (by omega)]
      exact h
theorem listLt (l b : Addr) (xs ys : Array Value) (n n2 : Nat) (dd dd2 : Option Addr) (sl sl2 : Array (Option Value)) (ns ms : List Int) (hi : IntsAre xs.toList ns) (hj : IntsAre ys.toList ms) :
    Meets (Builtin.«list.__lt__» ⟨[.ref l, .ref b], []⟩)
      (fun _ R s => (s.heap.get? l = some { cls := .type "list", dict := dd, data := .seq xs n, slots := sl } ∧ s.heap.get? b = some { cls := .type "list", dict := dd2, data := .seq ys n2, slots := sl2 }) ∧
        R (.ok (.ret (.bool (lexLt ns ms)))) s) := by
  intro prog w A R s h
  obtain ⟨hp, g, d, tk, os⟩ := s
  obtain ⟨⟨hl, hb⟩, h⟩ := h
  have f3 := AutoSeq1.sub_list_list
  wp_walk using wpAny_loadPart' hl, wpAny_loadPart' hb
  exact ⟨plainId_quiet plain_eq_loop _, codeAny_builtin entry_eq_loop (by
    rw [Around.under_plainId plain_eq_loop _]
    exact ltLoop l b xs ys n n2 dd dd2 sl sl2 ns ms hi hj _ 0 rfl (Nat.zero_le _) (Nat.zero_le _) prog w A R _ ⟨⟨hl, hb⟩, by simpa using h⟩)⟩
end HT
namespace L2
open PySem PySem.Spec PyProof.Rows
section
variable {X : Cx}
def rLtL (K : PySem.W.Frag) : R2 := fun x y H Q => ∃ a b ns ms, x = .ref a ∧ y = .ref b ∧ SqL K H a (ns.map V.int) ∧ SqL K H b (ms.map V.int) ∧ Q (.bl (HT.lexLt ns ms)) H
theorem op_ltL (hu : X.A.units < cLine) : OpR X (compareOp .Lt) (rLtL X.K) := by
  intro pins s σ H x y v u Q I rx ry h
  obtain ⟨a, b, ns, ms, rfl, rfl, h1, h2, q⟩ := h
  cases rx
  cases ry
  obtain ⟨its, r1, ⟨⟨cls, dd, data, sl⟩, n, ho, hc, hd, hs⟩, _⟩ := I.list h1
  obtain ⟨its2, r2, ⟨⟨cls2, dd2, data2, sl2⟩, n2, ho2, hc2, hd2, hs2⟩, _⟩ := I.list h2
  simp only at hc hd hs hc2 hd2 hs2
  subst hc hd hs hc2 hd2 hs2
  exact richCompare_meets_room (op := .Lt) ⟨_, ho, rfl⟩ ⟨_, ho2, rfl⟩ PySem.F.slot_list_lt PySem.F.entry_list_lt (PySem.F.args_list_lt_2 _ _)
    (HT.listLt a b its.toArray its2.toArray n n2 none none sl sl2 ns ms (by simpa using intsAre_of r1) (by simpa using intsAre_of r2))
    ⟨⟨ho, ho2⟩, show Value.bool (HT.lexLt ns ms) ≠ Value.notImplemented ∧ EP X pins σ Q (.bool (HT.lexLt ns ms)) s from ⟨(fun x => nomatch x), ⟨.bl _, H, I, rfl, q⟩⟩⟩ hu
theorem truth_ints {prog : Program} {w : World} {A : Around} {ns : List Int} {its : List Value} (e : IntsAre its ns) :
    TruthOf prog w A (fun i v => its.toArray[i]? = some v) (fun i => (ns.map fun n => n != 0).getD i false) := fun i v s Q E hv hq => by
  have hlt : i < its.toArray.size := (Array.getElem?_eq_some_iff.mp hv).1
  obtain ⟨a, t, e1, e2⟩ := HT.intsAre_get (its := its.toArray) (by simpa using e) hlt
  rw [hv] at e1
  cases e1
  have hg : (ns.map fun n => n != 0).getD i false = (a != 0) := by rw [List.getD_eq_getElem?_getD, List.getElem?_map, e2]; rfl
  have hq' : Q ((ns.map fun n => n != 0).getD i false) s := hq
  rw [hg] at hq'
  exact PySem.P.truthy_int hq'
def rAnyI (K : PySem.W.Frag) : List V → Hp → VK → Prop := fun vs H Q => ∃ (a : Addr) (ns : List Int), vs = [V.ref a] ∧ SqL K H a (ns.map V.int) ∧ Q (.bl (ns.any fun n => n != 0)) H
theorem cr_anyI (hc : X.calm = true) : CallR X (.builtin "any") (rAnyI X.K) := by
  intro pins s σ H vs us Q I r h
  obtain ⟨a, ns, rfl, hs, q⟩ := h
  obtain ⟨its, rv, hl, _⟩ := I.list hs
  rw [Vals.ref1 r]
  have hb := intsAre_of rv
  refine call_any_walk (iter_any hl.isList fun s₂ e2 st hne => ?_)
  subst e2
  refine ⟨_, _, _, _, _, _, _, rfl, Walks.list (A := X.A.in1) (I.ok.hd hc) _ a hne its.toArray, st, truth_ints hb, fun h' tk hk => ?_⟩
  refine ⟨.bl _, H, I.kept fun b o eo => hk b o (fun hmem => ?_) (Heap.get?_push_of_some _ eo), ?_, q⟩
  · rcases List.mem_cons.mp hmem with e1 | hmem
    · exact absurd (e1 ▸ Heap.lt_size eo) (Nat.lt_irrefl _)
    · cases hmem
  · show Value.bool _ = Value.bool _
    have e3 := any_range (ns.map fun n => n != 0)
    rw [List.any_map, List.length_map] at e3
    have e4 : its.toArray.size = ns.length := by rw [List.size_toArray]; exact hb.length
    rw [e4, e3]
    rfl
end
end L2
namespace L2
open PySem PySem.Spec PyProof.Rows
abbrev row := PySem.Challenge.rw_filevault_s01_answers
def spAnswers (K : PySem.W.Frag) : Sp := fun vs H Q _ => ∃ (a : Addr) (ns : List Int), vs = [.ref a] ∧ SqL K H a (ns.map V.int) ∧ ns.length ≤ 30000 ∧ PyRc22.answers_asked ns = true ∧
  ∀ (p : Addr) (H' : Hp), H' p = some (.lst ((PyRc22.answers ns).map V.int)) → Q (.ref p) H'
theorem readsInts {R : PySem.W.WRecords} {cl : Str → Option Addr} {h : Heap} : ∀ {ns : List Int} {us : List Value}, Vals (ns.map V.int) us → PySem.W.ReadsAllW R cl h us (ns.map PySem.W.WData.int) []
  | [], us, r => by
    cases r
    exact .nil
  | n :: ns, us, r => by
    rw [List.map_cons] at r
    cases r with
    | cons r1 r2 =>
      obtain ⟨t, rfl⟩ := r1
      exact PySem.W.ReadsAllW.cons (as := []) (bs := []) (.int n t) (readsInts r2)
theorem spec_call {P : Program} {w : World} {K : PySem.W.Frag} {mg mb : Str → Option Value} {CX : CXT} {k : Nat} {fa a : Addr} {fd : FuncData} {x : Str} {sp : Sp} {s₁ : Shared} {vs : List Value} {ns out : List Int} {R : PySem.W.WRecords} {cl : Str → Option Addr}
    (KX : K.In s₁.heap) (hns : s₁.heap.Ns mainGlobals mg) (hb : s₁.heap.Ns builtinsNs mb) (hbb : ∀ x : Str, x ≠ "__name__" → mb x = bootBuiltins x) (hlim : s₁.heap.NoLimit) (hg : s₁.gens = #[])
    (ha : s₁.heap.get? a = some { cls := .type "list", data := .seq vs.toArray }) (hi : IntsAre vs ns) (hl : ns.length ≤ sizeLine) (hr : Room k callerA)
    (F : ∀ base : Heap, K.In base → base.Ns mainGlobals mg → FnOk P w K mg base CX k fa fd [x] sp) (hbind : ∀ (s : Shared) (u : Value), BindsTo s fd ⟨[u], []⟩ [(x, u)])
    (hsp : ∀ H : Hp, Only H → SqL K H a (ns.map V.int) → sp [.ref a] H (fun v H' => ∃ p, v = .ref p ∧ H' p = some (.lst (out.map V.int))) fun _ _ _ => False)
    (hCX : ∀ H e s', CX [] H s₁ (fun _ _ _ => False) e s' → False) :
    codeAny (model P w) callerA (.call (.ref fa) ⟨[.ref a], []⟩) (fun r s' => (∃ u as, r = .ok (.ret u) ∧ PySem.W.ReadsW R cl s'.heap u (.list (out.map PySem.W.WData.int)) as) ∧ OldK s₁.heap s'.heap ∧ s'.os = s₁.os ∧ AllBare s'.gens) s₁ := by
  have rv := vals_ints hi
  have lenV := hi.length
  have core : ∀ H : Hp, Only H → SqL K H a (ns.map V.int) → HOk P w H s₁.heap → (∀ b, H b ≠ none → b = a) → (H a ≠ none → K.lookup a = none) →
      codeAny (model P w) callerA (.call (.ref fa) ⟨[.ref a], []⟩) (fun r s' => (∃ u as, r = .ok (.ret u) ∧ PySem.W.ReadsW R cl s'.heap u (.list (out.map PySem.W.WData.int)) as) ∧ OldK s₁.heap s'.heap ∧ s'.os = s₁.os ∧ AllBare s'.gens) s₁ := by
    intro H hO hS hok hA hK
    have base_of : ∀ {b : Addr} {o : Obj}, s₁.heap.get? b = some o → H b = none → (hidT s₁.heap H).get? b = some o := fun e n => hidT_get e n
    have noA : ∀ {b : Addr} {o : Obj} {es : Array DictEntry} {ep : Nat}, s₁.heap.get? b = some o → o.data = .dict es ep → H b = none := fun {b o es ep} e d => by
      cases q : H b with
      | none => rfl
      | some u =>
        have e' : b = a := hA b (by rw [q]; simp)
        subst e'
        rw [ha] at e; cases e
        have d' : Data.seq vs.toArray _ = Data.dict es ep := d
        cases d'
    have nsK : ∀ {b : Addr} {m : Str → Option Value}, s₁.heap.Ns b m → (hidT s₁.heap H).Ns b m := fun {b m} ⟨o, es, ep, e, d, r⟩ => ⟨o, es, ep, base_of e (noA e d), d, r⟩
    have hKb : K.In (hidT s₁.heap H) := fun b o e => base_of (KX b o e) (by
      cases q : H b with
      | none => rfl
      | some u =>
        have e' : b = a := hA b (by rw [q]; simp)
        subst e'
        rw [hK (by rw [q]; simp)] at e; cases e)
    have hM : Mod K mg (hidT s₁.heap H) := ⟨hKb, nsK hns, ⟨mb, nsK hb, hbb⟩, let ⟨mc, h1, h2⟩ := hlim; ⟨mc, nsK h1, h2⟩⟩
    have e0 : Env0 P w K mg (hidT s₁.heap H) callerA [] s₁ H := ⟨rfl, hM, fun b o e => of_hidT e, Nat.le_of_eq (hidT_size _ _), trivial, fun b hb => absurd (show b ∈ ([] : List Addr) from hb) (by simp), hok, .of_eq hg⟩
    refine codeAny_mono ((F _ hKb (nsK hns)).run callerA [] s₁ H ⟨[.ref a], []⟩ [.ref a] [.ref a] _ _ hr e0 (hbind s₁ (.ref a)) (.cons rfl .nil) (hsp H hO hS)) fun r s' h => ?_
    cases r with
    | error e => exact (hCX H e s' h).elim
    | ok fl =>
      cases fl with
      | next => exact False.elim h
      | brk => exact False.elim h
      | cont => exact False.elim h
      | ret u =>
        obtain ⟨v, H', os, bare, un, hok', r', p, rfl, q⟩ := h
        obtain rfl : u = Value.ref p := r'
        obtain ⟨_, its, n, rr, e⟩ := hok' p _ q
        refine ⟨⟨.ref p, [p], rfl, .list e rfl rfl (readsInts rr)⟩, OldK.of_keep fun b o e => ?_, os, bare⟩
        cases q : H b with
        | none => exact un.keep b o e q (by intro z; exact absurd (show b ∈ ([] : List Addr) from z) (by simp)) (by simp)
        | some u =>
          rcases hO b with z | ⟨ob, xs, z⟩
          · rw [q] at z; cases z
          · have z2 := un.frzs b ob _ z
            obtain ⟨e1, _⟩ := hok b _ z
            obtain ⟨e2, _⟩ := hok' b _ z2
            rw [e] at e1; cases e1
            exact e2
  cases hk : K.lookup a with
  | some o =>
    have e := KX a o hk
    rw [ha] at e
    cases e
    refine core (fun _ => none) (fun _ => .inl rfl) (.inr ⟨_, vs.toArray, _, hk, rfl, rfl, rfl, by rw [List.size_toArray, lenV]; exact hl, by simpa using rv⟩) (fun b u z => by have z' : (none : Option HO) = some u := z; cases z') (fun b z => absurd rfl z) fun z => absurd rfl z
  | none =>
    refine core (fun b => if b = a then some (.frz { cls := .type "list", data := .seq vs.toArray } (.lst (ns.map V.int))) else none) (fun b => ?_) (.inl (.inr ⟨{ cls := .type "list", data := .seq vs.toArray }, if_pos rfl⟩)) (fun b u z => ?_) (fun b z => ?_) fun _ => hk
    · by_cases hb : b = a
      · exact .inr ⟨_, _, if_pos hb⟩
      · exact .inl (if_neg hb)
    · by_cases hb : b = a
      · have z' := (if_pos hb).symm.trans z
        cases z'
        subst hb
        exact ⟨ha, by rw [List.length_map]; exact hl, vs, _, rv, ha⟩
      · have z' := (if_neg hb).symm.trans z
        cases z'
    · by_cases hb : b = a
      · exact hb
      · exact absurd (if_neg hb) z
theorem row_said : row.wellSaid = true := by decide +kernel
theorem walkS {q : Program} {loose : List Str} {XP : (Str → Option Value) → Heap → Prop} {YP : World → Heap → Prop} {d : DefRec} {K : Params → PySem.W.Frag} {k : Nat} {x : Str} (hdf : d.params.defaults = []) (hr : Room k callerA)
    (hY : ∀ (w : World) (h : Heap), YP w h → (K w.params).In h)
    (F : ∀ (w : World) (mg : Str → Option Value) (fa : Addr) (h : Heap), (K w.params).In h → h.Ns mainGlobals mg → mg d.name = some (.ref fa) →
      ∃ fd : FuncData, (∀ (s : Shared) (u : Value), BindsTo s fd ⟨[u], []⟩ [(x, u)]) ∧
        ∀ base : Heap, (K w.params).In base → base.Ns mainGlobals mg → FnOk row.prog w (K w.params) mg base (CXE row.prog w) k fa fd [x] (spAnswers (K w.params))) :
    PySem.W.WalkOS q loose XP YP row d [] (fun f vs => PySem.call f vs) := by
  intro w s₀ s₁ mg mb G Y fa o pm cd doc dV kV ho hd hcd hD hmg hg args vals as hpre hlay hrd hwl hlo
  obtain rfl : dV = .none := PySem.W.Dflts.none hD hdf
  obtain rfl : kV = .none := PySem.W.Dflts.noKw hD
  obtain ⟨⟨ns, _⟩, hw, hask, rfl⟩ := (PySem.W.OpenSpec.pre_iff row_said args).mp hpre
  have hask : PyRc22.answers_asked ns = true := hask
  have hlen : ns.length ≤ 30000 := by
    have h1 : PySem.W.Codec.inList 0 30000 (PySem.W.Codec.inInt (-2147483648) 4294967295) ns = true := (PySem.W.Codec.and_of hw).1
    have h2 : PySem.W.Codec.inLen 0 30000 ns = true := (PySem.W.Codec.and_of h1).1
    exact (PySem.W.Codec.inNat_iff.mp h2).2
  have KX := hY w _ Y
  obtain ⟨fd, hb, hF⟩ := F w mg fa _ KX G.T.g hmg
  have hwl' : PySem.W.WellAll w.params s₁.heap vals [PySem.W.WData.list (ns.map PySem.W.WData.int)] := hwl
  cases hwl' with
  | cons w1 w2 =>
    cases w2
    cases w1 with
    | list hobj hall =>
      have hints := Att.ints_of_wellAll ns _ hall
      refine PySem.W.enter_call (codeAny_mono (spec_call (out := PyRc22.answers ns) (R := []) (cl := classAt s₀.heap) KX G.T.g G.T.b G.T.builtins G.T.nolimit hg hobj hints (Nat.le_trans hlen (by decide)) hr hF hb
        (fun H hO hS => ⟨_, ns, rfl, hS, hlen, hask, fun p H' e => ⟨p, rfl, e⟩⟩) (fun H e s' h => ?_)) fun r s' hq => ?_)
      · obtain ⟨_, _, _, _, _, _, _, _, _, z⟩ := h
        exact z
      · obtain ⟨⟨u, bs, rfl, hrd⟩, h2, h3, h4⟩ := hq
        refine ⟨.inl ⟨u, _, bs, rfl, PySem.W.osNone, hrd, ?_, fun z => absurd z Bool.false_ne_true⟩, h2, h3, h4⟩
        exact (PySem.W.OpenSpec.post_iff row_said hw _ _).mpr rfl
end L2
namespace FT
open PySem L2
def top (i : Nat) : Stmt := PySem.Challenge.pw_filevault_s01_answers.main.body.getD i (.Pass ⟨0, 0, 0, 0⟩)
abbrev s_hold : Stmt := top 4
abbrev s_two_bytes : Stmt := top 11
abbrev s_four_bytes : Stmt := top 12
abbrev s_numbers_of : Stmt := top 13
abbrev s_sector_of : Stmt := top 14
abbrev s_content_of : Stmt := top 15
abbrev s_all_free : Stmt := top 16
abbrev s_units_needed : Stmt := top 17
abbrev s_Places_init : Stmt := inClass (top 19) 0
abbrev s_Places_take : Stmt := inClass (top 19) 1
abbrev s_Places_untaken : Stmt := inClass (top 19) 2
abbrev s_follow : Stmt := top 20
abbrev s_hold_rest_free : Stmt := top 21
abbrev s_great_letter : Stmt := top 26
abbrev s_key_of : Stmt := top 27
abbrev s_is_allowed : Stmt := top 28
abbrev s_read_name : Stmt := top 29
abbrev s_names_in : Stmt := top 30
abbrev s_Entry_init : Stmt := inClass (top 37) 0
abbrev s_hold_kind : Stmt := top 38
abbrev s_read_entry : Stmt := top 39
abbrev s_read_entries : Stmt := top 40
abbrev s_follow_sized : Stmt := top 44
abbrev s_read_sized : Stmt := top 45
abbrev s_read_small_sectors : Stmt := top 46
abbrev s_read_small_table : Stmt := top 47
abbrev s_read_small : Stmt := top 48
abbrev s_read_contents : Stmt := top 49
abbrev s_Head_init : Stmt := inClass (top 52) 0
abbrev s_hold_fixed_places : Stmt := top 53
abbrev s_read_head : Stmt := top 54
abbrev s_read_lists : Stmt := top 56
abbrev s_read_named : Stmt := top 57
abbrev s_hold_named : Stmt := top 58
abbrev s_hold_own_sectors : Stmt := top 59
abbrev s_read_table : Stmt := top 60
abbrev s_walk_tree : Stmt := top 62
abbrev s_hold_order : Stmt := top 63
abbrev s_read_trees : Stmt := top 64
abbrev s_Store_init : Stmt := inClass (top 68) 0
abbrev s_Store_child_alike : Stmt := inClass (top 68) 1
abbrev s_Store_find : Stmt := inClass (top 68) 2
abbrev s_Store_something : Stmt := inClass (top 68) 3
abbrev s_Store_item : Stmt := inClass (top 68) 4
abbrev s_Store_child : Stmt := inClass (top 68) 5
abbrev s_Store_read : Stmt := inClass (top 68) 6
abbrev s_read_store : Stmt := top 69
abbrev s_Holder_init : Stmt := inClass (top 72) 0
abbrev s_Holder_begin : Stmt := inClass (top 72) 1
abbrev s_Holder_take_file : Stmt := inClass (top 72) 2
abbrev s_Holder_held : Stmt := inClass (top 72) 3
abbrev s_end_of_call : Stmt := top 80
abbrev s_answer_of_store : Stmt := top 81
abbrev s_answer_of : Stmt := top 82
abbrev s_answer_or_refusal : Stmt := top 83
abbrev s_answers : Stmt := top 84
abbrev N_hold : List Str := ["is_so", "what"]
theorem sc_hold : FnScope N_hold ["is_so", "what"] (defScope s_hold) := ⟨rfl, rfl, rfl, by decide +kernel, rfl, by decide +kernel, by decide +kernel⟩
abbrev N_two_bytes : List Str := ["row", "at"]
theorem sc_two_bytes : FnScope N_two_bytes ["row", "at"] (defScope s_two_bytes) := ⟨rfl, rfl, rfl, by decide +kernel, rfl, by decide +kernel, by decide +kernel⟩
abbrev N_four_bytes : List Str := ["row", "at"]
theorem sc_four_bytes : FnScope N_four_bytes ["row", "at"] (defScope s_four_bytes) := ⟨rfl, rfl, rfl, by decide +kernel, rfl, by decide +kernel, by decide +kernel⟩
abbrev N_numbers_of : List Str := ["row", "at"]
theorem sc_numbers_of : FnScope N_numbers_of ["row"] (defScope s_numbers_of) := ⟨rfl, rfl, rfl, by decide +kernel, rfl, by decide +kernel, by decide +kernel⟩
abbrev N_sector_of : List Str := ["file", "number", "at"]
theorem sc_sector_of : FnScope N_sector_of ["file", "number"] (defScope s_sector_of) := ⟨rfl, rfl, rfl, by decide +kernel, rfl, by decide +kernel, by decide +kernel⟩
abbrev N_content_of : List Str := ["file", "chain", "content", "number"]
theorem sc_content_of : FnScope N_content_of ["file", "chain"] (defScope s_content_of) := ⟨rfl, rfl, rfl, by decide +kernel, rfl, by decide +kernel, by decide +kernel⟩
abbrev N_all_free : List Str := ["numbers", "number"]
theorem sc_all_free : FnScope N_all_free ["numbers"] (defScope s_all_free) := ⟨rfl, rfl, rfl, by decide +kernel, rfl, by decide +kernel, by decide +kernel⟩
abbrev N_units_needed : List Str := ["size", "unit"]
theorem sc_units_needed : FnScope N_units_needed ["size", "unit"] (defScope s_units_needed) := ⟨rfl, rfl, rfl, by decide +kernel, rfl, by decide +kernel, by decide +kernel⟩
abbrev N_Places_init : List Str := ["self", "count"]
theorem sc_Places_init : FnScope N_Places_init ["self", "count"] (defScope s_Places_init) := ⟨rfl, rfl, rfl, by decide +kernel, rfl, by decide +kernel, by decide +kernel⟩
abbrev N_Places_take : List Str := ["self", "number"]
theorem sc_Places_take : FnScope N_Places_take ["self", "number"] (defScope s_Places_take) := ⟨rfl, rfl, rfl, by decide +kernel, rfl, by decide +kernel, by decide +kernel⟩
abbrev N_Places_untaken : List Str := ["self", "number", "is_taken"]
theorem sc_Places_untaken : FnScope N_Places_untaken ["self"] (defScope s_Places_untaken) := ⟨rfl, rfl, rfl, by decide +kernel, rfl, by decide +kernel, by decide +kernel⟩
abbrev N_follow : List Str := ["places", "table", "first", "chain", "number"]
theorem sc_follow : FnScope N_follow ["places", "table", "first"] (defScope s_follow) := ⟨rfl, rfl, rfl, by decide +kernel, rfl, by decide +kernel, by decide +kernel⟩
abbrev N_hold_rest_free : List Str := ["places", "table", "number"]
theorem sc_hold_rest_free : FnScope N_hold_rest_free ["places", "table"] (defScope s_hold_rest_free) := ⟨rfl, rfl, rfl, by decide +kernel, rfl, by decide +kernel, by decide +kernel⟩
abbrev N_great_letter : List Str := ["character"]
theorem sc_great_letter : FnScope N_great_letter ["character"] (defScope s_great_letter) := ⟨rfl, rfl, rfl, by decide +kernel, rfl, by decide +kernel, by decide +kernel⟩
abbrev N_key_of : List Str := ["name", "character"]
theorem sc_key_of : FnScope N_key_of ["name"] (defScope s_key_of) := ⟨rfl, rfl, rfl, by decide +kernel, rfl, by decide +kernel, by decide +kernel⟩
abbrev N_is_allowed : List Str := ["character"]
theorem sc_is_allowed : FnScope N_is_allowed ["character"] (defScope s_is_allowed) := ⟨rfl, rfl, rfl, by decide +kernel, rfl, by decide +kernel, by decide +kernel⟩
abbrev N_read_name : List Str := ["row", "length", "count", "name", "k", "character"]
theorem sc_read_name : FnScope N_read_name ["row"] (defScope s_read_name) := ⟨rfl, rfl, rfl, by decide +kernel, rfl, by decide +kernel, by decide +kernel⟩
abbrev N_names_in : List Str := ["path", "names", "name", "character"]
theorem sc_names_in : FnScope N_names_in ["path"] (defScope s_names_in) := ⟨rfl, rfl, rfl, by decide +kernel, rfl, by decide +kernel, by decide +kernel⟩
abbrev N_Entry_init : List Str := ["self", "row"]
theorem sc_Entry_init : FnScope N_Entry_init ["self", "row"] (defScope s_Entry_init) := ⟨rfl, rfl, rfl, by decide +kernel, rfl, by decide +kernel, by decide +kernel⟩
abbrev N_hold_kind : List Str := ["entry"]
theorem sc_hold_kind : FnScope N_hold_kind ["entry"] (defScope s_hold_kind) := ⟨rfl, rfl, rfl, by decide +kernel, rfl, by decide +kernel, by decide +kernel⟩
abbrev N_read_entry : List Str := ["row", "number", "kind", "entry"]
theorem sc_read_entry : FnScope N_read_entry ["row", "number"] (defScope s_read_entry) := ⟨rfl, rfl, rfl, by decide +kernel, rfl, by decide +kernel, by decide +kernel⟩
abbrev N_read_entries : List Str := ["content", "entries", "at"]
theorem sc_read_entries : FnScope N_read_entries ["content"] (defScope s_read_entries) := ⟨rfl, rfl, rfl, by decide +kernel, rfl, by decide +kernel, by decide +kernel⟩
abbrev N_follow_sized : List Str := ["places", "table", "first", "length", "chain"]
theorem sc_follow_sized : FnScope N_follow_sized ["places", "table", "first", "length"] (defScope s_follow_sized) := ⟨rfl, rfl, rfl, by decide +kernel, rfl, by decide +kernel, by decide +kernel⟩
abbrev N_read_sized : List Str := ["file", "entry", "places", "table", "chain"]
theorem sc_read_sized : FnScope N_read_sized ["file", "entry", "places", "table"] (defScope s_read_sized) := ⟨rfl, rfl, rfl, by decide +kernel, rfl, by decide +kernel, by decide +kernel⟩
abbrev N_read_small_sectors : List Str := ["file", "root", "places", "table", "content", "at"]
theorem sc_read_small_sectors : FnScope N_read_small_sectors ["file", "root", "places", "table"] (defScope s_read_small_sectors) := ⟨rfl, rfl, rfl, by decide +kernel, rfl, by decide +kernel, by decide +kernel⟩
abbrev N_read_small_table : List Str := ["file", "head", "places", "table", "count", "chain", "small_table"]
theorem sc_read_small_table : FnScope N_read_small_table ["file", "head", "places", "table", "count"] (defScope s_read_small_table) := ⟨rfl, rfl, rfl, by decide +kernel, rfl, by decide +kernel, by decide +kernel⟩
abbrev N_read_small : List Str := ["small_sectors", "entry", "small_places", "small_table", "content", "number"]
theorem sc_read_small : FnScope N_read_small ["small_sectors", "entry", "small_places", "small_table"] (defScope s_read_small) := ⟨rfl, rfl, rfl, by decide +kernel, rfl, by decide +kernel, by decide +kernel⟩
abbrev N_read_contents : List Str := ["file", "head", "entries", "places", "table", "small_sectors", "small_places", "small_table", "contents", "number", "entry"]
theorem sc_read_contents : FnScope N_read_contents ["file", "head", "entries", "places", "table"] (defScope s_read_contents) := ⟨rfl, rfl, rfl, by decide +kernel, rfl, by decide +kernel, by decide +kernel⟩
abbrev N_Head_init : List Str := ["self", "file"]
theorem sc_Head_init : FnScope N_Head_init ["self", "file"] (defScope s_Head_init) := ⟨rfl, rfl, rfl, by decide +kernel, rfl, by decide +kernel, by decide +kernel⟩
abbrev N_hold_fixed_places : List Str := ["file"]
theorem sc_hold_fixed_places : FnScope N_hold_fixed_places ["file"] (defScope s_hold_fixed_places) := ⟨rfl, rfl, rfl, by decide +kernel, rfl, by decide +kernel, by decide +kernel⟩
abbrev N_read_head : List Str := ["file"]
theorem sc_read_head : FnScope N_read_head ["file"] (defScope s_read_head) := ⟨rfl, rfl, rfl, by decide +kernel, rfl, by decide +kernel, by decide +kernel⟩
abbrev N_read_lists : List Str := ["file", "head", "places", "lists", "number"]
theorem sc_read_lists : FnScope N_read_lists ["file", "head", "places"] (defScope s_read_lists) := ⟨rfl, rfl, rfl, by decide +kernel, rfl, by decide +kernel, by decide +kernel⟩
abbrev N_read_named : List Str := ["file", "head", "lists", "named", "number"]
theorem sc_read_named : FnScope N_read_named ["file", "head", "lists"] (defScope s_read_named) := ⟨rfl, rfl, rfl, by decide +kernel, rfl, by decide +kernel, by decide +kernel⟩
abbrev N_hold_named : List Str := ["named", "length"]
theorem sc_hold_named : FnScope N_hold_named ["named", "length"] (defScope s_hold_named) := ⟨rfl, rfl, rfl, by decide +kernel, rfl, by decide +kernel, by decide +kernel⟩
abbrev N_hold_own_sectors : List Str := ["table", "sectors", "lists", "number"]
theorem sc_hold_own_sectors : FnScope N_hold_own_sectors ["table", "sectors", "lists"] (defScope s_hold_own_sectors) := ⟨rfl, rfl, rfl, by decide +kernel, rfl, by decide +kernel, by decide +kernel⟩
abbrev N_read_table : List Str := ["file", "head", "places", "lists", "named", "sectors", "number", "table", "count"]
theorem sc_read_table : FnScope N_read_table ["file", "head", "places"] (defScope s_read_table) := ⟨rfl, rfl, rfl, by decide +kernel, rfl, by decide +kernel, by decide +kernel⟩
abbrev N_walk_tree : List Str := ["entries", "places", "first", "walked", "waiting", "number"]
theorem sc_walk_tree : FnScope N_walk_tree ["entries", "places", "first"] (defScope s_walk_tree) := ⟨rfl, rfl, rfl, by decide +kernel, rfl, by decide +kernel, by decide +kernel⟩
abbrev N_hold_order : List Str := ["entries", "walked", "before", "behind"]
theorem sc_hold_order : FnScope N_hold_order ["entries", "walked"] (defScope s_hold_order) := ⟨rfl, rfl, rfl, by decide +kernel, rfl, by decide +kernel, by decide +kernel⟩
abbrev N_read_trees : List Str := ["entries", "places", "children", "entry", "folders", "folder", "walked", "number"]
theorem sc_read_trees : FnScope N_read_trees ["entries"] (defScope s_read_trees) := ⟨rfl, rfl, rfl, by decide +kernel, rfl, by decide +kernel, by decide +kernel⟩
abbrev N_Store_init : List Str := ["self", "entries", "children", "contents"]
theorem sc_Store_init : FnScope N_Store_init ["self", "entries", "children", "contents"] (defScope s_Store_init) := ⟨rfl, rfl, rfl, by decide +kernel, rfl, by decide +kernel, by decide +kernel⟩
abbrev N_Store_child_alike : List Str := ["self", "folder", "name", "key", "number"]
theorem sc_Store_child_alike : FnScope N_Store_child_alike ["self", "folder", "name"] (defScope s_Store_child_alike) := ⟨rfl, rfl, rfl, by decide +kernel, rfl, by decide +kernel, by decide +kernel⟩
abbrev N_Store_find : List Str := ["self", "path", "number", "name"]
theorem sc_Store_find : FnScope N_Store_find ["self", "path"] (defScope s_Store_find) := ⟨rfl, rfl, rfl, by decide +kernel, rfl, by decide +kernel, by decide +kernel⟩
abbrev N_Store_something : List Str := ["self", "number"]
theorem sc_Store_something : FnScope N_Store_something ["self", "number"] (defScope s_Store_something) := ⟨rfl, rfl, rfl, by decide +kernel, rfl, by decide +kernel, by decide +kernel⟩
abbrev N_Store_item : List Str := ["self", "number", "entry", "length", "size", "zeros"]
theorem sc_Store_item : FnScope N_Store_item ["self", "number"] (defScope s_Store_item) := ⟨rfl, rfl, rfl, by decide +kernel, rfl, by decide +kernel, by decide +kernel⟩
abbrev N_Store_child : List Str := ["self", "number", "place", "below"]
theorem sc_Store_child : FnScope N_Store_child ["self", "number", "place"] (defScope s_Store_child) := ⟨rfl, rfl, rfl, by decide +kernel, rfl, by decide +kernel, by decide +kernel⟩
abbrev N_Store_read : List Str := ["self", "number", "at", "most", "part"]
theorem sc_Store_read : FnScope N_Store_read ["self", "number", "at", "most"] (defScope s_Store_read) := ⟨rfl, rfl, rfl, by decide +kernel, rfl, by decide +kernel, by decide +kernel⟩
abbrev N_read_store : List Str := ["file", "head", "places", "table", "directory", "entries", "children", "contents"]
theorem sc_read_store : FnScope N_read_store ["file"] (defScope s_read_store) := ⟨rfl, rfl, rfl, by decide +kernel, rfl, by decide +kernel, by decide +kernel⟩
abbrev N_Holder_init : List Str := ["self"]
theorem sc_Holder_init : FnScope N_Holder_init ["self"] (defScope s_Holder_init) := ⟨rfl, rfl, rfl, by decide +kernel, rfl, by decide +kernel, by decide +kernel⟩
abbrev N_Holder_begin : List Str := ["self"]
theorem sc_Holder_begin : FnScope N_Holder_begin ["self"] (defScope s_Holder_begin) := ⟨rfl, rfl, rfl, by decide +kernel, rfl, by decide +kernel, by decide +kernel⟩
abbrev N_Holder_take_file : List Str := ["self", "file"]
theorem sc_Holder_take_file : FnScope N_Holder_take_file ["self", "file"] (defScope s_Holder_take_file) := ⟨rfl, rfl, rfl, by decide +kernel, rfl, by decide +kernel, by decide +kernel⟩
abbrev N_Holder_held : List Str := ["self"]
theorem sc_Holder_held : FnScope N_Holder_held ["self"] (defScope s_Holder_held) := ⟨rfl, rfl, rfl, by decide +kernel, rfl, by decide +kernel, by decide +kernel⟩
abbrev N_end_of_call : List Str := ["calls", "at", "call", "end"]
theorem sc_end_of_call : FnScope N_end_of_call ["calls", "at"] (defScope s_end_of_call) := ⟨rfl, rfl, rfl, by decide +kernel, rfl, by decide +kernel, by decide +kernel⟩
abbrev N_answer_of_store : List Str := ["store", "call"]
theorem sc_answer_of_store : FnScope N_answer_of_store ["store", "call"] (defScope s_answer_of_store) := ⟨rfl, rfl, rfl, by decide +kernel, rfl, by decide +kernel, by decide +kernel⟩
abbrev N_answer_of : List Str := ["holder", "call"]
theorem sc_answer_of : FnScope N_answer_of ["holder", "call"] (defScope s_answer_of) := ⟨rfl, rfl, rfl, by decide +kernel, rfl, by decide +kernel, by decide +kernel⟩
abbrev N_answer_or_refusal : List Str := ["holder", "call"]
theorem sc_answer_or_refusal : FnScope N_answer_or_refusal ["holder", "call"] (defScope s_answer_or_refusal) := ⟨rfl, rfl, rfl, by decide +kernel, rfl, by decide +kernel, by decide +kernel⟩
abbrev N_answers : List Str := ["calls", "holder", "answered", "at", "end", "answer"]
theorem sc_answers : FnScope N_answers ["calls"] (defScope s_answers) := ⟨rfl, rfl, rfl, by decide +kernel, rfl, by decide +kernel, by decide +kernel⟩
structure Adr where
  a_hold : Addr
  d_hold : FuncData
  a_two_bytes : Addr
  d_two_bytes : FuncData
  a_four_bytes : Addr
  d_four_bytes : FuncData
  a_numbers_of : Addr
  d_numbers_of : FuncData
  a_sector_of : Addr
  d_sector_of : FuncData
  a_content_of : Addr
  d_content_of : FuncData
  a_all_free : Addr
  d_all_free : FuncData
  a_units_needed : Addr
  d_units_needed : FuncData
  a_Places_init : Addr
  d_Places_init : FuncData
  a_Places_take : Addr
  d_Places_take : FuncData
  a_Places_untaken : Addr
  d_Places_untaken : FuncData
  a_follow : Addr
  d_follow : FuncData
  a_hold_rest_free : Addr
  d_hold_rest_free : FuncData
  a_great_letter : Addr
  d_great_letter : FuncData
  a_key_of : Addr
  d_key_of : FuncData
  a_is_allowed : Addr
  d_is_allowed : FuncData
  a_read_name : Addr
  d_read_name : FuncData
  a_names_in : Addr
  d_names_in : FuncData
  a_Entry_init : Addr
  d_Entry_init : FuncData
  a_hold_kind : Addr
  d_hold_kind : FuncData
  a_read_entry : Addr
  d_read_entry : FuncData
  a_read_entries : Addr
  d_read_entries : FuncData
  a_follow_sized : Addr
  d_follow_sized : FuncData
  a_read_sized : Addr
  d_read_sized : FuncData
  a_read_small_sectors : Addr
  d_read_small_sectors : FuncData
  a_read_small_table : Addr
  d_read_small_table : FuncData
  a_read_small : Addr
  d_read_small : FuncData
  a_read_contents : Addr
  d_read_contents : FuncData
  a_Head_init : Addr
  d_Head_init : FuncData
  a_hold_fixed_places : Addr
  d_hold_fixed_places : FuncData
  a_read_head : Addr
  d_read_head : FuncData
  a_read_lists : Addr
  d_read_lists : FuncData
  a_read_named : Addr
  d_read_named : FuncData
  a_hold_named : Addr
  d_hold_named : FuncData
  a_hold_own_sectors : Addr
  d_hold_own_sectors : FuncData
  a_read_table : Addr
  d_read_table : FuncData
  a_walk_tree : Addr
  d_walk_tree : FuncData
  a_hold_order : Addr
  d_hold_order : FuncData
  a_read_trees : Addr
  d_read_trees : FuncData
  a_Store_init : Addr
  d_Store_init : FuncData
  a_Store_child_alike : Addr
  d_Store_child_alike : FuncData
  a_Store_find : Addr
  d_Store_find : FuncData
  a_Store_something : Addr
  d_Store_something : FuncData
  a_Store_item : Addr
  d_Store_item : FuncData
  a_Store_child : Addr
  d_Store_child : FuncData
  a_Store_read : Addr
  d_Store_read : FuncData
  a_read_store : Addr
  d_read_store : FuncData
  a_Holder_init : Addr
  d_Holder_init : FuncData
  a_Holder_begin : Addr
  d_Holder_begin : FuncData
  a_Holder_take_file : Addr
  d_Holder_take_file : FuncData
  a_Holder_held : Addr
  d_Holder_held : FuncData
  a_end_of_call : Addr
  d_end_of_call : FuncData
  a_answer_of_store : Addr
  d_answer_of_store : FuncData
  a_answer_of : Addr
  d_answer_of : FuncData
  a_answer_or_refusal : Addr
  d_answer_or_refusal : FuncData
  a_answers : Addr
  d_answers : FuncData
  c_Places : Addr
  c_Entry : Addr
  c_Head : Addr
  c_Store : Addr
  c_Holder : Addr
  x_NotAStore : Addr
  x_NothingHeld : Addr
  x_NotThere : Addr
  t_BANNED : Addr
  t_MARK : Addr
  t_PLAIN_NUMBERS : Addr
structure Txt (K : PySem.W.Frag) (mg : Str → Option Value) (t : Adr) : Prop where
  F_hold : Fun K "hold" "hold" s_hold t.a_hold t.d_hold
  b_hold : Binds K t.d_hold ["is_so", "what"] []
  g_hold : mg "hold" = some (.ref t.a_hold)
  F_two_bytes : Fun K "two_bytes" "two_bytes" s_two_bytes t.a_two_bytes t.d_two_bytes
  b_two_bytes : Binds K t.d_two_bytes ["row", "at"] []
  g_two_bytes : mg "two_bytes" = some (.ref t.a_two_bytes)
  F_four_bytes : Fun K "four_bytes" "four_bytes" s_four_bytes t.a_four_bytes t.d_four_bytes
  b_four_bytes : Binds K t.d_four_bytes ["row", "at"] []
  g_four_bytes : mg "four_bytes" = some (.ref t.a_four_bytes)
  F_numbers_of : Fun K "numbers_of" "numbers_of" s_numbers_of t.a_numbers_of t.d_numbers_of
  b_numbers_of : Binds K t.d_numbers_of ["row"] []
  g_numbers_of : mg "numbers_of" = some (.ref t.a_numbers_of)
  F_sector_of : Fun K "sector_of" "sector_of" s_sector_of t.a_sector_of t.d_sector_of
  b_sector_of : Binds K t.d_sector_of ["file", "number"] []
  g_sector_of : mg "sector_of" = some (.ref t.a_sector_of)
  F_content_of : Fun K "content_of" "content_of" s_content_of t.a_content_of t.d_content_of
  b_content_of : Binds K t.d_content_of ["file", "chain"] []
  g_content_of : mg "content_of" = some (.ref t.a_content_of)
  F_all_free : Fun K "all_free" "all_free" s_all_free t.a_all_free t.d_all_free
  b_all_free : Binds K t.d_all_free ["numbers"] []
  g_all_free : mg "all_free" = some (.ref t.a_all_free)
  F_units_needed : Fun K "units_needed" "units_needed" s_units_needed t.a_units_needed t.d_units_needed
  b_units_needed : Binds K t.d_units_needed ["size", "unit"] []
  g_units_needed : mg "units_needed" = some (.ref t.a_units_needed)
  F_Places_init : Fun K "__init__" "Places.__init__" s_Places_init t.a_Places_init t.d_Places_init
  b_Places_init : Binds K t.d_Places_init ["self", "count"] []
  mk_Places : Mk K t.c_Places t.a_Places_init
  F_Places_take : Fun K "take" "Places.take" s_Places_take t.a_Places_take t.d_Places_take
  b_Places_take : Binds K t.d_Places_take ["self", "number"] []
  m_Places_take : Meth K t.c_Places "take" t.a_Places_take
  F_Places_untaken : Fun K "untaken" "Places.untaken" s_Places_untaken t.a_Places_untaken t.d_Places_untaken
  b_Places_untaken : Binds K t.d_Places_untaken ["self"] []
  m_Places_untaken : Meth K t.c_Places "untaken" t.a_Places_untaken
  F_follow : Fun K "follow" "follow" s_follow t.a_follow t.d_follow
  b_follow : Binds K t.d_follow ["places", "table", "first"] []
  g_follow : mg "follow" = some (.ref t.a_follow)
  F_hold_rest_free : Fun K "hold_rest_free" "hold_rest_free" s_hold_rest_free t.a_hold_rest_free t.d_hold_rest_free
  b_hold_rest_free : Binds K t.d_hold_rest_free ["places", "table"] []
  g_hold_rest_free : mg "hold_rest_free" = some (.ref t.a_hold_rest_free)
  F_great_letter : Fun K "great_letter" "great_letter" s_great_letter t.a_great_letter t.d_great_letter
  b_great_letter : Binds K t.d_great_letter ["character"] []
  g_great_letter : mg "great_letter" = some (.ref t.a_great_letter)
  F_key_of : Fun K "key_of" "key_of" s_key_of t.a_key_of t.d_key_of
  b_key_of : Binds K t.d_key_of ["name"] []
  g_key_of : mg "key_of" = some (.ref t.a_key_of)
  F_is_allowed : Fun K "is_allowed" "is_allowed" s_is_allowed t.a_is_allowed t.d_is_allowed
  b_is_allowed : Binds K t.d_is_allowed ["character"] []
  g_is_allowed : mg "is_allowed" = some (.ref t.a_is_allowed)
  F_read_name : Fun K "read_name" "read_name" s_read_name t.a_read_name t.d_read_name
  b_read_name : Binds K t.d_read_name ["row"] []
  g_read_name : mg "read_name" = some (.ref t.a_read_name)
  F_names_in : Fun K "names_in" "names_in" s_names_in t.a_names_in t.d_names_in
  b_names_in : Binds K t.d_names_in ["path"] []
  g_names_in : mg "names_in" = some (.ref t.a_names_in)
  F_Entry_init : Fun K "__init__" "Entry.__init__" s_Entry_init t.a_Entry_init t.d_Entry_init
  b_Entry_init : Binds K t.d_Entry_init ["self", "row"] []
  mk_Entry : Mk K t.c_Entry t.a_Entry_init
  F_hold_kind : Fun K "hold_kind" "hold_kind" s_hold_kind t.a_hold_kind t.d_hold_kind
  b_hold_kind : Binds K t.d_hold_kind ["entry"] []
  g_hold_kind : mg "hold_kind" = some (.ref t.a_hold_kind)
  F_read_entry : Fun K "read_entry" "read_entry" s_read_entry t.a_read_entry t.d_read_entry
  b_read_entry : Binds K t.d_read_entry ["row", "number"] []
  g_read_entry : mg "read_entry" = some (.ref t.a_read_entry)
  F_read_entries : Fun K "read_entries" "read_entries" s_read_entries t.a_read_entries t.d_read_entries
  b_read_entries : Binds K t.d_read_entries ["content"] []
  g_read_entries : mg "read_entries" = some (.ref t.a_read_entries)
  F_follow_sized : Fun K "follow_sized" "follow_sized" s_follow_sized t.a_follow_sized t.d_follow_sized
  b_follow_sized : Binds K t.d_follow_sized ["places", "table", "first", "length"] []
  g_follow_sized : mg "follow_sized" = some (.ref t.a_follow_sized)
  F_read_sized : Fun K "read_sized" "read_sized" s_read_sized t.a_read_sized t.d_read_sized
  b_read_sized : Binds K t.d_read_sized ["file", "entry", "places", "table"] []
  g_read_sized : mg "read_sized" = some (.ref t.a_read_sized)
  F_read_small_sectors : Fun K "read_small_sectors" "read_small_sectors" s_read_small_sectors t.a_read_small_sectors t.d_read_small_sectors
  b_read_small_sectors : Binds K t.d_read_small_sectors ["file", "root", "places", "table"] []
  g_read_small_sectors : mg "read_small_sectors" = some (.ref t.a_read_small_sectors)
  F_read_small_table : Fun K "read_small_table" "read_small_table" s_read_small_table t.a_read_small_table t.d_read_small_table
  b_read_small_table : Binds K t.d_read_small_table ["file", "head", "places", "table", "count"] []
  g_read_small_table : mg "read_small_table" = some (.ref t.a_read_small_table)
  F_read_small : Fun K "read_small" "read_small" s_read_small t.a_read_small t.d_read_small
  b_read_small : Binds K t.d_read_small ["small_sectors", "entry", "small_places", "small_table"] []
  g_read_small : mg "read_small" = some (.ref t.a_read_small)
  F_read_contents : Fun K "read_contents" "read_contents" s_read_contents t.a_read_contents t.d_read_contents
  b_read_contents : Binds K t.d_read_contents ["file", "head", "entries", "places", "table"] []
  g_read_contents : mg "read_contents" = some (.ref t.a_read_contents)
  F_Head_init : Fun K "__init__" "Head.__init__" s_Head_init t.a_Head_init t.d_Head_init
  b_Head_init : Binds K t.d_Head_init ["self", "file"] []
  mk_Head : Mk K t.c_Head t.a_Head_init
  F_hold_fixed_places : Fun K "hold_fixed_places" "hold_fixed_places" s_hold_fixed_places t.a_hold_fixed_places t.d_hold_fixed_places
  b_hold_fixed_places : Binds K t.d_hold_fixed_places ["file"] []
  g_hold_fixed_places : mg "hold_fixed_places" = some (.ref t.a_hold_fixed_places)
  F_read_head : Fun K "read_head" "read_head" s_read_head t.a_read_head t.d_read_head
  b_read_head : Binds K t.d_read_head ["file"] []
  g_read_head : mg "read_head" = some (.ref t.a_read_head)
  F_read_lists : Fun K "read_lists" "read_lists" s_read_lists t.a_read_lists t.d_read_lists
  b_read_lists : Binds K t.d_read_lists ["file", "head", "places"] []
  g_read_lists : mg "read_lists" = some (.ref t.a_read_lists)
  F_read_named : Fun K "read_named" "read_named" s_read_named t.a_read_named t.d_read_named
  b_read_named : Binds K t.d_read_named ["file", "head", "lists"] []
  g_read_named : mg "read_named" = some (.ref t.a_read_named)
  F_hold_named : Fun K "hold_named" "hold_named" s_hold_named t.a_hold_named t.d_hold_named
  b_hold_named : Binds K t.d_hold_named ["named", "length"] []
  g_hold_named : mg "hold_named" = some (.ref t.a_hold_named)
  F_hold_own_sectors : Fun K "hold_own_sectors" "hold_own_sectors" s_hold_own_sectors t.a_hold_own_sectors t.d_hold_own_sectors
  b_hold_own_sectors : Binds K t.d_hold_own_sectors ["table", "sectors", "lists"] []
  g_hold_own_sectors : mg "hold_own_sectors" = some (.ref t.a_hold_own_sectors)
  F_read_table : Fun K "read_table" "read_table" s_read_table t.a_read_table t.d_read_table
  b_read_table : Binds K t.d_read_table ["file", "head", "places"] []
  g_read_table : mg "read_table" = some (.ref t.a_read_table)
  F_walk_tree : Fun K "walk_tree" "walk_tree" s_walk_tree t.a_walk_tree t.d_walk_tree
  b_walk_tree : Binds K t.d_walk_tree ["entries", "places", "first"] []
  g_walk_tree : mg "walk_tree" = some (.ref t.a_walk_tree)
  F_hold_order : Fun K "hold_order" "hold_order" s_hold_order t.a_hold_order t.d_hold_order
  b_hold_order : Binds K t.d_hold_order ["entries", "walked"] []
  g_hold_order : mg "hold_order" = some (.ref t.a_hold_order)
  F_read_trees : Fun K "read_trees" "read_trees" s_read_trees t.a_read_trees t.d_read_trees
  b_read_trees : Binds K t.d_read_trees ["entries"] []
  g_read_trees : mg "read_trees" = some (.ref t.a_read_trees)
  F_Store_init : Fun K "__init__" "Store.__init__" s_Store_init t.a_Store_init t.d_Store_init
  b_Store_init : Binds K t.d_Store_init ["self", "entries", "children", "contents"] []
  mk_Store : Mk K t.c_Store t.a_Store_init
  F_Store_child_alike : Fun K "child_alike" "Store.child_alike" s_Store_child_alike t.a_Store_child_alike t.d_Store_child_alike
  b_Store_child_alike : Binds K t.d_Store_child_alike ["self", "folder", "name"] []
  m_Store_child_alike : Meth K t.c_Store "child_alike" t.a_Store_child_alike
  F_Store_find : Fun K "find" "Store.find" s_Store_find t.a_Store_find t.d_Store_find
  b_Store_find : Binds K t.d_Store_find ["self", "path"] []
  m_Store_find : Meth K t.c_Store "find" t.a_Store_find
  F_Store_something : Fun K "something" "Store.something" s_Store_something t.a_Store_something t.d_Store_something
  b_Store_something : Binds K t.d_Store_something ["self", "number"] []
  m_Store_something : Meth K t.c_Store "something" t.a_Store_something
  F_Store_item : Fun K "item" "Store.item" s_Store_item t.a_Store_item t.d_Store_item
  b_Store_item : Binds K t.d_Store_item ["self", "number"] []
  m_Store_item : Meth K t.c_Store "item" t.a_Store_item
  F_Store_child : Fun K "child" "Store.child" s_Store_child t.a_Store_child t.d_Store_child
  b_Store_child : Binds K t.d_Store_child ["self", "number", "place"] []
  m_Store_child : Meth K t.c_Store "child" t.a_Store_child
  F_Store_read : Fun K "read" "Store.read" s_Store_read t.a_Store_read t.d_Store_read
  b_Store_read : Binds K t.d_Store_read ["self", "number", "at", "most"] []
  m_Store_read : Meth K t.c_Store "read" t.a_Store_read
  F_read_store : Fun K "read_store" "read_store" s_read_store t.a_read_store t.d_read_store
  b_read_store : Binds K t.d_read_store ["file"] []
  g_read_store : mg "read_store" = some (.ref t.a_read_store)
  F_Holder_init : Fun K "__init__" "Holder.__init__" s_Holder_init t.a_Holder_init t.d_Holder_init
  b_Holder_init : Binds K t.d_Holder_init ["self"] []
  mk_Holder : Mk K t.c_Holder t.a_Holder_init
  F_Holder_begin : Fun K "begin" "Holder.begin" s_Holder_begin t.a_Holder_begin t.d_Holder_begin
  b_Holder_begin : Binds K t.d_Holder_begin ["self"] []
  m_Holder_begin : Meth K t.c_Holder "begin" t.a_Holder_begin
  F_Holder_take_file : Fun K "take_file" "Holder.take_file" s_Holder_take_file t.a_Holder_take_file t.d_Holder_take_file
  b_Holder_take_file : Binds K t.d_Holder_take_file ["self", "file"] []
  m_Holder_take_file : Meth K t.c_Holder "take_file" t.a_Holder_take_file
  F_Holder_held : Fun K "held" "Holder.held" s_Holder_held t.a_Holder_held t.d_Holder_held
  b_Holder_held : Binds K t.d_Holder_held ["self"] []
  m_Holder_held : Meth K t.c_Holder "held" t.a_Holder_held
  F_end_of_call : Fun K "end_of_call" "end_of_call" s_end_of_call t.a_end_of_call t.d_end_of_call
  b_end_of_call : Binds K t.d_end_of_call ["calls", "at"] []
  g_end_of_call : mg "end_of_call" = some (.ref t.a_end_of_call)
  F_answer_of_store : Fun K "answer_of_store" "answer_of_store" s_answer_of_store t.a_answer_of_store t.d_answer_of_store
  b_answer_of_store : Binds K t.d_answer_of_store ["store", "call"] []
  g_answer_of_store : mg "answer_of_store" = some (.ref t.a_answer_of_store)
  F_answer_of : Fun K "answer_of" "answer_of" s_answer_of t.a_answer_of t.d_answer_of
  b_answer_of : Binds K t.d_answer_of ["holder", "call"] []
  g_answer_of : mg "answer_of" = some (.ref t.a_answer_of)
  F_answer_or_refusal : Fun K "answer_or_refusal" "answer_or_refusal" s_answer_or_refusal t.a_answer_or_refusal t.d_answer_or_refusal
  b_answer_or_refusal : Binds K t.d_answer_or_refusal ["holder", "call"] []
  g_answer_or_refusal : mg "answer_or_refusal" = some (.ref t.a_answer_or_refusal)
  F_answers : Fun K "answers" "answers" s_answers t.a_answers t.d_answers
  b_answers : Binds K t.d_answers ["calls"] []
  g_answers : mg "answers" = some (.ref t.a_answers)
  cl_Places : Cls K t.c_Places
  g_Places : mg "Places" = some (.ref t.c_Places)
  n_Places_taken : NoAttr K t.c_Places "taken"
  cl_Entry : Cls K t.c_Entry
  g_Entry : mg "Entry" = some (.ref t.c_Entry)
  n_Entry_name : NoAttr K t.c_Entry "name"
  n_Entry_key : NoAttr K t.c_Entry "key"
  n_Entry_kind : NoAttr K t.c_Entry "kind"
  n_Entry_left : NoAttr K t.c_Entry "left"
  n_Entry_right : NoAttr K t.c_Entry "right"
  n_Entry_first_below : NoAttr K t.c_Entry "first_below"
  n_Entry_begins_at : NoAttr K t.c_Entry "begins_at"
  n_Entry_size : NoAttr K t.c_Entry "size"
  cl_Head : Cls K t.c_Head
  g_Head : mg "Head" = some (.ref t.c_Head)
  n_Head_table_length : NoAttr K t.c_Head "table_length"
  n_Head_directory_at : NoAttr K t.c_Head "directory_at"
  n_Head_small_table_at : NoAttr K t.c_Head "small_table_at"
  n_Head_small_table_length : NoAttr K t.c_Head "small_table_length"
  n_Head_first_list : NoAttr K t.c_Head "first_list"
  n_Head_list_count : NoAttr K t.c_Head "list_count"
  n_Head_named : NoAttr K t.c_Head "named"
  cl_Store : Cls K t.c_Store
  g_Store : mg "Store" = some (.ref t.c_Store)
  n_Store_entries : NoAttr K t.c_Store "entries"
  n_Store_children : NoAttr K t.c_Store "children"
  n_Store_contents : NoAttr K t.c_Store "contents"
  cl_Holder : Cls K t.c_Holder
  g_Holder : mg "Holder" = some (.ref t.c_Holder)
  n_Holder_store : NoAttr K t.c_Holder "store"
  e_NotAStore : PySem.W.excIn K t.x_NotAStore excBm "Exception.__new__" = true
  g_NotAStore : mg "NotAStore" = some (.ref t.x_NotAStore)
  e_NothingHeld : PySem.W.excIn K t.x_NothingHeld excBm "Exception.__new__" = true
  g_NothingHeld : mg "NothingHeld" = some (.ref t.x_NothingHeld)
  e_NotThere : PySem.W.excIn K t.x_NotThere excBm "Exception.__new__" = true
  g_NotThere : mg "NotThere" = some (.ref t.x_NotThere)
  q_NotAStore_NotAStore : PySem.W.exmOne K (.ref t.x_NotAStore) (.ref t.x_NotAStore) = some true
  q_NotAStore_NothingHeld : PySem.W.exmOne K (.ref t.x_NotAStore) (.ref t.x_NothingHeld) = some false
  q_NotAStore_NotThere : PySem.W.exmOne K (.ref t.x_NotAStore) (.ref t.x_NotThere) = some false
  q_NothingHeld_NotAStore : PySem.W.exmOne K (.ref t.x_NothingHeld) (.ref t.x_NotAStore) = some false
  q_NothingHeld_NothingHeld : PySem.W.exmOne K (.ref t.x_NothingHeld) (.ref t.x_NothingHeld) = some true
  q_NothingHeld_NotThere : PySem.W.exmOne K (.ref t.x_NothingHeld) (.ref t.x_NotThere) = some false
  q_NotThere_NotAStore : PySem.W.exmOne K (.ref t.x_NotThere) (.ref t.x_NotAStore) = some false
  q_NotThere_NothingHeld : PySem.W.exmOne K (.ref t.x_NotThere) (.ref t.x_NothingHeld) = some false
  q_NotThere_NotThere : PySem.W.exmOne K (.ref t.x_NotThere) (.ref t.x_NotThere) = some true
  k_SECTOR_SIZE : ∃ u, mg "SECTOR_SIZE" = some u ∧ RelV (.int 512) u
  k_FREE : ∃ u, mg "FREE" = some u ∧ RelV (.int 4294967295) u
  k_END : ∃ u, mg "END" = some u ∧ RelV (.int 4294967294) u
  k_TABLE : ∃ u, mg "TABLE" = some u ∧ RelV (.int 4294967293) u
  k_LIST : ∃ u, mg "LIST" = some u ∧ RelV (.int 4294967292) u
  k_SLASH : ∃ u, mg "SLASH" = some u ∧ RelV (.int 47) u
  g_BANNED : mg "BANNED" = some (.ref t.t_BANNED)
  s_BANNED : ∀ H, SqT K H t.t_BANNED ([.int 33, .int 47, .int 58, .int 92])
  k_MOST_CHARACTERS : ∃ u, mg "MOST_CHARACTERS" = some u ∧ RelV (.int 31) u
  k_ENTRY_SIZE : ∃ u, mg "ENTRY_SIZE" = some u ∧ RelV (.int 128) u
  k_NOTHING : ∃ u, mg "NOTHING" = some u ∧ RelV (.int 0) u
  k_FOLDER : ∃ u, mg "FOLDER" = some u ∧ RelV (.int 1) u
  k_FILE : ∃ u, mg "FILE" = some u ∧ RelV (.int 2) u
  k_ROOT : ∃ u, mg "ROOT" = some u ∧ RelV (.int 5) u
  k_SMALL_SIZE : ∃ u, mg "SMALL_SIZE" = some u ∧ RelV (.int 64) u
  k_LEAST_LONG : ∃ u, mg "LEAST_LONG" = some u ∧ RelV (.int 4096) u
  g_MARK : mg "MARK" = some (.ref t.t_MARK)
  s_MARK : ∀ H, SqT K H t.t_MARK ([.int 208, .int 207, .int 17, .int 224, .int 161, .int 177, .int 26, .int 225])
  k_MOST_PATH : ∃ u, mg "MOST_PATH" = some u ∧ RelV (.int 4096) u
  k_MOST_READ : ∃ u, mg "MOST_READ" = some u ∧ RelV (.int 1048576) u
  k_MOST_BYTES : ∃ u, mg "MOST_BYTES" = some u ∧ RelV (.int 1048576) u
  k_BEGIN_CALL : ∃ u, mg "BEGIN_CALL" = some u ∧ RelV (.int 0) u
  k_OPEN_CALL : ∃ u, mg "OPEN_CALL" = some u ∧ RelV (.int 1) u
  k_FIND_CALL : ∃ u, mg "FIND_CALL" = some u ∧ RelV (.int 2) u
  k_ITEM_CALL : ∃ u, mg "ITEM_CALL" = some u ∧ RelV (.int 3) u
  k_CHILD_CALL : ∃ u, mg "CHILD_CALL" = some u ∧ RelV (.int 4) u
  g_PLAIN_NUMBERS : mg "PLAIN_NUMBERS" = some (.ref t.t_PLAIN_NUMBERS)
  s_PLAIN_NUMBERS : ∀ H, SqT K H t.t_PLAIN_NUMBERS ([.int 0, .int 0, .int 0, .int 1, .int 2, .int 3])
  z_len : mg "len" = none
  z_range : mg "range" = none
  z_enumerate : mg "enumerate" = none
  z_zip : mg "zip" = none
  z_list : mg "list" = none
  z_tuple : mg "tuple" = none
  z_any : mg "any" = none
  z_all : mg "all" = none
abbrev fO (x q : Str) (st : Stmt) (k d p : Value) (n : Option Addr) (c t : Value) : FuncData := PySem.W.fnOf x q (defArgs st) (defBody st) (defScope st) .none k d p n c t
set_option maxHeartbeats 4000000 in
theorem txt_mk {K : PySem.W.Frag} {h : Heap} {mg : Str → Option Value} (X : K.In h) (G : h.Ns mainGlobals mg)
    {u0 u1 u2 u3 u4 x0 x1 x2 a0 a1 a2 a3 a4 a5 a6 a7 a8 a9 a10 a11 a12 a13 a14 a15 a16 a17 a18 a19 a20 a21 a22 a23 a24 a25 a26 a27 a28 a29 a30 a31 a32 a33 a34 a35 a36 a37 a38 a39 a40 a41 a42 a43 a44 a45 a46 a47 a48 a49 a50 a51 a52 a53 a54 a55 v6 v15 v24 : Addr}
    {o0 k0 d0 p0 c0 t0 o1 k1 d1 p1 c1 t1 o2 k2 d2 p2 c2 t2 o3 k3 d3 p3 c3 t3 o4 k4 d4 p4 c4 t4 o5 k5 d5 p5 c5 t5 o6 k6 d6 p6 c6 t6 o7 k7 d7 p7 c7 t7 o8 k8 d8 p8 c8 t8 o9 k9 d9 p9 c9 t9 o10 k10 d10 p10 c10 t10 o11 k11 d11 p11 c11 t11 o12 k12 d12 p12 c12 t12 o13 k13 d13 p13 c13 t13 o14 k14 d14 p14 c14 t14 o15 k15 d15 p15 c15 t15 o16 k16 d16 p16 c16 t16 o17 k17 d17 p17 c17 t17 o18 k18 d18 p18 c18 t18 o19 k19 d19 p19 c19 t19 o20 k20 d20 p20 c20 t20 o21 k21 d21 p21 c21 t21 o22 k22 d22 p22 c22 t22 o23 k23 d23 p23 c23 t23 o24 k24 d24 p24 c24 t24 o25 k25 d25 p25 c25 t25 o26 k26 d26 p26 c26 t26 o27 k27 d27 p27 c27 t27 o28 k28 d28 p28 c28 t28 o29 k29 d29 p29 c29 t29 o30 k30 d30 p30 c30 t30 o31 k31 d31 p31 c31 t31 o32 k32 d32 p32 c32 t32 o33 k33 d33 p33 c33 t33 o34 k34 d34 p34 c34 t34 o35 k35 d35 p35 c35 t35 o36 k36 d36 p36 c36 t36 o37 k37 d37 p37 c37 t37 o38 k38 d38 p38 c38 t38 o39 k39 d39 p39 c39 t39 o40 k40 d40 p40 c40 t40 o41 k41 d41 p41 c41 t41 o42 k42 d42 p42 c42 t42 o43 k43 d43 p43 c43 t43 o44 k44 d44 p44 c44 t44 o45 k45 d45 p45 c45 t45 o46 k46 d46 p46 c46 t46 o47 k47 d47 p47 c47 t47 o48 k48 d48 p48 c48 t48 o49 k49 d49 p49 c49 t49 o50 k50 d50 p50 c50 t50 o51 k51 d51 p51 c51 t51 o52 k52 d52 p52 c52 t52 o53 k53 d53 p53 c53 t53 o54 k54 d54 p54 c54 t54 o55 k55 d55 p55 c55 t55 : Value}
    {e0 n0 e1 n1 e2 n2 e3 n3 e4 n4 e5 n5 e6 n6 e7 n7 e8 n8 e9 n9 e10 n10 e11 n11 e12 n12 e13 n13 e14 n14 e15 n15 e16 n16 e17 n17 e18 n18 e19 n19 e20 n20 e21 n21 e22 n22 e23 n23 e24 n24 e25 n25 e26 n26 e27 n27 e28 n28 e29 n29 e30 n30 e31 n31 e32 n32 e33 n33 e34 n34 e35 n35 e36 n36 e37 n37 e38 n38 e39 n39 e40 n40 e41 n41 e42 n42 e43 n43 e44 n44 e45 n45 e46 n46 e47 n47 e48 n48 e49 n49 e50 n50 e51 n51 e52 n52 e53 n53 e54 n54 e55 n55 w6 w15 w24 : Option Addr}
    {s0 s1 s2 s3 s4 s5 s6 s7 s8 s9 s10 s11 s12 s13 s14 s15 s16 s17 s18 s19 s20 s21 s22 s23 s24 s25 s26 s27 s28 s29 s30 s31 s32 s33 s34 s35 s36 s37 s38 s39 s40 s41 s42 s43 s44 s45 s46 s47 s48 s49 s50 s51 s52 s53 s54 s55 z6 z15 z24 : Array (Option Value)}
    {m6 m15 m24 : Nat}
    {y0 y1 y2 y3 y4 y5 y6_0 y6_1 y6_2 y6_3 y7 y8 y9 y10 y11 y12 y13 y14 y15_0 y15_1 y15_2 y15_3 y15_4 y15_5 y15_6 y15_7 y16 y17 y18 y19 y20 y21 y22 y23 y24_0 y24_1 y24_2 y24_3 y24_4 y24_5 : Tok}
    (U0 : PySem.W.nsIn K mainGlobals "Places" = some (some (.ref u0)))
    (U1 : PySem.W.nsIn K mainGlobals "Entry" = some (some (.ref u1)))
    (U2 : PySem.W.nsIn K mainGlobals "Head" = some (some (.ref u2)))
    (U3 : PySem.W.nsIn K mainGlobals "Store" = some (some (.ref u3)))
    (U4 : PySem.W.nsIn K mainGlobals "Holder" = some (some (.ref u4)))
    (X0 : PySem.W.nsIn K mainGlobals "NotAStore" = some (some (.ref x0)))
    (X1 : PySem.W.nsIn K mainGlobals "NothingHeld" = some (some (.ref x1)))
    (X2 : PySem.W.nsIn K mainGlobals "NotThere" = some (some (.ref x2)))
    (G0 : PySem.W.nsIn K mainGlobals "hold" = some (some (.ref a0)))
    (L0 : K.lookup a0 = some ⟨o0, e0, .func (fO "hold" "hold" s_hold k0 d0 p0 n0 c0 t0), s0⟩)
    (C0 : PySem.W.codeIn K c0 "hold" = true)
    (K0 : PySem.W.keepIn K (.ref a0) = true)
    (G1 : PySem.W.nsIn K mainGlobals "two_bytes" = some (some (.ref a1)))
    (L1 : K.lookup a1 = some ⟨o1, e1, .func (fO "two_bytes" "two_bytes" s_two_bytes k1 d1 p1 n1 c1 t1), s1⟩)
    (C1 : PySem.W.codeIn K c1 "two_bytes" = true)
    (K1 : PySem.W.keepIn K (.ref a1) = true)
    (G2 : PySem.W.nsIn K mainGlobals "four_bytes" = some (some (.ref a2)))
    (L2 : K.lookup a2 = some ⟨o2, e2, .func (fO "four_bytes" "four_bytes" s_four_bytes k2 d2 p2 n2 c2 t2), s2⟩)
    (C2 : PySem.W.codeIn K c2 "four_bytes" = true)
    (K2 : PySem.W.keepIn K (.ref a2) = true)
    (G3 : PySem.W.nsIn K mainGlobals "numbers_of" = some (some (.ref a3)))
    (L3 : K.lookup a3 = some ⟨o3, e3, .func (fO "numbers_of" "numbers_of" s_numbers_of k3 d3 p3 n3 c3 t3), s3⟩)
    (C3 : PySem.W.codeIn K c3 "numbers_of" = true)
    (K3 : PySem.W.keepIn K (.ref a3) = true)
    (G4 : PySem.W.nsIn K mainGlobals "sector_of" = some (some (.ref a4)))
    (L4 : K.lookup a4 = some ⟨o4, e4, .func (fO "sector_of" "sector_of" s_sector_of k4 d4 p4 n4 c4 t4), s4⟩)
    (C4 : PySem.W.codeIn K c4 "sector_of" = true)
    (K4 : PySem.W.keepIn K (.ref a4) = true)
    (G5 : PySem.W.nsIn K mainGlobals "content_of" = some (some (.ref a5)))
    (L5 : K.lookup a5 = some ⟨o5, e5, .func (fO "content_of" "content_of" s_content_of k5 d5 p5 n5 c5 t5), s5⟩)
    (C5 : PySem.W.codeIn K c5 "content_of" = true)
    (K5 : PySem.W.keepIn K (.ref a5) = true)
    (G6 : PySem.W.nsIn K mainGlobals "all_free" = some (some (.ref a6)))
    (L6 : K.lookup a6 = some ⟨o6, e6, .func (fO "all_free" "all_free" s_all_free k6 d6 p6 n6 c6 t6), s6⟩)
    (C6 : PySem.W.codeIn K c6 "all_free" = true)
    (K6 : PySem.W.keepIn K (.ref a6) = true)
    (G7 : PySem.W.nsIn K mainGlobals "units_needed" = some (some (.ref a7)))
    (L7 : K.lookup a7 = some ⟨o7, e7, .func (fO "units_needed" "units_needed" s_units_needed k7 d7 p7 n7 c7 t7), s7⟩)
    (C7 : PySem.W.codeIn K c7 "units_needed" = true)
    (K7 : PySem.W.keepIn K (.ref a7) = true)
    (F8 : PySem.W.findIn K (.ref u0) "__init__" = some (some (.ref a8)))
    (I8 : PySem.W.isFn K (.ref a8) = true)
    (L8 : K.lookup a8 = some ⟨o8, e8, .func (fO "__init__" "Places.__init__" s_Places_init k8 d8 p8 n8 c8 t8), s8⟩)
    (C8 : PySem.W.codeIn K c8 "Places.__init__" = true)
    (K8 : PySem.W.keepIn K (.ref a8) = true)
    (F9 : PySem.W.findIn K (.ref u0) "take" = some (some (.ref a9)))
    (I9 : PySem.W.isFn K (.ref a9) = true)
    (L9 : K.lookup a9 = some ⟨o9, e9, .func (fO "take" "Places.take" s_Places_take k9 d9 p9 n9 c9 t9), s9⟩)
    (C9 : PySem.W.codeIn K c9 "Places.take" = true)
    (K9 : PySem.W.keepIn K (.ref a9) = true)
    (F10 : PySem.W.findIn K (.ref u0) "untaken" = some (some (.ref a10)))
    (I10 : PySem.W.isFn K (.ref a10) = true)
    (L10 : K.lookup a10 = some ⟨o10, e10, .func (fO "untaken" "Places.untaken" s_Places_untaken k10 d10 p10 n10 c10 t10), s10⟩)
    (C10 : PySem.W.codeIn K c10 "Places.untaken" = true)
    (K10 : PySem.W.keepIn K (.ref a10) = true)
    (G11 : PySem.W.nsIn K mainGlobals "follow" = some (some (.ref a11)))
    (L11 : K.lookup a11 = some ⟨o11, e11, .func (fO "follow" "follow" s_follow k11 d11 p11 n11 c11 t11), s11⟩)
    (C11 : PySem.W.codeIn K c11 "follow" = true)
    (K11 : PySem.W.keepIn K (.ref a11) = true)
    (G12 : PySem.W.nsIn K mainGlobals "hold_rest_free" = some (some (.ref a12)))
    (L12 : K.lookup a12 = some ⟨o12, e12, .func (fO "hold_rest_free" "hold_rest_free" s_hold_rest_free k12 d12 p12 n12 c12 t12), s12⟩)
    (C12 : PySem.W.codeIn K c12 "hold_rest_free" = true)
    (K12 : PySem.W.keepIn K (.ref a12) = true)
    (G13 : PySem.W.nsIn K mainGlobals "great_letter" = some (some (.ref a13)))
    (L13 : K.lookup a13 = some ⟨o13, e13, .func (fO "great_letter" "great_letter" s_great_letter k13 d13 p13 n13 c13 t13), s13⟩)
    (C13 : PySem.W.codeIn K c13 "great_letter" = true)
    (K13 : PySem.W.keepIn K (.ref a13) = true)
    (G14 : PySem.W.nsIn K mainGlobals "key_of" = some (some (.ref a14)))
    (L14 : K.lookup a14 = some ⟨o14, e14, .func (fO "key_of" "key_of" s_key_of k14 d14 p14 n14 c14 t14), s14⟩)
    (C14 : PySem.W.codeIn K c14 "key_of" = true)
    (K14 : PySem.W.keepIn K (.ref a14) = true)
    (G15 : PySem.W.nsIn K mainGlobals "is_allowed" = some (some (.ref a15)))
    (L15 : K.lookup a15 = some ⟨o15, e15, .func (fO "is_allowed" "is_allowed" s_is_allowed k15 d15 p15 n15 c15 t15), s15⟩)
    (C15 : PySem.W.codeIn K c15 "is_allowed" = true)
    (K15 : PySem.W.keepIn K (.ref a15) = true)
    (G16 : PySem.W.nsIn K mainGlobals "read_name" = some (some (.ref a16)))
    (L16 : K.lookup a16 = some ⟨o16, e16, .func (fO "read_name" "read_name" s_read_name k16 d16 p16 n16 c16 t16), s16⟩)
    (C16 : PySem.W.codeIn K c16 "read_name" = true)
    (K16 : PySem.W.keepIn K (.ref a16) = true)
    (G17 : PySem.W.nsIn K mainGlobals "names_in" = some (some (.ref a17)))
    (L17 : K.lookup a17 = some ⟨o17, e17, .func (fO "names_in" "names_in" s_names_in k17 d17 p17 n17 c17 t17), s17⟩)
    (C17 : PySem.W.codeIn K c17 "names_in" = true)
    (K17 : PySem.W.keepIn K (.ref a17) = true)
    (F18 : PySem.W.findIn K (.ref u1) "__init__" = some (some (.ref a18)))
    (I18 : PySem.W.isFn K (.ref a18) = true)
    (L18 : K.lookup a18 = some ⟨o18, e18, .func (fO "__init__" "Entry.__init__" s_Entry_init k18 d18 p18 n18 c18 t18), s18⟩)
    (C18 : PySem.W.codeIn K c18 "Entry.__init__" = true)
    (K18 : PySem.W.keepIn K (.ref a18) = true)
    (G19 : PySem.W.nsIn K mainGlobals "hold_kind" = some (some (.ref a19)))
    (L19 : K.lookup a19 = some ⟨o19, e19, .func (fO "hold_kind" "hold_kind" s_hold_kind k19 d19 p19 n19 c19 t19), s19⟩)
    (C19 : PySem.W.codeIn K c19 "hold_kind" = true)
    (K19 : PySem.W.keepIn K (.ref a19) = true)
    (G20 : PySem.W.nsIn K mainGlobals "read_entry" = some (some (.ref a20)))
    (L20 : K.lookup a20 = some ⟨o20, e20, .func (fO "read_entry" "read_entry" s_read_entry k20 d20 p20 n20 c20 t20), s20⟩)
    (C20 : PySem.W.codeIn K c20 "read_entry" = true)
    (K20 : PySem.W.keepIn K (.ref a20) = true)
    (G21 : PySem.W.nsIn K mainGlobals "read_entries" = some (some (.ref a21)))
    (L21 : K.lookup a21 = some ⟨o21, e21, .func (fO "read_entries" "read_entries" s_read_entries k21 d21 p21 n21 c21 t21), s21⟩)
    (C21 : PySem.W.codeIn K c21 "read_entries" = true)
    (K21 : PySem.W.keepIn K (.ref a21) = true)
    (G22 : PySem.W.nsIn K mainGlobals "follow_sized" = some (some (.ref a22)))
    (L22 : K.lookup a22 = some ⟨o22, e22, .func (fO "follow_sized" "follow_sized" s_follow_sized k22 d22 p22 n22 c22 t22), s22⟩)
    (C22 : PySem.W.codeIn K c22 "follow_sized" = true)
    (K22 : PySem.W.keepIn K (.ref a22) = true)
    (G23 : PySem.W.nsIn K mainGlobals "read_sized" = some (some (.ref a23)))
    (L23 : K.lookup a23 = some ⟨o23, e23, .func (fO "read_sized" "read_sized" s_read_sized k23 d23 p23 n23 c23 t23), s23⟩)
    (C23 : PySem.W.codeIn K c23 "read_sized" = true)
    (K23 : PySem.W.keepIn K (.ref a23) = true)
    (G24 : PySem.W.nsIn K mainGlobals "read_small_sectors" = some (some (.ref a24)))
    (L24 : K.lookup a24 = some ⟨o24, e24, .func (fO "read_small_sectors" "read_small_sectors" s_read_small_sectors k24 d24 p24 n24 c24 t24), s24⟩)
    (C24 : PySem.W.codeIn K c24 "read_small_sectors" = true)
    (K24 : PySem.W.keepIn K (.ref a24) = true)
    (G25 : PySem.W.nsIn K mainGlobals "read_small_table" = some (some (.ref a25)))
    (L25 : K.lookup a25 = some ⟨o25, e25, .func (fO "read_small_table" "read_small_table" s_read_small_table k25 d25 p25 n25 c25 t25), s25⟩)
    (C25 : PySem.W.codeIn K c25 "read_small_table" = true)
    (K25 : PySem.W.keepIn K (.ref a25) = true)
    (G26 : PySem.W.nsIn K mainGlobals "read_small" = some (some (.ref a26)))
    (L26 : K.lookup a26 = some ⟨o26, e26, .func (fO "read_small" "read_small" s_read_small k26 d26 p26 n26 c26 t26), s26⟩)
    (C26 : PySem.W.codeIn K c26 "read_small" = true)
    (K26 : PySem.W.keepIn K (.ref a26) = true)
    (G27 : PySem.W.nsIn K mainGlobals "read_contents" = some (some (.ref a27)))
    (L27 : K.lookup a27 = some ⟨o27, e27, .func (fO "read_contents" "read_contents" s_read_contents k27 d27 p27 n27 c27 t27), s27⟩)
    (C27 : PySem.W.codeIn K c27 "read_contents" = true)
    (K27 : PySem.W.keepIn K (.ref a27) = true)
    (F28 : PySem.W.findIn K (.ref u2) "__init__" = some (some (.ref a28)))
    (I28 : PySem.W.isFn K (.ref a28) = true)
    (L28 : K.lookup a28 = some ⟨o28, e28, .func (fO "__init__" "Head.__init__" s_Head_init k28 d28 p28 n28 c28 t28), s28⟩)
    (C28 : PySem.W.codeIn K c28 "Head.__init__" = true)
    (K28 : PySem.W.keepIn K (.ref a28) = true)
    (G29 : PySem.W.nsIn K mainGlobals "hold_fixed_places" = some (some (.ref a29)))
    (L29 : K.lookup a29 = some ⟨o29, e29, .func (fO "hold_fixed_places" "hold_fixed_places" s_hold_fixed_places k29 d29 p29 n29 c29 t29), s29⟩)
    (C29 : PySem.W.codeIn K c29 "hold_fixed_places" = true)
    (K29 : PySem.W.keepIn K (.ref a29) = true)
    (G30 : PySem.W.nsIn K mainGlobals "read_head" = some (some (.ref a30)))
    (L30 : K.lookup a30 = some ⟨o30, e30, .func (fO "read_head" "read_head" s_read_head k30 d30 p30 n30 c30 t30), s30⟩)
    (C30 : PySem.W.codeIn K c30 "read_head" = true)
    (K30 : PySem.W.keepIn K (.ref a30) = true)
    (G31 : PySem.W.nsIn K mainGlobals "read_lists" = some (some (.ref a31)))
    (L31 : K.lookup a31 = some ⟨o31, e31, .func (fO "read_lists" "read_lists" s_read_lists k31 d31 p31 n31 c31 t31), s31⟩)
    (C31 : PySem.W.codeIn K c31 "read_lists" = true)
    (K31 : PySem.W.keepIn K (.ref a31) = true)
    (G32 : PySem.W.nsIn K mainGlobals "read_named" = some (some (.ref a32)))
    (L32 : K.lookup a32 = some ⟨o32, e32, .func (fO "read_named" "read_named" s_read_named k32 d32 p32 n32 c32 t32), s32⟩)
    (C32 : PySem.W.codeIn K c32 "read_named" = true)
    (K32 : PySem.W.keepIn K (.ref a32) = true)
    (G33 : PySem.W.nsIn K mainGlobals "hold_named" = some (some (.ref a33)))
    (L33 : K.lookup a33 = some ⟨o33, e33, .func (fO "hold_named" "hold_named" s_hold_named k33 d33 p33 n33 c33 t33), s33⟩)
    (C33 : PySem.W.codeIn K c33 "hold_named" = true)
    (K33 : PySem.W.keepIn K (.ref a33) = true)
    (G34 : PySem.W.nsIn K mainGlobals "hold_own_sectors" = some (some (.ref a34)))
    (L34 : K.lookup a34 = some ⟨o34, e34, .func (fO "hold_own_sectors" "hold_own_sectors" s_hold_own_sectors k34 d34 p34 n34 c34 t34), s34⟩)
    (C34 : PySem.W.codeIn K c34 "hold_own_sectors" = true)
    (K34 : PySem.W.keepIn K (.ref a34) = true)
    (G35 : PySem.W.nsIn K mainGlobals "read_table" = some (some (.ref a35)))
    (L35 : K.lookup a35 = some ⟨o35, e35, .func (fO "read_table" "read_table" s_read_table k35 d35 p35 n35 c35 t35), s35⟩)
    (C35 : PySem.W.codeIn K c35 "read_table" = true)
    (K35 : PySem.W.keepIn K (.ref a35) = true)
    (G36 : PySem.W.nsIn K mainGlobals "walk_tree" = some (some (.ref a36)))
    (L36 : K.lookup a36 = some ⟨o36, e36, .func (fO "walk_tree" "walk_tree" s_walk_tree k36 d36 p36 n36 c36 t36), s36⟩)
    (C36 : PySem.W.codeIn K c36 "walk_tree" = true)
    (K36 : PySem.W.keepIn K (.ref a36) = true)
    (G37 : PySem.W.nsIn K mainGlobals "hold_order" = some (some (.ref a37)))
    (L37 : K.lookup a37 = some ⟨o37, e37, .func (fO "hold_order" "hold_order" s_hold_order k37 d37 p37 n37 c37 t37), s37⟩)
    (C37 : PySem.W.codeIn K c37 "hold_order" = true)
    (K37 : PySem.W.keepIn K (.ref a37) = true)
    (G38 : PySem.W.nsIn K mainGlobals "read_trees" = some (some (.ref a38)))
    (L38 : K.lookup a38 = some ⟨o38, e38, .func (fO "read_trees" "read_trees" s_read_trees k38 d38 p38 n38 c38 t38), s38⟩)
    (C38 : PySem.W.codeIn K c38 "read_trees" = true)
    (K38 : PySem.W.keepIn K (.ref a38) = true)
    (F39 : PySem.W.findIn K (.ref u3) "__init__" = some (some (.ref a39)))
    (I39 : PySem.W.isFn K (.ref a39) = true)
    (L39 : K.lookup a39 = some ⟨o39, e39, .func (fO "__init__" "Store.__init__" s_Store_init k39 d39 p39 n39 c39 t39), s39⟩)
    (C39 : PySem.W.codeIn K c39 "Store.__init__" = true)
    (K39 : PySem.W.keepIn K (.ref a39) = true)
    (F40 : PySem.W.findIn K (.ref u3) "child_alike" = some (some (.ref a40)))
    (I40 : PySem.W.isFn K (.ref a40) = true)
    (L40 : K.lookup a40 = some ⟨o40, e40, .func (fO "child_alike" "Store.child_alike" s_Store_child_alike k40 d40 p40 n40 c40 t40), s40⟩)
    (C40 : PySem.W.codeIn K c40 "Store.child_alike" = true)
    (K40 : PySem.W.keepIn K (.ref a40) = true)
    (F41 : PySem.W.findIn K (.ref u3) "find" = some (some (.ref a41)))
    (I41 : PySem.W.isFn K (.ref a41) = true)
    (L41 : K.lookup a41 = some ⟨o41, e41, .func (fO "find" "Store.find" s_Store_find k41 d41 p41 n41 c41 t41), s41⟩)
    (C41 : PySem.W.codeIn K c41 "Store.find" = true)
    (K41 : PySem.W.keepIn K (.ref a41) = true)
    (F42 : PySem.W.findIn K (.ref u3) "something" = some (some (.ref a42)))
    (I42 : PySem.W.isFn K (.ref a42) = true)
    (L42 : K.lookup a42 = some ⟨o42, e42, .func (fO "something" "Store.something" s_Store_something k42 d42 p42 n42 c42 t42), s42⟩)
    (C42 : PySem.W.codeIn K c42 "Store.something" = true)
    (K42 : PySem.W.keepIn K (.ref a42) = true)
    (F43 : PySem.W.findIn K (.ref u3) "item" = some (some (.ref a43)))
    (I43 : PySem.W.isFn K (.ref a43) = true)
    (L43 : K.lookup a43 = some ⟨o43, e43, .func (fO "item" "Store.item" s_Store_item k43 d43 p43 n43 c43 t43), s43⟩)
    (C43 : PySem.W.codeIn K c43 "Store.item" = true)
    (K43 : PySem.W.keepIn K (.ref a43) = true)
    (F44 : PySem.W.findIn K (.ref u3) "child" = some (some (.ref a44)))
    (I44 : PySem.W.isFn K (.ref a44) = true)
    (L44 : K.lookup a44 = some ⟨o44, e44, .func (fO "child" "Store.child" s_Store_child k44 d44 p44 n44 c44 t44), s44⟩)
    (C44 : PySem.W.codeIn K c44 "Store.child" = true)
    (K44 : PySem.W.keepIn K (.ref a44) = true)
    (F45 : PySem.W.findIn K (.ref u3) "read" = some (some (.ref a45)))
    (I45 : PySem.W.isFn K (.ref a45) = true)
    (L45 : K.lookup a45 = some ⟨o45, e45, .func (fO "read" "Store.read" s_Store_read k45 d45 p45 n45 c45 t45), s45⟩)
    (C45 : PySem.W.codeIn K c45 "Store.read" = true)
    (K45 : PySem.W.keepIn K (.ref a45) = true)
    (G46 : PySem.W.nsIn K mainGlobals "read_store" = some (some (.ref a46)))
    (L46 : K.lookup a46 = some ⟨o46, e46, .func (fO "read_store" "read_store" s_read_store k46 d46 p46 n46 c46 t46), s46⟩)
    (C46 : PySem.W.codeIn K c46 "read_store" = true)
    (K46 : PySem.W.keepIn K (.ref a46) = true)
    (F47 : PySem.W.findIn K (.ref u4) "__init__" = some (some (.ref a47)))
    (I47 : PySem.W.isFn K (.ref a47) = true)
    (L47 : K.lookup a47 = some ⟨o47, e47, .func (fO "__init__" "Holder.__init__" s_Holder_init k47 d47 p47 n47 c47 t47), s47⟩)
    (C47 : PySem.W.codeIn K c47 "Holder.__init__" = true)
    (K47 : PySem.W.keepIn K (.ref a47) = true)
    (F48 : PySem.W.findIn K (.ref u4) "begin" = some (some (.ref a48)))
    (I48 : PySem.W.isFn K (.ref a48) = true)
    (L48 : K.lookup a48 = some ⟨o48, e48, .func (fO "begin" "Holder.begin" s_Holder_begin k48 d48 p48 n48 c48 t48), s48⟩)
    (C48 : PySem.W.codeIn K c48 "Holder.begin" = true)
    (K48 : PySem.W.keepIn K (.ref a48) = true)
    (F49 : PySem.W.findIn K (.ref u4) "take_file" = some (some (.ref a49)))
    (I49 : PySem.W.isFn K (.ref a49) = true)
    (L49 : K.lookup a49 = some ⟨o49, e49, .func (fO "take_file" "Holder.take_file" s_Holder_take_file k49 d49 p49 n49 c49 t49), s49⟩)
    (C49 : PySem.W.codeIn K c49 "Holder.take_file" = true)
    (K49 : PySem.W.keepIn K (.ref a49) = true)
    (F50 : PySem.W.findIn K (.ref u4) "held" = some (some (.ref a50)))
    (I50 : PySem.W.isFn K (.ref a50) = true)
    (L50 : K.lookup a50 = some ⟨o50, e50, .func (fO "held" "Holder.held" s_Holder_held k50 d50 p50 n50 c50 t50), s50⟩)
    (C50 : PySem.W.codeIn K c50 "Holder.held" = true)
    (K50 : PySem.W.keepIn K (.ref a50) = true)
    (G51 : PySem.W.nsIn K mainGlobals "end_of_call" = some (some (.ref a51)))
    (L51 : K.lookup a51 = some ⟨o51, e51, .func (fO "end_of_call" "end_of_call" s_end_of_call k51 d51 p51 n51 c51 t51), s51⟩)
    (C51 : PySem.W.codeIn K c51 "end_of_call" = true)
    (K51 : PySem.W.keepIn K (.ref a51) = true)
    (G52 : PySem.W.nsIn K mainGlobals "answer_of_store" = some (some (.ref a52)))
    (L52 : K.lookup a52 = some ⟨o52, e52, .func (fO "answer_of_store" "answer_of_store" s_answer_of_store k52 d52 p52 n52 c52 t52), s52⟩)
    (C52 : PySem.W.codeIn K c52 "answer_of_store" = true)
    (K52 : PySem.W.keepIn K (.ref a52) = true)
    (G53 : PySem.W.nsIn K mainGlobals "answer_of" = some (some (.ref a53)))
    (L53 : K.lookup a53 = some ⟨o53, e53, .func (fO "answer_of" "answer_of" s_answer_of k53 d53 p53 n53 c53 t53), s53⟩)
    (C53 : PySem.W.codeIn K c53 "answer_of" = true)
    (K53 : PySem.W.keepIn K (.ref a53) = true)
    (G54 : PySem.W.nsIn K mainGlobals "answer_or_refusal" = some (some (.ref a54)))
    (L54 : K.lookup a54 = some ⟨o54, e54, .func (fO "answer_or_refusal" "answer_or_refusal" s_answer_or_refusal k54 d54 p54 n54 c54 t54), s54⟩)
    (C54 : PySem.W.codeIn K c54 "answer_or_refusal" = true)
    (K54 : PySem.W.keepIn K (.ref a54) = true)
    (G55 : PySem.W.nsIn K mainGlobals "answers" = some (some (.ref a55)))
    (L55 : K.lookup a55 = some ⟨o55, e55, .func (fO "answers" "answers" s_answers k55 d55 p55 n55 c55 t55), s55⟩)
    (C55 : PySem.W.codeIn K c55 "answers" = true)
    (K55 : PySem.W.keepIn K (.ref a55) = true)
    (V0 : PySem.W.plainGet K u0 Str.empty = true)
    (W0 : PySem.W.hasDictIn K u0 = true)
    (Y0 : PySem.W.plainOver K u0 = true)
    (Z0 : PySem.W.findIn K (.ref u0) "__setattr__" = some (some (.builtin "object.__setattr__")))
    (M0 : PySem.W.makesIn K u0 = true)
    (N0 : PySem.W.keepIn K (.ref u0) = true)
    (Q0_0 : PySem.W.findIn K (.ref u0) "taken" = some none)
    (V1 : PySem.W.plainGet K u1 Str.empty = true)
    (W1 : PySem.W.hasDictIn K u1 = true)
    (Y1 : PySem.W.plainOver K u1 = true)
    (Z1 : PySem.W.findIn K (.ref u1) "__setattr__" = some (some (.builtin "object.__setattr__")))
    (M1 : PySem.W.makesIn K u1 = true)
    (N1 : PySem.W.keepIn K (.ref u1) = true)
    (Q1_0 : PySem.W.findIn K (.ref u1) "name" = some none)
    (Q1_1 : PySem.W.findIn K (.ref u1) "key" = some none)
    (Q1_2 : PySem.W.findIn K (.ref u1) "kind" = some none)
    (Q1_3 : PySem.W.findIn K (.ref u1) "left" = some none)
    (Q1_4 : PySem.W.findIn K (.ref u1) "right" = some none)
    (Q1_5 : PySem.W.findIn K (.ref u1) "first_below" = some none)
    (Q1_6 : PySem.W.findIn K (.ref u1) "begins_at" = some none)
    (Q1_7 : PySem.W.findIn K (.ref u1) "size" = some none)
    (V2 : PySem.W.plainGet K u2 Str.empty = true)
    (W2 : PySem.W.hasDictIn K u2 = true)
    (Y2 : PySem.W.plainOver K u2 = true)
    (Z2 : PySem.W.findIn K (.ref u2) "__setattr__" = some (some (.builtin "object.__setattr__")))
    (M2 : PySem.W.makesIn K u2 = true)
    (N2 : PySem.W.keepIn K (.ref u2) = true)
    (Q2_0 : PySem.W.findIn K (.ref u2) "table_length" = some none)
    (Q2_1 : PySem.W.findIn K (.ref u2) "directory_at" = some none)
    (Q2_2 : PySem.W.findIn K (.ref u2) "small_table_at" = some none)
    (Q2_3 : PySem.W.findIn K (.ref u2) "small_table_length" = some none)
    (Q2_4 : PySem.W.findIn K (.ref u2) "first_list" = some none)
    (Q2_5 : PySem.W.findIn K (.ref u2) "list_count" = some none)
    (Q2_6 : PySem.W.findIn K (.ref u2) "named" = some none)
    (V3 : PySem.W.plainGet K u3 Str.empty = true)
    (W3 : PySem.W.hasDictIn K u3 = true)
    (Y3 : PySem.W.plainOver K u3 = true)
    (Z3 : PySem.W.findIn K (.ref u3) "__setattr__" = some (some (.builtin "object.__setattr__")))
    (M3 : PySem.W.makesIn K u3 = true)
    (N3 : PySem.W.keepIn K (.ref u3) = true)
    (Q3_0 : PySem.W.findIn K (.ref u3) "entries" = some none)
    (Q3_1 : PySem.W.findIn K (.ref u3) "children" = some none)
    (Q3_2 : PySem.W.findIn K (.ref u3) "contents" = some none)
    (V4 : PySem.W.plainGet K u4 Str.empty = true)
    (W4 : PySem.W.hasDictIn K u4 = true)
    (Y4 : PySem.W.plainOver K u4 = true)
    (Z4 : PySem.W.findIn K (.ref u4) "__setattr__" = some (some (.builtin "object.__setattr__")))
    (M4 : PySem.W.makesIn K u4 = true)
    (N4 : PySem.W.keepIn K (.ref u4) = true)
    (Q4_0 : PySem.W.findIn K (.ref u4) "store" = some none)
    (E0 : PySem.W.excIn K x0 excBm "Exception.__new__" = true)
    (E1 : PySem.W.excIn K x1 excBm "Exception.__new__" = true)
    (E2 : PySem.W.excIn K x2 excBm "Exception.__new__" = true)
    (H0_0 : PySem.W.exmOne K (.ref x0) (.ref x0) = some true)
    (H0_1 : PySem.W.exmOne K (.ref x0) (.ref x1) = some false)
    (H0_2 : PySem.W.exmOne K (.ref x0) (.ref x2) = some false)
    (H1_0 : PySem.W.exmOne K (.ref x1) (.ref x0) = some false)
    (H1_1 : PySem.W.exmOne K (.ref x1) (.ref x1) = some true)
    (H1_2 : PySem.W.exmOne K (.ref x1) (.ref x2) = some false)
    (H2_0 : PySem.W.exmOne K (.ref x2) (.ref x0) = some false)
    (H2_1 : PySem.W.exmOne K (.ref x2) (.ref x1) = some false)
    (H2_2 : PySem.W.exmOne K (.ref x2) (.ref x2) = some true)
    (A0 : PySem.W.nsIn K mainGlobals "SECTOR_SIZE" = some (some (.int 512 y0)))
    (A1 : PySem.W.nsIn K mainGlobals "FREE" = some (some (.int 4294967295 y1)))
    (A2 : PySem.W.nsIn K mainGlobals "END" = some (some (.int 4294967294 y2)))
    (A3 : PySem.W.nsIn K mainGlobals "TABLE" = some (some (.int 4294967293 y3)))
    (A4 : PySem.W.nsIn K mainGlobals "LIST" = some (some (.int 4294967292 y4)))
    (A5 : PySem.W.nsIn K mainGlobals "SLASH" = some (some (.int 47 y5)))
    (A6 : PySem.W.nsIn K mainGlobals "BANNED" = some (some (.ref v6)))
    (B6 : K.lookup v6 = some ⟨.type "tuple", w6, .seq #[.int 33 y6_0, .int 47 y6_1, .int 58 y6_2, .int 92 y6_3] m6, z6⟩)
    (A7 : PySem.W.nsIn K mainGlobals "MOST_CHARACTERS" = some (some (.int 31 y7)))
    (A8 : PySem.W.nsIn K mainGlobals "ENTRY_SIZE" = some (some (.int 128 y8)))
    (A9 : PySem.W.nsIn K mainGlobals "NOTHING" = some (some (.int 0 y9)))
    (A10 : PySem.W.nsIn K mainGlobals "FOLDER" = some (some (.int 1 y10)))
    (A11 : PySem.W.nsIn K mainGlobals "FILE" = some (some (.int 2 y11)))
    (A12 : PySem.W.nsIn K mainGlobals "ROOT" = some (some (.int 5 y12)))
    (A13 : PySem.W.nsIn K mainGlobals "SMALL_SIZE" = some (some (.int 64 y13)))
    (A14 : PySem.W.nsIn K mainGlobals "LEAST_LONG" = some (some (.int 4096 y14)))
    (A15 : PySem.W.nsIn K mainGlobals "MARK" = some (some (.ref v15)))
    (B15 : K.lookup v15 = some ⟨.type "tuple", w15, .seq #[.int 208 y15_0, .int 207 y15_1, .int 17 y15_2, .int 224 y15_3, .int 161 y15_4, .int 177 y15_5, .int 26 y15_6, .int 225 y15_7] m15, z15⟩)
    (A16 : PySem.W.nsIn K mainGlobals "MOST_PATH" = some (some (.int 4096 y16)))
    (A17 : PySem.W.nsIn K mainGlobals "MOST_READ" = some (some (.int 1048576 y17)))
    (A18 : PySem.W.nsIn K mainGlobals "MOST_BYTES" = some (some (.int 1048576 y18)))
    (A19 : PySem.W.nsIn K mainGlobals "BEGIN_CALL" = some (some (.int 0 y19)))
    (A20 : PySem.W.nsIn K mainGlobals "OPEN_CALL" = some (some (.int 1 y20)))
    (A21 : PySem.W.nsIn K mainGlobals "FIND_CALL" = some (some (.int 2 y21)))
    (A22 : PySem.W.nsIn K mainGlobals "ITEM_CALL" = some (some (.int 3 y22)))
    (A23 : PySem.W.nsIn K mainGlobals "CHILD_CALL" = some (some (.int 4 y23)))
    (A24 : PySem.W.nsIn K mainGlobals "PLAIN_NUMBERS" = some (some (.ref v24)))
    (B24 : K.lookup v24 = some ⟨.type "tuple", w24, .seq #[.int 0 y24_0, .int 0 y24_1, .int 0 y24_2, .int 1 y24_3, .int 2 y24_4, .int 3 y24_5] m24, z24⟩)
    (R0 : PySem.W.nsIn K mainGlobals "len" = some none)
    (R1 : PySem.W.nsIn K mainGlobals "range" = some none)
    (R2 : PySem.W.nsIn K mainGlobals "enumerate" = some none)
    (R3 : PySem.W.nsIn K mainGlobals "zip" = some none)
    (R4 : PySem.W.nsIn K mainGlobals "list" = some none)
    (R5 : PySem.W.nsIn K mainGlobals "tuple" = some none)
    (R6 : PySem.W.nsIn K mainGlobals "any" = some none)
    (R7 : PySem.W.nsIn K mainGlobals "all" = some none)
    : ∃ t : Adr, t.a_answers = a55 ∧ Txt K mg t := by
  refine ⟨{ c_Places := u0, c_Entry := u1, c_Head := u2, c_Store := u3, c_Holder := u4, x_NotAStore := x0, x_NothingHeld := x1, x_NotThere := x2, a_hold := a0, d_hold := fO "hold" "hold" s_hold k0 d0 p0 n0 c0 t0, a_two_bytes := a1, d_two_bytes := fO "two_bytes" "two_bytes" s_two_bytes k1 d1 p1 n1 c1 t1, a_four_bytes := a2, d_four_bytes := fO "four_bytes" "four_bytes" s_four_bytes k2 d2 p2 n2 c2 t2, a_numbers_of := a3, d_numbers_of := fO "numbers_of" "numbers_of" s_numbers_of k3 d3 p3 n3 c3 t3, a_sector_of := a4, d_sector_of := fO "sector_of" "sector_of" s_sector_of k4 d4 p4 n4 c4 t4, a_content_of := a5, d_content_of := fO "content_of" "content_of" s_content_of k5 d5 p5 n5 c5 t5, a_all_free := a6, d_all_free := fO "all_free" "all_free" s_all_free k6 d6 p6 n6 c6 t6, a_units_needed := a7, d_units_needed := fO "units_needed" "units_needed" s_units_needed k7 d7 p7 n7 c7 t7, a_Places_init := a8, d_Places_init := fO "__init__" "Places.__init__" s_Places_init k8 d8 p8 n8 c8 t8, a_Places_take := a9, d_Places_take := fO "take" "Places.take" s_Places_take k9 d9 p9 n9 c9 t9, a_Places_untaken := a10, d_Places_untaken := fO "untaken" "Places.untaken" s_Places_untaken k10 d10 p10 n10 c10 t10, a_follow := a11, d_follow := fO "follow" "follow" s_follow k11 d11 p11 n11 c11 t11, a_hold_rest_free := a12, d_hold_rest_free := fO "hold_rest_free" "hold_rest_free" s_hold_rest_free k12 d12 p12 n12 c12 t12, a_great_letter := a13, d_great_letter := fO "great_letter" "great_letter" s_great_letter k13 d13 p13 n13 c13 t13, a_key_of := a14, d_key_of := fO "key_of" "key_of" s_key_of k14 d14 p14 n14 c14 t14, a_is_allowed := a15, d_is_allowed := fO "is_allowed" "is_allowed" s_is_allowed k15 d15 p15 n15 c15 t15, a_read_name := a16, d_read_name := fO "read_name" "read_name" s_read_name k16 d16 p16 n16 c16 t16, a_names_in := a17, d_names_in := fO "names_in" "names_in" s_names_in k17 d17 p17 n17 c17 t17, a_Entry_init := a18, d_Entry_init := fO "__init__" "Entry.__init__" s_Entry_init k18 d18 p18 n18 c18 t18, a_hold_kind := a19, d_hold_kind := fO "hold_kind" "hold_kind" s_hold_kind k19 d19 p19 n19 c19 t19, a_read_entry := a20, d_read_entry := fO "read_entry" "read_entry" s_read_entry k20 d20 p20 n20 c20 t20, a_read_entries := a21, d_read_entries := fO "read_entries" "read_entries" s_read_entries k21 d21 p21 n21 c21 t21, a_follow_sized := a22, d_follow_sized := fO "follow_sized" "follow_sized" s_follow_sized k22 d22 p22 n22 c22 t22, a_read_sized := a23, d_read_sized := fO "read_sized" "read_sized" s_read_sized k23 d23 p23 n23 c23 t23, a_read_small_sectors := a24, d_read_small_sectors := fO "read_small_sectors" "read_small_sectors" s_read_small_sectors k24 d24 p24 n24 c24 t24, a_read_small_table := a25, d_read_small_table := fO "read_small_table" "read_small_table" s_read_small_table k25 d25 p25 n25 c25 t25, a_read_small := a26, d_read_small := fO "read_small" "read_small" s_read_small k26 d26 p26 n26 c26 t26, a_read_contents := a27, d_read_contents := fO "read_contents" "read_contents" s_read_contents k27 d27 p27 n27 c27 t27, a_Head_init := a28, d_Head_init := fO "__init__" "Head.__init__" s_Head_init k28 d28 p28 n28 c28 t28, a_hold_fixed_places := a29, d_hold_fixed_places := fO "hold_fixed_places" "hold_fixed_places" s_hold_fixed_places k29 d29 p29 n29 c29 t29, a_read_head := a30, d_read_head := fO "read_head" "read_head" s_read_head k30 d30 p30 n30 c30 t30, a_read_lists := a31, d_read_lists := fO "read_lists" "read_lists" s_read_lists k31 d31 p31 n31 c31 t31, a_read_named := a32, d_read_named := fO "read_named" "read_named" s_read_named k32 d32 p32 n32 c32 t32, a_hold_named := a33, d_hold_named := fO "hold_named" "hold_named" s_hold_named k33 d33 p33 n33 c33 t33, a_hold_own_sectors := a34, d_hold_own_sectors := fO "hold_own_sectors" "hold_own_sectors" s_hold_own_sectors k34 d34 p34 n34 c34 t34, a_read_table := a35, d_read_table := fO "read_table" "read_table" s_read_table k35 d35 p35 n35 c35 t35, a_walk_tree := a36, d_walk_tree := fO "walk_tree" "walk_tree" s_walk_tree k36 d36 p36 n36 c36 t36, a_hold_order := a37, d_hold_order := fO "hold_order" "hold_order" s_hold_order k37 d37 p37 n37 c37 t37, a_read_trees := a38, d_read_trees := fO "read_trees" "read_trees" s_read_trees k38 d38 p38 n38 c38 t38, a_Store_init := a39, d_Store_init := fO "__init__" "Store.__init__" s_Store_init k39 d39 p39 n39 c39 t39, a_Store_child_alike := a40, d_Store_child_alike := fO "child_alike" "Store.child_alike" s_Store_child_alike k40 d40 p40 n40 c40 t40, a_Store_find := a41, d_Store_find := fO "find" "Store.find" s_Store_find k41 d41 p41 n41 c41 t41, a_Store_something := a42, d_Store_something := fO "something" "Store.something" s_Store_something k42 d42 p42 n42 c42 t42, a_Store_item := a43, d_Store_item := fO "item" "Store.item" s_Store_item k43 d43 p43 n43 c43 t43, a_Store_child := a44, d_Store_child := fO "child" "Store.child" s_Store_child k44 d44 p44 n44 c44 t44, a_Store_read := a45, d_Store_read := fO "read" "Store.read" s_Store_read k45 d45 p45 n45 c45 t45, a_read_store := a46, d_read_store := fO "read_store" "read_store" s_read_store k46 d46 p46 n46 c46 t46, a_Holder_init := a47, d_Holder_init := fO "__init__" "Holder.__init__" s_Holder_init k47 d47 p47 n47 c47 t47, a_Holder_begin := a48, d_Holder_begin := fO "begin" "Holder.begin" s_Holder_begin k48 d48 p48 n48 c48 t48, a_Holder_take_file := a49, d_Holder_take_file := fO "take_file" "Holder.take_file" s_Holder_take_file k49 d49 p49 n49 c49 t49, a_Holder_held := a50, d_Holder_held := fO "held" "Holder.held" s_Holder_held k50 d50 p50 n50 c50 t50, a_end_of_call := a51, d_end_of_call := fO "end_of_call" "end_of_call" s_end_of_call k51 d51 p51 n51 c51 t51, a_answer_of_store := a52, d_answer_of_store := fO "answer_of_store" "answer_of_store" s_answer_of_store k52 d52 p52 n52 c52 t52, a_answer_of := a53, d_answer_of := fO "answer_of" "answer_of" s_answer_of k53 d53 p53 n53 c53 t53, a_answer_or_refusal := a54, d_answer_or_refusal := fO "answer_or_refusal" "answer_or_refusal" s_answer_or_refusal k54 d54 p54 n54 c54 t54, a_answers := a55, d_answers := fO "answers" "answers" s_answers k55 d55 p55 n55 c55 t55, t_BANNED := v6, t_MARK := v15, t_PLAIN_NUMBERS := v24 }, rfl, ?_⟩
  exact {
    F_hold := fun_mk (st := s_hold) L0 C0 K0
    b_hold := (fun_mk (st := s_hold) L0 C0 K0).binds (ps := ["is_so", "what"]) fun _ _ _ _ _ _ us hl => match us, hl with | [_, _], _ => rfl
    g_hold := PySem.W.mg_of X G G0
    F_two_bytes := fun_mk (st := s_two_bytes) L1 C1 K1
    b_two_bytes := (fun_mk (st := s_two_bytes) L1 C1 K1).binds (ps := ["row", "at"]) fun _ _ _ _ _ _ us hl => match us, hl with | [_, _], _ => rfl
    g_two_bytes := PySem.W.mg_of X G G1
    F_four_bytes := fun_mk (st := s_four_bytes) L2 C2 K2
    b_four_bytes := (fun_mk (st := s_four_bytes) L2 C2 K2).binds (ps := ["row", "at"]) fun _ _ _ _ _ _ us hl => match us, hl with | [_, _], _ => rfl
    g_four_bytes := PySem.W.mg_of X G G2
    F_numbers_of := fun_mk (st := s_numbers_of) L3 C3 K3
    b_numbers_of := (fun_mk (st := s_numbers_of) L3 C3 K3).binds (ps := ["row"]) fun _ _ _ _ _ _ us hl => match us, hl with | [_], _ => rfl
    g_numbers_of := PySem.W.mg_of X G G3
    F_sector_of := fun_mk (st := s_sector_of) L4 C4 K4
    b_sector_of := (fun_mk (st := s_sector_of) L4 C4 K4).binds (ps := ["file", "number"]) fun _ _ _ _ _ _ us hl => match us, hl with | [_, _], _ => rfl
    g_sector_of := PySem.W.mg_of X G G4
    F_content_of := fun_mk (st := s_content_of) L5 C5 K5
    b_content_of := (fun_mk (st := s_content_of) L5 C5 K5).binds (ps := ["file", "chain"]) fun _ _ _ _ _ _ us hl => match us, hl with | [_, _], _ => rfl
    g_content_of := PySem.W.mg_of X G G5
    F_all_free := fun_mk (st := s_all_free) L6 C6 K6
    b_all_free := (fun_mk (st := s_all_free) L6 C6 K6).binds (ps := ["numbers"]) fun _ _ _ _ _ _ us hl => match us, hl with | [_], _ => rfl
    g_all_free := PySem.W.mg_of X G G6
    F_units_needed := fun_mk (st := s_units_needed) L7 C7 K7
    b_units_needed := (fun_mk (st := s_units_needed) L7 C7 K7).binds (ps := ["size", "unit"]) fun _ _ _ _ _ _ us hl => match us, hl with | [_, _], _ => rfl
    g_units_needed := PySem.W.mg_of X G G7
    F_Places_init := fun_mk (st := s_Places_init) L8 C8 K8
    b_Places_init := (fun_mk (st := s_Places_init) L8 C8 K8).binds (ps := ["self", "count"]) fun _ _ _ _ _ _ us hl => match us, hl with | [_, _], _ => rfl
    mk_Places := ⟨M0, F8, I8, N0⟩
    F_Places_take := fun_mk (st := s_Places_take) L9 C9 K9
    b_Places_take := (fun_mk (st := s_Places_take) L9 C9 K9).binds (ps := ["self", "number"]) fun _ _ _ _ _ _ us hl => match us, hl with | [_, _], _ => rfl
    m_Places_take := ⟨F9, I9, K9⟩
    F_Places_untaken := fun_mk (st := s_Places_untaken) L10 C10 K10
    b_Places_untaken := (fun_mk (st := s_Places_untaken) L10 C10 K10).binds (ps := ["self"]) fun _ _ _ _ _ _ us hl => match us, hl with | [_], _ => rfl
    m_Places_untaken := ⟨F10, I10, K10⟩
    F_follow := fun_mk (st := s_follow) L11 C11 K11
    b_follow := (fun_mk (st := s_follow) L11 C11 K11).binds (ps := ["places", "table", "first"]) fun _ _ _ _ _ _ us hl => match us, hl with | [_, _, _], _ => rfl
    g_follow := PySem.W.mg_of X G G11
    F_hold_rest_free := fun_mk (st := s_hold_rest_free) L12 C12 K12
    b_hold_rest_free := (fun_mk (st := s_hold_rest_free) L12 C12 K12).binds (ps := ["places", "table"]) fun _ _ _ _ _ _ us hl => match us, hl with | [_, _], _ => rfl
    g_hold_rest_free := PySem.W.mg_of X G G12
    F_great_letter := fun_mk (st := s_great_letter) L13 C13 K13
    b_great_letter := (fun_mk (st := s_great_letter) L13 C13 K13).binds (ps := ["character"]) fun _ _ _ _ _ _ us hl => match us, hl with | [_], _ => rfl
    g_great_letter := PySem.W.mg_of X G G13
    F_key_of := fun_mk (st := s_key_of) L14 C14 K14
    b_key_of := (fun_mk (st := s_key_of) L14 C14 K14).binds (ps := ["name"]) fun _ _ _ _ _ _ us hl => match us, hl with | [_], _ => rfl
    g_key_of := PySem.W.mg_of X G G14
    F_is_allowed := fun_mk (st := s_is_allowed) L15 C15 K15
    b_is_allowed := (fun_mk (st := s_is_allowed) L15 C15 K15).binds (ps := ["character"]) fun _ _ _ _ _ _ us hl => match us, hl with | [_], _ => rfl
    g_is_allowed := PySem.W.mg_of X G G15
    F_read_name := fun_mk (st := s_read_name) L16 C16 K16
    b_read_name := (fun_mk (st := s_read_name) L16 C16 K16).binds (ps := ["row"]) fun _ _ _ _ _ _ us hl => match us, hl with | [_], _ => rfl
    g_read_name := PySem.W.mg_of X G G16
    F_names_in := fun_mk (st := s_names_in) L17 C17 K17
    b_names_in := (fun_mk (st := s_names_in) L17 C17 K17).binds (ps := ["path"]) fun _ _ _ _ _ _ us hl => match us, hl with | [_], _ => rfl
    g_names_in := PySem.W.mg_of X G G17
    F_Entry_init := fun_mk (st := s_Entry_init) L18 C18 K18
    b_Entry_init := (fun_mk (st := s_Entry_init) L18 C18 K18).binds (ps := ["self", "row"]) fun _ _ _ _ _ _ us hl => match us, hl with | [_, _], _ => rfl
    mk_Entry := ⟨M1, F18, I18, N1⟩
    F_hold_kind := fun_mk (st := s_hold_kind) L19 C19 K19
    b_hold_kind := (fun_mk (st := s_hold_kind) L19 C19 K19).binds (ps := ["entry"]) fun _ _ _ _ _ _ us hl => match us, hl with | [_], _ => rfl
    g_hold_kind := PySem.W.mg_of X G G19
    F_read_entry := fun_mk (st := s_read_entry) L20 C20 K20
    b_read_entry := (fun_mk (st := s_read_entry) L20 C20 K20).binds (ps := ["row", "number"]) fun _ _ _ _ _ _ us hl => match us, hl with | [_, _], _ => rfl
    g_read_entry := PySem.W.mg_of X G G20
    F_read_entries := fun_mk (st := s_read_entries) L21 C21 K21
    b_read_entries := (fun_mk (st := s_read_entries) L21 C21 K21).binds (ps := ["content"]) fun _ _ _ _ _ _ us hl => match us, hl with | [_], _ => rfl
    g_read_entries := PySem.W.mg_of X G G21
    F_follow_sized := fun_mk (st := s_follow_sized) L22 C22 K22
    b_follow_sized := (fun_mk (st := s_follow_sized) L22 C22 K22).binds (ps := ["places", "table", "first", "length"]) fun _ _ _ _ _ _ us hl => match us, hl with | [_, _, _, _], _ => rfl
    g_follow_sized := PySem.W.mg_of X G G22
    F_read_sized := fun_mk (st := s_read_sized) L23 C23 K23
    b_read_sized := (fun_mk (st := s_read_sized) L23 C23 K23).binds (ps := ["file", "entry", "places", "table"]) fun _ _ _ _ _ _ us hl => match us, hl with | [_, _, _, _], _ => rfl
    g_read_sized := PySem.W.mg_of X G G23
    F_read_small_sectors := fun_mk (st := s_read_small_sectors) L24 C24 K24
    b_read_small_sectors := (fun_mk (st := s_read_small_sectors) L24 C24 K24).binds (ps := ["file", "root", "places", "table"]) fun _ _ _ _ _ _ us hl => match us, hl with | [_, _, _, _], _ => rfl
    g_read_small_sectors := PySem.W.mg_of X G G24
    F_read_small_table := fun_mk (st := s_read_small_table) L25 C25 K25
    b_read_small_table := (fun_mk (st := s_read_small_table) L25 C25 K25).binds (ps := ["file", "head", "places", "table", "count"]) fun _ _ _ _ _ _ us hl => match us, hl with | [_, _, _, _, _], _ => rfl
    g_read_small_table := PySem.W.mg_of X G G25
    F_read_small := fun_mk (st := s_read_small) L26 C26 K26
    b_read_small := (fun_mk (st := s_read_small) L26 C26 K26).binds (ps := ["small_sectors", "entry", "small_places", "small_table"]) fun _ _ _ _ _ _ us hl => match us, hl with | [_, _, _, _], _ => rfl
    g_read_small := PySem.W.mg_of X G G26
    F_read_contents := fun_mk (st := s_read_contents) L27 C27 K27
    b_read_contents := (fun_mk (st := s_read_contents) L27 C27 K27).binds (ps := ["file", "head", "entries", "places", "table"]) fun _ _ _ _ _ _ us hl => match us, hl with | [_, _, _, _, _], _ => rfl
    g_read_contents := PySem.W.mg_of X G G27
    F_Head_init := fun_mk (st := s_Head_init) L28 C28 K28
    b_Head_init := (fun_mk (st := s_Head_init) L28 C28 K28).binds (ps := ["self", "file"]) fun _ _ _ _ _ _ us hl => match us, hl with | [_, _], _ => rfl
    mk_Head := ⟨M2, F28, I28, N2⟩
    F_hold_fixed_places := fun_mk (st := s_hold_fixed_places) L29 C29 K29
    b_hold_fixed_places := (fun_mk (st := s_hold_fixed_places) L29 C29 K29).binds (ps := ["file"]) fun _ _ _ _ _ _ us hl => match us, hl with | [_], _ => rfl
    g_hold_fixed_places := PySem.W.mg_of X G G29
    F_read_head := fun_mk (st := s_read_head) L30 C30 K30
    b_read_head := (fun_mk (st := s_read_head) L30 C30 K30).binds (ps := ["file"]) fun _ _ _ _ _ _ us hl => match us, hl with | [_], _ => rfl
    g_read_head := PySem.W.mg_of X G G30
    F_read_lists := fun_mk (st := s_read_lists) L31 C31 K31
    b_read_lists := (fun_mk (st := s_read_lists) L31 C31 K31).binds (ps := ["file", "head", "places"]) fun _ _ _ _ _ _ us hl => match us, hl with | [_, _, _], _ => rfl
    g_read_lists := PySem.W.mg_of X G G31
    F_read_named := fun_mk (st := s_read_named) L32 C32 K32
    b_read_named := (fun_mk (st := s_read_named) L32 C32 K32).binds (ps := ["file", "head", "lists"]) fun _ _ _ _ _ _ us hl => match us, hl with | [_, _, _], _ => rfl
    g_read_named := PySem.W.mg_of X G G32
    F_hold_named := fun_mk (st := s_hold_named) L33 C33 K33
    b_hold_named := (fun_mk (st := s_hold_named) L33 C33 K33).binds (ps := ["named", "length"]) fun _ _ _ _ _ _ us hl => match us, hl with | [_, _], _ => rfl
    g_hold_named := PySem.W.mg_of X G G33
    F_hold_own_sectors := fun_mk (st := s_hold_own_sectors) L34 C34 K34
    b_hold_own_sectors := (fun_mk (st := s_hold_own_sectors) L34 C34 K34).binds (ps := ["table", "sectors", "lists"]) fun _ _ _ _ _ _ us hl => match us, hl with | [_, _, _], _ => rfl
    g_hold_own_sectors := PySem.W.mg_of X G G34
    F_read_table := fun_mk (st := s_read_table) L35 C35 K35
    b_read_table := (fun_mk (st := s_read_table) L35 C35 K35).binds (ps := ["file", "head", "places"]) fun _ _ _ _ _ _ us hl => match us, hl with | [_, _, _], _ => rfl
    g_read_table := PySem.W.mg_of X G G35
    F_walk_tree := fun_mk (st := s_walk_tree) L36 C36 K36
    b_walk_tree := (fun_mk (st := s_walk_tree) L36 C36 K36).binds (ps := ["entries", "places", "first"]) fun _ _ _ _ _ _ us hl => match us, hl with | [_, _, _], _ => rfl
    g_walk_tree := PySem.W.mg_of X G G36
    F_hold_order := fun_mk (st := s_hold_order) L37 C37 K37
    b_hold_order := (fun_mk (st := s_hold_order) L37 C37 K37).binds (ps := ["entries", "walked"]) fun _ _ _ _ _ _ us hl => match us, hl with | [_, _], _ => rfl
    g_hold_order := PySem.W.mg_of X G G37
    F_read_trees := fun_mk (st := s_read_trees) L38 C38 K38
    b_read_trees := (fun_mk (st := s_read_trees) L38 C38 K38).binds (ps := ["entries"]) fun _ _ _ _ _ _ us hl => match us, hl with | [_], _ => rfl
    g_read_trees := PySem.W.mg_of X G G38
    F_Store_init := fun_mk (st := s_Store_init) L39 C39 K39
    b_Store_init := (fun_mk (st := s_Store_init) L39 C39 K39).binds (ps := ["self", "entries", "children", "contents"]) fun _ _ _ _ _ _ us hl => match us, hl with | [_, _, _, _], _ => rfl
    mk_Store := ⟨M3, F39, I39, N3⟩
    F_Store_child_alike := fun_mk (st := s_Store_child_alike) L40 C40 K40
    b_Store_child_alike := (fun_mk (st := s_Store_child_alike) L40 C40 K40).binds (ps := ["self", "folder", "name"]) fun _ _ _ _ _ _ us hl => match us, hl with | [_, _, _], _ => rfl
    m_Store_child_alike := ⟨F40, I40, K40⟩
    F_Store_find := fun_mk (st := s_Store_find) L41 C41 K41
    b_Store_find := (fun_mk (st := s_Store_find) L41 C41 K41).binds (ps := ["self", "path"]) fun _ _ _ _ _ _ us hl => match us, hl with | [_, _], _ => rfl
    m_Store_find := ⟨F41, I41, K41⟩
    F_Store_something := fun_mk (st := s_Store_something) L42 C42 K42
    b_Store_something := (fun_mk (st := s_Store_something) L42 C42 K42).binds (ps := ["self", "number"]) fun _ _ _ _ _ _ us hl => match us, hl with | [_, _], _ => rfl
    m_Store_something := ⟨F42, I42, K42⟩
    F_Store_item := fun_mk (st := s_Store_item) L43 C43 K43
    b_Store_item := (fun_mk (st := s_Store_item) L43 C43 K43).binds (ps := ["self", "number"]) fun _ _ _ _ _ _ us hl => match us, hl with | [_, _], _ => rfl
    m_Store_item := ⟨F43, I43, K43⟩
    F_Store_child := fun_mk (st := s_Store_child) L44 C44 K44
    b_Store_child := (fun_mk (st := s_Store_child) L44 C44 K44).binds (ps := ["self", "number", "place"]) fun _ _ _ _ _ _ us hl => match us, hl with | [_, _, _], _ => rfl
    m_Store_child := ⟨F44, I44, K44⟩
    F_Store_read := fun_mk (st := s_Store_read) L45 C45 K45
    b_Store_read := (fun_mk (st := s_Store_read) L45 C45 K45).binds (ps := ["self", "number", "at", "most"]) fun _ _ _ _ _ _ us hl => match us, hl with | [_, _, _, _], _ => rfl
    m_Store_read := ⟨F45, I45, K45⟩
    F_read_store := fun_mk (st := s_read_store) L46 C46 K46
    b_read_store := (fun_mk (st := s_read_store) L46 C46 K46).binds (ps := ["file"]) fun _ _ _ _ _ _ us hl => match us, hl with | [_], _ => rfl
    g_read_store := PySem.W.mg_of X G G46
    F_Holder_init := fun_mk (st := s_Holder_init) L47 C47 K47
    b_Holder_init := (fun_mk (st := s_Holder_init) L47 C47 K47).binds (ps := ["self"]) fun _ _ _ _ _ _ us hl => match us, hl with | [_], _ => rfl
    mk_Holder := ⟨M4, F47, I47, N4⟩
    F_Holder_begin := fun_mk (st := s_Holder_begin) L48 C48 K48
    b_Holder_begin := (fun_mk (st := s_Holder_begin) L48 C48 K48).binds (ps := ["self"]) fun _ _ _ _ _ _ us hl => match us, hl with | [_], _ => rfl
    m_Holder_begin := ⟨F48, I48, K48⟩
    F_Holder_take_file := fun_mk (st := s_Holder_take_file) L49 C49 K49
    b_Holder_take_file := (fun_mk (st := s_Holder_take_file) L49 C49 K49).binds (ps := ["self", "file"]) fun _ _ _ _ _ _ us hl => match us, hl with | [_, _], _ => rfl
    m_Holder_take_file := ⟨F49, I49, K49⟩
    F_Holder_held := fun_mk (st := s_Holder_held) L50 C50 K50
    b_Holder_held := (fun_mk (st := s_Holder_held) L50 C50 K50).binds (ps := ["self"]) fun _ _ _ _ _ _ us hl => match us, hl with | [_], _ => rfl
    m_Holder_held := ⟨F50, I50, K50⟩
    F_end_of_call := fun_mk (st := s_end_of_call) L51 C51 K51
    b_end_of_call := (fun_mk (st := s_end_of_call) L51 C51 K51).binds (ps := ["calls", "at"]) fun _ _ _ _ _ _ us hl => match us, hl with | [_, _], _ => rfl
    g_end_of_call := PySem.W.mg_of X G G51
    F_answer_of_store := fun_mk (st := s_answer_of_store) L52 C52 K52
    b_answer_of_store := (fun_mk (st := s_answer_of_store) L52 C52 K52).binds (ps := ["store", "call"]) fun _ _ _ _ _ _ us hl => match us, hl with | [_, _], _ => rfl
    g_answer_of_store := PySem.W.mg_of X G G52
    F_answer_of := fun_mk (st := s_answer_of) L53 C53 K53
    b_answer_of := (fun_mk (st := s_answer_of) L53 C53 K53).binds (ps := ["holder", "call"]) fun _ _ _ _ _ _ us hl => match us, hl with | [_, _], _ => rfl
    g_answer_of := PySem.W.mg_of X G G53
    F_answer_or_refusal := fun_mk (st := s_answer_or_refusal) L54 C54 K54
    b_answer_or_refusal := (fun_mk (st := s_answer_or_refusal) L54 C54 K54).binds (ps := ["holder", "call"]) fun _ _ _ _ _ _ us hl => match us, hl with | [_, _], _ => rfl
    g_answer_or_refusal := PySem.W.mg_of X G G54
    F_answers := fun_mk (st := s_answers) L55 C55 K55
    b_answers := (fun_mk (st := s_answers) L55 C55 K55).binds (ps := ["calls"]) fun _ _ _ _ _ _ us hl => match us, hl with | [_], _ => rfl
    g_answers := PySem.W.mg_of X G G55
    cl_Places := ⟨V0, W0, Y0, Z0⟩
    g_Places := PySem.W.mg_of X G U0
    n_Places_taken := Q0_0
    cl_Entry := ⟨V1, W1, Y1, Z1⟩
    g_Entry := PySem.W.mg_of X G U1
    n_Entry_name := Q1_0
    n_Entry_key := Q1_1
    n_Entry_kind := Q1_2
    n_Entry_left := Q1_3
    n_Entry_right := Q1_4
    n_Entry_first_below := Q1_5
    n_Entry_begins_at := Q1_6
    n_Entry_size := Q1_7
    cl_Head := ⟨V2, W2, Y2, Z2⟩
    g_Head := PySem.W.mg_of X G U2
    n_Head_table_length := Q2_0
    n_Head_directory_at := Q2_1
    n_Head_small_table_at := Q2_2
    n_Head_small_table_length := Q2_3
    n_Head_first_list := Q2_4
    n_Head_list_count := Q2_5
    n_Head_named := Q2_6
    cl_Store := ⟨V3, W3, Y3, Z3⟩
    g_Store := PySem.W.mg_of X G U3
    n_Store_entries := Q3_0
    n_Store_children := Q3_1
    n_Store_contents := Q3_2
    cl_Holder := ⟨V4, W4, Y4, Z4⟩
    g_Holder := PySem.W.mg_of X G U4
    n_Holder_store := Q4_0
    e_NotAStore := E0
    g_NotAStore := PySem.W.mg_of X G X0
    e_NothingHeld := E1
    g_NothingHeld := PySem.W.mg_of X G X1
    e_NotThere := E2
    g_NotThere := PySem.W.mg_of X G X2
    q_NotAStore_NotAStore := H0_0
    q_NotAStore_NothingHeld := H0_1
    q_NotAStore_NotThere := H0_2
    q_NothingHeld_NotAStore := H1_0
    q_NothingHeld_NothingHeld := H1_1
    q_NothingHeld_NotThere := H1_2
    q_NotThere_NotAStore := H2_0
    q_NotThere_NothingHeld := H2_1
    q_NotThere_NotThere := H2_2
    k_SECTOR_SIZE := ⟨_, PySem.W.mg_of X G A0, _, rfl⟩
    k_FREE := ⟨_, PySem.W.mg_of X G A1, _, rfl⟩
    k_END := ⟨_, PySem.W.mg_of X G A2, _, rfl⟩
    k_TABLE := ⟨_, PySem.W.mg_of X G A3, _, rfl⟩
    k_LIST := ⟨_, PySem.W.mg_of X G A4, _, rfl⟩
    k_SLASH := ⟨_, PySem.W.mg_of X G A5, _, rfl⟩
    g_BANNED := PySem.W.mg_of X G A6
    s_BANNED := fun H => .inr ⟨_, _, _, B6, rfl, rfl, (by show 4 ≤ sizeLine; decide), .cons ⟨_, rfl⟩ (.cons ⟨_, rfl⟩ (.cons ⟨_, rfl⟩ (.cons ⟨_, rfl⟩ (.nil))))⟩
    k_MOST_CHARACTERS := ⟨_, PySem.W.mg_of X G A7, _, rfl⟩
    k_ENTRY_SIZE := ⟨_, PySem.W.mg_of X G A8, _, rfl⟩
    k_NOTHING := ⟨_, PySem.W.mg_of X G A9, _, rfl⟩
    k_FOLDER := ⟨_, PySem.W.mg_of X G A10, _, rfl⟩
    k_FILE := ⟨_, PySem.W.mg_of X G A11, _, rfl⟩
    k_ROOT := ⟨_, PySem.W.mg_of X G A12, _, rfl⟩
    k_SMALL_SIZE := ⟨_, PySem.W.mg_of X G A13, _, rfl⟩
    k_LEAST_LONG := ⟨_, PySem.W.mg_of X G A14, _, rfl⟩
    g_MARK := PySem.W.mg_of X G A15
    s_MARK := fun H => .inr ⟨_, _, _, B15, rfl, rfl, (by show 8 ≤ sizeLine; decide), .cons ⟨_, rfl⟩ (.cons ⟨_, rfl⟩ (.cons ⟨_, rfl⟩ (.cons ⟨_, rfl⟩ (.cons ⟨_, rfl⟩ (.cons ⟨_, rfl⟩ (.cons ⟨_, rfl⟩ (.cons ⟨_, rfl⟩ (.nil))))))))⟩
    k_MOST_PATH := ⟨_, PySem.W.mg_of X G A16, _, rfl⟩
    k_MOST_READ := ⟨_, PySem.W.mg_of X G A17, _, rfl⟩
    k_MOST_BYTES := ⟨_, PySem.W.mg_of X G A18, _, rfl⟩
    k_BEGIN_CALL := ⟨_, PySem.W.mg_of X G A19, _, rfl⟩
    k_OPEN_CALL := ⟨_, PySem.W.mg_of X G A20, _, rfl⟩
    k_FIND_CALL := ⟨_, PySem.W.mg_of X G A21, _, rfl⟩
    k_ITEM_CALL := ⟨_, PySem.W.mg_of X G A22, _, rfl⟩
    k_CHILD_CALL := ⟨_, PySem.W.mg_of X G A23, _, rfl⟩
    g_PLAIN_NUMBERS := PySem.W.mg_of X G A24
    s_PLAIN_NUMBERS := fun H => .inr ⟨_, _, _, B24, rfl, rfl, (by show 6 ≤ sizeLine; decide), .cons ⟨_, rfl⟩ (.cons ⟨_, rfl⟩ (.cons ⟨_, rfl⟩ (.cons ⟨_, rfl⟩ (.cons ⟨_, rfl⟩ (.cons ⟨_, rfl⟩ (.nil))))))⟩
    z_len := PySem.W.ns_none_of X G R0
    z_range := PySem.W.ns_none_of X G R1
    z_enumerate := PySem.W.ns_none_of X G R2
    z_zip := PySem.W.ns_none_of X G R3
    z_list := PySem.W.ns_none_of X G R4
    z_tuple := PySem.W.ns_none_of X G R5
    z_any := PySem.W.ns_none_of X G R6
    z_all := PySem.W.ns_none_of X G R7
  }
theorem same {K : PySem.W.Frag} {h : Heap} {mg : Str → Option Value} {fa a : Addr} (X : K.In h) (G : h.Ns mainGlobals mg) (hmg : mg "answers" = some (.ref fa)) (x : ∃ t : Adr, t.a_answers = a ∧ Txt K mg t) (e : PySem.W.nsIn K mainGlobals "answers" = some (some (.ref a))) : ∃ t : Adr, t.a_answers = fa ∧ Txt K mg t := by
  obtain ⟨t, rfl, T⟩ := x
  have z := hmg.symm.trans (PySem.W.mg_of X G e)
  cases z
  exact ⟨t, rfl, T⟩
end FT
namespace FT
open PySem L2 FV
section
variable {P : Program} {w : World} {K : PySem.W.Frag} {mg : Str → Option Value} {base : Heap} {t : Adr}
def nV (ns : List Nat) : List V := ns.map fun (n : Nat) => V.int (n : Int)
theorem nV_length (ns : List Nat) : (nV ns).length = ns.length := by simp [nV]
theorem nV_append (a b : List Nat) : nV (a ++ b) = nV a ++ nV b := by simp [nV]
theorem nV_nil : nV [] = [] := rfl
theorem nV_ints (ns : List Nat) : nV ns = (natZ ns).map V.int := by simp [nV, natZ]
theorem nV_get? (ns : List Nat) (i : Nat) : (nV ns)[i]? = (ns[i]?).map fun (n : Nat) => V.int (n : Int) := by simp [nV]
theorem nV_get {ns : List Nat} {i : Nat} (h : i < ns.length) : (nV ns)[i]? = some (.int (g ns i : Nat)) := by
  unfold nV g
  rw [List.getElem?_map, List.getElem?_eq_getElem h, List.getD_eq_getElem?_getD, List.getElem?_eq_getElem h]
  rfl
theorem nV_at {ns : List Nat} {i : Nat} {z : Int} (e : z = (i : Int)) (h : i < ns.length) : atI (nV ns) z = some (.int (g ns i : Nat)) := at_of e (nV_get h)
theorem nV_some {ns : List Nat} {i : Nat} {x : V} (h : (nV ns)[i]? = some x) : ∃ n, ns[i]? = some n ∧ x = .int (n : Nat) := by
  rw [nV_get?] at h
  obtain ⟨n, h1, h2⟩ := Option.map_eq_some_iff.mp h
  exact ⟨n, h1, h2.symm⟩
def Kp (ls : List Addr) (H H' : Hp) : Prop := ∀ b o, H b = some o → b ∉ ls → H' b = some o
theorem Kp.refl (ls : List Addr) (H : Hp) : Kp ls H H := fun _ _ e _ => e
theorem Kp.trans {ls : List Addr} {H H1 H2 : Hp} (a : Kp ls H H1) (b : Kp ls H1 H2) : Kp ls H H2 := fun c o e n => b c o (a c o e n) n
theorem Kp.mono {ls ms : List Addr} {H H' : Hp} (a : Kp ls H H') (h : ∀ b ∈ ls, b ∈ ms) : Kp ms H H' := fun c o e n => a c o e fun z => n (h c z)
theorem Kp.new {ls : List Addr} {H : Hp} {p : Addr} {o : HO} (h : H p = none) : Kp ls H (upd H p o) := fun b u e _ => by rw [upd_ne (ne_of_none e h)]; exact e
theorem Kp.old {ls : List Addr} {H : Hp} {p : Addr} {o : HO} (h : p ∈ ls) : Kp ls H (upd H p o) := fun b u e n => by rw [upd_ne (fun z => n (by rw [z]; exact h))]; exact e
theorem Kp.same {H H' : Hp} (s : Same H H') (ls : List Addr) : Kp ls H H' := fun b o e _ => s b o e
theorem Kp.free {ls : List Addr} {H H' : Hp} (a : Kp ls H H') {p : Addr} (h : H' p = none) (hn : p ∉ ls) : H p = none := by
  cases q : H p with
  | none => rfl
  | some o => rw [a p o q hn] at h; cases h
theorem Kp.at {ls : List Addr} {H H' : Hp} (a : Kp ls H H') {p : Addr} {o : HO} (e : H p = some o) (n : p ∉ ls) : H' p = some o := a p o e n
theorem Kp.nil {H H' : Hp} (a : Kp [] H H') {p : Addr} {o : HO} (e : H p = some o) : H' p = some o := a p o e (by simp)
theorem Kp.nfree {H H' : Hp} (a : Kp [] H H') {p : Addr} (h : H' p = none) : H p = none := a.free h (by simp)
theorem Kp.sq {H H' : Hp} (a : Kp [] H H') {p : Addr} {xs : List V} (e : SqL K H p xs) : SqL K H' p xs := Same.seq (fun b o q => a b o q (by simp)) e
theorem Kp.sqL {ls : List Addr} {H H' : Hp} (a : Kp ls H H') {p : Addr} {xs : List V} (e : SqL K H p xs) (n : p ∉ ls) : SqL K H' p xs := by
  rcases e with (h | ⟨o, h⟩) | h
  · exact .inl (.inl (a _ _ h n))
  · exact .inl (.inr ⟨o, a _ _ h n⟩)
  · exact .inr h
def nw (H H' : Hp) : Hp := fun b => if (H b).isSome = true then none else H' b
theorem nw_at {H H' : Hp} {b : Addr} {o : HO} (h : H b = none) (e : H' b = some o) : nw H H' b = some o := by
  unfold nw; rw [h]; exact e
theorem nw_some {H H' : Hp} {b : Addr} {o : HO} (e : nw H H' b = some o) : H b = none ∧ H' b = some o := by
  unfold nw at e
  cases q : H b with
  | none => rw [q] at e; exact ⟨rfl, e⟩
  | some u => rw [q] at e; cases e
theorem nw_le {H H' : Hp} : Kp [] (nw H H') H' := fun b o e _ => (nw_some e).2
theorem nw_mono {ls : List Addr} {H A B : Hp} (k : Kp ls A B) : Kp ls (nw H A) (nw H B) := fun b o e n => nw_at (nw_some e).1 (k b o (nw_some e).2 n)
theorem nw_kp {ls : List Addr} {H H2 H3 H4 : Hp} (a : Kp [] H H2) (k : Kp ls H3 H4) (n : ∀ l ∈ ls, H2 l ≠ none) : Kp [] (nw H2 H3) (nw H H4) := fun b o e _ =>
  nw_at (a.nfree (nw_some e).1) (k b o (nw_some e).2 fun z => n b z (nw_some e).1)
theorem cut_nat (xs : List V) (i j : Nat) : cutV xs (some (i : Int)) (some (j : Int)) = (xs.drop i).take (j - i) := by
  unfold cutV
  rw [HT.sIx_nat, HT.sIx_nat]
  by_cases h : i ≤ xs.length
  · have e1 : min i xs.length = i := by omega
    rw [e1]
    by_cases h2 : j ≤ xs.length
    · have e2 : min j xs.length = j := by omega
      rw [e2]
    · have e2 : min j xs.length = xs.length := by omega
      rw [e2, List.take_of_length_le (by rw [List.length_drop]; omega), List.take_of_length_le (by rw [List.length_drop]; omega)]
  · have e1 : min i xs.length = xs.length := by omega
    rw [e1, List.drop_of_length_le (by omega), List.drop_of_length_le (by omega)]
    simp
theorem cut_from (xs : List V) (i : Nat) : cutV xs (some (i : Int)) none = xs.drop i := by
  unfold cutV
  rw [HT.sIx_nat, HT.sIx_none]
  by_cases h : i ≤ xs.length
  · have e1 : min i xs.length = i := by omega
    rw [e1, List.take_of_length_le (by rw [List.length_drop]; omega)]
  · have e1 : min i xs.length = xs.length := by omega
    rw [e1, List.drop_of_length_le (by omega), List.drop_of_length_le (by omega)]
    simp
theorem cut_to (xs : List V) (j : Nat) : cutV xs none (some (j : Int)) = xs.take j := by
  unfold cutV
  rw [HT.sIx_none, HT.sIx_nat]
  by_cases h2 : j ≤ xs.length
  · have e2 : min j xs.length = j := by omega
    rw [e2]; rfl
  · have e2 : min j xs.length = xs.length := by omega
    rw [e2]
    simp
    rw [List.take_of_length_le (by omega)]
theorem nV_drop (r : List Nat) (i : Nat) : (nV r).drop i = nV (r.drop i) := by simp [nV, List.map_drop]
theorem nV_take (r : List Nat) (i : Nat) : (nV r).take i = nV (r.take i) := by simp [nV, List.map_take]
def spHold (t : Adr) : Sp := fun vs H Q E => ∃ (b : Bool) (x : Str), vs = [.bl b, .str x] ∧ (b = true → Q .non H) ∧ (b = false → E (.ref t.x_NotAStore) none H)
theorem ok_hold (T : Txt K mg t) : FnOk P w K mg base (CXE P w) 1 t.a_hold t.d_hold ["is_so", "what"] (spHold t) := by
  refine T.F_hold.okX sc_hold (fun vs H Q E h => ?_) (fun cdv A outer s H vs Q E hr h => ?_)
  · obtain ⟨b, x, rfl, _⟩ := h
    rfl
  · obtain ⟨b, x, rfl, h1, h2⟩ := h
    refine ⟨_, pss_one (ps_if (pt_not (pt_val (pv 0))) (pss_one (ps_raise T.e_NotAStore rfl T.g_NotAStore (pv 1))) pss_nil), ?_⟩
    refine ⟨_, rfl, b, rfl, ?_⟩
    cases b with
    | true => exact iteF (h1 rfl)
    | false => exact iteT ⟨_, rfl, by show 1 ≤ sizeLine; decide, h2 rfl⟩
def spTwo (K : PySem.W.Frag) : Sp := fun vs H Q _ => ∃ (a : Addr) (r : List Nat) (i : Nat), vs = [.ref a, .int (i : Int)] ∧ SqL K H a (nV r) ∧ i + 1 < r.length ∧ Q (.int (n2 r i : Nat)) H
theorem ok_two_bytes (T : Txt K mg t) : FnOk P w K mg base CX0 1 t.a_two_bytes t.d_two_bytes ["row", "at"] (spTwo K) := by
  refine T.F_two_bytes.ok sc_two_bytes (fun vs H Q E h => ?_) (fun cdv A outer s H vs Q E hr h => ?_)
  · obtain ⟨a, r, i, rfl, _⟩ := h
    rfl
  · obtain ⟨a, r, i, rfl, hS, hi, k⟩ := h
    refine ⟨_, pss_one (ps_ret (pe_op op_add (pe_ix ix_list (pv 0) (pv 1) (fun _ _ => rfl)) (pe_op op_mul (pe_ix ix_list (pv 0) (pe_op op_add (pv 1) pe_int) (fun _ _ => rfl)) pe_int))), ?_⟩
    refine ⟨_, rfl, _, rfl, a, _, _, _, rfl, rfl, hS, nV_at rfl (by omega), _, rfl, _, rfl, _, _, rfl, rfl, a, _, _, _, rfl, rfl, hS, nV_at (i := i + 1) (by simp) hi, _, _, rfl, rfl, .inr ⟨by decide, by decide⟩, _, _, rfl, rfl, ?_⟩
    have e : ((g r i : Nat) : Int) + ((g r (i + 1) : Nat) : Int) * 256 = ((n2 r i : Nat) : Int) := by
      unfold n2; omega
    show Q (.int (((g r i : Nat) : Int) + ((g r (i + 1) : Nat) : Int) * 256)) H
    rw [e]; exact k
def spFour (K : PySem.W.Frag) : Sp := fun vs H Q _ => ∃ (a : Addr) (r : List Nat) (i : Nat), vs = [.ref a, .int (i : Int)] ∧ SqL K H a (nV r) ∧ i + 3 < r.length ∧ Q (.int (n4 r i : Nat)) H
theorem ok_four_bytes (T : Txt K mg t) : FnOk P w K mg base CX0 2 t.a_four_bytes t.d_four_bytes ["row", "at"] (spFour K) := by
  refine T.F_four_bytes.ok sc_four_bytes (fun vs H Q E h => ?_) (fun cdv A outer s H vs Q E hr h => ?_)
  · obtain ⟨a, r, i, rfl, _⟩ := h
    rfl
  · obtain ⟨a, r, i, rfl, hS, hi, k⟩ := h
    refine ⟨_, pss_one (ps_ret (pe_op op_add (pe_call (ok_two_bytes T) hr rfl T.g_two_bytes T.F_two_bytes.kp T.b_two_bytes .nil pass0 (pa_cons (pv 0) (pa_cons (pv 1) pa_nil)))
      (pe_op op_mul (pe_call (ok_two_bytes T) hr rfl T.g_two_bytes T.F_two_bytes.kp T.b_two_bytes .nil pass0 (pa_cons (pv 0) (pa_cons (pe_op op_add (pv 1) pe_int) pa_nil))) pe_int))), ?_⟩
    refine ⟨_, rfl, _, rfl, a, r, i, rfl, hS, by omega, _, rfl, _, rfl, _, _, rfl, rfl, a, r, i + 2, by simp, hS, by omega, _, _, rfl, rfl, .inr ⟨by decide, by decide⟩, _, _, rfl, rfl, ?_⟩
    have e : ((n2 r i : Nat) : Int) + ((n2 r (i + 2) : Nat) : Int) * 65536 = ((n4 r i : Nat) : Int) := by
      unfold n4; omega
    show Q (.int (((n2 r i : Nat) : Int) + ((n2 r (i + 2) : Nat) : Int) * 65536)) H
    rw [e]; exact k
def spUnits : Sp := fun vs H Q _ => ∃ (n u : Nat), vs = [.int (n : Int), .int (u : Int)] ∧ 0 < u ∧ u < 1073741824 ∧ Q (.int (Rc22.ceil n u : Nat)) H
theorem ok_units_needed (T : Txt K mg t) : FnOk P w K mg base CX0 1 t.a_units_needed t.d_units_needed ["size", "unit"] spUnits := by
  refine T.F_units_needed.ok sc_units_needed (fun vs H Q E h => ?_) (fun cdv A outer s H vs Q E hr h => ?_)
  · obtain ⟨n, u, rfl, _⟩ := h
    rfl
  · obtain ⟨n, u, rfl, h1, h2, k⟩ := h
    refine ⟨_, pss_one (ps_ret (pe_op op_fdiv (pe_op op_sub (pe_op op_add (pv 0) (pv 1)) pe_int) (pv 1))), ?_⟩
    refine ⟨_, rfl, _, rfl, _, _, rfl, rfl, _, _, rfl, rfl, _, rfl, _, _, rfl, rfl, ⟨by omega, by omega⟩, ?_⟩
    have e : ((n : Int) + (u : Int) - 1) / (u : Int) = ((Rc22.ceil n u : Nat) : Int) := by
      unfold Rc22.ceil
      rw [show (n : Int) + (u : Int) - 1 = ((n + u - 1 : Nat) : Int) by omega]
      rfl
    show Q (.int (((n : Int) + (u : Int) - 1) / (u : Int))) H
    rw [e]; exact k
def spSector (K : PySem.W.Frag) : Sp := fun vs H Q _ => ∃ (a : Addr) (r : List Nat) (n : Nat), vs = [.ref a, .int (n : Int)] ∧ SqL K H a (nV r) ∧ ∀ p, H p = none → Q (.ref p) (upd H p (.lst (nV ((r.drop (512 * (n + 1))).take 512))))
theorem ok_sector_of (T : Txt K mg t) : FnOk P w K mg base CX0 1 t.a_sector_of t.d_sector_of ["file", "number"] (spSector K) := by
  refine T.F_sector_of.ok sc_sector_of (fun vs H Q E h => ?_) (fun cdv A outer s H vs Q E hr h => ?_)
  · obtain ⟨a, r, n, rfl, _⟩ := h
    rfl
  · obtain ⟨a, r, n, rfl, hS, k⟩ := h
    obtain ⟨u, hu, ru⟩ := T.k_SECTOR_SIZE
    refine ⟨_, pss_cons (ps_set (i := 2) sc_sector_of.nd rfl (Or.inl rfl) (pe_op op_mul (pe_op op_add (pv 1) pe_int) (pe_glob rfl hu ru)))
      (pss_one (ps_ret (pe_slice sl_list (pv 0) (po_some (pv 2)) (po_some (pe_op op_add (pv 2) (pe_glob rfl hu ru)))))), ?_⟩
    refine ⟨_, rfl, _, _, rfl, rfl, _, _, rfl, rfl, .inr ⟨by decide, by decide⟩, _, rfl, _, rfl, _, rfl, _, rfl, _, _, rfl, rfl, _, rfl, a, _, rfl, hS, fun p hp => ?_⟩
    have e1 : ((n : Int) + 1) * 512 = ((512 * (n + 1) : Nat) : Int) := by omega
    have e2 : ((n : Int) + 1) * 512 + 512 = ((512 * (n + 1) + 512 : Nat) : Int) := by omega
    show Q (.ref p) (upd H p (.lst (cutV (nV r) (some (((n : Int) + 1) * 512)) (some (((n : Int) + 1) * 512 + 512)))))
    rw [e2, e1, cut_nat, nV_drop, nV_take]
    have e3 : 512 * (n + 1) + 512 - 512 * (n + 1) = 512 := by omega
    rw [e3]
    exact k p hp
end
end FT
namespace FT
open PySem L2 FV
section
variable {P : Program} {w : World} {K : PySem.W.Frag} {mg : Str → Option Value} {base : Heap} {t : Adr}
theorem lc_rangeC {lo c : Int} {n : Nat} {g : TG} {tt : TT} {te : TE} {vs : List Nat} {σ : St} {H1 : Hp} {D : Addr} {Qd : Hp → Prop} (Pv : Nat → Hp → Prop) (h0 : Pv 0 (upd H1 D (.lst [])))
    (hs : ∀ i H, i < n → Pv i H → g (.int (lo + (i : Nat) * c)) (wipe σ vs) H fun σ2 H2 => wipe σ2 vs = wipe σ vs ∧ tt σ2 H2 fun b H3 =>
      if b = true then te σ2 H3 fun y H4 => ∃ acc, H4 D = some (.lst acc) ∧ acc.length < sizeLine ∧ Pv (i + 1) (upd H4 D (.lst (acc ++ [y]))) else Pv (i + 1) H3) (hd : ∀ H, Pv n H → Qd H) :
    ∃ W : Nat → Nat → Hp → Prop, (∃ m, W 0 m (upd H1 D (.lst []))) ∧ ∀ i m H, W i m H →
      ((Itc lo c n).stop i H ∧ Qd H) ∨ ((Itc lo c n).go i H ∧ ∃ Nx : Hp → Prop, (∀ H', Nx H' → ∃ m', m' < m ∧ W (i + 1) m' H') ∧ ∀ x H', (Itc lo c n).yld i H x H' → g x (wipe σ vs) H' fun σ2 H2 => wipe σ2 vs = wipe σ vs ∧ tt σ2 H2 fun b H3 =>
        if b = true then te σ2 H3 fun y H4 => ∃ acc, H4 D = some (.lst acc) ∧ acc.length < sizeLine ∧ Nx (upd H4 D (.lst (acc ++ [y]))) else Nx H3) := by
  refine ⟨fun i m H => m = n - i ∧ i ≤ n ∧ Pv i H, ⟨n, by simp, Nat.zero_le _, h0⟩, ?_⟩
  rintro i m H ⟨rfl, hi, p⟩
  by_cases hlt : i < n
  · refine .inr ⟨hlt, Pv (i + 1), fun H' p' => ⟨n - (i + 1), by omega, rfl, hlt, p'⟩, fun x H' y => ?_⟩
    obtain ⟨e, y⟩ := y
    subst e y
    exact hs i _ hlt p
  · have e : i = n := by omega
    subst e
    exact .inl ⟨Nat.le_refl _, hd H p⟩
theorem lcYes {te : TE} {σ : St} {H : Hp} {Q : VK} {B : Hp → Prop} (h : te σ H Q) : tYes σ H fun b H3 => if b = true then te σ H3 Q else B H3 := by
  show if true = true then te σ H Q else B H
  rw [if_pos rfl]; exact h
def spNumbers (K : PySem.W.Frag) : Sp := fun vs H Q _ => ∃ (a : Addr) (r : List Nat), vs = [.ref a] ∧ SqL K H a (nV r) ∧ r.length % 4 = 0 ∧ r.length ≤ 65536 ∧ ∀ p, H p = none → Q (.ref p) (upd H p (.lst (nV (nums r))))
theorem rgUp {n k : Nat} (c : Nat) (hc : 0 < c) (hc2 : c ≤ 65536) (h : n ≤ 65536) (e : k = (n + c - 1) / c) : RgC 0 (n : Int) (c : Int) k := by
  have hs : Builtin.Range.rangeSize 0 (n : Int) (c : Int) = (k : Int) := by
    unfold Builtin.Range.rangeSize
    rw [if_pos (by omega)]
    by_cases hn : 0 < n
    · rw [if_pos (by omega)]
      have e1 : (n : Int) - 0 - 1 = ((n - 1 : Nat) : Int) := by omega
      rw [e1, e]
      have e2 : (n + c - 1) / c = (n - 1) / c + 1 := by
        rw [show n + c - 1 = (n - 1) + c by omega, Nat.add_div_right _ hc]
      rw [e2]
      push_cast
      rfl
    · rw [if_neg (by omega), e]
      have : n = 0 := by omega
      subst this
      rw [Nat.div_eq_of_lt (by omega)]
      rfl
  refine ⟨by omega, by omega, ?_, hs⟩
  unfold Builtin.Range.small
  have hk : k ≤ 65536 := by
    rw [e]
    have : (n + c - 1) / c ≤ n := by
      cases n with
      | zero => rw [Nat.div_eq_of_lt (by omega)]; omega
      | succ n =>
        refine Nat.div_le_of_le_mul ?_
        have : n + 1 + c - 1 = n + c := by omega
        rw [this]
        have h1 : n ≤ c * n := Nat.le_mul_of_pos_left n hc
        rw [Nat.mul_add]; omega
    omega
  have fit : ∀ x : Int, 0 ≤ x → x ≤ 200000 → Builtin.Range.rangeFitsLong x = true := fun x h1 h2 => by
    unfold Builtin.Range.rangeFitsLong
    simp
    omega
  rw [hs, fit 0 (by omega) (by omega), fit n (by omega) (by omega), fit c (by omega) (by omega), fit k (by omega) (by omega), if_pos (by omega), fit _ (by omega) (by omega)]
  simp
theorem ok_numbers_of (T : Txt K mg t) : FnOk P w K mg base CX0 3 t.a_numbers_of t.d_numbers_of ["row"] (spNumbers K) := by
  refine T.F_numbers_of.ok sc_numbers_of (fun vs H Q E h => ?_) (fun cdv A outer s H vs Q E hr h => ?_)
  · obtain ⟨a, r, rfl, _⟩ := h
    rfl
  · obtain ⟨a, r, rfl, hS, h4, hz, k⟩ := h
    refine ⟨_, pss_one (ps_ret (pe_lc rfl sc_numbers_of.nd (pi_range3 rfl T.z_range (pa_cons pe_int (pa_cons (pe_callB call_len_seq (by rfl) T.z_len PySem.boot_len (pa_cons (pv 0) pa_nil)) (pa_cons pe_int pa_nil))))
      (blkOk_by (own := [("at", 1)]) (by kernel_rfl)) (fun _ _ _ _ _ => pg_name (i := 1) sc_numbers_of.nd rfl (Or.inl rfl)) (fun _ _ _ _ _ => pts_nil)
      (fun _ _ _ _ _ => pe_call (ok_four_bytes T) hr rfl T.g_four_bytes T.F_four_bytes.kp T.b_four_bytes .nil pass0 (pa_cons (pv 0) (pa_cons (pv 1) pa_nil))))), ?_⟩
    refine ⟨_, rfl, a, _, rfl, .inl hS, 0, _, 4, r.length / 4, rfl, by rw [nV_length]; exact rgUp 4 (by decide) (by decide) hz (by omega), fun D hD => ?_⟩
    refine lc_rangeC (fun i H' => H' = upd H D (.lst (nV ((nums r).take i)))) rfl (fun i H' hi e => ?_) (fun H' e => ?_)
    · subst e
      have hS' : SqL K (upd H D (.lst (nV ((nums r).take i)))) a (nV r) := (Kp.new hD).sq hS
      have hi' : i < (nums r).length := by rw [nums_length]; exact hi
      refine ⟨rfl, lcYes ⟨_, rfl, _, rfl, a, r, 4 * i, ?_, hS', by omega, _, upd_same, ?_, ?_⟩⟩
      · show [V.ref a, V.int (0 + (i : Int) * 4)] = [V.ref a, V.int ((4 * i : Nat) : Int)]
        rw [show 0 + (i : Int) * 4 = ((4 * i : Nat) : Int) by omega]
      · rw [nV_length, List.length_take, nums_length]
        have : sizeLine = 16777216 := sizeLine_eq
        omega
      · rw [upd_upd]
        congr 2
        rw [← nV_take, ← nV_take]
        rw [List.take_add_one, nV_get hi']
        congr 2
        have := nums_get hi
        unfold g
        rw [List.getD_eq_getElem?_getD, this]; rfl
    · subst e
      rw [List.take_of_length_le (by rw [nums_length]; exact Nat.le_refl _)]
      exact k D hD
end
end FT
namespace FT
open PySem L2 FV
section
variable {P : Program} {w : World} {K : PySem.W.Frag} {mg : Str → Option Value} {base : Heap} {t : Adr}
abbrev sec (r : List Nat) (n : Nat) : List Nat := (r.drop (512 * (n + 1))).take 512
theorem sec_len (r : List Nat) (n : Nat) : (sec r n).length ≤ 512 := by unfold sec; rw [List.length_take]; omega
theorem flat_len (r : List Nat) : ∀ ch : List Nat, (ch.flatMap (sec r)).length ≤ 512 * ch.length
  | [] => by simp
  | x :: ch => by
    have := flat_len r ch
    have := sec_len r x
    rw [List.flatMap_cons, List.length_append, List.length_cons]; omega
theorem flat_take {ch : List Nat} {i n : Nat} {f : Nat → List Nat} (h : ch[i]? = some n) : (ch.take (i + 1)).flatMap f = (ch.take i).flatMap f ++ f n := by
  rw [List.take_add_one, h]
  simp
def spContent (K : PySem.W.Frag) : Sp := fun vs H Q _ => ∃ (a c : Addr) (r ch : List Nat), vs = [.ref a, .ref c] ∧ SqL K H a (nV r) ∧ SqL K H c (nV ch) ∧ ch.length ≤ 1000 ∧
  ∀ p H', H p = none → Kp [] H H' → H' p = some (.lst (nV (ch.flatMap (sec r)))) → Q (.ref p) H'
theorem ok_content_of (T : Txt K mg t) : FnOk P w K mg base CX0 2 t.a_content_of t.d_content_of ["file", "chain"] (spContent K) := by
  refine T.F_content_of.ok sc_content_of (fun vs H Q E h => ?_) (fun cdv A outer s H vs Q E hr h => ?_)
  · obtain ⟨a, c, r, ch, rfl, _⟩ := h
    rfl
  · obtain ⟨a, c, r, ch, rfl, hA, hC, hz, k⟩ := h
    refine ⟨_, pss_cons (ps_set (i := 2) sc_content_of.nd rfl (Or.inl rfl) (pe_lst pa_nil))
      (pss_cons (ps_for PassesOwn.never rfl (pi_list (pv 1)) (pg_name (i := 3) sc_content_of.nd rfl (Or.inl rfl))
        (pss_one (ps_expr (pe_bm PySem.F.plainAttrs_list PySem.F.slot_list_extend PySem.F.type_list_extend mt_extend (pv 2)
          (pa_cons (pe_call (ok_sector_of T) hr rfl T.g_sector_of T.F_sector_of.kp T.b_sector_of .nil pass0 (pa_cons (pv 0) (pa_cons (pv 3) pa_nil))) pa_nil)))))
      (pss_one (ps_ret (pv 2)))), ?_⟩
    refine ⟨(by show 0 ≤ sizeLine; decide), fun p hp => ?_⟩
    have k0 : Kp [] H (upd H p (.lst [])) := Kp.new hp
    refine ⟨_, rfl, c, rfl, ⟨_, k0.sq hC⟩, for_list (K := K) (a := c) (xs := nV ch) (fun i σ H2 => ∃ v : Option V, σ = [some (.ref a), some (.ref c), some (.ref p), v] ∧ Kp [] H H2 ∧ H2 p = some (.lst (nV ((ch.take i).flatMap (sec r)))))
      ⟨none, rfl, k0, by simpa [nV] using upd_same⟩ (fun i σ H2 _ ⟨_, _, k2, _⟩ => k2.sq hC) ?_ ?_⟩
    · rintro i y σ H2 hi ⟨v, rfl, k2, hp2⟩
      obtain ⟨n, hn, rfl⟩ := nV_some hi
      have hil : i < ch.length := (List.getElem?_eq_some_iff.mp hn).1
      refine ⟨_, rfl, .inl ⟨rfl, _, SqL.of hp2⟩, _, rfl, _, rfl, a, r, n, rfl, k2.sq hA, fun q hq => ?_⟩
      have npq : p ≠ q := ne_of_none hp2 hq
      refine ⟨p, q, _, _, rfl, rfl, by rw [upd_ne npq]; exact hp2, upd_same, ?_, ?_⟩
      · rw [nV_length, nV_length]
        have h1 := flat_len r (ch.take i)
        have h2 := sec_len r n
        rw [List.length_take] at h1
        have : sizeLine = 16777216 := sizeLine_eq
        unfold sec at h2
        omega
      · refine ⟨_, rfl, fun b o e _ => ?_, ?_⟩
        · have hb : b ≠ p := ne_of_none e hp
          have hb2 : b ≠ q := ne_of_none (k2.nil e) hq
          rw [upd_ne hb, upd_ne hb2]
          exact k2.nil e
        · rw [upd_same, ← nV_append, flat_take hn]
    · rintro σ H2 ⟨v, rfl, k2, hp2⟩
      rw [nV_length, List.take_length] at hp2
      exact ⟨_, rfl, k p H2 hp k2 hp2⟩
def spAllFree (K : PySem.W.Frag) : Sp := fun vs H Q _ => ∃ (a : Addr) (xs : List Nat), vs = [.ref a] ∧ SqL K H a (nV xs) ∧ xs.length ≤ 1000000 ∧ ∀ H', Kp [] H H' → Q (.bl (xs.all fun x => x == Rc22.FREE)) H'
theorem int_dec (a b : Nat) : decide (V.int (a : Int) = V.int (b : Int)) = (a == b) := by
  by_cases h : a = b
  · subst h; simp
  · have h1 : ¬ (V.int (a : Int) = V.int (b : Int)) := fun z => h (by injection z with z; omega)
    have h2 : (a == b) = false := by simpa using h
    rw [decide_eq_false h1, h2]
theorem ok_all_free (T : Txt K mg t) : FnOk P w K mg base CX0 1 t.a_all_free t.d_all_free ["numbers"] (spAllFree K) := by
  refine T.F_all_free.ok sc_all_free (fun vs H Q E h => ?_) (fun cdv A outer s H vs Q E hr h => ?_)
  · obtain ⟨a, xs, rfl, _⟩ := h
    rfl
  · obtain ⟨a, xs, rfl, hA, hz, k⟩ := h
    obtain ⟨u, hu, ru⟩ := T.k_FREE
    refine ⟨_, pss_one (ps_ret (pe_callB (cr_all rfl) (by rfl) T.z_all PyProof.Rows.boot_all (pa_cons (pe_lc rfl sc_all_free.nd (pi_list (pv 0)) (blkOk_by (own := [("number", 1)]) (by kernel_rfl))
      (fun _ _ _ _ _ => pg_name (i := 1) sc_all_free.nd rfl (Or.inl rfl)) (fun _ _ _ _ _ => pts_nil) (fun _ _ _ _ _ => pe_cmpR op_eq (pv 1) (pe_glob rfl hu ru) (nomark _))) pa_nil))), ?_⟩
    refine ⟨_, rfl, a, rfl, ⟨_, hA⟩, fun D hD => ?_⟩
    refine lc_list (K := K) (a := a) (xs := nV xs) (fun i H' => H' = upd H D (.lst (((xs.take i).map fun x => x == Rc22.FREE).map V.bl))) rfl (fun i H' _ e => by rw [e]; exact (Kp.new hD).sq hA) (fun i x H' hx e => ?_) (fun H' e => ?_)
    · subst e
      obtain ⟨n, hn, rfl⟩ := nV_some hx
      refine ⟨rfl, lcYes ⟨_, rfl, rfl, _, upd_same, ?_, ?_⟩⟩
      · have hi := (List.getElem?_eq_some_iff.mp hn).1
        rw [List.length_map, List.length_map, List.length_take]
        have : sizeLine = 16777216 := sizeLine_eq
        omega
      · rw [upd_upd]
        congr 2
        rw [List.take_add_one, hn, List.map_append, List.map_append]
        congr 1
        show [V.bl (decide (V.int (n : Int) = V.int ((4294967295 : Nat) : Int)))] = _
        rw [int_dec]
        rfl
    · subst e
      refine ⟨D, (xs.map fun x => x == Rc22.FREE), rfl, ?_, ?_⟩
      · rw [nV_length, List.take_length]
        exact SqL.of upd_same
      · have e2 : (xs.map fun x => x == Rc22.FREE).all id = xs.all fun x => x == Rc22.FREE := by rw [List.all_map]; rfl
        rw [e2]
        exact k _ (Kp.new hD)
def spGreat : Sp := fun vs H Q _ => ∃ (c : Nat), vs = [.int (c : Int)] ∧ Q (.int (gr c : Nat)) H
theorem ok_great_letter (T : Txt K mg t) : FnOk P w K mg base CX0 1 t.a_great_letter t.d_great_letter ["character"] spGreat := by
  refine T.F_great_letter.ok sc_great_letter (fun vs H Q E h => ?_) (fun cdv A outer s H vs Q E hr h => ?_)
  · obtain ⟨c, rfl, _⟩ := h
    rfl
  · obtain ⟨c, rfl, k⟩ := h
    refine ⟨_, pss_one (ps_ret (pe_ifExp (pt_chain op_le op_le pe_int (pv 0) pe_int) (pe_op op_sub (pv 0) pe_int) (pv 0))), ?_⟩
    refine ⟨_, rfl, _, _, rfl, rfl, _, rfl, ?_⟩
    by_cases h1 : 97 ≤ c
    · have e1 : decide ((97 : Int) ≤ (c : Int)) = true := decide_eq_true (by omega)
      rw [if_pos e1]
      refine ⟨_, _, rfl, rfl, _, rfl, ?_⟩
      by_cases h2 : c ≤ 122
      · have e2 : decide ((c : Int) ≤ (122 : Int)) = true := decide_eq_true (by omega)
        dsimp only
        rw [if_pos e2]
        refine ⟨_, rfl, _, _, rfl, rfl, ?_⟩
        have : ((c : Int) - 32) = ((gr c : Nat) : Int) := by unfold gr; rw [if_pos ⟨h1, h2⟩]; omega
        show Q (.int ((c : Int) - 32)) H
        rw [this]; exact k
      · have e2 : ¬ decide ((c : Int) ≤ (122 : Int)) = true := fun z => h2 (by have := of_decide_eq_true z; omega)
        dsimp only
        rw [if_neg e2]
        refine ⟨_, rfl, ?_⟩
        have : gr c = c := by unfold gr; rw [if_neg (fun z => h2 z.2)]
        rw [this] at k
        exact k
    · have e1 : ¬ decide ((97 : Int) ≤ (c : Int)) = true := fun z => h1 (by have := of_decide_eq_true z; omega)
      rw [if_neg e1]
      refine ⟨false, rfl, ?_⟩
      dsimp only
      rw [if_neg Bool.false_ne_true]
      refine ⟨_, rfl, ?_⟩
      have : gr c = c := by unfold gr; rw [if_neg (fun z => h1 z.1)]
      rw [this] at k
      exact k
end
end FT
namespace FT
open PySem L2 FV
section
variable {P : Program} {w : World} {K : PySem.W.Frag} {mg : Str → Option Value} {base : Heap} {t : Adr}
def spKey (K : PySem.W.Frag) : Sp := fun vs H Q _ => ∃ (a : Addr) (xs : List Nat), vs = [.ref a] ∧ SqL K H a (nV xs) ∧ xs.length ≤ 1000000 ∧ ∀ p H', H p = none → Kp [] H H' → H' p = some (.lst (nV (key xs))) → Q (.ref p) H'
theorem ok_key_of (T : Txt K mg t) : FnOk P w K mg base CX0 2 t.a_key_of t.d_key_of ["name"] (spKey K) := by
  refine T.F_key_of.ok sc_key_of (fun vs H Q E h => ?_) (fun cdv A outer s H vs Q E hr h => ?_)
  · obtain ⟨a, xs, rfl, _⟩ := h
    rfl
  · obtain ⟨a, xs, rfl, hA, hz, k⟩ := h
    have hs : sizeLine = 16777216 := sizeLine_eq
    refine ⟨_, pss_one (ps_ret (pe_op op_cat (pe_lst (pa_cons (pe_callB call_len_seq (by rfl) T.z_len PySem.boot_len (pa_cons (pv 0) pa_nil)) pa_nil))
      (pe_lc rfl sc_key_of.nd (pi_list (pv 0)) (blkOk_by (own := [("character", 1)]) (by kernel_rfl)) (fun _ _ _ _ _ => pg_name (i := 1) sc_key_of.nd rfl (Or.inl rfl)) (fun _ _ _ _ _ => pts_nil)
        (fun _ _ _ _ _ => pe_call (ok_great_letter T) hr rfl T.g_great_letter T.F_great_letter.kp T.b_great_letter .nil pass0 (pa_cons (pv 1) pa_nil))))), ?_⟩
    refine ⟨_, rfl, a, _, rfl, .inl hA, (by show 1 ≤ sizeLine; decide), fun l hl => ?_⟩
    have k1 : Kp [] H (upd H l (.lst [.int (nV xs).length])) := Kp.new hl
    refine ⟨_, rfl, a, rfl, ⟨_, k1.sq hA⟩, fun D hD => ?_⟩
    have nlD : l ≠ D := ne_of_none upd_same hD
    have hD0 : H D = none := k1.nfree hD
    refine lc_list (K := K) (a := a) (xs := nV xs) (fun i H' => H' = upd (upd H l (.lst [.int (nV xs).length])) D (.lst (nV ((xs.take i).map gr)))) rfl (fun i H' _ e => by rw [e]; exact (k1.trans (Kp.new hD)).sq hA) (fun i x H' hx e => ?_) (fun H' e => ?_)
    · subst e
      obtain ⟨n, hn, rfl⟩ := nV_some hx
      refine ⟨rfl, lcYes ⟨_, rfl, n, rfl, _, upd_same, ?_, ?_⟩⟩
      · have hi := (List.getElem?_eq_some_iff.mp hn).1
        rw [nV_length, List.length_map, List.length_take]
        omega
      · rw [upd_upd]
        congr 2
        rw [List.take_add_one, hn, List.map_append, nV_append]
        rfl
    · subst e
      refine ⟨l, D, _, _, rfl, rfl, by rw [upd_ne nlD]; exact upd_same, upd_same, ?_, fun p hp => ?_⟩
      · simp only [nV_length, List.length_map, List.take_length, List.length_cons, List.length_nil]
        omega
      · have npl : l ≠ p := ne_of_none (H := upd (upd H l (.lst [.int (nV xs).length])) D _) (by rw [upd_ne nlD]; exact upd_same) hp
        have npD : D ≠ p := ne_of_none (H := upd (upd H l (.lst [.int (nV xs).length])) D _) upd_same hp
        have hp0 : H p = none := (k1.trans (Kp.new hD)).nfree hp
        refine k p _ hp0 ((k1.trans (Kp.new hD)).trans (Kp.new hp)) ?_
        rw [upd_same]
        congr 2
        rw [nV_length, List.take_length]
        rfl
def spAllowed : Sp := fun vs H Q _ => ∃ (c : Nat), vs = [.int (c : Int)] ∧ Q (.bl (okChar c)) H
theorem in_ban (c : Nat) : (!inV (V.int (c : Int)) [V.int 33, V.int 47, V.int 58, V.int 92]) = !([33, 47, 58, 92] : List Nat).contains c := by
  have e : ∀ k : Nat, eqV (V.int (k : Int)) (V.int (c : Int)) = (c == k) := fun k => by
    show ((k : Int) == (c : Int)) = (c == k)
    by_cases h : c = k
    · subst h; simp
    · have h1 : ((k : Int) == (c : Int)) = false := by simp; omega
      have h2 : (c == k) = false := by simpa using h
      rw [h1, h2]
  unfold inV
  simp only [List.any_cons, List.any_nil, List.contains_cons, List.contains_nil]
  rw [show V.int 33 = V.int ((33 : Nat) : Int) from rfl, show V.int 47 = V.int ((47 : Nat) : Int) from rfl, show V.int 58 = V.int ((58 : Nat) : Int) from rfl, show V.int 92 = V.int ((92 : Nat) : Int) from rfl, e, e, e, e]
theorem ok_is_allowed (T : Txt K mg t) : FnOk P w K mg base CX0 1 t.a_is_allowed t.d_is_allowed ["character"] spAllowed := by
  refine T.F_is_allowed.ok sc_is_allowed (fun vs H Q E h => ?_) (fun cdv A outer s H vs Q E hr h => ?_)
  · obtain ⟨c, rfl, _⟩ := h
    rfl
  · obtain ⟨c, rfl, k⟩ := h
    refine ⟨_, pss_one (ps_ret (pe_and (pe_chain op_le op_le pe_int (pv 0) pe_int) (pe_one (pe_cmpR op_notIn_seq (pv 0) (pe_glob (v := .ref t.t_BANNED) rfl T.g_BANNED rfl) rfl)))), ?_⟩
    have fin : ∀ b : Bool, b = decide (32 ≤ c ∧ c ≤ 126) → (∃ k', V.bl b = V.bl k' ∧ if k' = true then tOp (rIn K true) (tVar 0) (tC (.ref t.t_BANNED)) (L2.start N_is_allowed [V.int (c : Int)]) H Q else Q (.bl false) H) := fun b hb => by
      refine ⟨b, rfl, ?_⟩
      cases b with
      | false =>
        rw [if_neg Bool.false_ne_true]
        have : okChar c = false := by unfold okChar; rw [← hb]; rfl
        rw [this] at k; exact k
      | true =>
        rw [if_pos rfl]
        refine ⟨_, rfl, t.t_BANNED, _, rfl, .inr (T.s_BANNED H), rfl, rfl, ?_⟩
        have : okChar c = (!inV (V.int (c : Int)) [V.int 33, V.int 47, V.int 58, V.int 92]) := by unfold okChar; rw [← hb, in_ban]; rfl
        rw [this] at k; exact k
    refine ⟨_, rfl, _, _, rfl, rfl, _, rfl, ?_⟩
    by_cases h1 : 32 ≤ c
    · have e1 : decide ((32 : Int) ≤ (c : Int)) = true := decide_eq_true (by omega)
      rw [if_pos e1]
      refine ⟨_, _, rfl, rfl, fin _ ?_⟩
      by_cases h2 : c ≤ 126
      · rw [decide_eq_true (show (c : Int) ≤ 126 by omega), decide_eq_true (⟨h1, h2⟩ : 32 ≤ c ∧ c ≤ 126)]
      · rw [decide_eq_false (show ¬ (c : Int) ≤ 126 by omega), decide_eq_false (fun z : 32 ≤ c ∧ c ≤ 126 => h2 z.2)]
    · have e1 : ¬ decide ((32 : Int) ≤ (c : Int)) = true := fun z => h1 (by have := of_decide_eq_true z; omega)
      rw [if_neg e1]
      exact fin _ (decide_eq_false (fun z : 32 ≤ c ∧ c ≤ 126 => h1 z.1)).symm
end
end FT
namespace FT
open PySem L2 FV
section
variable {P : Program} {w : World} {K : PySem.W.Frag} {mg : Str → Option Value} {base : Heap} {t : Adr}
theorem decV (a b : Int) : decide (V.int a = V.int b) = decide (a = b) := by
  by_cases h : a = b
  · subst h; simp
  · rw [decide_eq_false h, decide_eq_false (fun z => h (by injection z))]
theorem chain_le {lo hi c : Int} {H : Hp} {Q : VK} (h : ∀ b : Bool, b = decide (lo ≤ c ∧ c ≤ hi) → Q (.bl b) H) :
    (if decide (lo ≤ c) = true then rI0 (fun i j => .bl (decide (i ≤ j))) (.int c) (.int hi) H Q else Q (.bl false) H) := by
  by_cases h1 : lo ≤ c
  · rw [if_pos (decide_eq_true h1)]
    refine ⟨_, _, rfl, rfl, h _ ?_⟩
    by_cases h2 : c ≤ hi
    · rw [decide_eq_true h2, decide_eq_true (⟨h1, h2⟩ : lo ≤ c ∧ c ≤ hi)]
    · rw [decide_eq_false h2, decide_eq_false (fun z : lo ≤ c ∧ c ≤ hi => h2 z.2)]
  · rw [if_neg (fun z => h1 (of_decide_eq_true z))]
    exact h _ (decide_eq_false (fun z : lo ≤ c ∧ c ≤ hi => h1 z.1)).symm
theorem chain_leV {lo hi c : Int} {i : Nat} {σ : St} {H : Hp} {Q : VK} (e : σ[i]? = some (some (.int c))) (h : ∀ b : Bool, b = decide (lo ≤ c ∧ c ≤ hi) → Q (.bl b) H) :
    tChain (rI0 fun i j => .bl (decide (i ≤ j))) (rI0 fun i j => .bl (decide (i ≤ j))) (tC (.int lo)) (tVar i) (tC (.int hi)) σ H Q := by
  refine ⟨_, e, _, _, rfl, rfl, _, rfl, ?_⟩
  exact chain_le h
def spReadName (t : Adr) (K : PySem.W.Frag) : Sp := fun vs H Q E => ∃ (a : Addr) (r : List Nat), vs = [.ref a] ∧ SqL K H a (nV r) ∧ r.length = 128 ∧
  (∀ k p H', NameOk r k → H p = none → Kp [] H H' → H' p = some (.lst (nV (chars r k))) → Q (.ref p) H') ∧ ((∀ k, ¬ NameOk r k) → ∀ H', Kp [] H H' → E (.ref t.x_NotAStore) none H')
theorem chars_take (r : List Nat) (k i : Nat) (h : i ≤ k) : (chars r k).take i = chars r i := by
  unfold chars
  rw [← List.map_take, List.take_range]
  have : min i k = i := by omega
  rw [this]
theorem chars_succ (r : List Nat) (i : Nat) : chars r (i + 1) = chars r i ++ [n2 r (2 * i)] := by
  unfold chars
  rw [List.range_succ, List.map_append]; rfl
theorem ok_read_name (T : Txt K mg t) : FnOk P w K mg base (CXE P w) 3 t.a_read_name t.d_read_name ["row"] (spReadName t K) := by
  refine T.F_read_name.okX sc_read_name (fun vs H Q E h => ?_) (fun cdv A outer s H vs Q E hr h => ?_)
  · obtain ⟨a, r, rfl, _⟩ := h
    rfl
  · obtain ⟨a, r, rfl, hA, hl, k, kE⟩ := h
    obtain ⟨u, hu, ru⟩ := T.k_MOST_CHARACTERS
    have hr1 : Room 1 _ := hr.mono (by decide)
    have hs : sizeLine = 16777216 := sizeLine_eq
    refine ⟨_, pss_cons (ps_set (i := 1) sc_read_name.nd rfl (Or.inl rfl) (pe_call (ok_two_bytes T) hr1 rfl T.g_two_bytes T.F_two_bytes.kp T.b_two_bytes .nil pass0 (pa_cons (pv 0) (pa_cons pe_int pa_nil))))
      (pss_cons (ps_expr (pe_call (ok_hold T) hr1 rfl T.g_hold T.F_hold.kp T.b_hold .nil passX (pa_cons (pe_cmpR op_eq (pe_op op_mod (pv 1) pe_int) pe_int (nomark _)) (pa_cons pe_str pa_nil))))
      (pss_cons (ps_set (i := 2) sc_read_name.nd rfl (Or.inl rfl) (pe_op op_sub (pe_op op_fdiv (pv 1) pe_int) pe_int))
      (pss_cons (ps_expr (pe_call (ok_hold T) hr1 rfl T.g_hold T.F_hold.kp T.b_hold .nil passX (pa_cons (pe_chain op_le op_le pe_int (pv 2) (pe_glob rfl hu ru)) (pa_cons pe_str pa_nil))))
      (pss_cons (ps_setLc (i := 3) rfl sc_read_name.nd rfl rfl (sw_true rfl rfl rfl rfl) (pi_range1 rfl T.z_range (pa_cons (pv 2) pa_nil)) (blkOk_by (own := [("k", 4)]) (by kernel_rfl)) (fun _ _ _ _ _ => pg_name (i := 4) sc_read_name.nd rfl (Or.inl rfl)) (fun _ _ _ _ _ => pts_nil)
        (fun _ _ _ _ _ => pe_call (ok_two_bytes T) hr1 rfl T.g_two_bytes T.F_two_bytes.kp T.b_two_bytes .nil pass0 (pa_cons (pv 0) (pa_cons (pe_op op_mul pe_int (pv 4)) pa_nil))))
      (pss_cons (ps_expr (pe_call (ok_hold T) hr1 rfl T.g_hold T.F_hold.kp T.b_hold .nil passX (pa_cons (pe_callB (cr_all rfl) (by rfl) T.z_all PyProof.Rows.boot_all (pa_cons
        (pe_lc rfl sc_read_name.nd (pi_list (pv 3)) (blkOk_by (own := [("character", 5)]) (by kernel_rfl)) (fun _ _ _ _ _ => pg_name (i := 5) sc_read_name.nd rfl (Or.inl rfl)) (fun _ _ _ _ _ => pts_nil)
          (fun _ _ _ _ _ => pe_call (ok_is_allowed T) hr1 rfl T.g_is_allowed T.F_is_allowed.kp T.b_is_allowed .nil pass0 (pa_cons (pv 5) pa_nil))) pa_nil)) (pa_cons pe_str pa_nil))))
      (pss_cons (ps_expr (pe_call (ok_hold T) hr1 rfl T.g_hold T.F_hold.kp T.b_hold .nil passX (pa_cons (pe_cmpR op_eq (pe_call (ok_two_bytes T) hr1 rfl T.g_two_bytes T.F_two_bytes.kp T.b_two_bytes .nil pass0 (pa_cons (pv 0) (pa_cons (pe_op op_mul pe_int (pv 2)) pa_nil))) pe_int (nomark _)) (pa_cons pe_str pa_nil))))
      (pss_one (ps_ret (pv 3))))))))), ?_⟩
    refine ⟨_, rfl, a, r, 64, rfl, hA, by omega, _, rfl, _, _, rfl, rfl, (by show (0 : Int) < 2; decide), rfl, _, _, rfl, fun b1 => ?_, fun b1 => ?_⟩
    rotate_left
    · refine kE (fun j N => ?_) _ (Kp.refl _ _)
      have := N.len
      rw [decV] at b1
      have := of_decide_eq_false b1
      omega
    rw [decV] at b1
    have b1 := of_decide_eq_true b1
    refine ⟨_, rfl, _, _, rfl, rfl, ⟨by decide, by decide⟩, _, _, rfl, rfl, ?_⟩
    refine chain_leV (hi := 31) rfl fun b hb => ?_
    refine ⟨b, _, rfl, fun b2 => ?_, fun b2 => ?_⟩
    rotate_left
    · refine kE (fun j N => ?_) _ (Kp.refl _ _)
      subst hb
      have b2 := of_decide_eq_false b2
      have := N.len
      have := N.one
      have := N.most
      omega
    rw [hb] at b2
    have b2 := of_decide_eq_true b2
    obtain ⟨n, hn⟩ : ∃ n : Nat, (n2 r 64 : Int) / 2 - 1 = (n : Int) := ⟨((n2 r 64 : Int) / 2 - 1).toNat, by omega⟩
    have hn1 : 1 ≤ n := by omega
    have hn2 : n ≤ 31 := by omega
    have hlen : n2 r 64 = 2 * (n + 1) := by omega
    dsimp only
    rw [hn]
    refine ⟨_, rfl, (n : Int), rfl, by omega, by omega, fun D hD => ?_⟩
    have kD : ∀ o, Kp [] H (upd H D o) := fun o => Kp.new hD
    refine lc_range (fun i H' => H' = upd H D (.lst (nV (chars r i)))) rfl (fun i H' hi e => ?_) (fun H' e => ?_)
    · subst e
      have hi : i < n := by simpa using hi
      refine ⟨rfl, lcYes ⟨_, rfl, _, rfl, _, _, rfl, rfl, .inl ⟨by decide, by decide⟩, a, r, 2 * i, ?_, (kD _).sq hA, by omega, _, upd_same, ?_, ?_⟩⟩
      · show [V.ref a, V.int (2 * (0 + (i : Int)))] = [V.ref a, V.int ((2 * i : Nat) : Int)]
        rw [show 2 * (0 + (i : Int)) = ((2 * i : Nat) : Int) by omega]
      · rw [nV_length, chars_length]; omega
      · rw [upd_upd, chars_succ, nV_append]; rfl
    subst e
    have en : ((n : Int)).toNat = n := by omega
    rw [en]
    refine ⟨_, rfl, D, rfl, ⟨_, SqL.of upd_same⟩, fun G hG => ?_⟩
    have hG0 : H G = none := (kD _).nfree hG
    have nDG : D ≠ G := ne_of_none upd_same hG
    refine lc_list (K := K) (a := D) (xs := nV (chars r n)) (fun i H' => H' = upd (upd H D (.lst (nV (chars r n)))) G (.lst (((chars r i).map okChar).map V.bl))) rfl (fun i H' _ e => by rw [e]; exact SqL.of (by rw [upd_ne nDG]; exact upd_same)) (fun i x H' hx e => ?_) (fun H' e => ?_)
    · subst e
      obtain ⟨c, hc, rfl⟩ := nV_some hx
      have hi := (List.getElem?_eq_some_iff.mp hc).1
      rw [chars_length] at hi
      have ec : c = n2 r (2 * i) := by
        unfold chars at hc
        rw [List.getElem?_map, List.getElem?_range hi] at hc
        exact (Option.some.inj hc).symm
      refine ⟨rfl, lcYes ⟨_, rfl, c, rfl, _, upd_same, ?_, ?_⟩⟩
      · rw [List.length_map, List.length_map, chars_length]; omega
      · rw [upd_upd, chars_succ, List.map_append, List.map_append, ec]; rfl
    subst e
    rw [nV_length, chars_length]
    have k2 : Kp [] H (upd (upd H D (.lst (nV (chars r n)))) G (.lst (((chars r n).map okChar).map V.bl))) := (kD _).trans (Kp.new hG)
    refine ⟨G, (chars r n).map okChar, rfl, SqL.of upd_same, _, _, rfl, fun b3 => ?_, fun b3 => ?_⟩
    rotate_left
    · refine kE (fun j N => ?_) _ k2
      have e1 := N.len
      have : j = n := by omega
      subst this
      have := N.ok
      rw [List.all_map] at b3
      have b3' : (chars r j).all okChar = false := b3
      rw [b3'] at this; cases this
    have b3' : (chars r n).all okChar = true := by rw [List.all_map] at b3; exact b3
    refine ⟨_, rfl, _, rfl, _, _, rfl, rfl, .inl ⟨by decide, by decide⟩, a, r, 2 * n, ?_, k2.sq hA, by omega, rfl, _, _, rfl, fun b4 => ?_, fun b4 => ?_⟩
    · show [V.ref a, V.int (2 * (n : Int))] = [V.ref a, V.int ((2 * n : Nat) : Int)]
      rw [show 2 * (n : Int) = ((2 * n : Nat) : Int) by omega]
    · rw [decV] at b4
      have b4 := of_decide_eq_true b4
      refine ⟨_, rfl, k n D _ ⟨hlen, hn1, hn2, b3', by omega⟩ hD k2 ?_⟩
      rw [upd_ne nDG, upd_same]
    · refine kE (fun j N => ?_) _ k2
      have e1 := N.len
      have : j = n := by omega
      subst this
      have := N.zero
      rw [decV] at b4
      have b4 := of_decide_eq_false b4
      omega
end
end FT
namespace FT
open PySem L2 FV
section
variable {P : Program} {w : World} {K : PySem.W.Frag} {mg : Str → Option Value} {base : Heap} {t : Adr}
theorem ne_in {b z : Addr} {as : List Addr} (hb : b ∈ as) (hz : z ∉ as) : b ≠ z := fun e => hz (by rw [← e]; exact hb)
def NamesAt (H : Hp) (as : List Addr) (ns : List Rc22.Bytes) : Prop := as.length = ns.length ∧ ∀ (i : Nat) (a : Addr), as[i]? = some a → ∃ n, ns[i]? = some n ∧ H a = some (.lst (nV (nb n)))
theorem NamesAt.snoc {H : Hp} {as : List Addr} {ns : List Rc22.Bytes} (h : NamesAt H as ns) {x : Addr} {n : Rc22.Bytes} (hx : H x = some (.lst (nV (nb n)))) : NamesAt H (as ++ [x]) (ns ++ [n]) := by
  refine ⟨by simp [h.1], fun i a ha => ?_⟩
  by_cases hi : i < as.length
  · rw [List.getElem?_append_left hi] at ha
    obtain ⟨m, hm, h2⟩ := h.2 i a ha
    exact ⟨m, by rw [List.getElem?_append_left (by rw [← h.1]; exact hi)]; exact hm, h2⟩
  · rw [List.getElem?_append_right (by omega)] at ha
    have : i - as.length = 0 := by
      have := (List.getElem?_eq_some_iff.mp ha).1
      simp at this; omega
    rw [this] at ha
    have e : x = a := by simpa using ha
    subst e
    refine ⟨n, ?_, hx⟩
    rw [List.getElem?_append_right (by rw [← h.1]; omega), ← h.1, this]; rfl
theorem NamesAt.keep {H H' : Hp} {as : List Addr} {ns : List Rc22.Bytes} (h : NamesAt H as ns) (k : ∀ a ∈ as, ∀ o, H a = some o → H' a = some o) : NamesAt H' as ns :=
  ⟨h.1, fun i a ha => let ⟨n, h1, h2⟩ := h.2 i a ha; ⟨n, h1, k a (List.mem_of_getElem? ha) _ h2⟩⟩
def spNames (K : PySem.W.Frag) : Sp := fun vs H Q _ => ∃ (a : Addr) (p : Rc22.Bytes), vs = [.ref a] ∧ SqL K H a (nV (nb p)) ∧ p.length ≤ 1000000 ∧
  ∀ (q : Addr) (as : List Addr) (H' : Hp), H q = none → Kp [] H H' → H' q = some (.lst (as.map V.ref)) → NamesAt H' as (Rc22.namesOf p) → Q (.ref q) H'
theorem ok_names_in (T : Txt K mg t) : FnOk P w K mg base CX0 1 t.a_names_in t.d_names_in ["path"] (spNames K) := by
  refine T.F_names_in.ok sc_names_in (fun vs H Q E h => ?_) (fun cdv A outer s H vs Q E hr h => ?_)
  · obtain ⟨a, p, rfl, _⟩ := h
    rfl
  · obtain ⟨a, p, rfl, hA, hz, k⟩ := h
    obtain ⟨u, hu, ru⟩ := T.k_SLASH
    have hs : sizeLine = 16777216 := sizeLine_eq
    refine ⟨_, pss_cons (ps_if (pt_not (pt_truth (pv 0) (fun _ => rfl))) (pss_one (ps_ret (pe_lst pa_nil))) pss_nil)
      (pss_cons (ps_set (i := 1) sc_names_in.nd rfl (Or.inl rfl) (pe_lst pa_nil))
      (pss_cons (ps_set (i := 2) sc_names_in.nd rfl (Or.inl rfl) (pe_lst pa_nil))
      (pss_cons (ps_for PassesOwn.never rfl (pi_list (pv 0)) (pg_name (i := 3) sc_names_in.nd rfl (Or.inl rfl))
        (pss_one (ps_if (pt_cmpR op_eq (pv 3) (pe_glob rfl hu ru) (nomark _))
          (pss_cons (ps_expr (pe_bm PySem.F.plainAttrs_list PySem.F.slot_list_append PySem.F.type_list_append mt_append (pv 1) (pa_cons (pv 2) pa_nil))) (pss_one (ps_set (i := 2) sc_names_in.nd rfl (Or.inl rfl) (pe_lst pa_nil))))
          (pss_one (ps_expr (pe_bm PySem.F.plainAttrs_list PySem.F.slot_list_append PySem.F.type_list_append mt_append (pv 2) (pa_cons (pv 3) pa_nil)))))))
      (pss_cons (ps_expr (pe_bm PySem.F.plainAttrs_list PySem.F.slot_list_append PySem.F.type_list_append mt_append (pv 1) (pa_cons (pv 2) pa_nil)))
      (pss_one (ps_ret (pv 1))))))), ?_⟩
    refine ⟨_, rfl, _, .inl ⟨_, hA, rfl⟩, ?_⟩
    by_cases hp : p = []
    · subst hp
      refine iteT ?_
      refine ⟨(by show 0 ≤ sizeLine; decide), fun q hq => ?_⟩
      exact k q [] _ hq (Kp.new hq) upd_same ⟨rfl, fun i a ha => by simp at ha⟩
    · have e0 : (nV (nb p)).isEmpty = false := by
        cases p with
        | nil => exact absurd rfl hp
        | cons => rfl
      rw [e0]
      refine iteF ?_
      refine ⟨(by show 0 ≤ sizeLine; decide), fun q hq => ⟨(by show 0 ≤ sizeLine; decide), fun x0 hx0 => ?_⟩⟩
      have nqx : q ≠ x0 := ne_of_none upd_same hx0
      have k0 : Kp [] H (upd (upd H q (.lst [])) x0 (.lst [])) := (Kp.new hq).trans (Kp.new hx0)
      refine ⟨_, rfl, a, rfl, ⟨_, k0.sq hA⟩, for_list (K := K) (a := a) (xs := nV (nb p)) (fun i σ H2 => ∃ (v : Option V) (as : List Addr) (x : Addr) (dn : List Rc22.Bytes) (cur : Rc22.Bytes), σ = [some (.ref a), some (.ref q), some (.ref x), v] ∧ Kp [] H H2 ∧
          H2 q = some (.lst (as.map V.ref)) ∧ NamesAt H2 as dn ∧ H2 x = some (.lst (nV (nb cur))) ∧ x ∉ as ∧ q ∉ as ∧ q ≠ x ∧ H x = none ∧ (∀ b ∈ as, H b = none) ∧ cur.length ≤ i ∧ as.length ≤ i ∧ dn ++ cutFrom cur (p.drop i) = cutFrom [] p)
        ⟨none, [], x0, [], [], rfl, k0, by rw [upd_ne nqx]; exact upd_same, ⟨rfl, fun i a ha => by simp at ha⟩, upd_same, by simp, by simp, nqx, (Kp.new hq).nfree hx0, fun b hb => (nomatch hb), by simp, by simp, by simp⟩
        (fun i σ H2 _ ⟨_, _, _, _, _, _, k2, _⟩ => k2.sq hA) ?_ ?_⟩
      · rintro i y σ H2 hi ⟨v, as, x, dn, cur, rfl, k2, hq2, hN, hx2, nx, nq, nqx2, hx0', has, hcl, hal, hcut⟩
        obtain ⟨c, hc, rfl⟩ := nV_some hi
        unfold nb at hc
        rw [List.getElem?_map] at hc
        obtain ⟨ch, hch, rfl⟩ := Option.map_eq_some_iff.mp hc
        have hil : i < p.length := (List.getElem?_eq_some_iff.mp hch).1
        have hdrop : p.drop i = ch :: p.drop (i + 1) := by
          rw [List.drop_eq_getElem_cons hil]
          congr 1
          rw [List.getElem?_eq_getElem hil] at hch
          exact Option.some.inj hch
        refine ⟨_, rfl, rfl, _, rfl, ?_⟩
        rw [decV]
        refine ite2 (fun h47 => ?_) (fun h47 => ?_)
        · have h47 := of_decide_eq_true h47
          have hslash : ch = 47 := (is_slash ch).mp (by omega)
          refine ⟨_, rfl, .inl ⟨rfl, _, SqL.of hq2⟩, _, rfl, q, _, _, rfl, rfl, hq2, ?_, (by show 0 ≤ sizeLine; decide), fun z hz => ?_⟩
          · rw [List.length_map]; omega
          · have zq : z ≠ q := fun e => by rw [e, upd_same] at hz; cases hz
            have hz2 : H2 z = none := by rw [upd_ne zq] at hz; exact hz
            have zx : x ≠ z := ne_of_none hx2 hz2
            have zas : z ∉ as := fun hm => by
              obtain ⟨j, hj⟩ := List.mem_iff_getElem?.mp hm
              obtain ⟨n, _, hn⟩ := hN.2 j z hj
              rw [hz2] at hn; cases hn
            refine ⟨_, as ++ [x], z, dn ++ [cur], [], rfl, fun b o e hb => ?_, ?_, ?_, upd_same, ?_, ?_, zq.symm, k2.nfree hz2, ?_, by simp, by simp; omega, ?_⟩
            · rw [upd_ne (ne_of_none (k2.nil e) hz2), upd_ne (ne_of_none e hq)]
              exact k2.nil e
            · rw [upd_ne zq.symm, upd_same, List.map_append]; rfl
            · refine (hN.keep (H' := upd (upd H2 q _) z _) fun b hb o e => ?_).snoc ?_
              · rw [upd_ne (ne_in hb zas), upd_ne (ne_in hb nq)]; exact e
              · rw [upd_ne zx, upd_ne nqx2.symm]; exact hx2
            · simp only [List.mem_append, List.mem_singleton, not_or]
              exact ⟨zas, fun e => zx e.symm⟩
            · simp only [List.mem_append, List.mem_singleton, not_or]
              exact ⟨nq, nqx2⟩
            · intro b hb
              rcases List.mem_append.mp hb with hb | hb
              · exact has b hb
              · have : b = x := by simpa using hb
                rw [this]; exact hx0'
            · rw [← hcut, hdrop, hslash, cutFrom_slash, List.append_assoc]; rfl
        · have h47 : ¬ ((ch.toNat : Int) = 47) := fun e => h47 (decide_eq_true e)
          have hslash : ch ≠ 47 := fun e => h47 (by rw [e]; rfl)
          refine ⟨_, rfl, .inl ⟨rfl, _, SqL.of hx2⟩, _, rfl, x, _, _, rfl, rfl, hx2, ?_, ?_⟩
          · rw [nV_length, nb_length]; omega
          · refine ⟨_, as, x, dn, cur ++ [ch], rfl, fun b o e hb => ?_, ?_, ?_, ?_, nx, nq, nqx2, hx0', has, by simp; omega, by omega, ?_⟩
            · rw [upd_ne (ne_of_none e hx0')]; exact k2.nil e
            · rw [upd_ne nqx2]; exact hq2
            · exact hN.keep fun b hb o e => by rw [upd_ne (ne_in hb nx)]; exact e
            · rw [upd_same]
              congr 2
              unfold nb
              rw [List.map_append, nV_append]; rfl
            · rw [← hcut, hdrop, cutFrom_other hslash]
      · rintro σ H2 ⟨v, as, x, dn, cur, rfl, k2, hq2, hN, hx2, nx, nq, nqx2, hx0', has, hcl, hal, hcut⟩
        rw [nV_length, nb_length] at hcut hal
        rw [List.drop_length, cutFrom_nil] at hcut
        refine ⟨_, rfl, .inl ⟨rfl, _, SqL.of hq2⟩, _, rfl, q, _, _, rfl, rfl, hq2, ?_, ?_⟩
        · rw [List.length_map]; omega
        · refine ⟨_, rfl, k q (as ++ [x]) _ hq (fun b o e hb => ?_) ?_ ?_⟩
          · rw [upd_ne (ne_of_none e hq)]; exact k2.nil e
          · rw [upd_same, List.map_append]; rfl
          · rw [namesOf_cut p hp, ← hcut]
            refine (hN.keep fun b hb o e => ?_).snoc ?_
            · rw [upd_ne (ne_in hb nq)]; exact e
            · rw [upd_ne nqx2.symm]; exact hx2
end
end FT
namespace FT
open PySem L2 FV
section
variable {P : Program} {w : World} {K : PySem.W.Frag} {mg : Str → Option Value} {base : Heap} {t : Adr}
def pf (l : Addr) : List (Str × V) := putF "taken" (.ref l) []
theorem pf_taken (l : Addr) : (pf l).lookup ("taken" : Str) = some (.ref l) := by
  unfold pf; rw [lookup_putF, if_pos rfl]
theorem pf_no (l : Addr) {m : Str} (h : ¬ m = "taken") : (pf l).lookup m = none := by
  unfold pf; rw [lookup_putF, if_neg h]; rfl
structure PlAt (t : Adr) (H : Hp) (p l : Addr) (m : Nat) (used : List Nat) : Prop where
  ob : ∃ dx, H p = some (.ins t.c_Places dx (pf l))
  ls : H l = some (.lst ((marks m used).map V.bl))
theorem PlAt.ne {H : Hp} {p l : Addr} {m : Nat} {used : List Nat} (h : PlAt t H p l m used) : p ≠ l := by
  obtain ⟨dx, e⟩ := h.ob
  exact ne_of e h.ls (by intro z; cases z)
theorem PlAt.keep {H H' : Hp} {p l : Addr} {m : Nat} {used : List Nat} (h : PlAt t H p l m used) {ls : List Addr} (k : Kp ls H H') (hp : p ∉ ls) (hl : l ∉ ls) : PlAt t H' p l m used :=
  ⟨let ⟨dx, e⟩ := h.ob; ⟨dx, k.at e hp⟩, k.at h.ls hl⟩
theorem PlAt.keep0 {H H' : Hp} {p l : Addr} {m : Nat} {used : List Nat} (h : PlAt t H p l m used) (k : Kp [] H H') : PlAt t H' p l m used := h.keep k (by simp) (by simp)
theorem PlAt.perm {H : Hp} {p l : Addr} {m : Nat} {u v : List Nat} (h : PlAt t H p l m u) (e : u.Perm v) : PlAt t H p l m v := ⟨h.ob, by rw [← marks_perm e]; exact h.ls⟩
def spPlaces (t : Adr) : Sp := fun vs H Q _ => ∃ (p dx : Addr) (m : Nat), vs = [.ref p, .int (m : Int)] ∧ H p = some (.ins t.c_Places dx []) ∧ m ≤ 1000000 ∧
  ∀ (l : Addr) (H' : Hp), PlAt t H' p l m [] → H l = none → (∀ b o, H b = some o → b ≠ p → H' b = some o) → Q .non H'
theorem ok_Places_init (T : Txt K mg t) : FnOk P w K mg base CX0 1 t.a_Places_init t.d_Places_init ["self", "count"] (spPlaces t) := by
  refine T.F_Places_init.ok sc_Places_init (fun vs H Q E h => ?_) (fun cdv A outer s H vs Q E hr h => ?_)
  · obtain ⟨p, dx, m, rfl, _⟩ := h
    rfl
  · obtain ⟨p, dx, m, rfl, hp, hm, k⟩ := h
    have hs : sizeLine = 16777216 := sizeLine_eq
    refine ⟨_, pss_one (ps_fld (pv 0) (pe_op op_rep (pe_lst (pa_cons pe_bl pa_nil)) (pv 1)) rfl), ?_⟩
    refine ⟨(by show 1 ≤ sizeLine; decide), fun l0 h0 => ⟨_, rfl, l0, (m : Int), _, rfl, rfl, upd_same, by omega, by omega, ?_, fun l hl => ?_⟩⟩
    · simp; omega
    · have n0 : p ≠ l0 := ne_of_none hp h0
      have nl : p ≠ l := ne_of_none (H := upd H l0 _) (by rw [upd_ne n0]; exact hp) hl
      refine ⟨_, rfl, p, t.c_Places, dx, [], rfl, by rw [upd_ne nl, upd_ne n0]; exact hp, T.cl_Places, T.n_Places_taken, (by show 0 < 1000; decide), ?_⟩
      refine k l _ ⟨⟨dx, upd_same⟩, ?_⟩ ((Kp.new h0).nfree hl) fun b o e hb => ?_
      · rw [upd_ne nl.symm, upd_same]
        congr 2
        rw [marks_nil]
        show (List.replicate (m : Int).toNat [V.bl false]).flatten = _
        have : ((m : Int)).toNat = m := by omega
        rw [this]
        clear k hm hl h0 hp
        induction m with
        | zero => rfl
        | succ m ih => rw [List.replicate_succ, List.flatten_cons, ih (by omega), List.replicate_succ, List.map_cons]; rfl
      · rw [upd_ne hb, upd_ne (ne_of_none ((Kp.new (ls := []) h0).nil e) hl), upd_ne (ne_of_none e h0)]
        exact e
def spTake (t : Adr) : Sp := fun vs H Q E => ∃ (p l : Addr) (m n : Nat) (used : List Nat), vs = [.ref p, .int (n : Int)] ∧ PlAt t H p l m used ∧ m ≤ 1000000 ∧
  (n < m → n ∉ used → Q .non (upd H l (.lst ((marks m (used ++ [n])).map V.bl)))) ∧ (¬ (n < m ∧ n ∉ used) → E (.ref t.x_NotAStore) none H)
theorem ok_Places_take (T : Txt K mg t) : FnOk P w K mg base (CXE P w) 2 t.a_Places_take t.d_Places_take ["self", "number"] (spTake t) := by
  refine T.F_Places_take.okX sc_Places_take (fun vs H Q E h => ?_) (fun cdv A outer s H vs Q E hr h => ?_)
  · obtain ⟨p, l, m, n, used, rfl, _⟩ := h
    rfl
  · obtain ⟨p, l, m, n, used, rfl, hP, hm, k, kE⟩ := h
    obtain ⟨⟨dx, hp⟩, hl⟩ := id hP
    refine ⟨_, pss_cons (ps_expr (pe_call (ok_hold T) hr rfl T.g_hold T.F_hold.kp T.b_hold .nil passX (pa_cons (pe_cmpR op_lt (pv 1) (pe_callB call_len_seq (by rfl) T.z_len PySem.boot_len (pa_cons (pe_fld (pv 0) rfl) pa_nil)) (nomark _)) (pa_cons pe_str pa_nil))))
      (pss_cons (ps_expr (pe_call (ok_hold T) hr rfl T.g_hold T.F_hold.kp T.b_hold .nil passX (pa_cons (pe_not (pe_ix ix_list (pe_fld (pv 0) rfl) (pv 1) (fun _ _ => rfl))) (pa_cons pe_str pa_nil))))
      (pss_one (ps_asg pe_bl (pg_sub (pe_fld (pv 0) rfl) (pv 1) set_list)))), ?_⟩
    refine ⟨_, rfl, _, rfl, p, t.c_Places, dx, _, _, rfl, hp, T.cl_Places, T.n_Places_taken, pf_taken l, l, _, rfl, .inl (SqL.of hl), _, _, rfl, rfl, _, _, rfl, fun b1 => ?_, fun b1 => ?_⟩
    rotate_left
    · refine kE fun z => ?_
      have b1 := of_decide_eq_false b1
      rw [List.length_map, marks_length] at b1
      omega
    have b1 := of_decide_eq_true b1
    rw [List.length_map, marks_length] at b1
    have hnm : n < m := by omega
    refine ⟨_, rfl, p, t.c_Places, dx, _, _, rfl, hp, T.cl_Places, T.n_Places_taken, pf_taken l, _, rfl, l, _, _, .bl (used.contains n), rfl, rfl, SqL.of hl, ?_, _, rfl, _, _, rfl, fun b2 => ?_, fun b2 => ?_⟩
    · refine at_of (j := n) rfl ?_
      rw [List.getElem?_map, marks_get hnm]; rfl
    · have hnu : n ∉ used := by simpa using b2
      refine ⟨_, rfl, p, t.c_Places, dx, _, _, rfl, hp, T.cl_Places, T.n_Places_taken, pf_taken l, _, rfl, l, _, _, n, rfl, rfl, hl, ?_, ?_⟩
      · unfold ixN
        rw [if_pos (by omega), if_pos (by rw [List.length_map, marks_length]; omega)]
        congr 1
      · have e : ((marks m used).map V.bl).set n (V.bl true) = (marks m (used ++ [n])).map V.bl := by
          rw [← marks_set hnm, List.map_set]
        show Q .non _
        rw [e]
        exact k hnm hnu
    · refine kE fun z => ?_
      have : n ∈ used := by simpa using b2
      exact z.2 this
theorem untaken_succ (m : Nat) (used : List Nat) (i : Nat) (h : i < m) : untaken (i + 1) used = untaken i used ++ if used.contains i then [] else [i] := by
  unfold untaken
  rw [List.range_succ, List.filter_append]
  congr 1
  by_cases hc : used.contains i = true
  · rw [if_pos hc, List.filter_cons, if_neg (by rw [hc]; decide)]; rfl
  · rw [if_neg hc, List.filter_cons, if_pos (by simpa using hc)]; rfl
theorem untaken_len (m : Nat) (used : List Nat) : (untaken m used).length ≤ m := by
  have := List.length_filter_le (fun i => !used.contains i) (List.range m)
  unfold untaken
  rw [List.length_range] at this; exact this
def spUntaken (t : Adr) : Sp := fun vs H Q _ => ∃ (p l : Addr) (m : Nat) (used : List Nat), vs = [.ref p] ∧ PlAt t H p l m used ∧ m ≤ 1000000 ∧
  ∀ (q : Addr) (H' : Hp), H q = none → Kp [] H H' → H' q = some (.lst (nV (untaken m used))) → Q (.ref q) H'
theorem lc_enum {K : PySem.W.Frag} {a : Addr} {xs : List V} {g : TG} {tt : TT} {te : TE} {vs : List Nat} {σ : St} {H1 : Hp} {D : Addr} {Qd : Hp → Prop} (Pv : Nat → Hp → Prop) (h0 : Pv 0 (upd H1 D (.lst []))) (hl : ∀ i H, i ≤ xs.length → Pv i H → SqL K H a xs)
    (hs : ∀ i x H T, xs[i]? = some x → Pv i H → H T = none → g (.ref T) (wipe σ vs) (upd H T (.tup [.int (i : Nat), x])) fun σ2 H2 => wipe σ2 vs = wipe σ vs ∧ tt σ2 H2 fun b H3 =>
      if b = true then te σ2 H3 fun y H4 => ∃ acc, H4 D = some (.lst acc) ∧ acc.length < sizeLine ∧ Pv (i + 1) (upd H4 D (.lst (acc ++ [y]))) else Pv (i + 1) H3) (hd : ∀ H, Pv xs.length H → Qd H) :
    ∃ W : Nat → Nat → Hp → Prop, (∃ m, W 0 m (upd H1 D (.lst []))) ∧ ∀ i m H, W i m H →
      ((Ite K a).stop i H ∧ Qd H) ∨ ((Ite K a).go i H ∧ ∃ Nx : Hp → Prop, (∀ H', Nx H' → ∃ m', m' < m ∧ W (i + 1) m' H') ∧ ∀ x H', (Ite K a).yld i H x H' → g x (wipe σ vs) H' fun σ2 H2 => wipe σ2 vs = wipe σ vs ∧ tt σ2 H2 fun b H3 =>
        if b = true then te σ2 H3 fun y H4 => ∃ acc, H4 D = some (.lst acc) ∧ acc.length < sizeLine ∧ Nx (upd H4 D (.lst (acc ++ [y]))) else Nx H3) := by
  refine ⟨fun i m H => m = xs.length - i ∧ i ≤ xs.length ∧ Pv i H, ⟨xs.length, by simp, Nat.zero_le _, h0⟩, ?_⟩
  rintro i m H ⟨rfl, hi, p⟩
  have q := hl i H hi p
  by_cases hlt : i < xs.length
  · refine .inr ⟨⟨xs, xs[i], q, by simp [hlt]⟩, Pv (i + 1), fun H' p' => ⟨xs.length - (i + 1), by omega, rfl, hlt, p'⟩, fun x H' y => ?_⟩
    obtain ⟨T, v, e1, e2, e3, y⟩ := y
    subst e1 e3
    exact hs i v H T (y xs q) p e2
  · have e : i = xs.length := by omega
    subst e
    exact .inl ⟨⟨xs, q, Nat.le_refl _⟩, hd H p⟩
theorem ok_Places_untaken (T : Txt K mg t) : FnOk P w K mg base CX0 1 t.a_Places_untaken t.d_Places_untaken ["self"] (spUntaken t) := by
  refine T.F_Places_untaken.ok sc_Places_untaken (fun vs H Q E h => ?_) (fun cdv A outer s H vs Q E hr h => ?_)
  · obtain ⟨p, l, m, used, rfl, _⟩ := h
    rfl
  · obtain ⟨p, l, m, used, rfl, hP, hm, k⟩ := h
    obtain ⟨⟨dx, hp⟩, hl⟩ := id hP
    have hs : sizeLine = 16777216 := sizeLine_eq
    refine ⟨_, pss_one (ps_ret (pe_lc (g := gTup K 2 (gCons (gName 1) (gCons (gName 2) gNil))) rfl sc_Places_untaken.nd (pi_enum rfl T.z_enumerate (pa_cons (pe_fld (pv 0) rfl) pa_nil)) (blkOk_by (own := [("number", 1), ("is_taken", 2)]) (by kernel_rfl))
      (fun _ _ _ _ _ => pg_tup rfl (pgs_cons (pg_name (i := 1) sc_Places_untaken.nd rfl (Or.inl rfl)) (pgs_cons (pg_name (i := 2) sc_Places_untaken.nd rfl (Or.inl rfl)) pgs_nil)))
      (fun _ _ _ _ _ => pts_one (pt_not (pt_val (pv 2)))) (fun _ _ _ _ _ => pv 1))), ?_⟩
    refine ⟨_, rfl, p, t.c_Places, dx, _, _, rfl, hp, T.cl_Places, T.n_Places_taken, pf_taken l, l, _, rfl, SqL.of hl, fun D hD => ?_⟩
    refine lc_enum (K := K) (a := l) (xs := (marks m used).map V.bl) (fun i H' => Kp [] H H' ∧ H' D = some (.lst (nV (untaken i used)))) ⟨Kp.new hD, upd_same⟩ (fun i H' _ e => SqL.of (e.1.nil hl)) (fun i x H' Tt hx e hT => ?_) (fun H' e => ?_)
    · obtain ⟨e1, e2⟩ := e
      have him : i < m := by
        have := (List.getElem?_eq_some_iff.mp hx).1
        rw [List.length_map, marks_length] at this; exact this
      have ex : x = V.bl (used.contains i) := by
        rw [List.getElem?_map, marks_get him] at hx
        exact (Option.some.inj hx).symm
      subst ex
      have nDT : D ≠ Tt := ne_of_none e2 hT
      refine ⟨Tt, _, rfl, SqT.of upd_same, rfl, _, _, rfl, _, _, rfl, rfl, rfl, ⟨_, rfl, _, rfl, ?_⟩⟩
      by_cases hc : used.contains i = true
      · rw [hc]
        refine iteF ⟨e1.trans (Kp.new hT), ?_⟩
        rw [upd_ne nDT, untaken_succ m used i him, if_pos hc, List.append_nil]; exact e2
      · have hc' : used.contains i = false := by simpa using hc
        rw [hc']
        refine iteT ⟨_, rfl, _, by rw [upd_ne nDT]; exact e2, ?_, fun b o e hb => ?_, ?_⟩
        · rw [nV_length]
          have := untaken_len i used
          omega
        · rw [upd_ne (ne_of_none e hD), upd_ne (ne_of_none (e1.nil e) hT)]
          exact e1.nil e
        · rw [upd_same, untaken_succ m used i him, if_neg hc, nV_append]; rfl
    · obtain ⟨e1, e2⟩ := e
      rw [List.length_map, marks_length] at e2
      exact k D H' hD e1 e2
end
end FT
namespace FT
open PySem L2 FV
section
variable {P : Program} {w : World} {K : PySem.W.Frag} {mg : Str → Option Value} {base : Heap} {t : Adr}
theorem not_dec {a b : Nat} : (!decide (V.int (a : Int) = V.int (b : Int))) = !(a == b) := by rw [int_dec]
def spFollow (t : Adr) : Sp := fun vs H Q E => ∃ (p l c : Addr) (m first : Nat) (used tb : List Nat), vs = [.ref p, .ref c, .int (first : Int)] ∧ PlAt t H p l m used ∧ Apart m used ∧ m ≤ 1000000 ∧ H c = some (.lst (nV tb)) ∧ c ≠ l ∧ m ≤ tb.length ∧
  (∀ (ch : List Nat) (q : Addr) (H' : Hp), Rc22.chain (tb.take m) m first = some ch → Apart m (used ++ ch) → H q = none → Kp [l] H H' → H' q = some (.lst (nV ch)) → PlAt t H' p l m (used ++ ch) → Q (.ref q) H') ∧
  ((∀ ch, Rc22.chain (tb.take m) m first = some ch → ¬ (used ++ ch).Nodup) → ∀ H', Kp [l] H H' → E (.ref t.x_NotAStore) none H')
theorem ok_follow (T : Txt K mg t) : FnOk P w K mg base (CXE P w) 3 t.a_follow t.d_follow ["places", "table", "first"] (spFollow t) := by
  refine T.F_follow.okX sc_follow (fun vs H Q E h => ?_) (fun cdv A outer s H vs Q E hr h => ?_)
  · obtain ⟨p, l, c, m, first, used, tb, rfl, _⟩ := h
    rfl
  · obtain ⟨p, l, c, m, first, used, tb, rfl, hP, hA, hm, hC, hcl, hmt, k, kE⟩ := h
    obtain ⟨u, hu, ru⟩ := T.k_END
    have hs : sizeLine = 16777216 := sizeLine_eq
    have htl : (tb.take m).length = m := by rw [List.length_take]; omega
    refine ⟨_, pss_cons (ps_set (i := 3) sc_follow.nd rfl (Or.inl rfl) (pe_lst pa_nil))
      (pss_cons (ps_set (i := 4) sc_follow.nd rfl (Or.inl rfl) (pv 2))
      (pss_cons (ps_while passOwn (pt_cmpR op_ne (pv 4) (pe_glob rfl hu ru) (nomark _))
        (pss_cons (ps_expr (pe_meth (pv 0) T.cl_Places T.m_Places_take (ok_Places_take T) hr T.b_Places_take .nil passX (pa_cons (pv 4) pa_nil)))
        (pss_cons (ps_expr (pe_bm PySem.F.plainAttrs_list PySem.F.slot_list_append PySem.F.type_list_append mt_append (pv 3) (pa_cons (pv 4) pa_nil)))
        (pss_one (ps_set (i := 4) sc_follow.nd rfl (Or.inl rfl) (pe_ix ix_list (pv 1) (pv 4) (fun _ _ => rfl)))))))
      (pss_one (ps_ret (pv 3))))), ?_⟩
    refine ⟨(by show 0 ≤ sizeLine; decide), fun q hq => ⟨_, rfl, ?_⟩⟩
    have k0 : Kp [l] H (upd H q (.lst [])) := Kp.new hq
    have hlq : l ≠ q := ne_of_none hP.ls hq
    refine ⟨fun n σ H2 => ∃ (pre : List Nat) (cur : Nat), n = m - (used ++ pre).length ∧ σ = [some (.ref p), some (.ref c), some (.int (first : Int)), some (.ref q), some (.int (cur : Int))] ∧ Kp [l] H H2 ∧ H2 q = some (.lst (nV pre)) ∧
      PlAt t H2 p l m (used ++ pre) ∧ Apart m (used ++ pre) ∧ Follows (tb.take m) m first pre cur, ⟨_, [], first, rfl, rfl, k0, upd_same, ?_, by simpa using hA, Follows.start _ _ _⟩, ?_⟩
    · simpa using hP.keep (ls := []) (Kp.new hq) (by simp) (by simp)
    · rintro n σ H2 ⟨pre, cur, rfl, rfl, k2, hq2, hP2, hA2, hF⟩
      refine ⟨_, rfl, rfl, _, rfl, ?_⟩
      rw [show (V.int 4294967294) = V.int ((Rc22.END : Nat) : Int) from rfl, not_dec]
      by_cases hend : cur = Rc22.END
      · have : (!(cur == Rc22.END)) = false := by simp [hend]
        rw [this]
        refine iteF ?_
        subst hend
        refine ⟨_, rfl, k pre q H2 hF.done hA2 hq k2 hq2 hP2⟩
      · have : (!(cur == Rc22.END)) = true := by simp [hend]
        rw [this]
        refine iteT ?_
        refine ⟨_, fun σ' H' z => z, ?_⟩
        obtain ⟨dx, hp2⟩ := hP2.ob
        refine ⟨_, rfl, p, dx, _, rfl, hp2, pf_no l (by decide +kernel), _, rfl, p, l, m, cur, used ++ pre, rfl, hP2, hm, fun h1 h2 => ?_, fun h1 => ?_⟩
        · have hlq2 : q ≠ l := hlq.symm
          refine ⟨_, rfl, .inl ⟨rfl, _, SqL.of (by rw [upd_ne hlq2]; exact hq2)⟩, _, rfl, q, _, _, rfl, rfl, by rw [upd_ne hlq2]; exact hq2, ?_, ?_⟩
          · rw [nV_length]
            have := hA2.le
            rw [List.length_append] at this
            omega
          · have hcq : c ≠ q := ne_of_none hC hq
            have hpq : p ≠ q := let ⟨_, e⟩ := hP.ob; ne_of_none e hq
            have hpl : p ≠ l := hP.ne
            have hC2 : H2 c = some (.lst (nV tb)) := k2.at hC (by simpa using hcl)
            have room := hA2.room h1 h2
            rw [List.length_append] at room
            refine ⟨_, rfl, _, rfl, c, _, _, .int (g tb cur : Nat), rfl, rfl, SqL.of (by rw [upd_ne hcq, upd_ne hcl]; exact hC2), nV_at rfl (by omega), ?_⟩
            refine ⟨m - (used ++ pre ++ [cur]).length, ?_, pre ++ [cur], g tb cur, by rw [List.append_assoc], rfl, ?_, ?_, ?_, ?_, ?_⟩
            · simp; omega
            · exact fun b o e hb => by
                have hbl : b ≠ l := by simpa using hb
                rw [upd_ne (ne_of_none e hq), upd_ne hbl]
                exact k2 b o e hb
            · rw [upd_same, nV_append]; rfl
            · refine ⟨⟨dx, by rw [upd_ne hpq, upd_ne hpl]; exact hp2⟩, ?_⟩
              rw [upd_ne hlq, upd_same, List.append_assoc]
            · rw [← List.append_assoc]; exact hA2.snoc h1 h2
            · have e : g tb cur = (tb.take m).getD cur Rc22.FREE := by
                unfold g
                rw [List.getD_eq_getElem?_getD, List.getD_eq_getElem?_getD, List.getElem?_take_of_lt h1, List.getElem?_eq_getElem (by omega)]
                rfl
              rw [e]
              exact hF.step hend (by omega) (by omega)
        · refine kE (fun ch hch nd => ?_) H2 k2
          by_cases h3 : cur < m
          · have h4 : cur ∈ used ++ pre := Decidable.byContradiction fun z => h1 ⟨h3, z⟩
            exact hF.twice hend h4 ch hch nd
          · exact hF.out hend (by omega) ch hch
def spRestFree (t : Adr) : Sp := fun vs H Q E => ∃ (p l c : Addr) (m : Nat) (used tb : List Nat), vs = [.ref p, .ref c] ∧ PlAt t H p l m used ∧ m ≤ 1000000 ∧ H c = some (.lst (nV tb)) ∧ m ≤ tb.length ∧
  ((∀ i ∈ untaken m used, tb.getD i 0 = Rc22.FREE) → ∀ H', Kp [] H H' → Q .non H') ∧ ((¬ ∀ i ∈ untaken m used, tb.getD i 0 = Rc22.FREE) → ∀ H', Kp [] H H' → E (.ref t.x_NotAStore) none H')
theorem ok_hold_rest_free (T : Txt K mg t) : FnOk P w K mg base (CXE P w) 2 t.a_hold_rest_free t.d_hold_rest_free ["places", "table"] (spRestFree t) := by
  refine T.F_hold_rest_free.okX sc_hold_rest_free (fun vs H Q E h => ?_) (fun cdv A outer s H vs Q E hr h => ?_)
  · obtain ⟨p, l, c, m, used, tb, rfl, _⟩ := h
    rfl
  · obtain ⟨p, l, c, m, used, tb, rfl, hP, hm, hC, hmt, k, kE⟩ := h
    obtain ⟨u, hu, ru⟩ := T.k_FREE
    obtain ⟨dx, hp⟩ := hP.ob
    refine ⟨_, pss_one (ps_for passOwn rfl (pi_list (pe_meth0 (pv 0) T.cl_Places T.m_Places_untaken (ok_Places_untaken T) hr T.b_Places_untaken .nil pass0)) (pg_name (i := 2) sc_hold_rest_free.nd rfl (Or.inl rfl))
      (pss_one (ps_expr (pe_call (ok_hold T) hr rfl T.g_hold T.F_hold.kp T.b_hold .nil passX (pa_cons (pe_cmpR op_eq (pe_ix ix_list (pv 1) (pv 2) (fun _ _ => rfl)) (pe_glob rfl hu ru) (nomark _)) (pa_cons pe_str pa_nil)))))), ?_⟩
    refine ⟨_, rfl, p, dx, _, rfl, hp, pf_no l (by decide +kernel), p, l, m, used, rfl, hP, hm, fun q H1 hq k1 hq1 => ?_⟩
    refine ⟨q, rfl, ⟨_, SqL.of hq1⟩, for_list (K := K) (a := q) (xs := nV (untaken m used)) (fun i σ H2 => ∃ v : Option V, σ = [some (.ref p), some (.ref c), v] ∧ H2 = H1 ∧ ∀ (j : Nat) (x : Nat), j < i → (untaken m used)[j]? = some x → tb.getD x 0 = Rc22.FREE)
      ⟨none, rfl, rfl, fun j x hj => by omega⟩ (fun i σ H2 _ ⟨_, _, e, _⟩ => by rw [e]; exact SqL.of hq1) ?_ ?_⟩
    · rintro i y σ H2 hi ⟨v, rfl, rfl, hF⟩
      obtain ⟨n, hn, rfl⟩ := nV_some hi
      have hnm := mem_untaken.mp (List.mem_of_getElem? hn)
      have eg : g tb n = tb.getD n 0 := rfl
      refine ⟨_, rfl, _, rfl, c, _, _, .int (g tb n : Nat), rfl, rfl, SqL.of (k1.nil hC), nV_at rfl (by omega), rfl, _, _, rfl, fun b => ?_, fun b => ?_⟩
      · rw [show (V.int 4294967295) = V.int ((Rc22.FREE : Nat) : Int) from rfl, int_dec] at b
        refine ⟨_, rfl, rfl, fun j x hj hx => ?_⟩
        by_cases hji : j = i
        · subst hji
          rw [hn] at hx
          have : n = x := Option.some.inj hx
          subst this
          rw [← eg]; simpa using b
        · exact hF j x (by omega) hx
      · rw [show (V.int 4294967295) = V.int ((Rc22.FREE : Nat) : Int) from rfl, int_dec] at b
        refine kE (fun z => ?_) _ k1
        have := z n (List.mem_of_getElem? hn)
        rw [← eg] at this
        simp [this] at b
    · rintro σ H2 ⟨v, rfl, rfl, hF⟩
      refine k (fun i hi => ?_) _ k1
      obtain ⟨j, hj⟩ := List.mem_iff_getElem?.mp hi
      exact hF j i (by rw [nV_length]; exact (List.getElem?_eq_some_iff.mp hj).1) hj
def spSized (t : Adr) : Sp := fun vs H Q E => ∃ (p l c : Addr) (m first n : Nat) (used tb : List Nat), vs = [.ref p, .ref c, .int (first : Int), .int (n : Int)] ∧ PlAt t H p l m used ∧ Apart m used ∧ m ≤ 1000000 ∧ H c = some (.lst (nV tb)) ∧ c ≠ l ∧ m ≤ tb.length ∧
  (∀ (ch : List Nat) (q : Addr) (H' : Hp), Rc22.chain (tb.take m) m first = some ch → ch.length = n → Apart m (used ++ ch) → H q = none → Kp [l] H H' → H' q = some (.lst (nV ch)) → PlAt t H' p l m (used ++ ch) → Q (.ref q) H') ∧
  ((∀ ch, Rc22.chain (tb.take m) m first = some ch → ch.length = n → ¬ (used ++ ch).Nodup) → ∀ H', Kp [l] H H' → E (.ref t.x_NotAStore) none H')
theorem ok_follow_sized (T : Txt K mg t) : FnOk P w K mg base (CXE P w) 4 t.a_follow_sized t.d_follow_sized ["places", "table", "first", "length"] (spSized t) := by
  refine T.F_follow_sized.okX sc_follow_sized (fun vs H Q E h => ?_) (fun cdv A outer s H vs Q E hr h => ?_)
  · obtain ⟨p, l, c, m, first, n, used, tb, rfl, _⟩ := h
    rfl
  · obtain ⟨p, l, c, m, first, n, used, tb, rfl, hP, hA, hm, hC, hcl, hmt, k, kE⟩ := h
    have hr1 : Room 1 _ := hr.mono (by decide)
    refine ⟨_, pss_cons (ps_set (i := 4) sc_follow_sized.nd rfl (Or.inl rfl) (pe_call (ok_follow T) hr rfl T.g_follow T.F_follow.kp T.b_follow .nil passX (pa_cons (pv 0) (pa_cons (pv 1) (pa_cons (pv 2) pa_nil)))))
      (pss_cons (ps_expr (pe_call (ok_hold T) hr1 rfl T.g_hold T.F_hold.kp T.b_hold .nil passX (pa_cons (pe_cmpR op_eq (pe_callB call_len_seq (by rfl) T.z_len PySem.boot_len (pa_cons (pv 4) pa_nil)) (pv 3) (nomark _)) (pa_cons pe_str pa_nil))))
      (pss_one (ps_ret (pv 4)))), ?_⟩
    refine ⟨_, rfl, _, rfl, _, rfl, p, l, c, m, first, used, tb, rfl, hP, hA, hm, hC, hcl, hmt, fun ch q H1 hch hA1 hq k1 hq1 hP1 => ?_, fun hno H1 k1 => ?_⟩
    · refine ⟨_, rfl, q, _, rfl, .inl (SqL.of hq1), _, rfl, rfl, _, _, rfl, fun b => ?_, fun b => ?_⟩
      · rw [nV_length, int_dec] at b
        exact ⟨_, rfl, k ch q H1 hch (by simpa using b) hA1 hq k1 hq1 hP1⟩
      · rw [nV_length, int_dec] at b
        refine kE (fun ch' hch' hn' => ?_) H1 k1
        rw [hch] at hch'
        cases hch'
        simp [hn'] at b
    · exact kE (fun ch hch _ => hno ch hch) H1 k1
end
end FT
namespace FT
open PySem L2 FV
section
variable {P : Program} {w : World} {K : PySem.W.Frag} {mg : Str → Option Value} {base : Heap} {t : Adr}
def ef (n k : Addr) (d : Rc22.Item) : List (Str × V) := [("name", .ref n), ("key", .ref k), ("kind", .int (d.kind : Nat)), ("left", .int (d.left : Nat)), ("right", .int (d.right : Nat)), ("first_below", .int (d.below : Nat)), ("begins_at", .int (d.start : Nat)), ("size", .int (d.size : Nat))]
theorem ef_name (n k : Addr) (d : Rc22.Item) : (ef n k d).lookup ("name" : Str) = some (.ref n) := by kernel_rfl
theorem ef_key (n k : Addr) (d : Rc22.Item) : (ef n k d).lookup ("key" : Str) = some (.ref k) := by kernel_rfl
theorem ef_kind (n k : Addr) (d : Rc22.Item) : (ef n k d).lookup ("kind" : Str) = some (.int (d.kind : Nat)) := by kernel_rfl
theorem ef_left (n k : Addr) (d : Rc22.Item) : (ef n k d).lookup ("left" : Str) = some (.int (d.left : Nat)) := by kernel_rfl
theorem ef_right (n k : Addr) (d : Rc22.Item) : (ef n k d).lookup ("right" : Str) = some (.int (d.right : Nat)) := by kernel_rfl
theorem ef_below (n k : Addr) (d : Rc22.Item) : (ef n k d).lookup ("first_below" : Str) = some (.int (d.below : Nat)) := by kernel_rfl
theorem ef_start (n k : Addr) (d : Rc22.Item) : (ef n k d).lookup ("begins_at" : Str) = some (.int (d.start : Nat)) := by kernel_rfl
theorem ef_size (n k : Addr) (d : Rc22.Item) : (ef n k d).lookup ("size" : Str) = some (.int (d.size : Nat)) := by kernel_rfl
theorem ef_put (n k : Addr) (d : Rc22.Item) : putF "size" (.int (d.size : Nat)) (putF "begins_at" (.int (d.start : Nat)) (putF "first_below" (.int (d.below : Nat)) (putF "right" (.int (d.right : Nat)) (putF "left" (.int (d.left : Nat)) (putF "kind" (.int (d.kind : Nat)) (putF "key" (.ref k) (putF "name" (.ref n) [])))))))
  = ef n k d := by kernel_rfl
theorem put_name (n k : Addr) : (putF "name" (.ref n) []).lookup ("name" : Str) = some (.ref n) := by kernel_rfl
def EntryAt (t : Adr) (H : Hp) (v : V) (d : Rc22.Item) : Prop := (d.kind = 0 ∧ v = .non) ∨
  (d.kind ≠ 0 ∧ ∃ (a dx n k : Addr), v = .ref a ∧ H a = some (.ins t.c_Entry dx (ef n k d)) ∧ H n = some (.lst (nV (nb d.name))) ∧ H k = some (.lst (nV (key (nb d.name)))) ∧ d.name ≠ [])
theorem ne_bl {H : Hp} {n l : Addr} {xs : List Nat} {bs : List Bool} (h1 : H n = some (.lst (nV xs))) (hx : xs ≠ []) (h2 : H l = some (.lst (bs.map V.bl))) : n ≠ l := by
  refine ne_of h1 h2 fun z => ?_
  injection z with z
  cases xs with
  | nil => exact hx rfl
  | cons x xs =>
    cases bs with
    | nil => simp [nV] at z
    | cons b bs => simp [nV] at z
theorem EntryAt.keep {H H' : Hp} {v : V} {d : Rc22.Item} (h : EntryAt t H v d) (k : Kp [] H H') : EntryAt t H' v d := by
  rcases h with h | ⟨h0, a, dx, n, kk, e, h1, h2, h3, h4⟩
  · exact .inl h
  · exact .inr ⟨h0, a, dx, n, kk, e, k.nil h1, k.nil h2, k.nil h3, h4⟩
theorem EntryAt.keepL {H H' : Hp} {v : V} {d : Rc22.Item} {l : Addr} {bs : List Bool} (h : EntryAt t H v d) (hl : H l = some (.lst (bs.map V.bl))) (k : Kp [l] H H') : EntryAt t H' v d := by
  rcases h with h | ⟨h0, a, dx, n, kk, e, h1, h2, h3, h4⟩
  · exact .inl h
  · refine .inr ⟨h0, a, dx, n, kk, e, k.at h1 ?_, k.at h2 ?_, k.at h3 ?_, h4⟩
    · simpa using ne_of h1 hl (by intro z; cases z)
    · have : nb d.name ≠ [] := by intro z; exact h4 (by simpa using z)
      simpa using ne_bl h2 this hl
    · simpa using ne_bl h3 (by simp [key]) hl
def spEntry (t : Adr) : Sp := fun vs H Q E => ∃ (p dx a : Addr) (r : List Nat), vs = [.ref p, .ref a] ∧ H p = some (.ins t.c_Entry dx []) ∧ H a = some (.lst (nV r)) ∧ r.length = 128 ∧
  (∀ (j : Nat) (n k : Addr) (H' : Hp), NameOk r j → H n = none → H k = none → H' p = some (.ins t.c_Entry dx (ef n k (itemOf r []))) → H' n = some (.lst (nV (chars r j))) → H' k = some (.lst (nV (key (chars r j)))) → (∀ b o, H b = some o → b ≠ p → H' b = some o) → Q .non H') ∧
  ((∀ j, ¬ NameOk r j) → ∀ H', (∀ b o, H b = some o → b ≠ p → H' b = some o) → E (.ref t.x_NotAStore) none H')
theorem ok_Entry_init (T : Txt K mg t) : FnOk P w K mg base (CXE P w) 4 t.a_Entry_init t.d_Entry_init ["self", "row"] (spEntry t) := by
  refine T.F_Entry_init.okX sc_Entry_init (fun vs H Q E h => ?_) (fun cdv A outer s H vs Q E hr h => ?_)
  · obtain ⟨p, dx, a, r, rfl, _⟩ := h
    rfl
  · obtain ⟨p, dx, a, r, rfl, hp, hA, hl, k, kE⟩ := h
    have hr2 : Room 2 _ := hr.mono (by decide)
    have nap : a ≠ p := ne_of hA hp (by intro z; cases z)
    refine ⟨_, pss_cons (ps_fld (pv 0) (pe_call (ok_read_name T) hr rfl T.g_read_name T.F_read_name.kp T.b_read_name .nil passX (pa_cons (pv 1) pa_nil)) rfl)
      (pss_cons (ps_fld (pv 0) (pe_call (ok_key_of T) hr2 rfl T.g_key_of T.F_key_of.kp T.b_key_of .nil pass0 (pa_cons (pe_fld (pv 0) rfl) pa_nil)) rfl)
      (pss_cons (ps_fld (pv 0) (pe_ix ix_list (pv 1) pe_int (fun _ _ => rfl)) rfl)
      (pss_cons (ps_fld (pv 0) (pe_call (ok_four_bytes T) hr2 rfl T.g_four_bytes T.F_four_bytes.kp T.b_four_bytes .nil pass0 (pa_cons (pv 1) (pa_cons pe_int pa_nil))) rfl)
      (pss_cons (ps_fld (pv 0) (pe_call (ok_four_bytes T) hr2 rfl T.g_four_bytes T.F_four_bytes.kp T.b_four_bytes .nil pass0 (pa_cons (pv 1) (pa_cons pe_int pa_nil))) rfl)
      (pss_cons (ps_fld (pv 0) (pe_call (ok_four_bytes T) hr2 rfl T.g_four_bytes T.F_four_bytes.kp T.b_four_bytes .nil pass0 (pa_cons (pv 1) (pa_cons pe_int pa_nil))) rfl)
      (pss_cons (ps_fld (pv 0) (pe_call (ok_four_bytes T) hr2 rfl T.g_four_bytes T.F_four_bytes.kp T.b_four_bytes .nil pass0 (pa_cons (pv 1) (pa_cons pe_int pa_nil))) rfl)
      (pss_one (ps_fld (pv 0) (pe_call (ok_four_bytes T) hr2 rfl T.g_four_bytes T.F_four_bytes.kp T.b_four_bytes .nil pass0 (pa_cons (pv 1) (pa_cons pe_int pa_nil))) rfl))))))))
      , ?_⟩
    refine ⟨_, rfl, a, r, rfl, SqL.of hA, hl, fun j n H1 hN hn0 k1 hn => ?_, fun hno H1 k1 => kE hno H1 fun b o e _ => k1.nil e⟩
    have npn : n ≠ p := (ne_of_none hp hn0).symm
    have hp1 := k1.nil hp
    have hA1 := k1.nil hA
    refine ⟨_, rfl, p, t.c_Entry, dx, [], rfl, hp1, T.cl_Entry, T.n_Entry_name, (by show 0 < 1000; decide), ?_⟩
    refine ⟨_, rfl, p, t.c_Entry, dx, _, _, rfl, upd_same, T.cl_Entry, T.n_Entry_name, put_name n n, n, chars r j, rfl, SqL.of (by rw [upd_ne npn]; exact hn), ?_, fun q H2 hq k2 hq2 => ?_⟩
    · rw [chars_length]; have := hN.most; omega
    have hp2 := k2.nil (p := p) upd_same
    have hn2 : H2 n = some (.lst (nV (chars r j))) := k2.nil (by rw [upd_ne npn]; exact hn)
    have hA2 : H2 a = some (.lst (nV r)) := k2.nil (by rw [upd_ne nap]; exact hA1)
    have nqp : q ≠ p := (ne_of_none upd_same hq).symm
    have hSq : ∀ o, SqL K (upd H2 p o) a (nV r) := fun o => SqL.of (by rw [upd_ne nap]; exact hA2)
    refine ⟨_, rfl, p, t.c_Entry, dx, _, rfl, hp2, T.cl_Entry, T.n_Entry_key, (by show 1 < 1000; decide), ?_⟩
    refine ⟨_, rfl, a, _, _, _, rfl, rfl, hSq _, nV_at (i := 66) rfl (by omega), _, rfl, p, t.c_Entry, dx, _, rfl, upd_same, T.cl_Entry, T.n_Entry_kind, (by show 2 < 1000; decide), ?_⟩
    rw [upd_upd]
    refine ⟨_, rfl, a, r, 68, rfl, hSq _, by omega, _, rfl, p, t.c_Entry, dx, _, rfl, upd_same, T.cl_Entry, T.n_Entry_left, (by show 3 < 1000; decide), ?_⟩
    rw [upd_upd]
    refine ⟨_, rfl, a, r, 72, rfl, hSq _, by omega, _, rfl, p, t.c_Entry, dx, _, rfl, upd_same, T.cl_Entry, T.n_Entry_right, (by show 4 < 1000; decide), ?_⟩
    rw [upd_upd]
    refine ⟨_, rfl, a, r, 76, rfl, hSq _, by omega, _, rfl, p, t.c_Entry, dx, _, rfl, upd_same, T.cl_Entry, T.n_Entry_first_below, (by show 5 < 1000; decide), ?_⟩
    rw [upd_upd]
    refine ⟨_, rfl, a, r, 116, rfl, hSq _, by omega, _, rfl, p, t.c_Entry, dx, _, rfl, upd_same, T.cl_Entry, T.n_Entry_begins_at, (by show 6 < 1000; decide), ?_⟩
    rw [upd_upd]
    refine ⟨_, rfl, a, r, 120, rfl, hSq _, by omega, _, rfl, p, t.c_Entry, dx, _, rfl, upd_same, T.cl_Entry, T.n_Entry_size, (by show 7 < 1000; decide), ?_⟩
    rw [upd_upd]
    have hq0 : H q = none := k1.nfree (by rw [upd_ne nqp] at hq; exact hq)
    refine k j n q _ hN hn0 hq0 ?_ (by rw [upd_ne npn]; exact hn2) (by rw [upd_ne nqp]; exact hq2) fun b o e hb => ?_
    · rw [upd_same]
      exact congrArg (fun z => some (HO.ins t.c_Entry dx z)) (ef_put n q (itemOf r []))
    · rw [upd_ne hb]
      exact k2.nil (by rw [upd_ne hb]; exact k1.nil e)
def kindOk (d : Rc22.Item) : Prop := (d.kind = 1 → d.start = 0 ∧ d.size = 0) ∧ (d.kind = 2 → d.below = Rc22.NONE) ∧ (d.kind = 5 → d.left = Rc22.NONE ∧ d.right = Rc22.NONE)
def spHoldKind (t : Adr) : Sp := fun vs H Q E => ∃ (a dx n k : Addr) (d : Rc22.Item), vs = [.ref a] ∧ H a = some (.ins t.c_Entry dx (ef n k d)) ∧ (kindOk d → Q .non H) ∧ (¬ kindOk d → E (.ref t.x_NotAStore) none H)
theorem bl_and {t1 t2 : TE} {σ : St} {H : Hp} {Q : VK} {a b : Bool} (h1 : ∀ Q1 : VK, Q1 (.bl a) H → t1 σ H Q1) (h2 : ∀ Q1 : VK, Q1 (.bl b) H → t2 σ H Q1) (h : Q (.bl (a && b)) H) : tAndV t1 t2 σ H Q := by
  refine h1 _ ⟨a, rfl, ?_⟩
  cases a with
  | false => exact iteF h
  | true => exact iteT (h2 _ h)
theorem ok_hold_kind (T : Txt K mg t) : FnOk P w K mg base (CXE P w) 2 t.a_hold_kind t.d_hold_kind ["entry"] (spHoldKind t) := by
  refine T.F_hold_kind.okX sc_hold_kind (fun vs H Q E h => ?_) (fun cdv A outer s H vs Q E hr h => ?_)
  · obtain ⟨a, dx, n, k, d, rfl, _⟩ := h
    rfl
  · obtain ⟨a, dx, n, k, d, rfl, ha, hQ, hE⟩ := h
    obtain ⟨u1, hu1, ru1⟩ := T.k_FOLDER
    obtain ⟨u2, hu2, ru2⟩ := T.k_FILE
    obtain ⟨u3, hu3, ru3⟩ := T.k_ROOT
    obtain ⟨u4, hu4, ru4⟩ := T.k_FREE
    refine ⟨_, pss_cons (ps_if (pt_cmpR op_eq (pe_fld (pv 0) rfl) (pe_glob rfl hu1 ru1) (nomark _)) (pss_one (ps_expr (pe_call (ok_hold T) hr rfl T.g_hold T.F_hold.kp T.b_hold .nil passX (pa_cons (pe_and (pe_cmpR op_eq (pe_fld (pv 0) rfl) pe_int (nomark _)) (pe_one (pe_cmpR op_eq (pe_fld (pv 0) rfl) pe_int (nomark _)))) (pa_cons pe_str pa_nil))))) pss_nil)
      (pss_cons (ps_if (pt_cmpR op_eq (pe_fld (pv 0) rfl) (pe_glob rfl hu2 ru2) (nomark _)) (pss_one (ps_expr (pe_call (ok_hold T) hr rfl T.g_hold T.F_hold.kp T.b_hold .nil passX (pa_cons (pe_cmpR op_eq (pe_fld (pv 0) rfl) (pe_glob rfl hu4 ru4) (nomark _)) (pa_cons pe_str pa_nil))))) pss_nil)
      (pss_one (ps_if (pt_cmpR op_eq (pe_fld (pv 0) rfl) (pe_glob rfl hu3 ru3) (nomark _)) (pss_one (ps_expr (pe_call (ok_hold T) hr rfl T.g_hold T.F_hold.kp T.b_hold .nil passX (pa_cons (pe_and (pe_cmpR op_eq (pe_fld (pv 0) rfl) (pe_glob rfl hu4 ru4) (nomark _)) (pe_one (pe_cmpR op_eq (pe_fld (pv 0) rfl) (pe_glob rfl hu4 ru4) (nomark _)))) (pa_cons pe_str pa_nil))))) pss_nil))), ?_⟩
    have eqI : ∀ {x : Nat} {y : Nat}, decide (V.int (x : Int) = V.int (y : Int)) = decide (x = y) := fun {x y} => by
      rw [int_dec, Bool.beq_eq_decide_eq]
    refine ⟨_, rfl, a, t.c_Entry, dx, _, _, rfl, ha, T.cl_Entry, T.n_Entry_kind, ef_kind n k d, rfl, _, rfl, ?_⟩
    have step3 : (kindOk d ↔ (d.kind = 5 → d.left = Rc22.NONE ∧ d.right = Rc22.NONE)) →
      tIfS (tTest (tOp rEq (tFld K (tVar 0) "kind") (tC (.int 5)))) (tDrop (tCall (spHold t) [] E (tCons (tAndV (tOp rEq (tFld K (tVar 0) "left") (tC (.int 4294967295))) (tOp rEq (tFld K (tVar 0) "right") (tC (.int 4294967295)))) (tCons (tC (.str "nothing left or right of the root")) tNil)))) tNext
        { nx := fun _ H' => Q .non H', rt := Q } (L2.start N_hold_kind [V.ref a]) H := fun hiff => by
      refine ⟨_, rfl, a, t.c_Entry, dx, _, _, rfl, ha, T.cl_Entry, T.n_Entry_kind, ef_kind n k d, rfl, _, rfl, ?_⟩
      rw [show (V.int 5) = V.int ((5 : Nat) : Int) from rfl, eqI]
      refine ite2 (fun z => ?_) (fun z => ?_)
      · have z := of_decide_eq_true z
        refine bl_and (a := decide (d.left = Rc22.NONE)) (b := decide (d.right = Rc22.NONE)) (fun Q1 q => ?_) (fun Q1 q => ?_) ?_
        · refine ⟨_, rfl, a, t.c_Entry, dx, _, _, rfl, ha, T.cl_Entry, T.n_Entry_left, ef_left n k d, rfl, ?_⟩
          rw [show (V.int 4294967295) = V.int ((Rc22.NONE : Nat) : Int) from rfl, eqI]; exact q
        · refine ⟨_, rfl, a, t.c_Entry, dx, _, _, rfl, ha, T.cl_Entry, T.n_Entry_right, ef_right n k d, rfl, ?_⟩
          rw [show (V.int 4294967295) = V.int ((Rc22.NONE : Nat) : Int) from rfl, eqI]; exact q
        · refine ⟨_, _, rfl, fun b => hQ (hiff.mpr fun _ => ?_), fun b => hE fun c => ?_⟩
          · simpa using b
          · have := hiff.mp c z
            simp [this.1, this.2] at b
      · exact hQ (hiff.mpr fun c => absurd (decide_eq_true c) z)
    have step2 : (d.kind = 1 → d.start = 0 ∧ d.size = 0) →
      tSeq (tIfS (tTest (tOp rEq (tFld K (tVar 0) "kind") (tC (.int 2)))) (tDrop (tCall (spHold t) [] E (tCons (tOp rEq (tFld K (tVar 0) "first_below") (tC (.int 4294967295))) (tCons (tC (.str "nothing below a file")) tNil)))) tNext)
        (tIfS (tTest (tOp rEq (tFld K (tVar 0) "kind") (tC (.int 5)))) (tDrop (tCall (spHold t) [] E (tCons (tAndV (tOp rEq (tFld K (tVar 0) "left") (tC (.int 4294967295))) (tOp rEq (tFld K (tVar 0) "right") (tC (.int 4294967295)))) (tCons (tC (.str "nothing left or right of the root")) tNil)))) tNext)
        { nx := fun _ H' => Q .non H', rt := Q } (L2.start N_hold_kind [V.ref a]) H := fun h1 => by
      refine ⟨_, rfl, a, t.c_Entry, dx, _, _, rfl, ha, T.cl_Entry, T.n_Entry_kind, ef_kind n k d, rfl, _, rfl, ?_⟩
      rw [show (V.int 2) = V.int ((2 : Nat) : Int) from rfl, eqI]
      refine ite2 (fun z => ?_) (fun z => ?_)
      · have z := of_decide_eq_true z
        refine ⟨_, rfl, a, t.c_Entry, dx, _, _, rfl, ha, T.cl_Entry, T.n_Entry_first_below, ef_below n k d, rfl, _, _, rfl, fun b => step3 ⟨fun c => c.2.2, fun c => ⟨h1, fun _ => ?_, c⟩⟩, fun b => hE fun c => ?_⟩
        · rw [show (V.int 4294967295) = V.int ((Rc22.NONE : Nat) : Int) from rfl, eqI] at b
          exact of_decide_eq_true b
        · rw [show (V.int 4294967295) = V.int ((Rc22.NONE : Nat) : Int) from rfl, eqI] at b
          exact of_decide_eq_false b (c.2.1 z)
      · exact step3 ⟨fun c => c.2.2, fun c => ⟨h1, fun q => absurd (decide_eq_true q) z, c⟩⟩
    rw [show (V.int 1) = V.int ((1 : Nat) : Int) from rfl, eqI]
    refine ite2 (fun z => ?_) (fun z => ?_)
    · have z := of_decide_eq_true z
      refine bl_and (a := decide (d.start = 0)) (b := decide (d.size = 0)) (fun Q1 q => ?_) (fun Q1 q => ?_) ?_
      · refine ⟨_, rfl, a, t.c_Entry, dx, _, _, rfl, ha, T.cl_Entry, T.n_Entry_begins_at, ef_start n k d, rfl, ?_⟩
        rw [show (V.int 0) = V.int ((0 : Nat) : Int) from rfl, eqI]; exact q
      · refine ⟨_, rfl, a, t.c_Entry, dx, _, _, rfl, ha, T.cl_Entry, T.n_Entry_size, ef_size n k d, rfl, ?_⟩
        rw [show (V.int 0) = V.int ((0 : Nat) : Int) from rfl, eqI]; exact q
      · refine ⟨_, _, rfl, fun b => step2 fun _ => ?_, fun b => hE fun c => ?_⟩
        · simpa using b
        · have := c.1 z
          simp [this.1, this.2] at b
    · exact step2 fun q => absurd (decide_eq_true q) z
end
end FT
namespace FT
open PySem L2 FV
section
variable {P : Program} {w : World} {K : PySem.W.Frag} {mg : Str → Option Value} {base : Heap} {t : Adr}
theorem eqI {x y : Nat} : decide (V.int (x : Int) = V.int (y : Int)) = decide (x = y) := by rw [int_dec, Bool.beq_eq_decide_eq]
theorem tEq {x : Nat} {z : Int} (y : Nat) (h : decide (V.int (x : Int) = V.int z) = true) (hz : z = (y : Int) := by rfl) : x = y := by
  subst hz; rw [eqI] at h; exact of_decide_eq_true h
theorem tNe {x : Nat} {z : Int} (y : Nat) (h : decide (V.int (x : Int) = V.int z) = false) (hz : z = (y : Int) := by rfl) : x ≠ y := by
  subst hz; rw [eqI] at h; exact of_decide_eq_false h
theorem tNt {x : Nat} {z : Int} (y : Nat) (h : ¬ decide (V.int (x : Int) = V.int z) = true) (hz : z = (y : Int) := by rfl) : x ≠ y := tNe y (by simpa using h) hz
theorem inV_nat (x : Nat) (ys : List Nat) : inV (V.int (x : Int)) (nV ys) = ys.contains x := by
  unfold inV nV
  rw [List.any_map]
  induction ys with
  | nil => rfl
  | cons y ys ih =>
    rw [List.any_cons, List.contains_cons, ih]
    congr 1
    show ((y : Int) == (x : Int)) = (x == y)
    by_cases h : x = y
    · subst h; simp
    · have h1 : ((y : Int) == (x : Int)) = false := by simp; omega
      have h2 : (x == y) = false := by simpa using h
      rw [h1, h2]
def spReadEntry (t : Adr) : Sp := fun vs H Q E => ∃ (a : Addr) (e : Rc22.Bytes) (i : Nat), vs = [.ref a, .int (i : Int)] ∧ H a = some (.lst (nV (nb e))) ∧ e.length = 128 ∧
  (∀ (d : Rc22.Item) (v : V) (H' : Hp), Rc22.item e = some d → FV.placed i d → Kp [] H H' → EntryAt t (nw H H') v d → Q v H') ∧ ((∀ d, Rc22.item e = some d → ¬ FV.placed i d) → ∀ H', Kp [] H H' → E (.ref t.x_NotAStore) none H')
theorem ok_read_entry (T : Txt K mg t) : FnOk P w K mg base (CXE P w) 6 t.a_read_entry t.d_read_entry ["row", "number"] (spReadEntry t) := by
  refine T.F_read_entry.okX sc_read_entry (fun vs H Q E h => ?_) (fun cdv A outer s H vs Q E hr h => ?_)
  · obtain ⟨a, e, i, rfl, _⟩ := h
    rfl
  · obtain ⟨a, e, i, rfl, hA, hl, k, kE⟩ := h
    obtain ⟨u0, hu0, ru0⟩ := T.k_NOTHING
    obtain ⟨u1, hu1, ru1⟩ := T.k_FOLDER
    obtain ⟨u2, hu2, ru2⟩ := T.k_FILE
    obtain ⟨u3, hu3, ru3⟩ := T.k_ROOT
    have hr1 : Room 1 _ := hr.mono (by decide)
    have hr2 : Room 2 _ := hr.mono (by decide)
    have hrl : (nb e).length = 128 := by rw [nb_length]; exact hl
    obtain ⟨tt, htail, hq⟩ : ∃ tt, PSs (cxOf (CXE P w) P w K mg base N_read_entry "read_entry" (defScope s_read_entry) t.a_read_entry cdv A outer s H E) ((defBody s_read_entry).drop 2) tt ∧
        ∀ H1, Kp [] H H1 → (if i = 0 then g (nb e) 66 = 5 else g (nb e) 66 = 0 ∨ g (nb e) 66 = 1 ∨ g (nb e) 66 = 2) →
          tt { nx := fun _ H' => Q .non H', rt := Q } [some (.ref a), some (.int (i : Int)), some (.int (g (nb e) 66 : Nat)), none] H1 := by
      refine ⟨_, pss_cons (ps_if (pt_cmpR op_eq (pv 2) (pe_glob rfl hu0 ru0) (nomark _)) (pss_one (ps_ret pe_non)) pss_nil)
        (pss_cons (ps_expr (pe_call (ok_hold T) hr1 rfl T.g_hold T.F_hold.kp T.b_hold .nil passX (pa_cons (pe_cmpR op_in_seq (pe_ix ix_list (pv 0) pe_int (fun _ _ => rfl)) (pe_tup (pa_cons pe_int (pa_cons pe_int pa_nil))) rfl) (pa_cons pe_str pa_nil))))
        (pss_cons (ps_expr (pe_call (ok_hold T) hr1 rfl T.g_hold T.F_hold.kp T.b_hold .nil passX (pa_cons (pe_cmpR op_eq (pe_call (ok_four_bytes T) hr2 rfl T.g_four_bytes T.F_four_bytes.kp T.b_four_bytes .nil pass0 (pa_cons (pv 0) (pa_cons pe_int pa_nil))) pe_int (nomark _)) (pa_cons pe_str pa_nil))))
        (pss_cons (ps_set (i := 3) sc_read_entry.nd rfl (Or.inl rfl) (pe_make T.mk_Entry (ok_Entry_init T) hr rfl T.g_Entry T.b_Entry_init .nil passX (pa_cons (pv 0) pa_nil)))
        (pss_cons (ps_expr (pe_call (ok_hold_kind T) hr2 rfl T.g_hold_kind T.F_hold_kind.kp T.b_hold_kind .nil passX (pa_cons (pv 3) pa_nil)))
        (pss_one (ps_ret (pv 3))))))), fun H1 k1 hk => ?_⟩
      have hA1 := k1.nil hA
      refine ⟨_, rfl, rfl, _, rfl, ?_⟩
      refine ite2 (fun z => ?_) (fun z => ?_)
      · have z := tEq 0 z
        refine k nothing .non H1 (item_nothing z) ?_ k1 (.inl ⟨rfl, rfl⟩)
        unfold FV.placed
        split
        · rename_i h0
          rw [if_pos h0] at hk
          omega
        · show (0 : Nat) ≠ 5
          decide
      · have z : ¬ g (nb e) 66 = 0 := tNt 0 z
        refine ⟨_, rfl, a, _, _, _, rfl, rfl, SqL.of hA1, nV_at (i := 67) rfl (by omega), (by show 2 ≤ sizeLine; decide), fun tp htp => ⟨tp, _, rfl, .inr (SqT.of upd_same), rfl, rfl, _, _, rfl, fun b => ?_, fun b => ?_⟩⟩
        rotate_left
        · refine kE (fun d hd _ => ?_) _ (k1.trans (Kp.new htp))
          have := (item_some hd z).1.flag
          have b : inV (V.int (g (nb e) 67 : Nat)) (nV [0, 1]) = false := b
          rw [inV_nat] at b
          have : g (nb e) 67 = 0 ∨ g (nb e) 67 = 1 := by omega
          simp at b
          omega
        have b67 : g (nb e) 67 ≤ 1 := by
          have b : inV (V.int (g (nb e) 67 : Nat)) (nV [0, 1]) = true := b
          rw [inV_nat] at b
          simp at b
          omega
        have k2 : Kp [] H (upd H1 tp (.tup [V.int 0, V.int 1])) := k1.trans (Kp.new htp)
        have hA2 := k2.nil hA
        refine ⟨_, rfl, a, nb e, 124, rfl, SqL.of hA2, by omega, rfl, _, _, rfl, fun b => ?_, fun b => ?_⟩
        rotate_left
        · refine kE (fun d hd _ => ?_) _ k2
          have := (item_some hd z).1.zero
          exact (tNe 0 b) this
        have b124 : n4 (nb e) 124 = 0 := by
          exact tEq 0 b
        refine ⟨_, rfl, fun x dx hx hdx nex => ?_⟩
        have hA3 : ∀ o o', (upd (upd (upd H1 tp (.tup [V.int 0, V.int 1])) dx o) x o') a = some (.lst (nV (nb e))) := fun o o' => by
          rw [upd_ne (ne_of_none hA2 hx), upd_ne (ne_of_none hA2 hdx)]; exact hA2
        have kk : ∀ (H3 : Hp) (C : Addr), (∀ b o, (upd (upd (upd H1 tp (.tup [V.int 0, V.int 1])) dx (.own x)) x (.ins C dx [])) b = some o → b ≠ x → H3 b = some o) → Kp [] H H3 := fun H3 C h3 b o q _ => by
          have q2 := k2.nil q
          refine h3 b o ?_ (ne_of_none q2 hx)
          rw [upd_ne (ne_of_none q2 hx), upd_ne (ne_of_none q2 hdx)]; exact q2
        have kx : Kp [] H (upd (upd (upd H1 tp (.tup [V.int 0, V.int 1])) dx (.own x)) x (.ins t.c_Entry dx [])) := fun b o q _ => by
          have q2 := k2.nil q
          rw [upd_ne (ne_of_none q2 hx), upd_ne (ne_of_none q2 hdx)]; exact q2
        refine ⟨x, dx, a, nb e, rfl, upd_same, hA3 _ _, hrl, fun j n kq H3 hN hn0 hk0 hx3 hn3 hk3 h3 => ⟨rfl, ?_⟩, fun hno H3 h3 => ?_⟩
        rotate_left
        · refine kE (fun d hd _ => ?_) H3 (kk H3 _ h3)
          obtain ⟨_, n, hn, _⟩ := item_some hd z
          exact hno _ (nameIn_some hn).1
        have k3 := kk H3 _ h3
        have hname := nameIn_of hN
        have hnb : nb ((chars (nb e) j).map UInt8.ofNat) = chars (nb e) j := nb_chars hN.ok
        have ent : EntryAt t (nw H H3) (.ref x) (itemOf (nb e) ((chars (nb e) j).map UInt8.ofNat)) := by
          refine .inr ⟨z, x, dx, n, kq, rfl, nw_at (k2.nfree hx) hx3, nw_at (kx.nfree hn0) ?_, nw_at (kx.nfree hk0) ?_, ?_⟩
          · show H3 n = some (.lst (nV (nb ((chars (nb e) j).map UInt8.ofNat))))
            rw [hnb]; exact hn3
          · show H3 kq = some (.lst (nV (key (nb ((chars (nb e) j).map UInt8.ofNat)))))
            rw [hnb]; exact hk3
          · intro q
            have q : (chars (nb e) j).map UInt8.ofNat = [] := q
            have := congrArg List.length q
            rw [List.length_map, chars_length, List.length_nil] at this
            have := hN.one
            omega
        refine ⟨_, rfl, x, dx, n, kq, itemOf (nb e) [], rfl, hx3, fun hko => ?_, fun hko => ?_⟩
        · have hs : Sound (nb e) := by
            refine ⟨b67, b124, ?_, hko.2.1, hko.1⟩
            split at hk
            · exact .inr (.inr hk)
            · rcases hk with q | q | q
              · exact absurd q z
              · exact .inl q
              · exact .inr (.inl q)
          refine ⟨_, rfl, k _ _ H3 (item_of hs hname) ?_ k3 ent⟩
          unfold FV.placed
          split
          · rename_i h0
            rw [if_pos h0] at hk
            have := hko.2.2 hk
            exact ⟨hk, this.1, this.2⟩
          · rename_i h0
            rw [if_neg h0] at hk
            show g (nb e) 66 ≠ 5
            omega
        · refine kE (fun d hd hpl => hko ?_) H3 k3
          obtain ⟨hs, n', _, rfl⟩ := item_some hd z
          refine ⟨hs.fold, hs.file, fun h5 => ?_⟩
          unfold FV.placed at hpl
          split at hpl
          · exact ⟨hpl.2.1, hpl.2.2⟩
          · exact absurd h5 hpl
    refine ⟨_, pss_cons (ps_set (i := 2) sc_read_entry.nd rfl (Or.inl rfl) (pe_ix ix_list (pv 0) pe_int (fun _ _ => rfl)))
      (pss_cons (ps_if (pt_cmpR op_eq (pv 1) pe_int (nomark _)) (pss_one (ps_expr (pe_call (ok_hold T) hr1 rfl T.g_hold T.F_hold.kp T.b_hold .nil passX (pa_cons (pe_cmpR op_eq (pv 2) (pe_glob rfl hu3 ru3) (nomark _)) (pa_cons pe_str pa_nil)))))
        (pss_one (ps_expr (pe_call (ok_hold T) hr1 rfl T.g_hold T.F_hold.kp T.b_hold .nil passX (pa_cons (pe_cmpR op_in_seq (pv 2) (pe_tup (pa_cons (pe_glob rfl hu0 ru0) (pa_cons (pe_glob rfl hu1 ru1) (pa_cons (pe_glob rfl hu2 ru2) pa_nil)))) rfl) (pa_cons pe_str pa_nil))))))
      htail), ?_⟩
    refine ⟨_, rfl, a, _, _, _, rfl, rfl, SqL.of hA, nV_at (i := 66) rfl (by omega), _, rfl, rfl, _, rfl, ?_⟩
    refine ite2 (fun z => ?_) (fun z => ?_)
    · have z := tEq 0 z
      refine ⟨_, rfl, rfl, _, _, rfl, fun b => ?_, fun b => ?_⟩
      · refine hq H (Kp.refl _ _) ?_
        rw [if_pos z]
        exact tEq 5 b
      · refine kE (fun d hd hpl => ?_) H (Kp.refl _ _)
        have b := tNe 5 b
        unfold FV.placed at hpl
        rw [if_pos z] at hpl
        by_cases h0 : g (nb e) 66 = 0
        · rw [item_nothing h0] at hd
          cases hd
          have := hpl.1
          exact absurd this (by decide)
        · obtain ⟨_, n, _, rfl⟩ := item_some hd h0
          exact b hpl.1
    · have z : ¬ i = 0 := tNt 0 z
      refine ⟨_, rfl, (by show 3 ≤ sizeLine; decide), fun tp htp => ⟨tp, _, rfl, .inr (SqT.of upd_same), rfl, rfl, _, _, rfl, fun b => ?_, fun b => ?_⟩⟩
      · refine hq _ (Kp.new htp) ?_
        rw [if_neg z]
        have b : inV (V.int (g (nb e) 66 : Nat)) (nV [0, 1, 2]) = true := b
        rw [inV_nat] at b
        simpa using b
      · refine kE (fun d hd hpl => ?_) _ (Kp.new htp)
        have b : inV (V.int (g (nb e) 66 : Nat)) (nV [0, 1, 2]) = false := b
        rw [inV_nat] at b
        have b : ¬ (g (nb e) 66 = 0 ∨ g (nb e) 66 = 1 ∨ g (nb e) 66 = 2) := by simpa using b
        unfold FV.placed at hpl
        rw [if_neg z] at hpl
        obtain ⟨hs, n, _, rfl⟩ := item_some hd (fun q => b (.inl q))
        have := hs.kind
        have hpl : g (nb e) 66 ≠ 5 := hpl
        omega
end
end FT
namespace FT
open PySem L2 FV
section
variable {P : Program} {w : World} {K : PySem.W.Frag} {mg : Str → Option Value} {base : Heap} {t : Adr}
structure EntriesAt (t : Adr) (H : Hp) (q : Addr) (vs : List V) (ds : List Rc22.Item) : Prop where
  ls : H q = some (.lst vs)
  len : vs.length = ds.length
  at_ : ∀ (i : Nat) (v : V) (d : Rc22.Item), vs[i]? = some v → ds[i]? = some d → EntryAt t H v d
theorem EntryAt.form {H : Hp} {v : V} {d : Rc22.Item} (h : EntryAt t H v d) : v = .non ∨ ∃ a, v = .ref a := by
  rcases h with h | ⟨_, a, _, _, _, e, _⟩
  · exact .inl h.2
  · exact .inr ⟨a, e⟩
theorem EntriesAt.form {H : Hp} {q : Addr} {vs : List V} {ds : List Rc22.Item} (h : EntriesAt t H q vs ds) : ∀ v ∈ vs, v = .non ∨ ∃ a, v = .ref a := fun v hv => by
  obtain ⟨i, hi⟩ := List.mem_iff_getElem?.mp hv
  have hil := (List.getElem?_eq_some_iff.mp hi).1
  rw [h.len] at hil
  exact (h.at_ i v _ hi (List.getElem?_eq_getElem hil)).form
theorem ne_es {H : Hp} {n q : Addr} {xs : List Nat} {es : List V} (h1 : H n = some (.lst (nV xs))) (hx : xs ≠ []) (h2 : H q = some (.lst es)) (hf : ∀ v ∈ es, v = .non ∨ ∃ a, v = .ref a) : n ≠ q := by
  refine ne_of h1 h2 fun z => ?_
  injection z with z
  cases xs with
  | nil => exact hx rfl
  | cons x xs =>
    have : V.int (x : Int) ∈ es := by rw [← z]; simp [nV]
    rcases hf _ this with e | ⟨a, e⟩ <;> cases e
theorem EntryAt.keepE {H H' : Hp} {v : V} {d : Rc22.Item} {q : Addr} {es : List V} (h : EntryAt t H v d) (hq : H q = some (.lst es)) (hf : ∀ v ∈ es, v = .non ∨ ∃ a, v = .ref a) (k : Kp [q] H H') : EntryAt t H' v d := by
  rcases h with h | ⟨h0, a, dx, n, kk, e, h1, h2, h3, h4⟩
  · exact .inl h
  · refine .inr ⟨h0, a, dx, n, kk, e, k.at h1 ?_, k.at h2 ?_, k.at h3 ?_, h4⟩
    · simpa using ne_of h1 hq (by intro z; cases z)
    · have : nb d.name ≠ [] := by intro z; exact h4 (by simpa using z)
      simpa using ne_es h2 this hq hf
    · simpa using ne_es h3 (by simp [key]) hq hf
theorem EntriesAt.keep {H H' : Hp} {q : Addr} {vs : List V} {ds : List Rc22.Item} (h : EntriesAt t H q vs ds) (k : Kp [] H H') : EntriesAt t H' q vs ds :=
  ⟨k.nil h.ls, h.len, fun i v d hv hd => (h.at_ i v d hv hd).keep k⟩
theorem EntriesAt.keepL {H H' : Hp} {q l : Addr} {vs : List V} {ds : List Rc22.Item} {bs : List Bool} (h : EntriesAt t H q vs ds) (hl : H l = some (.lst (bs.map V.bl))) (hne : ds ≠ []) (k : Kp [l] H H') : EntriesAt t H' q vs ds := by
  refine ⟨k.at h.ls ?_, h.len, fun i v d hv hd => (h.at_ i v d hv hd).keepL hl k⟩
  have : q ≠ l := by
    refine ne_of h.ls hl fun z => ?_
    injection z with z
    have hf := h.form
    cases vs with
    | nil =>
      have := h.len
      cases ds with
      | nil => exact hne rfl
      | cons d ds => simp at this
    | cons v vs =>
      cases bs with
      | nil => simp at z
      | cons b bs =>
        rw [List.map_cons] at z
        have z := (List.cons.inj z).1
        rcases hf v List.mem_cons_self with e | ⟨a, e⟩
        · rw [e] at z; cases z
        · rw [e] at z; cases z
  simpa using this
structure GoodItems (b : Rc22.Bytes) (ds : List Rc22.Item) : Prop where
  len : ds.length = b.length / 128
  at_ : ∀ (i : Nat) (d : Rc22.Item), ds[i]? = some d → Rc22.item (Rc22.part b (128 * i) 128) = some d ∧ FV.placed i d
def spReadEntries (t : Adr) : Sp := fun vs H Q E => ∃ (c : Addr) (b : Rc22.Bytes), vs = [.ref c] ∧ H c = some (.lst (nV (nb b))) ∧ b.length % 128 = 0 ∧ b.length ≤ 65536 ∧
  (∀ (ds : List Rc22.Item) (q : Addr) (es : List V) (H' : Hp), GoodItems b ds → H q = none → Kp [] H H' → EntriesAt t (nw H H') q es ds → Q (.ref q) H') ∧ ((∀ ds, ¬ GoodItems b ds) → ∀ H', Kp [] H H' → E (.ref t.x_NotAStore) none H')
theorem ok_read_entries (T : Txt K mg t) : FnOk P w K mg base (CXE P w) 7 t.a_read_entries t.d_read_entries ["content"] (spReadEntries t) := by
  refine T.F_read_entries.okX sc_read_entries (fun vs H Q E h => ?_) (fun cdv A outer s H vs Q E hr h => ?_)
  · obtain ⟨c, b, rfl, _⟩ := h
    rfl
  · obtain ⟨c, b, rfl, hC, hb, hz, k, kE⟩ := h
    obtain ⟨u, hu, ru⟩ := T.k_ENTRY_SIZE
    have hs : sizeLine = 16777216 := sizeLine_eq
    refine ⟨_, pss_cons (ps_set (i := 1) sc_read_entries.nd rfl (Or.inl rfl) (pe_lst pa_nil))
      (pss_cons (ps_for passOwn rfl (pi_range3 rfl T.z_range (pa_cons pe_int (pa_cons (pe_callB call_len_seq (by rfl) T.z_len PySem.boot_len (pa_cons (pv 0) pa_nil)) (pa_cons (pe_glob rfl hu ru) pa_nil)))) (pg_name (i := 2) sc_read_entries.nd rfl (Or.inl rfl))
        (pss_one (ps_expr (pe_bm PySem.F.plainAttrs_list PySem.F.slot_list_append PySem.F.type_list_append mt_append (pv 1)
          (pa_cons (pe_call (ok_read_entry T) hr rfl T.g_read_entry T.F_read_entry.kp T.b_read_entry .nil passX (pa_cons (pe_slice sl_list (pv 0) (po_some (pv 2)) (po_some (pe_op op_add (pv 2) (pe_glob rfl hu ru))))
            (pa_cons (pe_callB call_len_seq (by rfl) T.z_len PySem.boot_len (pa_cons (pv 1) pa_nil)) pa_nil))) pa_nil)))))
      (pss_one (ps_ret (pv 1)))), ?_⟩
    refine ⟨(by show 0 ≤ sizeLine; decide), fun q hq => ?_⟩
    have k0 : Kp [] H (upd H q (.lst [])) := Kp.new hq
    refine ⟨_, rfl, c, _, rfl, .inl (SqL.of (k0.nil hC)), 0, _, 128, b.length / 128, rfl, by rw [nV_length, nb_length]; exact rgUp 128 (by decide) (by decide) hz (by omega), ?_⟩
    refine for_rangeC (fun i σ H2 => ∃ (v : Option V) (es : List V) (ds : List Rc22.Item), σ = [some (.ref c), some (.ref q), v] ∧ Kp [] H H2 ∧ EntriesAt t (nw H H2) q es ds ∧ ds.length = i ∧
      ∀ (j : Nat) (d : Rc22.Item), ds[j]? = some d → Rc22.item (Rc22.part b (128 * j) 128) = some d ∧ FV.placed j d)
      ⟨none, [], [], rfl, k0, ⟨nw_at hq upd_same, rfl, fun i v d hv => by simp at hv⟩, rfl, fun j d hd => by simp at hd⟩ ?_ ?_
    · rintro i σ H2 hi ⟨v, es, ds, rfl, k2, hE, hdl, hG⟩
      have hC2 := k2.nil hC
      have hEq : H2 q = some (.lst es) := nw_le.nil hE.ls
      refine ⟨_, rfl, .inl ⟨rfl, _, SqL.of hEq⟩, _, rfl, _, rfl, _, rfl, _, rfl, _, _, rfl, rfl, _, rfl, c, _, rfl, SqL.of hC2, fun rw_ hrw => ?_⟩
      have e1 : (0 + (i : Int) * 128) = ((128 * i : Nat) : Int) := by omega
      have e2 : (0 + (i : Int) * 128) + 128 = ((128 * i + 128 : Nat) : Int) := by omega
      have ecut : cutV (nV (nb b)) (some (0 + (i : Int) * 128)) (some ((0 + (i : Int) * 128) + 128)) = nV (nb (Rc22.part b (128 * i) 128)) := by
        rw [e2, e1, cut_nat, nV_drop, nV_take, nb_part]
        congr 2
        omega
      have hq2 := ne_of_none hEq hrw
      have hel : es.length = i := by rw [hE.len]; exact hdl
      refine ⟨_, rfl, q, _, rfl, .inl (SqL.of (by rw [upd_ne hq2]; exact hEq)), rw_, Rc22.part b (128 * i) 128, i, by rw [hel]; rfl, ?_, ?_, fun d v' H3 hd hpl k3 hV => ?_, fun hno H3 k3 => ?_⟩
      · rw [upd_same]
        exact congrArg (fun z => some (HO.lst z)) ecut
      · unfold Rc22.part
        rw [List.length_take, List.length_drop]; omega
      · have k23 : Kp [] H2 H3 := (Kp.new hrw).trans k3
        have hE3 : H3 q = some (.lst es) := k23.nil hEq
        refine ⟨q, _, v', rfl, rfl, hE3, by omega, ?_⟩
        refine ⟨_, es ++ [v'], ds ++ [d], rfl, fun b' o e hb' => ?_, ⟨nw_at hq upd_same, by simp [hE.len], fun j v'' d'' hv hd'' => ?_⟩, by simp [hdl], fun j d'' hd'' => ?_⟩
        · rw [upd_ne (ne_of_none e hq)]
          exact k23.nil (k2.nil e)
        · have kq : ∀ {v : V} {d : Rc22.Item}, EntryAt t (nw H H3) v d → EntryAt t (nw H (upd H3 q (.lst (es ++ [v'])))) v d := fun {v d} h => h.keepE (nw_at hq hE3) hE.form (nw_mono (Kp.old (by simp)))
          by_cases hj : j < es.length
          · rw [List.getElem?_append_left hj] at hv
            rw [List.getElem?_append_left (by rw [← hE.len]; exact hj)] at hd''
            exact kq ((hE.at_ j v'' d'' hv hd'').keep (nw_mono k23))
          · rw [List.getElem?_append_right (by omega)] at hv
            rw [List.getElem?_append_right (by rw [← hE.len]; omega), ← hE.len] at hd''
            have hj0 : j - es.length = 0 := by
              have := (List.getElem?_eq_some_iff.mp hv).1
              simp at this; omega
            rw [hj0] at hv hd''
            have e1 : v' = v'' := by simpa using hv
            have e2 : d = d'' := by simpa using hd''
            subst e1 e2
            exact kq (hV.keep (nw_kp (k2.trans (Kp.new hrw)) (Kp.refl [] _) (by simp)))
        · by_cases hj : j < ds.length
          · rw [List.getElem?_append_left hj] at hd''
            exact hG j d'' hd''
          · rw [List.getElem?_append_right (by omega)] at hd''
            have hj0 : j - ds.length = 0 := by
              have := (List.getElem?_eq_some_iff.mp hd'').1
              simp at this; omega
            rw [hj0] at hd''
            have e2 : d = d'' := by simpa using hd''
            subst e2
            have : j = i := by omega
            subst this
            exact ⟨hd, hpl⟩
      · refine kE (fun ds' hds => ?_) H3 ((k2.trans (Kp.new hrw)).trans k3)
        have hil : i < ds'.length := by rw [hds.len]; exact hi
        obtain ⟨h1, h2⟩ := hds.at_ i _ (List.getElem?_eq_getElem hil)
        exact hno _ h1 h2
    · rintro σ H2 ⟨v, es, ds, rfl, k2, hE, hdl, hG⟩
      exact ⟨_, rfl, k ds q es H2 ⟨hdl, hG⟩ hq k2 hE⟩
end
end FT
namespace FT
open PySem L2 FV
section
variable {P : Program} {w : World} {K : PySem.W.Frag} {mg : Str → Option Value} {base : Heap} {t : Adr}
theorem EntryAt.some {H : Hp} {v : V} {d : Rc22.Item} (h : EntryAt t H v d) (h0 : d.kind ≠ 0) : ∃ (a dx n k : Addr), v = .ref a ∧ H a = .some (.ins t.c_Entry dx (ef n k d)) ∧ H n = .some (.lst (nV (nb d.name))) ∧ H k = .some (.lst (nV (key (nb d.name)))) := by
  rcases h with h | ⟨_, a, dx, n, k, e, h1, h2, h3, _⟩
  · exact absurd h.1 h0
  · exact ⟨a, dx, n, k, e, h1, h2, h3⟩
theorem EntryAt.isnon {H : Hp} {v : V} {d : Rc22.Item} (h : EntryAt t H v d) : decide (v = V.non) = decide (d.kind = 0) := by
  rcases h with h | ⟨h0, a, dx, n, k, e, _⟩
  · rw [h.2]; simp [h.1]
  · rw [e]; simp [h0]
theorem EntriesAt.get {H : Hp} {q : Addr} {vs : List V} {ds : List Rc22.Item} (h : EntriesAt t H q vs ds) {i : Nat} (hi : i < ds.length) : ∃ v d, vs[i]? = some v ∧ ds[i]? = some d ∧ EntryAt t H v d := by
  have hv : vs[i]? = some (vs[i]'(by rw [h.len]; exact hi)) := List.getElem?_eq_getElem _
  have hd : ds[i]? = some ds[i] := List.getElem?_eq_getElem hi
  exact ⟨_, _, hv, hd, h.at_ i _ _ hv hd⟩
structure Kinds (ds : List Rc22.Item) : Prop where
  root : kindAt ds 0 = 5
  only : ∀ i, kindAt ds i = 5 → i = 0
  all : ∀ i, kindAt ds i = 0 ∨ kindAt ds i = 1 ∨ kindAt ds i = 2 ∨ kindAt ds i = 5
  few : ds.length ≤ 1000000
theorem Kinds.ne {ds : List Rc22.Item} (h : Kinds ds) : ds ≠ [] := by
  intro e; have := h.root; rw [e] at this; simp [kindAt] at this
def spWalk (t : Adr) : Sp := fun vs H Q E => ∃ (q p l : Addr) (first : Nat) (es : List V) (ds : List Rc22.Item) (used : List Nat), vs = [.ref q, .ref p, .int (first : Int)] ∧ EntriesAt t H q es ds ∧ Kinds ds ∧ PlAt t H p l ds.length used ∧ Apart ds.length used ∧ 0 ∈ used ∧
  (∀ (wk : List Nat) (r : Addr) (H' : Hp), T ds first wk → Apart ds.length (used ++ wk) → H r = none → Kp [l] H H' → H' r = some (.lst (nV wk)) → PlAt t H' p l ds.length (used ++ wk) → Q (.ref r) H') ∧
  ((∀ wk, T ds first wk → ¬ (used ++ wk).Nodup) → ∀ H', Kp [l] H H' → E (.ref t.x_NotAStore) none H')
theorem ok_walk_tree (T : Txt K mg t) : FnOk P w K mg base (CXE P w) 3 t.a_walk_tree t.d_walk_tree ["entries", "places", "first"] (spWalk t) := by
  refine T.F_walk_tree.okX sc_walk_tree (fun vs H Q E h => ?_) (fun cdv A outer s H vs Q E hr h => ?_)
  · obtain ⟨q, p, l, first, es, ds, used, rfl, _⟩ := h
    rfl
  · obtain ⟨q, p, l, first, es, ds, used, rfl, hE, hK, hP, hA, h0u, k, kE⟩ := h
    obtain ⟨u, hu, ru⟩ := T.k_FREE
    have hr1 : Room 1 _ := hr.mono (by decide)
    have hs : sizeLine = 16777216 := sizeLine_eq
    have hm := hK.few
    refine ⟨_, pss_cons (ps_set (i := 3) sc_walk_tree.nd rfl (Or.inl rfl) (pe_lst pa_nil))
      (pss_cons (ps_set (i := 4) sc_walk_tree.nd rfl (Or.inl rfl) (pe_lst pa_nil))
      (pss_cons (ps_set (i := 5) sc_walk_tree.nd rfl (Or.inl rfl) (pv 2))
      (pss_cons (ps_while passOwn (PW.pt (pw_or (pt_cmpR op_ne (pv 5) (pe_glob rfl hu ru) (nomark _)) (pw_or1 (pt_truth (pv 4) (fun _ => rfl)))))
        (pss_one (ps_if (pt_cmpR op_ne (pv 5) (pe_glob rfl hu ru) (nomark _))
          (pss_cons (ps_expr (pe_meth (pv 1) T.cl_Places T.m_Places_take (ok_Places_take T) hr T.b_Places_take .nil passX (pa_cons (pv 5) pa_nil)))
          (pss_cons (ps_expr (pe_call (ok_hold T) hr1 rfl T.g_hold T.F_hold.kp T.b_hold .nil passX (pa_cons (pe_cmp (pc_notN (pe_ix ix_list (pv 0) (pv 5) (fun _ _ => rfl)))) (pa_cons pe_str pa_nil))))
          (pss_cons (ps_expr (pe_bm PySem.F.plainAttrs_list PySem.F.slot_list_append PySem.F.type_list_append mt_append (pv 4) (pa_cons (pv 5) pa_nil)))
          (pss_one (ps_set (i := 5) sc_walk_tree.nd rfl (Or.inl rfl) (pe_fld (pe_ix ix_list (pv 0) (pv 5) (fun _ _ => rfl)) rfl))))))
          (pss_cons (ps_set (i := 5) sc_walk_tree.nd rfl (Or.inl rfl) (pe_bm0 PySem.F.plainAttrs_list PySem.F.slot_list_pop PySem.F.type_list_pop mt_pop (pv 4)))
          (pss_cons (ps_expr (pe_bm PySem.F.plainAttrs_list PySem.F.slot_list_append PySem.F.type_list_append mt_append (pv 3) (pa_cons (pv 5) pa_nil)))
          (pss_one (ps_set (i := 5) sc_walk_tree.nd rfl (Or.inl rfl) (pe_fld (pe_ix ix_list (pv 0) (pv 5) (fun _ _ => rfl)) rfl))))))))
      (pss_one (ps_ret (pv 3)))))), ?_⟩
    refine ⟨(by show 0 ≤ sizeLine; decide), fun r1 hr1' => ⟨(by show 0 ≤ sizeLine; decide), fun r2 hr2' => ⟨_, rfl, ?_⟩⟩⟩
    have n12 : r1 ≠ r2 := ne_of_none upd_same hr2'
    have hr2 : H r2 = none := (Kp.new hr1').nfree hr2'
    have nl1 : l ≠ r1 := ne_of_none hP.ls hr1'
    have nl2 : l ≠ r2 := ne_of_none hP.ls hr2
    obtain ⟨dxp, hpob⟩ := hP.ob
    have np1 : p ≠ r1 := ne_of_none hpob hr1'
    have np2 : p ≠ r2 := ne_of_none hpob hr2
    have npl : p ≠ l := hP.ne
    have k0 : Kp [] H (upd (upd H r1 (.lst [])) r2 (.lst [])) := (Kp.new hr1').trans (Kp.new hr2')
    have ent : ∀ H2, Kp [l] H H2 → EntriesAt t H2 q es ds := fun H2 k2 => hE.keepL hP.ls hK.ne k2
    have kind_of : ∀ {i : Nat} {d : Rc22.Item}, ds[i]? = some d → d.kind = 0 ∨ d.kind = 1 ∨ d.kind = 2 ∨ d.kind = 5 := fun {i d} hd => by
      have := hK.all i
      rwa [kindAt_some hd] at this
    refine ⟨fun n σ H2 => ∃ (pre ws tk : List Nat) (cur : Nat), n = 2 * (ds.length - (used ++ tk).length) + ws.length ∧ σ = [some (.ref q), some (.ref p), some (.int (first : Int)), some (.ref r1), some (.ref r2), some (.int (cur : Int))] ∧ Kp [l] H H2 ∧ H2 r1 = some (.lst (nV pre)) ∧ H2 r2 = some (.lst (nV ws.reverse)) ∧
      PlAt t H2 p l ds.length (used ++ tk) ∧ Apart ds.length (used ++ tk) ∧ tk.Perm (pre ++ ws) ∧ Walks ds first pre cur ws ∧ ∀ x ∈ ws, kindAt ds x = 1 ∨ kindAt ds x = 2,
      ⟨_, [], [], [], first, rfl, rfl, k0.mono (by simp), by rw [upd_ne n12]; exact upd_same, upd_same, by simpa using hP.keep0 k0, by simpa using hA, by simp, Walks.start _ _, fun x hx => (nomatch hx)⟩, ?_⟩
    rintro n σ H2 ⟨pre, ws, tk, cur, rfl, rfl, k2, h1, h2, hP2, hA2, hperm, hW, hwk⟩
    have hE2 := ent H2 k2
    obtain ⟨dx2, hp2⟩ := hP2.ob
    have hlen : pre.length + ws.length + used.length ≤ ds.length := by
      have := hA2.le
      rw [List.length_append, hperm.length_eq, List.length_append] at this
      omega
    refine ⟨_, rfl, rfl, _, rfl, ?_⟩
    by_cases hcur : cur = Rc22.NONE
    · have e1 : (!decide (V.int (cur : Int) = V.int 4294967295)) = false := by
        rw [show (V.int 4294967295) = V.int ((Rc22.NONE : Nat) : Int) from rfl, eqI, hcur]; simp
      rw [e1]
      refine iteF ⟨_, rfl, _, .inl ⟨_, SqL.of h2, rfl⟩, ?_⟩
      cases ws with
      | nil =>
        refine iteF ?_
        subst hcur
        refine ⟨_, rfl, k pre r1 H2 hW.done ?_ hr1' k2 h1 (hP2.perm ?_)⟩
        · have hp' : (used ++ tk).Perm (used ++ pre) := List.Perm.append_left _ (by simpa using hperm)
          exact ⟨hp'.nodup hA2.nd, fun x hx => hA2.lt x (hp'.mem_iff.mpr hx)⟩
        · exact List.Perm.append_left _ (by simpa using hperm)
      | cons wt ws =>
        have e2 : (!(nV (wt :: ws).reverse).isEmpty) = true := by simp [nV]
        rw [e2]
        refine iteT ⟨_, fun σ' H' z => z, ?_⟩
        refine ⟨_, rfl, rfl, _, rfl, ?_⟩
        rw [e1]
        refine iteF ?_
        have hwl : (nV (wt :: ws).reverse)[(nV (wt :: ws).reverse).length - 1]? = some (V.int (wt : Int)) := by
          rw [nV_get?, nV_length]
          simp
        have hwd : (nV (wt :: ws).reverse).dropLast = nV ws.reverse := by
          rw [List.reverse_cons, nV_append]
          exact List.dropLast_concat
        refine ⟨_, rfl, .inl ⟨rfl, _, SqL.of h2⟩, r2, _, _, rfl, rfl, h2, hwl, ?_⟩
        refine ⟨_, rfl, .inl ⟨rfl, _, SqL.of (by rw [upd_ne n12]; exact h1)⟩, _, rfl, r1, _, _, rfl, rfl, by rw [upd_ne n12]; exact h1, by rw [nV_length]; omega, ?_⟩
        have hkw := hwk wt List.mem_cons_self
        have hwlt : wt < ds.length := kindAt_lt (by omega)
        obtain ⟨v, d, hv, hd, hV⟩ := hE2.get hwlt
        rw [kindAt_some hd] at hkw
        obtain ⟨a, dx, nn, kk, rfl, ha, _, _⟩ := hV.some (by omega)
        have nq1 : q ≠ r1 := ne_of_none hE.ls hr1'
        have nq2 : q ≠ r2 := ne_of_none hE.ls hr2
        have na1 : a ≠ r1 := ne_of ha h1 (by intro z; cases z)
        have na2 : a ≠ r2 := ne_of ha h2 (by intro z; cases z)
        refine ⟨_, rfl, _, rfl, q, _, _, _, rfl, rfl, SqL.of (by rw [upd_ne nq1, upd_ne nq2]; exact hE2.ls), at_of (j := wt) rfl hv, a, t.c_Entry, dx, _, _, rfl, by rw [upd_ne na1, upd_ne na2]; exact ha, T.cl_Entry, T.n_Entry_right, ef_right nn kk d, ?_⟩
        subst hcur
        refine ⟨_, ?_, pre ++ [wt], ws, tk, d.right, rfl, rfl, fun b o e hb => ?_, ?_, ?_, ?_, hA2, ?_, hW.up hd, fun x hx => hwk x (List.mem_cons_of_mem _ hx)⟩
        · simp only [List.length_cons]; omega
        · rw [upd_ne (ne_of_none e hr1'), upd_ne (ne_of_none e hr2)]; exact k2 b o e hb
        · rw [upd_same, nV_append]; rfl
        · rw [upd_ne n12.symm, upd_same, hwd]
        · exact ⟨⟨dx2, by rw [upd_ne np1, upd_ne np2]; exact hp2⟩, by rw [upd_ne nl1, upd_ne nl2]; exact hP2.ls⟩
        · refine hperm.trans ?_
          rw [List.append_assoc]; exact .refl _
    · have e1 : (!decide (V.int (cur : Int) = V.int 4294967295)) = true := by
        rw [show (V.int 4294967295) = V.int ((Rc22.NONE : Nat) : Int) from rfl, eqI]; simp [hcur]
      rw [e1]
      refine iteT (iteT ⟨_, fun σ' H' z => z, ?_⟩)
      refine ⟨_, rfl, rfl, _, rfl, ?_⟩
      rw [e1]
      refine iteT ?_
      refine ⟨_, rfl, p, dx2, _, rfl, hp2, pf_no l (by decide +kernel), _, rfl, p, l, ds.length, cur, used ++ tk, rfl, hP2, hm, fun hlt hnu => ?_, fun hno => ?_⟩
      · have k3 : Kp [l] H (upd H2 l (.lst ((marks ds.length (used ++ tk ++ [cur])).map V.bl))) := k2.trans (Kp.old (by simp))
        have hE3 := ent _ k3
        obtain ⟨v, d, hv, hd, hV⟩ := hE3.get hlt
        refine ⟨_, rfl, _, rfl, q, _, _, _, rfl, rfl, SqL.of hE3.ls, at_of (j := cur) rfl hv, _, _, rfl, fun b => ?_, fun b => ?_⟩
        · have hk0 : d.kind ≠ 0 := by
            have := hV.isnon
            rw [this] at b
            simpa using b
          have hk12 : d.kind = 1 ∨ d.kind = 2 := by
            rcases kind_of hd with z | z | z | z
            · exact absurd z hk0
            · exact .inl z
            · exact .inr z
            · have : cur = 0 := hK.only cur (by rw [kindAt_some hd]; exact z)
              rw [this] at hnu
              exact absurd (List.mem_append_left _ h0u) hnu
          refine ⟨_, rfl, .inl ⟨rfl, _, SqL.of (by rw [upd_ne nl2.symm]; exact h2)⟩, _, rfl, r2, _, _, rfl, rfl, by rw [upd_ne nl2.symm]; exact h2, ?_, ?_⟩
          · rw [nV_length, List.length_reverse]; omega
          · obtain ⟨a, dx, nn, kk, rfl, ha, _, _⟩ := hV.some hk0
            have nq2 : q ≠ r2 := ne_of_none hE.ls hr2
            have hr2l : (upd H2 l (.lst ((marks ds.length (used ++ tk ++ [cur])).map V.bl))) r2 = some (.lst (nV ws.reverse)) := by rw [upd_ne nl2.symm]; exact h2
            have na2 : a ≠ r2 := ne_of ha hr2l (by intro z; cases z)
            have room := hA2.room hlt hnu
            refine ⟨_, rfl, _, rfl, q, _, _, _, rfl, rfl, SqL.of (by rw [upd_ne nq2]; exact hE3.ls), at_of (j := cur) rfl hv, a, t.c_Entry, dx, _, _, rfl, by rw [upd_ne na2]; exact ha, T.cl_Entry, T.n_Entry_left, ef_left nn kk d, ?_⟩
            refine ⟨_, ?_, pre, cur :: ws, tk ++ [cur], d.left, rfl, rfl, fun b o e hb => ?_, ?_, ?_, ?_, ?_, ?_, hW.down hd hk12 hcur, fun x hx => ?_⟩
            · simp only [List.length_cons, List.length_append, List.length_nil] at *; omega
            · rw [upd_ne (ne_of_none e hr2)]; exact k3 b o e hb
            · rw [upd_ne n12, upd_ne nl1.symm]; exact h1
            · rw [upd_same, List.reverse_cons, nV_append]; rfl
            · refine ⟨⟨dx2, by rw [upd_ne np2, upd_ne npl]; exact hp2⟩, ?_⟩
              rw [upd_ne nl2, upd_same, List.append_assoc]
            · rw [← List.append_assoc]; exact hA2.snoc hlt hnu
            · have : (tk ++ [cur]).Perm (pre ++ ws ++ [cur]) := List.Perm.append_right _ hperm
              refine this.trans ?_
              rw [List.append_assoc]
              exact List.Perm.append_left _ List.perm_append_comm
            · rcases List.mem_cons.mp hx with rfl | hx
              · rw [kindAt_some hd]; exact hk12
              · exact hwk x hx
        · refine kE (fun wk hwk' => ?_) _ k3
          refine absurd hwk' (hW.out hcur (fun d' hd' hk' => ?_) wk)
          rw [hd] at hd'
          cases hd'
          have := hV.isnon
          rw [this] at b
          have : d.kind = 0 := by simpa using b
          omega
      · refine kE (fun wk hwk' => ?_) H2 k2
        by_cases hlt : cur < ds.length
        · have hmem : cur ∈ used ++ tk := Decidable.byContradiction fun z => hno ⟨hlt, z⟩
          refine hW.twice hcur ?_ wk hwk'
          rcases List.mem_append.mp hmem with z | z
          · exact .inl z
          · rcases List.mem_append.mp (hperm.mem_iff.mp z) with z | z
            · exact .inr (.inl z)
            · exact .inr (.inr z)
        · refine absurd hwk' (hW.out hcur (fun d' hd' => ?_) wk)
          have := (List.getElem?_eq_some_iff.mp hd').1
          omega
end
end FT
namespace FT
open PySem L2 FV
section
variable {P : Program} {w : World} {K : PySem.W.Frag} {mg : Str → Option Value} {base : Heap} {t : Adr}
theorem lexLt_nat : ∀ (a b : List Nat), HT.lexLt (natZ a) (natZ b) = lexN a b
  | [], [] => rfl
  | [], _ :: _ => rfl
  | _ :: _, [] => rfl
  | x :: a, y :: b => by
    show (if (x : Int) = (y : Int) then HT.lexLt (natZ a) (natZ b) else decide ((x : Int) < (y : Int))) = (if x = y then lexN a b else decide (x < y))
    rw [lexLt_nat a b]
    by_cases h : x = y
    · rw [if_pos (by omega), if_pos h]
    · rw [if_neg (by omega), if_neg h]
      by_cases h2 : x < y
      · rw [decide_eq_true h2, decide_eq_true (by omega)]
      · rw [decide_eq_false h2, decide_eq_false (by omega)]
theorem for_zip {K : PySem.W.Frag} {a b : Addr} {xs ys : List V} {g : TG} {tb : TS} {D : Ends} {σ : St} {H : Hp} (Pv : Nat → St → Hp → Prop) (hle : ys.length ≤ xs.length) (h0 : Pv 0 σ H) (hl : ∀ i σ H, i ≤ ys.length → Pv i σ H → SqL K H a xs ∧ SqL K H b ys)
    (hs : ∀ i x y σ H T, xs[i]? = some x → ys[i]? = some y → Pv i σ H → H T = none → g (.ref T) σ (upd H T (.tup [x, y])) fun σ2 H2 => tb { D with nx := Pv (i + 1), ct := Pv (i + 1), bk := D.nx } σ2 H2) (hd : ∀ σ H, Pv ys.length σ H → D.nx σ H) :
    ∃ W : Nat → Nat → St → Hp → Prop, (∃ m, W 0 m σ H) ∧ ∀ i m σ H, W i m σ H →
      ((Itz K a b).stop i H ∧ D.nx σ H) ∨ ((Itz K a b).go i H ∧ ∃ N : St → Hp → Prop, (∀ σ' H', N σ' H' → ∃ m', m' < m ∧ W (i + 1) m' σ' H') ∧ ∀ x H', (Itz K a b).yld i H x H' → g x σ H' fun σ2 H2 => tb { D with nx := N, ct := N, bk := D.nx } σ2 H2) := by
  refine ⟨fun i m σ H => m = ys.length - i ∧ i ≤ ys.length ∧ Pv i σ H, ⟨ys.length, by simp, Nat.zero_le _, h0⟩, ?_⟩
  rintro i m σ H ⟨rfl, hi, p⟩
  obtain ⟨q1, q2⟩ := hl i σ H hi p
  by_cases hlt : i < ys.length
  · refine .inr ⟨⟨xs, ys, xs[i]'(by omega), ys[i], q1, q2, by simp [show i < xs.length by omega], by simp [hlt]⟩, Pv (i + 1), fun σ' H' p' => ⟨ys.length - (i + 1), by omega, rfl, hlt, p'⟩, fun x H' y => ?_⟩
    obtain ⟨T, x1, y1, e1, e2, e3, z1, z2⟩ := y
    subst e1 e3
    exact hs i x1 y1 σ H T (z1 xs q1) (z2 ys q2) p e2
  · have e : i = ys.length := by omega
    subst e
    exact .inl ⟨⟨xs, ys, q1, q2, .inr (Nat.le_refl _)⟩, hd σ H p⟩
def spOrder (t : Adr) : Sp := fun vs H Q E => ∃ (q r : Addr) (es : List V) (ds : List Rc22.Item) (wk : List Nat), vs = [.ref q, .ref r] ∧ EntriesAt t H q es ds ∧ H r = some (.lst (nV wk)) ∧ (∀ x ∈ wk, kindAt ds x = 1 ∨ kindAt ds x = 2) ∧
  (Rc22.ordered ds wk = true → ∀ H', Kp [] H H' → Q .non H') ∧ (Rc22.ordered ds wk = false → ∀ H', Kp [] H H' → E (.ref t.x_NotAStore) none H')
theorem ok_hold_order (T : Txt K mg t) : FnOk P w K mg base (CXE P w) 2 t.a_hold_order t.d_hold_order ["entries", "walked"] (spOrder t) := by
  refine T.F_hold_order.okX sc_hold_order (fun vs H Q E h => ?_) (fun cdv A outer s H vs Q E hr h => ?_)
  · obtain ⟨q, r, es, ds, wk, rfl, _⟩ := h
    rfl
  · obtain ⟨q, r, es, ds, wk, rfl, hE, hR, hk, k, kE⟩ := h
    refine ⟨_, pss_one (ps_for passOwn rfl (pi_zip rfl T.z_zip (pa_cons (pv 1) (pa_cons (pe_slice sl_list (pv 1) (po_some pe_int) po_none) pa_nil)))
      (pg_tup rfl (pgs_cons (pg_name (i := 2) sc_hold_order.nd rfl (Or.inl rfl)) (pgs_cons (pg_name (i := 3) sc_hold_order.nd rfl (Or.inl rfl)) pgs_nil)))
      (pss_one (ps_expr (pe_call (ok_hold T) hr rfl T.g_hold T.F_hold.kp T.b_hold .nil passX (pa_cons (pe_cmpR (op_ltL hr.units0) (pe_fld (pe_ix ix_list (pv 0) (pv 2) (fun _ _ => rfl)) rfl) (pe_fld (pe_ix ix_list (pv 0) (pv 3) (fun _ _ => rfl)) rfl) (nomark _)) (pa_cons pe_str pa_nil)))))), ?_⟩
    refine ⟨_, rfl, _, rfl, _, rfl, r, _, rfl, SqL.of hR, fun r2 hr2 => ?_⟩
    have k1 : Kp [] H (upd H r2 (.lst (cutV (nV wk) (some 1) none))) := Kp.new hr2
    have ecut : cutV (nV wk) (some 1) none = nV (wk.drop 1) := by
      rw [show (1 : Int) = ((1 : Nat) : Int) from rfl, cut_from, nV_drop]
    refine ⟨r, r2, _, _, rfl, SqL.of (k1.nil hR), SqL.of upd_same, ?_⟩
    refine for_zip (K := K) (a := r) (b := r2) (xs := nV wk) (ys := cutV (nV wk) (some 1) none) (fun i σ H2 => ∃ v1 v2 : Option V, σ = [some (.ref q), some (.ref r), v1, v2] ∧ Kp [] (upd H r2 (.lst (cutV (nV wk) (some 1) none))) H2 ∧ ∀ (j x y : Nat), j < i → wk[j]? = some x → wk[j + 1]? = some y → Rc22.less (nameAt ds x) (nameAt ds y) = true)
      (by rw [ecut, nV_length, nV_length, List.length_drop]; omega) ⟨none, none, rfl, Kp.refl _ _, fun j x y hj => by omega⟩ (fun i σ H2 _ ⟨_, _, _, k2, _⟩ => ⟨SqL.of (k2.nil (k1.nil hR)), SqL.of (k2.nil upd_same)⟩) ?_ ?_
    · rintro i x y σ H2 Tt hx hy ⟨v1, v2, rfl, k2, hF⟩ hT
      obtain ⟨n1, hn1, rfl⟩ := nV_some hx
      rw [ecut] at hy
      obtain ⟨n2, hn2, rfl⟩ := nV_some hy
      rw [List.getElem?_drop, Nat.add_comm] at hn2
      have k3 : Kp [] H (upd H2 Tt (.tup [.int (n1 : Nat), .int (n2 : Nat)])) := (k1.trans k2).trans (Kp.new hT)
      have hE3 := hE.keep k3
      have hk1 := hk n1 (List.mem_of_getElem? hn1)
      have hk2 := hk n2 (List.mem_of_getElem? hn2)
      obtain ⟨w1, d1, hw1, hd1, hV1⟩ := hE3.get (i := n1) (kindAt_lt (by omega))
      obtain ⟨w2, d2, hw2, hd2, hV2⟩ := hE3.get (i := n2) (kindAt_lt (by omega))
      rw [kindAt_some hd1] at hk1
      rw [kindAt_some hd2] at hk2
      obtain ⟨a1, dx1, m1, kk1, rfl, ha1, _, hkk1⟩ := hV1.some (by omega)
      obtain ⟨a2, dx2, m2, kk2, rfl, ha2, _, hkk2⟩ := hV2.some (by omega)
      have en1 : nameAt ds n1 = d1.name := by unfold FV.nameAt; rw [hd1]; rfl
      have en2 : nameAt ds n2 = d2.name := by unfold FV.nameAt; rw [hd2]; rfl
      refine ⟨Tt, _, rfl, SqT.of upd_same, rfl, _, _, rfl, _, _, rfl, rfl, ?_⟩
      refine ⟨_, rfl, _, rfl, q, _, _, _, rfl, rfl, SqL.of hE3.ls, at_of (j := n1) rfl hw1, a1, t.c_Entry, dx1, _, _, rfl, ha1, T.cl_Entry, T.n_Entry_key, ef_key m1 kk1 d1,
        _, rfl, _, rfl, q, _, _, _, rfl, rfl, SqL.of hE3.ls, at_of (j := n2) rfl hw2, a2, t.c_Entry, dx2, _, _, rfl, ha2, T.cl_Entry, T.n_Entry_key, ef_key m2 kk2 d2,
        kk1, kk2, natZ (key (nb d1.name)), natZ (key (nb d2.name)), rfl, rfl, SqL.of (by rw [hkk1, nV_ints]), SqL.of (by rw [hkk2, nV_ints]), _, _, rfl, fun b => ?_, fun b => ?_⟩
      · rw [lexLt_nat, lexN_key] at b
        refine ⟨_, _, rfl, k2.trans (Kp.new hT), fun j x y hj hx' hy' => ?_⟩
        by_cases hji : j = i
        · subst hji
          rw [hn1] at hx'
          rw [hn2] at hy'
          cases hx'
          cases hy'
          rw [en1, en2]; exact b
        · exact hF j x y (by omega) hx' hy'
      · rw [lexLt_nat, lexN_key] at b
        refine kE ?_ _ k3
        cases ho : Rc22.ordered ds wk with
        | false => rfl
        | true =>
          have := ordered_iff.mp ho i n1 n2 hn1 hn2
          rw [en1, en2, b] at this
          cases this
    · rintro σ H2 ⟨v1, v2, rfl, k2, hF⟩
      refine k (ordered_iff.mpr fun j x y hx hy => hF j x y ?_ hx hy) H2 (k1.trans k2)
      rw [ecut, nV_length, List.length_drop]
      have := (List.getElem?_eq_some_iff.mp hy).1
      omega
structure ChildAt (H : Hp) (r : Addr) (cs : List Addr) (hs : List (List Nat)) : Prop where
  ls : H r = some (.lst (cs.map V.ref))
  len : cs.length = hs.length
  at_ : ∀ (i : Nat) (c : Addr) (x : List Nat), cs[i]? = some c → hs[i]? = some x → H c = some (.lst (nV x))
theorem ChildAt.keep {H H' : Hp} {r : Addr} {cs : List Addr} {hs : List (List Nat)} (h : ChildAt H r cs hs) (k : Kp [] H H') : ChildAt H' r cs hs :=
  ⟨k.nil h.ls, h.len, fun i c x hc hx => k.nil (h.at_ i c x hc hx)⟩
theorem ChildAt.new {H H' : Hp} {r : Addr} {cs : List Addr} {hs : List (List Nat)} (h : ChildAt H' r cs hs) (h0 : H r = none) (h1 : ∀ c ∈ cs, H c = none) : ChildAt (nw H H') r cs hs :=
  ⟨nw_at h0 h.ls, h.len, fun i c x hc hx => nw_at (h1 c (List.mem_of_getElem? hc)) (h.at_ i c x hc hx)⟩
def spTrees (t : Adr) : Sp := fun vs H Q E => ∃ (q : Addr) (es : List V) (ds : List Rc22.Item), vs = [.ref q] ∧ EntriesAt t H q es ds ∧ Kinds ds ∧
  (∀ (hs : List (List Nat)) (r : Addr) (cs : List Addr) (H' : Hp), Treed ds hs → H r = none → Kp [] H H' → ChildAt (nw H H') r cs hs → Q (.ref r) H') ∧ ((∀ hs, ¬ Treed ds hs) → ∀ H', Kp [] H H' → E (.ref t.x_NotAStore) none H')
theorem ne_marks {H : Hp} {c l : Addr} {x : List Nat} {m : Nat} {used : List Nat} (h1 : H c = some (.lst (nV x))) (h2 : H l = some (.lst ((marks m used).map V.bl))) (hm : 0 < m) : c ≠ l := by
  refine ne_of h1 h2 fun z => ?_
  injection z with z
  have hl := congrArg List.length z
  rw [List.length_map, marks_length] at hl
  cases x with
  | nil => simp [nV] at hl; omega
  | cons n x =>
    cases e : marks m used with
    | nil => rw [e] at z; simp [nV] at z
    | cons b bs => rw [e] at z; simp [nV] at z
theorem ok_read_trees (T : Txt K mg t) : FnOk P w K mg base (CXE P w) 4 t.a_read_trees t.d_read_trees ["entries"] (spTrees t) := by
  refine T.F_read_trees.okX sc_read_trees (fun vs H Q E h => ?_) (fun cdv A outer s H vs Q E hr h => ?_)
  · obtain ⟨q, es, ds, rfl, _⟩ := h
    rfl
  · obtain ⟨q, es, ds, rfl, hE, hK, k, kE⟩ := h
    obtain ⟨u, hu, ru⟩ := T.k_FOLDER
    have hr1 : Room 1 _ := hr.mono (by decide)
    have hr2 : Room 2 _ := hr.mono (by decide)
    have hs : sizeLine = 16777216 := sizeLine_eq
    have hm := hK.few
    have hds : 0 < ds.length := kindAt_lt (by rw [hK.root]; decide)
    obtain ⟨tt, htail, hq⟩ : ∃ tt, PSs (cxOf (CXE P w) P w K mg base N_read_trees "read_trees" (defScope s_read_trees) t.a_read_trees cdv A outer s H E) ((defBody s_read_trees).drop 5) tt ∧
        ∀ (H2 : Hp) (p l r : Addr) (cs : List Addr) (L : List (Nat × List Nat)) (v3 v4 v5 v6 v7 : Option V), Kp [] H H2 → PlAt t H2 p l ds.length (0 :: L.flatMap (·.2)) → Trees ds [] L → H r = none → ChildAt H2 r cs (hsOf ds.length L) → (∀ c ∈ cs, H c = none) →
          tt { nx := fun _ H' => Q .non H', rt := Q } [some (.ref q), some (.ref p), some (.ref r), v3, v4, v5, v6, v7] H2 := by
      refine ⟨_, pss_cons (ps_for passOwn rfl (pi_list (pe_meth0 (pv 1) T.cl_Places T.m_Places_untaken (ok_Places_untaken T) hr1 T.b_Places_untaken .nil pass0)) (pg_name (i := 7) sc_read_trees.nd rfl (Or.inl rfl))
          (pss_one (ps_expr (pe_call (ok_hold T) hr1 rfl T.g_hold T.F_hold.kp T.b_hold .nil passX (pa_cons (pe_cmp (pc_isN (pe_ix ix_list (pv 0) (pv 7) (fun _ _ => rfl)))) (pa_cons pe_str pa_nil))))))
        (pss_one (ps_ret (pv 2))), fun H2 p l r cs L v3 v4 v5 v6 v7 k2 hP hT hr0 hC hnew => ?_⟩
      obtain ⟨dx, hp⟩ := hP.ob
      refine ⟨_, rfl, p, dx, _, rfl, hp, pf_no l (by decide +kernel), p, l, ds.length, _, rfl, hP, hm, fun uq H3 huq k3 huq3 => ?_⟩
      have hE3 := hE.keep (k2.trans k3)
      refine ⟨uq, rfl, ⟨_, SqL.of huq3⟩, for_list (K := K) (a := uq) (xs := nV (untaken ds.length (0 :: L.flatMap (·.2)))) (fun i σ H4 => ∃ v : Option V, σ = [some (.ref q), some (.ref p), some (.ref r), v3, v4, v5, v6, v] ∧ H4 = H3 ∧
          ∀ (j x : Nat), j < i → (untaken ds.length (0 :: L.flatMap (·.2)))[j]? = some x → kindAt ds x = 0)
        ⟨v7, rfl, rfl, fun j x hj => by omega⟩ (fun i σ H4 _ ⟨_, _, e, _⟩ => by rw [e]; exact SqL.of huq3) ?_ ?_⟩
      · rintro i y σ H4 hi ⟨v, rfl, rfl, hF⟩
        obtain ⟨n, hn, rfl⟩ := nV_some hi
        have hnm := mem_untaken.mp (List.mem_of_getElem? hn)
        obtain ⟨w1, d1, hw1, hd1, hV1⟩ := hE3.get hnm.1
        refine ⟨_, rfl, _, rfl, q, _, _, _, rfl, rfl, SqL.of hE3.ls, at_of (j := n) rfl hw1, _, _, rfl, fun b => ?_, fun b => ?_⟩
        · rw [hV1.isnon] at b
          refine ⟨_, rfl, rfl, fun j x hj hx => ?_⟩
          by_cases hji : j = i
          · subst hji
            rw [hn] at hx
            cases hx
            rw [kindAt_some hd1]; exact of_decide_eq_true b
          · exact hF j x (by omega) hx
        · rw [hV1.isnon] at b
          have b := of_decide_eq_false b
          refine kE (fun hs' hTr => ?_) _ (k2.trans k3)
          have hkn : kindAt ds n = 1 ∨ kindAt ds n = 2 := by
            have h5 := hK.all n
            have h6 := kindAt_some hd1
            have h7 : kindAt ds n ≠ 5 := fun z => by
              have := hK.only n z
              rw [this] at hnm
              exact hnm.2 List.mem_cons_self
            omega
          exact hnm.2 (List.mem_cons_of_mem _ (hT.rest hTr hK.root hkn))
      · rintro σ H4 ⟨v, rfl, rfl, hF⟩
        have htr : Treed ds (hsOf ds.length L) := hT.treed hK.root hK.only hK.all fun i hi => by
          obtain ⟨j, hj⟩ := List.mem_iff_getElem?.mp hi
          exact hF j i (by rw [nV_length]; exact (List.getElem?_eq_some_iff.mp hj).1) hj
        exact ⟨_, rfl, k _ r cs _ htr hr0 (k2.trans k3) ((hC.keep k3).new hr0 hnew)⟩
    refine ⟨_, pss_cons (ps_set (i := 1) sc_read_trees.nd rfl (Or.inl rfl) (pe_make T.mk_Places (ok_Places_init T) hr2 rfl T.g_Places T.b_Places_init .nil pass0 (pa_cons (pe_callB call_len_seq (by rfl) T.z_len PySem.boot_len (pa_cons (pv 0) pa_nil)) pa_nil)))
      (pss_cons (ps_expr (pe_meth (pv 1) T.cl_Places T.m_Places_take (ok_Places_take T) hr2 T.b_Places_take .nil passX (pa_cons pe_int pa_nil)))
      (pss_cons (ps_setLc (i := 2) rfl sc_read_trees.nd rfl rfl (sw_true rfl rfl rfl rfl) (pi_list (pv 0)) (blkOk_by (own := [("entry", 3)]) (by kernel_rfl)) (fun _ _ _ _ _ => pg_name (i := 3) sc_read_trees.nd rfl (Or.inl rfl)) (fun _ _ _ _ _ => pts_nil) (fun _ _ _ _ _ => pe_lst pa_nil))
      (pss_cons (ps_set (i := 4) sc_read_trees.nd rfl (Or.inl rfl) (pe_lst (pa_cons pe_int pa_nil)))
      (pss_cons (ps_while passOwn (pt_truth (pv 4) (fun _ => rfl))
        (pss_cons (ps_set (i := 5) sc_read_trees.nd rfl (Or.inl rfl) (pe_bm0 PySem.F.plainAttrs_list PySem.F.slot_list_pop PySem.F.type_list_pop mt_pop (pv 4)))
        (pss_cons (ps_set (i := 6) sc_read_trees.nd rfl (Or.inl rfl) (pe_call (ok_walk_tree T) hr rfl T.g_walk_tree T.F_walk_tree.kp T.b_walk_tree .nil passX (pa_cons (pv 0) (pa_cons (pv 1) (pa_cons (pe_fld (pe_ix ix_list (pv 0) (pv 5) (fun _ _ => rfl)) rfl) pa_nil)))))
        (pss_cons (ps_expr (pe_call (ok_hold_order T) hr2 rfl T.g_hold_order T.F_hold_order.kp T.b_hold_order .nil passX (pa_cons (pv 0) (pa_cons (pv 6) pa_nil))))
        (pss_cons (ps_asg (pv 6) (pg_sub (pv 2) (pv 5) set_list))
        (pss_one (ps_expr (pe_bm PySem.F.plainAttrs_list PySem.F.slot_list_extend PySem.F.type_list_extend mt_extend (pv 4)
          (pa_cons (pe_lc (tt := tTest (tOp rEq (tFld K (tOp (rIxL K) (tVar 0) (tVar 7)) "kind") (tC (.int 1)))) rfl sc_read_trees.nd (pi_list (pv 6)) (blkOk_by (own := [("number", 7)]) (by kernel_rfl)) (fun _ _ _ _ _ => pg_name (i := 7) sc_read_trees.nd rfl (Or.inl rfl))
            (fun _ _ _ _ _ => pts_one (pt_cmpR op_eq (pe_fld (pe_ix ix_list (pv 0) (pv 7) (fun _ _ => rfl)) rfl) (pe_glob rfl hu ru) (nomark _))) (fun _ _ _ _ _ => pv 7)) pa_nil)))))))))
      htail)))), ?_⟩
    have hel : es.length = ds.length := hE.len
    refine ⟨_, rfl, q, _, rfl, .inl (SqL.of hE.ls), fun p dx np ndp nexp => ?_⟩
    refine ⟨p, dx, es.length, rfl, upd_same, by omega, fun l H1 hP1 hl0 kp => ⟨rfl, ?_⟩⟩
    rw [hel] at hP1
    have k1 : Kp [] H H1 := fun b o e _ => by
      refine kp b o ?_ (ne_of_none e np)
      rw [upd_ne (ne_of_none e np), upd_ne (ne_of_none e ndp)]; exact e
    have hl : H l = none := by
      cases e : H l with
      | none => rfl
      | some o =>
        rw [upd_ne (ne_of_none e np), upd_ne (ne_of_none e ndp), e] at hl0; cases hl0
    have hpH : H p = none := np
    obtain ⟨dx1, hp1⟩ := hP1.ob
    have npl : p ≠ l := hP1.ne
    refine ⟨_, rfl, p, dx1, _, rfl, hp1, pf_no l (by decide +kernel), p, l, ds.length, 0, [], rfl, hP1, hm, fun _ _ => ?_, fun hno => absurd ⟨hds, by simp⟩ hno⟩
    have hP2 : PlAt t (upd H1 l (.lst ((marks ds.length ([] ++ [0])).map V.bl))) p l ds.length [0] := ⟨⟨dx1, by rw [upd_ne npl]; exact hp1⟩, by rw [upd_same]; rfl⟩
    have k2 : Kp [] H (upd H1 l (.lst ((marks ds.length ([] ++ [0])).map V.bl))) := fun b o e hb => by rw [upd_ne (ne_of_none e hl)]; exact k1 b o e hb
    generalize hH2 : upd H1 l (.lst ((marks ds.length ([] ++ [0])).map V.bl)) = H2 at hP2 k2
    refine ⟨_, rfl, q, rfl, ⟨_, SqL.of (k2.nil hE.ls)⟩, fun r hr0 => ?_⟩
    have hrH : H r = none := k2.nfree hr0
    refine lc_list (K := K) (a := q) (xs := es) (fun i H' => ∃ cs : List Addr, cs.length = i ∧ Kp [] H2 H' ∧ H' r = some (.lst (cs.map V.ref)) ∧ ∀ c ∈ cs, H' c = some (.lst []) ∧ c ≠ r ∧ H c = none) ⟨[], rfl, Kp.new hr0, upd_same, fun c hc => (nomatch hc)⟩ (fun i H' _ ⟨_, _, k', _⟩ => SqL.of ((k2.trans k').nil hE.ls)) (fun i x H' hx e => ?_) (fun H3 e => ?_)
    · obtain ⟨cs, hcl, k', hr', hcs⟩ := e
      have hil := (List.getElem?_eq_some_iff.mp hx).1
      refine ⟨rfl, lcYes ⟨(by show 0 ≤ sizeLine; decide), fun c hc => ⟨_, by rw [upd_ne (ne_of_none hr' hc)]; exact hr', by rw [List.length_map]; omega, cs ++ [c], by simp [hcl], fun b o e hb => ?_, ?_, fun c' hc' => ?_⟩⟩⟩
      · rw [upd_ne (ne_of_none e hr0), upd_ne (ne_of_none (k'.nil e) hc)]; exact k'.nil e
      · rw [upd_same, List.map_append]; rfl
      · rcases List.mem_append.mp hc' with z | z
        · obtain ⟨h1, h2, h3⟩ := hcs c' z
          exact ⟨by rw [upd_ne h2, upd_ne (ne_of_none h1 hc)]; exact h1, h2, h3⟩
        · have : c' = c := by simpa using z
          subst this
          have : c' ≠ r := (ne_of_none hr' hc).symm
          exact ⟨by rw [upd_ne this, upd_same], this, (k2.trans k').nfree hc⟩
    obtain ⟨cs0, hcl0, k3', hr3, hcs0⟩ := e
    have k3 : Kp [] H H3 := k2.trans k3'
    have hP3 : PlAt t H3 p l ds.length [0] := hP2.keep0 k3'
    have hC3 : ChildAt H3 r cs0 (hsOf ds.length []) := ⟨hr3, by rw [hcl0, hsOf_length, hel], fun i c x hc hx => by
      have hi : i < ds.length := by
        have := (List.getElem?_eq_some_iff.mp hx).1
        rw [hsOf_length] at this; exact this
      rw [hsOf_get hi] at hx
      have : x = [] := (Option.some.inj hx).symm
      subst this
      exact (hcs0 c (List.mem_of_getElem? hc)).1⟩
    refine ⟨(by show 1 ≤ sizeLine; decide), fun fl hfl0 => ?_⟩
    have hflH : H fl = none := k3.nfree hfl0
    have nrf : r ≠ fl := ne_of_none hr3 hfl0
    have nlf : l ≠ fl := ne_of_none hP3.ls hfl0
    have npf : p ≠ fl := let ⟨_, e⟩ := hP3.ob; ne_of_none e hfl0
    have nrl : r ≠ l := fun e => by rw [← hH2, ← e] at hr0; rw [upd_same] at hr0; cases hr0
    have nrp : r ≠ p := fun e => by
      obtain ⟨_, z⟩ := hP2.ob
      rw [← e, hr0] at z; cases z
    have k4 : Kp [] H (upd H3 fl (.lst [V.int 0])) := k3.trans (Kp.new hfl0)
    refine ⟨fun n σ H5 => ∃ (F : List Nat) (L : List (Nat × List Nat)) (cs : List Addr) (v3 v5 v6 v7 : Option V), n = ds.length - L.length ∧ σ = [some (.ref q), some (.ref p), some (.ref r), v3, some (.ref fl), v5, v6, v7] ∧ Kp [] H H5 ∧ H5 fl = some (.lst (nV F)) ∧
      PlAt t H5 p l ds.length (0 :: L.flatMap (·.2)) ∧ Trees ds F L ∧ ChildAt H5 r cs (hsOf ds.length L) ∧ (∀ c ∈ cs, c ≠ fl ∧ c ≠ r ∧ H c = none), ⟨_, [0], [], cs0, _, _, _, _, rfl, rfl, k4, by rw [upd_same]; rfl, hP3.keep0 (Kp.new hfl0), Trees.start hK.root, hC3.keep (Kp.new hfl0), fun c hc => ⟨ne_of_none (hcs0 c hc).1 hfl0, (hcs0 c hc).2⟩⟩, ?_⟩
    rintro n σ H5 ⟨F, L, cs, v3, v5, v6, v7, rfl, rfl, k5, hfl5, hP5, hT, hC5, hcs⟩
    have hE5 := hE.keep k5
    obtain ⟨dx5, hp5⟩ := hP5.ob
    refine ⟨_, rfl, _, .inl ⟨_, SqL.of hfl5, rfl⟩, ?_⟩
    rcases List.eq_nil_or_concat F with rfl | ⟨rest, f, hFe⟩
    · exact iteF (hq H5 p l r cs L _ _ _ _ _ k5 hP5 hT hrH hC5 fun c hc => (hcs c hc).2.2)
    rw [List.concat_eq_append] at hFe
    subst hFe
    have e2 : (!(nV (rest ++ [f])).isEmpty) = true := by simp [nV]
    rw [e2]
    refine iteT ⟨_, fun σ' H' z => z, ?_⟩
    have hlast : (nV (rest ++ [f]))[(nV (rest ++ [f])).length - 1]? = some (V.int (f : Int)) := by
      rw [nV_get?, nV_length]; simp
    have hdl : (nV (rest ++ [f])).dropLast = nV rest := by
      rw [nV_append]; exact List.dropLast_concat
    refine ⟨_, rfl, .inl ⟨rfl, _, SqL.of hfl5⟩, fl, _, _, rfl, rfl, hfl5, hlast, ?_⟩
    rw [hdl]
    have k6 : Kp [] H (upd H5 fl (.lst (nV rest))) := fun b o e hb => by rw [upd_ne (ne_of_none e hflH)]; exact k5 b o e hb
    have hE6 := hE.keep k6
    have hP6 : PlAt t (upd H5 fl (.lst (nV rest))) p l ds.length (0 :: L.flatMap (·.2)) := hP5.keep (ls := [fl]) (Kp.old (by simp)) (by simpa using npf) (by simpa using nlf)
    have hC6 : ChildAt (upd H5 fl (.lst (nV rest))) r cs (hsOf ds.length L) := ⟨by rw [upd_ne nrf]; exact hC5.ls, hC5.len, fun i c x hc hx => by rw [upd_ne (hcs c (List.mem_of_getElem? hc)).1]; exact hC5.at_ i c x hc hx⟩
    have hkf := hT.kinds f (by simp)
    have hfl : f < ds.length := kindAt_lt (by omega)
    obtain ⟨w1, d1, hw1, hd1, hV1⟩ := hE6.get hfl
    have hkf' := hkf
    rw [kindAt_some hd1] at hkf'
    obtain ⟨a1, dx1', m1, kk1, rfl, ha1, _, _⟩ := hV1.some (by omega)
    generalize hH6 : upd H5 fl (.lst (nV rest)) = H6 at *
    have hfl6 : H6 fl = some (.lst (nV rest)) := by rw [← hH6]; exact upd_same
    refine ⟨_, rfl, _, rfl, _, rfl, _, rfl, q, _, _, _, rfl, rfl, SqL.of hE6.ls, at_of (j := f) rfl hw1, a1, t.c_Entry, dx1', _, _, rfl, ha1, T.cl_Entry, T.n_Entry_first_below, ef_below m1 kk1 d1,
      q, p, l, d1.below, es, ds, _, rfl, hE6, hK, hP6, hT.ap, List.mem_cons_self, fun wk wr H7 hTw hA7 hwr k7 hwr7 hP7 => ?_, fun hno H7 k7 => ?_⟩
    rotate_left
    · refine kE (fun hs' hTr => ?_) H7 (fun b o e hb => ?_)
      · obtain ⟨wk, h1, _, h3⟩ := hT.next hTr hK.root
        rw [belowAt_some hd1] at h1
        exact hno wk h1 h3.nd
      · exact k7 b o (k6 b o e hb) (by simpa using ne_of_none e hl)
    have k7' : Kp [] H H7 := fun b o e hb => k7 b o (k6 b o e hb) (by simpa using ne_of_none e hl)
    have hE7 := hE.keep k7'
    have hwrH : H wr = none := k6.nfree hwr
    have hC7 : ChildAt H7 r cs (hsOf ds.length L) := ⟨k7.at hC6.ls (by simpa using nrl), hC6.len, fun i c x hc hx => k7.at (hC6.at_ i c x hc hx) (by simpa using ne_marks (hC6.at_ i c x hc hx) hP6.ls hds)⟩
    have hfl7 : H7 fl = some (.lst (nV rest)) := k7.at hfl6 (by simpa using nlf.symm)
    refine ⟨_, rfl, _, rfl, q, wr, es, ds, wk, rfl, hE7, hwr7, hTw.kinds, fun hord H8 k8 => ?_, fun hord H8 k8 => ?_⟩
    rotate_left
    · refine kE (fun hs' hTr => ?_) H8 (k7'.trans k8)
      obtain ⟨wk', h1, h2, _⟩ := hT.next hTr hK.root
      rw [belowAt_some hd1] at h1
      rw [hTw.det h1, h2] at hord
      cases hord
    have k8' := k7'.trans k8
    have hE8 := hE.keep k8'
    have hC8 := hC7.keep k8
    have hP8 := hP7.keep0 k8
    have hwr8 := k8.nil hwr7
    have hfl8 := k8.nil hfl7
    have hT8 : Trees ds (rest ++ folders ds wk) (L ++ [(f, wk)]) := hT.step (by rw [belowAt_some hd1]; exact hTw) hord hA7
    have hfL : f ∉ L.map (·.1) := fun hm' => by
      have := hT.nd
      rw [List.append_assoc] at this
      exact (List.nodup_append.mp (List.nodup_append.mp this).2.1).2.2 f (by simp) f hm' rfl
    have nwr : wr ≠ r := (ne_of_none (by rw [← hH6, upd_ne nrf]; exact hC5.ls) hwr).symm
    have nwf : wr ≠ fl := (ne_of_none hfl6 hwr).symm
    have hcsf : f < cs.length := by rw [hC8.len, hsOf_length]; exact hfl
    refine ⟨_, rfl, _, rfl, _, rfl, r, _, _, f, rfl, rfl, hC8.ls, ?_, ?_⟩
    · unfold ixN
      rw [if_pos (by omega), if_pos (by rw [List.length_map]; omega)]
      congr 1
    have hset : (cs.map V.ref).set f (V.ref wr) = (cs.set f wr).map V.ref := by rw [List.map_set]
    rw [hset]
    generalize hH9 : upd H8 r (.lst ((cs.set f wr).map V.ref)) = H9
    have k9 : Kp [r] H8 H9 := by rw [← hH9]; exact Kp.old (by simp)
    have k9' : Kp [] H H9 := fun b o e hb => k9 b o (k8' b o e hb) (by simpa using ne_of_none e hrH)
    have hE9 := hE.keep k9'
    have hwr9 : H9 wr = some (.lst (nV wk)) := k9.at hwr8 (by simpa using nwr)
    have hfl9 : H9 fl = some (.lst (nV rest)) := k9.at hfl8 (by simpa using nrf.symm)
    have hP9 : PlAt t H9 p l ds.length (0 :: (L ++ [(f, wk)]).flatMap (·.2)) := by
      have : PlAt t H9 p l ds.length (0 :: L.flatMap (·.2) ++ wk) := hP8.keep k9 (by simpa using nrp.symm) (by simpa using nrl.symm)
      simpa using this
    have hC9 : ChildAt H9 r (cs.set f wr) (hsOf ds.length (L ++ [(f, wk)])) := by
      refine ⟨by rw [← hH9]; exact upd_same, by rw [List.length_set, hC8.len, hsOf_length, hsOf_length], fun i c x hc hx => ?_⟩
      rw [← hsOf_set hfl hfL] at hx
      by_cases hif : f = i
      · subst hif
        rw [List.getElem?_set_self hcsf] at hc
        rw [List.getElem?_set_self (by rw [hsOf_length]; exact hfl)] at hx
        cases hc
        cases hx
        exact hwr9
      · rw [List.getElem?_set_ne hif] at hc hx
        exact k9.at (hC8.at_ i c x hc hx) (by simpa using (hcs c (List.mem_of_getElem? hc)).2.1)
    have hcs9 : ∀ c ∈ cs.set f wr, c ≠ fl ∧ c ≠ r ∧ H c = none := fun c hc => by
      rcases List.mem_or_eq_of_mem_set hc with z | z
      · exact hcs c z
      · subst z; exact ⟨nwf, nwr, hwrH⟩
    have hwkl : wk.length ≤ ds.length := by
      have := hA7.le
      rw [List.length_append] at this
      omega
    refine ⟨_, rfl, .inl ⟨rfl, _, SqL.of hfl9⟩, _, rfl, wr, rfl, ⟨_, SqL.of hwr9⟩, fun D hD => ?_⟩
    have hDH : H D = none := k9'.nfree hD
    have nDf : fl ≠ D := ne_of_none hfl9 hD
    refine lc_list (K := K) (a := wr) (xs := nV wk) (fun i H' => H' = upd H9 D (.lst (nV (folders ds (wk.take i))))) rfl (fun i H' _ e => by rw [e]; exact SqL.of (by rw [upd_ne (ne_of_none hwr9 hD)]; exact hwr9)) (fun i x H' hx e => ?_) (fun H' e => ?_)
    · subst e
      obtain ⟨n, hn, rfl⟩ := nV_some hx
      have hkn := hTw.kinds n (List.mem_of_getElem? hn)
      have hE10 := hE9.keep (Kp.new (o := .lst (nV (folders ds (wk.take i)))) hD)
      obtain ⟨w2, d2, hw2, hd2, hV2⟩ := hE10.get (i := n) (kindAt_lt (by omega))
      rw [kindAt_some hd2] at hkn
      obtain ⟨a2, dx2, m2, kk2, rfl, ha2, _, _⟩ := hV2.some (by omega)
      refine ⟨rfl, _, rfl, _, rfl, q, _, _, _, rfl, rfl, SqL.of hE10.ls, at_of (j := n) rfl hw2, a2, t.c_Entry, dx2, _, _, rfl, ha2, T.cl_Entry, T.n_Entry_kind, ef_kind m2 kk2 d2, rfl, _, rfl, ?_⟩
      have etake : folders ds (wk.take (i + 1)) = folders ds (wk.take i) ++ if kindAt ds n = 1 then [n] else [] := by
        unfold folders
        rw [List.take_add_one, hn, List.filter_append]
        congr 1
        show List.filter _ [n] = _
        rw [List.filter_cons]
        by_cases hk1 : kindAt ds n = 1
        · rw [if_pos hk1, if_pos (by simp [hk1])]; rfl
        · rw [if_neg hk1, if_neg (by simp [hk1])]; rfl
      dsimp only
      refine ite2 (fun z => ?_) (fun z => ?_)
      · have z := tEq 1 z
        refine ⟨_, rfl, _, upd_same, ?_, ?_⟩
        · rw [nV_length]
          have h1 : (folders ds (wk.take i)).length ≤ (wk.take i).length := List.length_filter_le _ _
          rw [List.length_take] at h1
          omega
        · rw [upd_upd, etake, if_pos (by rw [kindAt_some hd2]; exact z), nV_append]; rfl
      · have z := tNt 1 z
        rw [etake, if_neg (by rw [kindAt_some hd2]; exact z), List.append_nil]
    · subst e
      rw [nV_length, List.take_length]
      have hlf : (folders ds wk).length ≤ wk.length := List.length_filter_le _ _
      have hrl : rest.length ≤ ds.length := by
        have := nodup_le ds.length (rest ++ [f]) (List.nodup_append.mp hT.nd).1 fun x hx => kindAt_lt (by have := hT.kinds x hx; omega)
        rw [List.length_append] at this
        omega
      refine ⟨fl, D, _, _, rfl, rfl, by rw [upd_ne nDf]; exact hfl9, upd_same, by rw [nV_length, nV_length]; omega, ?_⟩
      have hLl : (L ++ [(f, wk)]).length ≤ ds.length := by
        have := nodup_le ds.length ((L ++ [(f, wk)]).map (·.1)) hT8.ndL fun x hx => by
          obtain ⟨p', hp', rfl⟩ := List.mem_map.mp hx
          exact hT8.lt p' hp'
        simpa using this
      rw [List.length_append] at hLl
      have npD : p ≠ D := let ⟨_, e⟩ := hP9.ob; ne_of_none e hD
      have nlD : l ≠ D := ne_of_none hP9.ls hD
      have nrD : r ≠ D := ne_of_none hC9.ls hD
      refine ⟨ds.length - (L ++ [(f, wk)]).length, ?_, rest ++ folders ds wk, L ++ [(f, wk)], cs.set f wr, _, _, _, _, rfl, rfl, fun b o e hb => ?_, ?_, ?_, hT8, ?_, hcs9⟩
      · rw [List.length_append]; simp at hLl ⊢; omega
      · rw [upd_ne (ne_of_none e hflH), upd_ne (ne_of_none e hDH)]; exact k9' b o e hb
      · rw [upd_same, nV_append]
      · obtain ⟨dx9, hp9⟩ := hP9.ob
        exact ⟨⟨dx9, by rw [upd_ne npf, upd_ne npD]; exact hp9⟩, by rw [upd_ne nlf, upd_ne nlD]; exact hP9.ls⟩
      · refine ⟨by rw [upd_ne nrf, upd_ne nrD]; exact hC9.ls, hC9.len, fun i c x hc hx => ?_⟩
        have h9 := hC9.at_ i c x hc hx
        rw [upd_ne (hcs9 c (List.mem_of_getElem? hc)).1, upd_ne (ne_of_none h9 hD)]; exact h9
end
end FT
namespace FT
open PySem L2 FV
section
variable {P : Program} {w : World} {K : PySem.W.Frag} {mg : Str → Option Value} {base : Heap} {t : Adr}
def dI (ns : List Nat) : List PyData := ns.map fun (n : Nat) => PyData.int (n : Int)
theorem dp_nat (H : Hp) : ∀ ns : List Nat, DpAll K H (nV ns) (dI ns)
  | [] => .nil
  | n :: ns => .cons (.int _) (dp_nat H ns)
theorem eqv_nat : ∀ a b : List Nat, PyData.eqvAll (dI a) (dI b) = decide (a = b)
  | [], [] => by simp [dI, PyData.eqvAll]
  | [], _ :: _ => by simp [dI, PyData.eqvAll]
  | _ :: _, [] => by simp [dI, PyData.eqvAll]
  | x :: a, y :: b => by
    have ih := eqv_nat a b
    unfold dI at ih
    rw [dI, dI, List.map_cons, List.map_cons, PyData.eqvAll, ih, PyData.eqv]
    by_cases h : x = y
    · subst h
      by_cases h2 : a = b
      · subst h2; simp
      · simp [h2]
    · have h1 : ((x : Int) == (y : Int)) = false := by simp; omega
      rw [h1]
      simp [h]
theorem lay_nat : ∀ a : List Nat, PyData.canLayAll0 (dI a) = true
  | [] => by simp [dI, PyData.canLayAll0]
  | x :: a => by
    have ih := lay_nat a
    unfold dI at ih
    rw [dI, List.map_cons, PyData.canLayAll0, ih, PyData.canLay0]
    rfl
theorem depth_nat : ∀ a : List Nat, PyData.depthAll (dI a) = 0
  | [] => by simp [dI, PyData.depthAll]
  | x :: a => by
    have ih := depth_nat a
    unfold dI at ih
    rw [dI, List.map_cons, PyData.depthAll, ih, PyData.depth]
    rfl
theorem shaped_lst (a : List Nat) : SeqAt.shaped (.list (dI a)) = true := by
  unfold SeqAt.shaped
  rw [PyData.canLay0, lay_nat, PyData.depth, depth_nat]
  decide
theorem shaped_tup (a : List Nat) : SeqAt.shaped (.tuple (dI a)) = true := by
  unfold SeqAt.shaped
  rw [PyData.canLay0, lay_nat, PyData.depth, depth_nat]
  decide
theorem eqv_lst (a b : List Nat) : PyData.eqv (.list (dI a)) (.list (dI b)) = decide (a = b) := by rw [PyData.eqv, eqv_nat]
theorem eqv_tup (a b : List Nat) : PyData.eqv (.tuple (dI a)) (.tuple (dI b)) = decide (a = b) := by rw [PyData.eqv, eqv_nat]
theorem any_nat (ns : List Nat) : ((natZ ns).any fun n => n != 0) = !decide (∀ x ∈ ns, x = 0) := by
  unfold natZ
  rw [List.any_map]
  induction ns with
  | nil => simp
  | cons x ns ih =>
    rw [List.any_cons, ih]
    by_cases h : x = 0
    · subst h; simp
    · have h1 : ((fun n : Int => n != 0) ∘ fun n : Nat => (n : Int)) x = true := by simp; omega
      rw [h1]
      simp [h]
def hdf (n : Addr) (r : List Nat) : List (Str × V) := [("table_length", .int (n4 r 44 : Nat)), ("directory_at", .int (n4 r 48 : Nat)), ("small_table_at", .int (n4 r 60 : Nat)), ("small_table_length", .int (n4 r 64 : Nat)), ("first_list", .int (n4 r 68 : Nat)), ("list_count", .int (n4 r 72 : Nat)), ("named", .ref n)]
theorem hdf_tl (n : Addr) (r : List Nat) : (hdf n r).lookup ("table_length" : Str) = some (.int (n4 r 44 : Nat)) := by kernel_rfl
theorem hdf_dir (n : Addr) (r : List Nat) : (hdf n r).lookup ("directory_at" : Str) = some (.int (n4 r 48 : Nat)) := by kernel_rfl
theorem hdf_sta (n : Addr) (r : List Nat) : (hdf n r).lookup ("small_table_at" : Str) = some (.int (n4 r 60 : Nat)) := by kernel_rfl
theorem hdf_stl (n : Addr) (r : List Nat) : (hdf n r).lookup ("small_table_length" : Str) = some (.int (n4 r 64 : Nat)) := by kernel_rfl
theorem hdf_fl (n : Addr) (r : List Nat) : (hdf n r).lookup ("first_list" : Str) = some (.int (n4 r 68 : Nat)) := by kernel_rfl
theorem hdf_lc (n : Addr) (r : List Nat) : (hdf n r).lookup ("list_count" : Str) = some (.int (n4 r 72 : Nat)) := by kernel_rfl
theorem hdf_named (n : Addr) (r : List Nat) : (hdf n r).lookup ("named" : Str) = some (.ref n) := by kernel_rfl
theorem hdf_put (n : Addr) (r : List Nat) : putF "named" (.ref n) (putF "list_count" (.int (n4 r 72 : Nat)) (putF "first_list" (.int (n4 r 68 : Nat)) (putF "small_table_length" (.int (n4 r 64 : Nat)) (putF "small_table_at" (.int (n4 r 60 : Nat)) (putF "directory_at" (.int (n4 r 48 : Nat)) (putF "table_length" (.int (n4 r 44 : Nat)) []))))))
  = hdf n r := by kernel_rfl
structure HeadAt (t : Adr) (H : Hp) (p n : Addr) (r : List Nat) : Prop where
  ob : ∃ dx, H p = some (.ins t.c_Head dx (hdf n r))
  ls : H n = some (.lst (nV (nums ((r.drop 76).take 436))))
theorem HeadAt.keep {H H' : Hp} {p n : Addr} {r : List Nat} (h : HeadAt t H p n r) (k : Kp [] H H') : HeadAt t H' p n r := ⟨let ⟨dx, e⟩ := h.ob; ⟨dx, k.nil e⟩, k.nil h.ls⟩
def spHead (t : Adr) : Sp := fun vs H Q _ => ∃ (p dx a : Addr) (r : List Nat), vs = [.ref p, .ref a] ∧ H p = some (.ins t.c_Head dx []) ∧ H a = some (.lst (nV r)) ∧ 512 ≤ r.length ∧
  ∀ (n : Addr) (H' : Hp), H n = none → HeadAt t H' p n r → (∀ b o, H b = some o → b ≠ p → H' b = some o) → Q .non H'
theorem ok_Head_init (T : Txt K mg t) : FnOk P w K mg base CX0 4 t.a_Head_init t.d_Head_init ["self", "file"] (spHead t) := by
  refine T.F_Head_init.ok sc_Head_init (fun vs H Q E h => ?_) (fun cdv A outer s H vs Q E hr h => ?_)
  · obtain ⟨p, dx, a, r, rfl, _⟩ := h
    rfl
  · obtain ⟨p, dx, a, r, rfl, hp, hA, hl, k⟩ := h
    obtain ⟨u, hu, ru⟩ := T.k_SECTOR_SIZE
    have hr2 : Room 2 _ := hr.mono (by decide)
    have nap : a ≠ p := ne_of hA hp (by intro z; cases z)
    refine ⟨_, pss_cons (ps_fld (pv 0) (pe_call (ok_four_bytes T) hr2 rfl T.g_four_bytes T.F_four_bytes.kp T.b_four_bytes .nil pass0 (pa_cons (pv 1) (pa_cons pe_int pa_nil))) rfl)
      (pss_cons (ps_fld (pv 0) (pe_call (ok_four_bytes T) hr2 rfl T.g_four_bytes T.F_four_bytes.kp T.b_four_bytes .nil pass0 (pa_cons (pv 1) (pa_cons pe_int pa_nil))) rfl)
      (pss_cons (ps_fld (pv 0) (pe_call (ok_four_bytes T) hr2 rfl T.g_four_bytes T.F_four_bytes.kp T.b_four_bytes .nil pass0 (pa_cons (pv 1) (pa_cons pe_int pa_nil))) rfl)
      (pss_cons (ps_fld (pv 0) (pe_call (ok_four_bytes T) hr2 rfl T.g_four_bytes T.F_four_bytes.kp T.b_four_bytes .nil pass0 (pa_cons (pv 1) (pa_cons pe_int pa_nil))) rfl)
      (pss_cons (ps_fld (pv 0) (pe_call (ok_four_bytes T) hr2 rfl T.g_four_bytes T.F_four_bytes.kp T.b_four_bytes .nil pass0 (pa_cons (pv 1) (pa_cons pe_int pa_nil))) rfl)
      (pss_cons (ps_fld (pv 0) (pe_call (ok_four_bytes T) hr2 rfl T.g_four_bytes T.F_four_bytes.kp T.b_four_bytes .nil pass0 (pa_cons (pv 1) (pa_cons pe_int pa_nil))) rfl)
      (pss_one (ps_fld (pv 0) (pe_call (ok_numbers_of T) hr rfl T.g_numbers_of T.F_numbers_of.kp T.b_numbers_of .nil pass0 (pa_cons (pe_slice sl_list (pv 1) (po_some pe_int) (po_some (pe_glob rfl hu ru))) pa_nil)) rfl)))))))
      , ?_⟩
    have hSq : ∀ o, SqL K (upd H p o) a (nV r) := fun o => SqL.of (by rw [upd_ne nap]; exact hA)
    refine ⟨_, rfl, a, r, 44, rfl, SqL.of hA, by omega, _, rfl, p, t.c_Head, dx, _, rfl, hp, T.cl_Head, T.n_Head_table_length, (by show 0 < 1000; decide), ?_⟩
    refine ⟨_, rfl, a, r, 48, rfl, hSq _, by omega, _, rfl, p, t.c_Head, dx, _, rfl, upd_same, T.cl_Head, T.n_Head_directory_at, (by show 1 < 1000; decide), ?_⟩
    rw [upd_upd]
    refine ⟨_, rfl, a, r, 60, rfl, hSq _, by omega, _, rfl, p, t.c_Head, dx, _, rfl, upd_same, T.cl_Head, T.n_Head_small_table_at, (by show 2 < 1000; decide), ?_⟩
    rw [upd_upd]
    refine ⟨_, rfl, a, r, 64, rfl, hSq _, by omega, _, rfl, p, t.c_Head, dx, _, rfl, upd_same, T.cl_Head, T.n_Head_small_table_length, (by show 3 < 1000; decide), ?_⟩
    rw [upd_upd]
    refine ⟨_, rfl, a, r, 68, rfl, hSq _, by omega, _, rfl, p, t.c_Head, dx, _, rfl, upd_same, T.cl_Head, T.n_Head_first_list, (by show 4 < 1000; decide), ?_⟩
    rw [upd_upd]
    refine ⟨_, rfl, a, r, 72, rfl, hSq _, by omega, _, rfl, p, t.c_Head, dx, _, rfl, upd_same, T.cl_Head, T.n_Head_list_count, (by show 5 < 1000; decide), ?_⟩
    rw [upd_upd]
    refine ⟨_, rfl, _, rfl, _, rfl, a, _, rfl, hSq _, fun c hc => ?_⟩
    have ecut : cutV (nV r) (some 76) (some 512) = nV ((r.drop 76).take 436) := by
      rw [show (76 : Int) = ((76 : Nat) : Int) from rfl, show (512 : Int) = ((512 : Nat) : Int) from rfl, cut_nat, nV_drop, nV_take]
    have npc : p ≠ c := ne_of_none upd_same hc
    refine ⟨c, (r.drop 76).take 436, rfl, SqL.of (by rw [upd_same]; exact congrArg (fun z => some (HO.lst z)) ecut), ?_, ?_, fun n hn => ?_⟩
    · rw [List.length_take, List.length_drop]; omega
    · rw [List.length_take, List.length_drop]; omega
    have npn : p ≠ n := ne_of_none (H := upd (upd H p _) c _) (by rw [upd_ne npc]; exact upd_same) hn
    refine ⟨_, rfl, p, t.c_Head, dx, _, rfl, by rw [upd_ne npn, upd_ne npc]; exact upd_same, T.cl_Head, T.n_Head_named, (by show 6 < 1000; decide), ?_⟩
    have hc0 : H c = none := by rw [upd_ne npc.symm] at hc; exact hc
    have hn0 : H n = none := by
      have h1 := (Kp.new (ls := []) hc).nfree hn
      rw [upd_ne npn.symm] at h1; exact h1
    refine k n _ hn0 ⟨⟨dx, ?_⟩, ?_⟩ fun b o e hb => ?_
    · rw [upd_same]
      exact congrArg (fun z => some (HO.ins t.c_Head dx z)) (hdf_put n r)
    · rw [upd_ne npn.symm, upd_same]
    · rw [upd_ne hb, upd_ne (ne_of_none e hn0), upd_ne (ne_of_none e hc0), upd_ne hb]; exact e
structure FixedOk (r : List Nat) : Prop where
  mark : (r.drop 0).take 8 = MARK
  z8 : ∀ x ∈ (r.drop 8).take 16, x = 0
  p26 : n2 r 26 = 3
  p28 : n2 r 28 = 65534
  p30 : n2 r 30 = 9
  p32 : n2 r 32 = 6
  z34 : ∀ x ∈ (r.drop 34).take 10, x = 0
  p56 : n4 r 56 = 4096
def spFixed (t : Adr) : Sp := fun vs H Q E => ∃ (a : Addr) (r : List Nat), vs = [.ref a] ∧ H a = some (.lst (nV r)) ∧ 512 ≤ r.length ∧
  (FixedOk r → ∀ H', Kp [] H H' → Q .non H') ∧ (¬ FixedOk r → ∀ H', Kp [] H H' → E (.ref t.x_NotAStore) none H')
theorem ok_hold_fixed_places (T : Txt K mg t) : FnOk P w K mg base (CXE P w) 3 t.a_hold_fixed_places t.d_hold_fixed_places ["file"] (spFixed t) := by
  refine T.F_hold_fixed_places.okX sc_hold_fixed_places (fun vs H Q E h => ?_) (fun cdv A outer s H vs Q E hr h => ?_)
  · obtain ⟨a, r, rfl, _⟩ := h
    rfl
  · obtain ⟨a, r, rfl, hA, hl, k, kE⟩ := h
    have hr1 : Room 1 _ := hr.mono (by decide)
    refine ⟨_, pss_cons (ps_expr (pe_call (ok_hold T) hr1 rfl T.g_hold T.F_hold.kp T.b_hold .nil passX (pa_cons (pe_cmpR (op_eqD hr.units) (pe_callTy call_tuple_of (by rfl) T.z_tuple PyProof.Rows.boot_tuple (pa_cons (pe_slice sl_list (pv 0) (po_some pe_int) (po_some pe_int)) pa_nil)) (pe_glob (v := .ref t.t_MARK) rfl T.g_MARK rfl) (nomark _)) (pa_cons pe_str pa_nil))))
      (pss_cons (ps_expr (pe_call (ok_hold T) hr1 rfl T.g_hold T.F_hold.kp T.b_hold .nil passX (pa_cons (pe_not (pe_callB (cr_anyI rfl) (by rfl) T.z_any PyProof.Rows.boot_any (pa_cons (pe_slice sl_list (pv 0) (po_some pe_int) (po_some pe_int)) pa_nil))) (pa_cons pe_str pa_nil))))
      (pss_cons (ps_expr (pe_call (ok_hold T) hr1 rfl T.g_hold T.F_hold.kp T.b_hold .nil passX (pa_cons (pe_cmpR op_eq (pe_call (ok_two_bytes T) hr1 rfl T.g_two_bytes T.F_two_bytes.kp T.b_two_bytes .nil pass0 (pa_cons (pv 0) (pa_cons pe_int pa_nil))) pe_int (nomark _)) (pa_cons pe_str pa_nil))))
      (pss_cons (ps_expr (pe_call (ok_hold T) hr1 rfl T.g_hold T.F_hold.kp T.b_hold .nil passX (pa_cons (pe_cmpR op_eq (pe_call (ok_two_bytes T) hr1 rfl T.g_two_bytes T.F_two_bytes.kp T.b_two_bytes .nil pass0 (pa_cons (pv 0) (pa_cons pe_int pa_nil))) pe_int (nomark _)) (pa_cons pe_str pa_nil))))
      (pss_cons (ps_expr (pe_call (ok_hold T) hr1 rfl T.g_hold T.F_hold.kp T.b_hold .nil passX (pa_cons (pe_cmpR op_eq (pe_call (ok_two_bytes T) hr1 rfl T.g_two_bytes T.F_two_bytes.kp T.b_two_bytes .nil pass0 (pa_cons (pv 0) (pa_cons pe_int pa_nil))) pe_int (nomark _)) (pa_cons pe_str pa_nil))))
      (pss_cons (ps_expr (pe_call (ok_hold T) hr1 rfl T.g_hold T.F_hold.kp T.b_hold .nil passX (pa_cons (pe_cmpR op_eq (pe_call (ok_two_bytes T) hr1 rfl T.g_two_bytes T.F_two_bytes.kp T.b_two_bytes .nil pass0 (pa_cons (pv 0) (pa_cons pe_int pa_nil))) pe_int (nomark _)) (pa_cons pe_str pa_nil))))
      (pss_cons (ps_expr (pe_call (ok_hold T) hr1 rfl T.g_hold T.F_hold.kp T.b_hold .nil passX (pa_cons (pe_not (pe_callB (cr_anyI rfl) (by rfl) T.z_any PyProof.Rows.boot_any (pa_cons (pe_slice sl_list (pv 0) (po_some pe_int) (po_some pe_int)) pa_nil))) (pa_cons pe_str pa_nil))))
      (pss_one (ps_expr (pe_call (ok_hold T) hr1 rfl T.g_hold T.F_hold.kp T.b_hold .nil passX (pa_cons (pe_cmpR op_eq (pe_call (ok_four_bytes T) hr rfl T.g_four_bytes T.F_four_bytes.kp T.b_four_bytes .nil pass0 (pa_cons (pv 0) (pa_cons pe_int pa_nil))) pe_int (nomark _)) (pa_cons pe_str pa_nil)))))))))))
      , ?_⟩
    have ec : ∀ i j : Nat, cutV (nV r) (some ((i : Nat) : Int)) (some ((j : Nat) : Int)) = nV ((r.drop i).take (j - i)) := fun i j => by rw [cut_nat, nV_drop, nV_take]
    refine ⟨_, rfl, _, rfl, _, rfl, a, _, rfl, SqL.of hA, fun c1 hc1 => ?_⟩
    have e1 : cutV (nV r) (some 0) (some 8) = nV ((r.drop 0).take 8) := ec 0 8
    rw [e1]
    refine ⟨c1, _, rfl, .inl ⟨SqL.of upd_same, fun c2 hc2 => ?_⟩⟩
    have k2 : Kp [] H (upd (upd H c1 (.lst (nV ((r.drop 0).take 8)))) c2 (.tup (nV ((r.drop 0).take 8)))) := (Kp.new hc1).trans (Kp.new hc2)
    refine ⟨.tuple (dI ((r.drop 0).take 8)), .tuple (dI MARK), .tup (SqT.of upd_same) (dp_nat _ _), .tup (T.s_MARK _) (dp_nat _ MARK), shaped_tup _, shaped_tup _, _, _, rfl, fun b => ?_, fun b => ?_⟩
    rotate_left
    · rw [eqv_tup] at b
      exact kE (fun z => of_decide_eq_false b z.mark) _ k2
    rw [eqv_tup] at b
    have hmark := of_decide_eq_true b
    generalize upd (upd H c1 (.lst (nV ((r.drop 0).take 8)))) c2 (.tup (nV ((r.drop 0).take 8))) = H2 at k2 ⊢
    refine ⟨_, rfl, _, rfl, _, rfl, a, _, rfl, SqL.of (k2.nil hA), fun c3 hc3 => ?_⟩
    have e3 : cutV (nV r) (some 8) (some 24) = nV ((r.drop 8).take 16) := ec 8 24
    rw [e3]
    have k3 : Kp [] H (upd H2 c3 (.lst (nV ((r.drop 8).take 16)))) := k2.trans (Kp.new hc3)
    refine ⟨c3, natZ ((r.drop 8).take 16), rfl, SqL.of (by rw [upd_same, nV_ints]), _, rfl, _, _, rfl, fun b => ?_, fun b => ?_⟩
    rotate_left
    · rw [any_nat, Bool.not_not] at b
      exact kE (fun z => of_decide_eq_false b z.z8) _ k3
    rw [any_nat, Bool.not_not] at b
    have hz8 := of_decide_eq_true b
    generalize upd H2 c3 (.lst (nV ((r.drop 8).take 16))) = H3 at k3 ⊢
    have hA3 : SqL K H3 a (nV r) := SqL.of (k3.nil hA)
    refine ⟨_, rfl, a, r, 26, rfl, hA3, by omega, rfl, _, _, rfl, fun b => ?_, fun b => kE (fun z => (tNe 3 b) z.p26) _ k3⟩
    have h26 := tEq 3 b
    refine ⟨_, rfl, a, r, 28, rfl, hA3, by omega, rfl, _, _, rfl, fun b => ?_, fun b => kE (fun z => (tNe 65534 b) z.p28) _ k3⟩
    have h28 := tEq 65534 b
    refine ⟨_, rfl, a, r, 30, rfl, hA3, by omega, rfl, _, _, rfl, fun b => ?_, fun b => kE (fun z => (tNe 9 b) z.p30) _ k3⟩
    have h30 := tEq 9 b
    refine ⟨_, rfl, a, r, 32, rfl, hA3, by omega, rfl, _, _, rfl, fun b => ?_, fun b => kE (fun z => (tNe 6 b) z.p32) _ k3⟩
    have h32 := tEq 6 b
    refine ⟨_, rfl, _, rfl, _, rfl, a, _, rfl, hA3, fun c4 hc4 => ?_⟩
    have e4 : cutV (nV r) (some 34) (some 44) = nV ((r.drop 34).take 10) := ec 34 44
    rw [e4]
    have k4 : Kp [] H (upd H3 c4 (.lst (nV ((r.drop 34).take 10)))) := k3.trans (Kp.new hc4)
    refine ⟨c4, natZ ((r.drop 34).take 10), rfl, SqL.of (by rw [upd_same, nV_ints]), _, rfl, _, _, rfl, fun b => ?_, fun b => ?_⟩
    rotate_left
    · rw [any_nat, Bool.not_not] at b
      exact kE (fun z => of_decide_eq_false b z.z34) _ k4
    rw [any_nat, Bool.not_not] at b
    have hz34 := of_decide_eq_true b
    refine ⟨_, rfl, a, r, 56, rfl, SqL.of (k4.nil hA), by omega, rfl, _, _, rfl, fun b => ?_, fun b => kE (fun z => (tNe 4096 b) z.p56) _ k4⟩
    exact k ⟨hmark, hz8, h26, h28, h30, h32, hz34, tEq 4096 b⟩ _ k4
def spReadHead (t : Adr) : Sp := fun vs H Q E => ∃ (a : Addr) (r : List Nat), vs = [.ref a] ∧ H a = some (.lst (nV r)) ∧ 512 ≤ r.length ∧
  (∀ (p n : Addr) (H' : Hp), FixedOk r → H p = none → H n = none → Kp [] H H' → HeadAt t H' p n r → Q (.ref p) H') ∧ (¬ FixedOk r → ∀ H', Kp [] H H' → E (.ref t.x_NotAStore) none H')
theorem ok_read_head (T : Txt K mg t) : FnOk P w K mg base (CXE P w) 6 t.a_read_head t.d_read_head ["file"] (spReadHead t) := by
  refine T.F_read_head.okX sc_read_head (fun vs H Q E h => ?_) (fun cdv A outer s H vs Q E hr h => ?_)
  · obtain ⟨a, r, rfl, _⟩ := h
    rfl
  · obtain ⟨a, r, rfl, hA, hl, k, kE⟩ := h
    have hr3 : Room 3 _ := hr.mono (by decide)
    refine ⟨_, pss_cons (ps_expr (pe_call (ok_hold_fixed_places T) hr3 rfl T.g_hold_fixed_places T.F_hold_fixed_places.kp T.b_hold_fixed_places .nil passX (pa_cons (pv 0) pa_nil)))
      (pss_one (ps_ret (pe_make T.mk_Head (ok_Head_init T) hr rfl T.g_Head T.b_Head_init .nil pass0 (pa_cons (pv 0) pa_nil)))), ?_⟩
    refine ⟨_, rfl, a, r, rfl, hA, hl, fun hf H1 k1 => ?_, fun hf H1 k1 => kE hf H1 k1⟩
    have hA1 := k1.nil hA
    refine ⟨_, rfl, fun x dx hx hdx nex => ?_⟩
    refine ⟨x, dx, a, r, rfl, upd_same, by rw [upd_ne (ne_of_none hA1 hx), upd_ne (ne_of_none hA1 hdx)]; exact hA1, hl, fun n H2 hn hH h2 => ⟨rfl, ?_⟩⟩
    have kx : Kp [] H1 (upd (upd H1 dx (.own x)) x (.ins t.c_Head dx [])) := fun b o q _ => by
      rw [upd_ne (ne_of_none q hx), upd_ne (ne_of_none q hdx)]; exact q
    refine k x n H2 hf (k1.nfree hx) ((k1.trans kx).nfree hn) (fun b o q _ => ?_) hH
    have q1 := k1.nil q
    exact h2 b o (kx.nil q1) (ne_of_none q1 hx)
end
end FT
namespace FT
open PySem L2 FV
section
variable {P : Program} {w : World} {K : PySem.W.Frag} {mg : Str → Option Value} {base : Heap} {t : Adr}
theorem at_last {xs : List V} (h : 0 < xs.length) : atI xs (-1) = xs[xs.length - 1]? := by
  unfold atI ixN
  rw [if_neg (by omega), if_pos (by omega)]
  show xs[(-1 + (xs.length : Int)).toNat]? = _
  congr 1
  omega
theorem cut_last (xs : List V) : cutV xs none (some (-1)) = xs.take (xs.length - 1) := by
  unfold cutV
  rw [HT.sIx_none]
  have e : HT.sIx xs.length xs.length (some (-1)) = xs.length - 1 := by
    show (if (-1 : Int) < 0 then (-1 + (xs.length : Int)).toNat else min (-1 : Int).toNat xs.length) = _
    rw [if_pos (by decide)]; omega
  rw [e]
  simp
theorem sec_nb (b : Rc22.Bytes) (i : Nat) : sec (nb b) i = nb (Rc22.sector b i) := (nb_part b (512 * (i + 1)) 512).symm
theorem flat_nb (b : Rc22.Bytes) (ch : List Nat) : ch.flatMap (sec (nb b)) = nb (Rc22.bytesOf b ch) := by
  rw [nb_bytesOf]
  rw [List.flatMap_def, List.flatMap_def]
  congr 1
  apply List.map_congr_left
  intro i _
  exact sec_nb b i
theorem HeadAt.keepL {H H' : Hp} {p n l : Addr} {r : List Nat} {bs : List Bool} (h : HeadAt t H p n r) (hr : 512 ≤ r.length) (hl : H l = some (.lst (bs.map V.bl))) (k : Kp [l] H H') : HeadAt t H' p n r := by
  refine ⟨?_, k.at h.ls ?_⟩
  · obtain ⟨dx, e⟩ := h.ob
    exact ⟨dx, k.at e (by simpa using ne_of e hl (by intro z; cases z))⟩
  · have : nums ((r.drop 76).take 436) ≠ [] := by
      intro z
      have := congrArg List.length z
      rw [nums_length, List.length_take, List.length_drop, List.length_nil] at this
      omega
    simpa using ne_bl h.ls this hl
theorem nb_ne {b : Rc22.Bytes} (h : 512 ≤ b.length) : nb b ≠ [] := by
  intro z
  have := congrArg List.length z
  rw [nb_length, List.length_nil] at this
  omega
def spLists (t : Adr) : Sp := fun vs H Q E => ∃ (a hp n p l : Addr) (b : Rc22.Bytes), vs = [.ref a, .ref hp, .ref p] ∧ H a = some (.lst (nV (nb b))) ∧ b.length % 512 = 0 ∧ 512 ≤ b.length ∧ b.length ≤ 65536 ∧ HeadAt t H hp n (nb b) ∧ PlAt t H p l (Rc22.sectors b) [] ∧
  (∀ (ls : List Nat) (q : Addr) (H' : Hp), Rc22.lists b (Rc22.num b 72 4) (Rc22.num b 68 4) = some ls → Apart (Rc22.sectors b) ls → H q = none → Kp [l] H H' → H' q = some (.lst (nV ls)) → PlAt t H' p l (Rc22.sectors b) ls → Q (.ref q) H') ∧
  ((∀ ls, Rc22.lists b (Rc22.num b 72 4) (Rc22.num b 68 4) = some ls → ¬ ls.Nodup) → ∀ H', Kp [l] H H' → E (.ref t.x_NotAStore) none H')
theorem ok_read_lists (T : Txt K mg t) : FnOk P w K mg base (CXE P w) 4 t.a_read_lists t.d_read_lists ["file", "head", "places"] (spLists t) := by
  refine T.F_read_lists.okX sc_read_lists (fun vs H Q E h => ?_) (fun cdv A outer s H vs Q E hr h => ?_)
  · obtain ⟨a, hp, n, p, l, b, rfl, _⟩ := h
    rfl
  · obtain ⟨a, hp, n, p, l, b, rfl, hA, hb, hb1, hb2, hH, hP, k, kE⟩ := h
    obtain ⟨u1, hu1, ru1⟩ := T.k_END
    obtain ⟨u2, hu2, ru2⟩ := T.k_FREE
    have hs : sizeLine = 16777216 := sizeLine_eq
    have hr1 : Room 1 _ := hr.mono (by decide)
    have hr2 : Room 2 _ := hr.mono (by decide)
    have hm : Rc22.sectors b ≤ 127 := by unfold Rc22.sectors; omega
    have hal : a ≠ l := ne_bl hA (nb_ne hb1) hP.ls
    refine ⟨_, pss_cons (ps_set (i := 3) sc_read_lists.nd rfl (Or.inl rfl) (pe_lst pa_nil))
      (pss_cons (ps_set (i := 4) sc_read_lists.nd rfl (Or.inl rfl) (pe_fld (pv 1) rfl))
      (pss_cons (ps_while passOwn (pt_cmpR op_lt (pe_callB call_len_seq (by rfl) T.z_len PySem.boot_len (pa_cons (pv 3) pa_nil)) (pe_fld (pv 1) rfl) (nomark _))
        (pss_cons (ps_expr (pe_meth (pv 2) T.cl_Places T.m_Places_take (ok_Places_take T) hr2 T.b_Places_take .nil passX (pa_cons (pv 4) pa_nil)))
        (pss_cons (ps_expr (pe_bm PySem.F.plainAttrs_list PySem.F.slot_list_append PySem.F.type_list_append mt_append (pv 3) (pa_cons (pv 4) pa_nil)))
        (pss_one (ps_set (i := 4) sc_read_lists.nd rfl (Or.inl rfl) (pe_ix ix_list (pe_call (ok_numbers_of T) hr rfl T.g_numbers_of T.F_numbers_of.kp T.b_numbers_of .nil pass0
          (pa_cons (pe_call (ok_sector_of T) hr1 rfl T.g_sector_of T.F_sector_of.kp T.b_sector_of .nil pass0 (pa_cons (pv 0) (pa_cons (pv 4) pa_nil))) pa_nil)) (pe_un un_neg pe_int) (fun _ _ => rfl)))))))
      (pss_cons (ps_expr (pe_call (ok_hold T) hr1 rfl T.g_hold T.F_hold.kp T.b_hold .nil passX (pa_cons (pe_cmpR op_in_seq (pv 4) (pe_tup (pa_cons (pe_glob rfl hu1 ru1) (pa_cons (pe_glob rfl hu2 ru2) pa_nil))) rfl) (pa_cons pe_str pa_nil))))
      (pss_one (ps_ret (pv 3)))))), ?_⟩
    refine ⟨(by show 0 ≤ sizeLine; decide), fun q hq => ?_⟩
    have k0 : Kp [] H (upd H q (.lst [])) := Kp.new hq
    have hlq : l ≠ q := ne_of_none hP.ls hq
    obtain ⟨dh, hh0⟩ := (hH.keep k0).ob
    refine ⟨_, rfl, hp, t.c_Head, dh, _, _, rfl, hh0, T.cl_Head, T.n_Head_first_list, hdf_fl n (nb b), ?_⟩
    refine ⟨fun j σ H2 => ∃ (pre : List Nat) (cur : Nat), j = Rc22.sectors b - pre.length ∧ σ = [some (.ref a), some (.ref hp), some (.ref p), some (.ref q), some (.int (cur : Int))] ∧ Kp [l] H H2 ∧ H2 q = some (.lst (nV pre)) ∧
      PlAt t H2 p l (Rc22.sectors b) pre ∧ Apart (Rc22.sectors b) pre ∧ Lists b (Rc22.num b 72 4) (Rc22.num b 68 4) pre cur, ⟨_, [], n4 (nb b) 68, rfl, rfl, k0.mono (by simp), upd_same, hP.keep0 k0, Apart.nil _, by rw [← num4]; exact Lists.start _ _ _⟩, ?_⟩
    rintro j σ H2 ⟨pre, cur, rfl, rfl, k2, hq2, hP2, hA2, hF⟩
    obtain ⟨dh2, hh2⟩ := (hH.keepL (by rw [nb_length]; exact hb1) hP.ls k2).ob
    refine ⟨_, rfl, q, _, rfl, .inl (SqL.of hq2), _, rfl, hp, t.c_Head, dh2, _, _, rfl, hh2, T.cl_Head, T.n_Head_list_count, hdf_lc n (nb b), _, _, rfl, rfl, _, rfl, ?_⟩
    rw [nV_length]
    have hpre := hA2.le
    by_cases hlt : pre.length < Rc22.num b 72 4
    · have e : decide (((pre.length : Nat) : Int) < ((n4 (nb b) 72 : Nat) : Int)) = true := decide_eq_true (by rw [num4] at hlt; omega)
      rw [e]
      refine iteT ⟨_, fun σ' H' z => z, ?_⟩
      obtain ⟨dx, hp2⟩ := hP2.ob
      refine ⟨_, rfl, p, dx, _, rfl, hp2, pf_no l (by decide +kernel), _, rfl, p, l, Rc22.sectors b, cur, pre, rfl, hP2, by omega, fun h1 h2 => ?_, fun h1 => ?_⟩
      · refine ⟨_, rfl, .inl ⟨rfl, _, SqL.of (by rw [upd_ne hlq.symm]; exact hq2)⟩, _, rfl, q, _, _, rfl, rfl, by rw [upd_ne hlq.symm]; exact hq2, by rw [nV_length]; omega, ?_⟩
        have hH3a : ∀ o o', (upd (upd H2 l o) q o') a = some (.lst (nV (nb b))) := fun o o' => by
          rw [upd_ne (ne_of_none hA hq), upd_ne hal]; exact k2.at hA (by simpa using hal)
        refine ⟨_, rfl, _, rfl, a, nb b, cur, rfl, SqL.of (hH3a _ _), fun sa hsa => ?_⟩
        have hsl : (nb (Rc22.sector b cur)).length = 512 := by rw [nb_length]; exact sector_length hb h1
        have esec : List.take 512 (List.drop (512 * (cur + 1)) (nb b)) = nb (Rc22.sector b cur) := sec_nb b cur
        rw [esec]
        refine ⟨sa, nb (Rc22.sector b cur), rfl, SqL.of upd_same, by omega, by omega, fun na hna => ?_⟩
        have hnl : (nV (nums (nb (Rc22.sector b cur)))).length = 128 := by rw [nV_length, nums_length, hsl]
        refine ⟨_, rfl, na, _, _, .int (Rc22.num (Rc22.sector b cur) 508 4 : Nat), rfl, rfl, SqL.of upd_same, ?_, ?_⟩
        · rw [at_last (by rw [hnl]; decide), hnl, nV_get?, nums_last hsl, num4]
          rfl
        have nq1 : q ≠ sa := ne_of_none upd_same hsa
        have nq2 : q ≠ na := ne_of_none (H := upd (upd (upd H2 l _) q _) sa _) (by rw [upd_ne nq1]; exact upd_same) hna
        have k3 : Kp [l] H (upd (upd (upd (upd H2 l (.lst ((marks (Rc22.sectors b) (pre ++ [cur])).map V.bl))) q (.lst (nV pre ++ [V.int (cur : Int)]))) sa (.lst (nV (nb (Rc22.sector b cur))))) na (.lst (nV (nums (nb (Rc22.sector b cur)))))) := fun x o e hx => by
          have hxl : x ≠ l := by simpa using hx
          have hxq : x ≠ q := ne_of_none e hq
          have e2 : (upd (upd H2 l (.lst ((marks (Rc22.sectors b) (pre ++ [cur])).map V.bl))) q (.lst (nV pre ++ [V.int (cur : Int)]))) x = some o := by rw [upd_ne hxq, upd_ne hxl]; exact k2 x o e hx
          have e3 := (Kp.new (ls := []) (o := .lst (nV (nb (Rc22.sector b cur)))) hsa).nil e2
          exact (Kp.new (ls := []) hna).nil e3
        have keep : ∀ x o, (upd (upd H2 l (.lst ((marks (Rc22.sectors b) (pre ++ [cur])).map V.bl))) q (.lst (nV pre ++ [V.int (cur : Int)]))) x = some o →
            (upd (upd (upd (upd H2 l (.lst ((marks (Rc22.sectors b) (pre ++ [cur])).map V.bl))) q (.lst (nV pre ++ [V.int (cur : Int)]))) sa (.lst (nV (nb (Rc22.sector b cur))))) na (.lst (nV (nums (nb (Rc22.sector b cur)))))) x = some o := fun x o e2 =>
          (Kp.new (ls := []) hna).nil ((Kp.new (ls := []) (o := .lst (nV (nb (Rc22.sector b cur)))) hsa).nil e2)
        have room := hA2.room h1 h2
        refine ⟨Rc22.sectors b - (pre ++ [cur]).length, ?_, pre ++ [cur], Rc22.num (Rc22.sector b cur) 508 4, rfl, rfl, k3, ?_, ⟨⟨dx, ?_⟩, ?_⟩, hA2.snoc h1 h2, hF.step h1 hlt⟩
        · rw [List.length_append]; simp; omega
        · exact keep q _ (by rw [upd_same, nV_append]; rfl)
        · have hpl : p ≠ l := hP.ne
          have hpq : p ≠ q := let ⟨_, e⟩ := hP.ob; ne_of_none e hq
          exact keep p _ (by rw [upd_ne hpq, upd_ne hpl]; exact hp2)
        · exact keep l _ (by rw [upd_ne hlq, upd_same])
      · refine kE (fun ls hls nd => ?_) H2 k2
        by_cases h3 : cur < Rc22.sectors b
        · have h4 : cur ∈ pre := Decidable.byContradiction fun z => h1 ⟨h3, z⟩
          exact hF.twice hlt h4 ls hls nd
        · exact hF.out hlt (by omega) ls hls
    · have e : decide (((pre.length : Nat) : Int) < ((n4 (nb b) 72 : Nat) : Int)) = false := decide_eq_false (by rw [num4] at hlt; omega)
      rw [e]
      refine iteF ?_
      refine ⟨_, rfl, (by show 2 ≤ sizeLine; decide), fun tp htp => ⟨tp, _, rfl, .inr (SqT.of upd_same), rfl, rfl, _, _, rfl, fun c => ?_, fun c => ?_⟩⟩
      · have c : inV (V.int (cur : Nat)) (nV [Rc22.END, Rc22.FREE]) = true := c
        rw [inV_nat] at c
        have c : cur = Rc22.END ∨ cur = Rc22.FREE := by simpa using c
        exact ⟨_, rfl, k pre q _ (hF.done hlt c) hA2 hq (k2.trans (Kp.new htp)) ((Kp.new (ls := []) htp).nil hq2) (hP2.keep0 (Kp.new htp))⟩
      · have c : inV (V.int (cur : Nat)) (nV [Rc22.END, Rc22.FREE]) = false := c
        rw [inV_nat] at c
        have c : ¬ (cur = Rc22.END ∨ cur = Rc22.FREE) := by simpa using c
        exact kE (fun ls hls _ => hF.open hlt c ls hls) _ (k2.trans (Kp.new htp))
def spNamed (t : Adr) : Sp := fun vs H Q _ => ∃ (a hp n q : Addr) (b : Rc22.Bytes) (ls : List Nat), vs = [.ref a, .ref hp, .ref q] ∧ H a = some (.lst (nV (nb b))) ∧ b.length % 512 = 0 ∧ HeadAt t H hp n (nb b) ∧ H q = some (.lst (nV ls)) ∧ (∀ s ∈ ls, s < Rc22.sectors b) ∧ ls.length ≤ 200 ∧
  ∀ (v : Addr) (H' : Hp), H v = none → Kp [] H H' → H' v = some (.lst (nV (namedOf b ls))) → Q (.ref v) H'
theorem named_len (b : Rc22.Bytes) : ∀ ls : List Nat, (ls.flatMap fun s => (nums (nb (Rc22.sector b s))).take 127).length ≤ 127 * ls.length
  | [] => by simp
  | x :: ls => by
    have := named_len b ls
    rw [List.flatMap_cons, List.length_append, List.length_cons, List.length_take]
    omega
theorem ok_read_named (T : Txt K mg t) : FnOk P w K mg base CX0 4 t.a_read_named t.d_read_named ["file", "head", "lists"] (spNamed t) := by
  refine T.F_read_named.ok sc_read_named (fun vs H Q E h => ?_) (fun cdv A outer s H vs Q E hr h => ?_)
  · obtain ⟨a, hp, n, q, b, ls, rfl, _⟩ := h
    rfl
  · obtain ⟨a, hp, n, q, b, ls, rfl, hA, hb, hH, hq, hls, hll, k⟩ := h
    have hs : sizeLine = 16777216 := sizeLine_eq
    have hr1 : Room 1 _ := hr.mono (by decide)
    refine ⟨_, pss_cons (ps_set (i := 3) sc_read_named.nd rfl (Or.inl rfl) (pe_callTy call_list_of (by rfl) T.z_list PyProof.Rows.boot_list (pa_cons (pe_fld (pv 1) rfl) pa_nil)))
      (pss_cons (ps_for PassesOwn.never rfl (pi_list (pv 2)) (pg_name (i := 4) sc_read_named.nd rfl (Or.inl rfl))
        (pss_one (ps_expr (pe_bm PySem.F.plainAttrs_list PySem.F.slot_list_extend PySem.F.type_list_extend mt_extend (pv 3)
          (pa_cons (pe_slice sl_list (pe_call (ok_numbers_of T) hr rfl T.g_numbers_of T.F_numbers_of.kp T.b_numbers_of .nil pass0
          (pa_cons (pe_call (ok_sector_of T) hr1 rfl T.g_sector_of T.F_sector_of.kp T.b_sector_of .nil pass0 (pa_cons (pv 0) (pa_cons (pv 4) pa_nil))) pa_nil)) po_none (po_some (pe_un un_neg pe_int))) pa_nil)))))
      (pss_one (ps_ret (pv 3)))), ?_⟩
    obtain ⟨dh, hh⟩ := hH.ob
    refine ⟨_, rfl, hp, t.c_Head, dh, _, _, rfl, hh, T.cl_Head, T.n_Head_named, hdf_named n (nb b), n, _, rfl, .inl (SqL.of hH.ls), fun v hv => ?_⟩
    have k0 : Kp [] H (upd H v (.lst (nV (nums (((nb b).drop 76).take 436))))) := Kp.new hv
    refine ⟨_, rfl, q, rfl, ⟨_, SqL.of (k0.nil hq)⟩, for_list (K := K) (a := q) (xs := nV ls) (fun i σ H2 => ∃ x : Option V, σ = [some (.ref a), some (.ref hp), some (.ref q), some (.ref v), x] ∧ Kp [] H H2 ∧ H2 v = some (.lst (nV (namedOf b (ls.take i)))))
      ⟨none, rfl, k0, by rw [upd_same]; simp [namedOf]⟩ (fun i σ H2 _ ⟨_, _, k2, _⟩ => SqL.of (k2.nil hq)) ?_ ?_⟩
    · rintro i y σ H2 hi ⟨x, rfl, k2, hv2⟩
      obtain ⟨cur, hn, rfl⟩ := nV_some hi
      have hil : i < ls.length := (List.getElem?_eq_some_iff.mp hn).1
      have h1 := hls cur (List.mem_of_getElem? hn)
      refine ⟨_, rfl, .inl ⟨rfl, _, SqL.of hv2⟩, _, rfl, _, rfl, a, nb b, cur, rfl, SqL.of (k2.nil hA), fun sa hsa => ?_⟩
      have hsl : (nb (Rc22.sector b cur)).length = 512 := by rw [nb_length]; exact sector_length hb h1
      have esec : List.take 512 (List.drop (512 * (cur + 1)) (nb b)) = nb (Rc22.sector b cur) := sec_nb b cur
      rw [esec]
      refine ⟨sa, nb (Rc22.sector b cur), rfl, SqL.of upd_same, by omega, by omega, fun na hna => ?_⟩
      refine ⟨_, rfl, _, rfl, na, _, rfl, SqL.of upd_same, fun da hda => ?_⟩
      have hnl : (nV (nums (nb (Rc22.sector b cur)))).length = 128 := by rw [nV_length, nums_length, hsl]
      have ecut : cutV (nV (nums (nb (Rc22.sector b cur)))) none (some (-1)) = nV ((nums (nb (Rc22.sector b cur))).take 127) := by
        rw [cut_last, hnl, nV_take]
      have kk : Kp [] H2 (upd (upd (upd H2 sa (.lst (nV (nb (Rc22.sector b cur))))) na (.lst (nV (nums (nb (Rc22.sector b cur)))))) da (.lst (cutV (nV (nums (nb (Rc22.sector b cur)))) none (some (-1))))) := ((Kp.new hsa).trans (Kp.new hna)).trans (Kp.new hda)
      have hv3 := kk.nil hv2
      refine ⟨v, da, _, _, rfl, rfl, hv3, upd_same, ?_, ?_⟩
      · rw [ecut, nV_length, nV_length, List.length_take]
        unfold namedOf
        rw [List.length_append, nums_length, List.length_take]
        have := named_len b (ls.take i)
        rw [List.length_take] at this
        omega
      · refine ⟨_, rfl, fun b' o e _ => ?_, ?_⟩
        · rw [upd_ne (ne_of_none e hv)]
          exact kk.nil (k2.nil e)
        · rw [upd_same, ecut, ← nV_append]
          unfold namedOf
          rw [flat_take (f := fun s => (nums (nb (Rc22.sector b s))).take 127) hn, List.append_assoc]
    · rintro σ H2 ⟨x, rfl, k2, hv2⟩
      rw [nV_length, List.take_length] at hv2
      exact ⟨_, rfl, k v H2 hv k2 hv2⟩
def spHoldNamed (t : Adr) : Sp := fun vs H Q E => ∃ (v : Addr) (xs : List Nat) (N : Nat), vs = [.ref v, .int (N : Int)] ∧ H v = some (.lst (nV xs)) ∧ xs.length ≤ 1000000 ∧
  (N ≤ xs.length → (xs.drop N).all (fun x => x == Rc22.FREE) = true → ∀ H', Kp [] H H' → Q .non H') ∧ (¬ (N ≤ xs.length ∧ (xs.drop N).all (fun x => x == Rc22.FREE) = true) → ∀ H', Kp [] H H' → E (.ref t.x_NotAStore) none H')
theorem ok_hold_named (T : Txt K mg t) : FnOk P w K mg base (CXE P w) 2 t.a_hold_named t.d_hold_named ["named", "length"] (spHoldNamed t) := by
  refine T.F_hold_named.okX sc_hold_named (fun vs H Q E h => ?_) (fun cdv A outer s H vs Q E hr h => ?_)
  · obtain ⟨v, xs, N, rfl, _⟩ := h
    rfl
  · obtain ⟨v, xs, N, rfl, hv, hz, k, kE⟩ := h
    refine ⟨_, pss_cons (ps_expr (pe_call (ok_hold T) hr rfl T.g_hold T.F_hold.kp T.b_hold .nil passX (pa_cons (pe_cmpR op_le (pv 1) (pe_callB call_len_seq (by rfl) T.z_len PySem.boot_len (pa_cons (pv 0) pa_nil)) (nomark _)) (pa_cons pe_str pa_nil))))
      (pss_one (ps_expr (pe_call (ok_hold T) hr rfl T.g_hold T.F_hold.kp T.b_hold .nil passX (pa_cons (pe_call (ok_all_free T) hr rfl T.g_all_free T.F_all_free.kp T.b_all_free .nil pass0 (pa_cons (pe_slice sl_list (pv 0) (po_some (pv 1)) po_none) pa_nil)) (pa_cons pe_str pa_nil))))), ?_⟩
    refine ⟨_, rfl, _, rfl, v, _, rfl, .inl (SqL.of hv), _, _, rfl, rfl, _, _, rfl, fun b1 => ?_, fun b1 => ?_⟩
    rotate_left
    · refine kE (fun z => ?_) H (Kp.refl _ _)
      have b1 := of_decide_eq_false b1
      rw [nV_length] at b1
      omega
    have b1 := of_decide_eq_true b1
    rw [nV_length] at b1
    refine ⟨_, rfl, _, rfl, _, rfl, v, _, rfl, SqL.of hv, fun c hc => ?_⟩
    rw [cut_from, nV_drop]
    refine ⟨c, xs.drop N, rfl, SqL.of upd_same, by rw [List.length_drop]; omega, fun H1 k1 => ⟨_, _, rfl, fun b2 => ?_, fun b2 => ?_⟩⟩
    · exact k (by omega) b2 H1 ((Kp.new hc).trans k1)
    · exact kE (fun z => by rw [z.2] at b2; cases b2) H1 ((Kp.new hc).trans k1)
def spOwnSectors (t : Adr) : Sp := fun vs H Q E => ∃ (c s l : Addr) (tb ts ls : List Nat), vs = [.ref c, .ref s, .ref l] ∧ H c = some (.lst (nV tb)) ∧ H s = some (.lst (nV ts)) ∧ H l = some (.lst (nV ls)) ∧ (∀ x ∈ ts, x < tb.length) ∧ (∀ x ∈ ls, x < tb.length) ∧
  ((∀ x ∈ ts, tb.getD x 0 = Rc22.TABLE) → (∀ x ∈ ls, tb.getD x 0 = Rc22.LIST) → Q .non H) ∧ (¬ ((∀ x ∈ ts, tb.getD x 0 = Rc22.TABLE) ∧ ∀ x ∈ ls, tb.getD x 0 = Rc22.LIST) → E (.ref t.x_NotAStore) none H)
theorem ok_hold_own_sectors (T : Txt K mg t) : FnOk P w K mg base (CXE P w) 2 t.a_hold_own_sectors t.d_hold_own_sectors ["table", "sectors", "lists"] (spOwnSectors t) := by
  refine T.F_hold_own_sectors.okX sc_hold_own_sectors (fun vs H Q E h => ?_) (fun cdv A outer s H vs Q E hr h => ?_)
  · obtain ⟨c, s, l, tb, ts, ls, rfl, _⟩ := h
    rfl
  · obtain ⟨c, s, l, tb, ts, ls, rfl, hc, hs, hl, hts, hls, k, kE⟩ := h
    obtain ⟨u1, hu1, ru1⟩ := T.k_TABLE
    obtain ⟨u2, hu2, ru2⟩ := T.k_LIST
    refine ⟨_, pss_cons (ps_for passOwn rfl (pi_list (pv 1)) (pg_name (i := 3) sc_hold_own_sectors.nd rfl (Or.inl rfl))
        (pss_one (ps_expr (pe_call (ok_hold T) hr rfl T.g_hold T.F_hold.kp T.b_hold .nil passX (pa_cons (pe_cmpR op_eq (pe_ix ix_list (pv 0) (pv 3) (fun _ _ => rfl)) (pe_glob rfl hu1 ru1) (nomark _)) (pa_cons pe_str pa_nil))))))
      (pss_one (ps_for passOwn rfl (pi_list (pv 2)) (pg_name (i := 3) sc_hold_own_sectors.nd rfl (Or.inl rfl))
        (pss_one (ps_expr (pe_call (ok_hold T) hr rfl T.g_hold T.F_hold.kp T.b_hold .nil passX (pa_cons (pe_cmpR op_eq (pe_ix ix_list (pv 0) (pv 3) (fun _ _ => rfl)) (pe_glob rfl hu2 ru2) (nomark _)) (pa_cons pe_str pa_nil))))))), ?_⟩
    refine ⟨_, rfl, s, rfl, ⟨_, SqL.of hs⟩, for_list (K := K) (a := s) (xs := nV ts) (fun i σ H2 => ∃ v : Option V, σ = [some (.ref c), some (.ref s), some (.ref l), v] ∧ H2 = H ∧ ∀ (j x : Nat), j < i → ts[j]? = some x → tb.getD x 0 = Rc22.TABLE)
      ⟨none, rfl, rfl, fun j x hj => by omega⟩ (fun i σ H2 _ ⟨_, _, e, _⟩ => by rw [e]; exact SqL.of hs) ?_ ?_⟩
    · rintro i y σ H2 hi ⟨v, rfl, rfl, hF⟩
      obtain ⟨n, hn, rfl⟩ := nV_some hi
      refine ⟨_, rfl, _, rfl, c, _, _, .int (g tb n : Nat), rfl, rfl, SqL.of hc, nV_at rfl (hts n (List.mem_of_getElem? hn)), rfl, _, _, rfl, fun b => ?_, fun b => ?_⟩
      · refine ⟨_, rfl, rfl, fun j x hj hx => ?_⟩
        by_cases hji : j = i
        · subst hji
          rw [hn] at hx
          cases hx
          exact tEq Rc22.TABLE b
        · exact hF j x (by omega) hx
      · exact kE fun z => (tNe Rc22.TABLE b) (z.1 n (List.mem_of_getElem? hn))
    · rintro σ H2 ⟨v, rfl, rfl, hF⟩
      have hT : ∀ x ∈ ts, tb.getD x 0 = Rc22.TABLE := fun x hx => by
        obtain ⟨j, hj⟩ := List.mem_iff_getElem?.mp hx
        exact hF j x (by rw [nV_length]; exact (List.getElem?_eq_some_iff.mp hj).1) hj
      refine ⟨_, rfl, l, rfl, ⟨_, SqL.of hl⟩, for_list (K := K) (a := l) (xs := nV ls) (fun i σ H3 => ∃ v : Option V, σ = [some (.ref c), some (.ref s), some (.ref l), v] ∧ H3 = H2 ∧ ∀ (j x : Nat), j < i → ls[j]? = some x → tb.getD x 0 = Rc22.LIST)
        ⟨v, rfl, rfl, fun j x hj => by omega⟩ (fun i σ H3 _ ⟨_, _, e, _⟩ => by rw [e]; exact SqL.of hl) ?_ ?_⟩
      · rintro i y σ H3 hi ⟨v, rfl, rfl, hF⟩
        obtain ⟨n, hn, rfl⟩ := nV_some hi
        refine ⟨_, rfl, _, rfl, c, _, _, .int (g tb n : Nat), rfl, rfl, SqL.of hc, nV_at rfl (hls n (List.mem_of_getElem? hn)), rfl, _, _, rfl, fun b => ?_, fun b => ?_⟩
        · refine ⟨_, rfl, rfl, fun j x hj hx => ?_⟩
          by_cases hji : j = i
          · subst hji
            rw [hn] at hx
            cases hx
            exact tEq Rc22.LIST b
          · exact hF j x (by omega) hx
        · exact kE fun z => (tNe Rc22.LIST b) (z.2 n (List.mem_of_getElem? hn))
      · rintro σ H3 ⟨v, rfl, rfl, hF⟩
        refine k hT fun x hx => ?_
        obtain ⟨j, hj⟩ := List.mem_iff_getElem?.mp hx
        exact hF j x (by rw [nV_length]; exact (List.getElem?_eq_some_iff.mp hj).1) hj
structure TableOk (b : Rc22.Bytes) (ls ts : List Nat) : Prop where
  hls : Rc22.lists b (Rc22.num b 72 4) (Rc22.num b 68 4) = some ls
  hts : Rc22.tables b ls = some ts
  len : Rc22.sectors b ≤ (Rc22.entries b ts).length
  more : (((Rc22.entries b ts).drop (Rc22.sectors b)).all fun x => x == Rc22.FREE) = true
  markT : (ts.all fun i => (tab b ts).getD i 0 == Rc22.TABLE) = true
  markL : (ls.all fun i => (tab b ts).getD i 0 == Rc22.LIST) = true
theorem tab_get {b : Rc22.Bytes} {ts : List Nat} {i : Nat} (h : i < Rc22.sectors b) : (tab b ts).getD i 0 = (Rc22.entries b ts).getD i 0 := by
  unfold tab
  rw [List.getD_eq_getElem?_getD, List.getD_eq_getElem?_getD, List.getElem?_take_of_lt h]
theorem mark_iff {b : Rc22.Bytes} {ts xs : List Nat} {v : Nat} (h : ∀ x ∈ xs, x < Rc22.sectors b) : (xs.all fun i => (tab b ts).getD i 0 == v) = true ↔ ∀ x ∈ xs, (Rc22.entries b ts).getD x 0 = v := by
  rw [List.all_eq_true]
  constructor
  · intro z x hx
    have := z x hx
    rw [tab_get (h x hx)] at this
    simpa using this
  · intro z x hx
    rw [tab_get (h x hx), z x hx]
    simp
def spTable (t : Adr) : Sp := fun vs H Q E => ∃ (a hp n p l : Addr) (b : Rc22.Bytes), vs = [.ref a, .ref hp, .ref p] ∧ H a = some (.lst (nV (nb b))) ∧ b.length % 512 = 0 ∧ 512 ≤ b.length ∧ b.length ≤ 65536 ∧ HeadAt t H hp n (nb b) ∧ PlAt t H p l (Rc22.sectors b) [] ∧
  (∀ (ls ts : List Nat) (c : Addr) (H' : Hp), TableOk b ls ts → Apart (Rc22.sectors b) (ls ++ ts) → H c = none → Kp [l] H H' → H' c = some (.lst (nV (Rc22.entries b ts))) → PlAt t H' p l (Rc22.sectors b) (ls ++ ts) → Q (.ref c) H') ∧
  ((∀ ls ts, TableOk b ls ts → ¬ (ls ++ ts).Nodup) → ∀ H', Kp [l] H H' → E (.ref t.x_NotAStore) none H')
theorem ok_read_table (T : Txt K mg t) : FnOk P w K mg base (CXE P w) 5 t.a_read_table t.d_read_table ["file", "head", "places"] (spTable t) := by
  refine T.F_read_table.okX sc_read_table (fun vs H Q E h => ?_) (fun cdv A outer s H vs Q E hr h => ?_)
  · obtain ⟨a, hp, n, p, l, b, rfl, _⟩ := h
    rfl
  · obtain ⟨a, hp, n, p, l, b, rfl, hA, hb, hb1, hb2, hH, hP, k, kE⟩ := h
    have hs : sizeLine = 16777216 := sizeLine_eq
    have hr1 : Room 1 _ := hr.mono (by decide)
    have hr2 : Room 2 _ := hr.mono (by decide)
    have hr3 : Room 3 _ := hr.mono (by decide)
    have hm : Rc22.sectors b ≤ 127 := by unfold Rc22.sectors; omega
    have hal : a ≠ l := ne_bl hA (nb_ne hb1) hP.ls
    refine ⟨_, pss_cons (ps_set (i := 3) sc_read_table.nd rfl (Or.inl rfl) (pe_call (ok_read_lists T) hr rfl T.g_read_lists T.F_read_lists.kp T.b_read_lists .nil passX (pa_cons (pv 0) (pa_cons (pv 1) (pa_cons (pv 2) pa_nil)))))
      (pss_cons (ps_set (i := 4) sc_read_table.nd rfl (Or.inl rfl) (pe_call (ok_read_named T) hr rfl T.g_read_named T.F_read_named.kp T.b_read_named .nil pass0 (pa_cons (pv 0) (pa_cons (pv 1) (pa_cons (pv 3) pa_nil)))))
      (pss_cons (ps_expr (pe_call (ok_hold_named T) hr2 rfl T.g_hold_named T.F_hold_named.kp T.b_hold_named .nil passX (pa_cons (pv 4) (pa_cons (pe_fld (pv 1) rfl) pa_nil))))
      (pss_cons (ps_set (i := 5) sc_read_table.nd rfl (Or.inl rfl) (pe_slice sl_list (pv 4) po_none (po_some (pe_fld (pv 1) rfl))))
      (pss_cons (ps_for passOwn rfl (pi_list (pv 5)) (pg_name (i := 6) sc_read_table.nd rfl (Or.inl rfl))
        (pss_one (ps_expr (pe_meth (pv 2) T.cl_Places T.m_Places_take (ok_Places_take T) hr2 T.b_Places_take .nil passX (pa_cons (pv 6) pa_nil)))))
      (pss_cons (ps_set (i := 7) sc_read_table.nd rfl (Or.inl rfl) (pe_call (ok_numbers_of T) hr3 rfl T.g_numbers_of T.F_numbers_of.kp T.b_numbers_of .nil pass0 (pa_cons (pe_call (ok_content_of T) hr2 rfl T.g_content_of T.F_content_of.kp T.b_content_of .nil pass0 (pa_cons (pv 0) (pa_cons (pv 5) pa_nil))) pa_nil)))
      (pss_cons (ps_set (i := 8) sc_read_table.nd rfl (Or.inl rfl) (pe_callB call_len_seq (by rfl) T.z_len PySem.boot_len (pa_cons (pe_fld (pv 2) rfl) pa_nil)))
      (pss_cons (ps_expr (pe_call (ok_hold T) hr1 rfl T.g_hold T.F_hold.kp T.b_hold .nil passX (pa_cons (pe_cmpR op_ge (pe_callB call_len_seq (by rfl) T.z_len PySem.boot_len (pa_cons (pv 7) pa_nil)) (pv 8) (nomark _)) (pa_cons pe_str pa_nil))))
      (pss_cons (ps_expr (pe_call (ok_hold T) hr1 rfl T.g_hold T.F_hold.kp T.b_hold .nil passX (pa_cons (pe_call (ok_all_free T) hr1 rfl T.g_all_free T.F_all_free.kp T.b_all_free .nil pass0 (pa_cons (pe_slice sl_list (pv 7) (po_some (pv 8)) po_none) pa_nil)) (pa_cons pe_str pa_nil))))
      (pss_cons (ps_expr (pe_call (ok_hold_own_sectors T) hr2 rfl T.g_hold_own_sectors T.F_hold_own_sectors.kp T.b_hold_own_sectors .nil passX (pa_cons (pv 7) (pa_cons (pv 5) (pa_cons (pv 3) pa_nil)))))
      (pss_one (ps_ret (pv 7)))))))))))), ?_⟩
    refine ⟨_, rfl, _, rfl, _, rfl, a, hp, n, p, l, b, rfl, hA, hb, hb1, hb2, hH, hP, fun ls q H1 hls hA1 hq k1 hq1 hP1 => ?_, fun hno H1 k1 => ?_⟩
    rotate_left
    · exact kE (fun ls ts hT nd => hno ls hT.hls (List.nodup_append.mp nd).1) H1 k1
    have hA1' : H1 a = some (.lst (nV (nb b))) := k1.at hA (by simpa using hal)
    have hH1 : HeadAt t H1 hp n (nb b) := hH.keepL (by rw [nb_length]; exact hb1) hP.ls k1
    have hlsm := lists_mem hls
    have hll : ls.length ≤ Rc22.sectors b := hA1.le
    refine ⟨_, rfl, _, rfl, _, rfl, a, hp, n, q, b, ls, rfl, hA1', hb, hH1, hq1, hlsm, by omega, fun v H2 hv k2 hv2 => ?_⟩
    have hH2 := hH1.keep k2
    obtain ⟨dh2, hh2⟩ := hH2.ob
    have hnl : (namedOf b ls).length ≤ 1000000 := by
      unfold namedOf
      rw [List.length_append, nums_length, List.length_take]
      have := named_len b ls
      omega
    refine ⟨_, rfl, _, rfl, hp, t.c_Head, dh2, _, _, rfl, hh2, T.cl_Head, T.n_Head_table_length, hdf_tl n (nb b), v, namedOf b ls, n4 (nb b) 44, rfl, hv2, hnl, fun hN1 hN2 H3 k3 => ?_, fun hno H3 k3 => ?_⟩
    rotate_left
    · refine kE (fun ls' ts hT _ => hno ?_) H3 ((k1.trans (k2.mono (by simp))).trans (k3.mono (by simp)))
      have e := hT.hls
      rw [hls] at e
      cases e
      have := (tables_iff hb hb1 hlsm).mp hT.hts
      rw [num4] at this
      exact ⟨this.1, this.2.2.2⟩
    have k13 : Kp [] H1 H3 := k2.trans k3
    have hv3 := k3.nil hv2
    obtain ⟨dh3, hh3⟩ := (hH2.keep k3).ob
    refine ⟨_, rfl, _, rfl, hp, t.c_Head, dh3, _, _, rfl, hh3, T.cl_Head, T.n_Head_table_length, hdf_tl n (nb b), _, rfl, v, _, rfl, SqL.of hv3, fun sa hsa => ?_⟩
    rw [cut_to, nV_take]
    generalize hts : (namedOf b ls).take (n4 (nb b) 44) = ts
    have k14 : Kp [] H1 (upd H3 sa (.lst (nV ts))) := k13.trans (Kp.new hsa)
    have hs4 : (upd H3 sa (.lst (nV ts))) sa = some (.lst (nV ts)) := upd_same
    have hP4 := hP1.keep0 k14
    have hsl : sa ≠ l := fun z => by
      have := k13.nil hP1.ls
      rw [← z, hsa] at this; cases this
    generalize upd H3 sa (.lst (nV ts)) = H4 at k14 hs4 hP4 ⊢
    refine ⟨_, rfl, sa, rfl, ⟨_, SqL.of hs4⟩, for_list (K := K) (a := sa) (xs := nV ts) (fun i σ H5 => ∃ x : Option V, σ = [some (.ref a), some (.ref hp), some (.ref p), some (.ref q), some (.ref v), some (.ref sa), x, none, none] ∧ Kp [l] H4 H5 ∧ PlAt t H5 p l (Rc22.sectors b) (ls ++ ts.take i) ∧ Apart (Rc22.sectors b) (ls ++ ts.take i))
      ⟨none, rfl, Kp.refl _ _, by simpa using hP4, by simpa using hA1⟩ (fun i σ H5 _ ⟨_, _, k5, _⟩ => SqL.of (k5.at hs4 (by simpa using hsl))) ?_ ?_⟩
    · rintro i y σ H5 hi ⟨x, rfl, k5, hP5, hA5⟩
      obtain ⟨cur, hn, rfl⟩ := nV_some hi
      obtain ⟨dx, hp5⟩ := hP5.ob
      have etake : ts.take (i + 1) = ts.take i ++ [cur] := by rw [List.take_add_one, hn]; rfl
      refine ⟨_, rfl, p, dx, _, rfl, hp5, pf_no l (by decide +kernel), _, rfl, p, l, Rc22.sectors b, cur, _, rfl, hP5, by omega, fun h1 h2 => ?_, fun h1 => ?_⟩
      · refine ⟨_, rfl, k5.trans (Kp.old (by simp)), ⟨⟨dx, ?_⟩, ?_⟩, ?_⟩
        · rw [upd_ne hP5.ne]; exact hp5
        · rw [upd_same, etake, List.append_assoc]
        · rw [etake, ← List.append_assoc]; exact hA5.snoc h1 h2
      · refine kE (fun ls' ts' hT nd => h1 ?_) H5 ((k1.trans (k14.mono (by simp))).trans k5)
        have e := hT.hls
        rw [hls] at e
        cases e
        have z := (tables_iff hb hb1 hlsm).mp hT.hts
        rw [num4, hts] at z
        have e2 := z.2.1
        subst e2
        refine ⟨z.2.2.1 cur (List.mem_of_getElem? hn), fun hm' => ?_⟩
        have nd' : (ls ++ (ts'.take (i + 1) ++ ts'.drop (i + 1))).Nodup := by rw [List.take_append_drop]; exact nd
        rw [etake, ← List.append_assoc, ← List.append_assoc] at nd'
        have nd2 := (List.nodup_append.mp nd').1
        exact (List.nodup_append.mp nd2).2.2 cur hm' cur (by simp) rfl
    rintro σ H5 ⟨x, rfl, k5, hP5, hA5⟩
    rw [nV_length, List.take_length] at hP5 hA5
    have k05 : Kp [l] H H5 := (k1.trans (k14.mono (by simp))).trans k5
    have hA5' : H5 a = some (.lst (nV (nb b))) := k05.at hA (by simpa using hal)
    have hs5 := k5.at hs4 (by simpa using hsl)
    have htsm : ∀ s ∈ ts, s < Rc22.sectors b := fun s hs => hA5.lt s (List.mem_append_right _ hs)
    have htl : ts.length ≤ Rc22.sectors b := hA5.right.le
    have hq5 : H5 q = some (.lst (nV ls)) := by
      have : q ≠ l := fun z => by rw [z, hP.ls] at hq; cases hq
      exact k5.at (k14.nil hq1) (by simpa using this)
    refine ⟨_, rfl, _, rfl, a, sa, nb b, ts, rfl, SqL.of hA5', SqL.of hs5, by omega, fun ca H6 hca k6 hca6 => ?_⟩
    rw [flat_nb] at hca6
    have hbl := bytesOf_length hb htsm
    refine ⟨ca, nb (Rc22.bytesOf b ts), rfl, SqL.of hca6, by rw [nb_length, hbl]; omega, by rw [nb_length, hbl]; omega, fun c hc => ?_⟩
    rw [← entries_eq hb htsm]
    have k7 : Kp [] H5 (upd H6 c (.lst (nV (Rc22.entries b ts)))) := k6.trans (Kp.new hc)
    have hc7 : (upd H6 c (.lst (nV (Rc22.entries b ts)))) c = some (.lst (nV (Rc22.entries b ts))) := upd_same
    have hcH5 : H5 c = none := k6.nfree hc
    have hcl : c ≠ l := fun z => by rw [z, hP5.ls] at hcH5; cases hcH5
    have hcH : H c = none := k05.free hcH5 (by simpa using hcl)
    generalize upd H6 c (.lst (nV (Rc22.entries b ts))) = H7 at k7 hc7 ⊢
    have hP7 := hP5.keep0 k7
    obtain ⟨dx7, hp7⟩ := hP7.ob
    refine ⟨_, rfl, p, t.c_Places, dx7, _, _, rfl, hp7, T.cl_Places, T.n_Places_taken, pf_taken l, l, _, rfl, .inl (SqL.of hP7.ls), ?_⟩
    rw [List.length_map, marks_length]
    have k07 : Kp [l] H H7 := k05.trans (k7.mono (by simp))
    have same : ∀ {ls' ts'}, TableOk b ls' ts' → ls' = ls ∧ ts' = ts := fun {ls' ts'} hT => by
      have e := hT.hls
      rw [hls] at e
      cases e
      have z := (tables_iff hb hb1 hlsm).mp hT.hts
      rw [num4, hts] at z
      exact ⟨rfl, z.2.1⟩
    refine ⟨_, rfl, c, _, rfl, .inl (SqL.of hc7), _, rfl, _, _, rfl, rfl, _, _, rfl, fun b1 => ?_, fun b1 => ?_⟩
    rotate_left
    · refine kE (fun ls' ts' hT _ => ?_) H7 k07
      obtain ⟨rfl, rfl⟩ := same hT
      have b1 := of_decide_eq_false b1
      rw [nV_length] at b1
      have := hT.len
      omega
    have b1 := of_decide_eq_true b1
    rw [nV_length] at b1
    have hen : (Rc22.entries b ts).length ≤ 1000000 := by
      rw [entries_eq hb htsm, nums_length, nb_length, hbl]; omega
    refine ⟨_, rfl, _, rfl, _, rfl, c, _, rfl, SqL.of hc7, fun da hda => ?_⟩
    rw [cut_from, nV_drop]
    refine ⟨da, (Rc22.entries b ts).drop (Rc22.sectors b), rfl, SqL.of upd_same, by rw [List.length_drop]; omega, fun H8 k8 => ⟨_, _, rfl, fun b2 => ?_, fun b2 => ?_⟩⟩
    rotate_left
    · refine kE (fun ls' ts' hT _ => ?_) H8 (k07.trans (((Kp.new hda).trans k8).mono (by simp)))
      obtain ⟨rfl, rfl⟩ := same hT
      rw [hT.more] at b2; cases b2
    have k78 : Kp [] H7 H8 := (Kp.new hda).trans k8
    have hlt : ∀ x ∈ ls, x < (Rc22.entries b ts).length := fun x hx => by have := hlsm x hx; omega
    have htt : ∀ x ∈ ts, x < (Rc22.entries b ts).length := fun x hx => by have := htsm x hx; omega
    refine ⟨_, rfl, _, rfl, _, rfl, c, sa, q, Rc22.entries b ts, ts, ls, rfl, k78.nil hc7, k78.nil (k7.nil hs5), k78.nil (k7.nil hq5), htt, hlt, fun hT hL => ?_, fun hno => ?_⟩
    · refine ⟨_, rfl, k ls ts c H8 ⟨hls, ?_, by omega, b2, (mark_iff htsm).mpr hT, (mark_iff hlsm).mpr hL⟩ hA5 hcH (k07.trans (k78.mono (by simp))) (k78.nil hc7) (hP7.keep0 k78)⟩
      refine (tables_iff hb hb1 hlsm).mpr ?_
      rw [num4, hts]
      exact ⟨hN1, rfl, htsm, hN2⟩
    · refine kE (fun ls' ts' hT _ => hno ?_) H8 (k07.trans (k78.mono (by simp)))
      obtain ⟨rfl, rfl⟩ := same hT
      exact ⟨(mark_iff htsm).mp hT.markT, (mark_iff hlsm).mp hT.markL⟩
end
end FT
namespace FT
open PySem L2 FV
section
variable {P : Program} {w : World} {K : PySem.W.Frag} {mg : Str → Option Value} {base : Heap} {t : Adr}
def spReadSized (t : Adr) : Sp := fun vs H Q E => ∃ (a e dx n k p l c : Addr) (b : Rc22.Bytes) (d : Rc22.Item) (m : Nat) (used tb : List Nat), vs = [.ref a, .ref e, .ref p, .ref c] ∧ H a = some (.lst (nV (nb b))) ∧ a ≠ l ∧ H e = some (.ins t.c_Entry dx (ef n k d)) ∧
  PlAt t H p l m used ∧ Apart m used ∧ m ≤ 127 ∧ H c = some (.lst (nV tb)) ∧ c ≠ l ∧ m ≤ tb.length ∧
  (∀ (ch : List Nat) (v : Addr) (H' : Hp), Rc22.chain (tb.take m) m d.start = some ch → ch.length = Rc22.ceil d.size 512 → Apart m (used ++ ch) → H v = none → Kp [l] H H' → H' v = some (.lst (nV (nb ((Rc22.bytesOf b ch).take d.size)))) → PlAt t H' p l m (used ++ ch) → Q (.ref v) H') ∧
  ((∀ ch, Rc22.chain (tb.take m) m d.start = some ch → ch.length = Rc22.ceil d.size 512 → ¬ (used ++ ch).Nodup) → ∀ H', Kp [l] H H' → E (.ref t.x_NotAStore) none H')
theorem nb_take (b : Rc22.Bytes) (i : Nat) : nb (b.take i) = (nb b).take i := by simp [List.map_take]
theorem ok_read_sized (T : Txt K mg t) : FnOk P w K mg base (CXE P w) 5 t.a_read_sized t.d_read_sized ["file", "entry", "places", "table"] (spReadSized t) := by
  refine T.F_read_sized.okX sc_read_sized (fun vs H Q E h => ?_) (fun cdv A outer s H vs Q E hr h => ?_)
  · obtain ⟨a, e, dx, n, k, p, l, c, b, d, m, used, tb, rfl, _⟩ := h
    rfl
  · obtain ⟨a, e, dx, n, kk, p, l, c, b, d, m, used, tb, rfl, hA, hal, he, hP, hAp, hm, hC, hcl, hmt, k, kE⟩ := h
    obtain ⟨u, hu, ru⟩ := T.k_SECTOR_SIZE
    have hr1 : Room 1 _ := hr.mono (by decide)
    have hr2 : Room 2 _ := hr.mono (by decide)
    have hel : e ≠ l := ne_of he hP.ls (by intro z; cases z)
    refine ⟨_, pss_cons (ps_set (i := 4) sc_read_sized.nd rfl (Or.inl rfl) (pe_call (ok_follow_sized T) hr rfl T.g_follow_sized T.F_follow_sized.kp T.b_follow_sized .nil passX
        (pa_cons (pv 2) (pa_cons (pv 3) (pa_cons (pe_fld (pv 1) rfl) (pa_cons (pe_call (ok_units_needed T) hr1 rfl T.g_units_needed T.F_units_needed.kp T.b_units_needed .nil pass0 (pa_cons (pe_fld (pv 1) rfl) (pa_cons (pe_glob rfl hu ru) pa_nil))) pa_nil))))))
      (pss_one (ps_ret (pe_slice sl_list (pe_call (ok_content_of T) hr2 rfl T.g_content_of T.F_content_of.kp T.b_content_of .nil pass0 (pa_cons (pv 0) (pa_cons (pv 4) pa_nil))) po_none (po_some (pe_fld (pv 1) rfl))))), ?_⟩
    refine ⟨_, rfl, _, rfl, _, rfl, e, t.c_Entry, dx, _, _, rfl, he, T.cl_Entry, T.n_Entry_begins_at, ef_start n kk d, _, rfl, e, t.c_Entry, dx, _, _, rfl, he, T.cl_Entry, T.n_Entry_size, ef_size n kk d, d.size, 512, rfl, by decide, by decide,
      p, l, c, m, d.start, Rc22.ceil d.size 512, used, tb, rfl, hP, hAp, by omega, hC, hcl, hmt, fun ch q H1 hch hlen hA1 hq k1 hq1 hP1 => ?_, fun hno H1 k1 => kE hno H1 k1⟩
    have hchl := hA1.right.le
    have he1 : H1 e = some (.ins t.c_Entry dx (ef n kk d)) := k1.at he (by simpa using hel)
    refine ⟨_, rfl, _, rfl, a, q, nb b, ch, rfl, SqL.of (k1.at hA (by simpa using hal)), SqL.of hq1, by omega, fun v1 H2 hv k2 hv2 => ?_⟩
    refine ⟨_, rfl, e, t.c_Entry, dx, _, _, rfl, k2.nil he1, T.cl_Entry, T.n_Entry_size, ef_size n kk d, _, rfl, v1, _, rfl, SqL.of hv2, fun v hv' => ?_⟩
    rw [cut_to, nV_take, flat_nb, ← nb_take]
    have k3 : Kp [] H1 (upd H2 v (.lst (nV (nb ((Rc22.bytesOf b ch).take d.size))))) := k2.trans (Kp.new hv')
    have hvH1 : H1 v = none := k2.nfree hv'
    have hvl : v ≠ l := fun z => by rw [z, hP1.ls] at hvH1; cases hvH1
    exact k ch v _ hch hlen hA1 (k1.free hvH1 (by simpa using hvl)) (k1.trans (k3.mono (by simp))) upd_same (hP1.keep0 k3)
structure SecAt (H : Hp) (q : Addr) (cs : List Addr) (x : Rc22.Bytes) : Prop where
  ls : H q = some (.lst (cs.map V.ref))
  at_ : ∀ (i : Nat) (c : Addr), cs[i]? = some c → H c = some (.lst (nV (nb (Rc22.part x (64 * i) 64))))
theorem SecAt.keep {H H' : Hp} {q : Addr} {cs : List Addr} {x : Rc22.Bytes} {ls : List Addr} (h : SecAt H q cs x) (k : Kp ls H H') (hq : q ∉ ls) (hc : ∀ c ∈ cs, c ∉ ls) : SecAt H' q cs x :=
  ⟨k.at h.ls hq, fun i c e => k.at (h.at_ i c e) (hc c (List.mem_of_getElem? e))⟩
theorem take_len {b : Rc22.Bytes} {ch : List Nat} {n : Nat} (hb : b.length % 512 = 0) (hm : ∀ s ∈ ch, s < Rc22.sectors b) (h : ch.length = Rc22.ceil n 512) : ((Rc22.bytesOf b ch).take n).length = n := by
  rw [List.length_take, bytesOf_length hb hm, h]
  unfold Rc22.ceil
  omega
def spSmallSectors (t : Adr) : Sp := fun vs H Q E => ∃ (a e dx n k p l c : Addr) (b : Rc22.Bytes) (d : Rc22.Item) (used tb : List Nat), vs = [.ref a, .ref e, .ref p, .ref c] ∧ H a = some (.lst (nV (nb b))) ∧ a ≠ l ∧ b.length % 512 = 0 ∧ H e = some (.ins t.c_Entry dx (ef n k d)) ∧
  PlAt t H p l (Rc22.sectors b) used ∧ Apart (Rc22.sectors b) used ∧ Rc22.sectors b ≤ 127 ∧ H c = some (.lst (nV tb)) ∧ c ≠ l ∧ Rc22.sectors b ≤ tb.length ∧
  (∀ (ch : List Nat) (v : Addr) (cs : List Addr) (H' : Hp), d.size % 64 = 0 → Rc22.chain (tb.take (Rc22.sectors b)) (Rc22.sectors b) d.start = some ch → ch.length = Rc22.ceil d.size 512 → Apart (Rc22.sectors b) (used ++ ch) → H v = none → (∀ x ∈ cs, H x = none) → cs.length = Rc22.ceil d.size 64 → d.size ≤ 65536 → Kp [l] H H' →
    SecAt H' v cs ((Rc22.bytesOf b ch).take d.size) → PlAt t H' p l (Rc22.sectors b) (used ++ ch) → Q (.ref v) H') ∧
  ((d.size % 64 = 0 → ∀ ch, Rc22.chain (tb.take (Rc22.sectors b)) (Rc22.sectors b) d.start = some ch → ch.length = Rc22.ceil d.size 512 → ¬ (used ++ ch).Nodup) → ∀ H', Kp [l] H H' → E (.ref t.x_NotAStore) none H')
theorem ok_read_small_sectors (T : Txt K mg t) : FnOk P w K mg base (CXE P w) 6 t.a_read_small_sectors t.d_read_small_sectors ["file", "root", "places", "table"] (spSmallSectors t) := by
  refine T.F_read_small_sectors.okX sc_read_small_sectors (fun vs H Q E h => ?_) (fun cdv A outer s H vs Q E hr h => ?_)
  · obtain ⟨a, e, dx, n, k, p, l, c, b, d, used, tb, rfl, _⟩ := h
    rfl
  · obtain ⟨a, e, dx, n, kk, p, l, c, b, d, used, tb, rfl, hA, hal, hb, he, hP, hAp, hm, hC, hcl, hmt, k, kE⟩ := h
    obtain ⟨u, hu, ru⟩ := T.k_SMALL_SIZE
    have hs : sizeLine = 16777216 := sizeLine_eq
    have hr1 : Room 1 _ := hr.mono (by decide)
    refine ⟨_, pss_cons (ps_expr (pe_call (ok_hold T) hr1 rfl T.g_hold T.F_hold.kp T.b_hold .nil passX (pa_cons (pe_cmpR op_eq (pe_op op_mod (pe_fld (pv 1) rfl) (pe_glob rfl hu ru)) pe_int (nomark _)) (pa_cons pe_str pa_nil))))
      (pss_cons (ps_set (i := 4) sc_read_small_sectors.nd rfl (Or.inr rfl) (pe_call (ok_read_sized T) hr rfl T.g_read_sized T.F_read_sized.kp T.b_read_sized .nil passX (pa_cons (pv 0) (pa_cons (pv 1) (pa_cons (pv 2) (pa_cons (pv 3) pa_nil))))))
      (pss_one (ps_ret (pe_lc (te := tSl (rSlL K) (tVar 4) (tPart (tVar 5)) (tPart (tOp (rI0 fun i j => .int (i + j)) (tVar 5) (tC (.int 64))))) rfl sc_read_small_sectors.nd (pi_range3 rfl T.z_range (pa_cons pe_int (pa_cons (pe_callB call_len_seq (by rfl) T.z_len PySem.boot_len (pa_cons (pv 4) pa_nil)) (pa_cons (pe_glob rfl hu ru) pa_nil))))
        (blkOk_by (own := [("at", 5)]) (by kernel_rfl)) (fun _ _ _ _ _ => pg_name (i := 5) sc_read_small_sectors.nd rfl (Or.inl rfl)) (fun _ _ _ _ _ => pts_nil)
        (fun _ _ _ _ _ => pe_slice sl_list (pv 4) (po_some (pv 5)) (po_some (pe_op op_add (pv 5) (pe_glob rfl hu ru)))))))), ?_⟩
    refine ⟨_, rfl, e, t.c_Entry, dx, _, _, rfl, he, T.cl_Entry, T.n_Entry_size, ef_size n kk d, _, _, rfl, rfl, (by show (0 : Int) < 64; decide), rfl, _, _, rfl, fun b1 => ?_, fun b1 => ?_⟩
    rotate_left
    · refine kE (fun h64 => ?_) H (Kp.refl _ _)
      have e1 : ((d.size : Nat) : Int) % 64 = ((d.size % 64 : Nat) : Int) := by omega
      exact absurd (show V.int (((d.size : Nat) : Int) % 64) = V.int 0 by rw [e1, h64]; rfl) (of_decide_eq_false b1)
    have h64 : d.size % 64 = 0 := by
      have e1 : ((d.size : Nat) : Int) % 64 = ((d.size % 64 : Nat) : Int) := by omega
      have b1 : V.int (((d.size : Nat) : Int) % 64) = V.int 0 := of_decide_eq_true b1
      injection b1 with b1
      omega
    refine ⟨_, rfl, _, rfl, _, rfl, _, rfl, a, e, dx, n, kk, p, l, c, b, d, Rc22.sectors b, used, tb, rfl, hA, hal, he, hP, hAp, hm, hC, hcl, hmt, fun ch v H1 hch hlen hA1 hv k1 hv1 hP1 => ?_, fun hno H1 k1 => kE (fun _ => hno) H1 k1⟩
    have htl : (tb.take (Rc22.sectors b)).length = Rc22.sectors b := by rw [List.length_take]; omega
    have hchm : ∀ s ∈ ch, s < Rc22.sectors b := fun s hs => by have := chain_mem hch s hs; omega
    have hxl := take_len hb hchm hlen
    have hchl := hA1.right.le
    have hdz : d.size ≤ 65536 := by
      have h1 := bytesOf_length hb hchm
      have h2 := hxl
      rw [List.length_take, h1] at h2
      omega
    refine ⟨_, rfl, v, _, rfl, .inl (SqL.of hv1), 0, _, 64, d.size / 64, rfl, by rw [nV_length, nb_length, hxl]; exact rgUp 64 (by decide) (by decide) hdz (by omega), fun D hD => ?_⟩
    refine lc_rangeC (fun i H' => ∃ cs : List Addr, cs.length = i ∧ Kp [] H1 H' ∧ H' D = some (.lst (cs.map V.ref)) ∧ ∀ (j : Nat) (x : Addr), cs[j]? = some x → H1 x = none ∧ x ≠ D ∧ H' x = some (.lst (nV (nb (Rc22.part ((Rc22.bytesOf b ch).take d.size) (64 * j) 64)))))
      ⟨[], rfl, Kp.new hD, upd_same, fun j x hx => by simp at hx⟩ (fun i H' hi e => ?_) (fun H' e => ?_)
    · obtain ⟨cs, hcs, k', hD', hat⟩ := e
      refine ⟨rfl, lcYes ⟨_, rfl, _, rfl, _, rfl, _, rfl, _, _, rfl, rfl, _, rfl, v, _, rfl, SqL.of (k'.nil hv1), fun x hx => ?_⟩⟩
      have e1 : (0 + (i : Int) * 64) = ((64 * i : Nat) : Int) := by omega
      have e2 : (0 + (i : Int) * 64) + 64 = ((64 * i + 64 : Nat) : Int) := by omega
      have ecut : cutV (nV (nb ((Rc22.bytesOf b ch).take d.size))) (some (0 + (i : Int) * 64)) (some ((0 + (i : Int) * 64) + 64)) = nV (nb (Rc22.part ((Rc22.bytesOf b ch).take d.size) (64 * i) 64)) := by
        rw [e2, e1, cut_nat, nV_drop, nV_take, nb_part]
        congr 2
        omega
      have nxD : x ≠ D := (ne_of_none hD' hx).symm
      refine ⟨_, by rw [upd_ne nxD.symm]; exact hD', by rw [List.length_map]; omega, cs ++ [x], by simp [hcs], fun b' o q _ => ?_, by rw [upd_same, List.map_append]; rfl, fun j y hy => ?_⟩
      · rw [upd_ne (ne_of_none q hD), upd_ne (ne_of_none (k'.nil q) hx)]; exact k'.nil q
      · by_cases hj : j < cs.length
        · rw [List.getElem?_append_left hj] at hy
          obtain ⟨h1, h2, h3⟩ := hat j y hy
          exact ⟨h1, h2, by rw [upd_ne h2, upd_ne (ne_of_none h3 hx)]; exact h3⟩
        · rw [List.getElem?_append_right (by omega)] at hy
          have hj0 : j - cs.length = 0 := by
            have := (List.getElem?_eq_some_iff.mp hy).1
            simp at this; omega
          rw [hj0] at hy
          have e3 : x = y := by simpa using hy
          subst e3
          refine ⟨k'.nfree hx, nxD, ?_⟩
          have : j = i := by omega
          subst this
          rw [upd_ne nxD, upd_same]
          exact congrArg (fun z => some (HO.lst z)) ecut
    · obtain ⟨cs, hcs, k', hD', hat⟩ := e
      have fr : ∀ x, H1 x = none → H x = none := fun x hx => k1.free hx (by
        have : x ≠ l := fun z => by rw [z, hP1.ls] at hx; cases hx
        simpa using this)
      refine k ch D cs H' h64 hch hlen hA1 (fr D hD) (fun x hx => ?_) ?_ hdz (k1.trans (k'.mono (by simp))) ⟨hD', fun j x hx => (hat j x hx).2.2⟩ (hP1.keep0 k')
      · obtain ⟨j, hj⟩ := List.mem_iff_getElem?.mp hx
        exact fr x (hat j x hj).1
      · rw [hcs, ceil64 h64]
def spSmallTable (t : Adr) : Sp := fun vs H Q E => ∃ (a hp n p l c : Addr) (b : Rc22.Bytes) (cnt : Nat) (used tb : List Nat), vs = [.ref a, .ref hp, .ref p, .ref c, .int (cnt : Int)] ∧ H a = some (.lst (nV (nb b))) ∧ a ≠ l ∧ b.length % 512 = 0 ∧ 512 ≤ b.length ∧ HeadAt t H hp n (nb b) ∧
  PlAt t H p l (Rc22.sectors b) used ∧ Apart (Rc22.sectors b) used ∧ Rc22.sectors b ≤ 127 ∧ H c = some (.lst (nV tb)) ∧ c ≠ l ∧ Rc22.sectors b ≤ tb.length ∧
  (∀ (st : List Nat) (v : Addr) (H' : Hp), Rc22.chain (tb.take (Rc22.sectors b)) (Rc22.sectors b) (Rc22.num b 60 4) = some st → st.length = Rc22.num b 64 4 → Apart (Rc22.sectors b) (used ++ st) → cnt ≤ (every b st).length → ((every b st).drop cnt).all (fun x => x == Rc22.FREE) = true → H v = none → Kp [l] H H' →
    H' v = some (.lst (nV (every b st))) → PlAt t H' p l (Rc22.sectors b) (used ++ st) → Q (.ref v) H') ∧
  ((∀ st, Rc22.chain (tb.take (Rc22.sectors b)) (Rc22.sectors b) (Rc22.num b 60 4) = some st → st.length = Rc22.num b 64 4 → cnt ≤ (every b st).length → ((every b st).drop cnt).all (fun x => x == Rc22.FREE) = true → ¬ (used ++ st).Nodup) → ∀ H', Kp [l] H H' → E (.ref t.x_NotAStore) none H')
theorem ok_read_small_table (T : Txt K mg t) : FnOk P w K mg base (CXE P w) 5 t.a_read_small_table t.d_read_small_table ["file", "head", "places", "table", "count"] (spSmallTable t) := by
  refine T.F_read_small_table.okX sc_read_small_table (fun vs H Q E h => ?_) (fun cdv A outer s H vs Q E hr h => ?_)
  · obtain ⟨a, hp, n, p, l, c, b, cnt, used, tb, rfl, _⟩ := h
    rfl
  · obtain ⟨a, hp, n, p, l, c, b, cnt, used, tb, rfl, hA, hal, hb, hb1, hH, hP, hAp, hm, hC, hcl, hmt, k, kE⟩ := h
    have hr1 : Room 1 _ := hr.mono (by decide)
    have hr2 : Room 2 _ := hr.mono (by decide)
    have hr3 : Room 3 _ := hr.mono (by decide)
    obtain ⟨dh, hh⟩ := hH.ob
    refine ⟨_, pss_cons (ps_set (i := 5) sc_read_small_table.nd rfl (Or.inl rfl) (pe_call (ok_follow_sized T) hr rfl T.g_follow_sized T.F_follow_sized.kp T.b_follow_sized .nil passX (pa_cons (pv 2) (pa_cons (pv 3) (pa_cons (pe_fld (pv 1) rfl) (pa_cons (pe_fld (pv 1) rfl) pa_nil))))))
      (pss_cons (ps_set (i := 6) sc_read_small_table.nd rfl (Or.inl rfl) (pe_call (ok_numbers_of T) hr3 rfl T.g_numbers_of T.F_numbers_of.kp T.b_numbers_of .nil pass0 (pa_cons (pe_call (ok_content_of T) hr2 rfl T.g_content_of T.F_content_of.kp T.b_content_of .nil pass0 (pa_cons (pv 0) (pa_cons (pv 5) pa_nil))) pa_nil)))
      (pss_cons (ps_expr (pe_call (ok_hold T) hr1 rfl T.g_hold T.F_hold.kp T.b_hold .nil passX (pa_cons (pe_cmpR op_ge (pe_callB call_len_seq (by rfl) T.z_len PySem.boot_len (pa_cons (pv 6) pa_nil)) (pv 4) (nomark _)) (pa_cons pe_str pa_nil))))
      (pss_cons (ps_expr (pe_call (ok_hold T) hr1 rfl T.g_hold T.F_hold.kp T.b_hold .nil passX (pa_cons (pe_call (ok_all_free T) hr1 rfl T.g_all_free T.F_all_free.kp T.b_all_free .nil pass0 (pa_cons (pe_slice sl_list (pv 6) (po_some (pv 4)) po_none) pa_nil)) (pa_cons pe_str pa_nil))))
      (pss_one (ps_ret (pv 6)))))), ?_⟩
    refine ⟨_, rfl, _, rfl, _, rfl, hp, t.c_Head, dh, _, _, rfl, hh, T.cl_Head, T.n_Head_small_table_at, hdf_sta n (nb b), _, rfl, hp, t.c_Head, dh, _, _, rfl, hh, T.cl_Head, T.n_Head_small_table_length, hdf_stl n (nb b),
      p, l, c, Rc22.sectors b, n4 (nb b) 60, n4 (nb b) 64, used, tb, rfl, hP, hAp, by omega, hC, hcl, hmt, fun st q H1 hch hlen hA1 hq k1 hq1 hP1 => ?_, fun hno H1 k1 => ?_⟩
    rotate_left
    · refine kE (fun st hch hlen _ _ => ?_) H1 k1
      rw [num4] at hch hlen
      exact hno st hch hlen
    have htl : (tb.take (Rc22.sectors b)).length = Rc22.sectors b := by rw [List.length_take]; omega
    have hstm : ∀ s ∈ st, s < Rc22.sectors b := fun s hs => by have := chain_mem hch s hs; omega
    have hstl := hA1.right.le
    refine ⟨_, rfl, _, rfl, a, q, nb b, st, rfl, SqL.of (k1.at hA (by simpa using hal)), SqL.of hq1, by omega, fun ca H2 hca k2 hca2 => ?_⟩
    rw [flat_nb] at hca2
    have hbl := bytesOf_length hb hstm
    refine ⟨ca, nb (Rc22.bytesOf b st), rfl, SqL.of hca2, by rw [nb_length, hbl]; omega, by rw [nb_length, hbl]; omega, fun v hv => ?_⟩
    rw [← every_eq hb hstm]
    have k3 : Kp [] H1 (upd H2 v (.lst (nV (every b st)))) := k2.trans (Kp.new hv)
    have hv3 : (upd H2 v (.lst (nV (every b st)))) v = some (.lst (nV (every b st))) := upd_same
    have hvH1 : H1 v = none := k2.nfree hv
    have hvl : v ≠ l := fun z => by rw [z, hP1.ls] at hvH1; cases hvH1
    have hvH : H v = none := k1.free hvH1 (by simpa using hvl)
    generalize upd H2 v (.lst (nV (every b st))) = H3 at k3 hv3 ⊢
    have k03 : Kp [l] H H3 := k1.trans (k3.mono (by simp))
    have same : ∀ {st'}, Rc22.chain (tb.take (Rc22.sectors b)) (Rc22.sectors b) (Rc22.num b 60 4) = some st' → st' = st := fun {st'} h => by
      rw [num4, hch] at h; cases h; rfl
    refine ⟨_, rfl, v, _, rfl, .inl (SqL.of hv3), _, rfl, _, _, rfl, rfl, _, _, rfl, fun b1 => ?_, fun b1 => ?_⟩
    rotate_left
    · refine kE (fun st' hch' _ h3 _ _ => ?_) H3 k03
      obtain rfl := same hch'
      have b1 := of_decide_eq_false b1
      rw [nV_length] at b1
      omega
    have b1 := of_decide_eq_true b1
    rw [nV_length] at b1
    have hen : (every b st).length ≤ 1000000 := by
      rw [every_eq hb hstm, nums_length, nb_length, hbl]; omega
    refine ⟨_, rfl, _, rfl, _, rfl, v, _, rfl, SqL.of hv3, fun da hda => ?_⟩
    rw [cut_from, nV_drop]
    refine ⟨da, (every b st).drop cnt, rfl, SqL.of upd_same, by rw [List.length_drop]; omega, fun H4 k4 => ⟨_, _, rfl, fun b2 => ?_, fun b2 => ?_⟩⟩
    rotate_left
    · refine kE (fun st' hch' _ _ h4 _ => ?_) H4 (k03.trans (((Kp.new hda).trans k4).mono (by simp)))
      obtain rfl := same hch'
      rw [h4] at b2; cases b2
    have k34 : Kp [] H3 H4 := (Kp.new hda).trans k4
    exact ⟨_, rfl, k st v H4 (by rw [num4]; exact hch) (by rw [num4]; exact hlen) hA1 (by omega) b2 hvH (k03.trans (k34.mono (by simp))) (k34.nil hv3) (hP1.keep0 (k3.trans k34))⟩
def smalls (x : Rc22.Bytes) (ch : List Nat) : Rc22.Bytes := ch.flatMap fun i => Rc22.part x (64 * i) 64
theorem smalls_len (x : Rc22.Bytes) : ∀ ch : List Nat, (smalls x ch).length ≤ 64 * ch.length
  | [] => by simp [smalls]
  | i :: ch => by
    have := smalls_len x ch
    unfold smalls at *
    rw [List.flatMap_cons, List.length_append, List.length_cons]
    have : (Rc22.part x (64 * i) 64).length ≤ 64 := by unfold Rc22.part; rw [List.length_take]; omega
    omega
def spReadSmall (t : Adr) : Sp := fun vs H Q E => ∃ (ss e dx n k p l c : Addr) (cs : List Addr) (x : Rc22.Bytes) (d : Rc22.Item) (m : Nat) (used tb : List Nat), vs = [.ref ss, .ref e, .ref p, .ref c] ∧ SecAt H ss cs x ∧ cs.length = m ∧ ss ≠ l ∧ (∀ y ∈ cs, y ≠ l) ∧ H e = some (.ins t.c_Entry dx (ef n k d)) ∧
  PlAt t H p l m used ∧ Apart m used ∧ m ≤ 10000 ∧ H c = some (.lst (nV tb)) ∧ c ≠ l ∧ m ≤ tb.length ∧
  (∀ (ch : List Nat) (v : Addr) (H' : Hp), Rc22.chain (tb.take m) m d.start = some ch → ch.length = Rc22.ceil d.size 64 → Apart m (used ++ ch) → H v = none → Kp [l] H H' → H' v = some (.lst (nV (nb ((smalls x ch).take d.size)))) → PlAt t H' p l m (used ++ ch) → Q (.ref v) H') ∧
  ((∀ ch, Rc22.chain (tb.take m) m d.start = some ch → ch.length = Rc22.ceil d.size 64 → ¬ (used ++ ch).Nodup) → ∀ H', Kp [l] H H' → E (.ref t.x_NotAStore) none H')
theorem ok_read_small (T : Txt K mg t) : FnOk P w K mg base (CXE P w) 5 t.a_read_small t.d_read_small ["small_sectors", "entry", "small_places", "small_table"] (spReadSmall t) := by
  refine T.F_read_small.okX sc_read_small (fun vs H Q E h => ?_) (fun cdv A outer s H vs Q E hr h => ?_)
  · obtain ⟨ss, e, dx, n, k, p, l, c, cs, x, d, m, used, tb, rfl, _⟩ := h
    rfl
  · obtain ⟨ss, e, dx, n, kk, p, l, c, cs, x, d, m, used, tb, rfl, hS, hcs, hssl, hcsl, he, hP, hAp, hm, hC, hcl, hmt, k, kE⟩ := h
    obtain ⟨u, hu, ru⟩ := T.k_SMALL_SIZE
    have hs : sizeLine = 16777216 := sizeLine_eq
    have hr1 : Room 1 _ := hr.mono (by decide)
    have hel : e ≠ l := ne_of he hP.ls (by intro z; cases z)
    refine ⟨_, pss_cons (ps_set (i := 4) sc_read_small.nd rfl (Or.inl rfl) (pe_lst pa_nil))
      (pss_cons (ps_for passOwn rfl (pi_list (pe_call (ok_follow_sized T) hr rfl T.g_follow_sized T.F_follow_sized.kp T.b_follow_sized .nil passX
        (pa_cons (pv 2) (pa_cons (pv 3) (pa_cons (pe_fld (pv 1) rfl) (pa_cons (pe_call (ok_units_needed T) hr1 rfl T.g_units_needed T.F_units_needed.kp T.b_units_needed .nil pass0 (pa_cons (pe_fld (pv 1) rfl) (pa_cons (pe_glob rfl hu ru) pa_nil))) pa_nil)))))) (pg_name (i := 5) sc_read_small.nd rfl (Or.inl rfl))
        (pss_one (ps_expr (pe_bm PySem.F.plainAttrs_list PySem.F.slot_list_extend PySem.F.type_list_extend mt_extend (pv 4) (pa_cons (pe_ix ix_list (pv 0) (pv 5) (fun _ _ => rfl)) pa_nil)))))
      (pss_one (ps_ret (pe_slice sl_list (pv 4) po_none (po_some (pe_fld (pv 1) rfl)))))), ?_⟩
    refine ⟨(by show 0 ≤ sizeLine; decide), fun z0 hz0 => ?_⟩
    have k0 : Kp [] H (upd H z0 (.lst [])) := Kp.new hz0
    have he0 := k0.nil he
    have hz0l : z0 ≠ l := fun z => by rw [z, hP.ls] at hz0; cases hz0
    refine ⟨_, rfl, _, rfl, _, rfl, e, t.c_Entry, dx, _, _, rfl, he0, T.cl_Entry, T.n_Entry_begins_at, ef_start n kk d, _, rfl, e, t.c_Entry, dx, _, _, rfl, he0, T.cl_Entry, T.n_Entry_size, ef_size n kk d, d.size, 64, rfl, by decide, by decide,
      p, l, c, m, d.start, Rc22.ceil d.size 64, used, tb, rfl, hP.keep0 k0, hAp, by omega, k0.nil hC, hcl, hmt, fun ch q H1 hch hlen hA1 hq k1 hq1 hP1 => ?_, fun hno H1 k1 => kE hno H1 ((k0.mono (by simp)).trans k1)⟩
    have k01 : Kp [l] H H1 := (k0.mono (by simp)).trans k1
    have hz1 : H1 z0 = some (.lst []) := k1.at upd_same (by simpa using hz0l)
    have nqz : q ≠ z0 := (ne_of_none upd_same hq).symm
    have hS1 : SecAt H1 ss cs x := hS.keep k01 (by simpa using hssl) (fun y hy => by simpa using hcsl y hy)
    have he1 : H1 e = some (.ins t.c_Entry dx (ef n kk d)) := k01.at he (by simpa using hel)
    have hchl := hA1.right.le
    have htl : (tb.take m).length = m := by rw [List.length_take]; omega
    refine ⟨q, rfl, ⟨_, SqL.of hq1⟩, for_list (K := K) (a := q) (xs := nV ch) (fun i σ H2 => ∃ y : Option V, σ = [some (.ref ss), some (.ref e), some (.ref p), some (.ref c), some (.ref z0), y] ∧ H2 = upd H1 z0 (.lst (nV (nb (smalls x (ch.take i))))))
      ⟨none, rfl, ?_⟩ (fun i σ H2 _ ⟨_, _, e2⟩ => by rw [e2]; exact SqL.of (by rw [upd_ne nqz]; exact hq1)) ?_ ?_⟩
    · funext y
      by_cases hy : y = z0
      · subst hy; rw [upd_same, hz1]; rfl
      · rw [upd_ne hy]
    · rintro i y σ H2 hi ⟨_, rfl, rfl⟩
      obtain ⟨cur, hn, rfl⟩ := nV_some hi
      have hil : i < ch.length := (List.getElem?_eq_some_iff.mp hn).1
      have hcur : cur < cs.length := by have := chain_mem hch cur (List.mem_of_getElem? hn); omega
      have hcc := List.getElem?_eq_getElem hcur
      have nss : ss ≠ z0 := ne_of_none hS.ls hz0
      have ncc : cs[cur] ≠ z0 := ne_of_none (hS.at_ cur _ hcc) hz0
      refine ⟨_, rfl, .inl ⟨rfl, _, SqL.of upd_same⟩, _, rfl, _, rfl, ss, _, _, .ref cs[cur], rfl, rfl, SqL.of (by rw [upd_ne nss]; exact hS1.ls), at_of (j := cur) rfl (by rw [List.getElem?_map, hcc]; rfl), ?_⟩
      refine ⟨z0, cs[cur], _, _, rfl, rfl, upd_same, by rw [upd_ne ncc]; exact hS1.at_ cur _ hcc, ?_, ?_⟩
      · rw [nV_length, nV_length, nb_length, nb_length]
        have h1 := smalls_len x (ch.take i)
        rw [List.length_take] at h1
        have h2 : (Rc22.part x (64 * cur) 64).length ≤ 64 := by unfold Rc22.part; rw [List.length_take]; omega
        omega
      · refine ⟨_, rfl, ?_⟩
        rw [upd_upd, ← nV_append]
        congr 3
        unfold smalls
        rw [List.take_add_one, hn]
        simp
    · rintro σ H2 ⟨_, rfl, rfl⟩
      rw [nV_length, List.take_length]
      have nez : e ≠ z0 := ne_of_none he hz0
      refine ⟨_, rfl, _, rfl, e, t.c_Entry, dx, _, _, rfl, by rw [upd_ne nez]; exact he1, T.cl_Entry, T.n_Entry_size, ef_size n kk d, _, rfl, z0, _, rfl, SqL.of upd_same, fun v hv => ?_⟩
      rw [cut_to, nV_take, ← nb_take]
      have nvz : v ≠ z0 := (ne_of_none upd_same hv).symm
      have hvH1 : H1 v = none := by rw [upd_ne nvz] at hv; exact hv
      have hvl : v ≠ l := fun z => by rw [z, hP1.ls] at hvH1; cases hvH1
      have kf : Kp [l] H (upd (upd H1 z0 (.lst (nV (nb (smalls x ch))))) v (.lst (nV (nb ((smalls x ch).take d.size))))) := fun b o q hb => by
        have q1 := k01 b o q hb
        rw [upd_ne (ne_of_none q1 hvH1), upd_ne (ne_of_none q hz0)]; exact q1
      refine k ch v _ hch hlen hA1 (k01.free hvH1 (by simpa using hvl)) kf upd_same ?_
      obtain ⟨dx1, hp1⟩ := hP1.ob
      refine ⟨⟨dx1, ?_⟩, ?_⟩
      · have : p ≠ z0 := let ⟨_, e⟩ := hP.ob; ne_of_none e hz0
        rw [upd_ne (ne_of_none hp1 hvH1), upd_ne this]; exact hp1
      · rw [upd_ne (ne_of_none hP1.ls hvH1), upd_ne hz0l.symm]; exact hP1.ls
end
end FT
namespace FT
open PySem L2 FV
section
variable {P : Program} {w : World} {K : PySem.W.Frag} {mg : Str → Option Value} {base : Heap} {t : Adr}
theorem own_step {S : Rc22.Store} {p q : List Rc22.Item} {d : Rc22.Item} {cs cp : List (List Nat)} (h : Owns S (p ++ d :: q) cs) (hp : Owns S p cp) (hd : d.kind = 2) :
    ∃ c rb rf, Rc22.ownChain S d = some c ∧ bigOf (p ++ d :: q) cs = bigOf p cp ++ (if Rc22.CUT ≤ d.size then c else []) ++ rb ∧ fewOf (p ++ d :: q) cs = fewOf p cp ++ (if d.size < Rc22.CUT then c else []) ++ rf := by
  obtain ⟨c, cq, h1, rfl, _⟩ := h.split hp hd
  have hf : (filesOf [d]).length = [c].length := by
    unfold filesOf
    rw [List.filter_cons, if_pos (by simp [hd])]
    rfl
  refine ⟨c, bigOf q cq, fewOf q cq, h1, ?_, ?_⟩
  · rw [show p ++ d :: q = p ++ ([d] ++ q) from rfl, show cp ++ c :: cq = cp ++ ([c] ++ cq) from rfl, big_append hp.len, big_append hf, big_one hd, List.append_assoc]
  · rw [show p ++ d :: q = p ++ ([d] ++ q) from rfl, show cp ++ c :: cq = cp ++ ([c] ++ cq) from rfl, few_append hp.len, few_append hf, few_one hd, List.append_assoc]
theorem big_snoc {p : List Rc22.Item} {d : Rc22.Item} {cp : List (List Nat)} {c : List Nat} (h : (filesOf p).length = cp.length) (hd : d.kind = 2) : bigOf (p ++ [d]) (cp ++ [c]) = bigOf p cp ++ if Rc22.CUT ≤ d.size then c else [] := by
  rw [big_append h, big_one hd]
theorem few_snoc {p : List Rc22.Item} {d : Rc22.Item} {cp : List (List Nat)} {c : List Nat} (h : (filesOf p).length = cp.length) (hd : d.kind = 2) : fewOf (p ++ [d]) (cp ++ [c]) = fewOf p cp ++ if d.size < Rc22.CUT then c else [] := by
  rw [few_append h, few_one hd]
theorem content_few {b : Rc22.Bytes} {S : Rc22.Store} {d : Rc22.Item} {c : List Nat} (h : Rc22.ownChain S d = some c) (hs : d.size < Rc22.CUT) : Rc22.content b S d = (smalls S.small c).take d.size := by
  unfold Rc22.content
  rw [h]
  show (if d.size < Rc22.CUT then _ else _) = _
  rw [if_pos hs]
  rfl
theorem content_big {b : Rc22.Bytes} {S : Rc22.Store} {d : Rc22.Item} {c : List Nat} (h : Rc22.ownChain S d = some c) (hs : ¬ d.size < Rc22.CUT) : Rc22.content b S d = (Rc22.bytesOf b c).take d.size := by
  unfold Rc22.content
  rw [h]
  show (if d.size < Rc22.CUT then _ else _) = _
  rw [if_neg hs]
structure ContOk (b : Rc22.Bytes) (ts : List Nat) (root : Rc22.Item) (rest : List Rc22.Item) (st lies : List Nat) (cs : List (List Nat)) : Prop where
  r64 : root.size % 64 = 0
  hlies : Rc22.chain (tab b ts) (Rc22.sectors b) root.start = some lies
  liesl : lies.length = Rc22.ceil root.size 512
  hst : Rc22.chain (tab b ts) (Rc22.sectors b) (Rc22.num b 60 4) = some st
  stl : st.length = Rc22.num b 64 4
  elen : Rc22.ceil root.size 64 ≤ (every b st).length
  emore : (((every b st).drop (Rc22.ceil root.size 64)).all fun x => x == Rc22.FREE) = true
  owns : Owns (FV.mk b ts st (root :: rest) lies root.size) (root :: rest) cs
  few : (fewOf (root :: rest) cs).Nodup
  sfree : ∀ i ∈ untaken (Rc22.ceil root.size 64) (fewOf (root :: rest) cs), (every b st).getD i 0 = Rc22.FREE
def DictOk (G : Hp) (kvs : List (Key × V)) (b : Rc22.Bytes) (S : Rc22.Store) (i : Nat) : Prop := ∀ z : Int,
  (∀ d, 0 ≤ z → z.toNat < i → S.items[z.toNat]? = some d → d.kind = 2 → ∃ v, valV kvs (.inl z) = some (.ref v) ∧ G v = some (.lst (nV (nb (Rc22.content b S d))))) ∧
  ((∀ d, 0 ≤ z → z.toNat < i → S.items[z.toNat]? = some d → d.kind ≠ 2) → valV kvs (.inl z) = none)
theorem DictOk.keep {G G' : Hp} {kvs : List (Key × V)} {b : Rc22.Bytes} {S : Rc22.Store} {i : Nat} (h : DictOk G kvs b S i) (k : Kp [] G G') : DictOk G' kvs b S i := fun z =>
  ⟨fun d h1 h2 h3 h4 => let ⟨v, e1, e2⟩ := (h z).1 d h1 h2 h3 h4; ⟨v, e1, k.nil e2⟩, (h z).2⟩
theorem DictOk.skip {G : Hp} {kvs : List (Key × V)} {b : Rc22.Bytes} {S : Rc22.Store} {i : Nat} {d : Rc22.Item} (h : DictOk G kvs b S i) (hd : S.items[i]? = some d) (hk : d.kind ≠ 2) : DictOk G kvs b S (i + 1) := fun z => by
  refine ⟨fun d' h1 h2 h3 h4 => (h z).1 d' h1 ?_ h3 h4, fun hz => (h z).2 fun d' h1 h2 h3 => hz d' h1 (by omega) h3⟩
  by_cases e : z.toNat = i
  · rw [e, hd] at h3
    cases h3
    exact absurd h4 hk
  · omega
theorem DictOk.put {G : Hp} {kvs : List (Key × V)} {b : Rc22.Bytes} {S : Rc22.Store} {i : Nat} {d : Rc22.Item} {v : Addr} (h : DictOk G kvs b S i) (hd : S.items[i]? = some d) (hk : d.kind = 2) (hv : G v = some (.lst (nV (nb (Rc22.content b S d))))) :
    DictOk G (putK kvs (.inl (i : Int)) (.ref v)) b S (i + 1) := fun z => by
  rw [valV_put]
  by_cases e : z = (i : Int)
  · subst e
    rw [if_pos rfl]
    refine ⟨fun d' h1 h2 h3 h4 => ⟨v, rfl, ?_⟩, fun hz => ?_⟩
    · rw [Int.toNat_natCast, hd] at h3
      cases h3
      exact hv
    · exact absurd hk (hz d (by omega) (by omega) (by rw [Int.toNat_natCast]; exact hd))
  · rw [if_neg (fun q => e (by injection q))]
    refine ⟨fun d' h1 h2 h3 h4 => (h z).1 d' h1 (by omega) h3 h4, fun hz => (h z).2 fun d' h1 h2 h3 => hz d' h1 (by omega) h3⟩
theorem DictOk.nil (G : Hp) (b : Rc22.Bytes) (S : Rc22.Store) : DictOk G [] b S 0 := fun z => ⟨fun d _ h => by omega, fun _ => rfl⟩
theorem putK_len (kvs : List (Key × V)) (k : Key) (v : V) : (putK kvs k v).length ≤ kvs.length + 1 := by
  unfold putK
  split
  · rw [List.length_map]; omega
  · simp
def ContAt (G : Hp) (dct : Addr) (b : Rc22.Bytes) (S : Rc22.Store) : Prop := ∃ kvs, G dct = some (.dK kvs) ∧ DictOk G kvs b S S.items.length
theorem ContAt.keep {G G' : Hp} {dct : Addr} {b : Rc22.Bytes} {S : Rc22.Store} (h : ContAt G dct b S) (k : Kp [] G G') : ContAt G' dct b S := let ⟨kvs, h1, h2⟩ := h; ⟨kvs, k.nil h1, h2.keep k⟩
theorem nw_kpg {ls : List Addr} {H H2 H3 H4 : Hp} (a : ∀ b, H2 b = none → H b = none) (k : Kp ls H3 H4) (n : ∀ l ∈ ls, H2 l ≠ none) : Kp [] (nw H2 H3) (nw H H4) := fun b o e _ =>
  nw_at (a b (nw_some e).1) (k b o (nw_some e).2 fun z => n b z (nw_some e).1)
theorem for_enum {K : PySem.W.Frag} {a : Addr} {xs : List V} {g : TG} {tb : TS} {D : Ends} {σ : St} {H : Hp} (Pv : Nat → St → Hp → Prop) (h0 : Pv 0 σ H) (hl : ∀ i σ H, i ≤ xs.length → Pv i σ H → SqL K H a xs)
    (hs : ∀ i x σ H T, xs[i]? = some x → Pv i σ H → H T = none → g (.ref T) σ (upd H T (.tup [.int (i : Nat), x])) fun σ2 H2 => tb { D with nx := Pv (i + 1), ct := Pv (i + 1), bk := D.nx } σ2 H2) (hd : ∀ σ H, Pv xs.length σ H → D.nx σ H) :
    ∃ W : Nat → Nat → St → Hp → Prop, (∃ m, W 0 m σ H) ∧ ∀ i m σ H, W i m σ H →
      ((Ite K a).stop i H ∧ D.nx σ H) ∨ ((Ite K a).go i H ∧ ∃ N : St → Hp → Prop, (∀ σ' H', N σ' H' → ∃ m', m' < m ∧ W (i + 1) m' σ' H') ∧ ∀ x H', (Ite K a).yld i H x H' → g x σ H' fun σ2 H2 => tb { D with nx := N, ct := N, bk := D.nx } σ2 H2) := by
  refine ⟨fun i m σ H => m = xs.length - i ∧ i ≤ xs.length ∧ Pv i σ H, ⟨xs.length, by simp, Nat.zero_le _, h0⟩, ?_⟩
  rintro i m σ H ⟨rfl, hi, p⟩
  have q := hl i σ H hi p
  by_cases hlt : i < xs.length
  · refine .inr ⟨⟨xs, xs[i], q, by simp [hlt]⟩, Pv (i + 1), fun σ' H' p' => ⟨xs.length - (i + 1), by omega, rfl, hlt, p'⟩, fun x H' y => ?_⟩
    obtain ⟨T, v, e1, e2, e3, y⟩ := y
    subst e1 e3
    exact hs i v σ H T (y xs q) p e2
  · have e : i = xs.length := by omega
    subst e
    exact .inl ⟨⟨xs, q, Nat.le_refl _⟩, hd σ H p⟩
theorem nodup_left3 {a b c : List Nat} (h : (a ++ b ++ c).Nodup) : (a ++ b).Nodup := (List.nodup_append.mp h).1
theorem take_snoc {α : Type} {l : List α} {i : Nat} {d : α} (h : l[i]? = some d) : l.take (i + 1) = l.take i ++ [d] := by rw [List.take_add_one, h]; rfl
theorem split_at {α : Type} {l : List α} {i : Nat} {d : α} (h : l[i]? = some d) : l = l.take i ++ d :: l.drop (i + 1) := by
  obtain ⟨h1, h2⟩ := List.getElem?_eq_some_iff.mp h
  rw [← h2, ← List.drop_eq_getElem_cons h1, List.take_append_drop]
def spContents (t : Adr) : Sp := fun vs H Q E => ∃ (a hp n q p l c : Addr) (b : Rc22.Bytes) (es : List V) (root : Rc22.Item) (rest : List Rc22.Item) (ts used : List Nat), vs = [.ref a, .ref hp, .ref q, .ref p, .ref c] ∧ H a = some (.lst (nV (nb b))) ∧ b.length % 512 = 0 ∧ 512 ≤ b.length ∧ b.length ≤ 65536 ∧ HeadAt t H hp n (nb b) ∧
  EntriesAt t H q es (root :: rest) ∧ root.kind = 5 ∧ rest.length ≤ 1000000 ∧ PlAt t H p l (Rc22.sectors b) used ∧ Apart (Rc22.sectors b) used ∧ H c = some (.lst (nV (Rc22.entries b ts))) ∧ c ≠ l ∧ Rc22.sectors b ≤ (Rc22.entries b ts).length ∧
  (∀ (lies st : List Nat) (cs : List (List Nat)) (dct : Addr) (H' : Hp), ContOk b ts root rest st lies cs → Apart (Rc22.sectors b) (used ++ lies ++ st ++ bigOf (root :: rest) cs) → H dct = none → Kp [l] H H' → ContAt (nw H H') dct b (FV.mk b ts st (root :: rest) lies root.size) →
    PlAt t H' p l (Rc22.sectors b) (used ++ lies ++ st ++ bigOf (root :: rest) cs) → Q (.ref dct) H') ∧
  ((∀ lies st cs, ContOk b ts root rest st lies cs → ¬ (used ++ lies ++ st ++ bigOf (root :: rest) cs).Nodup) → ∀ H', Kp [l] H H' → E (.ref t.x_NotAStore) none H')
set_option maxHeartbeats 1000000 in
theorem ok_read_contents (T : Txt K mg t) : FnOk P w K mg base (CXE P w) 7 t.a_read_contents t.d_read_contents ["file", "head", "entries", "places", "table"] (spContents t) := by
  refine T.F_read_contents.okX sc_read_contents (fun vs H Q E h => ?_) (fun cdv A outer s H vs Q E hr h => ?_)
  · obtain ⟨a, hp, n, q, p, l, c, b, es, root, rest, ts, used, rfl, _⟩ := h
    rfl
  · obtain ⟨a, hp, n, q, p, l, c, b, es, root, rest, ts, used, rfl, hA, hb, hb1, hb2, hH, hE, hrk, hrl, hP, hAp, hC, hcl, hmt, k, kE⟩ := h
    obtain ⟨u1, hu1, ru1⟩ := T.k_FILE
    obtain ⟨u2, hu2, ru2⟩ := T.k_LEAST_LONG
    have hs : sizeLine = 16777216 := sizeLine_eq
    have hr2 : Room 2 _ := hr.mono (by decide)
    have hr5 : Room 5 _ := hr.mono (by decide)
    have hun := Nat.lt_of_le_of_lt (Nat.add_le_add_left (show 1 ≤ 64 by decide) _) hr.units
    have hm : Rc22.sectors b ≤ 127 := by unfold Rc22.sectors; omega
    have hal : a ≠ l := ne_bl hA (nb_ne hb1) hP.ls
    have hnb : 512 ≤ (nb b).length := by rw [nb_length]; exact hb1
    refine ⟨_, pss_cons (ps_set (i := 5) sc_read_contents.nd rfl (Or.inl rfl) (pe_call (ok_read_small_sectors T) hr rfl T.g_read_small_sectors T.F_read_small_sectors.kp T.b_read_small_sectors .nil passX (pa_cons (pv 0) (pa_cons (pe_ix ix_list (pv 2) pe_int (fun _ _ => rfl)) (pa_cons (pv 3) (pa_cons (pv 4) pa_nil))))))
      (pss_cons (ps_set (i := 6) sc_read_contents.nd rfl (Or.inl rfl) (pe_make T.mk_Places (ok_Places_init T) hr2 rfl T.g_Places T.b_Places_init .nil pass0 (pa_cons (pe_callB call_len_seq (by rfl) T.z_len PySem.boot_len (pa_cons (pv 5) pa_nil)) pa_nil)))
      (pss_cons (ps_set (i := 7) sc_read_contents.nd rfl (Or.inl rfl) (pe_call (ok_read_small_table T) hr5 rfl T.g_read_small_table T.F_read_small_table.kp T.b_read_small_table .nil passX (pa_cons (pv 0) (pa_cons (pv 1) (pa_cons (pv 3) (pa_cons (pv 4) (pa_cons (pe_callB call_len_seq (by rfl) T.z_len PySem.boot_len (pa_cons (pv 5) pa_nil)) pa_nil)))))))
      (pss_cons (ps_set (i := 8) sc_read_contents.nd rfl (Or.inl rfl) pe_dnewK)
      (pss_cons (ps_for passOwn rfl (pi_enum rfl T.z_enumerate (pa_cons (pv 2) pa_nil)) (pg_tup rfl (pgs_cons (pg_name (i := 9) sc_read_contents.nd rfl (Or.inl rfl)) (pgs_cons (pg_name (i := 10) sc_read_contents.nd rfl (Or.inl rfl)) pgs_nil)))
        (pss_one (ps_if (PW.pt (pw_and (pt_cmp (pc_notN (pv 10))) (pw_and1 (pt_cmpR op_eq (pe_fld (pv 10) rfl) (pe_glob rfl hu1 ru1) (nomark _)))))
          (pss_one (ps_if (pt_cmpR op_lt (pe_fld (pv 10) rfl) (pe_glob rfl hu2 ru2) (nomark _))
            (pss_one (ps_dput hun (pv 8) (pv 9) (pe_call (ok_read_small T) hr5 rfl T.g_read_small T.F_read_small.kp T.b_read_small .nil passX (pa_cons (pv 5) (pa_cons (pv 10) (pa_cons (pv 6) (pa_cons (pv 7) pa_nil))))) rfl))
            (pss_one (ps_dput hun (pv 8) (pv 9) (pe_call (ok_read_sized T) hr5 rfl T.g_read_sized T.F_read_sized.kp T.b_read_sized .nil passX (pa_cons (pv 0) (pa_cons (pv 10) (pa_cons (pv 3) (pa_cons (pv 4) pa_nil))))) rfl))))
          pss_nil)))
      (pss_cons (ps_expr (pe_call (ok_hold_rest_free T) hr2 rfl T.g_hold_rest_free T.F_hold_rest_free.kp T.b_hold_rest_free .nil passX (pa_cons (pv 6) (pa_cons (pv 7) pa_nil))))
      (pss_one (ps_ret (pv 8)))))))), ?_⟩
    have hel := hE.len
    have hel' : es.length = rest.length + 1 := by rw [hel]; rfl
    obtain ⟨w0, d0, hw0, hd0, hV0⟩ := hE.get (i := 0) (by simp)
    have e0 : root = d0 := by simpa using hd0
    subst e0
    obtain ⟨e0, dx0, n0, kk0, rfl, he0, _, _⟩ := hV0.some (by rw [hrk]; decide)
    refine ⟨_, rfl, _, rfl, q, _, _, _, rfl, rfl, SqL.of hE.ls, at_of (j := 0) rfl hw0, _, rfl, _, rfl, a, e0, dx0, n0, kk0, p, l, c, b, root, used, Rc22.entries b ts, rfl, hA, hal, hb, he0, hP, hAp, hm, hC, hcl, hmt,
      fun lies ss cs H1 h64 hlies hliesl hA1 hss hcs hcsl hdz k1 hS1 hP1 => ?_, fun hno H1 k1 => ?_⟩
    rotate_left
    · exact kE (fun lies st cs hCo nd => hno hCo.r64 lies hCo.hlies hCo.liesl (nodup_left3 (nodup_left3 nd))) H1 k1
    refine ⟨_, rfl, ss, _, rfl, .inl (SqL.of hS1.ls), fun sp dxp np ndp nexp => ?_⟩
    refine ⟨sp, dxp, (cs.map V.ref).length, rfl, upd_same, ?_, fun sl H2 hsP2 hsl0 kp => ⟨rfl, ?_⟩⟩
    · rw [List.length_map, hcsl]; unfold Rc22.ceil; omega
    rw [List.length_map] at hsP2
    have k2 : Kp [] H1 H2 := fun x o e _ => by
      refine kp x o ?_ (ne_of_none e np)
      rw [upd_ne (ne_of_none e np), upd_ne (ne_of_none e ndp)]; exact e
    have hsl1 : H1 sl = none := by
      cases e : H1 sl with
      | none => rfl
      | some o => rw [upd_ne (ne_of_none e np), upd_ne (ne_of_none e ndp), e] at hsl0; cases hsl0
    have nsl : sl ≠ l := fun z => by rw [z, hP1.ls] at hsl1; cases hsl1
    have hslH : H sl = none := k1.free hsl1 (by simpa using nsl)
    have nss : ss ≠ l := (ne_of_none hP.ls hss).symm
    have ncs : ∀ x ∈ cs, x ≠ l := fun x hx => (ne_of_none hP.ls (hcs x hx)).symm
    have k02 : Kp [l] H H2 := k1.trans (k2.mono (by simp))
    refine ⟨_, rfl, _, rfl, _, rfl, _, rfl, _, rfl, ss, _, rfl, .inl (SqL.of (k2.nil hS1.ls)), a, hp, n, p, l, c, b, cs.length, used ++ lies, Rc22.entries b ts, by rw [List.length_map]; rfl, k02.at hA (by simpa using hal), hal, hb, hb1, hH.keepL hnb hP.ls k02,
      hP1.keep0 k2, hA1, hm, k02.at hC (by simpa using hcl), hcl, hmt, fun st sv H3 hst hstl hA3 hel3 hem3 hsv k3 hsv3 hP3 => ?_, fun hno H3 k3 => ?_⟩
    rotate_left
    · refine kE (fun lies' st cs' hCo nd => ?_) H3 (k02.trans k3)
      have e := hCo.hlies
      rw [show tab b ts = (Rc22.entries b ts).take (Rc22.sectors b) from rfl, hlies] at e
      cases e
      rw [hcsl] at hno
      exact hno st hCo.hst hCo.stl hCo.elen hCo.emore (nodup_left3 nd)
    have k03 : Kp [l] H H3 := k02.trans k3
    have k13 : Kp [l] H1 H3 := (k2.mono (by simp)).trans k3
    have hsP3 : PlAt t H3 sp sl cs.length [] := hsP2.keep k3 (by
      obtain ⟨_, e⟩ := hsP2.ob
      have : sp ≠ l := ne_of e (hP1.keep0 k2).ls (by intro z; cases z)
      simpa using this) (by simpa using nsl)
    have hS3 : SecAt H3 ss cs ((Rc22.bytesOf b lies).take root.size) := hS1.keep k13 (by simpa using nss) (fun x hx => by simpa using ncs x hx)
    have nsvsl : sv ≠ sl := (ne_of_none hsP2.ls hsv).symm
    have nsvl : sv ≠ l := (ne_of_none (hP1.keep0 k2).ls hsv).symm
    have nsssl : ss ≠ sl := fun z => by have := hS1.ls; rw [z, hsl1] at this; cases this
    have ncssl : ∀ x ∈ cs, x ≠ sl := fun x hx z => by
      obtain ⟨j, hj⟩ := List.mem_iff_getElem?.mp hx
      have := hS1.at_ j x hj
      rw [z, hsl1] at this; cases this
    intro dct hdct
    have k34 : Kp [] H3 (upd H3 dct (.dK [])) := Kp.new hdct
    have hd4 : (upd H3 dct (.dK [])) dct = some (.dK []) := upd_same
    have ndl : dct ≠ l := fun z => by rw [z, hP3.ls] at hdct; cases hdct
    have ndsl : dct ≠ sl := fun z => by rw [z, hsP3.ls] at hdct; cases hdct
    have hdH : H dct = none := k03.free hdct (by simpa using ndl)
    generalize upd H3 dct (.dK []) = H4 at k34 hd4 ⊢
    have k04 : Kp [l] H H4 := k03.trans (k34.mono (by simp))
    have hS4 := hS3.keep k34 (by simp) (by simp)
    have hsv4 := k34.nil hsv3
    have hP4 := hP3.keep0 k34
    have hsP4 := hsP3.keep0 k34
    have ndss : ss ≠ dct := ne_of hS4.ls hd4 (by intro z; cases z)
    have ndcs : ∀ x ∈ cs, x ≠ dct := fun x hx => by
      obtain ⟨j, hj⟩ := List.mem_iff_getElem?.mp hx
      exact ne_of (hS4.at_ j x hj) hd4 (by intro z; cases z)
    have ndsv : sv ≠ dct := ne_of hsv4 hd4 (by intro z; cases z)
    have ndp' : p ≠ dct := let ⟨_, e⟩ := hP4.ob; ne_of e hd4 (by intro z; cases z)
    have ndsp : sp ≠ dct := let ⟨_, e⟩ := hsP4.ob; ne_of e hd4 (by intro z; cases z)
    have npsl : p ≠ sl := let ⟨_, e⟩ := hP4.ob; ne_of e hsP4.ls (by intro z; cases z)
    have nspl : sp ≠ l := let ⟨_, e⟩ := hsP4.ob; ne_of e hP4.ls (by intro z; cases z)
    have free4 : ∀ x, H4 x = none → H x = none := fun x hx => k04.free hx (by
      have : x ≠ l := fun z => by rw [z, hP4.ls] at hx; cases hx
      simpa using this)
    have hne : (root :: rest) ≠ [] := by simp
    generalize hSt : FV.mk b ts st (root :: rest) lies root.size = S at k
    have hSi : S.items = root :: rest := by rw [← hSt]; rfl
    have hSt1 : S.table = (Rc22.entries b ts).take (Rc22.sectors b) := by rw [← hSt]; rfl
    have hSt2 : S.smallTable = (every b st).take cs.length := by rw [← hSt, hcsl]; rfl
    have hSs : S.small = (Rc22.bytesOf b lies).take root.size := by rw [← hSt]; rfl
    have hStl1 : S.table.length = Rc22.sectors b := by rw [hSt1, List.length_take]; omega
    have hStl2 : S.smallTable.length = cs.length := by rw [hSt2, List.length_take]; omega
    have hcnt : cs.length ≤ 10000 := by rw [hcsl]; unfold Rc22.ceil; omega
    have same : ∀ {lies' st' cs'}, ContOk b ts root rest st' lies' cs' → lies' = lies ∧ st' = st := fun {lies' st' cs'} hCo => by
      have e1 := hCo.hlies
      have e2 := hCo.hst
      rw [show tab b ts = (Rc22.entries b ts).take (Rc22.sectors b) from rfl] at e1 e2
      rw [hlies] at e1
      rw [hst] at e2
      cases e1
      cases e2
      exact ⟨rfl, rfl⟩
    refine ⟨_, rfl, q, _, rfl, SqL.of (hE.keepL hP.ls hne k04).ls, ?_⟩
    refine for_enum (K := K) (a := q) (xs := es) (fun i σ H5 => ∃ (x9 x10 : Option V) (cp : List (List Nat)) (kvs : List (Key × V)), σ = [some (.ref a), some (.ref hp), some (.ref q), some (.ref p), some (.ref c), some (.ref ss), some (.ref sp), some (.ref sv), some (.ref dct), x9, x10] ∧ Kp [l, sl, dct] H4 H5 ∧
        PlAt t H5 p l (Rc22.sectors b) (used ++ lies ++ st ++ bigOf ((root :: rest).take i) cp) ∧ Apart (Rc22.sectors b) (used ++ lies ++ st ++ bigOf ((root :: rest).take i) cp) ∧
        PlAt t H5 sp sl cs.length (fewOf ((root :: rest).take i) cp) ∧ Apart cs.length (fewOf ((root :: rest).take i) cp) ∧ Owns S ((root :: rest).take i) cp ∧ H5 dct = some (.dK kvs) ∧ kvs.length ≤ i ∧ DictOk (nw H4 H5) kvs b S i)
      ⟨none, none, [], [], rfl, Kp.refl _ _, by simpa [bigOf, filesOf] using hP4, by simpa [bigOf, filesOf] using hA3, by simpa [fewOf, filesOf] using hsP4, by simpa [fewOf, filesOf] using Apart.nil cs.length, Owns.nil S, hd4, Nat.le_refl _, DictOk.nil _ _ _⟩ (fun i σ H5 _ h5 => ?_) ?_ ?_
    · obtain ⟨x9, x10, cp, kvs, rfl, k5, _⟩ := h5
      have k05 : Kp [l] H H5 := fun x o e hx => k5 x o (k04 x o e hx) (by
        have h1 : x ≠ l := by simpa using hx
        simp [h1, ne_of_none e hslH, ne_of_none e hdH])
      exact SqL.of (hE.keepL hP.ls hne k05).ls
    · rintro i x σ H5 Tt hx ⟨x9, x10, cp, kvs, rfl, k5, hP5, hA5, hsP5, hsA5, hO5, hd5, hkl, hD5⟩ hT
      have hil : i < es.length := (List.getElem?_eq_some_iff.mp hx).1
      have k05 : Kp [l] H H5 := fun y o e hy => k5 y o (k04 y o e hy) (by
        have h1 : y ≠ l := by simpa using hy
        simp [h1, ne_of_none e hslH, ne_of_none e hdH])
      have kT : Kp [] H5 (upd H5 Tt (.tup [.int (i : Nat), x])) := Kp.new hT
      have hdi : (root :: rest)[i]? = some ((root :: rest)[i]'(by rw [← hel]; exact hil)) := List.getElem?_eq_getElem _
      generalize (root :: rest)[i]'(by rw [← hel]; exact hil) = d at hdi
      have hdS : S.items[i]? = some d := by rw [hSi]; exact hdi
      have hE5 := (hE.keepL hP.ls hne k05).keep kT
      have hV := hE5.at_ i x d hx hdi
      have k45 : Kp [l, sl, dct] H4 (upd H5 Tt (.tup [.int (i : Nat), x])) := k5.trans (kT.mono (by simp))
      have hP6 := hP5.keep0 kT
      have hsP6 := hsP5.keep0 kT
      have hd6 := kT.nil hd5
      have hD6 : DictOk (nw H4 (upd H5 Tt (.tup [.int (i : Nat), x]))) kvs b S i := hD5.keep (nw_mono kT)
      have k06 : Kp [l] H (upd H5 Tt (.tup [.int (i : Nat), x])) := k05.trans (kT.mono (by simp))
      have etk := take_snoc hdi
      refine ⟨Tt, _, rfl, SqT.of upd_same, rfl, _, _, rfl, _, _, rfl, rfl, ?_⟩
      generalize upd H5 Tt (.tup [.int (i : Nat), x]) = H6 at k45 hP6 hsP6 hd6 hD6 hV k06 hE5 ⊢
      have hmemb : ∀ {y : Addr}, y ≠ l → y ≠ sl → y ≠ dct → y ∉ [l, sl, dct] := fun h1 h2 h3 => by simp [h1, h2, h3]
      have skip : d.kind ≠ 2 → ∃ (x9 x10 : Option V) (cp' : List (List Nat)) (kvs' : List (Key × V)), [some (V.ref a), some (.ref hp), some (.ref q), some (.ref p), some (.ref c), some (.ref ss), some (.ref sp), some (.ref sv), some (.ref dct), some (.int (i : Nat)), some x] = [some (.ref a), some (.ref hp), some (.ref q), some (.ref p), some (.ref c), some (.ref ss), some (.ref sp), some (.ref sv), some (.ref dct), x9, x10] ∧ Kp [l, sl, dct] H4 H6 ∧
        PlAt t H6 p l (Rc22.sectors b) (used ++ lies ++ st ++ bigOf ((root :: rest).take (i + 1)) cp') ∧ Apart (Rc22.sectors b) (used ++ lies ++ st ++ bigOf ((root :: rest).take (i + 1)) cp') ∧
        PlAt t H6 sp sl cs.length (fewOf ((root :: rest).take (i + 1)) cp') ∧ Apart cs.length (fewOf ((root :: rest).take (i + 1)) cp') ∧ Owns S ((root :: rest).take (i + 1)) cp' ∧ H6 dct = some (.dK kvs') ∧ kvs'.length ≤ i + 1 ∧ DictOk (nw H4 H6) kvs' b S (i + 1) := fun hk => by
        refine ⟨_, _, cp, kvs, rfl, k45, ?_, ?_, ?_, ?_, ?_, hd6, by omega, hD6.skip hdS hk⟩
        · rw [etk, big_skip _ _ hk]; exact hP6
        · rw [etk, big_skip _ _ hk]; exact hA5
        · rw [etk, few_skip _ _ hk]; exact hsP6
        · rw [etk, few_skip _ _ hk]; exact hsA5
        · rw [etk]; exact hO5.skip hk
      refine ⟨_, rfl, _, rfl, ?_⟩
      rcases hV with ⟨hk0, rfl⟩ | ⟨hk0, e, dx, nn, kk, rfl, he6, _, _, _⟩
      · exact iteF (iteF (skip (by omega)))
      refine iteT ?_
      refine ⟨_, rfl, e, t.c_Entry, dx, _, _, rfl, he6, T.cl_Entry, T.n_Entry_kind, ef_kind nn kk d, rfl, _, rfl, ?_⟩
      refine ite2 (fun hk => ?_) (fun hk => skip (tNt 2 hk))
      have hk := tEq 2 hk
      have esp := split_at hdi
      refine ⟨_, rfl, e, t.c_Entry, dx, _, _, rfl, he6, T.cl_Entry, T.n_Entry_size, ef_size nn kk d, _, _, rfl, rfl, _, rfl, ?_⟩
      refine ite2 (fun hz => ?_) (fun hz => ?_)
      · have hz : d.size < Rc22.CUT := by have := of_decide_eq_true hz; unfold Rc22.CUT; omega
        refine ⟨_, rfl, _, rfl, _, rfl, _, rfl, ss, e, dx, nn, kk, sp, sl, sv, cs, (Rc22.bytesOf b lies).take root.size, d, cs.length, _, every b st, rfl, hS4.keep k45 (hmemb nss nsssl ndss) (fun y hy => hmemb (ncs y hy) (ncssl y hy) (ndcs y hy)), rfl, nsssl, ncssl, he6, hsP6, hsA5, hcnt,
          k45.at hsv4 (hmemb nsvl nsvsl ndsv), nsvsl, hel3, fun ch v H7 hch hchl hA7 hv k7 hv7 hP7 => ?_, fun hno H7 k7 => ?_⟩
        · have hown : Rc22.ownChain S d = some ch := few_own hz (by rw [hStl2, hSt2]; exact hch) hchl
          have hv4 : H4 v = none := k45.free hv (by
            refine hmemb ?_ ?_ ?_
            · exact (ne_of_none hP6.ls hv).symm
            · exact (ne_of_none hsP6.ls hv).symm
            · exact (ne_of_none hd6 hv).symm)
          have hd7 : H7 dct = some (.dK kvs) := k7.at hd6 (by simpa using ndsl)
          refine ⟨_, rfl, _, rfl, dct, _, rfl, DPut.k (k := Sum.inl (i : Int)) hd7 (by omega), ?_⟩
          have k78 : Kp [dct] H7 (upd H7 dct (.dK (putK kvs (.inl (i : Int)) (.ref v)))) := Kp.old (by simp)
          have k48 : Kp [l, sl, dct] H4 (upd H7 dct (.dK (putK kvs (.inl (i : Int)) (.ref v)))) := (k45.trans (k7.mono (by simp))).trans (k78.mono (by simp))
          have hD8 : DictOk (nw H4 (upd H7 dct (.dK (putK kvs (.inl (i : Int)) (.ref v))))) kvs b S i := hD6.keep (nw_kpg (ls := [sl, dct]) (fun _ h => h) ((k7.mono (by simp)).trans (k78.mono (by simp))) (fun y hy => by
            have : y = sl ∨ y = dct := by simpa using hy
            rcases this with rfl | rfl
            · rw [hsP4.ls]; simp
            · rw [hd4]; simp))
          refine ⟨_, _, cp ++ [ch], _, rfl, k48, ?_, ?_, ?_, ?_, ?_, upd_same, Nat.le_trans (putK_len _ _ _) (by omega), hD8.put hdS hk (nw_at hv4 ?_)⟩
          · rw [etk, big_snoc hO5.len hk, if_neg (by omega), List.append_nil]
            exact (hP6.keep k7 (by simpa using npsl) (by simpa using nsl.symm)).keep k78 (by simpa using ndp') (by simpa using ndl.symm)
          · rw [etk, big_snoc hO5.len hk, if_neg (by omega), List.append_nil]; exact hA5
          · rw [etk, few_snoc hO5.len hk, if_pos hz]
            exact hP7.keep k78 (by simpa using ndsp) (by simpa using ndsl.symm)
          · rw [etk, few_snoc hO5.len hk, if_pos hz]; exact hA7
          · rw [etk]; exact hO5.snoc hk hown
          · have nvd : v ≠ dct := (ne_of_none hd6 hv).symm
            rw [upd_ne nvd, content_few hown hz, hSs]; exact hv7
        · refine kE (fun lies' st' cs' hCo nd => ?_) H7 (fun y o e2 hy => k7 y o (k06 y o e2 hy) (by simpa using ne_of_none e2 hslH))
          obtain ⟨rfl, rfl⟩ := same hCo
          have ho := hCo.owns
          have hf := hCo.few
          rw [hSt] at ho
          rw [esp] at ho hf
          obtain ⟨c', rb, rf, h1, _, h3⟩ := own_step ho hO5 hk
          rw [h3, if_pos hz] at hf
          obtain ⟨h4, h5⟩ := own_few h1 hz
          rw [hStl2, hSt2] at h4
          exact hno c' h4 h5 (nodup_left3 hf)
      · have hz : ¬ d.size < Rc22.CUT := by
          have h1 : ¬ ((d.size : Int) < 4096) := fun z => hz (decide_eq_true z)
          unfold Rc22.CUT; omega
        have hz' : Rc22.CUT ≤ d.size := by omega
        refine ⟨_, rfl, _, rfl, _, rfl, _, rfl, a, e, dx, nn, kk, p, l, c, b, d, Rc22.sectors b, _, Rc22.entries b ts, rfl, k06.at hA (by simpa using hal), hal, he6, hP6, hA5, hm, k06.at hC (by simpa using hcl), hcl, hmt,
          fun ch v H7 hch hchl hA7 hv k7 hv7 hP7 => ?_, fun hno H7 k7 => ?_⟩
        · have hown : Rc22.ownChain S d = some ch := big_own hz' (by rw [hStl1, hSt1]; exact hch) hchl
          have hv4 : H4 v = none := k45.free hv (by
            refine hmemb ?_ ?_ ?_
            · exact (ne_of_none hP6.ls hv).symm
            · exact (ne_of_none hsP6.ls hv).symm
            · exact (ne_of_none hd6 hv).symm)
          have hd7 : H7 dct = some (.dK kvs) := k7.at hd6 (by simpa using ndl)
          refine ⟨_, rfl, _, rfl, dct, _, rfl, DPut.k (k := Sum.inl (i : Int)) hd7 (by omega), ?_⟩
          have k78 : Kp [dct] H7 (upd H7 dct (.dK (putK kvs (.inl (i : Int)) (.ref v)))) := Kp.old (by simp)
          have k48 : Kp [l, sl, dct] H4 (upd H7 dct (.dK (putK kvs (.inl (i : Int)) (.ref v)))) := (k45.trans (k7.mono (by simp))).trans (k78.mono (by simp))
          have hD8 : DictOk (nw H4 (upd H7 dct (.dK (putK kvs (.inl (i : Int)) (.ref v))))) kvs b S i := hD6.keep (nw_kpg (ls := [l, dct]) (fun _ h => h) ((k7.mono (by simp)).trans (k78.mono (by simp))) (fun y hy => by
            have : y = l ∨ y = dct := by simpa using hy
            rcases this with rfl | rfl
            · rw [hP4.ls]; simp
            · rw [hd4]; simp))
          refine ⟨_, _, cp ++ [ch], _, rfl, k48, ?_, ?_, ?_, ?_, ?_, upd_same, Nat.le_trans (putK_len _ _ _) (by omega), hD8.put hdS hk (nw_at hv4 ?_)⟩
          · rw [etk, big_snoc hO5.len hk, if_pos hz', ← List.append_assoc]
            exact hP7.keep k78 (by simpa using ndp') (by simpa using ndl.symm)
          · rw [etk, big_snoc hO5.len hk, if_pos hz', ← List.append_assoc]; exact hA7
          · rw [etk, few_snoc hO5.len hk, if_neg hz, List.append_nil]
            exact (hsP6.keep k7 (by simpa using nspl) (by simpa using nsl)).keep k78 (by simpa using ndsp) (by simpa using ndsl.symm)
          · rw [etk, few_snoc hO5.len hk, if_neg hz, List.append_nil]; exact hsA5
          · rw [etk]; exact hO5.snoc hk hown
          · have nvd : v ≠ dct := (ne_of_none hd6 hv).symm
            rw [upd_ne nvd, content_big hown hz]; exact hv7
        · refine kE (fun lies' st' cs' hCo nd => ?_) H7 (fun y o e2 hy => k7 y o (k06 y o e2 hy) hy)
          obtain ⟨rfl, rfl⟩ := same hCo
          have ho := hCo.owns
          rw [hSt] at ho
          rw [esp] at ho nd
          obtain ⟨c', rb, rf, h1, h2, _⟩ := own_step ho hO5 hk
          rw [h2, if_pos hz', ← List.append_assoc, ← List.append_assoc] at nd
          obtain ⟨h4, h5⟩ := own_big h1 hz'
          rw [hStl1, hSt1] at h4
          exact hno c' h4 h5 (nodup_left3 nd)
    · rintro σ H5 ⟨x9, x10, cp, kvs, rfl, k5, hP5, hA5, hsP5, hsA5, hO5, hd5, hkl, hD5⟩
      rw [hel, List.take_length] at hP5 hA5 hsP5 hsA5 hO5
      have k05 : Kp [l] H H5 := fun y o e hy => k5 y o (k04 y o e hy) (by
        have h1 : y ≠ l := by simpa using hy
        simp [h1, ne_of_none e hslH, ne_of_none e hdH])
      have hsv5 : H5 sv = some (.lst (nV (every b st))) := k5.at hsv4 (by simp [nsvl, nsvsl, ndsv])
      refine ⟨_, rfl, _, rfl, sp, sl, sv, cs.length, _, every b st, rfl, hsP5, by omega, hsv5, hel3, fun hfree H6 k6 => ?_, fun hno H6 k6 => ?_⟩
      · have hCo : ContOk b ts root rest st lies cp := ⟨h64, hlies, hliesl, hst, hstl, by rw [← hcsl]; exact hel3, by rw [← hcsl]; exact hem3, by rw [hSt]; exact hO5, hsA5.nd, by rw [← hcsl]; exact hfree⟩
        refine ⟨_, rfl, k lies st cp dct H6 hCo hA5 hdH (k05.trans (k6.mono (by simp))) ?_ (hP5.keep0 k6)⟩
        rw [hSt]
        refine ⟨kvs, nw_at hdH (k6.nil hd5), ?_⟩
        have hlen : S.items.length = es.length := by rw [hSi, hel]
        rw [hlen]
        exact hD5.keep (nw_kpg free4 k6 (by simp))
      · refine kE (fun lies' st' cs' hCo nd => hno ?_) H6 (k05.trans (k6.mono (by simp)))
        obtain ⟨rfl, rfl⟩ := same hCo
        have ho := hCo.owns
        rw [hSt] at ho
        have ecs : cs' = cp := by
          have h1 : cs'.map some = cp.map some := by
            unfold Owns at ho hO5
            rw [← ho, ← hO5]
          exact (List.map_inj_right (fun _ _ e => Option.some.inj e)).mp h1
        subst ecs
        have := hCo.sfree
        rw [← hcsl] at this
        exact this
end
end FT
namespace FT
open PySem L2 FV
section
variable {P : Program} {w : World} {K : PySem.W.Frag} {mg : Str → Option Value} {base : Heap} {t : Adr}
def sf (q r d : Addr) : List (Str × V) := [("entries", .ref q), ("children", .ref r), ("contents", .ref d)]
theorem sf_entries (q r d : Addr) : (sf q r d).lookup ("entries" : Str) = some (.ref q) := by kernel_rfl
theorem sf_children (q r d : Addr) : (sf q r d).lookup ("children" : Str) = some (.ref r) := by kernel_rfl
theorem sf_contents (q r d : Addr) : (sf q r d).lookup ("contents" : Str) = some (.ref d) := by kernel_rfl
theorem sf_put (q r d : Addr) : putF "contents" (.ref d) (putF "children" (.ref r) (putF "entries" (.ref q) [])) = sf q r d := by kernel_rfl
theorem sf_no (q r d : Addr) {m : Str} (h1 : ¬ m = "entries") (h2 : ¬ m = "children") (h3 : ¬ m = "contents") : (sf q r d).lookup m = none := by
  rw [← sf_put, lookup_putF, if_neg h3, lookup_putF, if_neg h2, lookup_putF, if_neg h1]; rfl
structure StoreAt (t : Adr) (H : Hp) (s : Addr) (b : Rc22.Bytes) (x : Rc22.Store) : Prop where
  ex : ∃ (dx q r dct : Addr) (es : List V) (cs : List Addr) (hs : List (List Nat)), H s = some (.ins t.c_Store dx (sf q r dct)) ∧ EntriesAt t H q es x.items ∧ ChildAt H r cs hs ∧ Treed x.items hs ∧ ContAt H dct b x
  kinds : Kinds x.items
  len : ∀ d, (Rc22.content b x d).length ≤ 40000
  nm : ∀ d ∈ x.items, d.name.length ≤ 31
theorem StoreAt.keep {H H' : Hp} {s : Addr} {b : Rc22.Bytes} {x : Rc22.Store} (h : StoreAt t H s b x) (k : Kp [] H H') : StoreAt t H' s b x := by
  obtain ⟨⟨dx, q, r, dct, es, cs, hs, h1, h2, h3, h4, h5⟩, h6, h7, h8⟩ := h
  exact ⟨⟨dx, q, r, dct, es, cs, hs, k.nil h1, h2.keep k, h3.keep k, h4, h5.keep k⟩, h6, h7, h8⟩
def spStore (t : Adr) : Sp := fun vs H Q _ => ∃ (s dx q r d : Addr), vs = [.ref s, .ref q, .ref r, .ref d] ∧ H s = some (.ins t.c_Store dx []) ∧ Q .non (upd H s (.ins t.c_Store dx (sf q r d)))
theorem ok_Store_init (T : Txt K mg t) : FnOk P w K mg base CX0 1 t.a_Store_init t.d_Store_init ["self", "entries", "children", "contents"] (spStore t) := by
  refine T.F_Store_init.ok sc_Store_init (fun vs H Q E h => ?_) (fun cdv A outer s H vs Q E hr h => ?_)
  · obtain ⟨p, dx, q, r, d, rfl, _⟩ := h
    rfl
  · obtain ⟨p, dx, q, r, d, rfl, hp, k⟩ := h
    refine ⟨_, pss_cons (ps_fld (pv 0) (pv 1) rfl) (pss_cons (ps_fld (pv 0) (pv 2) rfl) (pss_one (ps_fld (pv 0) (pv 3) rfl))), ?_⟩
    refine ⟨_, rfl, _, rfl, p, t.c_Store, dx, _, rfl, hp, T.cl_Store, T.n_Store_entries, (by show 0 < 1000; decide), ?_⟩
    refine ⟨_, rfl, _, rfl, p, t.c_Store, dx, _, rfl, upd_same, T.cl_Store, T.n_Store_children, (by show 1 < 1000; decide), ?_⟩
    rw [upd_upd]
    refine ⟨_, rfl, _, rfl, p, t.c_Store, dx, _, rfl, upd_same, T.cl_Store, T.n_Store_contents, (by show 2 < 1000; decide), ?_⟩
    rw [upd_upd]
    have e : putF "contents" (.ref d) (putF "children" (.ref r) (putF "entries" (.ref q) [])) = sf q r d := sf_put q r d
    show Q .non (upd H p (.ins t.c_Store dx (putF "contents" (.ref d) (putF "children" (.ref r) (putF "entries" (.ref q) [])))))
    rw [e]
    exact k
theorem find_at {p : Nat → Bool} : ∀ {l : List Nat} {i k : Nat}, l[i]? = some k → p k = true → (∀ j x, j < i → l[j]? = some x → p x = false) → l.find? p = some k
  | [], i, k, h, _, _ => by simp at h
  | y :: l, 0, k, h, hp, _ => by
    have : y = k := by simpa using h
    subst this
    rw [List.find?_cons, hp]
  | y :: l, i + 1, k, h, hp, hn => by
    have h0 := hn 0 y (by omega) rfl
    rw [List.find?_cons, h0]
    exact find_at (by simpa using h) hp fun j x hj hx => hn (j + 1) x (by omega) (by simpa using hx)
def spAlike (t : Adr) : Sp := fun vs H Q E => ∃ (s nm : Addr) (f : Nat) (b n : Rc22.Bytes) (x : Rc22.Store), vs = [.ref s, .int (f : Int), .ref nm] ∧ StoreAt t H s b x ∧ f < x.items.length ∧ H nm = some (.lst (nV (nb n))) ∧ n.length ≤ 1000000 ∧
  (∀ (k : Nat) (H' : Hp), Rc22.childNamed x.items f n = some k → k < x.items.length → Kp [] H H' → Q (.int (k : Nat)) H') ∧ (Rc22.childNamed x.items f n = none → ∀ H', Kp [] H H' → E (.ref t.x_NotThere) none H')
theorem ok_child_alike (T : Txt K mg t) : FnOk P w K mg base (CXE P w) 3 t.a_Store_child_alike t.d_Store_child_alike ["self", "folder", "name"] (spAlike t) := by
  refine T.F_Store_child_alike.okX sc_Store_child_alike (fun vs H Q E h => ?_) (fun cdv A outer s H vs Q E hr h => ?_)
  · obtain ⟨s, nm, f, b, n, x, rfl, _⟩ := h
    rfl
  · obtain ⟨sa, nm, f, b, n, x, rfl, hS, hf, hn, hnl, k, kE⟩ := h
    refine ⟨_, pss_cons (ps_set (i := 3) sc_Store_child_alike.nd rfl (Or.inl rfl) (pe_call (ok_key_of T) hr rfl T.g_key_of T.F_key_of.kp T.b_key_of .nil pass0 (pa_cons (pv 2) pa_nil)))
      (pss_cons (ps_for passOwn rfl (pi_list (pe_ix ix_list (pe_fld (pv 0) rfl) (pv 1) (fun _ _ => rfl))) (pg_name (i := 4) sc_Store_child_alike.nd rfl (Or.inl rfl))
        (pss_one (ps_if (pt_cmpR (op_eqD hr.units) (pe_fld (pe_ix ix_list (pe_fld (pv 0) rfl) (pv 4) (fun _ _ => rfl)) rfl) (pv 3) (nomark _)) (pss_one (ps_ret (pv 4))) pss_nil)))
      (pss_one (ps_raise T.e_NotThere rfl T.g_NotThere pe_str))), ?_⟩
    refine ⟨_, rfl, nm, nb n, rfl, SqL.of hn, by rw [nb_length]; exact hnl, fun ka H1 hka k1 hka1 => ?_⟩
    have hS1 := hS.keep k1
    obtain ⟨⟨dx, q, r, dct, es, cs, hs, hs1, hE, hC, hT, _⟩, hK, _, _⟩ := id hS1
    have hfl : f < hs.length := by rw [hT.len]; exact hf
    have hfc : f < cs.length := by rw [hC.len]; exact hfl
    have hw := List.getElem?_eq_getElem hfl
    have hc := List.getElem?_eq_getElem hfc
    have hcf := hC.at_ f _ _ hc hw
    generalize hs[f] = wk at hw hcf
    generalize cs[f] = cf at hc hcf
    have hcn := childNamed_eq hT hw n
    have hkd := hT.kinds hw
    refine ⟨_, rfl, sa, t.c_Store, dx, _, _, rfl, hs1, T.cl_Store, T.n_Store_children, sf_children q r dct, _, rfl, r, _, _, .ref cf, rfl, rfl, SqL.of hC.ls, at_of (j := f) rfl (by rw [List.getElem?_map, hc]; rfl), cf, rfl, ⟨_, SqL.of hcf⟩, ?_⟩
    refine for_list (K := K) (a := cf) (xs := nV wk) (fun i σ H2 => ∃ v : Option V, σ = [some (.ref sa), some (.int (f : Int)), some (.ref nm), some (.ref ka), v] ∧ H2 = H1 ∧ ∀ (j y : Nat), j < i → wk[j]? = some y → decide (key (nb (FV.nameAt x.items y)) = key (nb n)) = false)
      ⟨none, rfl, rfl, fun j y hj => by omega⟩ (fun i σ H2 _ ⟨_, _, e, _⟩ => by rw [e]; exact SqL.of hcf) ?_ ?_
    · rintro i y σ H2 hi ⟨v, rfl, rfl, hF⟩
      obtain ⟨n1, hn1, rfl⟩ := nV_some hi
      have hk1 := hkd n1 (List.mem_of_getElem? hn1)
      have hlt : n1 < x.items.length := kindAt_lt (by omega)
      obtain ⟨w1, d1, hw1, hd1, hV1⟩ := hE.get hlt
      rw [kindAt_some hd1] at hk1
      obtain ⟨a1, dx1, m1, kk1, rfl, ha1, _, hkk1⟩ := hV1.some (by omega)
      have en1 : FV.nameAt x.items n1 = d1.name := by unfold FV.nameAt; rw [hd1]; rfl
      refine ⟨_, rfl, sa, t.c_Store, dx, _, _, rfl, hs1, T.cl_Store, T.n_Store_entries, sf_entries q r dct, _, rfl, q, _, _, _, rfl, rfl, SqL.of hE.ls, at_of (j := n1) rfl hw1, a1, t.c_Entry, dx1, _, _, rfl, ha1, T.cl_Entry, T.n_Entry_key, ef_key m1 kk1 d1,
        _, rfl, .list (dI (key (nb d1.name))), .list (dI (key (nb n))), .lst (SqL.of hkk1) (dp_nat _ _), .lst (SqL.of hka1) (dp_nat _ _), shaped_lst _, shaped_lst _, _, rfl, ?_⟩
      rw [eqv_lst]
      refine ite2 (fun z => ?_) (fun z => ?_)
      · refine ⟨_, rfl, k n1 _ ?_ hlt k1⟩
        rw [hcn]
        refine find_at hn1 ?_ hF
        rw [en1]; exact z
      · refine ⟨_, rfl, rfl, fun j y hj hy => ?_⟩
        by_cases hji : j = i
        · subst hji
          rw [hn1] at hy
          cases hy
          rw [en1]; simpa using z
        · exact hF j y (by omega) hy
    · rintro σ H2 ⟨v, rfl, rfl, hF⟩
      refine ⟨by show 1 ≤ sizeLine; decide, kE ?_ _ k1⟩
      rw [hcn]
      refine List.find?_eq_none.mpr fun y hy => ?_
      obtain ⟨j, hj⟩ := List.mem_iff_getElem?.mp hy
      rw [hF j y (by rw [nV_length]; exact (List.getElem?_eq_some_iff.mp hj).1) hj]
      simp
theorem cut_len : ∀ (p cur : Rc22.Bytes), ∀ n ∈ cutFrom cur p, n.length ≤ cur.length + p.length
  | [], cur, n, h => by
    rw [cutFrom_nil] at h
    have : n = cur := by simpa using h
    subst this; simp
  | c :: p, cur, n, h => by
    by_cases hc : c = 47
    · subst hc
      rw [cutFrom_slash] at h
      rcases List.mem_cons.mp h with rfl | h
      · simp
      · have := cut_len p [] n h
        simp at this ⊢; omega
    · rw [cutFrom_other hc] at h
      have := cut_len p _ n h
      simp at this ⊢; omega
theorem names_len {p n : Rc22.Bytes} (h : n ∈ Rc22.namesOf p) : n.length ≤ p.length := by
  by_cases hp : p = []
  · subst hp
    simp [Rc22.namesOf] at h
  · rw [namesOf_cut p hp] at h
    have := cut_len p [] n h
    simpa using this
def spFind (t : Adr) : Sp := fun vs H Q E => ∃ (s pa : Addr) (b pth : Rc22.Bytes) (x : Rc22.Store), vs = [.ref s, .ref pa] ∧ StoreAt t H s b x ∧ H pa = some (.lst (nV (nb pth))) ∧ pth.length ≤ 1000000 ∧
  (∀ (k : Nat) (H' : Hp), pth.length ≤ 4096 → Rc22.found x.items 0 (Rc22.namesOf pth) = some k → Kp [] H H' → Q (.int (k : Nat)) H') ∧ (4096 < pth.length ∨ Rc22.found x.items 0 (Rc22.namesOf pth) = none → ∀ H', Kp [] H H' → E (.ref t.x_NotThere) none H')
theorem ok_find (T : Txt K mg t) : FnOk P w K mg base (CXE P w) 4 t.a_Store_find t.d_Store_find ["self", "path"] (spFind t) := by
  refine T.F_Store_find.okX sc_Store_find (fun vs H Q E h => ?_) (fun cdv A outer s H vs Q E hr h => ?_)
  · obtain ⟨s, pa, b, pth, x, rfl, _⟩ := h
    rfl
  · obtain ⟨sa, pa, b, pth, x, rfl, hS, hp, hpl, k, kE⟩ := h
    obtain ⟨u, hu, ru⟩ := T.k_MOST_PATH
    have hr1 : Room 1 _ := hr.mono (by decide)
    refine ⟨_, pss_cons (ps_if (pt_cmpR op_gt (pe_callB call_len_seq (by rfl) T.z_len PySem.boot_len (pa_cons (pv 1) pa_nil)) (pe_glob rfl hu ru) (nomark _)) (pss_one (ps_raise T.e_NotThere rfl T.g_NotThere pe_str)) pss_nil)
      (pss_cons (ps_set (i := 2) sc_Store_find.nd rfl (Or.inl rfl) pe_int)
      (pss_cons (ps_for passOwn rfl (pi_list (pe_call (ok_names_in T) hr1 rfl T.g_names_in T.F_names_in.kp T.b_names_in .nil pass0 (pa_cons (pv 1) pa_nil))) (pg_name (i := 3) sc_Store_find.nd rfl (Or.inl rfl))
        (pss_one (ps_set (i := 2) sc_Store_find.nd rfl (Or.inl rfl) (pe_meth (pv 0) T.cl_Store T.m_Store_child_alike (ok_child_alike T) hr T.b_Store_child_alike .nil passX (pa_cons (pv 2) (pa_cons (pv 3) pa_nil))))))
      (pss_one (ps_ret (pv 2))))), ?_⟩
    refine ⟨_, rfl, pa, _, rfl, .inl (SqL.of hp), _, _, rfl, rfl, _, rfl, ?_⟩
    rw [nV_length, nb_length]
    refine ite2 (fun z => ?_) (fun z => ?_)
    · have z := of_decide_eq_true z
      exact ⟨by show 1 ≤ sizeLine; decide, kE (.inl (by omega)) H (Kp.refl _ _)⟩
    have hle : pth.length ≤ 4096 := by
      have h1 : ¬ ((4096 : Int) < ((pth.length : Nat) : Int)) := fun q => z (decide_eq_true q)
      omega
    have h0 : 0 < x.items.length := kindAt_lt (by rw [hS.kinds.root]; decide)
    refine ⟨_, rfl, pa, pth, rfl, SqL.of hp, hpl, fun q as H1 hq k1 hq1 hN => ?_⟩
    refine ⟨q, rfl, ⟨_, SqL.of hq1⟩, for_list (K := K) (a := q) (xs := as.map V.ref) (fun i σ H2 => ∃ (v : Option V) (cur : Nat), σ = [some (.ref sa), some (.ref pa), some (.int (cur : Int)), v] ∧ Kp [] H1 H2 ∧ cur < x.items.length ∧ Rc22.found x.items 0 (Rc22.namesOf pth) = Rc22.found x.items cur ((Rc22.namesOf pth).drop i))
      ⟨none, 0, rfl, Kp.refl _ _, h0, rfl⟩ (fun i σ H2 _ ⟨_, _, _, k2, _⟩ => SqL.of (k2.nil hq1)) ?_ ?_⟩
    · rintro i y σ H2 hi ⟨v, cur, rfl, k2, hcur, hfd⟩
      rw [List.getElem?_map] at hi
      obtain ⟨na, hna, rfl⟩ := Option.map_eq_some_iff.mp hi
      obtain ⟨n, hn, hna1⟩ := hN.2 i na hna
      have hnl : n.length ≤ 1000000 := Nat.le_trans (names_len (List.mem_of_getElem? hn)) hpl
      obtain ⟨⟨dx, q0, r, dct, es, cs, hs, hs1, _⟩, _, _, _⟩ := id ((hS.keep k1).keep k2)
      have hdrop : (Rc22.namesOf pth).drop i = n :: (Rc22.namesOf pth).drop (i + 1) := by
        obtain ⟨h1, h2⟩ := List.getElem?_eq_some_iff.mp hn
        rw [← h2, ← List.drop_eq_getElem_cons h1]
      rw [hdrop, found_cons] at hfd
      refine ⟨_, rfl, sa, dx, _, rfl, hs1, sf_no q0 r dct (by decide +kernel) (by decide +kernel) (by decide +kernel), _, rfl, _, rfl, sa, na, cur, b, n, x, rfl, (hS.keep k1).keep k2, hcur, k2.nil hna1, hnl, fun kk H3 hk hkl k3 => ?_, fun hk H3 k3 => ?_⟩
      · exact ⟨_, kk, rfl, k2.trans k3, hkl, by rw [hfd, hk]; rfl⟩
      · refine kE (.inr ?_) H3 ((k1.trans k2).trans k3)
        rw [hfd, hk]; rfl
    · rintro σ H2 ⟨v, cur, rfl, k2, hcur, hfd⟩
      rw [List.length_map, hN.1, List.drop_length, found_nil] at hfd
      exact ⟨_, rfl, k cur H2 hle hfd (k1.trans k2)⟩
theorem thing_some {x : Rc22.Store} {z : Int} {d : Rc22.Item} (h0 : 0 ≤ z) (hd : x.items[z.toNat]? = some d) (hk : d.kind ≠ 0) : Rc22.thing x z = some d := by
  unfold Rc22.thing
  rw [if_neg (by omega), hd]
  simp [Option.filter, hk]
theorem thing_zero {x : Rc22.Store} {z : Int} {d : Rc22.Item} (h0 : 0 ≤ z) (hd : x.items[z.toNat]? = some d) (hk : d.kind = 0) : Rc22.thing x z = none := by
  unfold Rc22.thing
  rw [if_neg (by omega), hd]
  simp [Option.filter, hk]
theorem thing_out {x : Rc22.Store} {z : Int} (h : z < 0 ∨ x.items.length ≤ z.toNat) : Rc22.thing x z = none := by
  unfold Rc22.thing
  by_cases h0 : z < 0
  · rw [if_pos h0]
  · rw [if_neg h0, List.getElem?_eq_none (by omega)]; rfl
def spSomething (t : Adr) : Sp := fun vs H Q E => ∃ (s : Addr) (z : Int) (b : Rc22.Bytes) (x : Rc22.Store), vs = [.ref s, .int z] ∧ StoreAt t H s b x ∧
  (∀ (d : Rc22.Item) (a dx n k : Addr), Rc22.thing x z = some d → 0 ≤ z → x.items[z.toNat]? = some d → H a = some (.ins t.c_Entry dx (ef n k d)) → H n = some (.lst (nV (nb d.name))) → Q (.ref a) H) ∧ (Rc22.thing x z = none → E (.ref t.x_NotThere) none H)
theorem ok_something (T : Txt K mg t) : FnOk P w K mg base (CXE P w) 1 t.a_Store_something t.d_Store_something ["self", "number"] (spSomething t) := by
  refine T.F_Store_something.okX sc_Store_something (fun vs H Q E h => ?_) (fun cdv A outer s H vs Q E hr h => ?_)
  · obtain ⟨s, z, b, x, rfl, _⟩ := h
    rfl
  · obtain ⟨sa, z, b, x, rfl, hS, k, kE⟩ := h
    obtain ⟨⟨dx, q, r, dct, es, cs, hs, hs1, hE, hC, hT, _⟩, hK, _, hnm⟩ := id hS
    refine ⟨_, pss_cons (ps_if (PW.pt (pw_or (pt_not (pt_chain op_le op_lt pe_int (pv 1) (pe_callB call_len_seq (by rfl) T.z_len PySem.boot_len (pa_cons (pe_fld (pv 0) rfl) pa_nil)))) (pw_or1 (pt_cmp (pc_isN (pe_ix ix_list (pe_fld (pv 0) rfl) (pv 1) (fun _ _ => rfl)))))))
        (pss_one (ps_raise T.e_NotThere rfl T.g_NotThere pe_str)) pss_nil)
      (pss_one (ps_ret (pe_ix ix_list (pe_fld (pv 0) rfl) (pv 1) (fun _ _ => rfl)))), ?_⟩
    refine ⟨_, rfl, _, _, rfl, rfl, _, rfl, ?_⟩
    by_cases h0 : 0 ≤ z
    · rw [if_pos (decide_eq_true h0)]
      refine ⟨_, rfl, sa, t.c_Store, dx, _, _, rfl, hs1, T.cl_Store, T.n_Store_entries, sf_entries q r dct, q, _, rfl, .inl (SqL.of hE.ls), _, _, rfl, rfl, _, rfl, ?_⟩
      by_cases hlt : z.toNat < x.items.length
      · have e : decide (z < ((es.length : Nat) : Int)) = true := decide_eq_true (by rw [hE.len]; omega)
        rw [e]
        obtain ⟨w1, d1, hw1, hd1, hV1⟩ := hE.get hlt
        refine iteF ?_
        refine ⟨_, rfl, sa, t.c_Store, dx, _, _, rfl, hs1, T.cl_Store, T.n_Store_entries, sf_entries q r dct, _, rfl, q, _, _, _, rfl, rfl, SqL.of hE.ls, at_of (j := z.toNat) (by omega) hw1, _, rfl, ?_⟩
        rw [hV1.isnon]
        refine ite2 (fun hk => ?_) (fun hk => ?_)
        · exact ⟨by show 1 ≤ sizeLine; decide, kE (thing_zero h0 hd1 (of_decide_eq_true hk))⟩
        · have hk : d1.kind ≠ 0 := fun q => hk (decide_eq_true q)
          obtain ⟨a1, dx1, m1, kk1, rfl, ha1, hm1, _⟩ := hV1.some hk
          exact ⟨_, rfl, sa, t.c_Store, dx, _, _, rfl, hs1, T.cl_Store, T.n_Store_entries, sf_entries q r dct, _, rfl, q, _, _, _, rfl, rfl, SqL.of hE.ls, at_of (j := z.toNat) (by omega) hw1, k d1 a1 dx1 m1 kk1 (thing_some h0 hd1 hk) h0 hd1 ha1 hm1⟩
      · have e : decide (z < ((es.length : Nat) : Int)) = false := decide_eq_false (by rw [hE.len]; omega)
        rw [e]
        exact iteT ⟨by show 1 ≤ sizeLine; decide, kE (thing_out (.inr (by omega)))⟩
    · rw [if_neg (fun q => h0 (of_decide_eq_true q))]
      refine ⟨false, rfl, ?_⟩
      exact iteT (iteT ⟨by show 1 ≤ sizeLine; decide, kE (thing_out (.inl (by omega)))⟩)
def itemAns (x : Rc22.Store) (z : Int) (d : Rc22.Item) : List Nat := d.name.length :: d.kind :: (if d.kind = 2 then d.size else 0) :: ((Rc22.children x.items z.toNat).getD []).length :: (nb d.name ++ List.replicate (31 - d.name.length) 0)
def spItem (t : Adr) : Sp := fun vs H Q E => ∃ (s : Addr) (z : Int) (b : Rc22.Bytes) (x : Rc22.Store), vs = [.ref s, .int z] ∧ StoreAt t H s b x ∧
  (∀ (d : Rc22.Item) (p : Addr) (H' : Hp), Rc22.thing x z = some d → H p = none → Kp [] H H' → H' p = some (.lst (nV (itemAns x z d))) → d.name.length ≤ 1000000 → Q (.ref p) H') ∧ (Rc22.thing x z = none → E (.ref t.x_NotThere) none H)
theorem if_int {c : Bool} {ta : TE} {σ : St} {H : Hp} {Q : VK} {a b : Int} (h1 : ∀ Q1 : VK, Q1 (.int a) H → ta σ H Q1) (h : Q (.int (if c = true then a else b)) H) : if c = true then ta σ H Q else tC (.int b) σ H Q := by
  cases c with
  | true => rw [if_pos rfl] at h ⊢; exact h1 Q h
  | false => rw [if_neg Bool.false_ne_true] at h ⊢; exact h
theorem flat_rep {v : V} : ∀ n : Nat, (List.replicate n [v]).flatten = List.replicate n v
  | 0 => rfl
  | n + 1 => by rw [List.replicate_succ, List.flatten_cons, flat_rep n, List.replicate_succ]; rfl
theorem ok_item (T : Txt K mg t) : FnOk P w K mg base (CXE P w) 2 t.a_Store_item t.d_Store_item ["self", "number"] (spItem t) := by
  refine T.F_Store_item.okX sc_Store_item (fun vs H Q E h => ?_) (fun cdv A outer s H vs Q E hr h => ?_)
  · obtain ⟨s, z, b, x, rfl, _⟩ := h
    rfl
  · obtain ⟨sa, z, b, x, rfl, hS, k, kE⟩ := h
    obtain ⟨⟨dx, q, r, dct, es, cs, hs, hs1, hE, hC, hT, _⟩, hK, _, hnm⟩ := id hS
    obtain ⟨u1, hu1, ru1⟩ := T.k_FILE
    obtain ⟨u2, hu2, ru2⟩ := T.k_MOST_CHARACTERS
    have hsz : sizeLine = 16777216 := sizeLine_eq
    refine ⟨_, pss_cons (ps_set (i := 2) sc_Store_item.nd rfl (Or.inl rfl) (pe_meth (pv 0) T.cl_Store T.m_Store_something (ok_something T) hr T.b_Store_something .nil passX (pa_cons (pv 1) pa_nil)))
      (pss_cons (ps_set (i := 3) sc_Store_item.nd rfl (Or.inl rfl) (pe_callB call_len_seq (by rfl) T.z_len PySem.boot_len (pa_cons (pe_fld (pv 2) rfl) pa_nil)))
      (pss_cons (ps_set (i := 4) sc_Store_item.nd rfl (Or.inl rfl) (pe_ifExp (pt_cmpR op_eq (pe_fld (pv 2) rfl) (pe_glob rfl hu1 ru1) (nomark _)) (pe_fld (pv 2) rfl) pe_int))
      (pss_cons (ps_set (i := 5) sc_Store_item.nd rfl (Or.inl rfl) (pe_op op_rep (pe_lst (pa_cons pe_int pa_nil)) (pe_op op_sub (pe_glob rfl hu2 ru2) (pv 3))))
      (pss_one (ps_ret (pe_op op_cat (pe_op op_cat (pe_lst (pa_cons (pv 3) (pa_cons (pe_fld (pv 2) rfl) (pa_cons (pv 4) (pa_cons (pe_callB call_len_seq (by rfl) T.z_len PySem.boot_len (pa_cons (pe_ix ix_list (pe_fld (pv 0) rfl) (pv 1) (fun _ _ => rfl)) pa_nil)) pa_nil))))) (pe_fld (pv 2) rfl)) (pv 5))))))), ?_⟩
    refine ⟨_, rfl, sa, dx, _, rfl, hs1, sf_no q r dct (by decide +kernel) (by decide +kernel) (by decide +kernel), _, rfl, sa, z, b, x, rfl, hS, fun d a dxa n kk hth h0 hd ha hn => ?_, fun hno => kE hno⟩
    have hzl : z.toNat < x.items.length := (List.getElem?_eq_some_iff.mp hd).1
    have hfl : z.toNat < hs.length := by rw [hT.len]; exact hzl
    have hfc : z.toNat < cs.length := by rw [hC.len]; exact hfl
    have hw := List.getElem?_eq_getElem hfl
    have hc := List.getElem?_eq_getElem hfc
    have hcf := hC.at_ _ _ _ hc hw
    generalize hs[z.toNat] = wk at hw hcf
    generalize cs[z.toNat] = cf at hc hcf
    have hch : (Rc22.children x.items z.toNat).getD [] = wk := by rw [hT.children hzl, hw]; rfl
    have hnl : d.name.length ≤ 31 := hnm d (List.mem_of_getElem? hd)
    refine ⟨_, rfl, a, t.c_Entry, dxa, _, _, rfl, ha, T.cl_Entry, T.n_Entry_name, ef_name n kk d, n, _, rfl, .inl (SqL.of hn), ?_⟩
    rw [nV_length, nb_length]
    refine ⟨_, rfl, a, t.c_Entry, dxa, _, _, rfl, ha, T.cl_Entry, T.n_Entry_kind, ef_kind n kk d, rfl, _, rfl, ?_⟩
    refine if_int (a := ((d.size : Nat) : Int)) (b := 0) (fun Q1 q1 => ⟨_, rfl, a, t.c_Entry, dxa, _, _, rfl, ha, T.cl_Entry, T.n_Entry_size, ef_size n kk d, q1⟩) ?_
    refine ⟨(by show 1 ≤ sizeLine; decide), fun l0 hl0 => ⟨_, rfl, _, _, rfl, rfl, l0, _, _, rfl, rfl, upd_same, by omega, by omega, ?_, fun zs hzs => ?_⟩⟩
    · have : ((31 : Int) - ((d.name.length : Nat) : Int)).toNat ≤ 31 := by omega
      simp; omega
    have k1 : Kp [] H (upd (upd H l0 (.lst [V.int 0])) zs (.lst (List.replicate ((31 : Int) - ((d.name.length : Nat) : Int)).toNat [V.int 0]).flatten)) := (Kp.new hl0).trans (Kp.new hzs)
    have hz1 : (upd (upd H l0 (.lst [V.int 0])) zs (.lst (List.replicate ((31 : Int) - ((d.name.length : Nat) : Int)).toNat [V.int 0]).flatten)) zs = some (.lst (nV (List.replicate (31 - d.name.length) 0))) := by
      rw [upd_same, flat_rep]
      have e1 : ((31 : Int) - ((d.name.length : Nat) : Int)).toNat = 31 - d.name.length := by omega
      rw [e1]
      unfold nV
      rw [List.map_replicate]
      rfl
    refine ⟨_, rfl, _, rfl, a, t.c_Entry, dxa, _, _, rfl, k1.nil ha, T.cl_Entry, T.n_Entry_kind, ef_kind n kk d, _, rfl, _, rfl, sa, t.c_Store, dx, _, _, rfl, k1.nil hs1, T.cl_Store, T.n_Store_children, sf_children q r dct, _, rfl, r, _, _, .ref cf, rfl, rfl, SqL.of (k1.nil hC.ls), at_of (j := z.toNat) (by omega) (by rw [List.getElem?_map, hc]; rfl),
      cf, _, rfl, .inl (SqL.of (k1.nil hcf)), (by show 4 ≤ sizeLine; decide), fun l1 hl1 => ?_⟩
    rw [nV_length]
    refine ⟨_, rfl, a, t.c_Entry, dxa, _, _, rfl, (k1.trans (Kp.new hl1)).nil ha, T.cl_Entry, T.n_Entry_name, ef_name n kk d, l1, n, _, _, rfl, rfl, upd_same, (k1.trans (Kp.new hl1)).nil hn, ?_, fun l2 hl2 => ?_⟩
    · rw [nV_length, nb_length]; simp; omega
    have k2 := fun o => (k1.trans (Kp.new hl1)).trans (Kp.new (o := o) hl2)
    refine ⟨_, rfl, l2, zs, _, _, rfl, rfl, upd_same, ((Kp.new hl1).trans (Kp.new hl2)).nil hz1, ?_, fun p hp => ?_⟩
    · rw [nV_length, List.length_append, nV_length, nb_length, List.length_replicate]; simp; omega
    refine k d p _ hth ((k2 _).nfree hp) ((k2 _).trans (Kp.new hp)) ?_ (by omega)
    rw [upd_same]
    refine congrArg (fun y => some (HO.lst y)) ?_
    unfold itemAns
    rw [hch]
    have e2 : (if decide (V.int ((d.kind : Nat) : Int) = V.int 2) = true then ((d.size : Nat) : Int) else 0) = (((if d.kind = 2 then d.size else 0 : Nat)) : Int) := by
      by_cases h2 : d.kind = 2
      · rw [if_pos h2, if_pos (by rw [h2]; rfl)]
      · rw [if_neg h2, if_neg (fun y => h2 (tEq 2 y))]; rfl
    rw [e2]
    unfold nV
    simp only [List.map_cons, List.map_append, List.cons_append, List.nil_append]
def spChild (t : Adr) : Sp := fun vs H Q E => ∃ (s : Addr) (z y : Int) (b : Rc22.Bytes) (x : Rc22.Store), vs = [.ref s, .int z, .int y] ∧ StoreAt t H s b x ∧
  (∀ (d : Rc22.Item) (c : Nat), Rc22.thing x z = some d → 0 ≤ y → ((Rc22.children x.items z.toNat).getD [])[y.toNat]? = some c → Q (.int (c : Nat)) H) ∧
  ((∀ d c, Rc22.thing x z = some d → 0 ≤ y → ((Rc22.children x.items z.toNat).getD [])[y.toNat]? ≠ some c) → E (.ref t.x_NotThere) none H)
theorem ok_child (T : Txt K mg t) : FnOk P w K mg base (CXE P w) 2 t.a_Store_child t.d_Store_child ["self", "number", "place"] (spChild t) := by
  refine T.F_Store_child.okX sc_Store_child (fun vs H Q E h => ?_) (fun cdv A outer s H vs Q E hr h => ?_)
  · obtain ⟨s, z, y, b, x, rfl, _⟩ := h
    rfl
  · obtain ⟨sa, z, y, b, x, rfl, hS, k, kE⟩ := h
    obtain ⟨⟨dx, q, r, dct, es, cs, hs, hs1, hE, hC, hT, _⟩, hK, _, hnm⟩ := id hS
    refine ⟨_, pss_cons (ps_expr (pe_meth (pv 0) T.cl_Store T.m_Store_something (ok_something T) hr T.b_Store_something .nil passX (pa_cons (pv 1) pa_nil)))
      (pss_cons (ps_set (i := 3) sc_Store_child.nd rfl (Or.inl rfl) (pe_ix ix_list (pe_fld (pv 0) rfl) (pv 1) (fun _ _ => rfl)))
      (pss_cons (ps_if (pt_not (pt_chain op_le op_lt pe_int (pv 2) (pe_callB call_len_seq (by rfl) T.z_len PySem.boot_len (pa_cons (pv 3) pa_nil)))) (pss_one (ps_raise T.e_NotThere rfl T.g_NotThere pe_str)) pss_nil)
      (pss_one (ps_ret (pe_ix ix_list (pv 3) (pv 2) (fun _ _ => rfl)))))), ?_⟩
    refine ⟨_, rfl, sa, dx, _, rfl, hs1, sf_no q r dct (by decide +kernel) (by decide +kernel) (by decide +kernel), _, rfl, sa, z, b, x, rfl, hS, fun d a dxa n kk hth h0 hd ha hn => ?_, fun hno => kE fun d c h1 => by rw [hno] at h1; cases h1⟩
    have hzl : z.toNat < x.items.length := (List.getElem?_eq_some_iff.mp hd).1
    have hfl : z.toNat < hs.length := by rw [hT.len]; exact hzl
    have hfc : z.toNat < cs.length := by rw [hC.len]; exact hfl
    have hw := List.getElem?_eq_getElem hfl
    have hc := List.getElem?_eq_getElem hfc
    have hcf := hC.at_ _ _ _ hc hw
    generalize hs[z.toNat] = wk at hw hcf
    generalize cs[z.toNat] = cf at hc hcf
    have hch : (Rc22.children x.items z.toNat).getD [] = wk := by rw [hT.children hzl, hw]; rfl
    rw [hch] at k kE
    refine ⟨_, rfl, sa, t.c_Store, dx, _, _, rfl, hs1, T.cl_Store, T.n_Store_children, sf_children q r dct, _, rfl, r, _, _, .ref cf, rfl, rfl, SqL.of hC.ls, at_of (j := z.toNat) (by omega) (by rw [List.getElem?_map, hc]; rfl), ?_⟩
    refine ⟨_, rfl, _, _, rfl, rfl, _, rfl, ?_⟩
    by_cases hy : 0 ≤ y
    · rw [if_pos (decide_eq_true hy)]
      refine ⟨_, rfl, cf, _, rfl, .inl (SqL.of hcf), _, _, rfl, rfl, _, rfl, ?_⟩
      rw [nV_length]
      by_cases hlt : y.toNat < wk.length
      · have e : decide (y < ((wk.length : Nat) : Int)) = true := decide_eq_true (by omega)
        rw [e]
        refine iteF ⟨_, rfl, _, rfl, cf, _, _, .int (g wk y.toNat : Nat), rfl, rfl, SqL.of hcf, nV_at (i := y.toNat) (by omega) hlt, ?_⟩
        refine k d _ hth hy ?_
        unfold g
        rw [List.getD_eq_getElem?_getD, List.getElem?_eq_getElem hlt]
        rfl
      · have e : decide (y < ((wk.length : Nat) : Int)) = false := decide_eq_false (by omega)
        rw [e]
        refine iteT ⟨by show 1 ≤ sizeLine; decide, kE fun d c _ _ h4 => ?_⟩
        rw [List.getElem?_eq_none (by omega)] at h4
        cases h4
    · rw [if_neg (fun q => hy (of_decide_eq_true q))]
      refine ⟨false, rfl, ?_⟩
      exact iteT ⟨by show 1 ≤ sizeLine; decide, kE fun d c _ h3 => absurd h3 hy⟩
def readAns (b : Rc22.Bytes) (x : Rc22.Store) (d : Rc22.Item) (at_ : Nat) (room : Int) : Rc22.Bytes := ((Rc22.content b x d).drop at_).take (Rc22.room_ room)
def spRead (t : Adr) : Sp := fun vs H Q E => ∃ (s : Addr) (z room : Int) (at_ : Nat) (b : Rc22.Bytes) (x : Rc22.Store), vs = [.ref s, .int z, .int (at_ : Int), .int room] ∧ StoreAt t H s b x ∧
  (∀ (d : Rc22.Item) (p : Addr) (H' : Hp), Rc22.thing x z = some d → d.kind = 2 → H p = none → Kp [] H H' → H' p = some (.lst (nV ((readAns b x d at_ room).length :: nb (readAns b x d at_ room)))) → (readAns b x d at_ room).length ≤ 40000 → Q (.ref p) H') ∧
  ((∀ d, Rc22.thing x z = some d → d.kind ≠ 2) → E (.ref t.x_NotThere) none H)
theorem thing_get {x : Rc22.Store} {z : Int} {d : Rc22.Item} (h : Rc22.thing x z = some d) : 0 ≤ z ∧ x.items[z.toNat]? = some d ∧ d.kind ≠ 0 := by
  unfold Rc22.thing at h
  split at h
  · cases h
  · rename_i h0
    obtain ⟨h1, h2⟩ := Option.filter_eq_some_iff.mp h
    exact ⟨by omega, h1, by simpa using h2⟩
theorem ok_read (T : Txt K mg t) : FnOk P w K mg base (CXE P w) 1 t.a_Store_read t.d_Store_read ["self", "number", "at", "most"] (spRead t) := by
  refine T.F_Store_read.okX sc_Store_read (fun vs H Q E h => ?_) (fun cdv A outer s H vs Q E hr h => ?_)
  · obtain ⟨s, z, room, at_, b, x, rfl, _⟩ := h
    rfl
  · obtain ⟨sa, z, room, at_, b, x, rfl, hS, k, kE⟩ := h
    obtain ⟨⟨dx, q, r, dct, es, cs, hs, hs1, hE, hC, hT, kvs, hd1, hD⟩, hK, hcl, hnm⟩ := id hS
    obtain ⟨u, hu, ru⟩ := T.k_MOST_READ
    have hsz : sizeLine = 16777216 := sizeLine_eq
    have hun := Nat.lt_of_le_of_lt (Nat.add_le_add_left (show 1 ≤ 64 by decide) _) hr.units
    obtain ⟨tt, htail, hq⟩ : ∃ tt, PSs (cxOf (CXE P w) P w K mg base N_Store_read "Store.read" (defScope s_Store_read) t.a_Store_read cdv A outer s H E) ((defBody s_Store_read).drop 2) tt ∧
        ∀ (d : Rc22.Item) (pt : Addr) (H1 : Hp), Rc22.thing x z = some d → d.kind = 2 → Kp [] H H1 → H1 pt = some (.lst (nV (nb (readAns b x d at_ room)))) →
          tt { nx := fun _ H' => Q .non H', rt := Q } [some (.ref sa), some (.int z), some (.int (at_ : Int)), some (.int room), some (.ref pt)] H1 := by
      refine ⟨_, pss_one (ps_ret (pe_op op_cat (pe_lst (pa_cons (pe_callB call_len_seq (by rfl) T.z_len PySem.boot_len (pa_cons (pv 4) pa_nil)) pa_nil)) (pv 4))), fun d pt H1 hth hk k1 hpt => ?_⟩
      have hle : (readAns b x d at_ room).length ≤ 40000 := by
        have := hcl d
        unfold readAns
        rw [List.length_take, List.length_drop]; omega
      refine ⟨_, rfl, pt, _, rfl, .inl (SqL.of hpt), (by show 1 ≤ sizeLine; decide), fun l1 hl1 => ?_⟩
      refine ⟨_, rfl, l1, pt, _, _, rfl, rfl, upd_same, (Kp.new (ls := []) hl1).nil hpt, ?_, fun p hp => ?_⟩
      · rw [nV_length, nb_length]; simp; omega
      refine k d p _ hth hk ((k1.trans (Kp.new hl1)).nfree hp) ((k1.trans (Kp.new hl1)).trans (Kp.new hp)) ?_ hle
      rw [upd_same, nV_length, nb_length]
      rfl
    refine ⟨_, pss_cons (ps_if (pt_cmp (pc_dnotin hun (pv 1) (pe_fld (pv 0) rfl))) (pss_one (ps_raise T.e_NotThere rfl T.g_NotThere pe_str)) pss_nil)
      (pss_cons (ps_set (i := 4) sc_Store_read.nd rfl (Or.inl rfl) (pe_ifExp (pt_chain op_le op_le pe_int (pv 3) (pe_glob rfl hu ru)) (pe_slice sl_list (pe_dget hun (pe_fld (pv 0) rfl) (pv 1) (fun _ _ => rfl)) (po_some (pv 2)) (po_some (pe_op op_add (pv 2) (pv 3)))) (pe_lst pa_nil)))
      htail), ?_⟩
    refine ⟨_, rfl, _, rfl, sa, t.c_Store, dx, _, _, rfl, hs1, T.cl_Store, T.n_Store_contents, sf_contents q r dct, dct, _, rfl, DGet.k (k := Sum.inl z) hd1, _, rfl, ?_⟩
    by_cases hth : ∃ d, Rc22.thing x z = some d ∧ d.kind = 2
    · obtain ⟨d, hth, hk⟩ := hth
      obtain ⟨h0, hd, _⟩ := thing_get hth
      obtain ⟨v, hv1, hv2⟩ := (hD z).1 d h0 (List.getElem?_eq_some_iff.mp hd).1 hd hk
      rw [hv1]
      refine iteF ?_
      have fin : ∀ (l : Addr) (ys : List V), H l = none → ys = nV (nb (readAns b x d at_ room)) → tt { nx := fun _ H' => Q .non H', rt := Q } [some (.ref sa), some (.int z), some (.int (at_ : Int)), some (.int room), some (.ref l)] (upd H l (.lst ys)) := fun l ys hl e =>
        hq d l _ hth hk (Kp.new hl) (by rw [upd_same, e])
      refine ⟨_, rfl, _, _, rfl, rfl, _, rfl, ?_⟩
      by_cases h1 : 1 ≤ room
      · rw [if_pos (decide_eq_true h1)]
        refine ⟨_, _, rfl, rfl, _, rfl, ?_⟩
        by_cases h2 : room ≤ 1048576
        · have e2 : decide (room ≤ (1048576 : Int)) = true := decide_eq_true h2
          dsimp only
          rw [if_pos e2]
          refine ⟨_, rfl, sa, t.c_Store, dx, _, _, rfl, hs1, T.cl_Store, T.n_Store_contents, sf_contents q r dct, _, rfl, dct, _, rfl, ?_, _, rfl, _, rfl, _, rfl, _, rfl, _, _, rfl, rfl, _, rfl, v, _, rfl, SqL.of hv2, fun l hl => fin l _ hl ?_⟩
          · have := DGet.k (k := (Sum.inl z : Key)) hd1
            rw [hv1] at this
            exact this
          · have e3 : ((at_ : Int) + room) = ((at_ + room.toNat : Nat) : Int) := by omega
            rw [e3, cut_nat, nV_drop, nV_take]
            unfold readAns Rc22.room_
            rw [if_pos ⟨h1, by unfold Rc22.MOST; omega⟩]
            congr 1
            rw [nb_take]
            congr 1
            · omega
            · simp [List.map_drop]
        · have e2 : ¬ decide (room ≤ (1048576 : Int)) = true := fun q => h2 (of_decide_eq_true q)
          dsimp only
          rw [if_neg e2]
          refine ⟨(by show 0 ≤ sizeLine; decide), fun l hl => fin l _ hl ?_⟩
          unfold readAns Rc22.room_
          rw [if_neg (fun q => h2 (by have := q.2; unfold Rc22.MOST at this; omega))]
          simp [nV]
      · rw [if_neg (fun q => h1 (of_decide_eq_true q))]
        refine ⟨false, rfl, ?_⟩
        dsimp only
        rw [if_neg Bool.false_ne_true]
        refine ⟨(by show 0 ≤ sizeLine; decide), fun l hl => fin l _ hl ?_⟩
        unfold readAns Rc22.room_
        rw [if_neg (fun q => h1 q.1)]
        simp [nV]
    · have hno : valV kvs (Sum.inl z : Key) = none := (hD z).2 fun d h0 _ hd hk => hth ⟨d, thing_some h0 hd (by omega), hk⟩
      rw [hno]
      exact iteT ⟨by show 1 ≤ sizeLine; decide, kE fun d h1 h2 => hth ⟨d, h1, h2⟩⟩
end
end FT
namespace FT
open PySem L2 FV
section
variable {b : Rc22.Bytes} {ls ts dir st : List Nat} {root : Rc22.Item} {rest : List Rc22.Item} {lies : List Nat} {cs hs : List (List Nat)}
theorem dir_mem (I : Is b ls ts dir st root rest lies cs hs) : ∀ s ∈ dir, s < Rc22.sectors b := fun s h => by
  have := chain_mem I.hdir s h
  rw [I.tabl] at this; exact this
theorem get_range {f : Nat → Option Rc22.Item} {n i : Nat} {d : Rc22.Item} (h : ((List.range n).map f)[i]? = some (some d)) : f i = some d := by
  rw [List.getElem?_map] at h
  obtain ⟨j, h1, h2⟩ := Option.map_eq_some_iff.mp h
  have := (List.getElem?_eq_some_iff.mp h1).2
  rw [List.getElem_range] at this
  rw [this]; exact h2
theorem good_of_is (I : Is b ls ts dir st root rest lies cs hs) : GoodItems (Rc22.bytesOf b dir) (root :: rest) := by
  obtain ⟨h1, h2⟩ := items_iff.mp ⟨I.items, I.rk, I.rl, I.rr, I.noroot⟩
  rw [List.length_map, List.length_range] at h1
  refine ⟨?_, fun i d hd => ?_⟩
  · rw [bytesOf_length I.whole (dir_mem I), List.length_cons, ← h1]; omega
  · obtain ⟨h3, h4⟩ := h2 i d hd
    exact ⟨get_range (f := fun i => Rc22.item (Rc22.part (Rc22.bytesOf b dir) (128 * i) 128)) h3, h4⟩
theorem items_of_good (hb : b.length % 512 = 0) (hm : ∀ s ∈ dir, s < Rc22.sectors b) (G : GoodItems (Rc22.bytesOf b dir) (root :: rest)) :
    Rc22.allSome ((List.range (4 * dir.length)).map fun i => Rc22.item (Rc22.part (Rc22.bytesOf b dir) (128 * i) 128)) = some (root :: rest) ∧ root.kind = 5 ∧ root.left = Rc22.NONE ∧ root.right = Rc22.NONE ∧ (rest.any fun d => d.kind == 5) = false := by
  have hl := G.len
  rw [bytesOf_length hb hm, List.length_cons] at hl
  refine items_iff.mpr ⟨by rw [List.length_map, List.length_range]; omega, fun i d hd => ?_⟩
  obtain ⟨h1, h2⟩ := G.at_ i d hd
  refine ⟨?_, h2⟩
  have hi := (List.getElem?_eq_some_iff.mp hd).1
  rw [List.length_cons] at hi
  rw [List.getElem?_map, List.getElem?_range (by omega)]
  exact congrArg some h1
theorem item_kind {e : Rc22.Bytes} {d : Rc22.Item} (h : Rc22.item e = some d) : (d.kind = 0 ∨ d.kind = 1 ∨ d.kind = 2 ∨ d.kind = 5) ∧ d.name.length ≤ 31 := by
  by_cases h0 : g (nb e) 66 = 0
  · rw [item_nothing h0] at h
    cases h
    exact ⟨.inl rfl, by show 0 ≤ 31; decide⟩
  · obtain ⟨hs, n, hn, rfl⟩ := item_some h h0
    exact ⟨.inr hs.kind, (nameIn_some hn).1.most⟩
theorem good_kinds {x : Rc22.Bytes} {ds : List Rc22.Item} (G : GoodItems x ds) (h0 : 128 ≤ x.length) (h1 : x.length ≤ 65536) : Kinds ds := by
  have hl := G.len
  have hpos : 0 < ds.length := by rw [hl]; omega
  have at0 : ∀ i, i < ds.length → ∃ d, ds[i]? = some d := fun i hi => ⟨_, List.getElem?_eq_getElem hi⟩
  refine ⟨?_, fun i hi => ?_, fun i => ?_, by rw [hl]; omega⟩
  · obtain ⟨d, hd⟩ := at0 0 hpos
    have := (G.at_ 0 d hd).2
    unfold FV.placed at this
    rw [if_pos rfl] at this
    rw [kindAt_some hd]; exact this.1
  · obtain ⟨d, hd⟩ := at0 i (kindAt_lt (by rw [hi]; decide))
    rw [kindAt_some hd] at hi
    have := (G.at_ i d hd).2
    unfold FV.placed at this
    split at this
    · assumption
    · exact absurd hi this
  · by_cases hi : i < ds.length
    · obtain ⟨d, hd⟩ := at0 i hi
      rw [kindAt_some hd]
      exact (item_kind (G.at_ i d hd).1).1
    · left
      unfold kindAt
      rw [List.getElem?_eq_none (by omega)]; rfl
theorem chain_len {tb : List Nat} : ∀ {n s : Nat} {c : List Nat}, Rc22.chain tb n s = some c → c.length ≤ n
  | 0, s, c, h => by
    rw [chain_zero] at h
    split at h
    · cases h; simp
    · cases h
  | n + 1, s, c, h => by
    by_cases hs : s = Rc22.END
    · subst hs
      rw [chain_end] at h
      cases h; simp
    · obtain ⟨k, r, hk, rfl, _, h2⟩ := chain_cons hs h
      have : k = n := by omega
      subst this
      have := chain_len h2
      simp; omega
theorem content_len {x : Rc22.Store} (h : x.table.length = Rc22.sectors b) (hb : b.length ≤ 40000) (d : Rc22.Item) : (Rc22.content b x d).length ≤ 40000 := by
  cases e : Rc22.ownChain x d with
  | none =>
    unfold Rc22.content
    rw [e]; simp
  | some l =>
    by_cases hz : d.size < Rc22.CUT
    · rw [content_few e hz, List.length_take]
      unfold Rc22.CUT at hz
      omega
    · rw [content_big e hz, List.length_take]
      obtain ⟨h1, _⟩ := own_big e (by omega)
      have h2 := chain_len h1
      have h3 := flat_len (nb b) l
      rw [flat_nb, nb_length] at h3
      rw [h] at h2
      unfold Rc22.sectors at h2
      omega
theorem cont_of_is (I : Is b ls ts dir st root rest lies cs hs) : ContOk b ts root rest st lies cs := by
  refine ⟨I.r64, I.hlies, I.liesl, I.hst, I.stl, I.elen, I.emore, ?_, ?_, fun i hi => ?_⟩
  · have := I.owns
    unfold Owns at this ⊢
    rw [files_root rest I.rk]; exact this
  · rw [few_root rest cs I.rk]; exact I.few
  · rw [few_root rest cs I.rk] at hi
    have := free_iff.mp I.sfree i hi
    have hlt := (mem_untaken.mp hi).1
    rw [List.getD_eq_getElem?_getD, List.getElem?_take_of_lt hlt, ← List.getD_eq_getElem?_getD] at this
    exact this
theorem free_of_is (I : Is b ls ts dir st root rest lies cs hs) : ∀ i ∈ untaken (Rc22.sectors b) (ls ++ ts ++ dir ++ lies ++ st ++ bigOf (root :: rest) cs), (Rc22.entries b ts).getD i 0 = Rc22.FREE := fun i hi => by
  rw [big_root rest cs I.rk, ← untaken_perm (used_perm ts ls dir st lies (bigOf rest cs))] at hi
  have := free_iff.mp I.free i hi
  rw [tab_get (mem_untaken.mp hi).1] at this
  exact this
theorem is_of (hh : HeadOk (nb b)) (hT : TableOk b ls ts) (hdir : Rc22.chain (tab b ts) (Rc22.sectors b) (Rc22.num b 48 4) = some dir) (hdm : ∀ s ∈ dir, s < Rc22.sectors b) (G : GoodItems (Rc22.bytesOf b dir) (root :: rest)) (hTr : Treed (root :: rest) hs)
    (hCo : ContOk b ts root rest st lies cs) (hA : Apart (Rc22.sectors b) (ls ++ ts ++ dir ++ lies ++ st ++ bigOf (root :: rest) cs))
    (hf : ∀ i ∈ untaken (Rc22.sectors b) (ls ++ ts ++ dir ++ lies ++ st ++ bigOf (root :: rest) cs), (Rc22.entries b ts).getD i 0 = Rc22.FREE) : Is b ls ts dir st root rest lies cs hs := by
  have hb : b.length % 512 = 0 := by have := hh.whole; rwa [nb_length] at this
  obtain ⟨i1, i2, i3, i4, i5⟩ := items_of_good hb hdm G
  have ebig := big_root rest cs i2
  have efew := few_root rest cs i2
  refine {
    head := (head_iff b).mpr hh
    hls := hT.hls
    hts := hT.hts
    len := hT.len
    more := hT.more
    hdir := hdir
    hst := hCo.hst
    items := i1
    rk := i2
    rl := i3
    rr := i4
    stl := hCo.stl
    noroot := i5
    hlies := hCo.hlies
    liesl := hCo.liesl
    r64 := hCo.r64
    elen := hCo.elen
    emore := hCo.emore
    own := ?_
    used := ?_
    few := by rw [← efew]; exact hCo.few
    markT := hT.markT
    markL := hT.markL
    free := ?_
    sfree := ?_
    tree := hTr }
  · have := hCo.owns
    unfold Owns at this
    rw [files_root rest i2] at this
    exact allSome_iff.mpr this
  · rw [← ebig]
    exact (used_perm _ _ _ _ _ _).symm.nodup hA.nd
  · refine free_iff.mpr fun i hi => ?_
    rw [tab_get (mem_untaken.mp hi).1]
    refine hf i ?_
    rw [ebig, ← untaken_perm (used_perm ts ls dir st lies (bigOf rest cs))]
    exact hi
  · refine free_iff.mpr fun i hi => ?_
    rw [List.getD_eq_getElem?_getD, List.getElem?_take_of_lt (mem_untaken.mp hi).1, ← List.getD_eq_getElem?_getD]
    refine hCo.sfree i ?_
    rw [efew]; exact hi
end
section
variable {P : Program} {w : World} {K : PySem.W.Frag} {mg : Str → Option Value} {base : Heap} {t : Adr}
theorem fixed_head {r : List Nat} (h1 : r.length % 512 = 0) (h2 : 1024 ≤ r.length) (h : FixedOk r) : HeadOk r := ⟨h1, h2, h.mark, h.z8, h.p26, h.p28, h.p30, h.p32, h.z34, h.p56⟩
theorem head_fixed {r : List Nat} (h : HeadOk r) : FixedOk r := ⟨h.mark, h.z8, h.p26, h.p28, h.p30, h.p32, h.z34, h.p56⟩
def spReadStore (t : Adr) : Sp := fun vs H Q E => ∃ (a : Addr) (b : Rc22.Bytes), vs = [.ref a] ∧ H a = some (.lst (nV (nb b))) ∧ b.length ≤ 40000 ∧
  (∀ (x : Rc22.Store) (s : Addr) (H' : Hp), Rc22.store b = some x → H s = none → Kp [] H H' → StoreAt t (nw H H') s b x → Q (.ref s) H') ∧ (Rc22.store b = none → ∀ H', Kp [] H H' → E (.ref t.x_NotAStore) none H')
set_option maxHeartbeats 1000000 in
theorem ok_read_store (T : Txt K mg t) : FnOk P w K mg base (CXE P w) 8 t.a_read_store t.d_read_store ["file"] (spReadStore t) := by
  refine T.F_read_store.okX sc_read_store (fun vs H Q E h => ?_) (fun cdv A outer s H vs Q E hr h => ?_)
  · obtain ⟨a, b, rfl, _⟩ := h
    rfl
  · obtain ⟨a, b, rfl, hA, hb2, k, kE0⟩ := h
    have kE : (∀ ls ts dir st root rest lies cs hs, ¬ Is b ls ts dir st root rest lies cs hs) → ∀ H', Kp [] H H' → E (.ref t.x_NotAStore) none H' := fun h => kE0 (store_none h)
    obtain ⟨u, hu, ru⟩ := T.k_SECTOR_SIZE
    have hr1 : Room 1 _ := hr.mono (by decide)
    have hr2 : Room 2 _ := hr.mono (by decide)
    have hr3 : Room 3 _ := hr.mono (by decide)
    have hr4 : Room 4 _ := hr.mono (by decide)
    have hr5 : Room 5 _ := hr.mono (by decide)
    have hr6 : Room 6 _ := hr.mono (by decide)
    refine ⟨_, pss_cons (ps_expr (pe_call (ok_hold T) hr1 rfl T.g_hold T.F_hold.kp T.b_hold .nil passX (pa_cons (pe_and (pe_cmpR op_eq (pe_op op_mod (pe_callB call_len_seq (by rfl) T.z_len PySem.boot_len (pa_cons (pv 0) pa_nil)) (pe_glob rfl hu ru)) pe_int (nomark _))
          (pe_one (pe_cmpR op_ge (pe_callB call_len_seq (by rfl) T.z_len PySem.boot_len (pa_cons (pv 0) pa_nil)) (pe_op op_mul pe_int (pe_glob rfl hu ru)) (nomark _)))) (pa_cons pe_str pa_nil))))
      (pss_cons (ps_set (i := 1) sc_read_store.nd rfl (Or.inl rfl) (pe_call (ok_read_head T) hr6 rfl T.g_read_head T.F_read_head.kp T.b_read_head .nil passX (pa_cons (pv 0) pa_nil)))
      (pss_cons (ps_set (i := 2) sc_read_store.nd rfl (Or.inl rfl) (pe_make T.mk_Places (ok_Places_init T) hr2 rfl T.g_Places T.b_Places_init .nil pass0 (pa_cons (pe_op op_sub (pe_op op_fdiv (pe_callB call_len_seq (by rfl) T.z_len PySem.boot_len (pa_cons (pv 0) pa_nil)) (pe_glob rfl hu ru)) pe_int) pa_nil)))
      (pss_cons (ps_set (i := 3) sc_read_store.nd rfl (Or.inl rfl) (pe_call (ok_read_table T) hr5 rfl T.g_read_table T.F_read_table.kp T.b_read_table .nil passX (pa_cons (pv 0) (pa_cons (pv 1) (pa_cons (pv 2) pa_nil)))))
      (pss_cons (ps_set (i := 4) sc_read_store.nd rfl (Or.inl rfl) (pe_call (ok_follow T) hr3 rfl T.g_follow T.F_follow.kp T.b_follow .nil passX (pa_cons (pv 2) (pa_cons (pv 3) (pa_cons (pe_fld (pv 1) rfl) pa_nil)))))
      (pss_cons (ps_expr (pe_call (ok_hold T) hr1 rfl T.g_hold T.F_hold.kp T.b_hold .nil passX (pa_cons (pe_cmpR op_ge (pe_callB call_len_seq (by rfl) T.z_len PySem.boot_len (pa_cons (pv 4) pa_nil)) pe_int (nomark _)) (pa_cons pe_str pa_nil))))
      (pss_cons (ps_set (i := 5) sc_read_store.nd rfl (Or.inl rfl) (pe_call (ok_read_entries T) hr rfl T.g_read_entries T.F_read_entries.kp T.b_read_entries .nil passX (pa_cons (pe_call (ok_content_of T) hr2 rfl T.g_content_of T.F_content_of.kp T.b_content_of .nil pass0 (pa_cons (pv 0) (pa_cons (pv 4) pa_nil))) pa_nil)))
      (pss_cons (ps_set (i := 6) sc_read_store.nd rfl (Or.inl rfl) (pe_call (ok_read_trees T) hr4 rfl T.g_read_trees T.F_read_trees.kp T.b_read_trees .nil passX (pa_cons (pv 5) pa_nil)))
      (pss_cons (ps_set (i := 7) sc_read_store.nd rfl (Or.inl rfl) (pe_call (ok_read_contents T) hr rfl T.g_read_contents T.F_read_contents.kp T.b_read_contents .nil passX (pa_cons (pv 0) (pa_cons (pv 1) (pa_cons (pv 5) (pa_cons (pv 2) (pa_cons (pv 3) pa_nil)))))))
      (pss_cons (ps_expr (pe_call (ok_hold_rest_free T) hr2 rfl T.g_hold_rest_free T.F_hold_rest_free.kp T.b_hold_rest_free .nil passX (pa_cons (pv 2) (pa_cons (pv 3) pa_nil))))
      (pss_one (ps_ret (pe_make T.mk_Store (ok_Store_init T) hr2 rfl T.g_Store T.b_Store_init .nil pass0 (pa_cons (pv 5) (pa_cons (pv 6) (pa_cons (pv 7) pa_nil))))))))))))))), ?_⟩
    refine bl_and (a := decide (b.length % 512 = 0)) (b := decide (1024 ≤ b.length)) (fun Q1 q1 => ?_) (fun Q1 q1 => ?_) ?_
    · refine ⟨_, rfl, a, _, rfl, .inl (SqL.of hA), _, _, rfl, rfl, (by show (0 : Int) < 512; decide), rfl, ?_⟩
      rw [nV_length, nb_length]
      show Q1 (V.bl (decide (V.int (((b.length : Nat) : Int) % 512) = V.int 0))) H
      have e : decide (V.int (((b.length : Nat) : Int) % 512) = V.int 0) = decide (b.length % 512 = 0) := by
        rw [show ((b.length : Nat) : Int) % 512 = ((b.length % 512 : Nat) : Int) by omega]
        exact eqI (x := b.length % 512) (y := 0)
      rw [e]
      exact q1
    · refine ⟨_, rfl, a, _, rfl, .inl (SqL.of hA), _, _, rfl, rfl, .inr ⟨by decide, by decide⟩, _, _, rfl, rfl, ?_⟩
      rw [nV_length, nb_length]
      have : decide ((2 : Int) * 512 ≤ ((b.length : Nat) : Int)) = decide (1024 ≤ b.length) := by
        by_cases h : 1024 ≤ b.length
        · rw [decide_eq_true h, decide_eq_true (by omega)]
        · rw [decide_eq_false h, decide_eq_false (by omega)]
      show Q1 (V.bl (decide ((2 : Int) * 512 ≤ ((b.length : Nat) : Int)))) H
      rw [this]
      exact q1
    refine ⟨_, _, rfl, fun b0 => ?_, fun b0 => ?_⟩
    rotate_left
    · refine kE (fun ls ts dir st root rest lies cs hs I => ?_) H (Kp.refl _ _)
      have h1 := I.whole
      have h2 := I.two
      simp [h1, h2] at b0
    have hb : b.length % 512 = 0 ∧ 1024 ≤ b.length := by simpa using b0
    obtain ⟨hb, hb1⟩ := hb
    have hnb : 512 ≤ (nb b).length := by rw [nb_length]; omega
    have hm : Rc22.sectors b ≤ 127 := by unfold Rc22.sectors; omega
    refine ⟨_, rfl, a, nb b, rfl, hA, hnb, fun hp n H1 hfx hhp hn k1 hH1 => ?_, fun hno H1 k1 => ?_⟩
    rotate_left
    · exact kE (fun ls ts dir st root rest lies cs hs I => hno (head_fixed I.ok)) H1 k1
    have hhead : HeadOk (nb b) := fixed_head (by rw [nb_length]; exact hb) (by rw [nb_length]; exact hb1) hfx
    refine ⟨_, rfl, a, _, rfl, .inl (SqL.of (k1.nil hA)), _, _, rfl, rfl, ⟨by decide, by decide⟩, _, _, rfl, rfl, fun p dxp np ndp nexp => ?_⟩
    have esec : ((nV (nb b)).length : Int) / 512 - 1 = ((Rc22.sectors b : Nat) : Int) := by
      rw [nV_length, nb_length]; unfold Rc22.sectors; omega
    refine ⟨p, dxp, Rc22.sectors b, by show [V.ref p, V.int (((nV (nb b)).length : Int) / 512 - 1)] = _; rw [esec], upd_same, by omega, fun l H2 hP2 hl0 kp => ⟨rfl, ?_⟩⟩
    have k12 : Kp [] H1 H2 := fun x o e _ => by
      refine kp x o ?_ (ne_of_none e np)
      rw [upd_ne (ne_of_none e np), upd_ne (ne_of_none e ndp)]; exact e
    have hl1 : H1 l = none := by
      cases e : H1 l with
      | none => rfl
      | some o => rw [upd_ne (ne_of_none e np), upd_ne (ne_of_none e ndp), e] at hl0; cases hl0
    have hlH : H l = none := k1.nfree hl1
    have k02 : Kp [] H H2 := k1.trans k12
    have new : ∀ {H' : Hp}, Kp [l] H2 H' → Kp [] H H' := fun {H'} kk x o e _ => kk x o (k02.nil e) (by simpa using ne_of_none e hlH)
    refine ⟨_, rfl, _, rfl, _, rfl, a, hp, n, p, l, b, rfl, k02.nil hA, hb, by omega, by omega, hH1.keep k12, hP2, fun ls ts c H3 hT hA3 hc k3 hc3 hP3 => ?_, fun hno H3 k3 => ?_⟩
    rotate_left
    · exact kE (fun ls ts dir st root rest lies cs hs I => hno ls ts ⟨I.hls, I.hts, I.len, I.more, I.markT, I.markL⟩ I.apart.left.left.left.left.nd) H3 (new k3)
    have sameT : ∀ {ls' ts'}, TableOk b ls' ts' → ls' = ls ∧ ts' = ts := fun {ls' ts'} hT' => by
      have e1 := hT'.hls
      rw [hT.hls] at e1
      cases e1
      have e2 := hT'.hts
      rw [hT.hts] at e2
      cases e2
      exact ⟨rfl, rfl⟩
    have isT : ∀ {ls' ts' dir st root rest lies cs hs}, Is b ls' ts' dir st root rest lies cs hs → ls' = ls ∧ ts' = ts := fun I => sameT ⟨I.hls, I.hts, I.len, I.more, I.markT, I.markL⟩
    have hcl : c ≠ l := fun z => by rw [z] at hc; rw [hP2.ls] at hc; cases hc
    have hH3 : HeadAt t H3 hp n (nb b) := (hH1.keep k12).keepL hnb hP2.ls k3
    obtain ⟨dh, hh3⟩ := hH3.ob
    refine ⟨_, rfl, _, rfl, _, rfl, hp, t.c_Head, dh, _, _, rfl, hh3, T.cl_Head, T.n_Head_directory_at, hdf_dir n (nb b), p, l, c, Rc22.sectors b, n4 (nb b) 48, ls ++ ts, Rc22.entries b ts, rfl, hP3, hA3, by omega, hc3, hcl, hT.len, fun dir q H4 hdir hA4 hq k4 hq4 hP4 => ?_, fun hno H4 k4 => ?_⟩
    rotate_left
    · refine kE (fun ls' ts' dir st root rest lies cs hs I => ?_) H4 (new (k3.trans k4))
      obtain ⟨rfl, rfl⟩ := isT I
      refine hno dir ?_ I.apart.left.left.left.nd
      have := I.hdir
      rw [num4] at this
      exact this
    have hdir' : Rc22.chain (tab b ts) (Rc22.sectors b) (Rc22.num b 48 4) = some dir := by rw [num4]; exact hdir
    have isD : ∀ {ls' ts' dir' st root rest lies cs hs}, Is b ls' ts' dir' st root rest lies cs hs → dir' = dir := fun I => by
      obtain ⟨rfl, rfl⟩ := isT I
      have := I.hdir
      rw [hdir'] at this
      cases this; rfl
    have k24 : Kp [l] H2 H4 := k3.trans k4
    have hdl := hA4.right.le
    have hdm : ∀ s ∈ dir, s < Rc22.sectors b := hA4.right.lt
    refine ⟨_, rfl, q, _, rfl, .inl (SqL.of hq4), _, _, rfl, rfl, _, _, rfl, fun b1 => ?_, fun b1 => ?_⟩
    rotate_left
    · refine kE (fun ls' ts' dir' st root rest lies cs hs I => ?_) H4 (new k24)
      obtain rfl := isD I
      have b1 := of_decide_eq_false b1
      rw [nV_length] at b1
      have h1 := (good_of_is I).len
      rw [bytesOf_length hb hdm, List.length_cons] at h1
      omega
    have b1 := of_decide_eq_true b1
    rw [nV_length] at b1
    have hal : a ≠ l := ne_of_none hA hlH
    have hA4' : H4 a = some (.lst (nV (nb b))) := k24.at (k02.nil hA) (by simpa using hal)
    refine ⟨_, rfl, _, rfl, a, q, nb b, dir, rfl, SqL.of hA4', SqL.of hq4, by omega, fun ca H5 hca k5 hca5 => ?_⟩
    rw [flat_nb] at hca5
    have hbl := bytesOf_length hb hdm
    refine ⟨ca, Rc22.bytesOf b dir, rfl, hca5, by omega, by omega, fun ds eq es H6 hG heq k6 hE6 => ?_, fun hno H6 k6 => ?_⟩
    rotate_left
    · refine kE (fun ls' ts' dir' st root rest lies cs hs I => ?_) H6 (new (k24.trans ((k5.trans k6).mono (by simp))))
      obtain rfl := isD I
      exact hno _ (good_of_is I)
    have hKd : Kinds ds := good_kinds hG (by omega) (by omega)
    obtain ⟨root, rest, rfl⟩ : ∃ root rest, ds = root :: rest := by
      cases ds with
      | nil => exact absurd rfl hKd.ne
      | cons r rs => exact ⟨r, rs, rfl⟩
    have isG : ∀ {ls' ts' dir' st root' rest' lies cs hs}, Is b ls' ts' dir' st root' rest' lies cs hs → root' = root ∧ rest' = rest := fun I => by
      obtain rfl := isD I
      have h1 := I.items
      rw [(items_of_good hb hdm hG).1] at h1
      cases h1
      exact ⟨rfl, rfl⟩
    have hE6' : EntriesAt t H6 eq es (root :: rest) := hE6.keep nw_le
    have k46 : Kp [] H4 H6 := k5.trans k6
    have k26 : Kp [l] H2 H6 := k24.trans (k46.mono (by simp))
    refine ⟨_, rfl, eq, es, root :: rest, rfl, hE6', hKd, fun hs r cs H7 hTr hr0 k7 hC7 => ?_, fun hno H7 k7 => ?_⟩
    rotate_left
    · refine kE (fun ls' ts' dir' st root' rest' lies cs hs I => ?_) H7 (new (k26.trans (k7.mono (by simp))))
      obtain ⟨rfl, rfl⟩ := isG I
      exact hno hs I.tree
    have k27 : Kp [l] H2 H7 := k26.trans (k7.mono (by simp))
    have k47 : Kp [] H4 H7 := k46.trans k7
    have hP7 := hP4.keep0 k47
    have hA7 : H7 a = some (.lst (nV (nb b))) := k47.nil hA4'
    have hc7 : H7 c = some (.lst (nV (Rc22.entries b ts))) := k47.nil (k4.at hc3 (by simpa using hcl))
    have hH7 : HeadAt t H7 hp n (nb b) := ((hH1.keep k12).keepL hnb hP2.ls k24).keep k47
    have hrk : root.kind = 5 := by have := hKd.root; rw [kindAt_some (d := root) rfl] at this; exact this
    have hfew := hKd.few
    rw [List.length_cons] at hfew
    refine ⟨_, rfl, _, rfl, _, rfl, _, rfl, _, rfl, a, hp, n, eq, p, l, c, b, es, root, rest, ts, ls ++ ts ++ dir, rfl, hA7, hb, by omega, by omega, hH7, hE6'.keep k7, hrk, by omega, hP7, hA4, hc7, hcl, hT.len, fun lies st cc dct H8 hCo hA8 hdct k8 hCt hP8 => ?_, fun hno H8 k8 => ?_⟩
    rotate_left
    · refine kE (fun ls' ts' dir' st root' rest' lies cs hs I => ?_) H8 (new (k27.trans k8))
      obtain ⟨rfl, rfl⟩ := isT I
      obtain rfl := isD I
      obtain ⟨rfl, rfl⟩ := isG I
      refine hno lies st cs (cont_of_is I) ?_
      rw [big_root _ cs I.rk]
      exact I.apart.nd
    have k28 : Kp [l] H2 H8 := k27.trans k8
    have hc8 : H8 c = some (.lst (nV (Rc22.entries b ts))) := k8.at hc7 (by simpa using hcl)
    refine ⟨_, rfl, _, rfl, p, l, c, Rc22.sectors b, _, Rc22.entries b ts, rfl, hP8, by omega, hc8, hT.len, fun hfree H9 k9 => ?_, fun hno H9 k9 => ?_⟩
    rotate_left
    · refine kE (fun ls' ts' dir' st' root' rest' lies' cs' hs' I => ?_) H9 (new (k28.trans (k9.mono (by simp))))
      obtain ⟨rfl, rfl⟩ := isT I
      obtain rfl := isD I
      obtain ⟨rfl, rfl⟩ := isG I
      have hCo' := cont_of_is I
      have e1 := hCo'.hlies
      rw [hCo.hlies] at e1
      cases e1
      have e2 := hCo'.hst
      rw [hCo.hst] at e2
      cases e2
      have e3 : cs'.map some = cc.map some := by
        have h1 := hCo'.owns
        have h2 := hCo.owns
        unfold Owns at h1 h2
        rw [← h1, ← h2]
      have e4 : cs' = cc := (List.map_inj_right (fun _ _ e => Option.some.inj e)).mp e3
      subst e4
      exact hno (free_of_is I)
    have I : Is b ls ts dir st root rest lies cc hs := is_of hhead hT hdir' hdm hG hTr hCo hA8 hfree
    have k79 : Kp [l] H7 H9 := k8.trans (k9.mono (by simp))
    have k09 : Kp [] H H9 := new (k28.trans (k9.mono (by simp)))
    refine ⟨_, rfl, _, rfl, _, rfl, fun s dxs ns nds ness => ⟨s, dxs, eq, r, dct, rfl, upd_same, ⟨rfl, ?_⟩⟩⟩
    rw [upd_upd]
    have kf : Kp [] H9 (upd (upd H9 dxs (.own s)) s (.ins t.c_Store dxs (sf eq r dct))) := fun x o e _ => by
      rw [upd_ne (ne_of_none e ns), upd_ne (ne_of_none e nds)]; exact e
    have hl5 : H5 l ≠ none := by rw [(hP4.keep0 k5).ls]; simp
    have hl6 : H6 l ≠ none := by rw [(hP4.keep0 k46).ls]; simp
    have hl7 : H7 l ≠ none := by rw [hP7.ls]; simp
    have fr : ∀ {H' : Hp}, Kp [] H H' → ∀ x, H' x = none → H x = none := fun kk x hx => kk.nfree hx
    refine k _ s _ (store_iff.mpr ⟨ls, ts, dir, st, root, rest, lies, cc, hs, I, rfl⟩) (k09.nfree ns) (k09.trans kf) ⟨⟨dxs, eq, r, dct, es, cs, hs, nw_at (k09.nfree ns) upd_same, ?_, ?_, hTr, ?_⟩, hKd, ?_, fun d hd => ?_⟩
    · exact hE6.keep (nw_kpg (ls := [l]) (fr (new (k24.trans (k5.mono (by simp))))) (((k7.mono (by simp)).trans k79).trans (kf.mono (by simp))) (by simpa using hl5))
    · exact hC7.keep (nw_kpg (ls := [l]) (fr (new k26)) (k79.trans (kf.mono (by simp))) (by simpa using hl6))
    · exact hCt.keep (nw_kpg (ls := []) (fr (new k27)) (k9.trans kf) (by simp))
    · exact content_len (by show (tab b ts).length = _; exact I.tabl) hb2
    · obtain ⟨i, hi⟩ := List.mem_iff_getElem?.mp hd
      exact (item_kind (hG.at_ i d hi).1).2
end
end FT
namespace FT
open PySem L2 FV
section
variable {P : Program} {w : World} {K : PySem.W.Frag} {mg : Str → Option Value} {base : Heap} {t : Adr}
def hof (v : V) : List (Str × V) := [("store", v)]
theorem hof_store (v : V) : (hof v).lookup ("store" : Str) = some v := by kernel_rfl
theorem hof_new (v : V) : putF "store" v [] = hof v := by kernel_rfl
theorem hof_put (v x : V) : putF "store" x (hof v) = hof x := by kernel_rfl
theorem hof_no (v : V) {m : Str} (h : ¬ m = "store") : (hof v).lookup m = none := by
  rw [← hof_new, lookup_putF, if_neg h]; rfl
def HeldAt (t : Adr) (G : Hp) (v : V) (st : Rc22.Abs) : Prop := (st.file = none ∧ v = .non) ∨ ∃ (s : Addr) (b : Rc22.Bytes) (x : Rc22.Store), st.file = some (b, x) ∧ v = .ref s ∧ StoreAt t G s b x
theorem HeldAt.keep {G G' : Hp} {v : V} {st : Rc22.Abs} (h : HeldAt t G v st) (k : Kp [] G G') : HeldAt t G' v st := by
  rcases h with h | ⟨s, b, x, h1, h2, h3⟩
  · exact .inl h
  · exact .inr ⟨s, b, x, h1, h2, h3.keep k⟩
def spHolder (t : Adr) : Sp := fun vs H Q _ => ∃ (s dx : Addr), vs = [.ref s] ∧ H s = some (.ins t.c_Holder dx []) ∧ Q .non (upd H s (.ins t.c_Holder dx (hof .non)))
theorem ok_Holder_init (T : Txt K mg t) : FnOk P w K mg base CX0 1 t.a_Holder_init t.d_Holder_init ["self"] (spHolder t) := by
  refine T.F_Holder_init.ok sc_Holder_init (fun vs H Q E h => ?_) (fun cdv A outer s H vs Q E hr h => ?_)
  · obtain ⟨p, dx, rfl, _⟩ := h
    rfl
  · obtain ⟨p, dx, rfl, hp, k⟩ := h
    refine ⟨_, pss_one (ps_fld (pv 0) pe_non rfl), ?_⟩
    refine ⟨_, rfl, p, t.c_Holder, dx, _, rfl, hp, T.cl_Holder, T.n_Holder_store, (by show 0 < 1000; decide), ?_⟩
    show Q .non (upd H p (.ins t.c_Holder dx (putF "store" .non [])))
    rw [hof_new]
    exact k
def spBegin (t : Adr) : Sp := fun vs H Q _ => ∃ (s dx : Addr) (v : V), vs = [.ref s] ∧ H s = some (.ins t.c_Holder dx (hof v)) ∧ Q (.int 0) (upd H s (.ins t.c_Holder dx (hof .non)))
theorem ok_begin (T : Txt K mg t) : FnOk P w K mg base CX0 1 t.a_Holder_begin t.d_Holder_begin ["self"] (spBegin t) := by
  refine T.F_Holder_begin.ok sc_Holder_begin (fun vs H Q E h => ?_) (fun cdv A outer s H vs Q E hr h => ?_)
  · obtain ⟨p, dx, v, rfl, _⟩ := h
    rfl
  · obtain ⟨p, dx, v, rfl, hp, k⟩ := h
    refine ⟨_, pss_cons (ps_fld (pv 0) pe_non rfl) (pss_one (ps_ret pe_int)), ?_⟩
    refine ⟨_, rfl, p, t.c_Holder, dx, _, rfl, hp, T.cl_Holder, T.n_Holder_store, (by show 1 < 1000; decide), ?_⟩
    show Q (.int 0) (upd H p (.ins t.c_Holder dx (putF "store" .non (hof v))))
    rw [hof_put]
    exact k
def spTakeFile (t : Adr) : Sp := fun vs H Q E => ∃ (ho dx a : Addr) (v : V) (b : Rc22.Bytes), vs = [.ref ho, .ref a] ∧ H ho = some (.ins t.c_Holder dx (hof v)) ∧ H a = some (.lst (nV (nb b))) ∧ b.length ≤ 40000 ∧
  (∀ (x : Rc22.Store) (s : Addr) (H' : Hp), 1 ≤ b.length → Rc22.store b = some x → Kp [ho] H H' → H' ho = some (.ins t.c_Holder dx (hof (.ref s))) → StoreAt t (nw H H') s b x → Q (.int 0) H') ∧
  (b.length = 0 ∨ Rc22.store b = none → ∀ H', Kp [] H H' → E (.ref t.x_NotAStore) none H')
theorem ok_take_file (T : Txt K mg t) : FnOk P w K mg base (CXE P w) 9 t.a_Holder_take_file t.d_Holder_take_file ["self", "file"] (spTakeFile t) := by
  refine T.F_Holder_take_file.okX sc_Holder_take_file (fun vs H Q E h => ?_) (fun cdv A outer s H vs Q E hr h => ?_)
  · obtain ⟨ho, dx, a, v, b, rfl, _⟩ := h
    rfl
  · obtain ⟨ho, dx, a, v, b, rfl, hp, hA, hb, k, kE⟩ := h
    obtain ⟨u, hu, ru⟩ := T.k_MOST_BYTES
    have hr1 : Room 1 _ := hr.mono (by decide)
    refine ⟨_, pss_cons (ps_expr (pe_call (ok_hold T) hr1 rfl T.g_hold T.F_hold.kp T.b_hold .nil passX (pa_cons (pe_chain op_le op_le pe_int (pe_callB call_len_seq (by rfl) T.z_len PySem.boot_len (pa_cons (pv 1) pa_nil)) (pe_glob rfl hu ru)) (pa_cons pe_str pa_nil))))
      (pss_cons (ps_fld (pv 0) (pe_call (ok_read_store T) hr rfl T.g_read_store T.F_read_store.kp T.b_read_store .nil passX (pa_cons (pv 1) pa_nil)) rfl)
      (pss_one (ps_ret pe_int))), ?_⟩
    refine ⟨_, rfl, a, _, rfl, .inl (SqL.of hA), _, _, rfl, rfl, _, rfl, ?_⟩
    rw [nV_length, nb_length]
    by_cases h1 : 1 ≤ b.length
    · rw [if_pos (decide_eq_true (by omega))]
      refine ⟨_, _, rfl, rfl, _, _, rfl, fun b1 => ?_, fun b1 => ?_⟩
      rotate_left
      · have b1 := of_decide_eq_false b1
        omega
      refine ⟨_, rfl, a, b, rfl, hA, hb, fun x s H1 hx hs k1 hS => ?_, fun hno H1 k1 => kE (.inr hno) H1 k1⟩
      refine ⟨_, rfl, ho, t.c_Holder, dx, _, rfl, k1.nil hp, T.cl_Holder, T.n_Holder_store, (by show 1 < 1000; decide), ?_⟩
      show Q (.int 0) (upd H1 ho (.ins t.c_Holder dx (putF "store" (.ref s) (hof v))))
      rw [hof_put]
      refine k x s _ h1 hx ((k1.mono (by simp)).trans (Kp.old (by simp))) upd_same (hS.keep (nw_kpg (ls := [ho]) (fun _ h => h) (Kp.old (by simp)) (fun l hl => ?_)))
      have : l = ho := by simpa using hl
      rw [this, hp]; simp
    · rw [if_neg (fun q => h1 (by have := of_decide_eq_true q; omega))]
      refine ⟨_, _, rfl, fun b1 => (by cases b1), fun _ => kE (.inl (by omega)) H (Kp.refl _ _)⟩
def spHeldS (t : Adr) : Sp := fun vs H Q E => ∃ (ho dx : Addr) (v : V), vs = [.ref ho] ∧ H ho = some (.ins t.c_Holder dx (hof v)) ∧ (v = .non → E (.ref t.x_NothingHeld) none H) ∧ (v ≠ .non → Q v H)
theorem ok_held (T : Txt K mg t) : FnOk P w K mg base (CXE P w) 1 t.a_Holder_held t.d_Holder_held ["self"] (spHeldS t) := by
  refine T.F_Holder_held.okX sc_Holder_held (fun vs H Q E h => ?_) (fun cdv A outer s H vs Q E hr h => ?_)
  · obtain ⟨p, dx, v, rfl, _⟩ := h
    rfl
  · obtain ⟨p, dx, v, rfl, hp, kE, k⟩ := h
    refine ⟨_, pss_cons (ps_if (pt_cmp (pc_isN (pe_fld (pv 0) rfl))) (pss_one (ps_raise T.e_NothingHeld rfl T.g_NothingHeld pe_str)) pss_nil) (pss_one (ps_ret (pe_fld (pv 0) rfl))), ?_⟩
    refine ⟨_, rfl, p, t.c_Holder, dx, _, _, rfl, hp, T.cl_Holder, T.n_Holder_store, hof_store v, _, rfl, ?_⟩
    refine ite2 (fun z => ?_) (fun z => ?_)
    · exact ⟨by show 1 ≤ sizeLine; decide, kE (of_decide_eq_true z)⟩
    · exact ⟨_, rfl, p, t.c_Holder, dx, _, _, rfl, hp, T.cl_Holder, T.n_Holder_store, hof_store v, k fun q => z (decide_eq_true q)⟩
abbrev iV (ns : List Int) : List V := ns.map V.int
theorem iV_length (ns : List Int) : (iV ns).length = ns.length := List.length_map ..
theorem iV_get {ns : List Int} {i : Nat} {z : Int} (h : ns[i]? = some z) : (iV ns)[i]? = some (.int z) := by
  show (ns.map V.int)[i]? = _
  rw [List.getElem?_map, h]; rfl
theorem get_part {ns c r : List Int} {i j : Nat} (h : ns.drop i = c ++ r) (hj : j < c.length) : ns[i + j]? = c[j]? := by
  rw [← List.getElem?_drop, h, List.getElem?_append_left hj]
theorem flat_head {c : List (List Int)} {l : List Int} (h : Flat c l) : ∃ (k n : Nat), l[0]? = some (k : Int) ∧ k ≤ 5 ∧ ([0, 0, 0, 1, 2, 3] : List Nat)[k]? = some n ∧ n < l.length ∧
    ((k ≠ 1 ∧ k ≠ 2 ∧ l.length = 1 + n) ∨ ((k = 1 ∨ k = 2) ∧ n = 0 ∧ 2 ≤ l.length ∧ l[1]? = some ((l.length - 2 : Nat) : Int))) := by
  cases h with
  | begin => exact ⟨0, 0, rfl, by decide, rfl, by decide, .inl ⟨by decide, by decide, rfl⟩⟩
  | open_ x => exact ⟨1, 0, rfl, by decide, rfl, by simp, .inr ⟨.inl rfl, rfl, by simp, by simp⟩⟩
  | find x => exact ⟨2, 0, rfl, by decide, rfl, by simp, .inr ⟨.inr rfl, rfl, by simp, by simp⟩⟩
  | item i => exact ⟨3, 1, rfl, by decide, rfl, by simp, .inl ⟨by decide, by decide, rfl⟩⟩
  | child i k => exact ⟨4, 2, rfl, by decide, rfl, by simp, .inl ⟨by decide, by decide, rfl⟩⟩
  | read i a m => exact ⟨5, 3, rfl, by decide, rfl, by simp, .inl ⟨by decide, by decide, rfl⟩⟩
def spEnd (K : PySem.W.Frag) : Sp := fun vs H Q _ => ∃ (a : Addr) (ns l r : List Int) (c : List (List Int)) (i : Nat), vs = [.ref a, .int (i : Int)] ∧ SqL K H a (iV ns) ∧ ns.drop i = l ++ r ∧ Flat c l ∧ ∀ H', Kp [] H H' → Q (.int ((i + l.length : Nat) : Int)) H'
theorem ok_end_of_call (T : Txt K mg t) : FnOk P w K mg base CX0 1 t.a_end_of_call t.d_end_of_call ["calls", "at"] (spEnd K) := by
  refine T.F_end_of_call.ok sc_end_of_call (fun vs H Q E h => ?_) (fun cdv A outer s H vs Q E hr h => ?_)
  · obtain ⟨a, ns, l, r, c, i, rfl, _⟩ := h
    rfl
  · obtain ⟨a, ns, l, r, c, i, rfl, hA, hd, hF, k⟩ := h
    obtain ⟨u1, hu1, ru1⟩ := T.k_OPEN_CALL
    obtain ⟨u2, hu2, ru2⟩ := T.k_FIND_CALL
    obtain ⟨kk, n, h0, hk5, hn, hnl, hcase⟩ := flat_head hF
    have hl0 : 0 < l.length := by omega
    refine ⟨_, pss_cons (ps_set (i := 2) sc_end_of_call.nd rfl (Or.inl rfl) (pe_ix ix_list (pv 0) (pv 1) (fun _ _ => rfl)))
      (pss_cons (ps_set (i := 3) sc_end_of_call.nd rfl (Or.inl rfl) (pe_op op_add (pe_op op_add (pv 1) pe_int) (pe_ix ix_tup (pe_glob (v := .ref t.t_PLAIN_NUMBERS) rfl T.g_PLAIN_NUMBERS rfl) (pv 2) (fun _ _ => rfl))))
      (pss_cons (ps_if (pt_cmpR op_in_seq (pv 2) (pe_tup (pa_cons (pe_glob rfl hu1 ru1) (pa_cons (pe_glob rfl hu2 ru2) pa_nil))) rfl)
        (pss_one (ps_aug (i := 3) sc_end_of_call.nd rfl (Or.inl rfl) (pe_op op_add pe_int (pe_ix ix_list (pv 0) (pv 3) (fun _ _ => rfl))) ip_add)) pss_nil)
      (pss_one (ps_ret (pv 3))))), ?_⟩
    refine ⟨_, rfl, _, rfl, a, _, _, .int (kk : Int), rfl, rfl, hA, at_of (j := i) rfl (iV_get (by rw [← Nat.add_zero i, get_part hd hl0]; exact h0)), ?_⟩
    refine ⟨_, rfl, _, _, rfl, rfl, _, rfl, t.t_PLAIN_NUMBERS, nV [0, 0, 0, 1, 2, 3], _, .int (n : Int), rfl, rfl, T.s_PLAIN_NUMBERS H, at_of (j := kk) rfl (by rw [nV_get?, hn]; rfl), _, _, rfl, rfl, ?_⟩
    refine ⟨_, rfl, (by show 2 ≤ sizeLine; decide), fun tp htp => ⟨tp, _, rfl, .inr (SqT.of upd_same), rfl, rfl, _, rfl, ?_⟩⟩
    have ein : inV (V.int (kk : Int)) [V.int 1, V.int 2] = ([1, 2] : List Nat).contains kk := inV_nat kk [1, 2]
    show if inV (V.int (kk : Int)) [V.int 1, V.int 2] = true then _ else _
    rw [ein]
    rcases hcase with ⟨h1, h2, hlen⟩ | ⟨h1, hn0, h2, hlen⟩
    · have e : ([1, 2] : List Nat).contains kk = false := by simp; omega
      rw [e]
      refine iteF ⟨_, rfl, ?_⟩
      have e2 : (i : Int) + 1 + (n : Int) = ((i + l.length : Nat) : Int) := by omega
      show Q (.int ((i : Int) + 1 + (n : Int))) _
      rw [e2]; exact k _ (Kp.new htp)
    · have e : ([1, 2] : List Nat).contains kk = true := by simp; omega
      rw [e]
      subst hn0
      have hA2 : SqL K (upd H tp (.tup [V.int 1, V.int 2])) a (iV ns) := (Kp.new htp).sq hA
      refine iteT ⟨_, rfl, _, rfl, _, rfl, a, _, _, .int ((l.length - 2 : Nat) : Int), rfl, rfl, hA2, at_of (j := i + 1) (by show (i : Int) + 1 + ((0 : Nat) : Int) = _; omega) (iV_get (by rw [get_part hd (by omega)]; exact hlen)), _, _, rfl, rfl, _, _, rfl, rfl, _, rfl, ?_⟩
      have e2 : (i : Int) + 1 + ((0 : Nat) : Int) + (1 + ((l.length - 2 : Nat) : Int)) = ((i + l.length : Nat) : Int) := by omega
      show Q (.int ((i : Int) + 1 + ((0 : Nat) : Int) + (1 + ((l.length - 2 : Nat) : Int)))) _
      rw [e2]; exact k _ (Kp.new htp)
end
end FT
namespace FT
open PySem L2 FV
section
open Rc22Neutral (step bytesOf)
variable {st : Rc22.Abs} {b : Rc22.Bytes} {x : Rc22.Store}
theorem step_of {c : List (List Int)} {k : Rc22.Call} {st' : Rc22.Abs} {v : Int} {ns : List Nat} (hc : Rc22Neutral.callOf c = some k) (h : Rc22.does st k = (st', { value := v, numbers := ns })) : step st c = (st', v :: natZ ns) := by
  unfold Rc22Neutral.step
  rw [hc]
  dsimp only
  rw [h]
  rfl
theorem step_begin : step st (PyRc22.whole [[0]]) = ({}, [0]) := step_of (k := .init) (ns := []) rfl rfl
theorem step_open {a : List Int} (h1 : 1 ≤ a.length) (h2 : a.length ≤ 1048576) (h : Rc22.store (bytesOf a) = some x) : step st (PyRc22.whole [[1], a]) = ({ file := some (bytesOf a, x) }, [0]) := by
  refine step_of (k := .open_ (bytesOf a) (a.length : Int)) (ns := []) rfl ?_
  unfold Rc22.does
  dsimp only
  rw [if_neg (by unfold Rc22.MOST; omega), h]
theorem step_open_no {a : List Int} (h : a.length = 0 ∨ Rc22.store (bytesOf a) = none) : step st (PyRc22.whole [[1], a]) = (st, [-1]) := by
  refine step_of (k := .open_ (bytesOf a) (a.length : Int)) (ns := []) rfl ?_
  unfold Rc22.does
  dsimp only
  by_cases h0 : ((a.length : Int) < 1 ∨ (Rc22.MOST : Int) < (a.length : Int))
  · rw [if_pos h0]; rfl
  · rw [if_neg h0]
    rcases h with h | h
    · exact absurd (.inl (by omega)) h0
    · rw [h]; rfl
theorem step_find {a : List Int} {k : Nat} (hf : st.file = some (b, x)) (hl : a.length ≤ 4096) (h : Rc22.found x.items 0 (Rc22.namesOf (bytesOf a)) = some k) : step st (PyRc22.whole [[2], a]) = (st, [(k : Int)]) := by
  refine step_of (k := .find (bytesOf a) (a.length : Int)) (ns := []) rfl ?_
  unfold Rc22.does
  dsimp only
  rw [hf]
  dsimp only
  rw [if_neg (by omega), h]
theorem step_find_no {a : List Int} (hf : st.file = some (b, x)) (h : 4096 < a.length ∨ Rc22.found x.items 0 (Rc22.namesOf (bytesOf a)) = none) : step st (PyRc22.whole [[2], a]) = (st, [-1]) := by
  refine step_of (k := .find (bytesOf a) (a.length : Int)) (ns := []) rfl ?_
  unfold Rc22.does
  dsimp only
  rw [hf]
  dsimp only
  by_cases h0 : ((a.length : Int) < 0 ∨ 4096 < (a.length : Int))
  · rw [if_pos h0]; rfl
  · rw [if_neg h0]
    rcases h with h | h
    · exact absurd (.inr (by omega)) h0
    · rw [h]; rfl
theorem step_item {i : Int} {d : Rc22.Item} (hf : st.file = some (b, x)) (h : Rc22.thing x i = some d) : step st (PyRc22.whole [[3, i]]) = (st, natZ (itemAns x i d)) := by
  refine step_of (k := .item i) (ns := d.kind :: (if d.kind = 2 then d.size else 0) :: ((Rc22.children x.items i.toNat).getD []).length :: (Rc22.codes d.name ++ List.replicate (31 - d.name.length) 0)) rfl ?_
  unfold Rc22.does
  dsimp only
  rw [hf]
  dsimp only
  rw [h]
theorem step_item_no {i : Int} (hf : st.file = some (b, x)) (h : Rc22.thing x i = none) : step st (PyRc22.whole [[3, i]]) = (st, [-1]) := by
  refine step_of (k := .item i) (ns := []) rfl ?_
  unfold Rc22.does
  dsimp only
  rw [hf]
  dsimp only
  rw [h]; rfl
theorem step_child {i y : Int} {d : Rc22.Item} {c : Nat} (hf : st.file = some (b, x)) (h : Rc22.thing x i = some d) (hy : 0 ≤ y) (hc : ((Rc22.children x.items i.toNat).getD [])[y.toNat]? = some c) : step st (PyRc22.whole [[4, i, y]]) = (st, [(c : Int)]) := by
  refine step_of (k := .child i y) (ns := []) rfl ?_
  unfold Rc22.does
  dsimp only
  rw [hf]
  dsimp only
  rw [h]
  dsimp only
  rw [if_neg (by omega), hc]
theorem step_child_no {i y : Int} (hf : st.file = some (b, x)) (h : ∀ d c, Rc22.thing x i = some d → 0 ≤ y → ((Rc22.children x.items i.toNat).getD [])[y.toNat]? ≠ some c) : step st (PyRc22.whole [[4, i, y]]) = (st, [-1]) := by
  refine step_of (k := .child i y) (ns := []) rfl ?_
  unfold Rc22.does
  dsimp only
  rw [hf]
  dsimp only
  cases e : Rc22.thing x i with
  | none => rfl
  | some d =>
    dsimp only
    by_cases hy : y < 0
    · rw [if_pos hy]; rfl
    · rw [if_neg hy]
      cases e2 : ((Rc22.children x.items i.toNat).getD [])[y.toNat]? with
      | none => rfl
      | some c => exact absurd e2 (h d c e (by omega))
theorem step_read {i a m : Int} {d : Rc22.Item} (hf : st.file = some (b, x)) (h : Rc22.thing x i = some d) (hk : d.kind = 2) : step st (PyRc22.whole [[5, i, a, m]]) = (st, natZ ((readAns b x d a.toNat m).length :: nb (readAns b x d a.toNat m))) := by
  refine step_of (k := .read i a.toNat m) (ns := nb (readAns b x d a.toNat m)) rfl ?_
  unfold Rc22.does
  dsimp only
  rw [hf]
  dsimp only
  rw [h]
  dsimp only
  rw [if_neg (by omega)]
  rfl
theorem step_read_no {i a m : Int} (hf : st.file = some (b, x)) (h : ∀ d, Rc22.thing x i = some d → d.kind ≠ 2) : step st (PyRc22.whole [[5, i, a, m]]) = (st, [-1]) := by
  refine step_of (k := .read i a.toNat m) (ns := []) rfl ?_
  unfold Rc22.does
  dsimp only
  rw [hf]
  dsimp only
  cases e : Rc22.thing x i with
  | none => rfl
  | some d =>
    dsimp only
    rw [if_pos (h d e)]
    rfl
theorem step_none {c : List (List Int)} {l : List Int} (hF : Flat c l) (h2 : ∀ z, l[0]? = some z → 2 ≤ z) (hf : st.file = none) : step st (PyRc22.whole c) = (st, [-4]) := by
  cases hF with
  | begin => exact absurd (h2 0 rfl) (by decide)
  | open_ a => exact absurd (h2 1 rfl) (by decide)
  | find a =>
    refine step_of (k := .find (bytesOf a) (a.length : Int)) (ns := []) rfl ?_
    unfold Rc22.does
    dsimp only
    rw [hf]; rfl
  | item i =>
    refine step_of (k := .item i) (ns := []) rfl ?_
    unfold Rc22.does
    dsimp only
    rw [hf]; rfl
  | child i y =>
    refine step_of (k := .child i y) (ns := []) rfl ?_
    unfold Rc22.does
    dsimp only
    rw [hf]; rfl
  | read i a m =>
    refine step_of (k := .read i a.toNat m) (ns := []) rfl ?_
    unfold Rc22.does
    dsimp only
    rw [hf]; rfl
end
section
variable {P : Program} {w : World} {K : PySem.W.Frag} {mg : Str → Option Value} {base : Heap} {t : Adr}
theorem iteD {c : Bool} {a b : Prop} (h : c = true) (ha : a) : if c = true then a else b := by rw [if_pos h]; exact ha
theorem iteN {c : Bool} {a b : Prop} (h : c = false) (hb : b) : if c = true then a else b := by rw [h, if_neg Bool.false_ne_true]; exact hb
theorem iV_nat (ns : List Nat) : iV (natZ ns) = nV ns := (nV_ints ns).symm
theorem asked_bytes {a : List Int} {n : Nat} (h : (a.all fun z => Rc22Neutral.natural z 8) = true) : iV a = nV (nb (Rc22Neutral.bytesOf a)) := by
  rw [← iV_nat, ← nb_ofInts h]
theorem bytes_len (a : List Int) : (Rc22Neutral.bytesOf a).length = a.length := by unfold Rc22Neutral.bytesOf; rw [List.length_map]
def spAnsStore (t : Adr) : Sp := fun vs H Q E => ∃ (s c : Addr) (b : Rc22.Bytes) (x : Rc22.Store) (st : Rc22.Abs) (cl : List (List Int)) (l : List Int), vs = [.ref s, .ref c] ∧ StoreAt t H s b x ∧ st.file = some (b, x) ∧ H c = some (.lst (iV l)) ∧ l.length ≤ 30000 ∧ Flat cl l ∧ Rc22Neutral.asked1 (PyRc22.whole cl) = true ∧ (∀ z, l[0]? = some z → 2 ≤ z) ∧
  (∀ (p : Addr) (ans : List Int) (H' : Hp), Rc22Neutral.step st (PyRc22.whole cl) = (st, ans) → H p = none → Kp [] H H' → H' p = some (.lst (iV ans)) → ans.length ≤ 40001 → Q (.ref p) H') ∧
  (Rc22Neutral.step st (PyRc22.whole cl) = (st, [-1]) → ∀ H', Kp [] H H' → E (.ref t.x_NotThere) none H')
set_option maxHeartbeats 1000000 in
theorem ok_answer_of_store (T : Txt K mg t) : FnOk P w K mg base (CXE P w) 5 t.a_answer_of_store t.d_answer_of_store ["store", "call"] (spAnsStore t) := by
  refine T.F_answer_of_store.okX sc_answer_of_store (fun vs H Q E h => ?_) (fun cdv A outer s H vs Q E hr h => ?_)
  · obtain ⟨s, c, b, x, st, cl, l, rfl, _⟩ := h
    rfl
  · obtain ⟨sa, c, b, x, st, cl, l, rfl, hS, hf, hc, hll, hF, hask, h2, k, kE⟩ := h
    obtain ⟨u1, hu1, ru1⟩ := T.k_FIND_CALL
    obtain ⟨u2, hu2, ru2⟩ := T.k_ITEM_CALL
    obtain ⟨u3, hu3, ru3⟩ := T.k_CHILD_CALL
    have hr1 : Room 1 _ := hr.mono (by decide)
    have hr2 : Room 2 _ := hr.mono (by decide)
    obtain ⟨⟨dx, q, r, dct, es, cs, hs, hs1, _⟩, _, _, _⟩ := id hS
    refine ⟨_, pss_cons (ps_if (pt_cmpR op_eq (pe_ix ix_list (pv 1) pe_int (fun _ _ => rfl)) (pe_glob rfl hu1 ru1) (nomark _)) (pss_one (ps_ret (pe_lst (pa_cons (pe_meth (pv 0) T.cl_Store T.m_Store_find (ok_find T) hr T.b_Store_find .nil passX (pa_cons (pe_slice sl_list (pv 1) (po_some pe_int) po_none) pa_nil)) pa_nil)))) pss_nil)
      (pss_cons (ps_if (pt_cmpR op_eq (pe_ix ix_list (pv 1) pe_int (fun _ _ => rfl)) (pe_glob rfl hu2 ru2) (nomark _)) (pss_one (ps_ret (pe_meth (pv 0) T.cl_Store T.m_Store_item (ok_item T) hr2 T.b_Store_item .nil passX (pa_cons (pe_ix ix_list (pv 1) pe_int (fun _ _ => rfl)) pa_nil)))) pss_nil)
      (pss_cons (ps_if (pt_cmpR op_eq (pe_ix ix_list (pv 1) pe_int (fun _ _ => rfl)) (pe_glob rfl hu3 ru3) (nomark _)) (pss_one (ps_ret (pe_lst (pa_cons (pe_meth (pv 0) T.cl_Store T.m_Store_child (ok_child T) hr2 T.b_Store_child .nil passX (pa_cons (pe_ix ix_list (pv 1) pe_int (fun _ _ => rfl)) (pa_cons (pe_ix ix_list (pv 1) pe_int (fun _ _ => rfl)) pa_nil))) pa_nil)))) pss_nil)
      (pss_one (ps_ret (pe_meth (pv 0) T.cl_Store T.m_Store_read (ok_read T) hr1 T.b_Store_read .nil passX (pa_cons (pe_ix ix_list (pv 1) pe_int (fun _ _ => rfl)) (pa_cons (pe_ix ix_list (pv 1) pe_int (fun _ _ => rfl)) (pa_cons (pe_ix ix_list (pv 1) pe_int (fun _ _ => rfl)) pa_nil)))))))), ?_⟩
    have no : ∀ m : Str, ¬ m = "entries" → ¬ m = "children" → ¬ m = "contents" → (sf q r dct).lookup m = none := fun m h1 h2 h3 => sf_no q r dct h1 h2 h3
    cases hF with
    | begin => exact absurd (h2 0 rfl) (by decide)
    | open_ a => exact absurd (h2 1 rfl) (by decide)
    | find a =>
      have hb8 : (a.all fun z => Rc22Neutral.natural z 8) = true := by
        have hask : (a.all (fun (z : Int) => Rc22Neutral.natural z 8) && Rc22Neutral.long a (a.length : Int) 1 4096 && Rc22Neutral.whole32 (a.length : Int)) = true := hask
        simp only [Bool.and_eq_true] at hask
        exact hask.1.1
      refine ⟨_, rfl, c, _, _, .int 2, rfl, rfl, SqL.of hc, at_of (j := 0) rfl rfl, rfl, _, rfl, iteD (by decide) ?_⟩
      have hal : a.length ≤ 30000 := by simp at hll; omega
      refine ⟨_, rfl, sa, dx, _, rfl, hs1, no "find" (by decide +kernel) (by decide +kernel) (by decide +kernel), _, rfl, _, rfl, c, _, rfl, SqL.of hc, fun pa hpa => ?_⟩
      have ecut : cutV (iV (2 :: (a.length : Int) :: a)) (some 2) none = nV (nb (Rc22Neutral.bytesOf a)) := by
        rw [show (2 : Int) = ((2 : Nat) : Int) from rfl, cut_from]
        exact asked_bytes (n := 0) hb8
      rw [ecut]
      refine ⟨sa, pa, b, Rc22Neutral.bytesOf a, x, rfl, hS.keep (Kp.new hpa), upd_same, by rw [bytes_len]; omega, fun kk H1 hle hfd k1 => ?_, fun hno H1 k1 => ?_⟩
      · refine ⟨(by show 1 ≤ sizeLine; decide), fun p hp => ?_⟩
        rw [bytes_len] at hle
        have k2 : Kp [] H H1 := (Kp.new hpa).trans k1
        exact k p _ _ (step_find hf hle hfd) (k2.nfree hp) (k2.trans (Kp.new hp)) upd_same (by simp)
      · rw [bytes_len] at hno
        exact kE (step_find_no hf hno) H1 ((Kp.new hpa).trans k1)
    | item i =>
      refine ⟨_, rfl, c, _, _, .int 3, rfl, rfl, SqL.of hc, at_of (j := 0) rfl rfl, rfl, _, rfl, iteN (by decide) ?_⟩
      refine ⟨_, rfl, c, _, _, .int 3, rfl, rfl, SqL.of hc, at_of (j := 0) rfl rfl, rfl, _, rfl, iteD (by decide) ?_⟩
      refine ⟨_, rfl, sa, dx, _, rfl, hs1, no "item" (by decide +kernel) (by decide +kernel) (by decide +kernel), _, rfl, c, _, _, .int i, rfl, rfl, SqL.of hc, at_of (j := 1) rfl rfl, sa, i, b, x, rfl, hS, fun d p H1 hth hp k1 hp1 hnl => ?_, fun hno => kE (step_item_no hf hno) H (Kp.refl _ _)⟩
      refine k p _ H1 (step_item hf hth) hp k1 (by rw [iV_nat]; exact hp1) ?_
      have h31 := hS.nm d (List.mem_of_getElem? (thing_get hth).2.1)
      rw [natZ_length]
      unfold itemAns
      simp only [List.length_cons, List.length_append, List.length_replicate, nb_length]
      omega
    | child i y =>
      refine ⟨_, rfl, c, _, _, .int 4, rfl, rfl, SqL.of hc, at_of (j := 0) rfl rfl, rfl, _, rfl, iteN (by decide) ?_⟩
      refine ⟨_, rfl, c, _, _, .int 4, rfl, rfl, SqL.of hc, at_of (j := 0) rfl rfl, rfl, _, rfl, iteN (by decide) ?_⟩
      refine ⟨_, rfl, c, _, _, .int 4, rfl, rfl, SqL.of hc, at_of (j := 0) rfl rfl, rfl, _, rfl, iteD (by decide) ?_⟩
      refine ⟨_, rfl, sa, dx, _, rfl, hs1, no "child" (by decide +kernel) (by decide +kernel) (by decide +kernel), _, rfl, c, _, _, .int i, rfl, rfl, SqL.of hc, at_of (j := 1) rfl rfl, _, rfl, c, _, _, .int y, rfl, rfl, SqL.of hc, at_of (j := 2) rfl rfl, sa, i, y, b, x, rfl, hS,
        fun d cc hth hy hcc => ⟨(by show 1 ≤ sizeLine; decide), fun p hp => ?_⟩, fun hno => kE (step_child_no hf hno) H (Kp.refl _ _)⟩
      exact k p _ _ (step_child hf hth hy hcc) hp (Kp.new hp) upd_same (by simp)
    | read i a m =>
      have ha0 : 0 ≤ a := by
        have hask : (Rc22Neutral.whole32 i && (Rc22Neutral.natural a 32 && Rc22Neutral.whole32 m)) = true := hask
        simp only [Bool.and_eq_true] at hask
        have := hask.2.1
        unfold Rc22Neutral.natural at this
        simp only [Bool.and_eq_true, decide_eq_true_eq] at this
        exact this.1
      refine ⟨_, rfl, c, _, _, .int 5, rfl, rfl, SqL.of hc, at_of (j := 0) rfl rfl, rfl, _, rfl, iteN (by decide) ?_⟩
      refine ⟨_, rfl, c, _, _, .int 5, rfl, rfl, SqL.of hc, at_of (j := 0) rfl rfl, rfl, _, rfl, iteN (by decide) ?_⟩
      refine ⟨_, rfl, c, _, _, .int 5, rfl, rfl, SqL.of hc, at_of (j := 0) rfl rfl, rfl, _, rfl, iteN (by decide) ?_⟩
      refine ⟨_, rfl, sa, dx, _, rfl, hs1, no "read" (by decide +kernel) (by decide +kernel) (by decide +kernel), _, rfl, c, _, _, .int i, rfl, rfl, SqL.of hc, at_of (j := 1) rfl rfl, _, rfl, c, _, _, .int a, rfl, rfl, SqL.of hc, at_of (j := 2) rfl rfl, _, rfl, c, _, _, .int m, rfl, rfl, SqL.of hc, at_of (j := 3) rfl rfl,
        sa, i, m, a.toNat, b, x, by rw [Int.toNat_of_nonneg ha0]; rfl, hS, fun d p H1 hth hk hp k1 hp1 hle => ?_, fun hno => kE (step_read_no hf hno) H (Kp.refl _ _)⟩
      refine k p _ H1 (step_read hf hth hk) hp k1 (by rw [iV_nat]; exact hp1) ?_
      rw [natZ_length, List.length_cons, nb_length]
      omega
structure Asked (t : Adr) (Hs H : Hp) (ho dx c : Addr) (v : V) (st : Rc22.Abs) (cl : List (List Int)) (l : List Int) : Prop where
  hh : H ho = some (.ins t.c_Holder dx (hof v))
  hs : Hs ho ≠ none
  old : ∀ b, H b = none → Hs b = none
  held : HeldAt t (nw Hs H) v st
  hc : H c = some (.lst (iV l))
  len : l.length ≤ 30000
  flat : Flat cl l
  ask : Rc22Neutral.asked1 (PyRc22.whole cl) = true
def AnsQ (t : Adr) (Hs H : Hp) (ho dx : Addr) (st : Rc22.Abs) (cl : List (List Int)) (Q : VK) : Prop :=
  ∀ (p : Addr) (st' : Rc22.Abs) (ans : List Int) (v' : V) (H' : Hp), Rc22Neutral.step st (PyRc22.whole cl) = (st', ans) → H p = none → Kp [ho] H H' → H' ho = some (.ins t.c_Holder dx (hof v')) → HeldAt t (nw Hs H') v' st' → H' p = some (.lst (iV ans)) → ans.length ≤ 40001 → Q (.ref p) H'
def spAnsOf (t : Adr) : Sp := fun vs H Q E => ∃ (Hs : Hp) (ho dx c : Addr) (v : V) (st : Rc22.Abs) (cl : List (List Int)) (l : List Int), vs = [.ref ho, .ref c] ∧ Asked t Hs H ho dx c v st cl l ∧ AnsQ t Hs H ho dx st cl Q ∧
  (∀ (C : Addr) (a : Int) (H' : Hp), (C = t.x_NothingHeld ∧ a = -4) ∨ ((C = t.x_NotAStore ∨ C = t.x_NotThere) ∧ a = -1) → Rc22Neutral.step st (PyRc22.whole cl) = (st, [a]) → Kp [] H H' → E (.ref C) none H')
set_option maxHeartbeats 1000000 in
theorem ok_answer_of (T : Txt K mg t) : FnOk P w K mg base (CXE P w) 10 t.a_answer_of t.d_answer_of ["holder", "call"] (spAnsOf t) := by
  refine T.F_answer_of.okX sc_answer_of (fun vs H Q E h => ?_) (fun cdv A outer s H vs Q E hr h => ?_)
  · obtain ⟨Hs, ho, dx, c, v, st, cl, l, rfl, _⟩ := h
    rfl
  · obtain ⟨Hs, ho, dx, c, v, st, cl, l, rfl, hK, k, kE⟩ := h
    obtain ⟨hh, hso, old, held, hc, hll, hF, hask⟩ := hK
    obtain ⟨u1, hu1, ru1⟩ := T.k_BEGIN_CALL
    obtain ⟨u2, hu2, ru2⟩ := T.k_OPEN_CALL
    have hr1 : Room 1 _ := hr.mono (by decide)
    have hr5 : Room 5 _ := hr.mono (by decide)
    refine ⟨_, pss_cons (ps_if (pt_cmpR op_eq (pe_ix ix_list (pv 1) pe_int (fun _ _ => rfl)) (pe_glob rfl hu1 ru1) (nomark _)) (pss_one (ps_ret (pe_lst (pa_cons (pe_meth0 (pv 0) T.cl_Holder T.m_Holder_begin (ok_begin T) hr1 T.b_Holder_begin .nil pass0) pa_nil)))) pss_nil)
      (pss_cons (ps_if (pt_cmpR op_eq (pe_ix ix_list (pv 1) pe_int (fun _ _ => rfl)) (pe_glob rfl hu2 ru2) (nomark _)) (pss_one (ps_ret (pe_lst (pa_cons (pe_meth (pv 0) T.cl_Holder T.m_Holder_take_file (ok_take_file T) hr T.b_Holder_take_file .nil passX (pa_cons (pe_slice sl_list (pv 1) (po_some pe_int) po_none) pa_nil)) pa_nil)))) pss_nil)
      (pss_one (ps_ret (pe_call (ok_answer_of_store T) hr5 rfl T.g_answer_of_store T.F_answer_of_store.kp T.b_answer_of_store .nil passX (pa_cons (pe_meth0 (pv 0) T.cl_Holder T.m_Holder_held (ok_held T) hr1 T.b_Holder_held .nil passX) (pa_cons (pv 1) pa_nil)))))), ?_⟩
    have nco : c ≠ ho := ne_of hc hh (by intro z; cases z)
    have rest : (∀ z, l[0]? = some z → 2 ≤ z) → tRet (tCall (spAnsStore t) [] E (tCons (tMeth t.c_Holder "held" (spHeldS t) [] E (tVar 0) tNil) (tCons (tVar 1) tNil))) { nx := fun _ H' => Q .non H', rt := Q } (L2.start N_answer_of [V.ref ho, V.ref c]) H := fun h2 => by
      refine ⟨_, rfl, ho, dx, _, rfl, hh, hof_no v (by decide +kernel), ho, dx, v, rfl, hh, fun hv => ?_, fun hv => ?_⟩
      · rcases held with ⟨h1, _⟩ | ⟨s1, b, x, _, h1, _⟩
        · exact kE _ _ H (.inl ⟨rfl, rfl⟩) (step_none hF h2 h1) (Kp.refl _ _)
        · rw [hv] at h1; cases h1
      · rcases held with ⟨_, h1⟩ | ⟨s1, b, x, h1, rfl, hS⟩
        · exact absurd h1 hv
        · refine ⟨_, rfl, s1, c, b, x, st, cl, l, rfl, hS.keep nw_le, h1, hc, hll, hF, hask, h2, fun p ans H1 hst hp k1 hp1 hal => ?_, fun hst H1 k1 => kE _ _ H1 (.inr ⟨.inr rfl, rfl⟩) hst k1⟩
          exact k p st ans _ H1 hst hp (k1.mono (by simp)) (k1.nil hh) (.inr ⟨s1, b, x, h1, rfl, hS.keep (nw_mono k1)⟩) hp1 hal
    cases hF with
    | begin =>
      refine ⟨_, rfl, c, _, _, .int 0, rfl, rfl, SqL.of hc, at_of (j := 0) rfl rfl, rfl, _, rfl, iteD (by decide) ?_⟩
      refine ⟨_, rfl, ho, dx, _, rfl, hh, hof_no v (by decide +kernel), ho, dx, v, rfl, hh, (by show 1 ≤ sizeLine; decide), fun p hp => ?_⟩
      have nph : p ≠ ho := (ne_of_none upd_same hp).symm
      have hp0 : H p = none := by rw [upd_ne nph] at hp; exact hp
      refine k p {} [0] .non _ step_begin hp0 ((Kp.old (by simp)).trans (Kp.new hp)) (by rw [upd_ne nph.symm, upd_same]) (.inl ⟨rfl, rfl⟩) upd_same (by simp)
    | open_ a =>
      have hb8 : (a.all fun z => Rc22Neutral.natural z 8) = true := by
        have hask : ((a.all (fun (z : Int) => Rc22Neutral.natural z 8) && Rc22Neutral.long a (a.length : Int) 1 1048576) && Rc22Neutral.whole32 (a.length : Int) && (decide ((a.length : Int) ≤ 65536) || decide (1048576 < (a.length : Int)))) = true := hask
        simp only [Bool.and_eq_true] at hask
        exact hask.1.1.1
      have hal : a.length ≤ 30000 := by simp at hll; omega
      refine ⟨_, rfl, c, _, _, .int 1, rfl, rfl, SqL.of hc, at_of (j := 0) rfl rfl, rfl, _, rfl, iteN (by decide) ?_⟩
      refine ⟨_, rfl, c, _, _, .int 1, rfl, rfl, SqL.of hc, at_of (j := 0) rfl rfl, rfl, _, rfl, iteD (by decide) ?_⟩
      refine ⟨_, rfl, ho, dx, _, rfl, hh, hof_no v (by decide +kernel), _, rfl, _, rfl, c, _, rfl, SqL.of hc, fun pa hpa => ?_⟩
      have ecut : cutV (iV (1 :: (a.length : Int) :: a)) (some 2) none = nV (nb (Rc22Neutral.bytesOf a)) := by
        rw [show (2 : Int) = ((2 : Nat) : Int) from rfl, cut_from]
        exact asked_bytes (n := 0) hb8
      rw [ecut]
      have k0 : Kp [] H (upd H pa (.lst (nV (nb (Rc22Neutral.bytesOf a))))) := Kp.new hpa
      refine ⟨ho, dx, pa, v, Rc22Neutral.bytesOf a, rfl, k0.nil hh, upd_same, by rw [bytes_len]; omega, fun x s1 H1 h1 hx k1 hh1 hS => ?_, fun hno H1 k1 => ?_⟩
      · refine ⟨(by show 1 ≤ sizeLine; decide), fun p hp => ?_⟩
        rw [bytes_len] at h1
        have k2 : Kp [ho] H H1 := (k0.mono (by simp)).trans k1
        have nph : p ≠ ho := (ne_of_none hh1 hp).symm
        refine k p _ [0] (.ref s1) _ (step_open h1 (by omega) hx) (k2.free hp (by simpa using nph)) (k2.trans (Kp.new hp)) (by rw [upd_ne nph.symm]; exact hh1) (.inr ⟨s1, _, x, rfl, rfl, hS.keep (nw_kpg (ls := []) (fun y hy => old y (k0.nfree hy)) (Kp.new hp) (by simp))⟩) upd_same (by simp)
      · rw [bytes_len] at hno
        exact kE _ _ H1 (.inr ⟨.inl rfl, rfl⟩) (step_open_no hno) (k0.trans k1)
    | find a =>
      refine ⟨_, rfl, c, _, _, .int 2, rfl, rfl, SqL.of hc, at_of (j := 0) rfl rfl, rfl, _, rfl, iteN (by decide) ?_⟩
      refine ⟨_, rfl, c, _, _, .int 2, rfl, rfl, SqL.of hc, at_of (j := 0) rfl rfl, rfl, _, rfl, iteN (by decide) ?_⟩
      exact rest fun z hz => by have : (2 : Int) = z := Option.some.inj hz; omega
    | item i =>
      refine ⟨_, rfl, c, _, _, .int 3, rfl, rfl, SqL.of hc, at_of (j := 0) rfl rfl, rfl, _, rfl, iteN (by decide) ?_⟩
      refine ⟨_, rfl, c, _, _, .int 3, rfl, rfl, SqL.of hc, at_of (j := 0) rfl rfl, rfl, _, rfl, iteN (by decide) ?_⟩
      exact rest fun z hz => by have : (3 : Int) = z := Option.some.inj hz; omega
    | child i y =>
      refine ⟨_, rfl, c, _, _, .int 4, rfl, rfl, SqL.of hc, at_of (j := 0) rfl rfl, rfl, _, rfl, iteN (by decide) ?_⟩
      refine ⟨_, rfl, c, _, _, .int 4, rfl, rfl, SqL.of hc, at_of (j := 0) rfl rfl, rfl, _, rfl, iteN (by decide) ?_⟩
      exact rest fun z hz => by have : (4 : Int) = z := Option.some.inj hz; omega
    | read i a m =>
      refine ⟨_, rfl, c, _, _, .int 5, rfl, rfl, SqL.of hc, at_of (j := 0) rfl rfl, rfl, _, rfl, iteN (by decide) ?_⟩
      refine ⟨_, rfl, c, _, _, .int 5, rfl, rfl, SqL.of hc, at_of (j := 0) rfl rfl, rfl, _, rfl, iteN (by decide) ?_⟩
      exact rest fun z hz => by have : (5 : Int) = z := Option.some.inj hz; omega
def spAnsR (t : Adr) : Sp := fun vs H Q E => ∃ (Hs : Hp) (ho dx c : Addr) (v : V) (st : Rc22.Abs) (cl : List (List Int)) (l : List Int), vs = [.ref ho, .ref c] ∧ Asked t Hs H ho dx c v st cl l ∧ AnsQ t Hs H ho dx st cl Q
theorem ok_answer_or_refusal (T : Txt K mg t) : FnOk P w K mg base (CXE P w) 11 t.a_answer_or_refusal t.d_answer_or_refusal ["holder", "call"] (spAnsR t) := by
  refine T.F_answer_or_refusal.okX sc_answer_or_refusal (fun vs H Q E h => ?_) (fun cdv A outer s H vs Q E hr h => ?_)
  · obtain ⟨Hs, ho, dx, c, v, st, cl, l, rfl, _⟩ := h
    rfl
  · obtain ⟨Hs, ho, dx, c, v, st, cl, l, rfl, hK, k⟩ := h
    refine ⟨_, pss_one (ps_tryCall rfl rfl rfl (ok_answer_of T) hr rfl T.g_answer_of T.F_answer_of.kp T.b_answer_of (fun _ => pa_cons (pv 0) (pa_cons (pv 1) pa_nil))
      (ph_cons (fun _ => PassesOwnAt.leaving) rfl T.g_NothingHeld (fun _ => pss_one (ps_ret (pe_lst (pa_cons (pe_un un_neg pe_int) pa_nil))))
      (ph_cons (fun _ => PassesOwnAt.leaving) rfl T.g_NotAStore (fun _ => pss_one (ps_ret (pe_lst (pa_cons (pe_un un_neg pe_int) pa_nil))))
      (ph_cons (fun _ => PassesOwnAt.leaving) rfl T.g_NotThere (fun _ => pss_one (ps_ret (pe_lst (pa_cons (pe_un un_neg pe_int) pa_nil)))) ph_nil)))), ?_⟩
    have fin : ∀ (a : Int) (H' : Hp), Rc22Neutral.step st (PyRc22.whole cl) = (st, [a]) → Kp [] H H' → ∀ p, H' p = none → Q (.ref p) (upd H' p (.lst [V.int a])) := fun a H' hst k1 p hp =>
      k p st [a] v _ hst (k1.nfree hp) ((k1.trans (Kp.new hp)).mono (by simp)) ((k1.trans (Kp.new hp)).nil hK.hh) (hK.held.keep (nw_mono (k1.trans (Kp.new hp)))) upd_same (by simp)
    refine ⟨_, rfl, _, rfl, Hs, ho, dx, c, v, st, cl, l, rfl, hK, k, fun C a H' hC hst k1 => ?_⟩
    rcases hC with ⟨rfl, rfl⟩ | ⟨rfl | rfl, rfl⟩
    · exact ⟨true, T.q_NothingHeld_NothingHeld, iteT ⟨_, rfl, (by show 1 ≤ sizeLine; decide), fun p hp => fin _ H' hst k1 p hp⟩⟩
    · exact ⟨false, T.q_NotAStore_NothingHeld, iteF ⟨true, T.q_NotAStore_NotAStore, iteT ⟨_, rfl, (by show 1 ≤ sizeLine; decide), fun p hp => fin _ H' hst k1 p hp⟩⟩⟩
    · exact ⟨false, T.q_NotThere_NothingHeld, iteF ⟨false, T.q_NotThere_NotAStore, iteF ⟨true, T.q_NotThere_NotThere, iteT ⟨_, rfl, (by show 1 ≤ sizeLine; decide), fun p hp => fin _ H' hst k1 p hp⟩⟩⟩⟩
theorem put_append (a b : List (List (List Int))) : PyFlat.put (a ++ b) = PyFlat.put a ++ PyFlat.put b := by
  induction a with
  | nil => rfl
  | cons c a ih =>
    rw [List.cons_append, PyFlat.put, PyFlat.put, ih, List.append_assoc]
theorem cut_ints (ns : List Int) (i j : Nat) : cutV (iV ns) (some (i : Int)) (some (j : Int)) = iV ((ns.drop i).take (j - i)) := by
  rw [cut_nat]
  show ((ns.map V.int).drop i).take (j - i) = _
  rw [← List.map_drop, ← List.map_take]
theorem ok_answers (T : Txt K mg t) : FnOk P w K mg base (CXE P w) 40 t.a_answers t.d_answers ["calls"] (spAnswers K) := by
  refine T.F_answers.okX sc_answers (fun vs H Q E h => ?_) (fun cdv A outer s H vs Q E hr h => ?_)
  · obtain ⟨a, ns, rfl, _⟩ := h
    rfl
  · obtain ⟨a, ns, rfl, hA, hlen, hask, k⟩ := h
    obtain ⟨cs, rfl, hflat, hak, hcs, hans⟩ := asked_iff hask
    rw [hans] at k
    have hsz : sizeLine = 16777216 := sizeLine_eq
    have hr1 : Room 1 _ := hr.mono (by decide)
    have hr2 : Room 2 _ := hr.mono (by decide)
    have hr11 : Room 11 _ := hr.mono (by decide)
    refine ⟨_, pss_cons (ps_set (i := 1) sc_answers.nd rfl (Or.inl rfl) (pe_make0 T.mk_Holder (ok_Holder_init T) hr2 rfl T.g_Holder T.b_Holder_init .nil pass0))
      (pss_cons (ps_set (i := 2) sc_answers.nd rfl (Or.inl rfl) (pe_lst pa_nil))
      (pss_cons (ps_set (i := 3) sc_answers.nd rfl (Or.inl rfl) pe_int)
      (pss_cons (ps_while passOwn (pt_cmpR op_lt (pv 3) (pe_callB call_len_seq (by rfl) T.z_len PySem.boot_len (pa_cons (pv 0) pa_nil)) (nomark _))
        (pss_cons (ps_set (i := 4) sc_answers.nd rfl (Or.inl rfl) (pe_call (ok_end_of_call T) hr1 rfl T.g_end_of_call T.F_end_of_call.kp T.b_end_of_call .nil pass0 (pa_cons (pv 0) (pa_cons (pv 3) pa_nil))))
        (pss_cons (ps_set (i := 5) sc_answers.nd rfl (Or.inl rfl) (pe_call (ok_answer_or_refusal T) hr11 rfl T.g_answer_or_refusal T.F_answer_or_refusal.kp T.b_answer_or_refusal .nil passX (pa_cons (pv 1) (pa_cons (pe_slice sl_list (pv 0) (po_some (pv 3)) (po_some (pv 4))) pa_nil))))
        (pss_cons (ps_expr (pe_bm PySem.F.plainAttrs_list PySem.F.slot_list_append PySem.F.type_list_append mt_append (pv 2) (pa_cons (pe_callB call_len_seq (by rfl) T.z_len PySem.boot_len (pa_cons (pv 5) pa_nil)) pa_nil)))
        (pss_cons (ps_expr (pe_bm PySem.F.plainAttrs_list PySem.F.slot_list_extend PySem.F.type_list_extend mt_extend (pv 2) (pa_cons (pv 5) pa_nil)))
        (pss_one (ps_set (i := 3) sc_answers.nd rfl (Or.inl rfl) (pv 4))))))))
      (pss_one (ps_ret (pv 2)))))), ?_⟩
    refine fun ho dx nho ndx nex => ⟨ho, dx, rfl, upd_same, ⟨rfl, ?_⟩⟩
    rw [upd_upd]
    have k1 : Kp [] H (upd (upd H dx (.own ho)) ho (.ins t.c_Holder dx (hof .non))) := fun x o e _ => by
      rw [upd_ne (ne_of_none e nho), upd_ne (ne_of_none e ndx)]; exact e
    have hh1 : (upd (upd H dx (.own ho)) ho (.ins t.c_Holder dx (hof .non))) ho = some (.ins t.c_Holder dx (hof .non)) := upd_same
    generalize upd (upd H dx (.own ho)) ho (.ins t.c_Holder dx (hof .non)) = H1 at k1 hh1 ⊢
    refine ⟨(by show 0 ≤ sizeLine; decide), fun an han => ?_⟩
    have kn : Kp [] H1 (upd H1 an (.lst [])) := Kp.new han
    have nha : ho ≠ an := ne_of_none hh1 han
    have hh2 := kn.nil hh1
    have ha2 : (upd H1 an (.lst [])) an = some (.lst []) := upd_same
    have hanH : H an = none := k1.nfree han
    have k2 : Kp [] H (upd H1 an (.lst [])) := k1.trans kn
    generalize upd H1 an (.lst []) = Hs at kn hh2 ha2 k2 ⊢
    refine ⟨fun n σ H3 => ∃ (don rst : List (List (List Int))) (st : Rc22.Abs) (v : V) (acc : List Int) (x4 x5 : Option V), n = rst.length ∧ σ = [some (.ref a), some (.ref ho), some (.ref an), some (.int ((PyFlat.put don).length : Nat)), x4, x5] ∧ cs = don ++ rst ∧
      Kp [ho, an] Hs H3 ∧ H3 ho = some (.ins t.c_Holder dx (hof v)) ∧ H3 an = some (.lst (iV acc)) ∧ acc.length ≤ 40002 * don.length ∧ HeldAt t (nw Hs H3) v st ∧
      PyFlat.told (PyFlat.played Rc22Neutral.step Rc22Neutral.start (cs.map PyRc22.whole)) = acc ++ PyFlat.told (PyFlat.played Rc22Neutral.step st (rst.map PyRc22.whole)),
      ⟨_, [], cs, {}, .non, [], none, none, rfl, rfl, rfl, Kp.refl _ _, hh2, ha2, Nat.le_refl _, .inl ⟨rfl, rfl⟩, rfl⟩, ?_⟩
    rintro n σ H3 ⟨don, rst, st, v, acc, x4, x5, rfl, rfl, hsp, k3, hh3, ha3, hal, hheld, htold⟩
    have kH3 : Kp [] H H3 := fun x o e _ => k3 x o (k2.nil e) (by simp [ne_of_none e nho, ne_of_none e hanH])
    have hA3 : SqL K H3 a (iV (PyFlat.put cs)) := kH3.sq hA
    have hdl : don.length ≤ 300 := by rw [hsp, List.length_append] at hcs; omega
    refine ⟨_, rfl, _, rfl, a, _, rfl, .inl hA3, _, _, rfl, rfl, _, rfl, ?_⟩
    rw [iV_length]
    have hput : PyFlat.put cs = PyFlat.put don ++ PyFlat.put rst := by rw [hsp, put_append]
    cases rst with
    | nil =>
      have e : decide ((((PyFlat.put don).length : Nat) : Int) < (((PyFlat.put cs).length : Nat) : Int)) = false := decide_eq_false (by rw [hput]; simp [PyFlat.put])
      rw [e]
      refine iteF ⟨_, rfl, k an H3 ?_⟩
      rw [htold]
      simpa [PyFlat.played, PyFlat.told] using ha3
    | cons c rst =>
      have hcm : c ∈ cs := by rw [hsp]; simp
      have hF := hflat c hcm
      have hca := hak c hcm
      have hput2 : PyFlat.put cs = PyFlat.put don ++ (PyFlat.put1 c ++ PyFlat.put rst) := by rw [hput]; rfl
      obtain ⟨_, _, _, _, _, hpos, _⟩ := flat_head hF
      have e : decide ((((PyFlat.put don).length : Nat) : Int) < (((PyFlat.put cs).length : Nat) : Int)) = true := decide_eq_true (by rw [hput2]; simp only [List.length_append]; omega)
      rw [e]
      refine iteT ⟨_, fun σ' H' z => z, ?_⟩
      have hdrop : (PyFlat.put cs).drop (PyFlat.put don).length = PyFlat.put1 c ++ PyFlat.put rst := by rw [hput2, List.drop_left]
      refine ⟨_, rfl, _, rfl, a, PyFlat.put cs, PyFlat.put1 c, PyFlat.put rst, c, (PyFlat.put don).length, rfl, hA3, hdrop, hF, fun H4 k4 => ?_⟩
      have hA4 : SqL K H4 a (iV (PyFlat.put cs)) := k4.sq hA3
      refine ⟨_, rfl, _, rfl, _, rfl, _, rfl, _, rfl, _, rfl, a, _, rfl, hA4, fun ca hca0 => ?_⟩
      rw [cut_ints, hdrop]
      have etake : (PyFlat.put1 c ++ PyFlat.put rst).take ((PyFlat.put don).length + (PyFlat.put1 c).length - (PyFlat.put don).length) = PyFlat.put1 c := by
        rw [Nat.add_sub_cancel_left, List.take_left]
      rw [etake]
      have k5 : Kp [] H3 (upd H4 ca (.lst (iV (PyFlat.put1 c)))) := k4.trans (Kp.new hca0)
      have hc5 : (upd H4 ca (.lst (iV (PyFlat.put1 c)))) ca = some (.lst (iV (PyFlat.put1 c))) := upd_same
      generalize upd H4 ca (.lst (iV (PyFlat.put1 c))) = H5 at k5 hc5 ⊢
      have k5s : Kp [ho, an] Hs H5 := k3.trans (k5.mono (by simp))
      have old : ∀ y, H5 y = none → Hs y = none := fun y hy => k5s.free hy (by
        have h1 : y ≠ ho := (ne_of_none (k5.nil hh3) hy).symm
        have h2 : y ≠ an := (ne_of_none (k5.nil ha3) hy).symm
        simp [h1, h2])
      have hcl : (PyFlat.put1 c).length ≤ 30000 := by
        rw [hput2] at hlen
        simp only [List.length_append] at hlen
        omega
      refine ⟨Hs, ho, dx, ca, v, st, c, PyFlat.put1 c, rfl, ⟨k5.nil hh3, by rw [hh2]; simp, old, hheld.keep (nw_mono k5), hc5, hcl, hF, hca⟩, fun p st' ans v' H6 hst hp k6 hh6 hheld6 hp6 hal6 => ?_⟩
      have ha6 : H6 an = some (.lst (iV acc)) := k6.at (k5.nil ha3) (by simpa using nha.symm)
      have npa : p ≠ an := (ne_of_none (k5.nil ha3) hp).symm
      have npo : p ≠ ho := (ne_of_none (k5.nil hh3) hp).symm
      have hacc : acc.length ≤ 12000600 := by omega
      refine ⟨_, rfl, .inl ⟨rfl, _, SqL.of ha6⟩, _, rfl, p, _, rfl, .inl (SqL.of hp6), an, _, _, rfl, rfl, ha6, by rw [iV_length]; omega, ?_⟩
      rw [iV_length]
      refine ⟨_, rfl, .inl ⟨rfl, _, SqL.of upd_same⟩, _, rfl, an, p, _, _, rfl, rfl, upd_same, by rw [upd_ne npa]; exact hp6, ?_, ?_⟩
      · simp only [iV_length, List.length_append, List.length_cons, List.length_nil]
        omega
      rw [upd_upd]
      have k7 : Kp [an] H6 (upd H6 an (.lst (iV acc ++ [V.int (ans.length : Nat)] ++ iV ans))) := Kp.old (by simp)
      refine ⟨_, rfl, rst.length, by simp, don ++ [c], rst, st', v', acc ++ ((ans.length : Int) :: ans), some (.int (((PyFlat.put don).length + (PyFlat.put1 c).length : Nat) : Int)), some (.ref p), rfl, ?_, by rw [hsp]; simp, (k5s.trans (k6.mono (by simp))).trans (k7.mono (by simp)), ?_, ?_, ?_, ?_, ?_⟩
      · have e2 : (PyFlat.put (don ++ [c])).length = (PyFlat.put don).length + (PyFlat.put1 c).length := by
          rw [put_append, List.length_append]
          simp [PyFlat.put]
        rw [e2]
        rfl
      · rw [upd_ne nha]; exact hh6
      · rw [upd_same]
        refine congrArg (fun z => some (HO.lst z)) ?_
        simp [iV]
      · simp only [List.length_append, List.length_cons, List.length_nil]
        omega
      · exact hheld6.keep (nw_kpg (ls := [an]) (fun _ h => h) k7 (by simp [ha2]))
      · rw [htold, List.map_cons, played_cons, hst, List.append_assoc]
theorem binds_answers (T : Txt K mg t) (s : Shared) (u : Value) : BindsTo s t.d_answers ⟨[u], []⟩ [("calls", u)] := by
  obtain ⟨oc, od, kV, doc, pm, an, cdv, ct, osl, e, _, _⟩ := T.F_answers.ex
  rw [e]
  exact .of_eq rfl
end
end FT
/- Names that stand already: so the head lays no twin of these objects of its own (a twin's equation is as long as the square of how many objects there are). -/
namespace PySem.W.Fast
def tw10051123116264742482:=0
def tw10215661958837073367:=0
def tw10716920513800661893:=0
def tw10753244112255216182:=0
def tw10795642780738492352:=0
def tw11022746744006878677:=0
def tw11053945253888448006:=0
def tw11547762811729606009:=0
def tw12086770175498537942:=0
def tw12122454065602996296:=0
def tw12296024371258857103:=0
def tw12719556331458081864:=0
def tw12761624300560163584:=0
def tw13034313092609851677:=0
def tw13223045753077041762:=0
def tw13289999222119226379:=0
def tw1338484451230200800:=0
def tw13417235153674794697:=0
def tw13450063259893462222:=0
def tw1377846662952064121:=0
def tw1400448417939827949:=0
def tw14064748309471631657:=0
def tw14359161604143847296:=0
def tw14376338848709096720:=0
def tw14432956338749610672:=0
def tw14477812143667487820:=0
def tw14619443392293280915:=0
def tw14665513982090620206:=0
def tw14670621359807043684:=0
def tw14707268170287196776:=0
def tw1477960945646150358:=0
def tw14849615873831209144:=0
def tw14911810902104235134:=0
def tw15059413814670036653:=0
def tw15170489412559422443:=0
def tw1521602269685388963:=0
def tw15272195576823115889:=0
def tw15279469070094234843:=0
def tw15549047103429059803:=0
def tw15818083875777171233:=0
def tw15986637402015972749:=0
def tw16399119100749563773:=0
def tw16616942289328985305:=0
def tw16774948097347570531:=0
def tw16837174616208840124:=0
def tw16860213830833240348:=0
def tw1704162189391064355:=0
def tw17117398834113386837:=0
def tw17209227512434148328:=0
def tw17603626428930944761:=0
def tw17677884145560877269:=0
def tw17763097793447312904:=0
def tw18028857818999420346:=0
def tw18036418250988497919:=0
def tw18113863587174725953:=0
def tw18334877918137404040:=0
def tw18408017726924256329:=0
def tw1923920283051375299:=0
def tw1967541596191746834:=0
def tw2211862697694366674:=0
def tw221935677520908292:=0
def tw2410100838106671131:=0
def tw2421695688894706367:=0
def tw2680705497239177555:=0
def tw271499797922799154:=0
def tw2967375594788006934:=0
def tw298654336606853071:=0
def tw3107935498184587811:=0
def tw3150734629493587549:=0
def tw3184832530374847953:=0
def tw3435691474035069086:=0
def tw3470861832323264861:=0
def tw3614438972370844119:=0
def tw3853694038348416628:=0
def tw3906441598286885648:=0
def tw3973182768773499064:=0
def tw417097377032104114:=0
def tw4199540879201902213:=0
def tw4369228784354168063:=0
def tw451942492038116464:=0
def tw4544262058932913858:=0
def tw4676474008826258069:=0
def tw4843330574961170513:=0
def tw5246271183095797569:=0
def tw5265758811844033269:=0
def tw5479721442999381475:=0
def tw568172673263447940:=0
def tw6234289898070177720:=0
def tw6250171293543114175:=0
def tw6549595200955125402:=0
def tw6612585724845137860:=0
def tw6656622198543157404:=0
def tw6767599792232920876:=0
def tw6826175225500795562:=0
def tw6988665156084402945:=0
def tw703604514289485145:=0
def tw7150651237041309710:=0
def tw7163345869852288429:=0
def tw7168605914983924562:=0
def tw7171542890307854007:=0
def tw7257658685230679050:=0
def tw7556016896264175116:=0
def tw7741113002338637464:=0
def tw7791356457157526707:=0
def tw7919322451084646382:=0
def tw7934204852844251213:=0
def tw8296776286461174753:=0
def tw8320430908982845469:=0
def tw8661051267901613224:=0
def tw8991941759617541746:=0
def tw9257197018833829242:=0
def tw9306052047103834745:=0
def tw936495023452952444:=0
def tw9431586490502578365:=0
def tw9486469957142484438:=0
def tw9518245818763639174:=0
def tw976213825519322755:=0
def tw9964299614862685275:=0
end PySem.W.Fast
open PySem
set_option maxHeartbeats 20000000
theorem PySem.Challenge.cw_filevault_s01_answers_holds : PySem.Challenge.rw_filevault_s01_answers.Holds := by
  w_on; k_headS; (case hw => exact ⟨[.list []], by decide +kernel, by decide +kernel⟩)
  k_fillS
  refine L2.walkS (k := 40) (x := "calls") rfl ⟨rfl, by decide, by decide⟩ (fun w h Y => PySem.W.kIn_of Y) ?F
  case F =>
    intro w mg fa h KX G hmg
    have T : ∃ t : FT.Adr, t.a_answers = fa ∧ FT.Txt (L2.KOf KX) mg t := by
      dsimp only [L2.KOf]
      refine' FT.same KX G hmg (FT.txt_mk KX G ?U0 ?U1 ?U2 ?U3 ?U4 ?X0 ?X1 ?X2 ?G0 ?L0 ?C0 ?K0 ?G1 ?L1 ?C1 ?K1 ?G2 ?L2 ?C2 ?K2 ?G3 ?L3 ?C3 ?K3 ?G4 ?L4 ?C4 ?K4 ?G5 ?L5 ?C5 ?K5 ?G6 ?L6 ?C6 ?K6 ?G7 ?L7 ?C7 ?K7 ?F8 ?I8 ?L8 ?C8 ?K8 ?F9 ?I9 ?L9 ?C9 ?K9 ?F10 ?I10 ?L10 ?C10 ?K10 ?G11 ?L11 ?C11 ?K11 ?G12 ?L12 ?C12 ?K12 ?G13 ?L13 ?C13 ?K13 ?G14 ?L14 ?C14 ?K14 ?G15 ?L15 ?C15 ?K15 ?G16 ?L16 ?C16 ?K16 ?G17 ?L17 ?C17 ?K17 ?F18 ?I18 ?L18 ?C18 ?K18 ?G19 ?L19 ?C19 ?K19 ?G20 ?L20 ?C20 ?K20 ?G21 ?L21 ?C21 ?K21 ?G22 ?L22 ?C22 ?K22 ?G23 ?L23 ?C23 ?K23 ?G24 ?L24 ?C24 ?K24 ?G25 ?L25 ?C25 ?K25 ?G26 ?L26 ?C26 ?K26 ?G27 ?L27 ?C27 ?K27 ?F28 ?I28 ?L28 ?C28 ?K28 ?G29 ?L29 ?C29 ?K29 ?G30 ?L30 ?C30 ?K30 ?G31 ?L31 ?C31 ?K31 ?G32 ?L32 ?C32 ?K32 ?G33 ?L33 ?C33 ?K33 ?G34 ?L34 ?C34 ?K34 ?G35 ?L35 ?C35 ?K35 ?G36 ?L36 ?C36 ?K36 ?G37 ?L37 ?C37 ?K37 ?G38 ?L38 ?C38 ?K38 ?F39 ?I39 ?L39 ?C39 ?K39 ?F40 ?I40 ?L40 ?C40 ?K40 ?F41 ?I41 ?L41 ?C41 ?K41 ?F42 ?I42 ?L42 ?C42 ?K42 ?F43 ?I43 ?L43 ?C43 ?K43 ?F44 ?I44 ?L44 ?C44 ?K44 ?F45 ?I45 ?L45 ?C45 ?K45 ?G46 ?L46 ?C46 ?K46 ?F47 ?I47 ?L47 ?C47 ?K47 ?F48 ?I48 ?L48 ?C48 ?K48 ?F49 ?I49 ?L49 ?C49 ?K49 ?F50 ?I50 ?L50 ?C50 ?K50 ?G51 ?L51 ?C51 ?K51 ?G52 ?L52 ?C52 ?K52 ?G53 ?L53 ?C53 ?K53 ?G54 ?L54 ?C54 ?K54 ?G55 ?L55 ?C55 ?K55 ?V0 ?W0 ?Y0 ?Z0 ?M0 ?N0 ?Q0_0 ?V1 ?W1 ?Y1 ?Z1 ?M1 ?N1 ?Q1_0 ?Q1_1 ?Q1_2 ?Q1_3 ?Q1_4 ?Q1_5 ?Q1_6 ?Q1_7 ?V2 ?W2 ?Y2 ?Z2 ?M2 ?N2 ?Q2_0 ?Q2_1 ?Q2_2 ?Q2_3 ?Q2_4 ?Q2_5 ?Q2_6 ?V3 ?W3 ?Y3 ?Z3 ?M3 ?N3 ?Q3_0 ?Q3_1 ?Q3_2 ?V4 ?W4 ?Y4 ?Z4 ?M4 ?N4 ?Q4_0 ?E0 ?E1 ?E2 ?H0_0 ?H0_1 ?H0_2 ?H1_0 ?H1_1 ?H1_2 ?H2_0 ?H2_1 ?H2_2 ?A0 ?A1 ?A2 ?A3 ?A4 ?A5 ?A6 ?B6 ?A7 ?A8 ?A9 ?A10 ?A11 ?A12 ?A13 ?A14 ?A15 ?B15 ?A16 ?A17 ?A18 ?A19 ?A20 ?A21 ?A22 ?A23 ?A24 ?B24 ?R0 ?R1 ?R2 ?R3 ?R4 ?R5 ?R6 ?R7) ?same
      (case U0 => k_is)
      (case U1 => k_is)
      (case U2 => k_is)
      (case U3 => k_is)
      (case U4 => k_is)
      (case X0 => k_is)
      (case X1 => k_is)
      (case X2 => k_is)
      (case G0 => k_is)
      (case L0 => k_is)
      (case C0 => k_is)
      (case K0 => k_is)
      (case G1 => k_is)
      (case L1 => k_is)
      (case C1 => k_is)
      (case K1 => k_is)
      (case G2 => k_is)
      (case L2 => k_is)
      (case C2 => k_is)
      (case K2 => k_is)
      (case G3 => k_is)
      (case L3 => k_is)
      (case C3 => k_is)
      (case K3 => k_is)
      (case G4 => k_is)
      (case L4 => k_is)
      (case C4 => k_is)
      (case K4 => k_is)
      (case G5 => k_is)
      (case L5 => k_is)
      (case C5 => k_is)
      (case K5 => k_is)
      (case G6 => k_is)
      (case L6 => k_is)
      (case C6 => k_is)
      (case K6 => k_is)
      (case G7 => k_is)
      (case L7 => k_is)
      (case C7 => k_is)
      (case K7 => k_is)
      (case F8 => k_is)
      (case I8 => k_is)
      (case L8 => k_is)
      (case C8 => k_is)
      (case K8 => k_is)
      (case F9 => k_is)
      (case I9 => k_is)
      (case L9 => k_is)
      (case C9 => k_is)
      (case K9 => k_is)
      (case F10 => k_is)
      (case I10 => k_is)
      (case L10 => k_is)
      (case C10 => k_is)
      (case K10 => k_is)
      (case G11 => k_is)
      (case L11 => k_is)
      (case C11 => k_is)
      (case K11 => k_is)
      (case G12 => k_is)
      (case L12 => k_is)
      (case C12 => k_is)
      (case K12 => k_is)
      (case G13 => k_is)
      (case L13 => k_is)
      (case C13 => k_is)
      (case K13 => k_is)
      (case G14 => k_is)
      (case L14 => k_is)
      (case C14 => k_is)
      (case K14 => k_is)
      (case G15 => k_is)
      (case L15 => k_is)
      (case C15 => k_is)
      (case K15 => k_is)
      (case G16 => k_is)
      (case L16 => k_is)
      (case C16 => k_is)
      (case K16 => k_is)
      (case G17 => k_is)
      (case L17 => k_is)
      (case C17 => k_is)
      (case K17 => k_is)
      (case F18 => k_is)
      (case I18 => k_is)
      (case L18 => k_is)
      (case C18 => k_is)
      (case K18 => k_is)
      (case G19 => k_is)
      (case L19 => k_is)
      (case C19 => k_is)
      (case K19 => k_is)
      (case G20 => k_is)
      (case L20 => k_is)
      (case C20 => k_is)
      (case K20 => k_is)
      (case G21 => k_is)
      (case L21 => k_is)
      (case C21 => k_is)
      (case K21 => k_is)
      (case G22 => k_is)
      (case L22 => k_is)
      (case C22 => k_is)
      (case K22 => k_is)
      (case G23 => k_is)
      (case L23 => k_is)
      (case C23 => k_is)
      (case K23 => k_is)
      (case G24 => k_is)
      (case L24 => k_is)
      (case C24 => k_is)
      (case K24 => k_is)
      (case G25 => k_is)
      (case L25 => k_is)
      (case C25 => k_is)
      (case K25 => k_is)
      (case G26 => k_is)
      (case L26 => k_is)
      (case C26 => k_is)
      (case K26 => k_is)
      (case G27 => k_is)
      (case L27 => k_is)
      (case C27 => k_is)
      (case K27 => k_is)
      (case F28 => k_is)
      (case I28 => k_is)
      (case L28 => k_is)
      (case C28 => k_is)
      (case K28 => k_is)
      (case G29 => k_is)
      (case L29 => k_is)
      (case C29 => k_is)
      (case K29 => k_is)
      (case G30 => k_is)
      (case L30 => k_is)
      (case C30 => k_is)
      (case K30 => k_is)
      (case G31 => k_is)
      (case L31 => k_is)
      (case C31 => k_is)
      (case K31 => k_is)
      (case G32 => k_is)
      (case L32 => k_is)
      (case C32 => k_is)
      (case K32 => k_is)
      (case G33 => k_is)
      (case L33 => k_is)
      (case C33 => k_is)
      (case K33 => k_is)
      (case G34 => k_is)
      (case L34 => k_is)
      (case C34 => k_is)
      (case K34 => k_is)
      (case G35 => k_is)
      (case L35 => k_is)
      (case C35 => k_is)
      (case K35 => k_is)
      (case G36 => k_is)
      (case L36 => k_is)
      (case C36 => k_is)
      (case K36 => k_is)
      (case G37 => k_is)
      (case L37 => k_is)
      (case C37 => k_is)
      (case K37 => k_is)
      (case G38 => k_is)
      (case L38 => k_is)
      (case C38 => k_is)
      (case K38 => k_is)
      (case F39 => k_is)
      (case I39 => k_is)
      (case L39 => k_is)
      (case C39 => k_is)
      (case K39 => k_is)
      (case F40 => k_is)
      (case I40 => k_is)
      (case L40 => k_is)
      (case C40 => k_is)
      (case K40 => k_is)
      (case F41 => k_is)
      (case I41 => k_is)
      (case L41 => k_is)
      (case C41 => k_is)
      (case K41 => k_is)
      (case F42 => k_is)
      (case I42 => k_is)
      (case L42 => k_is)
      (case C42 => k_is)
      (case K42 => k_is)
      (case F43 => k_is)
      (case I43 => k_is)
      (case L43 => k_is)
      (case C43 => k_is)
      (case K43 => k_is)
      (case F44 => k_is)
      (case I44 => k_is)
      (case L44 => k_is)
      (case C44 => k_is)
      (case K44 => k_is)
      (case F45 => k_is)
      (case I45 => k_is)
      (case L45 => k_is)
      (case C45 => k_is)
      (case K45 => k_is)
      (case G46 => k_is)
      (case L46 => k_is)
      (case C46 => k_is)
      (case K46 => k_is)
      (case F47 => k_is)
      (case I47 => k_is)
      (case L47 => k_is)
      (case C47 => k_is)
      (case K47 => k_is)
      (case F48 => k_is)
      (case I48 => k_is)
      (case L48 => k_is)
      (case C48 => k_is)
      (case K48 => k_is)
      (case F49 => k_is)
      (case I49 => k_is)
      (case L49 => k_is)
      (case C49 => k_is)
      (case K49 => k_is)
      (case F50 => k_is)
      (case I50 => k_is)
      (case L50 => k_is)
      (case C50 => k_is)
      (case K50 => k_is)
      (case G51 => k_is)
      (case L51 => k_is)
      (case C51 => k_is)
      (case K51 => k_is)
      (case G52 => k_is)
      (case L52 => k_is)
      (case C52 => k_is)
      (case K52 => k_is)
      (case G53 => k_is)
      (case L53 => k_is)
      (case C53 => k_is)
      (case K53 => k_is)
      (case G54 => k_is)
      (case L54 => k_is)
      (case C54 => k_is)
      (case K54 => k_is)
      (case G55 => k_is)
      (case L55 => k_is)
      (case C55 => k_is)
      (case K55 => k_is)
      (case V0 => k_is)
      (case W0 => k_is)
      (case Y0 => k_is)
      (case Z0 => k_is)
      (case M0 => k_is)
      (case N0 => k_is)
      (case Q0_0 => k_is)
      (case V1 => k_is)
      (case W1 => k_is)
      (case Y1 => k_is)
      (case Z1 => k_is)
      (case M1 => k_is)
      (case N1 => k_is)
      (case Q1_0 => k_is)
      (case Q1_1 => k_is)
      (case Q1_2 => k_is)
      (case Q1_3 => k_is)
      (case Q1_4 => k_is)
      (case Q1_5 => k_is)
      (case Q1_6 => k_is)
      (case Q1_7 => k_is)
      (case V2 => k_is)
      (case W2 => k_is)
      (case Y2 => k_is)
      (case Z2 => k_is)
      (case M2 => k_is)
      (case N2 => k_is)
      (case Q2_0 => k_is)
      (case Q2_1 => k_is)
      (case Q2_2 => k_is)
      (case Q2_3 => k_is)
      (case Q2_4 => k_is)
      (case Q2_5 => k_is)
      (case Q2_6 => k_is)
      (case V3 => k_is)
      (case W3 => k_is)
      (case Y3 => k_is)
      (case Z3 => k_is)
      (case M3 => k_is)
      (case N3 => k_is)
      (case Q3_0 => k_is)
      (case Q3_1 => k_is)
      (case Q3_2 => k_is)
      (case V4 => k_is)
      (case W4 => k_is)
      (case Y4 => k_is)
      (case Z4 => k_is)
      (case M4 => k_is)
      (case N4 => k_is)
      (case Q4_0 => k_is)
      (case E0 => k_exc)
      (case E1 => k_exc)
      (case E2 => k_exc)
      (case H0_0 => kernel_rfl)
      (case H0_1 => kernel_rfl)
      (case H0_2 => kernel_rfl)
      (case H1_0 => kernel_rfl)
      (case H1_1 => kernel_rfl)
      (case H1_2 => kernel_rfl)
      (case H2_0 => kernel_rfl)
      (case H2_1 => kernel_rfl)
      (case H2_2 => kernel_rfl)
      (case A0 => k_is)
      (case A1 => k_is)
      (case A2 => k_is)
      (case A3 => k_is)
      (case A4 => k_is)
      (case A5 => k_is)
      (case A6 => k_is)
      (case B6 => k_is)
      (case A7 => k_is)
      (case A8 => k_is)
      (case A9 => k_is)
      (case A10 => k_is)
      (case A11 => k_is)
      (case A12 => k_is)
      (case A13 => k_is)
      (case A14 => k_is)
      (case A15 => k_is)
      (case B15 => k_is)
      (case A16 => k_is)
      (case A17 => k_is)
      (case A18 => k_is)
      (case A19 => k_is)
      (case A20 => k_is)
      (case A21 => k_is)
      (case A22 => k_is)
      (case A23 => k_is)
      (case A24 => k_is)
      (case B24 => k_is)
      (case R0 => k_is)
      (case R1 => k_is)
      (case R2 => k_is)
      (case R3 => k_is)
      (case R4 => k_is)
      (case R5 => k_is)
      (case R6 => k_is)
      (case R7 => k_is)
      (case same => k_is)
    obtain ⟨t, rfl, T⟩ := T
    exact ⟨t.d_answers, FT.binds_answers T, fun base kb nb => FT.ok_answers T⟩
