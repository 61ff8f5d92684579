import PyProof.Rows.All
import Wide.All
import OpenK.AllK
import Wide.FinOn
import Open.SpecLaws
import KE.OsGo
import HandS.ForSpec
import HandS.More
import HandS.Comp
import HandS.SortKw
import KE.SortData
import KE.SortKeyHeap
import HandS.Zip
import HandS.Iter
import KE.KStateDown
import KE.OsHead
import HandS.Base
import HandS.Call
import HandS.Ends
import HandS.Words
import HandS.WordsExc
import HandS.Defaults
import HandS.Spec
import HandS.Head0
import HandS.Head1
import HandS.Head2
import HandS.Head3
import HandS.Head4
import HandS.HeadEnd
import HandS.HeadHook1
import HandS.HeadHook2
import HandS.HeadHook3
import HandS.HeadHook4
import PySq32
import PySem.Challenge.RW_vectordelivery_s01_answers
section
set_option autoImplicit false
/-! The program's state over plain lists, its steps, and that they answer as the specification does. -/
namespace VD
open Sq32

structure Rep where
  applied : List Deed
  pending : List Deed
  known : List Counts
structure Ses where
  reps : List Rep
  events : List Deed
  msgs : List Letter

/-! ### lists -/
theorem at_lt {c : Counts} {k : Nat} (h : k < c.length) : at_ c k = c[k] := by
  unfold at_
  rw [List.getElem?_eq_getElem h]
  rfl
theorem at_ge {c : Counts} {k : Nat} (h : c.length ≤ k) : at_ c k = 0 := by
  unfold at_
  rw [List.getElem?_eq_none h]
  rfl
theorem counts_length (n : Nat) (l : List Deed) : (counts n l).length = n := by
  unfold counts
  rw [List.length_map, List.length_range]
theorem at_counts {n : Nat} {l : List Deed} {k : Nat} (h : k < n) : at_ (counts n l) k = (l.filter fun d => d.desk == k).length := by
  unfold at_ counts
  rw [List.getElem?_map, List.getElem?_range h]
  rfl
theorem ext_at {a b : Counts} (hl : a.length = b.length) (h : ∀ k, k < a.length → at_ a k = at_ b k) : a = b := by
  apply List.ext_getElem hl
  intro i h1 h2
  have := h i h1
  rw [at_lt h1, at_lt h2] at this
  exact this
theorem at_set {c : Counts} {j k x : Nat} (h : j < c.length) : at_ (c.set j x) k = if k = j then x else at_ c k := by
  unfold at_
  rw [List.getElem?_set]
  by_cases e : k = j
  · subst e
    simp [h]
  · have e' : ¬ j = k := fun q => e q.symm
    simp [e, e']
theorem counts_snoc {n : Nat} {l : List Deed} {d : Deed} (hd : d.desk < n) : counts n (l ++ [d]) = (counts n l).set d.desk (at_ (counts n l) d.desk + 1) := by
  apply ext_at
  · rw [List.length_set, counts_length, counts_length]
  · intro k hk
    rw [counts_length] at hk
    rw [at_set (by rw [counts_length]; exact hd), at_counts hk, at_counts hd, at_counts hk, List.filter_append, List.length_append]
    by_cases e : k = d.desk
    · subst e
      simp
    · have e' : (d.desk == k) = false := beq_eq_false_iff_ne.mpr fun q => e q.symm
      simp [e, e']

/-! ### what an event asks -/
def canP (v : Counts) (d : Deed) : Bool := if d.n ≠ at_ v d.desk + 1 then false else (d.after.zip v).all fun p => decide (p.1 ≤ p.2)
theorem below_iff {a b : Counts} : below a b = true ↔ ∀ k, k < a.length → at_ a k ≤ at_ b k := by
  unfold below
  rw [List.all_eq_true]
  constructor
  · intro h k hk
    exact of_decide_eq_true (h k (List.mem_range.mpr hk))
  · intro h k hk
    exact decide_eq_true (h k (List.mem_range.mp hk))
theorem zip_iff {a b : Counts} (hl : a.length = b.length) : ((a.zip b).all fun p => decide (p.1 ≤ p.2)) = true ↔ ∀ k, k < a.length → at_ a k ≤ at_ b k := by
  rw [List.all_eq_true]
  constructor
  · intro h k hk
    have hk2 : k < b.length := hl ▸ hk
    have hm : (a[k], b[k]) ∈ a.zip b := List.mem_of_getElem? (i := k) (by rw [List.getElem?_zip_eq_some]; exact ⟨List.getElem?_eq_getElem hk, List.getElem?_eq_getElem hk2⟩)
    have := of_decide_eq_true (h _ hm)
    rw [at_lt hk, at_lt hk2]
    exact this
  · intro h p hp
    obtain ⟨k, hk⟩ := List.getElem?_of_mem hp
    rw [List.getElem?_zip_eq_some] at hk
    obtain ⟨h1, h2⟩ := hk
    obtain ⟨l1, e1⟩ := List.getElem?_eq_some_iff.mp h1
    obtain ⟨l2, e2⟩ := List.getElem?_eq_some_iff.mp h2
    have := h k l1
    rw [at_lt l1, at_lt l2, e1, e2] at this
    exact decide_eq_true this
theorem canP_may {v : Counts} {d : Deed} (hl : d.after.length = v.length) : canP v d = may v d := by
  unfold canP may
  have e : ((d.after.zip v).all fun p => decide (p.1 ≤ p.2)) = below d.after v := by
    rw [Bool.eq_iff_iff, zip_iff hl, below_iff]
  by_cases h : d.n = at_ v d.desk + 1
  · have h' : (d.n == at_ v d.desk + 1) = true := beq_iff_eq.mpr h
    rw [if_neg (by simpa using h), h', Bool.true_and, e]
  · have h' : (d.n == at_ v d.desk + 1) = false := beq_eq_false_iff_ne.mpr h
    rw [if_pos h, h', Bool.false_and]
theorem may_n {v : Counts} {d : Deed} (h : may v d = true) : d.n = at_ v d.desk + 1 := by
  unfold may at h
  rw [Bool.and_eq_true] at h
  exact beq_iff_eq.mp h.1
theorem may_below {v : Counts} {d : Deed} (h : may v d = true) : below d.after v = true := by
  unfold may at h
  rw [Bool.and_eq_true] at h
  exact h.2
theorem may_not_was {v : Counts} {d : Deed} (h : may v d = true) : was v d = false := by
  unfold was
  have := may_n h
  exact decide_eq_false (by omega)

/-! ### the loop of a delivery against settle -/
/-- the program's loop: the first pending event that can be applied is applied; pending stays -/
def runP (n : Nat) (pending : List Deed) : Nat → List Deed → List Deed
  | 0, taken => taken
  | f + 1, taken => match pending.find? (may (counts n taken)) with
    | none => taken
    | some d => runP n pending f (taken ++ [d])
theorem was_mono {n : Nat} {l : List Deed} {d x : Deed} (hd : d.desk < n) (h : was (counts n l) x = true) : was (counts n (l ++ [d])) x = true := by
  unfold was at h ⊢
  rw [decide_eq_true_eq] at h ⊢
  rw [counts_snoc hd, at_set (by rw [counts_length]; exact hd)]
  split
  · rename_i e
    rw [e] at h
    omega
  · exact h
theorem was_new {n : Nat} {l : List Deed} {d : Deed} (hd : d.desk < n) (h : may (counts n l) d = true) : was (counts n (l ++ [d])) d = true := by
  unfold was
  rw [decide_eq_true_eq, counts_snoc hd, at_set (by rw [counts_length]; exact hd), if_pos rfl, may_n h]
  exact Nat.le_refl _
theorem filter_filter_self {α : Type} (p : α → Bool) (l : List α) : (l.filter p).filter p = l.filter p := by
  rw [List.filter_filter]
  congr 1
  funext x
  cases p x <;> rfl
theorem find_filter {α : Type} {p q : α → Bool} (h : ∀ x, q x = true → p x = true) (l : List α) : (l.filter p).find? q = l.find? q := by
  rw [List.find?_filter]
  congr 1
  funext x
  cases e : q x with
  | false => simp
  | true => simp [h x e]
theorem countP_filter_lt {α : Type} {p q : α → Bool} (h : ∀ x, q x = true → p x = true) {l : List α} {d : α} (hd : d ∈ l) (hp : p d = true) (hq : q d = false) : l.countP q < l.countP p := by
  induction l with
  | nil => cases hd
  | cons a r ih =>
    have hle : r.countP q ≤ r.countP p := List.countP_mono_left fun x _ => h x
    rcases List.mem_cons.mp hd with e | e
    · subst e
      rw [List.countP_cons_of_pos hp, List.countP_cons_of_neg (by simp [hq])]
      omega
    · have := ih e
      rw [List.countP_cons, List.countP_cons]
      cases ea : q a with
      | false => simp; split <;> omega
      | true => simp [h a ea]; omega

/-- how many events still wait -/
def left (n : Nat) (pending taken : List Deed) : Nat := pending.countP fun d => !was (counts n taken) d
theorem left_lt {n : Nat} {pending taken : List Deed} {d : Deed} (hd : d.desk < n) (hm : d ∈ pending) (h : may (counts n taken) d = true) : left n pending (taken ++ [d]) < left n pending taken := by
  refine countP_filter_lt (fun x hx => ?_) hm ?_ ?_
  · cases e : was (counts n taken) x with
    | false => rfl
    | true => rw [was_mono hd e] at hx; cases hx
  · rw [may_not_was h]; rfl
  · rw [was_new hd h]; rfl
theorem settle_run {n : Nat} {pending : List Deed} (hp : ∀ d ∈ pending, d.desk < n) : ∀ (f g : Nat) (taken w : List Deed), w.filter (fun d => !was (counts n taken) d) = pending.filter (fun d => !was (counts n taken) d) →
    left n pending taken < f → left n pending taken ≤ g → settle n f taken w = (runP n pending g taken, pending.filter fun d => !was (counts n (runP n pending g taken)) d) := by
  intro f
  induction f with
  | zero => intro g taken w _ hf _; omega
  | succ f ih =>
    intro g taken w hw hf hg
    have hfind : (w.filter fun d => !was (counts n taken) d).find? (may (counts n taken)) = pending.find? (may (counts n taken)) := by
      rw [hw]
      exact find_filter (fun x hx => by rw [may_not_was hx]; rfl) pending
    unfold settle
    dsimp only
    cases e : pending.find? (may (counts n taken)) with
    | none =>
      rw [hfind, e]
      have er : runP n pending g taken = taken := by
        cases g with
        | zero => rfl
        | succ g => unfold runP; rw [e]
      dsimp only
      rw [er, hw]
    | some d =>
      rw [hfind, e]
      dsimp only
      have hm : d ∈ pending := List.mem_of_find?_eq_some e
      have hmay : may (counts n taken) d = true := List.find?_some e
      have hlt := left_lt (hp d hm) hm hmay
      cases g with
      | zero => omega
      | succ g =>
        have er : runP n pending (g + 1) taken = runP n pending g (taken ++ [d]) := by
          show (match pending.find? (may (counts n taken)) with | none => taken | some d => runP n pending g (taken ++ [d])) = _
          rw [e]
        rw [er]
        refine ih g (taken ++ [d]) _ ?_ (by omega) (by omega)
        rw [hw, List.filter_filter, List.filter_filter]
        apply List.filter_congr
        intro x hx
        cases ex : was (counts n (taken ++ [d])) x with
        | true => simp
        | false =>
          have h1 : was (counts n taken) x = false := by
            cases e1 : was (counts n taken) x with
            | false => rfl
            | true => rw [was_mono (hp d hm) e1] at ex; cases ex
          have h2 : (x != d) = true := by
            rw [bne_iff_ne]
            rintro rfl
            rw [was_new (hp x hm) hmay] at ex
            cases ex
          simp [h1, h2]

/-! ### arriving events: a list that is sorted, against wait -/
def le2 (d e : Deed) : Bool := decide ((d.desk : Int) < e.desk ∨ ((d.desk : Int) = e.desk ∧ (d.n : Int) ≤ e.n))
def Lt2 (d e : Deed) : Prop := d.desk < e.desk ∨ (d.desk = e.desk ∧ d.n < e.n)
theorem le2_iff {d e : Deed} : le2 d e = true ↔ d.desk < e.desk ∨ (d.desk = e.desk ∧ d.n ≤ e.n) := by
  unfold le2
  rw [decide_eq_true_eq]
  omega
def addp (w l : List Deed) : List Deed := l.foldl (fun w d => if d ∈ w then w else w ++ [d]) w
/-- the key tells the event, among these -/
def Keyed (S : List Deed) : Prop := ∀ d ∈ S, ∀ e ∈ S, d.desk = e.desk → d.n = e.n → d = e
theorem sorted_ext : ∀ {l m : List Deed}, l.Pairwise Lt2 → m.Pairwise Lt2 → (∀ x, x ∈ l ↔ x ∈ m) → l = m
  | [], [], _, _, _ => rfl
  | [], b :: m, _, _, h => absurd ((h b).mpr List.mem_cons_self) (by simp)
  | a :: l, [], _, _, h => absurd ((h a).mp List.mem_cons_self) (by simp)
  | a :: l, b :: m, hl, hm, h => by
    have hl' := List.pairwise_cons.mp hl
    have hm' := List.pairwise_cons.mp hm
    have e : a = b := by
      rcases List.mem_cons.mp ((h a).mp List.mem_cons_self) with e | e
      · exact e
      · rcases List.mem_cons.mp ((h b).mpr List.mem_cons_self) with e' | e'
        · exact e'.symm
        · have h1 := hm'.1 a e
          have h2 := hl'.1 b e'
          unfold Lt2 at h1 h2
          omega
    subst e
    congr 1
    refine sorted_ext hl'.2 hm'.2 fun x => ⟨fun hx => ?_, fun hx => ?_⟩
    · rcases List.mem_cons.mp ((h x).mp (List.mem_cons_of_mem _ hx)) with e | e
      · subst e
        have := hl'.1 x hx
        unfold Lt2 at this
        omega
      · exact e
    · rcases List.mem_cons.mp ((h x).mpr (List.mem_cons_of_mem _ hx)) with e | e
      · subst e
        have := hm'.1 x hx
        unfold Lt2 at this
        omega
      · exact e
theorem mem_wait {S : List Deed} (hS : Keyed S) {d : Deed} (hd : d ∈ S) : ∀ {l : List Deed}, (∀ x ∈ l, x ∈ S) → ∀ x, x ∈ wait d l ↔ x = d ∨ x ∈ l
  | [], _, x => by simp [wait]
  | e :: l, hl, x => by
    unfold wait
    split
    · rename_i h
      have ede : d = e := hS d hd e (hl e List.mem_cons_self) h.1 h.2
      subst ede
      constructor
      · exact fun q => .inr q
      · rintro (rfl | q)
        · exact List.mem_cons_self
        · exact q
    · split
      · simp
      · rw [List.mem_cons, mem_wait hS hd (fun y hy => hl y (List.mem_cons_of_mem _ hy)) x, List.mem_cons]
        constructor
        · rintro (q | q | q)
          · exact .inr (.inl q)
          · exact .inl q
          · exact .inr (.inr q)
        · rintro (q | q | q)
          · exact .inr (.inl q)
          · exact .inl q
          · exact .inr (.inr q)
theorem wait_sorted {S : List Deed} (hS : Keyed S) {d : Deed} (hd : d ∈ S) : ∀ {l : List Deed}, (∀ x ∈ l, x ∈ S) → l.Pairwise Lt2 → (wait d l).Pairwise Lt2
  | [], _, _ => by simp [wait]
  | e :: l, hl, hs => by
    have hs' := List.pairwise_cons.mp hs
    unfold wait
    split
    · exact hs
    · rename_i h1
      split
      · rename_i h2
        refine List.pairwise_cons.mpr ⟨fun x hx => ?_, hs⟩
        rcases List.mem_cons.mp hx with q | q
        · subst q; exact h2
        · have h3 := hs'.1 x q
          unfold Lt2 at h3 ⊢
          omega
      · rename_i h2
        refine List.pairwise_cons.mpr ⟨fun x hx => ?_, wait_sorted hS hd (fun y hy => hl y (List.mem_cons_of_mem _ hy)) hs'.2⟩
        rcases (mem_wait hS hd (fun y hy => hl y (List.mem_cons_of_mem _ hy)) x).mp hx with q | q
        · subst q
          unfold Lt2
          omega
        · exact hs'.1 x q
theorem waits_ok {S : List Deed} (hS : Keyed S) : ∀ {m l : List Deed}, (∀ x ∈ m, x ∈ S) → (∀ x ∈ l, x ∈ S) → l.Pairwise Lt2 →
    (m.foldl (fun w d => wait d w) l).Pairwise Lt2 ∧ ∀ x, x ∈ m.foldl (fun w d => wait d w) l ↔ x ∈ m ∨ x ∈ l
  | [], l, _, _, hs => ⟨hs, fun x => by simp⟩
  | d :: m, l, hm, hl, hs => by
    have hd := hm d List.mem_cons_self
    have hw : ∀ x ∈ wait d l, x ∈ S := fun x hx => by
      rcases (mem_wait hS hd hl x).mp hx with q | q
      · subst q; exact hd
      · exact hl x q
    obtain ⟨h1, h2⟩ := waits_ok hS (m := m) (l := wait d l) (fun x hx => hm x (List.mem_cons_of_mem _ hx)) hw (wait_sorted hS hd hl hs)
    refine ⟨h1, fun x => ?_⟩
    rw [List.foldl_cons, h2 x, mem_wait hS hd hl x, List.mem_cons]
    constructor
    · rintro (q | q | q)
      · exact .inl (.inr q)
      · exact .inl (.inl q)
      · exact .inr q
    · rintro ((q | q) | q)
      · exact .inr (.inl q)
      · exact .inl q
      · exact .inr (.inr q)
theorem addp_ok : ∀ {m l : List Deed}, l.Nodup → (addp l m).Nodup ∧ ∀ x, x ∈ addp l m ↔ x ∈ m ∨ x ∈ l
  | [], l, h => ⟨h, fun x => by simp [addp]⟩
  | d :: m, l, h => by
    unfold addp
    rw [List.foldl_cons]
    by_cases e : d ∈ l
    · rw [if_pos e]
      obtain ⟨h1, h2⟩ := addp_ok (m := m) h
      refine ⟨h1, fun x => ?_⟩
      show x ∈ addp l m ↔ _
      rw [h2 x, List.mem_cons]
      constructor
      · rintro (q | q)
        · exact .inl (.inr q)
        · exact .inr q
      · rintro ((q | q) | q)
        · subst q; exact .inr e
        · exact .inl q
        · exact .inr q
    · rw [if_neg e]
      have hn : (l ++ [d]).Nodup := by
        rw [List.nodup_append]
        refine ⟨h, by simp, fun a ha b hb => ?_⟩
        have : b = d := by simpa using hb
        subst this
        rintro rfl
        exact e ha
      obtain ⟨h1, h2⟩ := addp_ok (m := m) hn
      refine ⟨h1, fun x => ?_⟩
      show x ∈ addp (l ++ [d]) m ↔ _
      rw [h2 x, List.mem_cons, List.mem_append]
      constructor
      · rintro (q | q | q)
        · exact .inl (.inr q)
        · exact .inr q
        · exact .inl (.inl (by simpa using q))
      · rintro ((q | q) | q)
        · exact .inr (.inr (by simp [q]))
        · exact .inl q
        · exact .inr (.inl q)
theorem lt2_nodup {l : List Deed} (h : l.Pairwise Lt2) : l.Nodup := h.imp fun {a b} q e => by
  subst e
  unfold Lt2 at q
  omega
theorem sort_wait {S : List Deed} (hS : Keyed S) {m l : List Deed} (hm : ∀ x ∈ m, x ∈ S) (hl : ∀ x ∈ l, x ∈ S) (hs : l.Pairwise Lt2) : (addp l m).mergeSort le2 = m.foldl (fun w d => wait d w) l := by
  obtain ⟨h1, h2⟩ := waits_ok hS hm hl hs
  obtain ⟨h3, h4⟩ := addp_ok (m := m) (lt2_nodup hs)
  have hp := List.mergeSort_perm (addp l m) le2
  refine sorted_ext ?_ h1 fun x => ?_
  · have hw : ((addp l m).mergeSort le2).Pairwise fun a b => le2 a b = true := List.pairwise_mergeSort (fun a b c x y => by rw [le2_iff] at *; omega) (fun a b => by
      rw [Bool.or_eq_true, le2_iff, le2_iff]; omega) _
    have hnd : ((addp l m).mergeSort le2).Nodup := hp.nodup_iff.mpr h3
    have hmem : ∀ x ∈ (addp l m).mergeSort le2, x ∈ S := fun x hx => by
      rcases (h4 x).mp (hp.mem_iff.mp hx) with q | q
      · exact hm x q
      · exact hl x q
    have := List.Pairwise.and hw hnd
    refine List.Pairwise.imp_of_mem (fun {a b} ha hb q => ?_) this
    have q1 := le2_iff.mp q.1
    have q2 : ¬ (a.desk = b.desk ∧ a.n = b.n) := fun z => q.2 (hS a (hmem a ha) b (hmem b hb) z.1 z.2)
    unfold Lt2
    omega
  · rw [hp.mem_iff, h4 x, h2 x]
end VD
end
section
set_option autoImplicit false
namespace VD
open Sq32

def Rep.vec (r : Rep) (k : Nat) : Counts := (r.known[k]?).getD []
def Rep.app (k : Nat) (r : Rep) (d : Deed) : Rep := { r with applied := r.applied ++ [d], known := r.known.set k ((r.vec k).set d.desk d.n) }
/-- the first pending event that can be applied is applied, again and again -/
def Rep.run (k : Nat) : Nat → Rep → Rep
  | 0, r => r
  | f + 1, r => match r.pending.find? (canP (r.vec k)) with
    | none => r
    | some d => Rep.run k f (r.app k d)
def Rep.arrive (r : Rep) (l : List Deed) : Rep := { r with pending := (addp r.pending l).mergeSort le2 }
def Rep.drop (k : Nat) (r : Rep) : Rep := { r with pending := r.pending.filter fun d => !was (r.vec k) d }
def Rep.receive (k : Nat) (r : Rep) (l : List Deed) : Rep := Rep.drop k (Rep.run k (r.arrive l).pending.length (r.arrive l))
def maxs (a b : Counts) : Counts := (a.zip b).map fun p => if p.2 > p.1 then p.2 else p.1
def Rep.learn (r : Rep) (j : Nat) (c : Counts) : Rep := { r with known := r.known.set j (maxs (r.vec j) c) }
def Rep.forOther (r : Rep) (j : Nat) : List Deed := r.applied.filter fun d => decide (at_ (r.vec j) d.desk < d.n)
def mins (a b : Counts) : Counts := (a.zip b).map fun p => if p.2 < p.1 then p.2 else p.1

def Ses.rep (s : Ses) (k : Nat) : Rep := (s.reps[k]?).getD ⟨[], [], []⟩
def Ses.put (s : Ses) (k : Nat) (r : Rep) : Ses := { s with reps := s.reps.set k r }
def freshS (n : Nat) : Ses := ⟨List.replicate n ⟨[], [], List.replicate n (List.replicate n 0)⟩, [], []⟩
def toldP (l : List Deed) : List Int := (l.length : Int) :: Sq32.ints (l.flatMap fun d => [d.desk, d.n, d.says])
def Ses.ev (s : Ses) (d n : Nat) : Option Deed := s.events.find? fun e => e.desk == d && e.n == n
def Ses.stable (s : Ses) (k : Nat) : Counts := (s.rep k).known.foldl mins ((s.rep k).vec k)
def Ses.step (s : Ses) : Sq32.Call → Ses × List Int
  | .begin_ n => if n = 0 ∨ 6 < n then (s, [-1]) else (freshS n, [0])
  | .does k v => if s.reps.length ≤ k then (s, [-2]) else if 1000000000 < v then (s, [-1]) else if 60 ≤ s.events.length then (s, [-5]) else
    let r := s.rep k
    let d : Deed := ⟨k, at_ (r.vec k) k + 1, r.vec k, v⟩
    ({ s with reps := s.reps.set k (r.app k d), events := s.events ++ [d] }, [(d.n : Int)])
  | .send k j => if s.reps.length ≤ k ∨ s.reps.length ≤ j ∨ k = j then (s, [-2]) else if 200 ≤ s.msgs.length then (s, [-5]) else
    let l := (s.rep k).forOther j
    ({ s with msgs := s.msgs ++ [⟨k, j, (s.rep k).vec k, l⟩] }, [(s.msgs.length : Int), (l.length : Int)])
  | .post k j d n => if s.reps.length ≤ k ∨ s.reps.length ≤ j ∨ k = j then (s, [-2]) else match (s.rep k).applied.find? fun e => e.desk == d && e.n == n with
    | none => (s, [-3])
    | some e => if 200 ≤ s.msgs.length then (s, [-5]) else ({ s with msgs := s.msgs ++ [⟨k, j, (s.rep k).vec k, [e]⟩] }, [(s.msgs.length : Int)])
  | .comes i => match s.msgs[i]? with
    | none => (s, [-2])
    | some m =>
      let r := s.rep m.to
      let r1 := r.receive m.to m.deeds
      let r2 := r1.learn m.from_ m.has
      (s.put m.to r2, [(r1.applied.length : Int) - (r.applied.length : Int), (r2.pending.length : Int)])
  | .taken k => if s.reps.length ≤ k then (s, [-2]) else (s, toldP (s.rep k).applied)
  | .waits k => if s.reps.length ≤ k then (s, [-2]) else (s, toldP (s.rep k).pending)
  | .has k => if s.reps.length ≤ k then (s, [-2]) else (s, 0 :: Sq32.ints ((s.rep k).vec k))
  | .sure k j => if s.reps.length ≤ k ∨ s.reps.length ≤ j then (s, [-2]) else (s, 0 :: Sq32.ints ((s.rep k).vec j))
  | .all k => if s.reps.length ≤ k then (s, [-2]) else (s, 0 :: Sq32.ints (s.stable k))
  | .hangs d n e m => match s.ev d n, s.ev e m with
    | some x, some y => (s, [if was y.after x = true then 1 else if was x.after y = true then 2 else 0])
    | _, _ => (s, [-2])
  | .letter i => match s.msgs[i]? with
    | none => (s, [-2])
    | some m => (s, (m.deeds.length : Int) :: Sq32.ints (m.deeds.flatMap fun d => [d.desk, d.n]))

/-- how many events j has created -/
def cr (evs : List Deed) (j : Nat) : Nat := (evs.filter fun d => d.desk == j).length

structure RepInv (n k : Nat) (evs : List Deed) (r : Rep) (x : Desk) : Prop where
  taken : x.taken = r.applied
  waits : x.waits = r.pending
  klen : r.known.length = n
  kl : ∀ j, j < n → (r.vec j).length = n
  slen : x.sure.length = n
  sure : ∀ j, j < n → j ≠ k → x.sure[j]? = r.known[j]?
  vec : r.vec k = counts n r.applied
  app : ∀ d ∈ r.applied, d ∈ evs
  in_ : ∀ d ∈ r.applied, was (counts n r.applied) d = true
  nod : r.applied.Nodup
  pen : ∀ d ∈ r.pending, d ∈ evs
  srt : r.pending.Pairwise Lt2
  notWas : ∀ d ∈ r.pending, was (counts n r.applied) d = false
  notMay : ∀ d ∈ r.pending, may (counts n r.applied) d = false
  own : r.applied.filter (fun d => d.desk == k) = evs.filter fun d => d.desk == k

structure EvInv (n : Nat) (evs : List Deed) : Prop where
  desk : ∀ d ∈ evs, d.desk < n
  len : ∀ d ∈ evs, d.after.length = n
  num : ∀ (k i : Nat) (d : Deed), (evs.filter fun d => d.desk == k)[i]? = some d → d.n = i + 1
  dep : ∀ d ∈ evs, ∀ j, j < n → at_ d.after j ≤ cr evs j
  most : evs.length ≤ 60
structure MsgInv (n : Nat) (evs : List Deed) (m : Letter) : Prop where
  from_ : m.from_ < n
  to : m.to < n
  ne : m.from_ ≠ m.to
  has : m.has.length = n
  deeds : ∀ d ∈ m.deeds, d ∈ evs
  most : m.deeds.length ≤ 60

structure SInv (s : Ses) (h : House) : Prop where
  hands : h.hands = s.reps.length
  desks : h.desks.length = s.reps.length
  pos : 1 ≤ s.reps.length
  le6 : s.reps.length ≤ 6
  letters : h.letters = s.msgs
  rep : ∀ k, k < s.reps.length → RepInv s.reps.length k s.events (s.rep k) (h.desk k)
  ev : EvInv s.reps.length s.events
  msg : ∀ m ∈ s.msgs, MsgInv s.reps.length s.events m
  m200 : s.msgs.length ≤ 200

/-! ### events -/
theorem EvInv.keyed {n : Nat} {evs : List Deed} (E : EvInv n evs) : Keyed evs := fun d hd e he h1 h2 => by
  have hd' : d ∈ evs.filter fun x => x.desk == d.desk := List.mem_filter.mpr ⟨hd, beq_self_eq_true _⟩
  have he' : e ∈ evs.filter fun x => x.desk == d.desk := List.mem_filter.mpr ⟨he, by simp [h1]⟩
  obtain ⟨i, hi⟩ := List.getElem?_of_mem hd'
  obtain ⟨j, hj⟩ := List.getElem?_of_mem he'
  have a := E.num _ _ _ hi
  have b := E.num _ _ _ hj
  have e : i = j := by omega
  subst e
  rw [hi] at hj
  exact Option.some.inj hj
theorem EvInv.le_cr {n : Nat} {evs : List Deed} (E : EvInv n evs) {d : Deed} (hd : d ∈ evs) : 1 ≤ d.n ∧ d.n ≤ cr evs d.desk := by
  have hd' : d ∈ evs.filter fun x => x.desk == d.desk := List.mem_filter.mpr ⟨hd, beq_self_eq_true _⟩
  obtain ⟨i, hi⟩ := List.getElem?_of_mem hd'
  have a := E.num _ _ _ hi
  obtain ⟨hl, _⟩ := List.getElem?_eq_some_iff.mp hi
  unfold cr
  omega
theorem length_le_of_subset {α : Type} [DecidableEq α] : ∀ {l m : List α}, l.Nodup → (∀ x ∈ l, x ∈ m) → l.length ≤ m.length
  | [], _, _, _ => Nat.zero_le _
  | a :: l, m, hn, hs => by
    have hn' := List.nodup_cons.mp hn
    have ha := hs a List.mem_cons_self
    have hsub : ∀ x ∈ l, x ∈ m.erase a := fun x hx => (List.mem_erase_of_ne (fun e : x = a => hn'.1 (by rw [← e]; exact hx))).mpr (hs x (List.mem_cons_of_mem _ hx))
    have ih := length_le_of_subset hn'.2 hsub
    rw [List.length_erase_of_mem ha] at ih
    have : 0 < m.length := List.length_pos_of_mem ha
    rw [List.length_cons]
    omega
theorem RepInv.app60 {n k : Nat} {evs : List Deed} {r : Rep} {x : Desk} (R : RepInv n k evs r x) (E : EvInv n evs) : r.applied.length ≤ 60 := Nat.le_trans (length_le_of_subset R.nod R.app) E.most
theorem RepInv.pen60 {n k : Nat} {evs : List Deed} {r : Rep} {x : Desk} (R : RepInv n k evs r x) (E : EvInv n evs) : r.pending.length ≤ 60 := Nat.le_trans (length_le_of_subset (lt2_nodup R.srt) R.pen) E.most
theorem vec_at {r : Rep} {k : Nat} (h : k < r.known.length) : r.known[k]? = some (r.vec k) := by
  unfold Rep.vec
  rw [List.getElem?_eq_getElem h]
  rfl
theorem vec_set {r : Rep} {k j : Nat} {c : Counts} (h : k < r.known.length) : Rep.vec { r with known := r.known.set k c } j = if j = k then c else r.vec j := by
  unfold Rep.vec
  rw [List.getElem?_set]
  by_cases e : k = j
  · subst e
    simp [h]
  · have e' : ¬ j = k := fun q => e q.symm
    simp [e, e']
theorem created_le {n k : Nat} {evs : List Deed} {r : Rep} {x : Desk} (R : RepInv n k evs r x) (hk : k < n) : at_ (counts n r.applied) k = cr evs k := by
  rw [at_counts hk, R.own]
  rfl

/-! ### an event is applied -/
theorem vec_app {n k : Nat} {r : Rep} {d : Deed} (hk : k < n) (hl : r.known.length = n) (hv : r.vec k = counts n r.applied) (hd : d.desk < n) (hn : d.n = at_ (r.vec k) d.desk + 1) :
    (r.app k d).vec k = counts n (r.app k d).applied := by
  have e : (r.app k d).vec k = (r.vec k).set d.desk d.n := by
    show Rep.vec { r with known := r.known.set k ((r.vec k).set d.desk d.n) } k = _
    rw [vec_set (by omega), if_pos rfl]
  rw [e]
  show _ = counts n (r.applied ++ [d])
  rw [counts_snoc hd, ← hv, ← hn]
/-- what the loop keeps -/
structure RunInv (n k : Nat) (evs : List Deed) (r : Rep) : Prop where
  klen : r.known.length = n
  vec : r.vec k = counts n r.applied
  app : ∀ d ∈ r.applied, d ∈ evs
  in_ : ∀ d ∈ r.applied, was (counts n r.applied) d = true
  nod : r.applied.Nodup
  pen : ∀ d ∈ r.pending, d ∈ evs
  own : r.applied.filter (fun d => d.desk == k) = evs.filter fun d => d.desk == k
theorem RunInv.canP {n k : Nat} {evs : List Deed} {r : Rep} (R : RunInv n k evs r) (E : EvInv n evs) {d : Deed} (hd : d ∈ evs) : canP (r.vec k) d = may (counts n r.applied) d := by
  rw [canP_may (by rw [E.len d hd, R.vec, counts_length]), R.vec]
theorem find_congr {α : Type} {p q : α → Bool} : ∀ {l : List α}, (∀ x ∈ l, p x = q x) → l.find? p = l.find? q
  | [], _ => rfl
  | a :: l, h => by
    rw [List.find?_cons, List.find?_cons, h a List.mem_cons_self, find_congr fun x hx => h x (List.mem_cons_of_mem _ hx)]
theorem RunInv.find {n k : Nat} {evs : List Deed} {r : Rep} (R : RunInv n k evs r) (E : EvInv n evs) : r.pending.find? (VD.canP (r.vec k)) = r.pending.find? (may (counts n r.applied)) :=
  find_congr fun d hd => R.canP E (R.pen d hd)
theorem RunInv.app_ {n k : Nat} {evs : List Deed} {r : Rep} (R : RunInv n k evs r) (E : EvInv n evs) (hk : k < n) {d : Deed} (hd : d ∈ evs) (hm : may (counts n r.applied) d = true) : RunInv n k evs (r.app k d) where
  klen := by show (r.known.set _ _).length = n; rw [List.length_set]; exact R.klen
  vec := vec_app hk R.klen R.vec (E.desk d hd) (by rw [R.vec]; exact may_n hm)
  app := fun x hx => by
    rcases List.mem_append.mp (show x ∈ r.applied ++ [d] from hx) with q | q
    · exact R.app x q
    · have : x = d := by simpa using q
      subst this; exact hd
  in_ := fun x hx => by
    show was (counts n (r.applied ++ [d])) x = true
    rcases List.mem_append.mp (show x ∈ r.applied ++ [d] from hx) with q | q
    · exact was_mono (E.desk d hd) (R.in_ x q)
    · have : x = d := by simpa using q
      subst this; exact was_new (E.desk x hd) hm
  nod := by
    show (r.applied ++ [d]).Nodup
    rw [List.nodup_append]
    refine ⟨R.nod, by simp, fun a ha b hb => ?_⟩
    have : b = d := by simpa using hb
    subst this
    rintro rfl
    have := R.in_ a ha
    rw [may_not_was hm] at this
    cases this
  pen := R.pen
  own := by
    show (r.applied ++ [d]).filter (fun d => d.desk == k) = _
    rw [List.filter_append, R.own]
    have hne : ¬ d.desk = k := fun e => by
      have h1 := may_n hm
      have h2 := (E.le_cr hd).2
      rw [e, at_counts hk, R.own] at h1
      rw [e] at h2
      unfold cr at h2
      omega
    simp [hne]
/-- the loop's end -/
theorem run_none {k f : Nat} {r : Rep} (h : r.pending.find? (canP (r.vec k)) = none) : Rep.run k f r = r := by
  cases f with
  | zero => rfl
  | succ f => unfold Rep.run; rw [h]
theorem run_some {k f : Nat} {r : Rep} {d : Deed} (h : r.pending.find? (canP (r.vec k)) = some d) : Rep.run k (f + 1) r = Rep.run k f (r.app k d) := by
  show (match r.pending.find? (canP (r.vec k)) with | none => r | some d => Rep.run k f (r.app k d)) = _
  rw [h]
theorem run_ok {n k : Nat} {evs : List Deed} (E : EvInv n evs) (hk : k < n) : ∀ (f : Nat) (r : Rep), RunInv n k evs r → RunInv n k evs (Rep.run k f r) ∧ (Rep.run k f r).applied = runP n r.pending f r.applied ∧ (Rep.run k f r).pending = r.pending ∧
    (∀ j, j ≠ k → (Rep.run k f r).vec j = r.vec j) ∧ (left n r.pending r.applied ≤ f → (Rep.run k f r).pending.find? (canP ((Rep.run k f r).vec k)) = none) := by
  intro f
  induction f with
  | zero =>
    intro r R
    refine ⟨R, rfl, rfl, fun _ _ => rfl, fun hf => ?_⟩
    show r.pending.find? (canP (r.vec k)) = none
    rw [R.find E]
    cases e : r.pending.find? (may (counts n r.applied)) with
    | none => rfl
    | some d =>
      have h1 := List.mem_of_find?_eq_some e
      have h2 := left_lt (E.desk d (R.pen d h1)) h1 (List.find?_some e)
      omega
  | succ f ih =>
    intro r R
    cases e : r.pending.find? (VD.canP (r.vec k)) with
    | none =>
      rw [run_none e]
      refine ⟨R, ?_, rfl, fun _ _ => rfl, fun _ => e⟩
      rw [R.find E] at e
      show _ = (match r.pending.find? (may (counts n r.applied)) with | none => r.applied | some d => runP n r.pending f (r.applied ++ [d]))
      rw [e]
    | some d =>
      rw [run_some e]
      have e' := e
      rw [R.find E] at e'
      have h1 := List.mem_of_find?_eq_some e'
      have h2 : may (counts n r.applied) d = true := List.find?_some e'
      obtain ⟨a1, a2, a3, a4, a5⟩ := ih (r.app k d) (R.app_ E hk (R.pen d h1) h2)
      refine ⟨a1, ?_, a3, fun j hj => ?_, fun hf => a5 ?_⟩
      · rw [a2]
        show _ = (match r.pending.find? (may (counts n r.applied)) with | none => r.applied | some d => runP n r.pending f (r.applied ++ [d]))
        rw [e']
        rfl
      · rw [a4 j hj]
        show Rep.vec { r with known := r.known.set k _ } j = _
        by_cases hkl : k < r.known.length
        · rw [vec_set hkl, if_neg hj]
        · rw [R.klen] at hkl; omega
      · have := left_lt (E.desk d (R.pen d h1)) h1 h2
        show left n r.pending (r.applied ++ [d]) ≤ f
        omega
theorem left_le (n : Nat) (p t : List Deed) : left n p t ≤ p.length := List.countP_le_length
end VD
end
section
set_option autoImplicit false
namespace VD
open Sq32
theorem rep_set {s : Ses} {k j : Nat} {r : Rep} (h : k < s.reps.length) : Ses.rep { s with reps := s.reps.set k r } j = if j = k then r else s.rep j := by
  unfold Ses.rep
  show ((s.reps.set k r)[j]?).getD _ = _
  rw [List.getElem?_set]
  by_cases e : k = j
  · subst e
    simp [h]
  · have e' : ¬ j = k := fun q => e q.symm
    simp [e, e']
theorem desk_set {h : House} {k j : Nat} {x : Desk} (hk : k < h.desks.length) : (h.set k x).desk j = if j = k then x else h.desk j := by
  unfold House.set House.desk
  show ((h.desks.set k x)[j]?).getD _ = _
  rw [List.getElem?_set]
  by_cases e : k = j
  · subst e
    simp [hk]
  · have e' : ¬ j = k := fun q => e q.symm
    simp [e, e']
section
variable {s : Ses} {h : House}
theorem SInv.has (I : SInv s h) {k : Nat} (hk : k < s.reps.length) : h.has k = (s.rep k).vec k := by
  unfold House.has
  rw [I.hands, (I.rep k hk).taken, (I.rep k hk).vec]
theorem SInv.sure (I : SInv s h) {k j : Nat} (hk : k < s.reps.length) (hj : j < s.reps.length) : h.sure k j = (s.rep k).vec j := by
  unfold House.sure
  by_cases e : k = j
  · subst e
    rw [if_pos rfl, I.has hk]
  · rw [if_neg e, (I.rep k hk).sure j hj fun q => e q.symm, vec_at (by rw [(I.rep k hk).klen]; exact hj)]
    rfl
theorem SInv.at_has (I : SInv s h) {k : Nat} (hk : k < s.reps.length) : at_ (h.has k) k = cr s.events k := by
  rw [I.has hk, (I.rep k hk).vec, created_le (I.rep k hk) hk]
theorem sum_cr : ∀ (n : Nat) (l : List Deed), (∀ d ∈ l, d.desk < n) → ((List.range n).map fun k => cr l k).sum = l.length := by
  intro n l
  induction l with
  | nil =>
    intro _
    unfold cr
    simp only [List.filter_nil, List.length_nil]
    induction n with
    | zero => rfl
    | succ n ih => rw [List.range_succ, List.map_append, List.sum_append, ih fun _ q => (nomatch q)]; simp
  | cons d l ih =>
    intro hd
    have h1 := ih fun x hx => hd x (List.mem_cons_of_mem _ hx)
    have h2 := hd d List.mem_cons_self
    have key : ∀ m, ((List.range m).map fun k => cr (d :: l) k).sum = ((List.range m).map fun k => cr l k).sum + if d.desk < m then 1 else 0 := by
      intro m
      induction m with
      | zero => simp
      | succ m ihm =>
        rw [List.range_succ, List.map_append, List.sum_append, ihm, List.map_append, List.sum_append]
        have e : cr (d :: l) m = cr l m + if d.desk = m then 1 else 0 := by
          unfold cr
          by_cases q : d.desk = m
          · simp [q]
          · simp [q]
        simp only [List.map_cons, List.map_nil, List.sum_cons, List.sum_nil, Nat.add_zero]
        rw [e]
        by_cases q : d.desk = m
        · simp [q]; omega
        · by_cases q2 : d.desk < m
          · have q3 : d.desk < m + 1 := by omega
            simp [q, q2, q3]; omega
          · have q3 : ¬ d.desk < m + 1 := by omega
            simp [q, q2, q3]
    rw [key n, h1, if_pos h2, List.length_cons]
theorem SInv.done (I : SInv s h) : h.done = s.events.length := by
  unfold House.done
  rw [I.hands]
  rw [show ((List.range s.reps.length).map fun k => at_ (h.has k) k) = (List.range s.reps.length).map fun k => cr s.events k from List.map_congr_left fun k hk => I.at_has (List.mem_range.mp hk)]
  exact sum_cr _ _ I.ev.desk
theorem SInv.lacks (I : SInv s h) {k j : Nat} (hk : k < s.reps.length) (hj : j < s.reps.length) : h.lacks k j = (s.rep k).forOther j := by
  unfold House.lacks Rep.forOther
  rw [(I.rep k hk).taken, I.sure hk hj]
  apply List.filter_congr
  intro x _
  unfold was
  by_cases q : x.n ≤ at_ ((s.rep k).vec j) x.desk
  · have q' : ¬ at_ ((s.rep k).vec j) x.desk < x.n := by omega
    simp [q, q']
  · have q' : at_ ((s.rep k).vec j) x.desk < x.n := by omega
    simp [q, q']
/-- one replica is changed, events and messages stand -/
theorem SInv.put (I : SInv s h) {k : Nat} (hk : k < s.reps.length) {r : Rep} {x : Desk} (R : RepInv s.reps.length k s.events r x) : SInv (s.put k r) (h.set k x) := by
  have hl : (s.put k r).reps.length = s.reps.length := List.length_set
  have hd : (h.set k x).desks.length = h.desks.length := List.length_set
  refine ⟨?_, ?_, ?_, ?_, I.letters, fun j hj => ?_, ?_, ?_, I.m200⟩
  · rw [hl]; exact I.hands
  · rw [hl, hd]; exact I.desks
  · rw [hl]; exact I.pos
  · rw [hl]; exact I.le6
  · rw [hl] at hj ⊢
    rw [desk_set (by rw [I.desks]; exact hk), show (s.put k r).rep j = if j = k then r else s.rep j from rep_set hk]
    by_cases e : j = k
    · subst e
      rw [if_pos rfl, if_pos rfl]; exact R
    · rw [if_neg e, if_neg e]; exact I.rep j hj
  · rw [hl]; exact I.ev
  · rw [hl]; exact I.msg
theorem SInv.mail (I : SInv s h) {m : Letter} (hm : MsgInv s.reps.length s.events m) (hs : ¬ 200 ≤ s.msgs.length) : SInv { s with msgs := s.msgs ++ [m] } { h with letters := h.letters ++ [m] } := by
  refine ⟨I.hands, I.desks, I.pos, I.le6, by show h.letters ++ [m] = s.msgs ++ [m]; rw [I.letters], I.rep, I.ev, fun x hx => ?_, ?_⟩
  · rcases List.mem_append.mp (show x ∈ s.msgs ++ [m] from hx) with q | q
    · exact I.msg x q
    · have : x = m := by simpa using q
      subst this; exact hm
  · show (s.msgs ++ [m]).length ≤ 200
    rw [List.length_append, List.length_singleton]
    omega
theorem filter_all {α : Type} {p : α → Bool} : ∀ {l : List α}, (∀ x ∈ l, p x = true) → l.filter p = l
  | [], _ => rfl
  | a :: l, h => by rw [List.filter_cons_of_pos (h a List.mem_cons_self), filter_all fun x hx => h x (List.mem_cons_of_mem _ hx)]
theorem find_none {α : Type} {p : α → Bool} {l : List α} (h : ∀ x ∈ l, p x = false) : l.find? p = none := List.find?_eq_none.mpr fun x hx => by rw [h x hx]; simp
/-- settle where nothing can be applied -/
theorem settle_still {n f : Nat} {taken w : List Deed} (h1 : ∀ d ∈ w, was (counts n taken) d = false) (h2 : ∀ d ∈ w, may (counts n taken) d = false) : settle n (f + 1) taken w = (taken, w) := by
  unfold settle
  dsimp only
  rw [filter_all fun x hx => by rw [h1 x hx]; rfl, find_none h2]
/-! ### begin -/
theorem inv_fresh {n : Nat} (h1 : 1 ≤ n) (h6 : n ≤ 6) : SInv (freshS n) (none_ n) := by
  have hl : (freshS n).reps.length = n := List.length_replicate
  have er : ∀ k, k < n → (freshS n).rep k = ⟨[], [], List.replicate n (List.replicate n 0)⟩ := fun k hk => by
    unfold Ses.rep freshS
    show ((List.replicate n _)[k]?).getD _ = _
    rw [List.getElem?_replicate, if_pos hk]
    rfl
  have ed : ∀ k, k < n → (none_ n).desk k = ⟨[], [], List.replicate n (List.replicate n 0)⟩ := fun k hk => by
    unfold House.desk none_
    show ((List.replicate n _)[k]?).getD _ = _
    rw [List.getElem?_replicate, if_pos hk]
    rfl
  have ev : ∀ k, k < n → Rep.vec ⟨[], [], List.replicate n (List.replicate n 0)⟩ k = List.replicate n 0 := fun k hk => by
    unfold Rep.vec
    rw [List.getElem?_replicate, if_pos hk]
    rfl
  have ec : List.replicate n 0 = counts n [] := by
    apply List.ext_getElem
    · rw [List.length_replicate, counts_length]
    · intro i a b
      unfold counts
      simp
  refine ⟨hl.symm ▸ rfl, ?_, by rw [hl]; exact h1, by rw [hl]; exact h6, rfl, fun k hk => ?_, ?_, fun m hm => (nomatch hm), Nat.zero_le _⟩
  · rw [hl]; exact List.length_replicate
  · rw [hl] at hk ⊢
    rw [er k hk, ed k hk]
    refine ⟨rfl, rfl, List.length_replicate, fun j hj => ?_, List.length_replicate, fun _ _ _ => rfl, ?_, fun _ q => (nomatch q), fun _ q => (nomatch q), List.nodup_nil, fun _ q => (nomatch q), List.Pairwise.nil, fun _ q => (nomatch q), fun _ q => (nomatch q), rfl⟩
    · rw [ev j hj, List.length_replicate]
    · rw [ev k hk, ec]
  · exact ⟨fun _ q => (nomatch q), fun _ q => (nomatch q), fun _ _ _ q => by simp [freshS] at q, fun _ q => (nomatch q), Nat.zero_le _⟩
/-! ### create -/
theorem cr_snoc {l : List Deed} {d : Deed} {j : Nat} : cr (l ++ [d]) j = cr l j + if d.desk = j then 1 else 0 := by
  unfold cr
  rw [List.filter_append, List.length_append]
  by_cases q : d.desk = j
  · simp [q]
  · simp [q]
theorem inv_create (I : SInv s h) {k v : Nat} (hk : k < s.reps.length) (h60 : ¬ 60 ≤ s.events.length) :
    let r := s.rep k
    let d : Deed := ⟨k, at_ (r.vec k) k + 1, r.vec k, v⟩
    SInv { s with reps := s.reps.set k (r.app k d), events := s.events ++ [d] } (h.set k { h.desk k with taken := (h.desk k).taken ++ [d] }) := by
  intro r d
  have R := I.rep k hk
  have hcr : at_ (r.vec k) k = cr s.events k := by rw [R.vec, created_le R hk]
  have hdn : d.n = cr s.events k + 1 := by show at_ (r.vec k) k + 1 = _; rw [hcr]
  have hdk : d.desk = k := rfl
  have hl : (s.reps.set k (r.app k d)).length = s.reps.length := List.length_set
  have hnew : d ∉ s.events := fun q => by
    have := (I.ev.le_cr q).2
    rw [hdk] at this
    omega
  have hmono : ∀ j, cr s.events j ≤ cr (s.events ++ [d]) j := fun j => by rw [cr_snoc]; omega
  have hmay : may (counts s.reps.length r.applied) d = true := by
    unfold may
    rw [← R.vec, Bool.and_eq_true]
    exact ⟨beq_iff_eq.mpr rfl, below_iff.mpr fun j _ => Nat.le_refl _⟩
  have hvec := vec_app (n := s.reps.length) (r := r) (d := d) hk R.klen R.vec hk rfl
  have wasm : ∀ x ∈ s.events, x.desk = k → was (counts s.reps.length r.applied) x = true := fun x hx e => by
    unfold was
    rw [decide_eq_true_eq, e, created_le R hk, ← e]
    exact (I.ev.le_cr hx).2
  refine ⟨?_, ?_, ?_, ?_, I.letters, fun j hj => ?_, ⟨fun x hx => ?_, fun x hx => ?_, fun j i x hx => ?_, fun x hx j hj => ?_, ?_⟩, fun m hm => ?_, I.m200⟩
  · show h.hands = (s.reps.set k _).length; rw [hl]; exact I.hands
  · show (h.desks.set k _).length = (s.reps.set k _).length; rw [hl, List.length_set]; exact I.desks
  · show 1 ≤ (s.reps.set k _).length; rw [hl]; exact I.pos
  · show (s.reps.set k _).length ≤ 6; rw [hl]; exact I.le6
  · have hj' : j < s.reps.length := by rw [← hl]; exact hj
    show RepInv (s.reps.set k _).length j (s.events ++ [d]) _ _
    rw [hl, desk_set (by rw [I.desks]; exact hk), show Ses.rep { s with reps := s.reps.set k (r.app k d), events := s.events ++ [d] } j = if j = k then r.app k d else s.rep j from rep_set (s := s) hk]
    by_cases e : j = k
    · subst e
      rw [if_pos rfl, if_pos rfl]
      refine ⟨?_, R.waits, ?_, fun i hi => ?_, R.slen, fun i hi hne => ?_, hvec, fun x hx => ?_, fun x hx => ?_, ?_, fun x hx => List.mem_append_left _ (R.pen x hx), R.srt, fun x hx => ?_, fun x hx => ?_, ?_⟩
      · show (h.desk j).taken ++ [d] = r.applied ++ [d]; rw [R.taken]
      · show (r.known.set _ _).length = _; rw [List.length_set]; exact R.klen
      · show (Rep.vec { r with known := r.known.set j _ } i).length = _
        rw [vec_set (by rw [R.klen]; exact hk)]
        split
        · rw [List.length_set]; exact R.kl j hk
        · exact R.kl i hi
      · show (h.desk j).sure[i]? = (r.known.set j _)[i]?
        rw [List.getElem?_set_ne fun q => hne q.symm]
        exact R.sure i hi hne
      · rcases List.mem_append.mp (show x ∈ r.applied ++ [d] from hx) with q | q
        · exact List.mem_append_left _ (R.app x q)
        · exact List.mem_append_right _ q
      · show was (counts _ (r.applied ++ [d])) x = true
        rcases List.mem_append.mp (show x ∈ r.applied ++ [d] from hx) with q | q
        · exact was_mono hk (R.in_ x q)
        · have : x = d := by simpa using q
          subst this; exact was_new hk hmay
      · show (r.applied ++ [d]).Nodup
        rw [List.nodup_append]
        refine ⟨R.nod, by simp, fun a ha b hb => ?_⟩
        have : b = d := by simpa using hb
        subst this
        rintro rfl
        exact hnew (R.app _ ha)
      · show was (counts _ (r.applied ++ [d])) x = false
        have h0 := R.notWas x hx
        have hne : ¬ x.desk = j := fun e => by
          rw [wasm x (R.pen x hx) e] at h0
          cases h0
        unfold was at h0 ⊢
        rw [decide_eq_false_iff_not] at h0 ⊢
        rw [counts_snoc (n := s.reps.length) (show d.desk < s.reps.length from hk), at_set (by rw [counts_length]; exact hk), if_neg hne]
        exact h0
      · show may (counts _ (r.applied ++ [d])) x = false
        have h0 := R.notWas x hx
        have h1 := R.notMay x hx
        have hne : ¬ x.desk = j := fun e => by
          rw [wasm x (R.pen x hx) e] at h0
          cases h0
        cases e2 : may (counts s.reps.length (r.applied ++ [d])) x with
        | false => rfl
        | true =>
          exfalso
          have a1 := may_n e2
          have a2 := below_iff.mp (may_below e2)
          rw [counts_snoc (n := s.reps.length) (show d.desk < s.reps.length from hk), at_set (by rw [counts_length]; exact hk), if_neg hne] at a1
          have : may (counts s.reps.length r.applied) x = true := by
            unfold may
            rw [Bool.and_eq_true]
            refine ⟨beq_iff_eq.mpr a1, below_iff.mpr fun i hi => ?_⟩
            have a3 := a2 i hi
            rw [counts_snoc (n := s.reps.length) (show d.desk < s.reps.length from hk), at_set (by rw [counts_length]; exact hk)] at a3
            split at a3
            · rename_i q
              have q' : i = j := q
              subst q'
              rw [created_le R hk]
              exact I.ev.dep x (R.pen x hx) i hk
            · exact a3
          rw [this] at h1
          cases h1
      · show (r.applied ++ [d]).filter (fun x => x.desk == j) = (s.events ++ [d]).filter fun x => x.desk == j
        rw [List.filter_append, List.filter_append, R.own]
    · rw [if_neg e, if_neg e]
      have Rj := I.rep j hj'
      refine ⟨Rj.taken, Rj.waits, Rj.klen, Rj.kl, Rj.slen, Rj.sure, Rj.vec, fun x hx => List.mem_append_left _ (Rj.app x hx), Rj.in_, Rj.nod, fun x hx => List.mem_append_left _ (Rj.pen x hx), Rj.srt, Rj.notWas, Rj.notMay, ?_⟩
      rw [List.filter_append, Rj.own]
      have e' : ¬ k = j := fun q => e q.symm
      simp [hdk, e']
  · show x.desk < (s.reps.set k _).length
    rw [hl]
    rcases List.mem_append.mp (show x ∈ s.events ++ [d] from hx) with q | q
    · exact I.ev.desk x q
    · have : x = d := by simpa using q
      subst this; exact hk
  · show x.after.length = (s.reps.set k _).length
    rw [hl]
    rcases List.mem_append.mp (show x ∈ s.events ++ [d] from hx) with q | q
    · exact I.ev.len x q
    · have : x = d := by simpa using q
      subst this; exact R.kl k hk
  · have hx' : ((s.events ++ [d]).filter fun y => y.desk == j)[i]? = some x := hx
    rw [List.filter_append] at hx'
    by_cases q : i < (s.events.filter fun y => y.desk == j).length
    · rw [List.getElem?_append_left q] at hx'
      exact I.ev.num j i x hx'
    · rw [List.getElem?_append_right (by omega)] at hx'
      by_cases e : k = j
      · subst e
        have e1 : ([d].filter fun y => y.desk == k) = [d] := by simp [hdk]
        rw [e1] at hx'
        have hi : i - (s.events.filter fun y => y.desk == k).length = 0 := by
          have := (List.getElem?_eq_some_iff.mp hx').1
          rw [List.length_singleton] at this
          omega
        rw [hi] at hx'
        have : d = x := by simpa using hx'
        subst this
        rw [hdn]
        unfold cr
        omega
      · have e1 : ([d].filter fun y => y.desk == j) = [] := by simp [hdk, e]
        rw [e1] at hx'
        simp at hx'
  · show at_ x.after j ≤ cr (s.events ++ [d]) j
    have hj' : j < s.reps.length := by rw [← hl]; exact hj
    refine Nat.le_trans ?_ (hmono j)
    rcases List.mem_append.mp (show x ∈ s.events ++ [d] from hx) with q | q
    · exact I.ev.dep x q j hj'
    · have : x = d := by simpa using q
      subst this
      show at_ (r.vec k) j ≤ _
      rw [R.vec, at_counts hj']
      exact length_le_of_subset (R.nod.sublist List.filter_sublist) fun y hy => by
        obtain ⟨y1, y2⟩ := List.mem_filter.mp hy
        exact List.mem_filter.mpr ⟨R.app y y1, y2⟩
  · show (s.events ++ [d]).length ≤ 60
    rw [List.length_append, List.length_singleton]
    omega
  · have M := I.msg m hm
    show MsgInv (s.reps.set k _).length (s.events ++ [d]) m
    rw [hl]
    exact ⟨M.from_, M.to, M.ne, M.has, fun x hx => List.mem_append_left _ (M.deeds x hx), M.most⟩
theorem step_create (I : SInv s h) {k v : Nat} (hk : k < s.reps.length) (h60 : ¬ 60 ≤ s.events.length) :
    let x := h.desk k
    let d : Deed := ⟨k, at_ (h.has k) k + 1, h.has k, v⟩
    settle h.hands (x.waits.length + 1) (x.taken ++ [d]) x.waits = (x.taken ++ [d], x.waits) := by
  intro x d
  have R := I.rep k hk
  have C := inv_create I (v := v) hk h60
  have hl : (s.reps.set k ((s.rep k).app k d)).length = s.reps.length := List.length_set
  have ed : d = ⟨k, at_ ((s.rep k).vec k) k + 1, (s.rep k).vec k, v⟩ := by
    show (⟨k, at_ (h.has k) k + 1, h.has k, v⟩ : Deed) = _
    rw [I.has hk]
  have Rk := C.rep k (by show k < (s.reps.set k _).length; rw [List.length_set]; exact hk)
  rw [← ed] at Rk
  rw [show Ses.rep { s with reps := s.reps.set k ((s.rep k).app k d), events := s.events ++ [d] } k = (s.rep k).app k d from (rep_set (s := s) hk).trans (if_pos rfl)] at Rk
  have e1 : ((s.rep k).app k d).applied = x.taken ++ [d] := by show (s.rep k).applied ++ [d] = _; rw [← R.taken]
  have h1 := Rk.notWas
  have h2 := Rk.notMay
  rw [e1] at h1 h2
  have hn : (Ses.mk (s.reps.set k ((s.rep k).app k d)) (s.events ++ [d]) s.msgs).reps.length = h.hands := hl.trans I.hands.symm
  have hp : ((s.rep k).app k d).pending = x.waits := R.waits.symm
  rw [hn, hp] at h1 h2
  exact settle_still h1 h2
end
end VD
end
section
set_option autoImplicit false
namespace VD
open Sq32
theorem maxs_length {a b : Counts} (hl : a.length = b.length) : (maxs a b).length = a.length := by
  unfold maxs
  rw [List.length_map, List.length_zip, hl, Nat.min_self]
theorem zip_at {a b : Counts} {i : Nat} (h1 : i < a.length) (h2 : i < b.length) : (a.zip b)[i]? = some (at_ a i, at_ b i) := by
  rw [List.getElem?_zip_eq_some, at_lt h1, at_lt h2]
  exact ⟨List.getElem?_eq_getElem h1, List.getElem?_eq_getElem h2⟩
theorem at_maxs {a b : Counts} (hl : a.length = b.length) {i : Nat} (hi : i < a.length) : at_ (maxs a b) i = max (at_ a i) (at_ b i) := by
  have e : at_ (maxs a b) i = if at_ b i > at_ a i then at_ b i else at_ a i := by
    show ((maxs a b)[i]?).getD 0 = _
    unfold maxs
    rw [List.getElem?_map, zip_at hi (hl ▸ hi)]
    rfl
  rw [e]
  split <;> omega
theorem mins_length {a b : Counts} (hl : a.length = b.length) : (mins a b).length = a.length := by
  unfold mins
  rw [List.length_map, List.length_zip, hl, Nat.min_self]
theorem at_mins {a b : Counts} (hl : a.length = b.length) {i : Nat} (hi : i < a.length) : at_ (mins a b) i = min (at_ a i) (at_ b i) := by
  have e : at_ (mins a b) i = if at_ b i < at_ a i then at_ b i else at_ a i := by
    show ((mins a b)[i]?).getD 0 = _
    unfold mins
    rw [List.getElem?_map, zip_at hi (hl ▸ hi)]
    rfl
  rw [e]
  split <;> omega
theorem at_tab {n : Nat} {g : Nat → Nat} {i : Nat} (hi : i < n) : at_ ((List.range n).map g) i = g i := by
  show (((List.range n).map g)[i]?).getD 0 = _
  rw [List.getElem?_map, List.getElem?_range hi]
  rfl
theorem maxs_most {a b : Counts} (hl : a.length = b.length) : maxs a b = most a b := by
  have hm : (most a b).length = a.length := by
    unfold most
    rw [List.length_map, List.length_range]
  apply ext_at (by rw [maxs_length hl, hm])
  intro i h1
  rw [maxs_length hl] at h1
  rw [at_maxs hl h1]
  unfold most
  exact (at_tab (g := fun i => max (at_ a i) (at_ b i)) h1).symm
section
variable {s : Ses} {h : House}
theorem RepInv.arrive {n k : Nat} {evs : List Deed} {r : Rep} {x : Desk} (R : RepInv n k evs r x) (E : EvInv n evs) {l : List Deed} (hl : ∀ d ∈ l, d ∈ evs) :
    (r.arrive l).pending = l.foldl (fun (w : List Deed) d => wait d w) x.waits ∧ (r.arrive l).pending.Pairwise Lt2 ∧ RunInv n k evs (r.arrive l) := by
  have e : (r.arrive l).pending = l.foldl (fun (w : List Deed) d => wait d w) x.waits := by
    rw [R.waits]
    exact sort_wait E.keyed hl R.pen R.srt
  obtain ⟨w1, w2⟩ := waits_ok E.keyed hl R.pen R.srt
  rw [R.waits] at e
  refine ⟨by rw [R.waits]; exact e, by rw [e]; exact w1, ⟨R.klen, R.vec, R.app, R.in_, R.nod, fun d hd => ?_, R.own⟩⟩
  rw [e] at hd
  rcases (w2 d).mp hd with q | q
  · exact hl d q
  · exact R.pen d q
theorem inv_deliver (I : SInv s h) {m : Letter} (hm : m ∈ s.msgs) :
    let x := (h.desk m.to).gets h.hands m.deeds
    let y : Desk := { x with sure := x.sure.set m.from_ (most ((x.sure[m.from_]?).getD (List.replicate h.hands 0)) m.has) }
    let r1 := (s.rep m.to).receive m.to m.deeds
    SInv (s.put m.to (r1.learn m.from_ m.has)) (h.set m.to y) ∧ y.taken = r1.applied ∧ y.waits = r1.pending := by
  intro x y r1
  have M := I.msg m hm
  have R := I.rep m.to M.to
  obtain ⟨a1, a2, a3⟩ := R.arrive I.ev M.deeds
  obtain ⟨b1, b2, b3, b4, b5⟩ := run_ok I.ev M.to ((s.rep m.to).arrive m.deeds).pending.length _ a3
  have c := settle_run (n := s.reps.length) (pending := ((s.rep m.to).arrive m.deeds).pending) (fun d hd => I.ev.desk d (a3.pen d hd)) (((s.rep m.to).arrive m.deeds).pending.length + 1) ((s.rep m.to).arrive m.deeds).pending.length (h.desk m.to).taken ((s.rep m.to).arrive m.deeds).pending rfl
    (Nat.lt_succ_of_le (left_le _ _ _)) (left_le _ _ _)
  have ht : x.taken = r1.applied ∧ x.waits = r1.pending ∧ x.sure = (h.desk m.to).sure := by
    have c' := c
    rw [a1, ← I.hands] at c'
    have e2 : runP s.reps.length ((s.rep m.to).arrive m.deeds).pending ((s.rep m.to).arrive m.deeds).pending.length (h.desk m.to).taken = r1.applied := by
      show _ = (Rep.run m.to _ _).applied
      rw [b2, R.taken]
      rfl
    refine ⟨?_, ?_, rfl⟩
    · show (settle h.hands _ _ _).1 = _
      rw [c']
      show runP h.hands _ _ _ = _
      rw [← a1, I.hands]
      exact e2
    · show (settle h.hands _ _ _).2 = _
      rw [c']
      show List.filter _ _ = _
      rw [← a1, I.hands, e2]
      show _ = (Rep.run m.to _ _).pending.filter _
      rw [b3]
      apply List.filter_congr
      intro d _
      rw [b1.vec]
      rfl
  obtain ⟨t1, t2, t3⟩ := ht
  have hn1 : m.from_ < r1.known.length := by show _ < (Rep.run m.to _ _).known.length; rw [b1.klen]; exact M.from_
  have hk1 : r1.known.length = s.reps.length := b1.klen
  have hv1 : r1.vec m.to = counts s.reps.length r1.applied := b1.vec
  have hvo : ∀ j, j ≠ m.to → r1.vec j = (s.rep m.to).vec j := b4
  have hvl : ∀ j, j < s.reps.length → (r1.vec j).length = s.reps.length := fun j hj => by
    by_cases e : j = m.to
    · subst e; rw [hv1, counts_length]
    · rw [hvo j e]; exact R.kl j hj
  have hfrom : (r1.vec m.from_).length = m.has.length := by rw [hvl _ M.from_, M.has]
  have hl2 : ∀ j, (r1.learn m.from_ m.has).vec j = if j = m.from_ then maxs (r1.vec m.from_) m.has else r1.vec j := fun j => vec_set hn1
  refine ⟨?_, t1, t2⟩
  refine I.put M.to ⟨t1, t2, ?_, fun j hj => ?_, ?_, fun j hj hne => ?_, ?_, b1.app, b1.in_, b1.nod, fun d hd => ?_, ?_, fun d hd => ?_, fun d hd => ?_, b1.own⟩
  · show (r1.known.set _ _).length = _; rw [List.length_set]; exact hk1
  · rw [hl2 j]
    split
    · rw [maxs_length hfrom, hvl _ M.from_]
    · exact hvl j hj
  · show (x.sure.set _ _).length = _; rw [List.length_set, t3]; exact R.slen
  · show (x.sure.set _ _)[j]? = (r1.known.set _ _)[j]?
    rw [List.getElem?_set, List.getElem?_set]
    by_cases e : m.from_ = j
    · subst e
      rw [if_pos rfl, if_pos rfl, if_pos (by rw [t3, R.slen]; exact hj), if_pos hn1, t3, R.sure _ hj M.ne, maxs_most hfrom]
      have e3 : (s.rep m.to).known[m.from_]? = some (r1.vec m.from_) := by rw [hvo _ M.ne]; exact vec_at (by rw [R.klen]; exact hj)
      rw [e3]
      rfl
    · rw [if_neg e, if_neg e, t3, R.sure j hj hne, vec_at (by rw [R.klen]; exact hj), vec_at (by rw [hk1]; exact hj), hvo j hne]
  · rw [hl2, if_neg fun q => M.ne q.symm]
    exact hv1
  · have hd' : d ∈ r1.pending := hd
    obtain ⟨q1, _⟩ := List.mem_filter.mp (show d ∈ (Rep.run m.to _ _).pending.filter _ from hd')
    exact b1.pen d q1
  · show ((Rep.run m.to _ _).pending.filter _).Pairwise Lt2
    rw [b3]
    exact a2.sublist List.filter_sublist
  · obtain ⟨_, q2⟩ := List.mem_filter.mp (show d ∈ (Rep.run m.to _ _).pending.filter _ from hd)
    rw [b1.vec] at q2
    show was (counts _ (Rep.run m.to _ _).applied) d = false
    simpa using q2
  · obtain ⟨q1, _⟩ := List.mem_filter.mp (show d ∈ (Rep.run m.to _ _).pending.filter _ from hd)
    have q3 := b5 (left_le _ _ _)
    rw [b1.find I.ev] at q3
    show may (counts _ (Rep.run m.to _ _).applied) d = false
    have := List.find?_eq_none.mp q3 d q1
    simpa using this
theorem told_eq (l : List Deed) : toldP l = (told l).value :: (told l).out := rfl
theorem ev_deed (I : SInv s h) (d n : Nat) : s.ev d n = h.deed d n := by
  unfold Ses.ev House.deed
  have hflt : (s.events.find? fun e => e.desk == d && e.n == n) = (s.events.filter fun e => e.desk == d).find? fun e => e.n == n := by
    rw [List.find?_filter]
    congr 1
    funext a
    rw [Bool.eq_iff_iff, Bool.and_eq_true, decide_eq_true_eq]
  rw [hflt]
  have hdesk : (h.desk d).taken.filter (fun e => e.desk == d) = s.events.filter fun e => e.desk == d := by
    by_cases hd : d < s.reps.length
    · rw [(I.rep d hd).taken, (I.rep d hd).own]
    · have e1 : h.desk d = ⟨[], [], []⟩ := by
        unfold House.desk
        rw [List.getElem?_eq_none (by rw [I.desks]; omega)]
        rfl
      rw [e1]
      symm
      rw [List.filter_nil, List.filter_eq_nil_iff]
      intro x hx
      have := I.ev.desk x hx
      have q : ¬ x.desk = d := by omega
      simp [q]
  rw [hdesk]
  have key : ∀ (l : List Deed) (o : Nat), (∀ (i : Nat) x, l[i]? = some x → x.n = o + i + 1) → l.find? (fun e => e.n == n) = if n ≤ o then none else l[n - o - 1]? := by
    intro l
    induction l with
    | nil => intro o _; simp
    | cons a l ih =>
      intro o hx
      have ha : a.n = o + 1 := hx 0 a rfl
      have ih' := ih (o + 1) fun i x hi => by
        have := hx (i + 1) x hi
        omega
      rw [List.find?_cons]
      by_cases e : n = o + 1
      · subst e
        have q : (a.n == o + 1) = true := beq_iff_eq.mpr ha
        rw [q, if_neg (by omega)]
        have : o + 1 - o - 1 = 0 := by omega
        rw [this]
        rfl
      · have q : (a.n == n) = false := beq_eq_false_iff_ne.mpr (by omega)
        rw [q]
        dsimp only
        rw [ih']
        by_cases e2 : n ≤ o
        · rw [if_pos (by omega), if_pos e2]
        · rw [if_neg (by omega), if_neg e2]
          have : n - o - 1 = (n - (o + 1) - 1) + 1 := by omega
          rw [this, List.getElem?_cons_succ]
  rw [key _ 0 fun i x hi => by rw [I.ev.num d i x hi]; omega]
  by_cases e : n = 0
  · subst e; rfl
  · rw [if_neg (by omega), if_neg e]
    rfl
theorem fold_min {n : Nat} (f : Nat → Counts) (hf : ∀ j, j < n → (f j).length = n) (c : Counts) (hc : c.length = n) : ∀ (m : Nat), m ≤ n →
    ((List.range m).map f).foldl mins c = (List.range m).foldl (fun (c : Counts) j => (List.range n).map fun i => min (at_ c i) (at_ (f j) i)) c ∧ (((List.range m).map f).foldl mins c).length = n := by
  intro m
  induction m with
  | zero => intro _; exact ⟨rfl, hc⟩
  | succ m ih =>
    intro hm
    obtain ⟨h1, h2⟩ := ih (by omega)
    have hl : (((List.range m).map f).foldl mins c).length = (f m).length := by rw [h2, hf m (by omega)]
    have hlen : (mins (((List.range m).map f).foldl mins c) (f m)).length = n := by rw [mins_length hl, h2]
    rw [List.range_succ, List.map_append, List.foldl_append, List.foldl_append]
    refine ⟨?_, hlen⟩
    show mins _ (f m) = (List.range n).map _
    rw [← h1]
    apply ext_at
    · rw [hlen, List.length_map, List.length_range]
    · intro i a
      rw [hlen] at a
      rw [at_mins hl (by rw [h2]; exact a), at_tab a]
theorem known_range {n : Nat} {r : Rep} (hl : r.known.length = n) : r.known = (List.range n).map r.vec := by
  apply List.ext_getElem
  · rw [hl, List.length_map, List.length_range]
  · intro i a b
    have := vec_at (r := r) (k := i) a
    rw [List.getElem?_eq_getElem a] at this
    simp only [List.getElem_map, List.getElem_range]
    exact Option.some.inj this
theorem stable_all (I : SInv s h) {k : Nat} (hk : k < s.reps.length) : s.stable k = h.all k := by
  have R := I.rep k hk
  unfold Ses.stable House.all
  rw [known_range R.klen, I.hands, I.has hk]
  rw [(fold_min (n := s.reps.length) (s.rep k).vec R.kl _ (R.kl k hk) s.reps.length (Nat.le_refl _)).1]
  have key : ∀ (l : List Nat) (c : Counts), (∀ j ∈ l, j < s.reps.length) → l.foldl (fun (c : Counts) j => (List.range s.reps.length).map fun i => min (at_ c i) (at_ ((s.rep k).vec j) i)) c = l.foldl (fun (c : Counts) j => (List.range s.reps.length).map fun i => min (at_ c i) (at_ (h.sure k j) i)) c := by
    intro l
    induction l with
    | nil => intro c _; rfl
    | cons j l ih =>
      intro c hj
      rw [List.foldl_cons, List.foldl_cons, I.sure hk (hj j List.mem_cons_self)]
      exact ih _ fun i hi => hj i (List.mem_cons_of_mem _ hi)
  exact key _ _ fun j hj => List.mem_range.mp hj
theorem desk_lt (I : SInv s h) {k : Nat} : (h.hands ≤ k) = (s.reps.length ≤ k) := by rw [I.hands]
/-- THE STEP: the program's state goes on as the specification's, and answers alike -/
theorem step_ok (I : SInv s h) (c : Sq32.Call) : SInv (s.step c).1 (h.step c).1 ∧ (s.step c).2 = (h.step c).2.value :: (h.step c).2.out := by
  cases c with
  | begin_ n =>
    show SInv (if n = 0 ∨ 6 < n then (s, [-1]) else (freshS n, [0])).1 (if n = 0 ∨ HANDS < n then (h, says (-1)) else (none_ n, says 0)).1 ∧ _ = (if n = 0 ∨ HANDS < n then (h, says (-1)) else (none_ n, says 0)).2.value :: (if n = 0 ∨ HANDS < n then (h, says (-1)) else (none_ n, says 0)).2.out
    by_cases e : n = 0 ∨ 6 < n
    · rw [if_pos e, if_pos (show n = 0 ∨ HANDS < n from e)]
      refine ⟨I, ?_⟩
      show (if n = 0 ∨ 6 < n then (s, [-1]) else (freshS n, [0])).2 = _
      rw [if_pos e]; rfl
    · rw [if_neg e, if_neg (show ¬ (n = 0 ∨ HANDS < n) from e)]
      refine ⟨inv_fresh (by omega) (by omega), ?_⟩
      show (if n = 0 ∨ 6 < n then (s, [-1]) else (freshS n, [0])).2 = _
      rw [if_neg e]; rfl
  | does k v =>
    simp only [Ses.step, House.step]
    by_cases e1 : s.reps.length ≤ k
    · rw [if_pos e1, if_pos (show h.hands ≤ k by rw [I.hands]; exact e1)]
      exact ⟨I, rfl⟩
    · rw [if_neg e1, if_neg (show ¬ (h.hands ≤ k) by rw [I.hands]; exact e1)]
      by_cases e2 : 1000000000 < v
      · rw [if_pos e2, if_pos (show SAYS < v from e2)]
        exact ⟨I, rfl⟩
      · rw [if_neg e2, if_neg (show ¬ SAYS < v from e2)]
        by_cases e3 : 60 ≤ s.events.length
        · rw [if_pos e3, if_pos (show DEEDS ≤ h.done by rw [I.done]; exact e3)]
          exact ⟨I, rfl⟩
        · rw [if_neg e3, if_neg (show ¬ DEEDS ≤ h.done by rw [I.done]; exact e3)]
          have hk : k < s.reps.length := by omega
          have st := step_create I (v := v) hk e3
          have C := inv_create I (v := v) hk e3
          dsimp only at st C ⊢
          rw [st, I.has hk]
          exact ⟨C, rfl⟩
  | send k j =>
    simp only [Ses.step, House.step]
    by_cases e1 : s.reps.length ≤ k ∨ s.reps.length ≤ j ∨ k = j
    · rw [if_pos e1, if_pos (show h.hands ≤ k ∨ h.hands ≤ j ∨ k = j by rw [I.hands]; exact e1)]
      exact ⟨I, rfl⟩
    · rw [if_neg e1, if_neg (show ¬ (h.hands ≤ k ∨ h.hands ≤ j ∨ k = j) by rw [I.hands]; exact e1)]
      by_cases e2 : 200 ≤ s.msgs.length
      · rw [if_pos e2, if_pos (show LETTERS ≤ h.letters.length by rw [I.letters]; exact e2)]
        exact ⟨I, rfl⟩
      · rw [if_neg e2, if_neg (show ¬ LETTERS ≤ h.letters.length by rw [I.letters]; exact e2)]
        have hk : k < s.reps.length := by omega
        have hj : j < s.reps.length := by omega
        have hkj : k ≠ j := fun q => e1 (.inr (.inr q))
        have R := I.rep k hk
        dsimp only
        rw [I.has hk, I.lacks hk hj]
        refine ⟨?_, by rw [I.letters]⟩
        exact I.mail (m := ⟨k, j, (s.rep k).vec k, (s.rep k).forOther j⟩) ⟨hk, hj, hkj, R.kl k hk, fun d hd => R.app d (List.mem_filter.mp hd).1, Nat.le_trans (List.length_filter_le _ _) (R.app60 I.ev)⟩ e2
  | post k j d n =>
    simp only [Ses.step, House.step]
    by_cases e1 : s.reps.length ≤ k ∨ s.reps.length ≤ j ∨ k = j
    · rw [if_pos e1, if_pos (show h.hands ≤ k ∨ h.hands ≤ j ∨ k = j by rw [I.hands]; exact e1)]
      exact ⟨I, rfl⟩
    · rw [if_neg e1, if_neg (show ¬ (h.hands ≤ k ∨ h.hands ≤ j ∨ k = j) by rw [I.hands]; exact e1)]
      have hk : k < s.reps.length := by omega
      have hj : j < s.reps.length := by omega
      have hkj : k ≠ j := fun q => e1 (.inr (.inr q))
      have R := I.rep k hk
      rw [R.taken]
      cases e : (s.rep k).applied.find? (fun e => e.desk == d && e.n == n) with
      | none => exact ⟨I, rfl⟩
      | some x =>
        dsimp only
        by_cases e2 : 200 ≤ s.msgs.length
        · rw [if_pos e2, if_pos (show LETTERS ≤ h.letters.length by rw [I.letters]; exact e2)]
          exact ⟨I, rfl⟩
        · rw [if_neg e2, if_neg (show ¬ LETTERS ≤ h.letters.length by rw [I.letters]; exact e2)]
          rw [I.has hk]
          refine ⟨?_, by rw [I.letters]; rfl⟩
          refine I.mail (m := ⟨k, j, (s.rep k).vec k, [x]⟩) ⟨hk, hj, hkj, R.kl k hk, fun y hy => ?_, by show 1 ≤ 60; omega⟩ e2
          have : y = x := by simpa using hy
          subst this
          exact R.app y (List.mem_of_find?_eq_some e)
  | comes i =>
    simp only [Ses.step, House.step]
    rw [I.letters]
    cases e : s.msgs[i]? with
    | none => exact ⟨I, rfl⟩
    | some m =>
      have hm : m ∈ s.msgs := List.mem_of_getElem? e
      obtain ⟨a1, a2, a3⟩ := inv_deliver I hm
      dsimp only at a1 a2 a3 ⊢
      refine ⟨a1, ?_⟩
      rw [a2, a3, (I.rep m.to (I.msg m hm).to).taken]
      rfl
  | taken k =>
    simp only [Ses.step, House.step]
    by_cases e1 : s.reps.length ≤ k
    · rw [if_pos e1, if_pos (show h.hands ≤ k by rw [I.hands]; exact e1)]
      exact ⟨I, rfl⟩
    · rw [if_neg e1, if_neg (show ¬ (h.hands ≤ k) by rw [I.hands]; exact e1), (I.rep k (by omega)).taken]
      exact ⟨I, rfl⟩
  | waits k =>
    simp only [Ses.step, House.step]
    by_cases e1 : s.reps.length ≤ k
    · rw [if_pos e1, if_pos (show h.hands ≤ k by rw [I.hands]; exact e1)]
      exact ⟨I, rfl⟩
    · rw [if_neg e1, if_neg (show ¬ (h.hands ≤ k) by rw [I.hands]; exact e1), (I.rep k (by omega)).waits]
      exact ⟨I, rfl⟩
  | has k =>
    simp only [Ses.step, House.step]
    by_cases e1 : s.reps.length ≤ k
    · rw [if_pos e1, if_pos (show h.hands ≤ k by rw [I.hands]; exact e1)]
      exact ⟨I, rfl⟩
    · rw [if_neg e1, if_neg (show ¬ (h.hands ≤ k) by rw [I.hands]; exact e1), I.has (by omega)]
      exact ⟨I, rfl⟩
  | sure k j =>
    simp only [Ses.step, House.step]
    by_cases e1 : s.reps.length ≤ k ∨ s.reps.length ≤ j
    · rw [if_pos e1, if_pos (show h.hands ≤ k ∨ h.hands ≤ j by rw [I.hands]; exact e1)]
      exact ⟨I, rfl⟩
    · rw [if_neg e1, if_neg (show ¬ (h.hands ≤ k ∨ h.hands ≤ j) by rw [I.hands]; exact e1), I.sure (by omega) (by omega)]
      exact ⟨I, rfl⟩
  | all k =>
    simp only [Ses.step, House.step]
    by_cases e1 : s.reps.length ≤ k
    · rw [if_pos e1, if_pos (show h.hands ≤ k by rw [I.hands]; exact e1)]
      exact ⟨I, rfl⟩
    · rw [if_neg e1, if_neg (show ¬ (h.hands ≤ k) by rw [I.hands]; exact e1), stable_all I (by omega)]
      exact ⟨I, rfl⟩
  | hangs d n e m =>
    simp only [Ses.step, House.step]
    rw [ev_deed I, ev_deed I]
    cases h.deed d n with
    | none => exact ⟨I, rfl⟩
    | some x =>
      cases h.deed e m with
      | none => exact ⟨I, rfl⟩
      | some y => exact ⟨I, rfl⟩
  | letter i =>
    simp only [Ses.step, House.step]
    rw [I.letters]
    cases s.msgs[i]? with
    | none => exact ⟨I, rfl⟩
    | some m => exact ⟨I, rfl⟩
end
end VD
end
section
set_option autoImplicit false
namespace VD
open Sq32
theorem whole_id (c : List (List Int)) : PySq32.whole c = c := by
  unfold PySq32.whole
  split <;> rfl
theorem ite_zero {p : Prop} [Decidable p] {a n k : Nat} {X : Option (Nat × Nat)} (h : (if p then some (a, 0) else X) = some (n, k)) (hx : X = some (n, k) → k = 0) : k = 0 := by
  by_cases e : p
  · rw [if_pos e] at h
    injection h with h
    injection h with _ h
    exact h.symm
  · rw [if_neg e] at h
    exact hx h
theorem shape_zero {p : Int} {n k : Nat} (h : PySq32.shape p = some (n, k)) : k = 0 := by
  unfold PySq32.shape at h
  refine ite_zero h fun h => ite_zero h fun h => ite_zero h fun h => ite_zero h fun h => ite_zero h fun h => ite_zero h fun h => ite_zero h fun h => ite_zero h fun h => ite_zero h fun h => ite_zero h fun h => ite_zero h fun h => ite_zero h fun h => ?_
  cases h
theorem calls_nil {f : Nat} {cs : List (List (List Int))} (h : PyFlat.calls PySq32.shape f [] = some cs) : cs = [] := by
  cases f <;> exact (Option.some.inj h).symm
theorem calls_cons {f : Nat} {p : Int} {r : List Int} {cs : List (List (List Int))} (h : PyFlat.calls PySq32.shape f (p :: r) = some cs) :
    ∃ (f' n : Nat) (cs' : List (List (List Int))), PySq32.shape p = some (n, 0) ∧ n ≤ r.length ∧ cs = [p :: r.take n] :: cs' ∧ PyFlat.calls PySq32.shape f' (r.drop n) = some cs' := by
  cases f with
  | zero => cases h
  | succ f =>
    unfold PyFlat.calls at h
    cases e : PyFlat.call PySq32.shape (p :: r) with
    | none => rw [e] at h; cases h
    | some x =>
      obtain ⟨c, t⟩ := x
      rw [e] at h
      dsimp only at h
      cases e2 : PyFlat.calls PySq32.shape f t with
      | none => rw [e2] at h; cases h
      | some cs' =>
        rw [e2] at h
        have hcs := (Option.some.inj h).symm
        unfold PyFlat.call at e
        dsimp only at e
        cases e3 : PySq32.shape p with
        | none => rw [e3] at e; cases e
        | some nk =>
          obtain ⟨n, k⟩ := nk
          have hk := shape_zero e3
          subst hk
          rw [e3] at e
          dsimp only at e
          by_cases hn : r.length < n
          · rw [if_pos hn] at e; cases e
          · rw [if_neg hn] at e
            have e4 : PyFlat.rows 0 (r.drop n) = some ([], r.drop n) := rfl
            rw [e4] at e
            have e5 := Option.some.inj e
            injection e5 with e6 e7
            subst e6 e7
            exact ⟨f, n, cs', rfl, by omega, hcs, e2⟩
theorem nat_of {a : Int} (h : Sq32Neutral.natural a 64 = true) : a = ((a.toNat : Nat) : Int) := by
  unfold Sq32Neutral.natural at h
  rw [Bool.and_eq_true] at h
  have := of_decide_eq_true h.1
  omega
/-- what a call is -/
inductive Is : List (List Int) → Sq32.Call → Prop
  | begin_ (n : Nat) : Is [[1, (n : Int)]] (.begin_ n)
  | does (k v : Nat) : Is [[2, (k : Int), (v : Int)]] (.does k v)
  | send (k j : Nat) : Is [[3, (k : Int), (j : Int)]] (.send k j)
  | post (k j d n : Nat) : Is [[4, (k : Int), (j : Int), (d : Int), (n : Int)]] (.post k j d n)
  | comes (i : Nat) : Is [[5, (i : Int)]] (.comes i)
  | taken (k : Nat) : Is [[6, (k : Int)]] (.taken k)
  | waits (k : Nat) : Is [[7, (k : Int)]] (.waits k)
  | has (k : Nat) : Is [[8, (k : Int)]] (.has k)
  | sure (k j : Nat) : Is [[9, (k : Int), (j : Int)]] (.sure k j)
  | all (k : Nat) : Is [[10, (k : Int)]] (.all k)
  | hangs (d n e m : Nat) : Is [[11, (d : Int), (n : Int), (e : Int), (m : Int)]] (.hangs d n e m)
  | letter (i : Nat) : Is [[12, (i : Int)]] (.letter i)
theorem is_call {c : List (List Int)} {x : Sq32.Call} (h : Is c x) : Sq32Neutral.callOf c = some x := by
  cases h <;> rfl
theorem call_is {c : List (List Int)} (h : Sq32Neutral.asked1 c = true) : ∃ x, Is c x := by
  unfold Sq32Neutral.asked1 at h
  split at h
  · rw [nat_of h]; exact ⟨_, .begin_ _⟩
  · rw [Bool.and_eq_true] at h; rw [nat_of h.1, nat_of h.2]; exact ⟨_, .does _ _⟩
  · rw [Bool.and_eq_true] at h; rw [nat_of h.1, nat_of h.2]; exact ⟨_, .send _ _⟩
  · rw [Bool.and_eq_true, Bool.and_eq_true, Bool.and_eq_true] at h; rw [nat_of h.1, nat_of h.2.1, nat_of h.2.2.1, nat_of h.2.2.2]; exact ⟨_, .post _ _ _ _⟩
  · rw [nat_of h]; exact ⟨_, .comes _⟩
  · rw [nat_of h]; exact ⟨_, .taken _⟩
  · rw [nat_of h]; exact ⟨_, .waits _⟩
  · rw [nat_of h]; exact ⟨_, .has _⟩
  · rw [Bool.and_eq_true] at h; rw [nat_of h.1, nat_of h.2]; exact ⟨_, .sure _ _⟩
  · rw [nat_of h]; exact ⟨_, .all _⟩
  · rw [Bool.and_eq_true, Bool.and_eq_true, Bool.and_eq_true] at h; rw [nat_of h.1, nat_of h.2.1, nat_of h.2.2.1, nat_of h.2.2.2]; exact ⟨_, .hangs _ _ _ _⟩
  · rw [nat_of h]; exact ⟨_, .letter _⟩
  · cases h
/-- the program played -/
inductive Plays : Ses → List (List (List Int)) → List (List Int) → Prop
  | nil (s : Ses) : Plays s [] []
  | cons {s : Ses} {c : List (List Int)} {cs : List (List (List Int))} {x : Sq32.Call} {os : List (List Int)} : Is c x → Plays (s.step x).1 cs os → Plays s (c :: cs) ((s.step x).2 :: os)
theorem plays : ∀ (cs : List (List (List Int))) (s : Ses) (h : House), SInv s h → (∀ c ∈ cs, Sq32Neutral.asked1 c = true) → Plays s cs (PyFlat.played Sq32Neutral.step h cs)
  | [], s, _, _, _ => .nil s
  | c :: cs, s, h, I, ha => by
    obtain ⟨x, hx⟩ := call_is (ha c List.mem_cons_self)
    obtain ⟨I2, e⟩ := step_ok I x
    have e1 : Sq32Neutral.step h c = ((h.step x).1, (h.step x).2.value :: (h.step x).2.out) := by
      unfold Sq32Neutral.step
      rw [is_call hx]
    have ih := plays cs _ _ I2 fun c hc => ha c (List.mem_cons_of_mem _ hc)
    show Plays s (c :: cs) ((Sq32Neutral.step h c).2 :: PyFlat.played Sq32Neutral.step (Sq32Neutral.step h c).1 cs)
    rw [e1, ← e]
    exact .cons hx ih
theorem asked_parts {l : List Int} (h : PySq32.answers_asked l = true) :
    ∃ cs os, PyFlat.calls PySq32.shape l.length l = some cs ∧ Plays (freshS 1) cs os ∧ PySq32.answers l = PyFlat.told os ∧ (PyFlat.told os).length ≤ 10000000 := by
  unfold PySq32.answers_asked at h
  cases e : PyFlat.calls PySq32.shape l.length l with
  | none => rw [e] at h; cases h
  | some raw =>
    rw [e] at h
    dsimp only at h
    rw [Bool.and_eq_true, Bool.and_eq_true] at h
    obtain ⟨⟨_, ha⟩, hs⟩ := h
    have hw : raw.map PySq32.whole = raw := by
      rw [show PySq32.whole = id from funext whole_id, List.map_id]
    rw [hw] at ha
    unfold Sq32Neutral.asked at ha
    rw [Bool.and_eq_true, Bool.and_eq_true, Bool.and_eq_true] at ha
    have hall := List.all_eq_true.mp ha.2.2.1
    have P := plays raw (freshS 1) (none_ 1) (inv_fresh (Nat.le_refl 1) (by decide)) hall
    have ea : PySq32.answers l = PyFlat.told (PyFlat.played Sq32Neutral.step (none_ 1) raw) := by
      unfold PySq32.answers PySq32.calls
      rw [e]
      dsimp only
      rw [hw]
      rfl
    refine ⟨raw, _, rfl, P, ea, ?_⟩
    rw [← ea]
    unfold PyFlat.short at hs
    exact of_decide_eq_true hs
end VD
end
section
set_option Elab.async false
set_option maxRecDepth 100000
set_option maxHeartbeats 2000000
namespace HN
open PySem PySem.Spec PyProof.Rows PySem.SeqAt
section
variable {M : Model} {prog : Program} {w : World} {A : Around} {E : Value → Shared → Prop} {s : Shared} {K : PySem.W.Frag} {x y C : Addr} {ox oy : Obj} {od od' : Option Obj}
theorem vd_call_other {Q : Value → Shared → Prop} (X : K.In s.heap) (I : PySem.W.InstAt s.heap x ox C od) (hxy : x ≠ y) (hx : s.heap.get? x = some ox) (hy : s.heap.get? y = some oy) (hnt : ox.cls ≠ .type "tuple")
    (hm : PySem.W.mroIn K C (.type "object") = some true) (hq : Q .notImplemented s) :
    wpAny (model prog w) A (call (.builtin "object.__eq__") [.ref x, .ref y]) Q E s :=
  wpAny_call (codeAny_call_builtin F.cmp_object.eq.plain F.cmpEntry_eq (PySem.W.check_slot F.cmpKind_eq F.cmpSplit_eq (I.type.andThen (PySem.W.looks_mroIn X hm)) (F.cmpArgs_eq _ _) (objEq_entry_other hxy hx hy hnt hq)))
theorem vd_rc_other (hu : A.units < cLine) (X : K.In s.heap) (I : PySem.W.InstAt s.heap x ox C od) (J : PySem.W.InstAt s.heap y oy C od') (hxy : x ≠ y) (hx : s.heap.get? x = some ox) (hy : s.heap.get? y = some oy) (hnt : ox.cls ≠ .type "tuple") (hnt' : oy.cls ≠ .type "tuple")
    (hm : PySem.W.mroIn K C (.type "object") = some true) (hs : PySem.W.findIn K (.ref C) "__eq__" = some (some (.builtin "object.__eq__"))) : RcAt A s (.ref x) (.ref y) false := fun prog w E Q h => by
  have one : wpAny (model prog w) A (tryCompare (.ref x) "__eq__" (.ref y)) (fun r s' => r = none ∧ s' = s) E s := by
    unfold tryCompare
    exact wpAny_bind (ifBound_objEq X I hs (vd_call_other X I hxy hx hy hnt hm (wpAny_pure ⟨rfl, rfl⟩)))
  have two : wpAny (model prog w) A (tryCompare (.ref y) "__eq__" (.ref x)) (fun r s' => r = none ∧ s' = s) E s := by
    unfold tryCompare
    exact wpAny_bind (ifBound_objEq X J hs (vd_call_other X J hxy.symm hy hx hnt' hm (wpAny_pure ⟨rfl, rfl⟩)))
  simp only [richCompare, cmpInfo_Eq, oneThing_ref]
  refine wpAny_holding (wpAny_bind (wpAny_cRoomFor hu ?_))
  refine wpAny_bind (I.type.here ?_)
  refine wpAny_bind (J.type.here ?_)
  rw [if_neg (by simp)]
  refine wpAny_bind (wpAny_pure ?_)
  simp only [Bool.false_eq_true, if_false, Bool.not_false, if_true]
  refine wpAny_bind (m := tryCompare (.ref x) _ (.ref y)) (wpAny_mono one (fun r s1 z => ?_) fun _ _ e => e)
  obtain ⟨z1, z2⟩ := z
  subst z1
  subst z2
  refine wpAny_bind (m := tryCompare (.ref y) _ (.ref x)) (wpAny_mono two (fun r s2 z => ?_) fun _ _ e => e)
  obtain ⟨z1, z2⟩ := z
  subst z1
  subst z2
  exact wpAny_bind (wpAny_rule (wpAny_bind (wpAny_isSame_ref_other hxy hx hy hnt (wpAny_pure h))))
end
end HN
namespace L2
open PySem PySem.Spec PyProof.Rows
section
variable {X : Cx}
/-- x in xs, x not in xs: instances of one class without an own __eq__: by identity -/
def rInRef (K : PySem.W.Frag) (C : Addr) (neg : Bool) : R2 := fun x y H Q => ∃ (p a : Addr) (as : List Addr), x = .ref a ∧ y = .ref p ∧ SqL K H p (as.map V.ref) ∧ (∃ dx fs, H a = some (.ins C dx fs)) ∧ (∀ b ∈ as, ∃ dx fs, H b = some (.ins C dx fs)) ∧
  Q (.bl (if neg then !decide (a ∈ as) else decide (a ∈ as))) H
theorem vd_eq_ins {A : Around} {pins : List (Addr × Obj)} {σ : St} {H : Hp} {s : Shared} {C a b : Addr} (I : Inv X pins σ H s) (hu : A.units < cLine) (hm : PySem.W.mroIn X.K C (.type "object") = some true) (hs : PySem.W.findIn X.K (.ref C) "__eq__" = some (some (.builtin "object.__eq__")))
    (ha : ∃ dx fs, H a = some (.ins C dx fs)) (hb : ∃ dx fs, H b = some (.ins C dx fs)) : SeqAt.EqAt A s (.ref b) (.ref a) (decide (b = a)) := by
  by_cases e : b = a
  · subst e
    rw [decide_eq_true rfl]
    exact SeqAt.EqAt.same _
  · rw [decide_eq_false e]
    obtain ⟨dx, fs, ha⟩ := ha
    obtain ⟨dy, gs, hb⟩ := hb
    obtain ⟨mA, O, _⟩ := ins_get I.hok ha
    obtain ⟨od, J, _⟩ := O.look
    obtain ⟨mB, O2, _⟩ := ins_get I.hok hb
    obtain ⟨od2, J2, _⟩ := O2.look
    have g1 : s.heap.get? a = some (PySem.W.instObj C dx) := (I.hok a _ ha).2.2.2.1
    have g2 : s.heap.get? b = some (PySem.W.instObj C dy) := (I.hok b _ hb).2.2.2.1
    exact .of_refs e (HN.vd_rc_other hu I.kIn J2 J e g2 g1 (by show Value.ref C ≠ _; intro z; cases z) (by show Value.ref C ≠ _; intro z; cases z) hm hs)
def isRefOf (a : Addr) : Value → Bool
  | .ref b => decide (b = a)
  | _ => false
theorem vals_refs : ∀ {as : List Addr} {us : List Value}, Vals (as.map V.ref) us → us = as.map Value.ref
  | [], _, h => by cases h; rfl
  | a :: as, _, h => by
    cases h with
    | cons r t =>
      obtain rfl := vals_refs t
      cases r
      rfl
theorem any_refOf (a : Addr) : ∀ (as : List Addr), (as.map Value.ref).any (isRefOf a) = decide (a ∈ as)
  | [] => rfl
  | b :: as => by
    rw [List.map_cons, List.any_cons, any_refOf a as]
    show (decide (b = a) || decide (a ∈ as)) = decide (a ∈ b :: as)
    by_cases e : b = a
    · subst e; simp
    · have e' : ¬ a = b := fun q => e q.symm
      simp [e, e']
theorem op_notInRef {C : Addr} (hu : X.A.units + 64 < cLine) (hm : PySem.W.mroIn X.K C (.type "object") = some true) (hs : PySem.W.findIn X.K (.ref C) "__eq__" = some (some (.builtin "object.__eq__"))) : OpR X (compareOp .NotIn) (rInRef X.K C true) := by
  intro pins s σ H x y v u Q I rx ry h
  obtain ⟨p, a, as, rfl, rfl, hq, ha, has, q⟩ := h
  cases rx
  cases ry
  obtain ⟨its, rv, hl, _⟩ := I.list hq
  obtain rfl := vals_refs rv
  have hu1 : X.A.in1.units < cLine := by show X.A.units + 1 < cLine; omega
  refine SeqAt.notIn_listAt (isRefOf a) hl.isList (fun z hz => ?_) ⟨.bl _, H, I, rfl, ?_⟩
  · have hz' : z ∈ as.map Value.ref := by simpa using hz
    obtain ⟨b, hb, rfl⟩ := List.mem_map.mp hz'
    exact vd_eq_ins I hu1 hm hs ha (has b hb)
  · rw [show (as.map Value.ref).toArray.any (isRefOf a) = (as.map Value.ref).any (isRefOf a) by simp, any_refOf]
    exact q
end
end L2
end
section
set_option Elab.async false
set_option maxRecDepth 100000
set_option maxHeartbeats 2000000
namespace L2
open PySem PySem.Spec PyProof.Rows
/-! ### sorted(xs, key=f), f a def whose body is: return (o.f1, o.f2) -/
theorem vd_key_call {P : Program} {w : World} {K : PySem.W.Frag} {x qual e f1 f2 : Str} {st : Stmt} {f : Addr} {fd : FuncData} {p1 p2 q1 q2 q3 q4 : Pos} {c1 : Nat} {A : Around} {E : Value → Shared → Prop} {s : Shared} {a dx C : Addr} {mA : Str → Option Value} {i j : Int} {t1 t2 : Tok}
    (F : Fun K x qual st f fd) (S : FnScope [e] [e] (defScope st)) (loc : (defScope st).names.lookup e = some .local) (hbody : defBody st = [.Return (some (.Tuple [.Attribute (.Name e p1) f1 q1, .Attribute (.Name e p2) f2 q2] c1 q3)) q4])
    (hb1 : ∀ env : Env, attributeBase (.Name e p1) f1 env (eval (.Name e p1) env) = eval (.Name e p1) env) (hb2 : ∀ env : Env, attributeBase (.Name e p2) f2 env (eval (.Name e p2) env) = eval (.Name e p2) env)
    (bd : ∀ (kV doc pm : Value) (an : Option Addr) (cdv ct : Value) (us : List Value), us.length = 1 → bindArgs (PySem.W.fnOf x qual (defArgs st) (defBody st) (defScope st) .none kV doc pm an cdv ct) ⟨us, []⟩ = pure ([e].zip us))
    (hd : (e == ("__debug__" : Str)) = false) (hroom : A.depth < recursionLimit) (KX : K.In s.heap) (lim : s.heap.NoLimit) (O : ObjM s.heap a dx C mA) (c : Cls K C) (n1 : NoAttr K C f1) (n2 : NoAttr K C f2) (m1 : mA f1 = some (.int i t1)) (m2 : mA f2 = some (.int j t2)) :
    wpAny (model P w) A (call (.ref f) [.ref a]) (PySem.W.KeyPure (.tuple [.int i, .int j]) s) E s := by
  obtain ⟨oc, od, kV, doc, pm, an, cdv, ct, osl, rfl, lk, hcd⟩ := F.ex
  have hkind : ∀ y ∈ ([e] : List Str).zip [Value.ref a], (defScope st).names.lookup y.1 = some .local ∨ ((defScope st).names.lookup y.1 = some .cell ∧ ((cellsFrom (s.heap.objs.size + 1) (defScope st).names []).lookup y.1).isSome = true) := fun ⟨n, v⟩ hy => by
    have : n ∈ ([e] : List Str) := (List.of_mem_zip hy).1
    obtain rfl : n = e := by simpa using this
    exact .inl loc
  refine wpAny_call (codeAny_call_function hroom (KX _ _ lk) rfl S.co S.gen rfl (PySem.W.codeRec_of KX hcd) ?_)
  refine wpAny_of_eq (bd kV doc pm an cdv ct [.ref a] rfl) ?_
  refine wpAny_newFunctionEnv_cells S.kind hkind fun env he s1 y => ?_
  have hk := y.toInCall.keep
  refine ⟨lim.keeps hk, codeAny_func ?_⟩
  have hek : env.scope.kind = .function := by subst he; exact S.kind
  have hel : env.kindOf e = some .local := by subst he; exact loc
  have hm : bindL env.kindOf ([e].zip [Value.ref a]) (fun _ => none) e = some (.ref a) := by
    show bindL env.kindOf [(e, .ref a)] (fun _ => none) e = _
    unfold bindL
    rw [if_pos hel]
    unfold bindL
    simp
  obtain ⟨h1, tk1, es1⟩ := y.toInCall.same
  have attr : ∀ {f' : Str} {p q : Pos} {v : Value} (s2 : Shared) (Q : Value → Shared → Prop) (E2 : Value → Shared → Prop), s2.heap = s1.heap → (∀ env : Env, attributeBase (.Name e p) f' env (eval (.Name e p) env) = eval (.Name e p) env) → NoAttr K C f' → mA f' = some v → PySem.W.handedIn v = true → Q v { s2 with toks := s2.toks + 1 } →
      wpAny (model P w) (A.deeper env) (eval (.Attribute (.Name e p) f' q) env) Q E2 s2 := by
    intro f' p q v s2 Q E2 hs hb n mm hv h
    refine attr_of (hb env) (wpAny_Name (wpAny_loadName_local hek hel (by rw [hs]; exact y.toInCall.ns) hm ?_) hd)
    refine get_map (K := K) (C := C) (dx := dx) (mA := mA) ?_ ?_ (c.get f') c.hd n mm hv h
    · rw [hs]; exact KX.keeps hk
    · rw [hs]; exact ⟨hk _ _ O.obj, O.ns.keeps hk, O.ne⟩
  show wpAny (model P w) (A.deeper env) (execs (defBody st) env) _ _ s1
  rw [hbody]
  refine wpAny_execs_cons (wpAny_Return_some (wpAny_Tuple_spliced ?_))
  have hstar : backTo q3 (starEach [.Attribute (.Name e p1) f1 q1, .Attribute (.Name e p2) f2 q2] env) = [(false, eval (.Attribute (.Name e p1) f1 q1) env), (false, eval (.Attribute (.Name e p2) f2 q2) env)] := by rfl
  rw [hstar]
  refine Calls.spliced_cons (attr s1 _ _ rfl hb1 n1 m1 rfl ?_)
  refine Calls.spliced_cons (attr _ _ _ rfl hb2 n2 m2 rfl ?_)
  refine Calls.spliced_nil ⟨by show 2 ≤ sizeLine; decide, ?_⟩
  subst es1
  refine ⟨_, _, rfl, fun b o q => Heap.get?_push_of_some _ (hk b o q), ?_⟩
  exact .tuple (o := { cls := .type "tuple", data := .seq ([Value.int i t1, Value.int j t2]).toArray }) (Heap.get?_push_size _ rfl) rfl rfl (.cons (.int i t1) (.cons (.int j t2) .nil))
section
variable {X : Cx}
def rSortedKey (K : PySem.W.Frag) (C : Addr) (f : Addr) (f1 f2 : Str) : List V → List V → Hp → VK → Prop := fun vs zs H Q => ∃ (a : Addr) (as : List Addr) (k : Addr → Int × Int), vs = [V.ref a] ∧ zs = [V.ref f] ∧ SqL K H a (as.map V.ref) ∧
  (∀ b ∈ as, ∃ dx fs, H b = some (.ins C dx fs) ∧ fs.lookup f1 = some (.int (k b).1) ∧ fs.lookup f2 = some (.int (k b).2)) ∧
  ∀ p, H p = none → Q (.ref p) (upd H p (.lst ((as.mergeSort fun x y => decide ((k x).1 < (k y).1 ∨ ((k x).1 = (k y).1 ∧ (k x).2 ≤ (k y).2))).map V.ref)))
theorem eachIs_refs : ∀ {us : List Value} {as : List Addr}, PySem.W.EachIs (fun v b => v = Value.ref b) us as → us = as.map Value.ref
  | _, _, .nil => rfl
  | _, _, .cons h t => by
    rw [h, eachIs_refs t]
    rfl
theorem eachIs_mk : ∀ (as : List Addr), PySem.W.EachIs (fun v b => v = Value.ref b) (as.map Value.ref) as
  | [] => .nil
  | a :: as => .cons rfl (eachIs_mk as)
theorem vals_mk : ∀ (as : List Addr), Vals (as.map V.ref) (as.map Value.ref)
  | [] => .nil
  | a :: as => .cons rfl (vals_mk as)
theorem cr_sortedKeyDef {x qual e f1 f2 : Str} {st : Stmt} {f C : Addr} {fd : FuncData} {p1 p2 q1 q2 q3 q4 : Pos} {c1 : Nat} 
    (F : Fun X.K x qual st f fd) (S : FnScope [e] [e] (defScope st)) (loc : (defScope st).names.lookup e = some .local) (hbody : defBody st = [.Return (some (.Tuple [.Attribute (.Name e p1) f1 q1, .Attribute (.Name e p2) f2 q2] c1 q3)) q4])
    (hb1 : ∀ env : Env, attributeBase (.Name e p1) f1 env (eval (.Name e p1) env) = eval (.Name e p1) env) (hb2 : ∀ env : Env, attributeBase (.Name e p2) f2 env (eval (.Name e p2) env) = eval (.Name e p2) env)
    (bd : ∀ (kV doc pm : Value) (an : Option Addr) (cdv ct : Value) (us : List Value), us.length = 1 → bindArgs (PySem.W.fnOf x qual (defArgs st) (defBody st) (defScope st) .none kV doc pm an cdv ct) ⟨us, []⟩ = pure ([e].zip us))
    (hd : (e == ("__debug__" : Str)) = false) (hr : Room 1 X.A) (c : Cls X.K C) (n1 : NoAttr X.K C f1) (n2 : NoAttr X.K C f2) :
    CallRK X (.builtin "sorted") [Str.ofString "key"] (rSortedKey X.K C f f1 f2) := by
  intro pins s σ H vs zs us ws Q I r rz h
  obtain ⟨a, as, k, rfl, rfl, hs, hk, q⟩ := h
  obtain rfl := Vals.ref1 r
  obtain ⟨w1, rfl, e1⟩ := vals1 rz
  obtain rfl : w1 = Value.ref f := e1
  obtain ⟨its, rv, hl, hz⟩ := I.list hs
  obtain rfl := vals_refs rv
  have hz' : as.length ≤ sizeLine := by rw [List.length_map] at hz; exact hz
  refine PySem.W.sorted_key_data (β := Addr) (b := false) (R := fun v b => v = Value.ref b) (vs := as.map Value.ref) (bs := as) (fun b => .tuple [.int (k b).1, .int (k b).2]) hl.isList (eachIs_mk as)
    (PySem.W.AllAlike.of fun b b' => ?_) (PySem.W.Sortable.tuples fun b => ⟨_, _, rfl⟩) hz' (fun b _ => ?_) (PyProof.Rows.ksk_s1 _ _) (fun _ => PyProof.Rows.ksk_l1 _ _) (fun _ => PyProof.Rows.ksk_t1 _ _) (fun v b hv hb h1 tk kept => ?_) (fun out cc h1 tk kept hfr hat hlen hout => ?_)
  · simp [PySem.W.alike, PySem.W.alikeAll]
  · have := hr.units
    simp [PyData.depth, PyData.depthAll]
    omega
  · subst hv
    obtain ⟨dx, fs, hi, l1, l2⟩ := hk b hb
    obtain ⟨mA, O, rel, _⟩ := ins_get I.hok hi
    obtain ⟨u1, hu1, ru1⟩ := RelO.some_of (v := .int (k b).1) (o := mA f1) (by rw [← l1]; exact rel f1)
    obtain ⟨u2, hu2, ru2⟩ := RelO.some_of (v := .int (k b).2) (o := mA f2) (by rw [← l2]; exact rel f2)
    obtain ⟨t1, rfl⟩ := ru1
    obtain ⟨t2, rfl⟩ := ru2
    exact vd_key_call (s := { s with heap := h1, toks := tk }) F S loc hbody hb1 hb2 bd hd hr.depth (I.kIn.keeps kept) (I.nolimit.keeps kept) ⟨kept _ _ O.obj, O.ns.keeps kept, O.ne⟩ c n1 n2 hu1 hu2
  · obtain rfl := eachIs_refs hout
    refine ⟨.ref _, upd H (s.heap.objs.size + 1) (.lst _), I.laid (t' := tk) kept (Nat.le_succ _) ⟨?_, _, cc, vals_mk _, hat⟩, rfl, ?_⟩
    · rw [List.length_map, List.length_mergeSort]; exact hz'
    · rw [PySem.W.dataLe_ii (fun b => (k b).1) (fun b => (k b).2)]
      exact q _ (I.hok.fresh (Nat.le_succ _))
end
end L2
end
section
set_option Elab.async false
set_option maxRecDepth 100000
set_option maxHeartbeats 2000000
namespace VD
open PySem PySem.Spec PyProof.Rows L2
open Sq32 (Deed Letter Counts at_ was may)
/-! ### the heap: whose an address is -/
inductive Tag where
  | mine | ans | ses | sR | sE | sM | fix
  | rep (k : Nat) | app (k : Nat) | pen (k : Nat) | kno (k : Nat) | vec (k j : Nat)
  deriving DecidableEq
/-- the replica that an address belongs to -/
def Tag.own : Tag → Option Nat
  | .rep k => some k
  | .app k => some k
  | .pen k => some k
  | .kno k => some k
  | .vec k _ => some k
  | _ => none
abbrev Tags := Addr → Tag
def tagAt (g : Tags) (p : Addr) (t : Tag) : Tags := fun b => if b = p then t else g b
theorem tagAt_same {g : Tags} {p : Addr} {t : Tag} : tagAt g p t p = t := if_pos rfl
theorem tagAt_ne {g : Tags} {p b : Addr} {t : Tag} (h : b ≠ p) : tagAt g p t b = g b := if_neg h
/-- all that stands at an address whose tag is not in T stands, under its tag -/
def Kp (T : Tag → Prop) (g : Tags) (H : Hp) (g' : Tags) (H' : Hp) : Prop := ∀ b o, H b = some o → ¬ T (g b) → H' b = some o ∧ g' b = g b
def T0 : Tag → Prop := fun _ => False
def TR (k : Nat) : Tag → Prop := fun t => t.own = some k
def TM : Tag → Prop := fun t => t ≠ .mine
theorem Kp.refl {T : Tag → Prop} {g : Tags} {H : Hp} : Kp T g H g H := fun _ _ h _ => ⟨h, rfl⟩
theorem Kp.trans {T : Tag → Prop} {g g1 g2 : Tags} {H H1 H2 : Hp} (a : Kp T g H g1 H1) (b : Kp T g1 H1 g2 H2) : Kp T g H g2 H2 := fun c o h n => by
  obtain ⟨h1, e1⟩ := a c o h n
  obtain ⟨h2, e2⟩ := b c o h1 (by rw [e1]; exact n)
  exact ⟨h2, e2.trans e1⟩
theorem Kp.mono {T T' : Tag → Prop} {g g' : Tags} {H H' : Hp} (a : Kp T g H g' H') (h : ∀ t, T t → T' t) : Kp T' g H g' H' := fun c o q n => a c o q fun z => n (h _ z)
theorem Kp.of0 {T : Tag → Prop} {g g' : Tags} {H H' : Hp} (a : Kp T0 g H g' H') : Kp T g H g' H' := a.mono fun _ h => h.elim
theorem Kp.same {g g' : Tags} {H H' : Hp} (a : Kp T0 g H g' H') : Same H H' := fun b o h => (a b o h fun z => z).1
theorem Kp.of_same {g : Tags} {H H' : Hp} (a : Same H H') : Kp T0 g H g H' := fun b o h _ => ⟨a b o h, rfl⟩
/-- a new object -/
theorem Kp.new {T : Tag → Prop} {g : Tags} {H : Hp} {p : Addr} {o : HO} {t : Tag} (h : H p = none) : Kp T g H (tagAt g p t) (upd H p o) := fun b u e _ => by
  have hb : b ≠ p := ne_of_none e h
  exact ⟨by rw [upd_ne hb]; exact e, tagAt_ne hb⟩
theorem Kp.new' {T : Tag → Prop} {g : Tags} {H : Hp} {p : Addr} {o : HO} (h : H p = none) : Kp T g H g (upd H p o) := fun b u e _ => by
  have hb : b ≠ p := ne_of_none e h
  exact ⟨by rw [upd_ne hb]; exact e, rfl⟩
/-- an object is written -/
theorem Kp.put {T : Tag → Prop} {g : Tags} {H : Hp} {p : Addr} {o : HO} (h : T (g p)) : Kp T g H g (upd H p o) := fun b u e n => by
  have hb : b ≠ p := fun q => by subst q; exact n h
  exact ⟨by rw [upd_ne hb]; exact e, rfl⟩
theorem same_new {H : Hp} {p : Addr} {o : HO} (h : H p = none) : Same H (upd H p o) := fun b u e => by rw [upd_ne (ne_of_none e h)]; exact e

/-! ### the objects -/
def nums (c : List Nat) : List V := c.map fun n : Nat => V.int (n : Int)
def refs (ad : Deed → Addr) (l : List Deed) : List V := l.map fun d => V.ref (ad d)
theorem nums_length (c : List Nat) : (nums c).length = c.length := List.length_map _
theorem refs_length (ad : Deed → Addr) (l : List Deed) : (refs ad l).length = l.length := List.length_map _
theorem nums_get {c : List Nat} {i : Nat} (h : i < c.length) : (nums c)[i]? = some (.int ((at_ c i : Nat) : Int)) := by
  unfold nums
  rw [List.getElem?_map, List.getElem?_eq_getElem h, at_lt h]
  rfl
theorem nums_set {c : List Nat} {i n : Nat} : (nums c).set i (.int (n : Int)) = nums (c.set i n) := by
  unfold nums
  rw [List.map_set]
def evF (d : Deed) (da : Addr) : List (Str × V) := [("origin", .int (d.desk : Int)), ("number", .int (d.n : Int)), ("value", .int (d.says : Int)), ("dependencies", .ref da)]
def msF (m : Letter) (pv pe : Addr) : List (Str × V) := [("sender", .int (m.from_ : Int)), ("receiver", .int (m.to : Int)), ("vector", .ref pv), ("events", .ref pe)]
def rpF (k : Nat) (pa pp pk pv : Addr) : List (Str × V) := [("place", .int (k : Int)), ("applied", .ref pa), ("pending", .ref pp), ("known", .ref pk), ("vector", .ref pv)]
def ssF (re ev ms : Addr) : List (Str × V) := [("replicas", .ref re), ("events", .ref ev), ("messages", .ref ms)]
/-- the classes -/
structure Cl where
  E : Addr
  M : Addr
  R : Addr
  S : Addr
structure EvAt (c : Cl) (g : Tags) (H : Hp) (a : Addr) (d : Deed) : Prop where
  ex : ∃ dx da, H a = some (.ins c.E dx (evF d da)) ∧ H da = some (.lst (nums d.after)) ∧ g a = .fix ∧ g da = .fix
structure MsgAt (c : Cl) (g : Tags) (ad : Deed → Addr) (H : Hp) (a : Addr) (m : Letter) : Prop where
  ex : ∃ dx pv pe, H a = some (.ins c.M dx (msF m pv pe)) ∧ H pv = some (.lst (nums m.has)) ∧ H pe = some (.lst (refs ad m.deeds)) ∧ g a = .fix ∧ g pv = .fix ∧ g pe = .fix
/-- the parts of a replica -/
structure RepIs (c : Cl) (g : Tags) (ad : Deed → Addr) (H : Hp) (k : Nat) (a : Addr) (r : Rep) (dx pa pp pk pv : Addr) (ks : List Addr) : Prop where
  obj : H a = some (.ins c.R dx (rpF k pa pp pk pv))
  app : H pa = some (.lst (refs ad r.applied))
  pen : H pp = some (.lst (refs ad r.pending))
  kno : H pk = some (.lst (ks.map V.ref))
  own : ks[k]? = some pv
  klen : ks.length = r.known.length
  vec : ∀ j b, ks[j]? = some b → H b = some (.lst (nums (r.vec j))) ∧ g b = .vec k j
  gA : g a = .rep k
  gP : g pa = .app k
  gQ : g pp = .pen k
  gK : g pk = .kno k
def RepAt (c : Cl) (g : Tags) (ad : Deed → Addr) (H : Hp) (k : Nat) (a : Addr) (r : Rep) : Prop := ∃ dx pa pp pk pv ks, RepIs c g ad H k a r dx pa pp pk pv ks
structure SesIs (c : Cl) (g : Tags) (ad : Deed → Addr) (H : Hp) (a : Addr) (s : Ses) (dx re eo mo : Addr) (ras mas : List Addr) : Prop where
  obj : H a = some (.ins c.S dx (ssF re eo mo))
  reps : H re = some (.lst (ras.map V.ref))
  rlen : ras.length = s.reps.length
  rep : ∀ (k : Nat) (b : Addr), ras[k]? = some b → RepAt c g ad H k b (s.rep k)
  evs : H eo = some (.lst (refs ad s.events))
  ev : ∀ d ∈ s.events, EvAt c g H (ad d) d
  msgs : H mo = some (.lst (mas.map V.ref))
  mlen : mas.length = s.msgs.length
  msg : ∀ (i : Nat) (b : Addr) (m : Letter), mas[i]? = some b → s.msgs[i]? = some m → MsgAt c g ad H b m
  gS : g a = .ses
  gR : g re = .sR
  gE : g eo = .sE
  gM : g mo = .sM
def SesAt (c : Cl) (g : Tags) (ad : Deed → Addr) (H : Hp) (a : Addr) (s : Ses) : Prop := ∃ dx re eo mo ras mas, SesIs c g ad H a s dx re eo mo ras mas
section
variable {c : Cl} {T : Tag → Prop} {g g' : Tags} {ad ad' : Deed → Addr} {H H' : Hp} {a : Addr} {k : Nat}
theorem EvAt.kp {d : Deed} (x : EvAt c g H a d) (h : Kp T g H g' H') (hT : ¬ T .fix) : EvAt c g' H' a d := by
  obtain ⟨dx, da, h1, h2, t1, t2⟩ := x.ex
  obtain ⟨a1, b1⟩ := h _ _ h1 (by rw [t1]; exact hT)
  obtain ⟨a2, b2⟩ := h _ _ h2 (by rw [t2]; exact hT)
  exact ⟨dx, da, a1, a2, b1.trans t1, b2.trans t2⟩
theorem MsgAt.kp {m : Letter} (x : MsgAt c g ad H a m) (h : Kp T g H g' H') (hT : ¬ T .fix) : MsgAt c g' ad H' a m := by
  obtain ⟨dx, pv, pe, h1, h2, h3, t1, t2, t3⟩ := x.ex
  obtain ⟨a1, b1⟩ := h _ _ h1 (by rw [t1]; exact hT)
  obtain ⟨a2, b2⟩ := h _ _ h2 (by rw [t2]; exact hT)
  obtain ⟨a3, b3⟩ := h _ _ h3 (by rw [t3]; exact hT)
  exact ⟨dx, pv, pe, a1, a2, a3, b1.trans t1, b2.trans t2, b3.trans t3⟩
theorem RepIs.gV {r : Rep} {dx pa pp pk pv : Addr} {ks : List Addr} (x : RepIs c g ad H k a r dx pa pp pk pv ks) : g pv = .vec k k ∧ H pv = some (.lst (nums (r.vec k))) := ⟨(x.vec k pv x.own).2, (x.vec k pv x.own).1⟩
theorem RepIs.kp {r : Rep} {dx pa pp pk pv : Addr} {ks : List Addr} (x : RepIs c g ad H k a r dx pa pp pk pv ks) (h : Kp T g H g' H') (hT : ∀ t, Tag.own t = some k → ¬ T t) : RepIs c g' ad H' k a r dx pa pp pk pv ks := by
  obtain ⟨a1, b1⟩ := h _ _ x.obj (by rw [x.gA]; exact hT _ rfl)
  obtain ⟨a2, b2⟩ := h _ _ x.app (by rw [x.gP]; exact hT _ rfl)
  obtain ⟨a3, b3⟩ := h _ _ x.pen (by rw [x.gQ]; exact hT _ rfl)
  obtain ⟨a4, b4⟩ := h _ _ x.kno (by rw [x.gK]; exact hT _ rfl)
  refine ⟨a1, a2, a3, a4, x.own, x.klen, fun j b hb => ?_, b1.trans x.gA, b2.trans x.gP, b3.trans x.gQ, b4.trans x.gK⟩
  obtain ⟨h1, t1⟩ := x.vec j b hb
  obtain ⟨a5, b5⟩ := h _ _ h1 (by rw [t1]; exact hT _ rfl)
  exact ⟨a5, b5.trans t1⟩
theorem RepAt.kp {r : Rep} (x : RepAt c g ad H k a r) (h : Kp T g H g' H') (hT : ∀ t, Tag.own t = some k → ¬ T t) : RepAt c g' ad H' k a r := by
  obtain ⟨dx, pa, pp, pk, pv, ks, x⟩ := x
  exact ⟨dx, pa, pp, pk, pv, ks, x.kp h hT⟩
theorem RepIs.same {r : Rep} {dx pa pp pk pv : Addr} {ks : List Addr} (x : RepIs c g ad H k a r dx pa pp pk pv ks) (h : Same H H') : RepIs c g ad H' k a r dx pa pp pk pv ks := x.kp (T := T0) (Kp.of_same h) fun _ _ z => z
theorem EvAt.same {d : Deed} (x : EvAt c g H a d) (h : Same H H') : EvAt c g H' a d := x.kp (T := T0) (Kp.of_same h) fun z => z
theorem refs_congr {l : List Deed} (h : ∀ d ∈ l, ad' d = ad d) : refs ad' l = refs ad l := by
  unfold refs
  exact List.map_congr_left fun d hd => by rw [h d hd]
theorem RepAt.to {r : Rep} (x : RepAt c g ad H k a r) (h1 : ∀ d ∈ r.applied, ad' d = ad d) (h2 : ∀ d ∈ r.pending, ad' d = ad d) : RepAt c g ad' H k a r := by
  obtain ⟨dx, pa, pp, pk, pv, ks, x⟩ := x
  exact ⟨dx, pa, pp, pk, pv, ks, x.obj, by rw [refs_congr h1]; exact x.app, by rw [refs_congr h2]; exact x.pen, x.kno, x.own, x.klen, x.vec, x.gA, x.gP, x.gQ, x.gK⟩
theorem MsgAt.to {m : Letter} (x : MsgAt c g ad H a m) (h1 : ∀ d ∈ m.deeds, ad' d = ad d) : MsgAt c g ad' H a m := by
  obtain ⟨dx, pv, pe, h⟩ := x.ex
  exact ⟨dx, pv, pe, by rw [refs_congr h1]; exact h⟩
/-- an event is told by its object -/
theorem EvAt.inj {d e : Deed} (x : EvAt c g H a d) (y : EvAt c g H a e) : d = e := by
  obtain ⟨dx, da, h1, h2, _⟩ := x.ex
  obtain ⟨dy, db, k1, k2, _⟩ := y.ex
  rw [h1] at k1
  injection k1 with k1
  injection k1 with _ _ k1
  unfold evF at k1
  simp only [List.cons.injEq, Prod.mk.injEq, V.int.injEq, V.ref.injEq, true_and, and_true] at k1
  obtain ⟨e1, e2, e3, e4⟩ := k1
  subst e4
  rw [h2] at k2
  injection k2 with k2
  injection k2 with k2
  have e5 : d.after = e.after := by
    unfold nums at k2
    have := congrArg (List.map fun v : V => match v with | .int i => i.toNat | _ => 0) k2
    rw [List.map_map, List.map_map] at this
    have idf : ((fun v : V => match v with | .int i => i.toNat | _ => 0) ∘ fun n : Nat => V.int (n : Int)) = id := by funext n; simp
    rw [idf, List.map_id, List.map_id] at this
    exact this
  cases d
  cases e
  simp only at e1 e2 e3 e5
  congr 1
  · omega
  · omega
  · omega
/-- by identity is by equality, where every event stands at its address -/
theorem mem_refs {l : List Deed} {d : Deed} (hl : ∀ e ∈ l, EvAt c g H (ad e) e) (hd : EvAt c g H (ad d) d) : decide (ad d ∈ l.map ad) = decide (d ∈ l) := by
  rw [decide_eq_decide]
  constructor
  · intro h
    obtain ⟨e, he, ea⟩ := List.mem_map.mp h
    have h1 := hl e he
    rw [ea] at h1
    have := h1.inj hd
    subst this
    exact he
  · intro h
    exact List.mem_map.mpr ⟨d, h, rfl⟩
end
end VD
end
section
set_option Elab.async false
set_option maxRecDepth 100000
set_option maxHeartbeats 2000000
namespace VD
open PySem PySem.Spec PyProof.Rows L2
open Sq32 (Deed Letter Counts at_ was may)
/-! ### the text by places -/
def top (i : Nat) : Stmt := PySem.Challenge.pw_vectordelivery_s01_answers.main.body.getD i (.Pass ⟨0, 0, 0, 0⟩)
abbrev cE : Stmt := top 12
abbrev sKey : Stmt := top 13
abbrev sFindEvent : Stmt := top 14
abbrev sListEvents : Stmt := top 15
abbrev cM : Stmt := top 16
abbrev cR : Stmt := top 17
abbrev cS : Stmt := top 18
abbrev sEvI : Stmt := inClass cE 0
abbrev sDependsOn : Stmt := inClass cE 1
abbrev sMsI : Stmt := inClass cM 0
abbrev sRpI : Stmt := inClass cR 0
abbrev sHasApplied : Stmt := inClass cR 1
abbrev sCanApply : Stmt := inClass cR 2
abbrev sApply : Stmt := inClass cR 3
abbrev sRCreate : Stmt := inClass cR 4
abbrev sEventsFor : Stmt := inClass cR 5
abbrev sReceive : Stmt := inClass cR 6
abbrev sAddPending : Stmt := inClass cR 7
abbrev sFirst : Stmt := inClass cR 8
abbrev sLearn : Stmt := inClass cR 9
abbrev sStableVector : Stmt := inClass cR 10
abbrev sLeastKnown : Stmt := inClass cR 11
/-- what the top has written; the end shows it -/
structure Txt (K : PySem.W.Frag) (mg : Str → Option Value) (c : Cl) : Prop where
  clE : Cls K c.E
  clM : Cls K c.M
  clR : Cls K c.R
  clS : Cls K c.S
  e1 : NoAttr K c.E "origin"
  e2 : NoAttr K c.E "number"
  e3 : NoAttr K c.E "value"
  e4 : NoAttr K c.E "dependencies"
  m1 : NoAttr K c.M "sender"
  m2 : NoAttr K c.M "receiver"
  m3 : NoAttr K c.M "vector"
  m4 : NoAttr K c.M "events"
  r1 : NoAttr K c.R "place"
  r2 : NoAttr K c.R "applied"
  r3 : NoAttr K c.R "pending"
  r4 : NoAttr K c.R "known"
  r5 : NoAttr K c.R "vector"
  s1 : NoAttr K c.S "replicas"
  s2 : NoAttr K c.S "events"
  s3 : NoAttr K c.S "messages"
  gE : mg "Event" = some (.ref c.E)
  gM : mg "Message" = some (.ref c.M)
  gR : mg "Replica" = some (.ref c.R)
  gS : mg "Session" = some (.ref c.S)
  k1 : ∃ t, mg "MOST_REPLICAS" = some (.int 6 t)
  k2 : ∃ t, mg "MOST_EVENTS" = some (.int 60 t)
  k3 : ∃ t, mg "MOST_MESSAGES" = some (.int 200 t)
  k4 : ∃ t, mg "HIGHEST_VALUE" = some (.int 1000000000 t)
  k5 : ∃ t, mg "OUT_OF_RANGE" = some (.int (-1) t)
  k6 : ∃ t, mg "NOT_THERE" = some (.int (-2) t)
  k7 : ∃ t, mg "NOT_APPLIED" = some (.int (-3) t)
  k8 : ∃ t, mg "TOO_MANY" = some (.int (-5) t)
  k9 : ∃ t, mg "UNRELATED" = some (.int 0 t)
  k10 : ∃ t, mg "FIRST_IS_EARLIER" = some (.int 1 t)
  k11 : ∃ t, mg "SECOND_IS_EARLIER" = some (.int 2 t)
  b1 : ∃ t, mg "BEGIN" = some (.int 1 t)
  b2 : ∃ t, mg "CREATE" = some (.int 2 t)
  b3 : ∃ t, mg "SEND" = some (.int 3 t)
  b4 : ∃ t, mg "SEND_ONE" = some (.int 4 t)
  b5 : ∃ t, mg "DELIVER" = some (.int 5 t)
  b6 : ∃ t, mg "APPLIED" = some (.int 6 t)
  b7 : ∃ t, mg "PENDING" = some (.int 7 t)
  b8 : ∃ t, mg "VECTOR" = some (.int 8 t)
  b9 : ∃ t, mg "KNOWN" = some (.int 9 t)
  b10 : ∃ t, mg "STABLE" = some (.int 10 t)
  b11 : ∃ t, mg "COMPARE" = some (.int 11 t)
  len : mg "len" = none
  range : mg "range" = none
  zip : mg "zip" = none
  all : mg "all" = none
  max : mg "max" = none
  min : mg "min" = none
  list : mg "list" = none
  sorted : mg "sorted" = none
  oE : PySem.W.mroIn K c.E (.type "object") = some true
  qE : PySem.W.findIn K (.ref c.E) "__eq__" = some (some (.builtin "object.__eq__"))
/-! ### calls -/
structure Met (P : Program) (w : World) (K : PySem.W.Frag) (mg : Str → Option Value) (base : Heap) (k : Nat) (C : Addr) (m : Str) (sp : Sp) : Prop where
  ex : ∃ (f : Addr) (fd : FuncData) (ps : List Str), Meth K C m f ∧ FnOk P w K mg base CX0 k f fd ps sp ∧ Binds K fd ps []
structure Mak (P : Program) (w : World) (K : PySem.W.Frag) (mg : Str → Option Value) (base : Heap) (k : Nat) (x : Str) (C : Addr) (sp : Sp) : Prop where
  ex : ∃ (f : Addr) (fd : FuncData) (ps : List Str), Mk K C f ∧ FnOk P w K mg base CX0 k f fd ps sp ∧ mg x = some (.ref C) ∧ Binds K fd ps []
structure Cal (P : Program) (w : World) (K : PySem.W.Frag) (mg : Str → Option Value) (base : Heap) (k : Nat) (x : Str) (sp : Sp) : Prop where
  ex : ∃ (f : Addr) (fd : FuncData) (ps : List Str), FnOk P w K mg base CX0 k f fd ps sp ∧ mg x = some (.ref f) ∧ PySem.W.keepIn K (.ref f) = true ∧ Binds K fd ps []
section
variable {X : Cx} {k j : Nat} {C : Addr} {x m : Str} {sp : Sp} {p pos apos : Pos} {e o : Expr} {es : List Expr} {ta : TE} {t : TA}
theorem pe_cal (c : Cal X.prog X.w X.K X.mg X.base k x sp) (hr : Room j X.A) (hk : k ≤ j) (hg : Gl X x) (ha : PA X (e :: es) t)
    (hdb : (x == ("__debug__" : Str)) = false := by decide) (he : starEach (e :: es) X.env = (false, eval e X.env) :: starEach es X.env := by rfl) (hpl : (backTo pos (starEach es X.env)).any (·.1) = false := by rfl) :
    PE X (.Call (.Name x p) (e :: es) [] pos) (tCall sp [] E0 t) := by
  obtain ⟨f, fd, ps, F, hm, kp, b⟩ := c.ex
  exact pe_call F (hr.mono hk) hg hm kp b .nil pass0 ha hdb he hpl
theorem pe_mak (c : Mak X.prog X.w X.K X.mg X.base k x C sp) (hr : Room j X.A) (hk : k + 1 ≤ j) (hg : Gl X x) (ha : PA X (e :: es) t)
    (hdb : (x == ("__debug__" : Str)) = false := by decide) (he : starEach (e :: es) X.env = (false, eval e X.env) :: starEach es X.env := by rfl) (hpl : (backTo pos (starEach es X.env)).any (·.1) = false := by rfl) :
    PE X (.Call (.Name x p) (e :: es) [] pos) (tMake C sp [] E0 t) := by
  obtain ⟨f, fd, ps, M, F, hm, b⟩ := c.ex
  exact pe_make M F (hr.mono hk) hg hm b .nil pass0 ha hdb he hpl
theorem pe_mak0 (c : Mak X.prog X.w X.K X.mg X.base k x C sp) (hr : Room j X.A) (hk : k + 1 ≤ j) (hg : Gl X x)
    (hdb : (x == ("__debug__" : Str)) = false := by decide) :
    PE X (.Call (.Name x p) [] [] pos) (tMake C sp [] E0 tNil) := by
  obtain ⟨f, fd, ps, M, F, hm, b⟩ := c.ex
  exact pe_make0 M F (hr.mono hk) hg hm b .nil pass0 hdb
theorem pe_met {pl : Sem Bool} (cl : Cls X.K C) (c : Met X.prog X.w X.K X.mg X.base k C m sp) (hr : Room j X.A) (hk : k ≤ j) (he : PE X o ta) (ha : PA X (e :: es) t)
    (hst : starEach (e :: es) X.env = (false, eval e X.env) :: starEach es X.env := by rfl) (hpl : (backTo pos (starEach es X.env)).any (·.1) = false := by rfl)
    (ht : eval (.Call (.Attribute o m apos) (e :: es) [] pos) X.env = (do
      let ov ← eval o X.env
      standAt apos.atName
      let (f, first) ← holding [ov] (getMethod ov m pl)
      callWith pos f first (backTo pos (starEach (e :: es) X.env)) (backToKw pos (keywordEach [] X.env))) := by rfl) :
    PE X (.Call (.Attribute o m apos) (e :: es) [] pos) (tMeth C m sp [] E0 ta t) := by
  obtain ⟨f, fd, ps, hm, F, b⟩ := c.ex
  exact pe_meth (pl := pl) he cl hm F (hr.mono hk) b .nil pass0 ha hst hpl ht
theorem pe_met0 {pl : Sem Bool} (cl : Cls X.K C) (c : Met X.prog X.w X.K X.mg X.base k C m sp) (hr : Room j X.A) (hk : k ≤ j) (he : PE X o ta)
    (ht : eval (.Call (.Attribute o m apos) [] [] pos) X.env = (do
      let ov ← eval o X.env
      standAt apos.atName
      let (f, first) ← holding [ov] (getMethod ov m pl)
      callWith pos f first (backTo pos (starEach [] X.env)) (backToKw pos (keywordEach [] X.env))) := by rfl) :
    PE X (.Call (.Attribute o m apos) [] [] pos) (tMeth C m sp [] E0 ta tNil) := by
  obtain ⟨f, fd, ps, hm, F, b⟩ := c.ex
  exact pe_meth0 (pl := pl) he cl hm F (hr.mono hk) b .nil pass0 ht
end
/-! ### attributes by name -/
theorem lk_here {k : Str} {v : V} {r : List (Str × V)} : List.lookup k ((k, v) :: r) = some v := by
  have e : (k == k) = true := beq_self_eq_true k
  simp only [List.lookup, e]
theorem lk_past {k g : Str} {v : V} {r : List (Str × V)} (h : (k == g) = false) : List.lookup k ((g, v) :: r) = List.lookup k r := by
  simp only [List.lookup, h]
/-- a name is none of the attributes -/
def lacks (f : Str) (l : List (Str × V)) : Bool := l.all fun p => !(f == p.1)
theorem lk_none {f : Str} : ∀ {l : List (Str × V)}, lacks f l = true → l.lookup f = none
  | [], _ => rfl
  | (g, v) :: r, h => by
    unfold lacks at h
    rw [List.all_cons, Bool.and_eq_true] at h
    have h1 : (f == g) = false := by simpa using h.1
    rw [lk_past h1]
    exact lk_none h.2
theorem rp_place {k : Nat} {pa pp pk pv : Addr} : (rpF k pa pp pk pv).lookup ("place" : Str) = some (.int (k : Int)) := lk_here
theorem rp_applied {k : Nat} {pa pp pk pv : Addr} : (rpF k pa pp pk pv).lookup ("applied" : Str) = some (.ref pa) := (lk_past (by decide +kernel)).trans lk_here
theorem rp_pending {k : Nat} {pa pp pk pv : Addr} : (rpF k pa pp pk pv).lookup ("pending" : Str) = some (.ref pp) := (lk_past (by decide +kernel)).trans ((lk_past (by decide +kernel)).trans lk_here)
theorem rp_known {k : Nat} {pa pp pk pv : Addr} : (rpF k pa pp pk pv).lookup ("known" : Str) = some (.ref pk) := (lk_past (by decide +kernel)).trans ((lk_past (by decide +kernel)).trans ((lk_past (by decide +kernel)).trans lk_here))
theorem rp_vector {k : Nat} {pa pp pk pv : Addr} : (rpF k pa pp pk pv).lookup ("vector" : Str) = some (.ref pv) := (lk_past (by decide +kernel)).trans ((lk_past (by decide +kernel)).trans ((lk_past (by decide +kernel)).trans ((lk_past (by decide +kernel)).trans lk_here)))
theorem ev_origin {d : Deed} {da : Addr} : (evF d da).lookup ("origin" : Str) = some (.int (d.desk : Int)) := lk_here
theorem ev_number {d : Deed} {da : Addr} : (evF d da).lookup ("number" : Str) = some (.int (d.n : Int)) := (lk_past (by decide +kernel)).trans lk_here
theorem ev_value {d : Deed} {da : Addr} : (evF d da).lookup ("value" : Str) = some (.int (d.says : Int)) := (lk_past (by decide +kernel)).trans ((lk_past (by decide +kernel)).trans lk_here)
theorem ev_deps {d : Deed} {da : Addr} : (evF d da).lookup ("dependencies" : Str) = some (.ref da) := (lk_past (by decide +kernel)).trans ((lk_past (by decide +kernel)).trans ((lk_past (by decide +kernel)).trans lk_here))
theorem ms_sender {m : Letter} {pv pe : Addr} : (msF m pv pe).lookup ("sender" : Str) = some (.int (m.from_ : Int)) := lk_here
theorem ms_receiver {m : Letter} {pv pe : Addr} : (msF m pv pe).lookup ("receiver" : Str) = some (.int (m.to : Int)) := (lk_past (by decide +kernel)).trans lk_here
theorem ms_vector {m : Letter} {pv pe : Addr} : (msF m pv pe).lookup ("vector" : Str) = some (.ref pv) := (lk_past (by decide +kernel)).trans ((lk_past (by decide +kernel)).trans lk_here)
theorem ms_events {m : Letter} {pv pe : Addr} : (msF m pv pe).lookup ("events" : Str) = some (.ref pe) := (lk_past (by decide +kernel)).trans ((lk_past (by decide +kernel)).trans ((lk_past (by decide +kernel)).trans lk_here))
theorem ss_replicas {re eo mo : Addr} : (ssF re eo mo).lookup ("replicas" : Str) = some (.ref re) := lk_here
theorem ss_events {re eo mo : Addr} : (ssF re eo mo).lookup ("events" : Str) = some (.ref eo) := (lk_past (by decide +kernel)).trans lk_here
theorem ss_messages {re eo mo : Addr} : (ssF re eo mo).lookup ("messages" : Str) = some (.ref mo) := (lk_past (by decide +kernel)).trans ((lk_past (by decide +kernel)).trans lk_here)
/-- no method's name is an attribute's -/
theorem rp_no {f : Str} {k : Nat} {pa pp pk pv : Addr} (h : (["place", "applied", "pending", "known", "vector"] : List Str).all (fun g => !(f == g)) = true) : (rpF k pa pp pk pv).lookup f = none := lk_none (by
  unfold lacks rpF
  simpa using h)
theorem ev_no {f : Str} {d : Deed} {da : Addr} (h : (["origin", "number", "value", "dependencies"] : List Str).all (fun g => !(f == g)) = true) : (evF d da).lookup f = none := lk_none (by
  unfold lacks evF
  simpa using h)
theorem ss_no {f : Str} {re eo mo : Addr} (h : (["replicas", "events", "messages"] : List Str).all (fun g => !(f == g)) = true) : (ssF re eo mo).lookup f = none := lk_none (by
  unfold lacks ssF
  simpa using h)
theorem put_here {f : Str} {v x : V} {r : List (Str × V)} : putF f v ((f, x) :: r) = (f, v) :: r := if_pos rfl
theorem put_past {f g : Str} {v x : V} {r : List (Str × V)} (h : ¬ g = f) : putF f v ((g, x) :: r) = (g, x) :: putF f v r := if_neg h
theorem put_new {f : Str} {v : V} : ∀ {l : List (Str × V)}, lacks f l = true → putF f v l = l ++ [(f, v)]
  | [], _ => rfl
  | (g, x) :: r, h => by
    unfold lacks at h
    rw [List.all_cons, Bool.and_eq_true] at h
    have h1 : (f == g) = false := by simpa using h.1
    have h2 : ¬ g = f := fun e => by
      rw [e] at h1
      simp at h1
    rw [put_past h2, put_new h.2]
    rfl
/-! ### the made events and messages -/
def spEvI (c : Cl) : Sp := fun vs H Q _ => ∃ (p dx : Addr) (x0 x1 x2 x3 : V), vs = [.ref p, x0, x1, x2, x3] ∧ H p = some (.ins c.E dx []) ∧
  ∀ H' : Hp, H' p = some (.ins c.E dx [("origin", x0), ("number", x1), ("value", x2), ("dependencies", x3)]) → (∀ b o, H b = some o → b ≠ p → H' b = some o) → Q .non H'
def spMsI (c : Cl) : Sp := fun vs H Q _ => ∃ (p dx : Addr) (x0 x1 x2 x3 : V), vs = [.ref p, x0, x1, x2, x3] ∧ H p = some (.ins c.M dx []) ∧
  ∀ H' : Hp, H' p = some (.ins c.M dx [("sender", x0), ("receiver", x1), ("vector", x2), ("events", x3)]) → (∀ b o, H b = some o → b ≠ p → H' b = some o) → Q .non H'
theorem sc_evI : FnScope ["self", "origin", "number", "value", "dependencies"] ["self", "origin", "number", "value", "dependencies"] (defScope sEvI) := ⟨rfl, rfl, rfl, by decide +kernel, rfl, by decide +kernel, by decide +kernel⟩
theorem sc_msI : FnScope ["self", "sender", "receiver", "vector", "events"] ["self", "sender", "receiver", "vector", "events"] (defScope sMsI) := ⟨rfl, rfl, rfl, by decide +kernel, rfl, by decide +kernel, by decide +kernel⟩
section
variable {P : Program} {w : World} {K : PySem.W.Frag} {mg : Str → Option Value} {base : Heap} {c : Cl} {f : Addr} {fd : FuncData}
theorem ok_evI (T : Txt K mg c) (F : Fun K "__init__" "Event.__init__" sEvI f fd) : FnOk P w K mg base CX0 1 f fd ["self", "origin", "number", "value", "dependencies"] (spEvI c) := by
  refine F.ok sc_evI (fun vs H Q E h => ?_) (fun cdv A outer s H vs Q E hr h => ?_)
  · obtain ⟨p, dx, x0, x1, x2, x3, rfl, _⟩ := h
    rfl
  · refine ⟨_, pss_cons (ps_fld (pv 0) (pv 1) rfl) (pss_cons (ps_fld (pv 0) (pv 2) rfl) (pss_cons (ps_fld (pv 0) (pv 3) rfl) (pss_one (ps_fld (pv 0) (pv 4) rfl)))), ?_⟩
    obtain ⟨p, dx, x0, x1, x2, x3, rfl, hp, k⟩ := h
    refine ⟨_, rfl, _, rfl, p, c.E, dx, _, rfl, hp, T.clE, T.e1, (by show 0 < 1000; decide), ?_⟩
    refine ⟨_, rfl, _, rfl, p, c.E, dx, _, rfl, upd_same, T.clE, T.e2, (by show 1 < 1000; decide), ?_⟩
    refine ⟨_, rfl, _, rfl, p, c.E, dx, _, rfl, upd_same, T.clE, T.e3, (by show 2 < 1000; decide), ?_⟩
    refine ⟨_, rfl, _, rfl, p, c.E, dx, _, rfl, upd_same, T.clE, T.e4, (by show 3 < 1000; decide), ?_⟩
    refine k _ (upd_same.trans ?_) fun b o e hb => by
      rw [upd_ne hb, upd_ne hb, upd_ne hb, upd_ne hb]
      exact e
    rw [put_new (l := []) rfl, put_new (l := [] ++ [_]) rfl, put_new (l := [] ++ [_] ++ [_]) rfl, put_new (l := [] ++ [_] ++ [_] ++ [_]) rfl]
    rfl
theorem ok_msI (T : Txt K mg c) (F : Fun K "__init__" "Message.__init__" sMsI f fd) : FnOk P w K mg base CX0 1 f fd ["self", "sender", "receiver", "vector", "events"] (spMsI c) := by
  refine F.ok sc_msI (fun vs H Q E h => ?_) (fun cdv A outer s H vs Q E hr h => ?_)
  · obtain ⟨p, dx, x0, x1, x2, x3, rfl, _⟩ := h
    rfl
  · refine ⟨_, pss_cons (ps_fld (pv 0) (pv 1) rfl) (pss_cons (ps_fld (pv 0) (pv 2) rfl) (pss_cons (ps_fld (pv 0) (pv 3) rfl) (pss_one (ps_fld (pv 0) (pv 4) rfl)))), ?_⟩
    obtain ⟨p, dx, x0, x1, x2, x3, rfl, hp, k⟩ := h
    refine ⟨_, rfl, _, rfl, p, c.M, dx, _, rfl, hp, T.clM, T.m1, (by show 0 < 1000; decide), ?_⟩
    refine ⟨_, rfl, _, rfl, p, c.M, dx, _, rfl, upd_same, T.clM, T.m2, (by show 1 < 1000; decide), ?_⟩
    refine ⟨_, rfl, _, rfl, p, c.M, dx, _, rfl, upd_same, T.clM, T.m3, (by show 2 < 1000; decide), ?_⟩
    refine ⟨_, rfl, _, rfl, p, c.M, dx, _, rfl, upd_same, T.clM, T.m4, (by show 3 < 1000; decide), ?_⟩
    refine k _ (upd_same.trans ?_) fun b o e hb => by
      rw [upd_ne hb, upd_ne hb, upd_ne hb, upd_ne hb]
      exact e
    rw [put_new (l := []) rfl, put_new (l := [] ++ [_]) rfl, put_new (l := [] ++ [_] ++ [_]) rfl, put_new (l := [] ++ [_] ++ [_] ++ [_]) rfl]
    rfl
end
end VD
end
section
set_option Elab.async false
set_option maxRecDepth 100000
set_option maxHeartbeats 2000000
namespace L2
open PySem PySem.Spec PyProof.Rows
/-- a comprehension over zip of two lists of one length -/
theorem lc_zipL {K : PySem.W.Frag} {a b : Addr} {xs ys : List V} {g : TG} {tt : TT} {te : TE} {vs : List Nat} {σ : St} {H1 : Hp} {D : Addr} {Qd : Hp → Prop} (hl : xs.length = ys.length) (Pv : Nat → Hp → Prop) (h0 : Pv 0 (upd H1 D (.lst []))) (hq : ∀ i H, Pv i H → SqL K H a xs ∧ SqL K H b ys)
    (hs : ∀ (i : Nat) (x y : V) (T : Addr) (H : Hp), xs[i]? = some x → ys[i]? = some y → Pv i H → H T = none → g (.ref T) (wipe σ vs) (upd H T (.tup [x, y])) fun σ2 H2 => wipe σ2 vs = wipe σ vs ∧ tt σ2 H2 fun b H3 =>
      if b = true then te σ2 H3 fun y H4 => ∃ acc, H4 D = some (.lst acc) ∧ acc.length < sizeLine ∧ Pv (i + 1) (upd H4 D (.lst (acc ++ [y]))) else Pv (i + 1) H3) (hd : ∀ H, Pv xs.length H → Qd H) :
    ∃ W : Nat → Nat → Hp → Prop, (∃ m, W 0 m (upd H1 D (.lst []))) ∧ ∀ i m H, W i m H →
      ((Itz K a b).stop i H ∧ Qd H) ∨ ((Itz K a b).go i H ∧ ∃ Nx : Hp → Prop, (∀ H', Nx H' → ∃ m', m' < m ∧ W (i + 1) m' H') ∧ ∀ x H', (Itz K a b).yld i H x H' → g x (wipe σ vs) H' fun σ2 H2 => wipe σ2 vs = wipe σ vs ∧ tt σ2 H2 fun b H3 =>
        if b = true then te σ2 H3 fun y H4 => ∃ acc, H4 D = some (.lst acc) ∧ acc.length < sizeLine ∧ Nx (upd H4 D (.lst (acc ++ [y]))) else Nx H3) := by
  refine ⟨fun i m H => m = xs.length - i ∧ i ≤ xs.length ∧ Pv i H, ⟨xs.length, by simp, Nat.zero_le _, h0⟩, ?_⟩
  rintro i m H ⟨rfl, hi, p⟩
  obtain ⟨qx, qy⟩ := hq i H p
  by_cases hlt : i < xs.length
  · have hx : xs[i]? = some xs[i] := List.getElem?_eq_getElem hlt
    have hlt2 : i < ys.length := by omega
    have hy : ys[i]? = some ys[i] := List.getElem?_eq_getElem hlt2
    refine .inr ⟨⟨xs, ys, _, _, qx, qy, hx, hy⟩, Pv (i + 1), fun H' p' => ⟨xs.length - (i + 1), by omega, rfl, hlt, p'⟩, fun v H' y => ?_⟩
    obtain ⟨T, x', y', rfl, hT, rfl, f1, f2⟩ := y
    exact hs i x' y' T H (f1 xs qx) (f2 ys qy) p hT
  · have e : i = xs.length := by omega
    subst e
    exact .inl ⟨⟨xs, ys, qx, qy, Or.inl (Nat.le_refl _)⟩, hd H p⟩
end L2
namespace VD
open PySem PySem.Spec PyProof.Rows L2
open Sq32 (Deed Letter Counts at_ was may)
section
variable {P : Program} {w : World} {K : PySem.W.Frag} {mg : Str → Option Value} {base : Heap} {c : Cl} {f : Addr} {fd : FuncData}
theorem nums_at {l : List Nat} {i : Nat} {x : V} (h : (nums l)[i]? = some x) : ∃ m, l[i]? = some m ∧ x = V.int (m : Int) := by
  unfold nums at h
  rw [List.getElem?_map] at h
  cases e : l[i]? with
  | none => rw [e] at h; cases h
  | some m =>
    rw [e] at h
    exact ⟨m, rfl, (Option.some.inj h).symm⟩
theorem refs_at {ad : Deed → Addr} {l : List Deed} {i : Nat} {x : V} (h : (refs ad l)[i]? = some x) : ∃ d, l[i]? = some d ∧ x = V.ref (ad d) := by
  unfold refs at h
  rw [List.getElem?_map] at h
  cases e : l[i]? with
  | none => rw [e] at h; cases h
  | some m =>
    rw [e] at h
    exact ⟨m, rfl, (Option.some.inj h).symm⟩
theorem take_snoc {α : Type} : ∀ {l : List α} {i : Nat} {x : α}, l[i]? = some x → l.take (i + 1) = l.take i ++ [x]
  | [], i, x, h => by simp at h
  | a :: l, 0, x, h => by
    have e : a = x := Option.some.inj h
    subst e
    rfl
  | a :: l, i + 1, x, h => by
    have ih := take_snoc (l := l) (i := i) (x := x) h
    show a :: l.take (i + 1) = a :: l.take i ++ [x]
    rw [ih]
    rfl
/-! ### has_applied -/
def spHas (c : Cl) : Sp := fun vs H Q _ => ∃ (g : Tags) (ad : Deed → Addr) (k : Nat) (a e : Addr) (r : Rep) (d : Deed), vs = [.ref a, .ref e] ∧ RepAt c g ad H k a r ∧ EvAt c g H e d ∧ d.desk < (r.vec k).length ∧ Q (.bl (was (r.vec k) d)) H
theorem sc_has : FnScope ["self", "event"] ["self", "event"] (defScope sHasApplied) := ⟨rfl, rfl, rfl, by decide +kernel, rfl, by decide +kernel, by decide +kernel⟩
theorem ok_has (T : Txt K mg c) (F : Fun K "has_applied" "Replica.has_applied" sHasApplied f fd) : FnOk P w K mg base CX0 1 f fd ["self", "event"] (spHas c) := by
  refine F.ok sc_has (fun vs H Q E h => ?_) (fun cdv A outer s H vs Q E hr h => ?_)
  · obtain ⟨_, _, _, _, _, _, _, rfl, _⟩ := h
    rfl
  · refine ⟨_, pss_one (ps_ret (pe_cmp (pc_le (pe_fld (pv 1) rfl) (pe_ix ix_list (pe_fld (pv 0) rfl) (pe_fld (pv 1) rfl) (fun _ _ => rfl))) rfl)), ?_⟩
    obtain ⟨g, ad, k, a, e, r, d, rfl, hR, hE, hd, q⟩ := h
    obtain ⟨dx, pa, pp, pk, pv', ks, R⟩ := hR
    obtain ⟨de, da, E1, _⟩ := hE.ex
    refine ⟨_, rfl, e, c.E, de, _, _, rfl, E1, T.clE, T.e2, ev_number, ?_⟩
    refine ⟨_, rfl, a, c.R, dx, _, _, rfl, R.obj, T.clR, T.r5, rp_vector, ?_⟩
    refine ⟨_, rfl, e, c.E, de, _, _, rfl, E1, T.clE, T.e1, ev_origin, ?_⟩
    refine ⟨pv', _, _, _, rfl, rfl, SqL.of R.gV.2, atI_nat (nums_get hd), ?_⟩
    refine ⟨_, _, rfl, rfl, ?_⟩
    have e2 : decide ((d.n : Int) ≤ ((at_ (r.vec k) d.desk : Nat) : Int)) = was (r.vec k) d := by
      unfold was
      rw [decide_eq_decide]
      omega
    show Q (.bl (decide ((d.n : Int) ≤ ((at_ (r.vec k) d.desk : Nat) : Int)))) H
    rw [e2]
    exact q
/-! ### depends_on -/
def spDep (c : Cl) : Sp := fun vs H Q _ => ∃ (g : Tags) (a b : Addr) (x y : Deed), vs = [.ref a, .ref b] ∧ EvAt c g H a x ∧ EvAt c g H b y ∧ y.desk < x.after.length ∧ Q (.bl (was x.after y)) H
theorem sc_dep : FnScope ["self", "other"] ["self", "other"] (defScope sDependsOn) := ⟨rfl, rfl, rfl, by decide +kernel, rfl, by decide +kernel, by decide +kernel⟩
theorem ok_dep (T : Txt K mg c) (F : Fun K "depends_on" "Event.depends_on" sDependsOn f fd) : FnOk P w K mg base CX0 1 f fd ["self", "other"] (spDep c) := by
  refine F.ok sc_dep (fun vs H Q E h => ?_) (fun cdv A outer s H vs Q E hr h => ?_)
  · obtain ⟨_, _, _, _, _, rfl, _⟩ := h
    rfl
  · refine ⟨_, pss_one (ps_ret (pe_cmp (pc_le (pe_fld (pv 1) rfl) (pe_ix ix_list (pe_fld (pv 0) rfl) (pe_fld (pv 1) rfl) (fun _ _ => rfl))) rfl)), ?_⟩
    obtain ⟨g, a, b, x, y, rfl, hX, hY, hd, q⟩ := h
    obtain ⟨dx, da, X1, X2, _⟩ := hX.ex
    obtain ⟨dy, db, Y1, _⟩ := hY.ex
    refine ⟨_, rfl, b, c.E, dy, _, _, rfl, Y1, T.clE, T.e2, ev_number, ?_⟩
    refine ⟨_, rfl, a, c.E, dx, _, _, rfl, X1, T.clE, T.e4, ev_deps, ?_⟩
    refine ⟨_, rfl, b, c.E, dy, _, _, rfl, Y1, T.clE, T.e1, ev_origin, ?_⟩
    refine ⟨da, _, _, _, rfl, rfl, SqL.of X2, atI_nat (nums_get hd), ?_⟩
    refine ⟨_, _, rfl, rfl, ?_⟩
    have e2 : decide ((y.n : Int) ≤ ((at_ x.after y.desk : Nat) : Int)) = was x.after y := by
      unfold was
      rw [decide_eq_decide]
      omega
    show Q (.bl (decide ((y.n : Int) ≤ ((at_ x.after y.desk : Nat) : Int)))) H
    rw [e2]
    exact q
/-! ### can_apply -/
def spCan (c : Cl) : Sp := fun vs H Q _ => ∃ (g : Tags) (ad : Deed → Addr) (k : Nat) (a e : Addr) (r : Rep) (d : Deed), vs = [.ref a, .ref e] ∧ RepAt c g ad H k a r ∧ EvAt c g H e d ∧ d.desk < (r.vec k).length ∧ d.after.length = (r.vec k).length ∧ d.after.length ≤ 1000 ∧
  ∀ H', Same H H' → Q (.bl (canP (r.vec k) d)) H'
theorem sc_can : FnScope ["self", "event", "needed", "reached"] ["self", "event"] (defScope sCanApply) := ⟨rfl, rfl, rfl, by decide +kernel, rfl, by decide +kernel, by decide +kernel⟩
theorem all_pairs : ∀ l : List (Nat × Nat), (l.map fun p => decide ((p.1 : Int) ≤ (p.2 : Int))).all id = l.all fun p => decide (p.1 ≤ p.2)
  | [] => rfl
  | p :: l => by
    rw [List.map_cons, List.all_cons, List.all_cons, all_pairs l]
    congr 1
    rw [id, decide_eq_decide]
    omega
theorem ok_can (T : Txt K mg c) (F : Fun K "can_apply" "Replica.can_apply" sCanApply f fd) : FnOk P w K mg base CX0 1 f fd ["self", "event"] (spCan c) := by
  refine F.ok sc_can (fun vs H Q E h => ?_) (fun cdv A outer s H vs Q E hr h => ?_)
  · obtain ⟨_, _, _, _, _, _, _, rfl, _⟩ := h
    rfl
  · refine ⟨_, pss_cons (ps_if (pt_cmpR op_ne (pe_fld (pv 1) rfl) (pe_op op_add (pe_ix ix_list (pe_fld (pv 0) rfl) (pe_fld (pv 1) rfl) (fun _ _ => rfl)) pe_int) (nomark _)) (pss_one (ps_ret pe_bl)) pss_nil)
      (pss_one (ps_ret (pe_callB (cr_all rfl) (by rfl) T.all (by decide +kernel) (pa_cons
        (pe_lc (own := [("needed", 2), ("reached", 3)]) (g := gTup K 2 (gCons (gName 2) (gCons (gName 3) gNil))) (tt := tYes) rfl sc_can.nd (pi_zip (by rfl) T.zip (pa_cons (pe_fld (pv 1) rfl) (pa_cons (pe_fld (pv 0) rfl) pa_nil)))
          (blkOk_by (own := [("needed", 2), ("reached", 3)]) (N := ["self", "event", "needed", "reached"]) (sc := defScope sCanApply) (by decide +kernel))
          (fun _ _ _ _ _ => pg_tup rfl (pgs_cons (pg_name (i := 2) sc_can.nd rfl (Or.inl rfl)) (pgs_cons (pg_name (i := 3) sc_can.nd rfl (Or.inl rfl)) pgs_nil)))
          (fun _ _ _ _ _ => pts_nil) (fun _ _ _ _ _ => pe_cmp (pc_le (pv 2) (pv 3)) rfl)) pa_nil)))), ?_⟩
    obtain ⟨g, ad, k, a, e, r, d, rfl, hR, hE, hd, hlen, hbig, q⟩ := h
    obtain ⟨dx, pa, pp, pk, pv', ks, R⟩ := hR
    obtain ⟨de, da, E1, E2, _, _⟩ := hE.ex
    refine ⟨_, rfl, e, c.E, de, _, _, rfl, E1, T.clE, T.e2, ev_number, ?_⟩
    refine ⟨_, rfl, a, c.R, dx, _, _, rfl, R.obj, T.clR, T.r5, rp_vector, ?_⟩
    refine ⟨_, rfl, e, c.E, de, _, _, rfl, E1, T.clE, T.e1, ev_origin, ?_⟩
    refine ⟨pv', _, _, _, rfl, rfl, SqL.of R.gV.2, atI_nat (nums_get hd), ?_⟩
    refine ⟨_, _, rfl, rfl, ?_⟩
    refine ⟨rfl, _, rfl, ?_⟩
    refine ite2 (fun hc => ?_) (fun hc => ?_)
    · have e1 : canP (r.vec k) d = false := by
        unfold canP
        rw [if_pos]
        intro e
        have e' : V.int (d.n : Int) = V.int ((at_ (r.vec k) d.desk : Int) + 1) := by rw [e]; rfl
        have hc' : (!decide (V.int (d.n : Int) = V.int ((at_ (r.vec k) d.desk : Int) + 1))) = true := hc
        rw [decide_eq_true e'] at hc'
        cases hc'
      have := q H (Same.refl H)
      rw [e1] at this
      exact this
    · have e1 : canP (r.vec k) d = (d.after.zip (r.vec k)).all fun p => decide (p.1 ≤ p.2) := by
        unfold canP
        rw [if_neg]
        intro e
        have e' : ¬ V.int (d.n : Int) = V.int ((at_ (r.vec k) d.desk : Int) + 1) := fun z => e (by injection z with z; omega)
        have hc' : ¬ (!decide (V.int (d.n : Int) = V.int ((at_ (r.vec k) d.desk : Int) + 1))) = true := hc
        rw [decide_eq_false e'] at hc'
        exact hc' rfl
      refine ⟨_, rfl, e, c.E, de, _, _, rfl, E1, T.clE, T.e4, ev_deps, ?_⟩
      refine ⟨_, rfl, a, c.R, dx, _, _, rfl, R.obj, T.clR, T.r5, rp_vector, ?_⟩
      refine ⟨da, pv', _, _, rfl, SqL.of E2, SqL.of R.gV.2, fun D hD => ?_⟩
      refine lc_zipL (xs := nums d.after) (ys := nums (r.vec k)) (by rw [nums_length, nums_length, hlen]) (fun i H' => Same H H' ∧ H' D = some (.lst (((d.after.zip (r.vec k)).take i).map fun p => V.bl (decide ((p.1 : Int) ≤ (p.2 : Int))))))
        ⟨same_new hD, upd_same⟩ (fun i H' p => ⟨SqL.of (p.1 _ _ E2), SqL.of (p.1 _ _ R.gV.2)⟩) (fun i x y Tp H' hx hy p hT => ?_) (fun H' p => ?_)
      · obtain ⟨p1, p2⟩ := p
        obtain ⟨m, hm, rfl⟩ : ∃ m, d.after[i]? = some m ∧ x = V.int (m : Int) := nums_at hx
        obtain ⟨n, hn, rfl⟩ : ∃ m, (r.vec k)[i]? = some m ∧ y = V.int (m : Int) := nums_at hy
        have hDT : D ≠ Tp := ne_of_none p2 hT
        refine ⟨Tp, _, rfl, SqT.of upd_same, rfl, _, _, rfl, _, _, rfl, rfl, rfl, _, rfl, _, rfl, _, _, rfl, rfl, _, (upd_ne hDT).trans p2, ?_, ?_, ?_⟩
        · rw [List.length_map, List.length_take]
          have hi := (List.getElem?_eq_some_iff.mp hm).1
          exact small1000 (by omega)
        · intro b o hb
          have h1 := p1 b o hb
          rw [upd_ne (ne_of_none hb hD), upd_ne (ne_of_none h1 hT)]
          exact h1
        · refine upd_same.trans ?_
          rw [take_snoc (l := d.after.zip (r.vec k)) (x := (m, n)) (by rw [List.getElem?_zip_eq_some]; exact ⟨hm, hn⟩), List.map_append]
          rfl
      · obtain ⟨p1, p2⟩ := p
        rw [nums_length, List.take_of_length_le (by rw [List.length_zip]; omega)] at p2
        refine ⟨D, (d.after.zip (r.vec k)).map fun p => decide ((p.1 : Int) ≤ (p.2 : Int)), rfl, SqL.of (by rw [List.map_map]; exact p2), ?_⟩
        have := q H' p1
        rw [all_pairs, ← e1]
        exact this
end
end VD
end
section
set_option Elab.async false
set_option maxRecDepth 100000
set_option maxHeartbeats 2000000
namespace VD
open PySem PySem.Spec PyProof.Rows L2
open Sq32 (Deed Letter Counts at_ was may)
theorem ixN_at {n j : Nat} (hj : j < n) : ixN n (j : Int) = some j := by
  unfold ixN
  rw [if_pos (Int.natCast_nonneg j), if_pos (by omega)]
  rfl
theorem line1000 {n : Nat} (h : n < 1000) : n < sizeLine := small1000 (Nat.le_of_lt h)
section
variable {P : Program} {w : World} {K : PySem.W.Frag} {mg : Str → Option Value} {base : Heap} {c : Cl} {f : Addr} {fd : FuncData}
/-! ### apply -/
theorem RepIs.applied {g : Tags} {ad : Deed → Addr} {H : Hp} {k : Nat} {a : Addr} {r : Rep} {dx pa pp pk pv' : Addr} {ks : List Addr} (R : RepIs c g ad H k a r dx pa pp pk pv' ks) (hk : k < r.known.length) (d : Deed) :
    RepIs c g ad (upd (upd H pa (.lst (refs ad r.applied ++ [.ref (ad d)]))) pv' (.lst ((nums (r.vec k)).set d.desk (.int (d.n : Int))))) k a (r.app k d) dx pa pp pk pv' ks := by
  obtain ⟨gv, hv⟩ := R.gV
  have n1 : a ≠ pa := ne_of R.obj R.app (by intro z; cases z)
  have n2 : a ≠ pv' := ne_of R.obj hv (by intro z; cases z)
  have tg : ∀ {x y : Addr} {s t : Tag}, g x = s → g y = t → s ≠ t → x ≠ y := fun h1 h2 hn e => hn (by rw [← h1, ← h2, e])
  have n3 : pp ≠ pa := tg R.gQ R.gP (by simp)
  have n4 : pp ≠ pv' := tg R.gQ gv (by simp)
  have n5 : pk ≠ pa := tg R.gK R.gP (by simp)
  have n6 : pk ≠ pv' := tg R.gK gv (by simp)
  have n7 : pa ≠ pv' := tg R.gP gv (by simp)
  refine ⟨?_, ?_, ?_, ?_, R.own, ?_, fun j b hb => ?_, R.gA, R.gP, R.gQ, R.gK⟩
  · rw [upd_ne n2, upd_ne n1]; exact R.obj
  · rw [upd_ne n7]
    refine upd_same.trans ?_
    show some (HO.lst (refs ad r.applied ++ [.ref (ad d)])) = some (.lst (refs ad (r.applied ++ [d])))
    unfold refs
    rw [List.map_append]
    rfl
  · rw [upd_ne n4, upd_ne n3]; exact R.pen
  · rw [upd_ne n6, upd_ne n5]; exact R.kno
  · show ks.length = (r.known.set _ _).length
    rw [List.length_set]; exact R.klen
  · obtain ⟨h1, h2⟩ := R.vec j b hb
    refine ⟨?_, h2⟩
    have ev : (r.app k d).vec j = if j = k then (r.vec k).set d.desk d.n else r.vec j := vec_set (r := r) hk
    rw [ev]
    by_cases e : j = k
    · subst e
      have : b = pv' := by rw [R.own] at hb; exact (Option.some.inj hb).symm
      subst this
      rw [if_pos rfl, ← nums_set]
      exact upd_same
    · rw [if_neg e]
      have m1 : b ≠ pv' := tg h2 gv (by intro z; injection z with _ z; exact e z)
      have m2 : b ≠ pa := tg h2 R.gP (by simp)
      rw [upd_ne m1, upd_ne m2]
      exact h1
def spApply (c : Cl) : Sp := fun vs H Q _ => ∃ (g : Tags) (ad : Deed → Addr) (k : Nat) (a : Addr) (r : Rep) (d : Deed), vs = [.ref a, .ref (ad d)] ∧ RepAt c g ad H k a r ∧ EvAt c g H (ad d) d ∧ d.desk < (r.vec k).length ∧ k < r.known.length ∧ r.applied.length < 1000 ∧
  ∀ H', RepAt c g ad H' k a (r.app k d) → Kp (TR k) g H g H' → Q .non H'
theorem sc_apply : FnScope ["self", "event"] ["self", "event"] (defScope sApply) := ⟨rfl, rfl, rfl, by decide +kernel, rfl, by decide +kernel, by decide +kernel⟩
theorem ok_apply (T : Txt K mg c) (F : Fun K "apply" "Replica.apply" sApply f fd) : FnOk P w K mg base CX0 1 f fd ["self", "event"] (spApply c) := by
  refine F.ok sc_apply (fun vs H Q E h => ?_) (fun cdv A outer s H vs Q E hr h => ?_)
  · obtain ⟨_, _, _, _, _, _, rfl, _⟩ := h
    rfl
  · refine ⟨_, pss_cons (ps_expr (pe_bm PySem.F.plainAttrs_list PySem.F.slot_list_append PySem.F.type_list_append mt_append (pe_fld (pv 0) rfl) (pa_cons (pv 1) pa_nil)))
      (pss_one (ps_asg (pe_fld (pv 1) rfl) (pg_sub (pe_fld (pv 0) rfl) (pe_fld (pv 1) rfl) set_list))), ?_⟩
    obtain ⟨g, ad, k, a, r, d, rfl, hR, hE, hd, hk, hl, q⟩ := h
    obtain ⟨dx, pa, pp, pk, pv', ks, R⟩ := hR
    obtain ⟨de, da, E1, E2, _, _⟩ := hE.ex
    obtain ⟨gv, hv⟩ := R.gV
    have n1 : a ≠ pa := ne_of R.obj R.app (by intro z; cases z)
    have n0 : ad d ≠ pa := ne_of E1 R.app (by intro z; cases z)
    have n7 : pv' ≠ pa := fun e => by
      have := gv
      rw [e, R.gP] at this
      cases this
    refine ⟨_, rfl, a, c.R, dx, _, _, rfl, R.obj, T.clR, T.r2, rp_applied, .inl ⟨rfl, _, SqL.of R.app⟩, _, rfl, pa, _, _, rfl, rfl, R.app, (by rw [refs_length]; exact line1000 hl), ?_⟩
    refine ⟨_, rfl, ad d, c.E, de, _, _, rfl, (upd_ne n0).trans E1, T.clE, T.e2, ev_number, ?_⟩
    refine ⟨_, rfl, a, c.R, dx, _, _, rfl, (upd_ne n1).trans R.obj, T.clR, T.r5, rp_vector, ?_⟩
    refine ⟨_, rfl, ad d, c.E, de, _, _, rfl, (upd_ne n0).trans E1, T.clE, T.e1, ev_origin, ?_⟩
    refine ⟨pv', _, _, d.desk, rfl, rfl, (upd_ne n7).trans hv, ixN_at (by rw [nums_length]; exact hd), ?_⟩
    refine q _ ⟨_, _, _, _, _, _, R.applied hk d⟩ ((Kp.put ?_).trans (Kp.put ?_))
    · show (g pa).own = some k
      rw [R.gP]; rfl
    · show (g pv').own = some k
      rw [gv]; rfl
/-! ### create -/
def adAt (ad : Deed → Addr) (d : Deed) (p : Addr) : Deed → Addr := fun x => if x = d then p else ad x
theorem adAt_same {ad : Deed → Addr} {d : Deed} {p : Addr} : adAt ad d p d = p := if_pos rfl
theorem adAt_ne {ad : Deed → Addr} {d x : Deed} {p : Addr} (h : x ≠ d) : adAt ad d p x = ad x := if_neg h
def spRCreate (c : Cl) : Sp := fun vs H Q _ => ∃ (g : Tags) (ad : Deed → Addr) (k : Nat) (a : Addr) (r : Rep) (v : Nat), vs = [.ref a, .int (v : Int)] ∧ RepAt c g ad H k a r ∧ k < (r.vec k).length ∧ k < r.known.length ∧ r.applied.length < 1000 ∧
  (∀ x ∈ r.applied, x ≠ (⟨k, at_ (r.vec k) k + 1, r.vec k, v⟩ : Deed)) ∧ (∀ x ∈ r.pending, x ≠ (⟨k, at_ (r.vec k) k + 1, r.vec k, v⟩ : Deed)) ∧
  ∀ H' g' p, H p = none → EvAt c g' H' p ⟨k, at_ (r.vec k) k + 1, r.vec k, v⟩ → RepAt c g' (adAt ad ⟨k, at_ (r.vec k) k + 1, r.vec k, v⟩ p) H' k a (r.app k ⟨k, at_ (r.vec k) k + 1, r.vec k, v⟩) → Kp (TR k) g H g' H' → Q (.ref p) H'
theorem sc_rcreate : FnScope ["self", "value", "event"] ["self", "value"] (defScope sRCreate) := ⟨rfl, rfl, rfl, by decide +kernel, rfl, by decide +kernel, by decide +kernel⟩
theorem ok_rcreate (T : Txt K mg c) (F : Fun K "create" "Replica.create" sRCreate f fd) (ME : Mak P w K mg base 1 "Event" c.E (spEvI c)) (MA : Met P w K mg base 1 c.R "apply" (spApply c)) : FnOk P w K mg base CX0 3 f fd ["self", "value"] (spRCreate c) := by
  refine F.ok sc_rcreate (fun vs H Q E h => ?_) (fun cdv A outer s H vs Q E hr h => ?_)
  · obtain ⟨_, _, _, _, _, _, rfl, _⟩ := h
    rfl
  · refine ⟨_, pss_cons (ps_set (i := 2) sc_rcreate.nd rfl (Or.inl rfl) (pe_mak ME hr (by decide) rfl (pa_cons (pe_fld (pv 0) rfl) (pa_cons (pe_op op_add (pe_ix ix_list (pe_fld (pv 0) rfl) (pe_fld (pv 0) rfl) (fun _ _ => rfl)) pe_int)
        (pa_cons (pv 1) (pa_cons (pe_callTy call_list_of (by rfl) T.list (by decide +kernel) (pa_cons (pe_fld (pv 0) rfl) pa_nil)) pa_nil))))))
      (pss_cons (ps_expr (pe_met T.clR MA hr (by decide) (pv 0) (pa_cons (pv 2) pa_nil))) (pss_one (ps_ret (pv 2)))), ?_⟩
    obtain ⟨g, ad, k, a, r, v, rfl, hR, hkv, hk, hl, nd1, nd2, q⟩ := h
    obtain ⟨dx, pa, pp, pk, pv', ks, R⟩ := hR
    obtain ⟨gv, hv⟩ := R.gV
    refine ⟨_, rfl, a, c.R, dx, _, _, rfl, R.obj, T.clR, T.r1, rp_place, ?_⟩
    refine ⟨_, rfl, a, c.R, dx, _, _, rfl, R.obj, T.clR, T.r5, rp_vector, ?_⟩
    refine ⟨_, rfl, a, c.R, dx, _, _, rfl, R.obj, T.clR, T.r1, rp_place, ?_⟩
    refine ⟨pv', _, _, _, rfl, rfl, SqL.of hv, atI_nat (nums_get hkv), ?_⟩
    refine ⟨_, _, rfl, rfl, ?_⟩
    refine ⟨_, rfl, ?_⟩
    refine ⟨_, rfl, a, c.R, dx, _, _, rfl, R.obj, T.clR, T.r5, rp_vector, ?_⟩
    refine ⟨pv', _, rfl, .inl (SqL.of hv), fun l hlN => ?_⟩
    intro p dp np ndp ne
    have hl1 : upd H l (.lst (nums (r.vec k))) l = some (.lst (nums (r.vec k))) := upd_same
    have hpH : H p = none := (same_new hlN).free np
    refine ⟨p, dp, _, _, _, _, rfl, upd_same, fun H2 J kp => ⟨rfl, ?_⟩⟩
    -- the heap behind Event(..)
    have s1 : Same (upd H l (.lst (nums (r.vec k)))) H2 := Same.made np ndp kp
    have hlp : l ≠ p := ne_of_none hl1 np
    have K1 : Kp (TR k) g H (tagAt (tagAt g l .fix) p .fix) H2 := by
      refine (Kp.new (t := .fix) hlN).trans fun b o hb _ => ⟨s1 b o hb, tagAt_ne (ne_of_none hb np)⟩
    have K0 : Kp T0 g H (tagAt (tagAt g l .fix) p .fix) H2 := by
      refine (Kp.new (t := .fix) hlN).trans fun b o hb _ => ⟨s1 b o hb, tagAt_ne (ne_of_none hb np)⟩
    have EV : EvAt c (tagAt (tagAt g l .fix) p .fix) H2 p ⟨k, at_ (r.vec k) k + 1, r.vec k, v⟩ := ⟨dp, l, J, s1 _ _ hl1, tagAt_same, (tagAt_ne hlp).trans tagAt_same⟩
    have R2 : RepAt c (tagAt (tagAt g l .fix) p .fix) (adAt ad ⟨k, at_ (r.vec k) k + 1, r.vec k, v⟩ p) H2 k a r := RepAt.to (RepAt.kp ⟨_, _, _, _, _, _, R⟩ K0 fun _ _ z => z) (fun x hx => adAt_ne (nd1 x hx)) fun x hx => adAt_ne (nd2 x hx)
    have ha2 : H2 a = some (.ins c.R dx (rpF k pa pp pk pv')) := (K0 _ _ R.obj fun z => z).1
    refine ⟨_, rfl, a, dx, _, rfl, ha2, rp_no (by decide +kernel), _, rfl, ?_⟩
    refine ⟨tagAt (tagAt g l .fix) p .fix, adAt ad ⟨k, at_ (r.vec k) k + 1, r.vec k, v⟩ p, k, a, r, ⟨k, at_ (r.vec k) k + 1, r.vec k, v⟩, by rw [adAt_same]; rfl, R2, by rw [adAt_same]; exact EV, hkv, hk, hl, fun H3 R3 K3 => ?_⟩
    refine ⟨_, rfl, ?_⟩
    refine q H3 _ p hpH (EV.kp K3 ?_) R3 (K1.trans K3)
    show ¬ Tag.own .fix = some k
    intro z
    cases z
end
end VD
end
section
set_option Elab.async false
set_option maxRecDepth 100000
set_option maxHeartbeats 2000000
namespace VD
open PySem PySem.Spec PyProof.Rows L2
open Sq32 (Deed Letter Counts at_ was may)
/-- what a search gives -/
def found (ad : Deed → Addr) : Option Deed → V
  | some d => .ref (ad d)
  | none => .non
theorem find_more {α : Type} {p : α → Bool} {l : List α} {i : Nat} {d : α} (h : (l.take i).find? p = none) (hd : l[i]? = some d) (hp : p d = false) : (l.take (i + 1)).find? p = none := by
  rw [take_snoc hd, List.find?_append, h]
  simp [hp]
theorem find_here {α : Type} {p : α → Bool} {l : List α} {i : Nat} {d : α} (h : (l.take i).find? p = none) (hd : l[i]? = some d) (hp : p d = true) : l.find? p = some d := by
  have e : l = l.take i ++ l.drop i := (List.take_append_drop i l).symm
  have e2 : l.drop i = d :: l.drop (i + 1) := by
    obtain ⟨hi, he⟩ := List.getElem?_eq_some_iff.mp hd
    rw [List.drop_eq_getElem_cons hi, he]
  rw [e, List.find?_append, h, e2, List.find?_cons, hp]
  rfl
theorem filter_more {α : Type} {p : α → Bool} {l : List α} {i : Nat} {d : α} (hd : l[i]? = some d) : (l.take (i + 1)).filter p = (l.take i).filter p ++ if p d = true then [d] else [] := by
  rw [take_snoc hd, List.filter_append]
  cases e : p d with
  | true => simp [e]
  | false => simp [e]
section
variable {P : Program} {w : World} {K : PySem.W.Frag} {mg : Str → Option Value} {base : Heap} {c : Cl} {f : Addr} {fd : FuncData}
/-! ### find_event -/
def spFE (c : Cl) : Sp := fun vs H Q _ => ∃ (g : Tags) (ad : Deed → Addr) (pa : Addr) (l : List Deed) (o n : Nat), vs = [.ref pa, .int (o : Int), .int (n : Int)] ∧ H pa = some (.lst (refs ad l)) ∧ (∀ d ∈ l, EvAt c g H (ad d) d) ∧
  Q (found ad (l.find? fun e => e.desk == o && e.n == n)) H
theorem sc_fe : FnScope ["events", "origin", "number", "event"] ["events", "origin", "number"] (defScope sFindEvent) := ⟨rfl, rfl, rfl, by decide +kernel, rfl, by decide +kernel, by decide +kernel⟩
theorem int_eq_nat {m n : Nat} : decide (V.int (m : Int) = V.int (n : Int)) = (m == n) := by
  by_cases e : m = n
  · subst e
    simp
  · have e' : ¬ V.int (m : Int) = V.int (n : Int) := fun z => e (by injection z with z; omega)
    rw [decide_eq_false e']
    exact (beq_eq_false_iff_ne.mpr e).symm
theorem ok_fe (T : Txt K mg c) (F : Fun K "find_event" "find_event" sFindEvent f fd) : FnOk P w K mg base CX0 1 f fd ["events", "origin", "number"] (spFE c) := by
  refine F.ok sc_fe (fun vs H Q E h => ?_) (fun cdv A outer s H vs Q E hr h => ?_)
  · obtain ⟨_, _, _, _, _, _, rfl, _⟩ := h
    rfl
  · refine ⟨_, pss_cons (ps_for PassesOwn.never rfl (pi_list (pv 0)) (pg_name (i := 3) sc_fe.nd rfl (Or.inl rfl))
        (pss_one (ps_if (PW.pt (pw_and (pt_cmpR op_eq (pe_fld (pv 3) rfl) (pv 1) (nomark _)) (pw_and1 (pt_cmpR op_eq (pe_fld (pv 3) rfl) (pv 2) (nomark _))))) (pss_one (ps_ret (pv 3))) pss_nil)))
      (pss_one (ps_ret pe_non)), ?_⟩
    obtain ⟨g, ad, pa, l, o, n, rfl, hp, hE, q⟩ := h
    refine ⟨_, rfl, pa, rfl, ⟨_, SqL.of hp⟩, ?_⟩
    refine for_list (K := K) (a := pa) (xs := refs ad l) (fun i σ H' => ∃ v, σ = [some (.ref pa), some (.int (o : Int)), some (.int (n : Int)), v] ∧ H' = H ∧ (l.take i).find? (fun e => e.desk == o && e.n == n) = none)
      ⟨none, rfl, rfl, by rw [List.take_zero]; rfl⟩ (fun i σ H' _ ⟨_, _, e, _⟩ => by rw [e]; exact SqL.of hp) ?_ ?_
    · rintro i x σ H' hx ⟨v, rfl, rfl, hn⟩
      obtain ⟨d, hd, rfl⟩ := refs_at hx
      obtain ⟨de, da, E1, _⟩ := (hE d (List.mem_of_getElem? hd)).ex
      refine ⟨_, rfl, ad d, c.E, de, _, _, rfl, E1, T.clE, T.e1, ev_origin, _, rfl, rfl, _, rfl, ?_⟩
      have hfin : ∀ b : Bool, (d.desk == o && d.n == n) = b → (l.take i).find? (fun e => e.desk == o && e.n == n) = none → (b = true → l.find? (fun e => e.desk == o && e.n == n) = some d) ∧ (b = false → (l.take (i + 1)).find? (fun e => e.desk == o && e.n == n) = none) :=
        fun b hb h0 => ⟨fun e => find_here h0 hd (hb.trans e), fun e => find_more h0 hd (hb.trans e)⟩
      cases e1 : (d.desk == o) with
      | false =>
        have e1' := int_eq_nat.trans e1
        rw [e1']
        refine iteF (iteF ⟨_, rfl, rfl, (hfin false (by rw [e1]; rfl) hn).2 rfl⟩)
      | true =>
        have e1' := int_eq_nat.trans e1
        rw [e1']
        refine iteT ⟨_, rfl, ad d, c.E, de, _, _, rfl, E1, T.clE, T.e2, ev_number, _, rfl, rfl, _, rfl, ?_⟩
        cases e2 : (d.n == n) with
        | false =>
          have e2' := int_eq_nat.trans e2
          rw [e2']
          exact iteF ⟨_, rfl, rfl, (hfin false (by rw [e1, e2]; rfl) hn).2 rfl⟩
        | true =>
          have e2' := int_eq_nat.trans e2
          rw [e2']
          refine iteT ⟨_, rfl, ?_⟩
          have := (hfin true (by rw [e1, e2]; rfl) hn).1 rfl
          rw [this] at q
          exact q
    · rintro σ H' ⟨v, rfl, rfl, hn⟩
      rw [refs_length, List.take_length] at hn
      rw [hn] at q
      exact q
/-! ### first_applicable -/
structure Fit (c : Cl) (g : Tags) (ad : Deed → Addr) (H : Hp) (n : Nat) (d : Deed) : Prop where
  ev : EvAt c g H (ad d) d
  desk : d.desk < n
  len : d.after.length = n
theorem Fit.same {g : Tags} {ad : Deed → Addr} {H H' : Hp} {n : Nat} {d : Deed} (x : Fit c g ad H n d) (h : Same H H') : Fit c g ad H' n d := ⟨x.ev.same h, x.desk, x.len⟩
def spFirst (c : Cl) : Sp := fun vs H Q _ => ∃ (g : Tags) (ad : Deed → Addr) (k n : Nat) (a : Addr) (r : Rep), vs = [.ref a] ∧ RepAt c g ad H k a r ∧ (r.vec k).length = n ∧ n ≤ 1000 ∧ (∀ d ∈ r.pending, Fit c g ad H n d) ∧
  ∀ H', Same H H' → Q (found ad (r.pending.find? (canP (r.vec k)))) H'
theorem sc_first : FnScope ["self", "event"] ["self"] (defScope sFirst) := ⟨rfl, rfl, rfl, by decide +kernel, rfl, by decide +kernel, by decide +kernel⟩
theorem ok_first (T : Txt K mg c) (F : Fun K "first_applicable" "Replica.first_applicable" sFirst f fd) (MC : Met P w K mg base 1 c.R "can_apply" (spCan c)) : FnOk P w K mg base CX0 2 f fd ["self"] (spFirst c) := by
  refine F.ok sc_first (fun vs H Q E h => ?_) (fun cdv A outer s H vs Q E hr h => ?_)
  · obtain ⟨_, _, _, _, _, _, rfl, _⟩ := h
    rfl
  · refine ⟨_, pss_cons (ps_for PassesOwn.never rfl (pi_list (pe_fld (pv 0) rfl)) (pg_name (i := 1) sc_first.nd rfl (Or.inl rfl))
        (pss_one (ps_if (pt_val (pe_met T.clR MC hr (by decide) (pv 0) (pa_cons (pv 1) pa_nil))) (pss_one (ps_ret (pv 1))) pss_nil)))
      (pss_one (ps_ret pe_non)), ?_⟩
    obtain ⟨g, ad, k, n, a, r, rfl, hR, hn, hn1, hE, q⟩ := h
    obtain ⟨dx, pa, pp, pk, pv', ks, R⟩ := hR
    refine ⟨_, rfl, a, c.R, dx, _, _, rfl, R.obj, T.clR, T.r3, rp_pending, pp, rfl, ⟨_, SqL.of R.pen⟩, ?_⟩
    refine for_list (K := K) (a := pp) (xs := refs ad r.pending) (fun i σ H' => ∃ v, σ = [some (.ref a), v] ∧ Same H H' ∧ (r.pending.take i).find? (canP (r.vec k)) = none)
      ⟨none, rfl, Same.refl H, by rw [List.take_zero]; rfl⟩ (fun i σ H' _ ⟨_, _, e, _⟩ => SqL.of (e _ _ R.pen)) ?_ ?_
    · rintro i x σ H' hx ⟨v, rfl, sm, h0⟩
      obtain ⟨d, hd, rfl⟩ := refs_at hx
      have hf := (hE d (List.mem_of_getElem? hd)).same sm
      have R' := R.same sm
      refine ⟨_, rfl, a, dx, _, rfl, R'.obj, rp_no (by decide +kernel), _, rfl, ?_⟩
      refine ⟨g, ad, k, a, ad d, r, d, rfl, ⟨_, _, _, _, _, _, R'⟩, hf.ev, by rw [hn]; exact hf.desk, by rw [hn]; exact hf.len, by rw [hf.len]; exact hn1, fun H2 s2 => ?_⟩
      refine ⟨_, rfl, ?_⟩
      cases e : canP (r.vec k) d with
      | false => exact iteF ⟨_, rfl, sm.trans s2, find_more h0 hd e⟩
      | true =>
        refine iteT ⟨_, rfl, ?_⟩
        have := q H2 (sm.trans s2)
        rw [find_here h0 hd e] at this
        exact this
    · rintro σ H' ⟨v, rfl, sm, h0⟩
      rw [refs_length, List.take_length] at h0
      have := q H' sm
      rw [h0] at this
      exact this
/-! ### events_for -/
def spFor (c : Cl) : Sp := fun vs H Q _ => ∃ (g : Tags) (ad : Deed → Addr) (k j : Nat) (a : Addr) (r : Rep), vs = [.ref a, .int (j : Int)] ∧ RepAt c g ad H k a r ∧ j < r.known.length ∧ r.applied.length ≤ 1000 ∧ (∀ d ∈ r.applied, EvAt c g H (ad d) d ∧ d.desk < (r.vec j).length) ∧
  ∀ H' p, H p = none → H' p = some (.lst (refs ad (r.forOther j))) → Same H H' → Q (.ref p) H'
theorem sc_for : FnScope ["self", "other", "vector", "event"] ["self", "other"] (defScope sEventsFor) := ⟨rfl, rfl, rfl, by decide +kernel, rfl, by decide +kernel, by decide +kernel⟩
theorem ok_for (T : Txt K mg c) (F : Fun K "events_for" "Replica.events_for" sEventsFor f fd) : FnOk P w K mg base CX0 1 f fd ["self", "other"] (spFor c) := by
  refine F.ok sc_for (fun vs H Q E h => ?_) (fun cdv A outer s H vs Q E hr h => ?_)
  · obtain ⟨_, _, _, _, _, _, rfl, _⟩ := h
    rfl
  · refine ⟨_, pss_cons (ps_set (i := 2) sc_for.nd rfl (Or.inr rfl) (pe_ix ix_list (pe_fld (pv 0) rfl) (pv 1) (fun _ _ => rfl)))
      (pss_one (ps_ret (pe_lc (own := [("event", 3)]) (g := gName 3) (tt := tTest (tOp (rI0 fun i j => .bl (decide (j < i))) (tFld K (tVar 3) "number") (tOp (rIxL K) (tVar 2) (tFld K (tVar 3) "origin")))) rfl sc_for.nd (pi_list (pe_fld (pv 0) rfl))
          (blkOk_by (own := [("event", 3)]) (N := ["self", "other", "vector", "event"]) (sc := defScope sEventsFor) (by decide +kernel))
          (fun _ _ _ _ _ => pg_name (i := 3) sc_for.nd rfl (Or.inl rfl))
          (fun _ _ _ _ _ => pts_one (pt_cmpR op_gt (pe_fld (pv 3) rfl) (pe_ix ix_list (pv 2) (pe_fld (pv 3) rfl) (fun _ _ => rfl)) (nomark _))) (fun _ _ _ _ _ => pv 3)))), ?_⟩
    obtain ⟨g, ad, k, j, a, r, rfl, hR, hj, hl, hE, q⟩ := h
    obtain ⟨dx, pa, pp, pk, pv', ks, R⟩ := hR
    have hjk : j < ks.length := by rw [R.klen]; exact hj
    obtain ⟨hv, gv⟩ := R.vec j ks[j] (List.getElem?_eq_getElem hjk)
    refine ⟨_, rfl, a, c.R, dx, _, _, rfl, R.obj, T.clR, T.r4, rp_known, ?_⟩
    refine ⟨_, rfl, pk, _, _, _, rfl, rfl, SqL.of R.kno, atI_nat (by rw [List.getElem?_map, List.getElem?_eq_getElem hjk]; rfl), ?_⟩
    refine ⟨_, rfl, a, c.R, dx, _, _, rfl, R.obj, T.clR, T.r2, rp_applied, pa, rfl, ⟨_, SqL.of R.app⟩, fun D hD => ?_⟩
    refine lc_list (K := K) (a := pa) (xs := refs ad r.applied) (fun i H' => Same H H' ∧ H' D = some (.lst (refs ad ((r.applied.take i).filter fun d => decide (at_ (r.vec j) d.desk < d.n)))))
      ⟨same_new hD, upd_same⟩ (fun i H' _ p => SqL.of (p.1 _ _ R.app)) (fun i x H' hx p => ?_) (fun H' p => ?_)
    · obtain ⟨p1, p2⟩ := p
      obtain ⟨d, hd, rfl⟩ := refs_at hx
      obtain ⟨hEv, hdj⟩ := hE d (List.mem_of_getElem? hd)
      obtain ⟨de, da, E1, _⟩ := (hEv.same p1).ex
      refine ⟨rfl, _, rfl, ad d, c.E, de, _, _, rfl, E1, T.clE, T.e2, ev_number, _, rfl, _, rfl, ad d, c.E, de, _, _, rfl, E1, T.clE, T.e1, ev_origin, ?_⟩
      refine ⟨_, _, _, _, rfl, rfl, SqL.of (p1 _ _ hv), atI_nat (nums_get hdj), _, _, rfl, rfl, _, rfl, ?_⟩
      refine ite2 (fun hc => ?_) (fun hc => ?_)
      · have hc' : at_ (r.vec j) d.desk < d.n := by have := of_decide_eq_true hc; omega
        refine ⟨_, rfl, _, p2, ?_, fun b o hb => ?_, ?_⟩
        · rw [refs_length]
          refine small1000 (Nat.le_trans (List.length_filter_le _ _) (Nat.le_trans (List.length_take_le' _ _) hl))
        · rw [upd_ne (ne_of_none hb hD)]
          exact p1 b o hb
        · refine upd_same.trans ?_
          rw [filter_more hd, if_pos (decide_eq_true hc')]
          unfold refs
          rw [List.map_append]
          rfl
      · have hc' : ¬ at_ (r.vec j) d.desk < d.n := fun z => hc (decide_eq_true (by omega))
        refine ⟨p1, ?_⟩
        rw [filter_more hd, if_neg (by rw [decide_eq_false hc']; exact Bool.false_ne_true), List.append_nil]
        exact p2
    · obtain ⟨p1, p2⟩ := p
      rw [refs_length, List.take_length] at p2
      exact q H' D hD p2 p1
end
end VD
end
section
set_option Elab.async false
set_option maxRecDepth 100000
set_option maxHeartbeats 2000000
namespace VD
open PySem PySem.Spec PyProof.Rows L2
open Sq32 (Deed Letter Counts at_ was may)
section
variable {P : Program} {w : World} {K : PySem.W.Frag} {mg : Str → Option Value} {base : Heap} {c : Cl} {f : Addr} {fd : FuncData}
/-! ### learn -/
theorem RepIs.learned {g : Tags} {ad : Deed → Addr} {H H' : Hp} {k j : Nat} {a : Addr} {r : Rep} {dx pa pp pk pv' D : Addr} {ks : List Addr} {cs : Counts} (R : RepIs c g ad H k a r dx pa pp pk pv' ks) (hj : j < r.known.length) (hne : j ≠ k) (hD : H D = none) (s : Same H H')
    (hv : H' D = some (.lst (nums (maxs (r.vec j) cs)))) : RepIs c (tagAt g D (.vec k j)) ad (upd H' pk (.lst ((ks.map V.ref).set j (.ref D)))) k a (r.learn j cs) dx pa pp pk pv' (ks.set j D) := by
  have kp : Kp T0 g H (tagAt g D (.vec k j)) H' := fun b o hb _ => ⟨s b o hb, tagAt_ne (ne_of_none hb hD)⟩
  have R' := R.kp kp fun _ _ z => z
  have n1 : a ≠ pk := ne_of R'.obj R'.kno (by intro z; cases z)
  have tg : ∀ {x y : Addr} {s t : Tag}, (tagAt g D (.vec k j)) x = s → (tagAt g D (.vec k j)) y = t → s ≠ t → x ≠ y := fun h1 h2 hn e => hn (by rw [← h1, ← h2, e])
  have n2 : pa ≠ pk := tg R'.gP R'.gK (by simp)
  have n3 : pp ≠ pk := tg R'.gQ R'.gK (by simp)
  have n4 : D ≠ pk := tg tagAt_same R'.gK (by simp)
  have ev : ∀ i, (r.learn j cs).vec i = if i = j then maxs (r.vec j) cs else r.vec i := fun i => vec_set hj
  refine ⟨(upd_ne n1).trans R'.obj, (upd_ne n2).trans R'.app, (upd_ne n3).trans R'.pen, ?_, ?_, ?_, fun i b hb => ?_, R'.gA, R'.gP, R'.gQ, R'.gK⟩
  · refine upd_same.trans ?_
    rw [List.map_set]
  · rw [List.getElem?_set_ne hne]; exact R.own
  · show (ks.set j D).length = (r.known.set j _).length
    rw [List.length_set, List.length_set]; exact R.klen
  · rw [ev i]
    rw [List.getElem?_set] at hb
    by_cases e : j = i
    · subst e
      rw [if_pos rfl, if_pos (by rw [R.klen]; exact hj)] at hb
      have := Option.some.inj hb
      subst this
      rw [if_pos rfl]
      exact ⟨(upd_ne n4).trans hv, tagAt_same⟩
    · rw [if_neg e] at hb
      rw [if_neg fun z => e z.symm]
      obtain ⟨h1, h2⟩ := R'.vec i b hb
      exact ⟨(upd_ne (tg h2 R'.gK (by simp))).trans h1, h2⟩
def spLearn (c : Cl) : Sp := fun vs H Q _ => ∃ (g : Tags) (ad : Deed → Addr) (k j : Nat) (a u : Addr) (r : Rep) (cs : Counts), vs = [.ref a, .int (j : Int), .ref u] ∧ RepAt c g ad H k a r ∧ H u = some (.lst (nums cs)) ∧ j < r.known.length ∧ j ≠ k ∧ (r.vec j).length = cs.length ∧ cs.length ≤ 1000 ∧
  ∀ H' g', RepAt c g' ad H' k a (r.learn j cs) → Kp (TR k) g H g' H' → Q .non H'
theorem sc_learn : FnScope ["self", "other", "vector", "old", "told"] ["self", "other", "vector"] (defScope sLearn) := ⟨rfl, rfl, rfl, by decide +kernel, rfl, by decide +kernel, by decide +kernel⟩
theorem ok_learn (T : Txt K mg c) (F : Fun K "learn" "Replica.learn" sLearn f fd) : FnOk P w K mg base CX0 1 f fd ["self", "other", "vector"] (spLearn c) := by
  refine F.ok sc_learn (fun vs H Q E h => ?_) (fun cdv A outer s H vs Q E hr h => ?_)
  · obtain ⟨_, _, _, _, _, _, _, _, rfl, _⟩ := h
    rfl
  · refine ⟨_, pss_one (ps_asg (pe_lc (own := [("old", 3), ("told", 4)]) (g := gTup K 2 (gCons (gName 3) (gCons (gName 4) gNil))) (tt := tYes)
          (te := tCB (fun xs H Q => ∃ i j, xs = [V.int i, V.int j] ∧ Q (V.int (if j > i then j else i)) H) (tCons (tVar 3) (tCons (tVar 4) tNil))) rfl sc_learn.nd
          (pi_zip (by rfl) T.zip (pa_cons (pe_ix ix_list (pe_fld (pv 0) rfl) (pv 1) (fun _ _ => rfl)) (pa_cons (pv 2) pa_nil)))
          (blkOk_by (own := [("old", 3), ("told", 4)]) (N := ["self", "other", "vector", "old", "told"]) (sc := defScope sLearn) (by decide +kernel))
          (fun _ _ _ _ _ => pg_tup rfl (pgs_cons (pg_name (i := 3) sc_learn.nd rfl (Or.inl rfl)) (pgs_cons (pg_name (i := 4) sc_learn.nd rfl (Or.inl rfl)) pgs_nil)))
          (fun _ _ _ _ _ => pts_nil) (fun _ _ _ _ _ => pe_callB (call_max2 rfl) (by rfl) T.max (by decide +kernel) (pa_cons (pv 3) (pa_cons (pv 4) pa_nil))))
        (pg_sub (pe_fld (pv 0) rfl) (pv 1) set_list)), ?_⟩
    obtain ⟨g, ad, k, j, a, u, r, cs, rfl, hR, hu, hj, hne, hlen, hbig, q⟩ := h
    obtain ⟨dx, pa, pp, pk, pv', ks, R⟩ := hR
    have hjk : j < ks.length := by rw [R.klen]; exact hj
    obtain ⟨hv, gv⟩ := R.vec j ks[j] (List.getElem?_eq_getElem hjk)
    refine ⟨_, rfl, a, c.R, dx, _, _, rfl, R.obj, T.clR, T.r4, rp_known, ?_⟩
    refine ⟨_, rfl, pk, _, _, _, rfl, rfl, SqL.of R.kno, atI_nat (by rw [List.getElem?_map, List.getElem?_eq_getElem hjk]; rfl), ?_⟩
    refine ⟨_, rfl, ks[j], u, _, _, rfl, SqL.of hv, SqL.of hu, fun D hD => ?_⟩
    refine lc_zipL (xs := nums (r.vec j)) (ys := nums cs) (by rw [nums_length, nums_length, hlen]) (fun i H' => Same H H' ∧ H' D = some (.lst (nums ((((r.vec j).zip cs).take i).map fun p => if p.2 > p.1 then p.2 else p.1))))
      ⟨same_new hD, upd_same⟩ (fun i H' p => ⟨SqL.of (p.1 _ _ hv), SqL.of (p.1 _ _ hu)⟩) (fun i x y Tp H' hx hy p hT => ?_) (fun H' p => ?_)
    · obtain ⟨p1, p2⟩ := p
      obtain ⟨m, hm, rfl⟩ := nums_at hx
      obtain ⟨n, hn, rfl⟩ := nums_at hy
      have hDT : D ≠ Tp := ne_of_none p2 hT
      refine ⟨Tp, _, rfl, SqT.of upd_same, rfl, _, _, rfl, _, _, rfl, rfl, rfl, _, rfl, _, rfl, _, _, rfl, _, (upd_ne hDT).trans p2, ?_, ?_, ?_⟩
      · rw [nums_length, List.length_map, List.length_take]
        have hi := (List.getElem?_eq_some_iff.mp hm).1
        exact small1000 (by omega)
      · intro b o hb
        have h1 := p1 b o hb
        rw [upd_ne (ne_of_none hb hD), upd_ne (ne_of_none h1 hT)]
        exact h1
      · refine upd_same.trans ?_
        rw [take_snoc (l := (r.vec j).zip cs) (x := (m, n)) (by rw [List.getElem?_zip_eq_some]; exact ⟨hm, hn⟩), List.map_append]
        have e : (if (n : Int) > (m : Int) then (n : Int) else (m : Int)) = ((if n > m then n else m : Nat) : Int) := by
          by_cases z : n > m
          · rw [if_pos z, if_pos (by omega)]
          · rw [if_neg z, if_neg (by omega)]
        unfold nums
        rw [List.map_append, e]
        rfl
    · obtain ⟨p1, p2⟩ := p
      rw [nums_length, List.take_of_length_le (by rw [List.length_zip]; omega)] at p2
      have hk' := p1 _ _ R.kno
      refine ⟨_, rfl, a, c.R, dx, _, _, rfl, p1 _ _ R.obj, T.clR, T.r4, rp_known, _, rfl, ?_⟩
      refine ⟨pk, _, _, j, rfl, rfl, hk', ixN_at (by rw [List.length_map]; exact hjk), ?_⟩
      refine q _ _ ⟨_, _, _, _, _, _, R.learned hj hne hD p1 p2⟩ ?_
      refine Kp.trans (g1 := tagAt g D (.vec k j)) (H1 := H') (fun b o hb _ => ⟨p1 b o hb, tagAt_ne (ne_of_none hb hD)⟩) (Kp.put ?_)
      show Tag.own (tagAt g D (.vec k j) pk) = some k
      rw [tagAt_ne (ne_of_none R.kno hD), R.gK]
      rfl
end
end VD
end
section
set_option Elab.async false
set_option maxRecDepth 100000
set_option maxHeartbeats 2000000
namespace VD
open PySem PySem.Spec PyProof.Rows L2
open Sq32 (Deed Letter Counts at_ was may)
def repNew (n : Nat) : Rep := ⟨[], [], List.replicate n (List.replicate n 0)⟩
theorem repNew_vec {n j : Nat} (h : j < n) : (repNew n).vec j = List.replicate n 0 := by
  unfold repNew Rep.vec
  rw [List.getElem?_replicate, if_pos h]
  rfl
theorem zeros_flat (n : Nat) : (List.replicate n [V.int 0]).flatten = nums (List.replicate n 0) := by
  unfold nums
  rw [List.map_replicate]
  induction n with
  | zero => rfl
  | succ n ih => rw [List.replicate_succ, List.flatten_cons, ih, List.replicate_succ]; rfl
section
variable {P : Program} {w : World} {K : PySem.W.Frag} {mg : Str → Option Value} {base : Heap} {c : Cl} {f : Addr} {fd : FuncData}
/-! ### a new replica -/
def spRpI (c : Cl) : Sp := fun vs H Q _ => ∃ (g : Tags) (p dx : Addr) (k n : Nat), vs = [.ref p, .int (k : Int), .int (n : Int)] ∧ H p = some (.ins c.R dx []) ∧ g p = .rep k ∧ k < n ∧ n ≤ 1000 ∧
  ∀ H' g', (∀ ad, RepAt c g' ad H' k p (repNew n)) → (∀ b o, H b = some o → b ≠ p → H' b = some o ∧ g' b = g b) → Q .non H'
theorem sc_rpI : FnScope ["self", "place", "count", "other"] ["self", "place", "count"] (defScope sRpI) := ⟨rfl, rfl, rfl, by decide +kernel, rfl, by decide +kernel, by decide +kernel⟩
theorem ok_rpI (T : Txt K mg c) (F : Fun K "__init__" "Replica.__init__" sRpI f fd) : FnOk P w K mg base CX0 1 f fd ["self", "place", "count"] (spRpI c) := by
  refine F.ok sc_rpI (fun vs H Q E h => ?_) (fun cdv A outer s H vs Q E hr h => ?_)
  · obtain ⟨_, _, _, _, _, rfl, _⟩ := h
    rfl
  · refine ⟨_, pss_cons (ps_fld (pv 0) (pv 1) rfl) (pss_cons (ps_fld (pv 0) (pe_lst pa_nil) rfl) (pss_cons (ps_fld (pv 0) (pe_lst pa_nil) rfl)
      (pss_cons (ps_fld (pv 0) (pe_lc (own := [("other", 3)]) (g := gName 3) (tt := tYes) (te := tOp rRep (tLst (tCons (tC (.int 0)) tNil)) (tVar 2)) rfl sc_rpI.nd (pi_range1 (by rfl) T.range (pa_cons (pv 2) pa_nil))
          (blkOk_by (own := [("other", 3)]) (N := ["self", "place", "count", "other"]) (sc := defScope sRpI) (by decide +kernel))
          (fun _ _ _ _ _ => pg_name (i := 3) sc_rpI.nd rfl (Or.inl rfl)) (fun _ _ _ _ _ => pts_nil)
          (fun _ _ _ _ _ => pe_op op_rep (pe_lst (pa_cons pe_int pa_nil)) (pv 2))) rfl)
      (pss_one (ps_fld (pv 0) (pe_ix ix_list (pe_fld (pv 0) rfl) (pv 1) (fun _ _ => rfl)) rfl))))), ?_⟩
    obtain ⟨g, p, dx, k, n, rfl, hp, gp, hkn, hn, q⟩ := h
    have hnN : ((n : Int)).toNat = n := Int.toNat_natCast n
    refine ⟨_, rfl, _, rfl, p, c.R, dx, _, rfl, hp, T.clR, T.r1, (by show 0 < 1000; decide), ?_⟩
    refine ⟨(by decide), fun pa hpa => ?_⟩
    have pne : p ≠ pa := ne_of_none upd_same hpa
    refine ⟨_, rfl, p, c.R, dx, _, rfl, (upd_ne pne).trans upd_same, T.clR, T.r2, (by show 1 < 1000; decide), ?_⟩
    refine ⟨(by decide), fun pp hpp => ?_⟩
    have pne2 : p ≠ pp := ne_of_none upd_same hpp
    refine ⟨_, rfl, p, c.R, dx, _, rfl, (upd_ne pne2).trans upd_same, T.clR, T.r3, (by show 2 < 1000; decide), ?_⟩
    refine ⟨_, rfl, (n : Int), rfl, (by omega), (by omega), fun D hD => ?_⟩
    -- the heap ahead of the comprehension, by what is asked of it
    have hpa0 : H pa = none := by
      have := hpa
      rw [upd_ne fun e => pne e.symm] at this
      exact this
    have npp : pa ≠ pp := fun e => by
      rw [← e] at hpp
      rw [upd_ne (fun z => pne z.symm), upd_same] at hpp
      cases hpp
    have hpp0 : H pp = none := by
      have := hpp
      rw [upd_ne fun e => pne2 e.symm, upd_ne (fun e => npp e.symm), upd_ne fun e => pne2 e.symm] at this
      exact this
    generalize hHA : upd (upd (upd (upd (upd H p _) pa _) p _) pp _) p _ = HA at hD ⊢
    have a1 : HA p = some (.ins c.R dx [("place", .int (k : Int)), ("applied", .ref pa), ("pending", .ref pp)]) := by
      rw [← hHA]
      refine upd_same.trans ?_
      rw [put_new (l := []) rfl, put_new (l := [] ++ [_]) rfl, put_new (l := [] ++ [_] ++ [_]) rfl]
      rfl
    have a2 : HA pa = some (.lst []) := by
      rw [← hHA, upd_ne fun e => pne e.symm, upd_ne npp, upd_ne fun e => pne e.symm]
      exact upd_same
    have a3 : HA pp = some (.lst []) := by
      rw [← hHA, upd_ne fun e => pne2 e.symm]
      exact upd_same
    have a4 : ∀ b o, H b = some o → b ≠ p → HA b = some o := fun b o hb hne => by
      rw [← hHA, upd_ne hne, upd_ne (ne_of_none hb hpp0), upd_ne hne, upd_ne (ne_of_none hb hpa0), upd_ne hne]
      exact hb
    clear hHA
    have gA := tagAt (tagAt (tagAt g pa (.app k)) pp (.pen k)) D (.kno k)
    rw [show ((n : Int)).toNat = n from hnN]
    refine lc_range (lo := 0) (n := n) (fun i H' => ∃ (g' : Tags) (bs : List Addr), bs.length = i ∧ H' D = some (.lst (bs.map V.ref)) ∧ g' D = .kno k ∧ (∀ j b, bs[j]? = some b → H' b = some (.lst (nums (List.replicate n 0))) ∧ g' b = .vec k j) ∧
        (∀ b o, HA b = some o → H' b = some o ∧ g' b = tagAt (tagAt g pa (.app k)) pp (.pen k) b))
      ⟨tagAt (tagAt (tagAt g pa (.app k)) pp (.pen k)) D (.kno k), [], rfl, upd_same, tagAt_same, fun j b hb => by simp at hb, fun b o hb => ⟨by rw [upd_ne (ne_of_none hb hD)]; exact hb, tagAt_ne (ne_of_none hb hD)⟩⟩
      (fun i H' hi pv' => ?_) (fun H' pv' => ?_)
    · obtain ⟨g', bs, hl, hDl, gD, hbs, hold⟩ := pv'
      refine ⟨rfl, (by decide), fun z hz => ?_⟩
      refine ⟨_, rfl, z, (n : Int), _, rfl, rfl, upd_same, (by omega), (by omega), ?_, fun b hb => ?_⟩
      · rw [hnN]
        show 1 * n ≤ sizeLine
        rw [Nat.one_mul]
        exact Nat.le_of_lt (small1000 hn)
      · have hbH : H' b = none := (same_new hz).free hb
        have nDz : D ≠ z := ne_of_none hDl hz
        have nDb : D ≠ b := ne_of_none hDl hbH
        refine ⟨bs.map V.ref, ?_, ?_, ?_⟩
        · rw [upd_ne nDb, upd_ne nDz]; exact hDl
        · rw [List.length_map, hl]
          exact small1000 (by omega)
        · refine ⟨tagAt g' b (.vec k i), bs ++ [b], by rw [List.length_append, hl]; rfl, ?_, (tagAt_ne nDb).trans gD, fun j b' hb' => ?_, fun b' o hb' => ?_⟩
          · refine upd_same.trans ?_
            rw [List.map_append]
            rfl
          · by_cases hji : j < i
            · rw [List.getElem?_append_left (by omega)] at hb'
              obtain ⟨h1, h2⟩ := hbs j b' hb'
              have m1 : b' ≠ D := fun e => by
                rw [e, gD] at h2
                cases h2
              rw [upd_ne m1, upd_ne (ne_of_none h1 hbH), upd_ne (ne_of_none h1 hz)]
              exact ⟨h1, (tagAt_ne (ne_of_none h1 hbH)).trans h2⟩
            · rw [List.getElem?_append_right (by omega), hl] at hb'
              have hj0 : j - i = 0 := by
                have := (List.getElem?_eq_some_iff.mp hb').1
                rw [List.length_singleton] at this
                omega
              rw [hj0] at hb'
              have e1 : b = b' := by simpa using hb'
              subst e1
              have e2 : j = i := by omega
              subst e2
              refine ⟨?_, tagAt_same⟩
              rw [upd_ne nDb.symm]
              refine upd_same.trans ?_
              rw [hnN, zeros_flat]
          · obtain ⟨h1, h2⟩ := hold b' o hb'
            have m1 : b' ≠ D := ne_of_none hb' hD
            rw [upd_ne m1, upd_ne (ne_of_none h1 hbH), upd_ne (ne_of_none h1 hz)]
            exact ⟨h1, (tagAt_ne (ne_of_none h1 hbH)).trans h2⟩
    · obtain ⟨g', bs, hl, hDl, gD, hbs, hold⟩ := pv'
      obtain ⟨c1, d1⟩ := hold p _ a1
      obtain ⟨c2, d2⟩ := hold pa _ a2
      obtain ⟨c3, d3⟩ := hold pp _ a3
      have m1 : D ≠ p := fun e => by rw [e, a1] at hD; cases hD
      refine ⟨_, rfl, p, c.R, dx, _, rfl, c1, T.clR, T.r4, (by show 3 < 1000; decide), ?_⟩
      rw [put_new (l := [_, _, _]) rfl]
      have hkb : k < bs.length := by omega
      refine ⟨_, rfl, p, c.R, dx, _, _, rfl, upd_same, T.clR, T.r4, (lk_past (by decide +kernel)).trans ((lk_past (by decide +kernel)).trans ((lk_past (by decide +kernel)).trans lk_here)), ?_⟩
      refine ⟨_, rfl, D, _, _, _, rfl, rfl, SqL.of ((upd_ne m1).trans hDl), atI_nat (by rw [List.getElem?_map, List.getElem?_eq_getElem hkb]; rfl), ?_⟩
      refine ⟨_, rfl, p, c.R, dx, _, rfl, upd_same, T.clR, T.r5, (by show 4 < 1000; decide), ?_⟩
      rw [put_new (l := _ ++ [_]) rfl]
      obtain ⟨hv, gv⟩ := hbs k bs[k] (List.getElem?_eq_getElem hkb)
      have gpa : g' pa = .app k := by rw [d2, tagAt_ne npp, tagAt_same]
      have gpp : g' pp = .pen k := by rw [d3, tagAt_same]
      have gpp' : g' p = .rep k := by rw [d1, tagAt_ne pne2, tagAt_ne pne]; exact gp
      have ob : ∀ (x y : HO) b, b ≠ p → upd (upd H' p x) p y b = H' b := fun x y b hb => by
        rw [upd_ne hb, upd_ne hb]
      refine q _ g' (fun ad => ⟨dx, pa, pp, D, bs[k], bs, ?_⟩) fun b o hb hne => ?_
      · refine ⟨upd_same, (ob _ _ _ pne.symm).trans c2, (ob _ _ _ pne2.symm).trans c3, (ob _ _ _ m1).trans hDl, List.getElem?_eq_getElem hkb, ?_, fun j b hb => ?_, gpp', gpa, gpp, gD⟩
        · show bs.length = (List.replicate n (List.replicate n 0)).length
          rw [List.length_replicate, hl]
        · obtain ⟨h1, h2⟩ := hbs j b hb
          have hj : j < n := by
            have := (List.getElem?_eq_some_iff.mp hb).1
            omega
          have m2 : b ≠ p := fun e => by
            rw [e, gpp'] at h2
            cases h2
          rw [repNew_vec hj]
          exact ⟨(ob _ _ _ m2).trans h1, h2⟩
      · obtain ⟨h1, h2⟩ := hold b o (a4 b o hb hne)
        refine ⟨(ob _ _ _ hne).trans h1, ?_⟩
        rw [h2, tagAt_ne (ne_of_none hb hpp0), tagAt_ne (ne_of_none hb hpa0)]
end
end VD
end
section
set_option Elab.async false
set_option maxRecDepth 100000
set_option maxHeartbeats 2000000
namespace VD
open PySem PySem.Spec PyProof.Rows L2
open Sq32 (Deed Letter Counts at_ was may)
section
variable {P : Program} {w : World} {K : PySem.W.Frag} {mg : Str → Option Value} {base : Heap} {c : Cl} {f : Addr} {fd : FuncData}
/-! ### add_pending -/
theorem RepIs.pushed {g : Tags} {ad : Deed → Addr} {H : Hp} {k : Nat} {a : Addr} {r : Rep} {dx pa pp pk pv' : Addr} {ks : List Addr} (R : RepIs c g ad H k a r dx pa pp pk pv' ks) (d : Deed) :
    RepIs c g ad (upd H pp (.lst (refs ad r.pending ++ [.ref (ad d)]))) k a { r with pending := r.pending ++ [d] } dx pa pp pk pv' ks := by
  have n1 : a ≠ pp := ne_of R.obj R.pen (by intro z; cases z)
  have tg : ∀ {x y : Addr} {s t : Tag}, g x = s → g y = t → s ≠ t → x ≠ y := fun h1 h2 hn e => hn (by rw [← h1, ← h2, e])
  have n2 : pa ≠ pp := tg R.gP R.gQ (by simp)
  have n3 : pk ≠ pp := tg R.gK R.gQ (by simp)
  refine ⟨(upd_ne n1).trans R.obj, (upd_ne n2).trans R.app, upd_same.trans ?_, (upd_ne n3).trans R.kno, R.own, R.klen, fun j b hb => ?_, R.gA, R.gP, R.gQ, R.gK⟩
  · unfold refs
    rw [List.map_append]
    rfl
  · obtain ⟨h1, h2⟩ := R.vec j b hb
    exact ⟨(upd_ne (tg h2 R.gQ (by simp))).trans h1, h2⟩
/-- a new list for the pending ones -/
theorem RepIs.pend {g : Tags} {ad : Deed → Addr} {H H' : Hp} {k : Nat} {a : Addr} {r : Rep} {dx pa pp pk pv' p : Addr} {ks : List Addr} {L : List Deed} (R : RepIs c g ad H k a r dx pa pp pk pv' ks) (hp : H p = none) (s : Same H H') (hl : H' p = some (.lst (refs ad L))) :
    RepIs c (tagAt g p (.pen k)) ad (upd H' a (.ins c.R dx (putF "pending" (.ref p) (rpF k pa pp pk pv')))) k a { r with pending := L } dx pa p pk pv' ks ∧ Kp (TR k) g H (tagAt g p (.pen k)) (upd H' a (.ins c.R dx (putF "pending" (.ref p) (rpF k pa pp pk pv')))) := by
  have kp : Kp T0 g H (tagAt g p (.pen k)) H' := fun b o hb _ => ⟨s b o hb, tagAt_ne (ne_of_none hb hp)⟩
  have R' := R.kp kp fun _ _ z => z
  have ho : ∀ {b : Addr} {xs : List V}, H' b = some (.lst xs) → b ≠ a := fun h => ne_of h R'.obj (by intro z; cases z)
  refine ⟨⟨upd_same.trans ?_, (upd_ne (ho R'.app)).trans R'.app, (upd_ne (ho hl)).trans hl, (upd_ne (ho R'.kno)).trans R'.kno, R'.own, R'.klen, fun j b hb => ?_, R'.gA, R'.gP, tagAt_same, R'.gK⟩, ?_⟩
  · unfold rpF
    rw [put_past (by decide +kernel), put_past (by decide +kernel), put_here]
  · obtain ⟨h1, h2⟩ := R'.vec j b hb
    exact ⟨(upd_ne (ho h1)).trans h1, h2⟩
  · refine Kp.trans (g1 := tagAt g p (.pen k)) (H1 := H') (fun b o hb _ => ⟨s b o hb, tagAt_ne (ne_of_none hb hp)⟩) (Kp.put ?_)
    show (tagAt g p (.pen k) a).own = some k
    rw [R'.gA]
    rfl
def keyAt (H : Hp) (b : Addr) : Int × Int := match H b with
  | some (.ins _ _ ((_, .int i) :: (_, .int j) :: _)) => (i, j)
  | _ => (0, 0)
theorem keyAt_ev {g : Tags} {H : Hp} {a : Addr} {d : Deed} (x : EvAt c g H a d) : keyAt H a = ((d.desk : Int), (d.n : Int)) := by
  obtain ⟨dx, da, h, _⟩ := x.ex
  unfold keyAt
  rw [h]
  rfl
theorem sort_refs {g : Tags} {ad : Deed → Addr} {H : Hp} {L : List Deed} (h : ∀ d ∈ L, EvAt c g H (ad d) d) :
    ((L.map ad).mergeSort fun x y => decide ((keyAt H x).1 < (keyAt H y).1 ∨ ((keyAt H x).1 = (keyAt H y).1 ∧ (keyAt H x).2 ≤ (keyAt H y).2))).map V.ref = refs ad (L.mergeSort le2) := by
  rw [← List.map_mergeSort (r := le2) (f := ad)]
  · unfold refs
    rw [List.map_map]
    rfl
  · intro d hd e he
    rw [keyAt_ev (h d hd), keyAt_ev (h e he)]
    rfl
theorem refs_map (ad : Deed → Addr) (L : List Deed) : refs ad L = (L.map ad).map V.ref := by
  unfold refs
  rw [List.map_map]
  rfl
theorem addp_snoc {w l : List Deed} {i : Nat} {d : Deed} (hd : l[i]? = some d) : addp w (l.take (i + 1)) = if d ∈ addp w (l.take i) then addp w (l.take i) else addp w (l.take i) ++ [d] := by
  unfold addp
  rw [take_snoc hd, List.foldl_append]
  rfl
theorem addp_len (w : List Deed) : ∀ l, (addp w l).length ≤ w.length + l.length := by
  intro l
  unfold addp
  induction l generalizing w with
  | nil => simp
  | cons d l ih =>
    rw [List.foldl_cons]
    refine Nat.le_trans (ih _) ?_
    rw [List.length_cons]
    split
    · omega
    · rw [List.length_append, List.length_singleton]; omega
theorem addp_mem (w : List Deed) : ∀ l x, x ∈ addp w l → x ∈ l ∨ x ∈ w := by
  intro l
  unfold addp
  induction l generalizing w with
  | nil => intro x hx; exact .inr hx
  | cons d l ih =>
    intro x hx
    rw [List.foldl_cons] at hx
    rcases ih _ x hx with q | q
    · exact .inl (List.mem_cons_of_mem _ q)
    · split at q
      · exact .inr q
      · rcases List.mem_append.mp q with q | q
        · exact .inr q
        · exact .inl (by rw [List.mem_singleton.mp q]; exact List.mem_cons_self)
def spAdd (c : Cl) : Sp := fun vs H Q _ => ∃ (g : Tags) (ad : Deed → Addr) (k : Nat) (a u : Addr) (r : Rep) (l : List Deed), vs = [.ref a, .ref u] ∧ RepAt c g ad H k a r ∧ H u = some (.lst (refs ad l)) ∧ g u = .fix ∧ (∀ d ∈ l, EvAt c g H (ad d) d) ∧ (∀ d ∈ r.pending, EvAt c g H (ad d) d) ∧ r.pending.length + l.length ≤ 1000 ∧
  ∀ H' g', RepAt c g' ad H' k a (r.arrive l) → Kp (TR k) g H g' H' → Q .non H'
theorem sc_add : FnScope ["self", "events", "event"] ["self", "events"] (defScope sAddPending) := ⟨rfl, rfl, rfl, by decide +kernel, rfl, by decide +kernel, by decide +kernel⟩
theorem sc_key : FnScope ["event"] ["event"] (defScope sKey) := ⟨rfl, rfl, rfl, by decide +kernel, rfl, by decide +kernel, by decide +kernel⟩
theorem fix_no {k : Nat} : ¬ TR k .fix := fun z => by cases z
theorem ok_add (T : Txt K mg c) (F : Fun K "add_pending" "Replica.add_pending" sAddPending f fd) {fk : Addr} {fdk : FuncData} (FK : Fun K "pending_place" "pending_place" sKey fk fdk) (gk : mg "pending_place" = some (.ref fk)) : FnOk P w K mg base CX0 2 f fd ["self", "events"] (spAdd c) := by
  refine F.ok sc_add (fun vs H Q E h => ?_) (fun cdv A outer s H vs Q E hr h => ?_)
  · obtain ⟨_, _, _, _, _, _, _, rfl, _⟩ := h
    rfl
  · refine ⟨_, pss_cons (ps_for PassesOwn.never rfl (pi_list (pv 1)) (pg_name (i := 2) sc_add.nd rfl (Or.inl rfl))
        (pss_one (ps_if (pt_cmpR (op_notInRef hr.units T.oE T.qE) (pv 2) (pe_fld (pv 0) rfl) rfl)
          (pss_one (ps_expr (pe_bm PySem.F.plainAttrs_list PySem.F.slot_list_append PySem.F.type_list_append mt_append (pe_fld (pv 0) rfl) (pa_cons (pv 2) pa_nil)))) pss_nil)))
      (pss_one (ps_fld (pv 0) (pe_callBK (cr_sortedKeyDef FK sc_key rfl rfl (fun _ => rfl) (fun _ => rfl) (fun _ _ _ _ _ _ us hl => match us, hl with | [_], _ => rfl) (by decide) hr T.clE T.e1 T.e2) (by rfl) T.sorted (by decide +kernel) (pa_cons (pe_fld (pv 0) rfl) pa_nil) (pk_cons (pe_glob (v := .ref fk) rfl gk rfl) pk_nil)) rfl)), ?_⟩
    obtain ⟨g, ad, k, a, u, r, l, rfl, hR, hu, gu, hl, hpn, hbig, q⟩ := h
    obtain ⟨dx, pa, pp, pk, pv', ks, R⟩ := hR
    refine ⟨_, rfl, u, rfl, ⟨_, SqL.of hu⟩, ?_⟩
    refine for_list (K := K) (a := u) (xs := refs ad l) (fun i σ H' => ∃ v, σ = [some (.ref a), some (.ref u), v] ∧ RepIs c g ad H' k a { r with pending := addp r.pending (l.take i) } dx pa pp pk pv' ks ∧ Kp (TR k) g H g H')
      ⟨none, rfl, by rw [List.take_zero]; exact R, Kp.refl⟩ (fun i σ H' _ ⟨_, _, _, e⟩ => SqL.of (e _ _ hu (by rw [gu]; exact fix_no)).1) ?_ ?_
    · rintro i x σ H' hx ⟨v, rfl, R', kp⟩
      obtain ⟨d, hd, rfl⟩ := refs_at hx
      have hdm := List.mem_of_getElem? hd
      have hEd := (hl d hdm).kp kp fix_no
      have hEp : ∀ e ∈ addp r.pending (l.take i), EvAt c g H' (ad e) e := fun e he => by
        rcases addp_mem _ _ _ he with z | z
        · exact (hl e (List.mem_of_mem_take z)).kp kp fix_no
        · exact (hpn e z).kp kp fix_no
      obtain ⟨de, da, E1, _⟩ := hEd.ex
      refine ⟨_, rfl, _, rfl, a, c.R, dx, _, _, rfl, R'.obj, T.clR, T.r3, rp_pending, pp, ad d, (addp r.pending (l.take i)).map ad, rfl, rfl, ?_, ⟨_, _, E1⟩, fun b hb => ?_, ?_⟩
      · rw [← refs_map]; exact SqL.of R'.pen
      · obtain ⟨e, he, rfl⟩ := List.mem_map.mp hb
        obtain ⟨de', da', E1', _⟩ := (hEp e he).ex
        exact ⟨_, _, E1'⟩
      · rw [mem_refs hEp hEd]
        refine ⟨_, rfl, ?_⟩
        by_cases e : d ∈ addp r.pending (l.take i)
        · rw [decide_eq_true e]
          refine iteF ⟨_, rfl, ?_, kp⟩
          rw [addp_snoc hd, if_pos e]
          exact R'
        · rw [decide_eq_false e]
          refine iteT ⟨_, rfl, a, c.R, dx, _, _, rfl, R'.obj, T.clR, T.r3, rp_pending, .inl ⟨rfl, _, SqL.of R'.pen⟩, _, rfl, pp, _, _, rfl, rfl, R'.pen, ?_, ?_⟩
          · rw [refs_length]
            refine small1000 (Nat.le_trans (addp_len _ _) ?_)
            have := List.length_take_le' i l
            omega
          · refine ⟨_, rfl, ?_, kp.trans (Kp.put ?_)⟩
            · rw [addp_snoc hd, if_neg e]
              exact R'.pushed d
            · show (g pp).own = some k
              rw [R.gQ]; rfl
    · rintro σ H' ⟨v, rfl, R', kp⟩
      rw [refs_length, List.take_length] at R'
      have hEp : ∀ e ∈ addp r.pending l, EvAt c g H' (ad e) e := fun e he => by
        rcases addp_mem _ _ _ he with z | z
        · exact (hl e z).kp kp fix_no
        · exact (hpn e z).kp kp fix_no
      refine ⟨_, rfl, a, c.R, dx, _, _, rfl, R'.obj, T.clR, T.r3, rp_pending, ?_⟩
      refine ⟨pp, (addp r.pending l).map ad, keyAt H', rfl, rfl, by rw [← refs_map]; exact SqL.of R'.pen, fun b hb => ?_, fun p hp => ?_⟩
      · obtain ⟨e, he, rfl⟩ := List.mem_map.mp hb
        obtain ⟨de', da', E1', _⟩ := (hEp e he).ex
        rw [keyAt_ev (hEp e he)]
        exact ⟨_, _, E1', ev_origin, ev_number⟩
      · rw [sort_refs hEp]
        obtain ⟨z1, z2⟩ := R'.pend hp (same_new hp) upd_same
        refine ⟨_, rfl, a, c.R, dx, _, rfl, same_new hp _ _ R'.obj, T.clR, T.r3, (by show 5 < 1000; decide), ?_⟩
        exact q _ _ ⟨_, _, _, _, _, _, z1⟩ (kp.trans z2)
end
end VD
end
section
set_option Elab.async false
set_option maxRecDepth 100000
set_option maxHeartbeats 2000000
namespace VD
open PySem PySem.Spec PyProof.Rows L2
open Sq32 (Deed Letter Counts at_ was may counts)
section
variable {P : Program} {w : World} {K : PySem.W.Frag} {mg : Str → Option Value} {base : Heap} {c : Cl} {f : Addr} {fd : FuncData}
/-! ### receive -/
def spReceive (c : Cl) : Sp := fun vs H Q _ => ∃ (g : Tags) (ad : Deed → Addr) (k n : Nat) (a u : Addr) (r : Rep) (l evs : List Deed), vs = [.ref a, .ref u] ∧ RepAt c g ad H k a r ∧ H u = some (.lst (refs ad l)) ∧ g u = .fix ∧ EvInv n evs ∧ k < n ∧ n ≤ 6 ∧ RunInv n k evs (r.arrive l) ∧
  (∀ d ∈ evs, EvAt c g H (ad d) d) ∧ (∀ d ∈ l, d ∈ evs) ∧ (∀ d ∈ r.pending, d ∈ evs) ∧ r.pending.length ≤ 60 ∧ l.length ≤ 60 ∧
  ∀ H' g', RepAt c g' ad H' k a (r.receive k l) → Kp (TR k) g H g' H' → Q (.int (((r.receive k l).applied.length : Int) - (r.applied.length : Int))) H'
theorem sc_receive : FnScope ["self", "events", "count_before", "event", "waiting"] ["self", "events"] (defScope sReceive) := ⟨rfl, rfl, rfl, by decide +kernel, rfl, by decide +kernel, by decide +kernel⟩
theorem RunInv.app60 {n k : Nat} {evs : List Deed} {r : Rep} (R : RunInv n k evs r) (E : EvInv n evs) : r.applied.length ≤ 60 := Nat.le_trans (length_le_of_subset R.nod R.app) E.most
theorem RunInv.vlen {n k : Nat} {evs : List Deed} {r : Rep} (R : RunInv n k evs r) : (r.vec k).length = n := by rw [R.vec, counts_length]
theorem arrive_len (r : Rep) (l : List Deed) : (r.arrive l).pending.length ≤ r.pending.length + l.length := by
  show ((addp r.pending l).mergeSort le2).length ≤ _
  rw [List.length_mergeSort]
  exact addp_len _ _
theorem ok_receive (T : Txt K mg c) (F : Fun K "receive" "Replica.receive" sReceive f fd) (MAdd : Met P w K mg base 2 c.R "add_pending" (spAdd c)) (MFirst : Met P w K mg base 2 c.R "first_applicable" (spFirst c))
    (MApp : Met P w K mg base 1 c.R "apply" (spApply c)) (MHas : Met P w K mg base 1 c.R "has_applied" (spHas c)) : FnOk P w K mg base CX0 3 f fd ["self", "events"] (spReceive c) := by
  refine F.ok sc_receive (fun vs H Q E h => ?_) (fun cdv A outer s H vs Q E hr h => ?_)
  · obtain ⟨_, _, _, _, _, _, _, _, _, rfl, _⟩ := h
    rfl
  · refine ⟨_, pss_cons (ps_set (i := 2) sc_receive.nd rfl (Or.inl rfl) (pe_callB call_len_seq (by rfl) T.len PySem.boot_len (pa_cons (pe_fld (pv 0) rfl) pa_nil)))
      (pss_cons (ps_expr (pe_met T.clR MAdd hr (by decide) (pv 0) (pa_cons (pv 1) pa_nil)))
      (pss_cons (ps_set (i := 3) sc_receive.nd rfl (Or.inl rfl) (pe_met0 T.clR MFirst hr (by decide) (pv 0)))
      (pss_cons (ps_while PassesOwn.never (pt_cmpR op_notN (pv 3) pe_non (nomark _)) (pss_cons (ps_expr (pe_met T.clR MApp hr (by decide) (pv 0) (pa_cons (pv 3) pa_nil))) (pss_one (ps_set (i := 3) sc_receive.nd rfl (Or.inl rfl) (pe_met0 T.clR MFirst hr (by decide) (pv 0))))))
      (pss_cons (ps_fld (pv 0) (pe_lc (own := [("waiting", 4)]) (g := gName 4) (tt := tNot (tB (tMeth c.R "has_applied" (spHas c) [] E0 (tVar 0) (tCons (tVar 4) tNil)))) rfl sc_receive.nd (pi_list (pe_fld (pv 0) rfl))
          (blkOk_by (own := [("waiting", 4)]) (N := ["self", "events", "count_before", "event", "waiting"]) (sc := defScope sReceive) (by decide +kernel))
          (fun _ _ _ _ _ => pg_name (i := 4) sc_receive.nd rfl (Or.inl rfl)) (fun _ _ _ _ _ => pts_one (pt_not (pt_val (pe_met T.clR MHas hr (by decide) (pv 0) (pa_cons (pv 4) pa_nil))))) (fun _ _ _ _ _ => pv 4)) rfl)
      (pss_one (ps_ret (pe_op op_sub (pe_callB call_len_seq (by rfl) T.len PySem.boot_len (pa_cons (pe_fld (pv 0) rfl) pa_nil)) (pv 2)))))))), ?_⟩
    obtain ⟨g, ad, k, n, a, u, r, l, evs, rfl, hR, hu, gu, EI, hk, hn6, RI, hE, hl, hpn, h60, h60', q⟩ := h
    have hRA := hR
    obtain ⟨dx, pa, pp, pk, pv', ks, R⟩ := hR
    -- len(self.applied); self.add_pending(events)
    refine ⟨_, rfl, a, c.R, dx, _, _, rfl, R.obj, T.clR, T.r2, rp_applied, pa, _, rfl, .inl (SqL.of R.app), ?_⟩
    rw [refs_length]
    refine ⟨_, rfl, a, dx, _, rfl, R.obj, rp_no (by decide +kernel), _, rfl, ?_⟩
    refine ⟨g, ad, k, a, u, r, l, rfl, hRA, hu, gu, fun d hd => hE d (hl d hd), fun d hd => hE d (hpn d hd), by omega, fun H1 g1 R1 K1 => ?_⟩
    -- what first_applicable asks
    have fits : ∀ {H' : Hp} {g' : Tags} {r' : Rep}, Kp (TR k) g H g' H' → RunInv n k evs r' → ∀ d ∈ r'.pending, Fit c g' ad H' n d := fun {H' g' r'} kp RR d hd =>
      ⟨(hE d (RR.pen d hd)).kp kp fix_no, EI.desk d (RR.pen d hd), EI.len d (RR.pen d hd)⟩
    obtain ⟨dx1, pa1, pp1, pk1, pv1, ks1, R1i⟩ := id R1
    refine ⟨_, rfl, a, dx1, _, rfl, R1i.obj, rp_no (by decide +kernel), ?_⟩
    refine ⟨g1, ad, k, n, a, r.arrive l, rfl, R1, RI.vlen, by omega, fits K1 RI, fun H2 s2 => ?_⟩
    -- the loop
    refine ⟨fun m σ H' => ∃ (g' : Tags) (r' : Rep), σ = [some (.ref a), some (.ref u), some (.int (r.applied.length : Int)), some (found ad (r'.pending.find? (canP (r'.vec k)))), none] ∧ RepAt c g' ad H' k a r' ∧ RunInv n k evs r' ∧
        Rep.run k m r' = Rep.run k (r.arrive l).pending.length (r.arrive l) ∧ left n r'.pending r'.applied ≤ m ∧ Kp (TR k) g H g' H',
      ⟨(r.arrive l).pending.length, g1, r.arrive l, rfl, R1.kp (T := T0) (Kp.of_same s2) (fun _ _ z => z), RI, rfl, left_le _ _ _, K1.trans (Kp.of0 (Kp.of_same s2))⟩, ?_⟩
    rintro m σ H3 ⟨g3, r3, rfl, R3, RI3, hrun, hleft, K3⟩
    cases hfd : r3.pending.find? (canP (r3.vec k)) with
    | some d =>
      have hdm := List.mem_of_find?_eq_some hfd
      have hde := RI3.pen d hdm
      have hmay : may (counts n r3.applied) d = true := by
        have := List.find?_some hfd
        rw [RI3.canP EI hde] at this
        exact this
      have hlt := left_lt (EI.desk d hde) hdm hmay
      have hm : ∃ m', m = m' + 1 := ⟨m - 1, by omega⟩
      obtain ⟨m', rfl⟩ := hm
      refine ⟨_, rfl, rfl, _, rfl, ?_⟩
      show if (!decide (V.ref (ad d) = V.non)) = true then _ else _
      rw [decide_eq_false (by intro z; cases z)]
      refine iteT ⟨_, fun σ' H' z => ⟨m', Nat.lt_succ_self _, z⟩, ?_⟩
      obtain ⟨dx3, pa3, pp3, pk3, pv3, ks3, R3i⟩ := id R3
      refine ⟨_, rfl, a, dx3, _, rfl, R3i.obj, rp_no (by decide +kernel), _, rfl, ?_⟩
      refine ⟨g3, ad, k, a, r3, d, rfl, R3, (hE d hde).kp K3 fix_no, by rw [RI3.vlen]; exact EI.desk d hde, by rw [RI3.klen]; exact hk, by have := RI3.app60 EI; omega, fun H4 R4 K4 => ?_⟩
      have RI4 := RI3.app_ EI hk hde hmay
      obtain ⟨dx4, pa4, pp4, pk4, pv4, ks4, R4i⟩ := id R4
      refine ⟨_, rfl, a, dx4, _, rfl, R4i.obj, rp_no (by decide +kernel), ?_⟩
      refine ⟨g3, ad, k, n, a, r3.app k d, rfl, R4, RI4.vlen, by omega, fits (K3.trans K4) RI4, fun H5 s5 => ?_⟩
      refine ⟨g3, r3.app k d, rfl, R4.kp (T := T0) (Kp.of_same s5) (fun _ _ z => z), RI4, ?_, ?_, (K3.trans K4).trans (Kp.of0 (Kp.of_same s5))⟩
      · rw [← hrun, run_some hfd]
      · have : left n r3.pending (r3.applied ++ [d]) ≤ m' := by omega
        exact this
    | none =>
      refine ⟨_, rfl, rfl, _, rfl, ?_⟩
      show if (!decide (V.non = V.non)) = true then _ else _
      rw [decide_eq_true rfl]
      refine iteF ?_
      rw [run_none hfd] at hrun
      obtain ⟨dx3, pa3, pp3, pk3, pv3, ks3, R3i⟩ := id R3
      refine ⟨_, rfl, a, c.R, dx3, _, _, rfl, R3i.obj, T.clR, T.r3, rp_pending, pp3, rfl, ⟨_, SqL.of R3i.pen⟩, fun D hD => ?_⟩
      refine lc_list (K := K) (a := pp3) (xs := refs ad r3.pending) (fun i H' => Same H3 H' ∧ H' D = some (.lst (refs ad ((r3.pending.take i).filter fun d => !was (r3.vec k) d))))
        ⟨same_new hD, upd_same⟩ (fun i H' _ p => SqL.of (p.1 _ _ R3i.pen)) (fun i x H' hx p => ?_) (fun H' p => ?_)
      · obtain ⟨p1, p2⟩ := p
        obtain ⟨d, hd, rfl⟩ := refs_at hx
        have hde := RI3.pen d (List.mem_of_getElem? hd)
        have R' := R3i.same p1
        refine ⟨rfl, _, rfl, a, dx3, _, rfl, R'.obj, rp_no (by decide +kernel), _, rfl, ?_⟩
        refine ⟨g3, ad, k, a, ad d, r3, d, rfl, ⟨_, _, _, _, _, _, R'⟩, ((hE d hde).kp K3 fix_no).same p1, by rw [RI3.vlen]; exact EI.desk d hde, ?_⟩
        refine ⟨_, rfl, ?_⟩
        cases e : was (r3.vec k) d with
        | true =>
          refine iteF ⟨p1, ?_⟩
          rw [filter_more hd, if_neg (by rw [e]; decide), List.append_nil]
          exact p2
        | false =>
          refine iteT ⟨_, rfl, _, p2, ?_, fun b o hb => ?_, ?_⟩
          · rw [refs_length]
            refine small1000 (Nat.le_trans (List.length_filter_le _ _) (Nat.le_trans (List.length_take_le' _ _) ?_))
            have h1 : r3.pending.length ≤ 120 := by
              have h2 : r3.pending = (r.arrive l).pending := by
                rw [hrun]
                exact (run_ok EI hk _ _ RI).2.2.1
              have h3 := arrive_len r l
              rw [h2]
              omega
            omega
          · rw [upd_ne (ne_of_none hb hD)]
            exact p1 b o hb
          · refine upd_same.trans ?_
            rw [filter_more hd, if_pos (by rw [e]; rfl)]
            unfold refs
            rw [List.map_append]
            rfl
      · obtain ⟨p1, p2⟩ := p
        rw [refs_length, List.take_length] at p2
        obtain ⟨z1, z2⟩ := R3i.pend hD p1 p2
        refine ⟨_, rfl, a, c.R, dx3, _, rfl, p1 _ _ R3i.obj, T.clR, T.r3, (by show 5 < 1000; decide), ?_⟩
        refine ⟨_, rfl, a, c.R, dx3, _, _, rfl, z1.obj, T.clR, T.r2, rp_applied, pa3, _, rfl, .inl (SqL.of z1.app), ?_⟩
        rw [refs_length]
        refine ⟨_, rfl, _, _, rfl, rfl, ?_⟩
        have efin : r.receive k l = { r3 with pending := r3.pending.filter fun d => !was (r3.vec k) d } := by
          show Rep.drop k (Rep.run k (r.arrive l).pending.length (r.arrive l)) = _
          rw [← hrun]
          rfl
        have := q _ _ (by rw [efin]; exact ⟨_, _, _, _, _, _, z1⟩) (K3.trans z2)
        rw [efin] at this
        exact this
end
end VD
end
section
set_option Elab.async false
set_option maxRecDepth 100000
set_option maxHeartbeats 2000000
namespace VD
open PySem PySem.Spec PyProof.Rows L2
open Sq32 (Deed Letter Counts at_ was may counts House)
abbrev sSsI : Stmt := inClass cS 0
abbrev sBegin : Stmt := inClass cS 1
abbrev sCreate : Stmt := inClass cS 2
abbrev sSend : Stmt := inClass cS 3
abbrev sSendOne : Stmt := inClass cS 4
abbrev sDeliver : Stmt := inClass cS 5
abbrev sListApplied : Stmt := inClass cS 6
abbrev sListPending : Stmt := inClass cS 7
abbrev sListVector : Stmt := inClass cS 8
abbrev sListKnown : Stmt := inClass cS 9
abbrev sListStable : Stmt := inClass cS 10
abbrev sCompare : Stmt := inClass cS 11
abbrev sListMessage : Stmt := inClass cS 12
abbrev sHasReplica : Stmt := inClass cS 13
abbrev sHasMessage : Stmt := inClass cS 14
abbrev sCanConnect : Stmt := inClass cS 15
abbrev sHasRoom : Stmt := inClass cS 16
abbrev sAddMessage : Stmt := inClass cS 17
def nts (l : List Int) : List V := l.map V.int
/-- all that a session names is among its events -/
structure Closed (s : Ses) : Prop where
  app : ∀ k, k < s.reps.length → ∀ d ∈ (s.rep k).applied, d ∈ s.events
  pen : ∀ k, k < s.reps.length → ∀ d ∈ (s.rep k).pending, d ∈ s.events
  msg : ∀ m ∈ s.msgs, ∀ d ∈ m.deeds, d ∈ s.events
theorem _root_.VD.SInv.closed {s : Ses} {h : House} (I : SInv s h) : Closed s := ⟨fun k hk => (I.rep k hk).app, fun k hk => (I.rep k hk).pen, fun m hm => (I.msg m hm).deeds⟩
section
variable {c : Cl} {g g' : Tags} {ad ad' : Deed → Addr} {H H' : Hp} {a : Addr} {s : Ses} {dx re eo mo : Addr} {ras mas : List Addr}
/-- the session stands where nothing of it is touched -/
theorem SesIs.kp {T : Tag → Prop} (S : SesIs c g ad H a s dx re eo mo ras mas) (h : Kp T g H g' H') (hT : ∀ t, t ≠ .mine → ¬ T t) : SesIs c g' ad H' a s dx re eo mo ras mas := by
  obtain ⟨a1, b1⟩ := h _ _ S.obj (by rw [S.gS]; exact hT _ (by simp))
  obtain ⟨a2, b2⟩ := h _ _ S.reps (by rw [S.gR]; exact hT _ (by simp))
  obtain ⟨a3, b3⟩ := h _ _ S.evs (by rw [S.gE]; exact hT _ (by simp))
  obtain ⟨a4, b4⟩ := h _ _ S.msgs (by rw [S.gM]; exact hT _ (by simp))
  refine ⟨a1, a2, S.rlen, fun k b hb => (S.rep k b hb).kp h fun t ht => hT t (by intro e; rw [e] at ht; cases ht), a3, fun d hd => (S.ev d hd).kp h (hT _ (by simp)), a4, S.mlen, fun i b m hb hm => (S.msg i b m hb hm).kp h (hT _ (by simp)), b1.trans S.gS, b2.trans S.gR, b3.trans S.gE, b4.trans S.gM⟩
/-- one replica goes on, by itself -/
theorem SesIs.put (S : SesIs c g ad H a s dx re eo mo ras mas) (C : Closed s) {k : Nat} {b : Addr} {r : Rep} (hk : k < s.reps.length) (hb : ras[k]? = some b) (R : RepAt c g' ad' H' k b r) (h : Kp (TR k) g H g' H') (hA : ∀ d ∈ s.events, ad' d = ad d) :
    SesIs c g' ad' H' a (s.put k r) dx re eo mo ras mas := by
  obtain ⟨a1, b1⟩ := h _ _ S.obj (by rw [S.gS]; intro z; cases z)
  obtain ⟨a2, b2⟩ := h _ _ S.reps (by rw [S.gR]; intro z; cases z)
  obtain ⟨a3, b3⟩ := h _ _ S.evs (by rw [S.gE]; intro z; cases z)
  obtain ⟨a4, b4⟩ := h _ _ S.msgs (by rw [S.gM]; intro z; cases z)
  refine ⟨a1, a2, ?_, fun j b' hb' => ?_, ?_, fun d hd => ?_, a4, S.mlen, fun i b' m hb' hm => ?_, b1.trans S.gS, b2.trans S.gR, b3.trans S.gE, b4.trans S.gM⟩
  · show ras.length = (s.reps.set k r).length
    rw [List.length_set]; exact S.rlen
  · rw [show (s.put k r).rep j = if j = k then r else s.rep j from rep_set hk]
    by_cases e : j = k
    · subst e
      rw [hb] at hb'
      have := Option.some.inj hb'
      subst this
      rw [if_pos rfl]; exact R
    · rw [if_neg e]
      have hj : j < s.reps.length := by rw [← S.rlen]; exact (List.getElem?_eq_some_iff.mp hb').1
      refine RepAt.to ((S.rep j b' hb').kp h fun t ht z => ?_) (fun d hd => hA d (C.app j hj d hd)) fun d hd => hA d (C.pen j hj d hd)
      have z' : t.own = some k := z
      rw [ht] at z'
      exact e (Option.some.inj z')
  · show H' eo = some (.lst (refs ad' s.events))
    rw [refs_congr hA]; exact a3
  · have := (S.ev d hd).kp h fix_no
    rw [hA d hd]; exact this
  · exact MsgAt.to ((S.msg i b' m hb' hm).kp h fix_no) fun d hd => hA d (C.msg m (List.mem_of_getElem? hm) d hd)
/-- a message more -/
theorem SesIs.mail (S : SesIs c g ad H a s dx re eo mo ras mas) {b : Addr} {m : Letter} (M : MsgAt c g ad H b m) :
    SesIs c g ad (upd H mo (.lst (mas.map V.ref ++ [.ref b]))) a { s with msgs := s.msgs ++ [m] } dx re eo mo ras (mas ++ [b]) := by
  have tg : ∀ {x y : Addr} {s t : Tag}, g x = s → g y = t → s ≠ t → x ≠ y := fun h1 h2 hn e => hn (by rw [← h1, ← h2, e])
  have h : Kp (fun t => t = .sM) g H g (upd H mo (.lst (mas.map V.ref ++ [.ref b]))) := Kp.put S.gM
  obtain ⟨a1, b1⟩ := h _ _ S.obj (by rw [S.gS]; simp)
  obtain ⟨a2, b2⟩ := h _ _ S.reps (by rw [S.gR]; simp)
  obtain ⟨a3, b3⟩ := h _ _ S.evs (by rw [S.gE]; simp)
  refine ⟨a1, a2, S.rlen, fun k b' hb' => (S.rep k b' hb').kp h fun t ht e => (by subst e; cases ht), a3, fun d hd => (S.ev d hd).kp h (by simp), ?_, ?_, fun i b' m' hb' hm' => ?_, S.gS, S.gR, S.gE, S.gM⟩
  · refine upd_same.trans ?_
    rw [List.map_append]
    rfl
  · show (mas ++ [b]).length = (s.msgs ++ [m]).length
    rw [List.length_append, List.length_append, S.mlen]
    rfl
  · have hm2 : (s.msgs ++ [m])[i]? = some m' := hm'
    by_cases hi : i < mas.length
    · rw [List.getElem?_append_left hi] at hb'
      rw [List.getElem?_append_left (by rw [← S.mlen]; exact hi)] at hm2
      exact (S.msg i b' m' hb' hm2).kp h (by simp)
    · rw [List.getElem?_append_right (by omega)] at hb'
      rw [List.getElem?_append_right (by rw [← S.mlen]; omega), ← S.mlen] at hm2
      have hj0 : i - mas.length = 0 := by
        have := (List.getElem?_eq_some_iff.mp hb').1
        rw [List.length_singleton] at this
        omega
      rw [hj0] at hb' hm2
      have e1 : b = b' := by simpa using hb'
      have e2 : m = m' := by simpa using hm2
      subst e1 e2
      exact M.kp h (by simp)
end
/-- what each operation promises -/
def Does (c : Cl) (g : Tags) (H : Hp) (a : Addr) (s : Ses) (cl : Sq32.Call) (Q : VK) : Prop := ∀ H' g' ad' p, SesAt c g' ad' H' a (s.step cl).1 → H' p = some (.lst (nts (s.step cl).2)) → g' p = .ans → Kp TM g H g' H' → Q (.ref p) H'
/-- an answer is a new list -/
theorem Does.end {c : Cl} {g g' : Tags} {ad' : Deed → Addr} {H H' : Hp} {a p : Addr} {s : Ses} {cl : Sq32.Call} {Q : VK} {l : List V} (q : Does c g H a s cl Q) (S : SesAt c g' ad' H' a (s.step cl).1) (K : Kp TM g H g' H') (hp : H' p = none) (hl : l = nts (s.step cl).2) : Q (.ref p) (upd H' p (.lst l)) := by
  subst hl
  obtain ⟨dx, re, eo, mo, ras, mas, S⟩ := S
  exact q _ (tagAt g' p .ans) ad' p ⟨_, _, _, _, _, _, S.kp (T := T0) (Kp.new hp) fun _ _ z => z⟩ upd_same tagAt_same (K.trans (Kp.new hp))
section
variable {P : Program} {w : World} {K : PySem.W.Frag} {mg : Str → Option Value} {base : Heap} {c : Cl} {f : Addr} {fd : FuncData}
/-! ### the questions -/
def spHasReplica (c : Cl) : Sp := fun vs H Q _ => ∃ (g : Tags) (ad : Deed → Addr) (a : Addr) (s : Ses) (k : Nat), vs = [.ref a, .int (k : Int)] ∧ SesAt c g ad H a s ∧ Q (.bl (decide (k < s.reps.length))) H
theorem sc_hasReplica : FnScope ["self", "replica"] ["self", "replica"] (defScope sHasReplica) := ⟨rfl, rfl, rfl, by decide +kernel, rfl, by decide +kernel, by decide +kernel⟩
theorem ok_hasReplica (T : Txt K mg c) (F : Fun K "has_replica" "Session.has_replica" sHasReplica f fd) : FnOk P w K mg base CX0 1 f fd ["self", "replica"] (spHasReplica c) := by
  refine F.ok sc_hasReplica (fun vs H Q E h => ?_) (fun cdv A outer s H vs Q E hr h => ?_)
  · obtain ⟨_, _, _, _, _, rfl, _⟩ := h
    rfl
  · refine ⟨_, pss_one (ps_ret (pe_cmp (pc_lt (pv 1) (pe_callB call_len_seq (by rfl) T.len PySem.boot_len (pa_cons (pe_fld (pv 0) rfl) pa_nil))) rfl)), ?_⟩
    obtain ⟨g, ad, a, s, k, rfl, ⟨dx, re, eo, mo, ras, mas, S⟩, q⟩ := h
    refine ⟨_, rfl, _, rfl, a, c.S, dx, _, _, rfl, S.obj, T.clS, T.s1, ss_replicas, re, _, rfl, .inl (SqL.of S.reps), _, _, rfl, rfl, ?_⟩
    show Q (.bl (decide ((k : Int) < ((ras.map V.ref).length : Int)))) H
    have e : decide ((k : Int) < ((ras.map V.ref).length : Int)) = decide (k < s.reps.length) := by
      rw [decide_eq_decide, List.length_map, S.rlen]
      omega
    rw [e]
    exact q
def spCanConnect (c : Cl) : Sp := fun vs H Q _ => ∃ (g : Tags) (ad : Deed → Addr) (a : Addr) (s : Ses) (k j : Nat), vs = [.ref a, .int (k : Int), .int (j : Int)] ∧ SesAt c g ad H a s ∧ Q (.bl (decide (k < s.reps.length ∧ j < s.reps.length ∧ k ≠ j))) H
theorem sc_canConnect : FnScope ["self", "sender", "receiver"] ["self", "sender", "receiver"] (defScope sCanConnect) := ⟨rfl, rfl, rfl, by decide +kernel, rfl, by decide +kernel, by decide +kernel⟩
theorem ok_canConnect (T : Txt K mg c) (F : Fun K "can_connect" "Session.can_connect" sCanConnect f fd) (MH : Met P w K mg base 1 c.S "has_replica" (spHasReplica c)) : FnOk P w K mg base CX0 2 f fd ["self", "sender", "receiver"] (spCanConnect c) := by
  refine F.ok sc_canConnect (fun vs H Q E h => ?_) (fun cdv A outer s H vs Q E hr h => ?_)
  · obtain ⟨_, _, _, _, _, _, rfl, _⟩ := h
    rfl
  · refine ⟨_, pss_one (ps_ret (pe_and (pe_met T.clS MH hr (by decide) (pv 0) (pa_cons (pv 1) pa_nil)) (pe_and (pe_met T.clS MH hr (by decide) (pv 0) (pa_cons (pv 2) pa_nil)) (pe_one (pe_cmpR op_ne (pv 1) (pv 2) (nomark _)))))), ?_⟩
    obtain ⟨g, ad, a, s, k, j, rfl, SS, q⟩ := h
    obtain ⟨dx, re, eo, mo, ras, mas, S⟩ := id SS
    refine ⟨_, rfl, a, dx, _, rfl, S.obj, ss_no (by decide +kernel), _, rfl, g, ad, a, s, k, rfl, SS, _, rfl, ?_⟩
    by_cases e1 : k < s.reps.length
    · rw [decide_eq_true e1]
      refine iteT ⟨_, rfl, a, dx, _, rfl, S.obj, ss_no (by decide +kernel), _, rfl, g, ad, a, s, j, rfl, SS, _, rfl, ?_⟩
      by_cases e2 : j < s.reps.length
      · rw [decide_eq_true e2]
        refine iteT ⟨_, rfl, _, rfl, rfl, ?_⟩
        have e : (!decide (V.int (k : Int) = V.int (j : Int))) = decide (k < s.reps.length ∧ j < s.reps.length ∧ k ≠ j) := by
          rw [int_eq_nat]
          by_cases e3 : k = j
          · subst e3; simp
          · simp [e1, e2, e3]
        show Q (.bl (!decide (V.int (k : Int) = V.int (j : Int)))) H
        rw [e]
        exact q
      · rw [decide_eq_false e2]
        refine iteF ?_
        rw [decide_eq_false (fun z => e2 z.2.1)] at q
        exact q
    · rw [decide_eq_false e1]
      refine iteF ?_
      rw [decide_eq_false (fun z => e1 z.1)] at q
      exact q
def spHasRoom (c : Cl) : Sp := fun vs H Q _ => ∃ (g : Tags) (ad : Deed → Addr) (a : Addr) (s : Ses), vs = [.ref a] ∧ SesAt c g ad H a s ∧ Q (.bl (decide (s.msgs.length < 200))) H
theorem sc_hasRoom : FnScope ["self"] ["self"] (defScope sHasRoom) := ⟨rfl, rfl, rfl, by decide +kernel, rfl, by decide +kernel, by decide +kernel⟩
theorem ok_hasRoom (T : Txt K mg c) (F : Fun K "has_room_for_message" "Session.has_room_for_message" sHasRoom f fd) : FnOk P w K mg base CX0 1 f fd ["self"] (spHasRoom c) := by
  refine F.ok sc_hasRoom (fun vs H Q E h => ?_) (fun cdv A outer s H vs Q E hr h => ?_)
  · obtain ⟨_, _, _, _, rfl, _⟩ := h
    rfl
  · obtain ⟨t3, k3⟩ := T.k3
    refine ⟨_, pss_one (ps_ret (pe_cmp (pc_lt (pe_callB call_len_seq (by rfl) T.len PySem.boot_len (pa_cons (pe_fld (pv 0) rfl) pa_nil)) (pe_glob (v := .int 200) rfl k3 ⟨_, rfl⟩)) rfl)), ?_⟩
    obtain ⟨g, ad, a, s, rfl, ⟨dx, re, eo, mo, ras, mas, S⟩, q⟩ := h
    refine ⟨_, rfl, a, c.S, dx, _, _, rfl, S.obj, T.clS, T.s3, ss_messages, mo, _, rfl, .inl (SqL.of S.msgs), _, _, rfl, rfl, ?_⟩
    show Q (.bl (decide (((mas.map V.ref).length : Int) < 200))) H
    have e : decide (((mas.map V.ref).length : Int) < 200) = decide (s.msgs.length < 200) := by
      rw [decide_eq_decide, List.length_map, S.mlen]
      omega
    rw [e]
    exact q
def spHasMessage (c : Cl) : Sp := fun vs H Q _ => ∃ (g : Tags) (ad : Deed → Addr) (a : Addr) (s : Ses) (i : Nat), vs = [.ref a, .int (i : Int)] ∧ SesAt c g ad H a s ∧ Q (.bl (decide (i < s.msgs.length))) H
theorem sc_hasMessage : FnScope ["self", "number"] ["self", "number"] (defScope sHasMessage) := ⟨rfl, rfl, rfl, by decide +kernel, rfl, by decide +kernel, by decide +kernel⟩
theorem ok_hasMessage (T : Txt K mg c) (F : Fun K "has_message" "Session.has_message" sHasMessage f fd) : FnOk P w K mg base CX0 1 f fd ["self", "number"] (spHasMessage c) := by
  refine F.ok sc_hasMessage (fun vs H Q E h => ?_) (fun cdv A outer s H vs Q E hr h => ?_)
  · obtain ⟨_, _, _, _, _, rfl, _⟩ := h
    rfl
  · refine ⟨_, pss_one (ps_ret (pe_cmp (pc_lt (pv 1) (pe_callB call_len_seq (by rfl) T.len PySem.boot_len (pa_cons (pe_fld (pv 0) rfl) pa_nil))) rfl)), ?_⟩
    obtain ⟨g, ad, a, s, i, rfl, ⟨dx, re, eo, mo, ras, mas, S⟩, q⟩ := h
    refine ⟨_, rfl, _, rfl, a, c.S, dx, _, _, rfl, S.obj, T.clS, T.s3, ss_messages, mo, _, rfl, .inl (SqL.of S.msgs), _, _, rfl, rfl, ?_⟩
    show Q (.bl (decide ((i : Int) < ((mas.map V.ref).length : Int)))) H
    have e : decide ((i : Int) < ((mas.map V.ref).length : Int)) = decide (i < s.msgs.length) := by
      rw [decide_eq_decide, List.length_map, S.mlen]
      omega
    rw [e]
    exact q
/-! ### add_message -/
def spAddMessage (c : Cl) : Sp := fun vs H Q _ => ∃ (g : Tags) (ad : Deed → Addr) (a u : Addr) (s : Ses) (k j : Nat) (l : List Deed), vs = [.ref a, .int (k : Int), .int (j : Int), .ref u] ∧ SesAt c g ad H a s ∧ k < s.reps.length ∧ k < (s.rep k).known.length ∧ s.msgs.length ≤ 1000 ∧ H u = some (.lst (refs ad l)) ∧ g u = .fix ∧
  ∀ H' g', SesAt c g' ad H' a { s with msgs := s.msgs ++ [⟨k, j, (s.rep k).vec k, l⟩] } → Kp (fun t => t = .sM) g H g' H' → Q (.int (s.msgs.length : Int)) H'
theorem sc_addMessage : FnScope ["self", "sender", "receiver", "events", "vector"] ["self", "sender", "receiver", "events"] (defScope sAddMessage) := ⟨rfl, rfl, rfl, by decide +kernel, rfl, by decide +kernel, by decide +kernel⟩
theorem ok_addMessage (T : Txt K mg c) (F : Fun K "add_message" "Session.add_message" sAddMessage f fd) (MM : Mak P w K mg base 1 "Message" c.M (spMsI c)) : FnOk P w K mg base CX0 3 f fd ["self", "sender", "receiver", "events"] (spAddMessage c) := by
  refine F.ok sc_addMessage (fun vs H Q E h => ?_) (fun cdv A outer s H vs Q E hr h => ?_)
  · obtain ⟨_, _, _, _, _, _, _, _, rfl, _⟩ := h
    rfl
  · refine ⟨_, pss_cons (ps_set (i := 4) sc_addMessage.nd rfl (Or.inl rfl) (pe_callTy call_list_of (by rfl) T.list (by decide +kernel) (pa_cons (pe_fld (pe_ix ix_list (pe_fld (pv 0) rfl) (pv 1) (fun _ _ => rfl)) rfl) pa_nil)))
      (pss_cons (ps_expr (pe_bm PySem.F.plainAttrs_list PySem.F.slot_list_append PySem.F.type_list_append mt_append (pe_fld (pv 0) rfl) (pa_cons (pe_mak MM hr (by decide) rfl (pa_cons (pv 1) (pa_cons (pv 2) (pa_cons (pv 4) (pa_cons (pv 3) pa_nil))))) pa_nil)))
      (pss_one (ps_ret (pe_op op_sub (pe_callB call_len_seq (by rfl) T.len PySem.boot_len (pa_cons (pe_fld (pv 0) rfl) pa_nil)) pe_int)))), ?_⟩
    obtain ⟨g, ad, a, u, s, k, j, l, rfl, ⟨dx, re, eo, mo, ras, mas, S⟩, hk, hkk, hm, hu, gu, q⟩ := h
    have hkr : k < ras.length := by rw [S.rlen]; exact hk
    obtain ⟨dr, pa, pp, pk, pv', ks, R⟩ := S.rep k ras[k] (List.getElem?_eq_getElem hkr)
    obtain ⟨gv, hv⟩ := R.gV
    refine ⟨_, rfl, a, c.S, dx, _, _, rfl, S.obj, T.clS, T.s1, ss_replicas, _, rfl, re, _, _, _, rfl, rfl, SqL.of S.reps, atI_nat (by rw [List.getElem?_map, List.getElem?_eq_getElem hkr]; rfl), ?_⟩
    refine ⟨ras[k], c.R, dr, _, _, rfl, R.obj, T.clR, T.r5, rp_vector, pv', _, rfl, .inl (SqL.of hv), fun v hvN => ?_⟩
    have S1 := S.kp (T := T0) (g' := tagAt g v .fix) (H' := upd H v (.lst (nums ((s.rep k).vec k)))) (Kp.new hvN) fun _ _ z => z
    have nuv : u ≠ v := ne_of_none hu hvN
    refine ⟨_, rfl, a, c.S, dx, _, _, rfl, S1.obj, T.clS, T.s3, ss_messages, .inl ⟨rfl, _, SqL.of S1.msgs⟩, ?_⟩
    refine ⟨_, rfl, _, rfl, _, rfl, _, rfl, ?_⟩
    intro p dp np ndp ne
    have hv1 : upd H v (.lst (nums ((s.rep k).vec k))) v = some (.lst (nums ((s.rep k).vec k))) := upd_same
    have hu1 : upd H v (.lst (nums ((s.rep k).vec k))) u = some (.lst (refs ad l)) := (upd_ne nuv).trans hu
    refine ⟨p, dp, _, _, _, _, rfl, upd_same, fun H2 J kp => ⟨rfl, ?_⟩⟩
    have s1 : Same (upd H v (.lst (nums ((s.rep k).vec k)))) H2 := Same.made np ndp kp
    have K1 : Kp T0 (tagAt g v .fix) (upd H v (.lst (nums ((s.rep k).vec k)))) (tagAt (tagAt g v .fix) p .fix) H2 := fun b o hb _ => ⟨s1 b o hb, tagAt_ne (ne_of_none hb np)⟩
    have K0 : Kp T0 g H (tagAt (tagAt g v .fix) p .fix) H2 := (Kp.new hvN).trans K1
    have S2 := S1.kp K1 fun _ _ z => z
    have M2 : MsgAt c (tagAt (tagAt g v .fix) p .fix) ad H2 p ⟨k, j, (s.rep k).vec k, l⟩ := ⟨dp, v, u, J, s1 _ _ hv1, s1 _ _ hu1, tagAt_same, (tagAt_ne (ne_of_none hv1 np)).trans tagAt_same, (tagAt_ne (ne_of_none hu1 np)).trans ((tagAt_ne nuv).trans gu)⟩
    refine ⟨mo, _, _, rfl, rfl, S2.msgs, (by rw [List.length_map, S.mlen]; exact small1000 hm), ?_⟩
    have S3 := S2.mail M2
    refine ⟨_, rfl, a, c.S, dx, _, _, rfl, S3.obj, T.clS, T.s3, ss_messages, mo, _, rfl, .inl (SqL.of S3.msgs), _, _, rfl, rfl, ?_⟩
    have e : ((((mas ++ [p]).map V.ref).length : Nat) : Int) - 1 = (s.msgs.length : Int) := by
      rw [List.length_map, List.length_append, List.length_singleton, S.mlen]
      omega
    show Q (.int (((((mas ++ [p]).map V.ref).length : Nat) : Int) - 1)) _
    rw [e]
    exact q _ _ ⟨_, _, _, _, _, _, S3⟩ ((Kp.of0 K0).trans (Kp.put S2.gM))
end
end VD
end
section
set_option Elab.async false
set_option maxRecDepth 100000
set_option maxHeartbeats 2000000
namespace VD
open PySem PySem.Spec PyProof.Rows L2
open Sq32 (Deed Letter Counts at_ was may counts House)
theorem freshS_rep {n k : Nat} (h : k < n) : (freshS n).rep k = repNew n := by
  unfold Ses.rep freshS
  show ((List.replicate n _)[k]?).getD _ = _
  rw [List.getElem?_replicate, if_pos h]
  rfl
section
variable {P : Program} {w : World} {K : PySem.W.Frag} {mg : Str → Option Value} {base : Heap} {c : Cl} {f : Addr} {fd : FuncData}
/-! ### a new session -/
def spSsI (c : Cl) : Sp := fun vs H Q _ => ∃ (g : Tags) (p dx : Addr), vs = [.ref p] ∧ H p = some (.ins c.S dx []) ∧ g p = .ses ∧
  ∀ H' g', (∀ ad, SesAt c g' ad H' p (freshS 1)) → (∀ b o, H b = some o → b ≠ p → H' b = some o ∧ g' b = g b) → Q .non H'
theorem sc_ssI : FnScope ["self"] ["self"] (defScope sSsI) := ⟨rfl, rfl, rfl, by decide +kernel, rfl, by decide +kernel, by decide +kernel⟩
theorem fresh_ses {g : Tags} {H : Hp} {a dx re eo mo : Addr} {n : Nat} {ras : List Addr} (h1 : H a = some (.ins c.S dx (ssF re eo mo))) (h2 : H re = some (.lst (ras.map V.ref))) (h3 : H eo = some (.lst [])) (h4 : H mo = some (.lst [])) (hl : ras.length = n)
    (hr : ∀ k b, ras[k]? = some b → ∀ ad, RepAt c g ad H k b (repNew n)) (t1 : g a = .ses) (t2 : g re = .sR) (t3 : g eo = .sE) (t4 : g mo = .sM) (ad : Deed → Addr) : SesIs c g ad H a (freshS n) dx re eo mo ras [] := by
  refine ⟨h1, h2, ?_, fun k b hb => ?_, h3, fun d hd => (nomatch hd), h4, rfl, fun i b m hb => by simp at hb, t1, t2, t3, t4⟩
  · show ras.length = (List.replicate n _).length
    rw [List.length_replicate]; exact hl
  · have hk : k < n := by rw [← hl]; exact (List.getElem?_eq_some_iff.mp hb).1
    rw [freshS_rep hk]
    exact hr k b hb ad
theorem ok_ssI (T : Txt K mg c) (F : Fun K "__init__" "Session.__init__" sSsI f fd) (MR : Mak P w K mg base 1 "Replica" c.R (spRpI c)) : FnOk P w K mg base CX0 3 f fd ["self"] (spSsI c) := by
  refine F.ok sc_ssI (fun vs H Q E h => ?_) (fun cdv A outer s H vs Q E hr h => ?_)
  · obtain ⟨_, _, _, rfl, _⟩ := h
    rfl
  · refine ⟨_, pss_cons (ps_fld (pv 0) (pe_lst (pa_cons (pe_mak MR hr (by decide) rfl (pa_cons pe_int (pa_cons pe_int pa_nil))) pa_nil)) rfl) (pss_cons (ps_fld (pv 0) (pe_lst pa_nil) rfl) (pss_one (ps_fld (pv 0) (pe_lst pa_nil) rfl))), ?_⟩
    obtain ⟨g, p, dx, rfl, hp, gp, q⟩ := h
    intro x dr nx ndr ne
    have hpx : p ≠ x := ne_of_none hp nx
    refine ⟨tagAt g x (.rep 0), x, dr, 0, 1, rfl, upd_same, tagAt_same, (by decide), (by decide), fun H1 g1 R1 K1 => ⟨rfl, ?_⟩⟩
    have old : ∀ b o, H b = some o → H1 b = some o ∧ g1 b = g b := fun b o hb => by
      have hbx : b ≠ x := ne_of_none hb nx
      have hbd : b ≠ dr := ne_of_none hb ndr
      obtain ⟨z1, z2⟩ := K1 b o (by rw [upd_ne hbx, upd_ne hbd]; exact hb) hbx
      exact ⟨z1, z2.trans (tagAt_ne hbx)⟩
    refine ⟨(by show 1 ≤ sizeLine; decide), fun re hre => ?_⟩
    obtain ⟨p1, gp1⟩ := old p _ hp
    have hpre : p ≠ re := ne_of_none p1 hre
    refine ⟨_, rfl, p, c.S, dx, _, rfl, (upd_ne hpre).trans p1, T.clS, T.s1, (by show 0 < 1000; decide), ?_⟩
    refine ⟨(by decide), fun eo heo => ?_⟩
    have hpeo : p ≠ eo := ne_of_none upd_same heo
    refine ⟨_, rfl, p, c.S, dx, _, rfl, (upd_ne hpeo).trans upd_same, T.clS, T.s2, (by show 1 < 1000; decide), ?_⟩
    refine ⟨(by decide), fun mo hmo => ?_⟩
    have hpmo : p ≠ mo := ne_of_none upd_same hmo
    refine ⟨_, rfl, p, c.S, dx, _, rfl, (upd_ne hpmo).trans upd_same, T.clS, T.s3, (by show 2 < 1000; decide), ?_⟩
    rw [put_new (l := []) rfl, put_new (l := [] ++ [_]) rfl, put_new (l := [] ++ [_] ++ [_]) rfl]
    -- the fresh addresses
    have re1 : H1 re = none := hre
    have nre : re ≠ eo := fun e => by
      rw [← e] at heo
      rw [upd_ne (fun z => hpre z.symm), upd_same] at heo
      cases heo
    have eo1 : H1 eo = none := by
      have := heo
      rw [upd_ne (fun z => hpeo z.symm), upd_ne (fun z => nre z.symm)] at this
      exact this
    have nmo1 : eo ≠ mo := fun e => by
      rw [← e] at hmo
      rw [upd_ne (fun z => hpeo z.symm), upd_same] at hmo
      cases hmo
    have nmo2 : re ≠ mo := fun e => by
      rw [← e] at hmo
      rw [upd_ne (fun z => hpre z.symm), upd_ne nre, upd_ne (fun z => hpre z.symm), upd_same] at hmo
      cases hmo
    have mo1 : H1 mo = none := by
      have := hmo
      rw [upd_ne (fun z => hpmo z.symm), upd_ne (fun z => nmo1 z.symm), upd_ne (fun z => hpmo z.symm), upd_ne (fun z => nmo2 z.symm)] at this
      exact this
    have keep : ∀ (x1 x2 x3 x4 x5 x6 : HO) b o, H1 b = some o → b ≠ p → (upd (upd (upd (upd (upd (upd H1 re x1) p x2) eo x3) p x4) mo x5) p x6) b = some o := fun x1 x2 x3 x4 x5 x6 b o hb hne => by
      rw [upd_ne hne, upd_ne (ne_of_none hb mo1), upd_ne hne, upd_ne (ne_of_none hb eo1), upd_ne hne, upd_ne (ne_of_none hb re1)]
      exact hb
    have tags : ∀ b o, H1 b = some o → tagAt (tagAt (tagAt g1 re .sR) eo .sE) mo .sM b = g1 b := fun b o hb => by
      rw [tagAt_ne (ne_of_none hb mo1), tagAt_ne (ne_of_none hb eo1), tagAt_ne (ne_of_none hb re1)]
    refine q _ (tagAt (tagAt (tagAt g1 re .sR) eo .sE) mo .sM) (fun ad => ⟨dx, re, eo, mo, [x], [], ?_⟩) fun b o hb hne => ?_
    refine fresh_ses (n := 1) ?_ ?_ ?_ ?_ rfl (fun k b hb ad => ?_) ?_ ?_ ?_ ?_ ad
    · exact upd_same
    · rw [upd_ne (fun z => hpre z.symm), upd_ne nmo2, upd_ne (fun z => hpre z.symm), upd_ne nre, upd_ne (fun z => hpre z.symm)]
      exact upd_same
    · rw [upd_ne (fun z => hpeo z.symm), upd_ne nmo1, upd_ne (fun z => hpeo z.symm)]
      exact upd_same
    · rw [upd_ne (fun z => hpmo z.symm)]
      exact upd_same
    · have hk0 : k = 0 := by
        have := (List.getElem?_eq_some_iff.mp hb).1
        rw [List.length_singleton] at this
        omega
      subst hk0
      have hxb : x = b := by simpa using hb
      subst hxb
      refine (R1 ad).kp (T := fun t => t = .ses) (fun b o hb hn => ?_) fun t ht e => by subst e; cases ht
      have hbp : b ≠ p := fun e => by
        rw [e, gp1] at hn
        exact hn gp
      exact ⟨keep _ _ _ _ _ _ b o hb hbp, tags b o hb⟩
    · rw [tags p _ p1, gp1, gp]
    · rw [tagAt_ne nmo2, tagAt_ne nre, tagAt_same]
    · rw [tagAt_ne nmo1, tagAt_same]
    · exact tagAt_same
    · obtain ⟨z1, z2⟩ := old b o hb
      exact ⟨keep _ _ _ _ _ _ b o z1 hne, (tags b o z1).trans z2⟩
end
end VD
end
section
set_option Elab.async false
set_option maxRecDepth 100000
set_option maxHeartbeats 2000000
namespace VD
open PySem PySem.Spec PyProof.Rows L2
open Sq32 (Deed Letter Counts at_ was may counts House)
section
variable {P : Program} {w : World} {K : PySem.W.Frag} {mg : Str → Option Value} {base : Heap} {c : Cl} {f : Addr} {fd : FuncData}
theorem not_b (b : Bool) {A B : Prop} (h1 : b = false → A) (h2 : b = true → B) : if (!b) = true then A else B := by
  cases b with
  | false => exact h1 rfl
  | true => exact h2 rfl
theorem if_true_of' {c : Bool} {A B : Prop} (hc : c = true) (h : A) : if c = true then A else B := by
  rw [if_pos hc]
  exact h
theorem if_false_of' {c : Bool} {A B : Prop} (hc : c = false) (h : B) : if c = true then A else B := by
  rw [hc, if_neg Bool.false_ne_true]
  exact h
/-! ### begin -/
def spBegin (c : Cl) : Sp := fun vs H Q _ => ∃ (g : Tags) (ad : Deed → Addr) (a : Addr) (s : Ses) (n : Nat), vs = [.ref a, .int (n : Int)] ∧ SesAt c g ad H a s ∧ Does c g H a s (.begin_ n) Q
theorem sc_begin : FnScope ["self", "count", "place"] ["self", "count"] (defScope sBegin) := ⟨rfl, rfl, rfl, by decide +kernel, rfl, by decide +kernel, by decide +kernel⟩
theorem ok_begin (T : Txt K mg c) (F : Fun K "begin" "Session.begin" sBegin f fd) (MR : Mak P w K mg base 1 "Replica" c.R (spRpI c)) : FnOk P w K mg base CX0 3 f fd ["self", "count"] (spBegin c) := by
  refine F.ok sc_begin (fun vs H Q E h => ?_) (fun cdv A outer s H vs Q E hr h => ?_)
  · obtain ⟨_, _, _, _, _, rfl, _⟩ := h
    rfl
  · obtain ⟨t1, k1⟩ := T.k1
    obtain ⟨t5, k5⟩ := T.k5
    refine ⟨_, pss_cons (ps_if (PW.pt (pw_or (pt_cmpR op_lt (pv 1) pe_int (nomark _)) (pw_or1 (pt_cmpR op_gt (pv 1) (pe_glob (v := .int 6) rfl k1 ⟨_, rfl⟩) (nomark _)))))
        (pss_one (ps_ret (pe_lst (pa_cons (pe_glob (v := .int (-1)) rfl k5 ⟨_, rfl⟩) pa_nil)))) pss_nil)
      (pss_cons (ps_fld (pv 0) (pe_lc (own := [("place", 2)]) (g := gName 2) (tt := tYes) (te := tMake c.R (spRpI c) [] E0 (tCons (tVar 2) (tCons (tVar 1) tNil))) rfl sc_begin.nd (pi_range1 (by rfl) T.range (pa_cons (pv 1) pa_nil))
          (blkOk_by (own := [("place", 2)]) (N := ["self", "count", "place"]) (sc := defScope sBegin) (by decide +kernel))
          (fun _ _ _ _ _ => pg_name (i := 2) sc_begin.nd rfl (Or.inl rfl)) (fun _ _ _ _ _ => pts_nil)
          (fun _ _ _ _ _ => pe_mak MR hr (by decide) rfl (pa_cons (pv 2) (pa_cons (pv 1) pa_nil)))) rfl)
      (pss_cons (ps_fld (pv 0) (pe_lst pa_nil) rfl) (pss_cons (ps_fld (pv 0) (pe_lst pa_nil) rfl) (pss_one (ps_ret (pe_lst (pa_cons pe_int pa_nil))))))), ?_⟩
    obtain ⟨g, ad, a, s, n, rfl, SS, q⟩ := h
    have bad : (n = 0 ∨ 6 < n) → ∀ p, H p = none → Q (.ref p) (upd H p (.lst [.int (-1)])) := fun hb p hp => by
      refine q.end (g' := g) (ad' := ad) ?_ Kp.refl hp ?_
      · show SesAt c g ad H a (if n = 0 ∨ 6 < n then (s, [-1]) else (freshS n, [0])).1
        rw [if_pos hb]; exact SS
      · show _ = nts (if n = 0 ∨ 6 < n then (s, [-1]) else (freshS n, [0])).2
        rw [if_pos hb]; rfl
    obtain ⟨dx, re0, eo0, mo0, ras0, mas0, S⟩ := id SS
    refine ⟨_, rfl, _, _, rfl, rfl, _, rfl, ?_⟩
    by_cases e1 : (n : Int) < 1
    · refine if_true_of' (decide_eq_true e1) (iteT ⟨by show 1 ≤ sizeLine; decide, fun p hp => bad (.inl (by omega)) p hp⟩)
    refine if_false_of' (decide_eq_false e1) ⟨_, rfl, _, _, rfl, rfl, _, rfl, ?_⟩
    by_cases e2 : (6 : Int) < (n : Int)
    · refine if_true_of' (decide_eq_true e2) ⟨by show 1 ≤ sizeLine; decide, fun p hp => bad (.inr (by omega)) p hp⟩
    refine if_false_of' (decide_eq_false e2) ?_
    have hn1 : 1 ≤ n := by omega
    have hn6 : n ≤ 6 := by omega
    have hnN : ((n : Int)).toNat = n := Int.toNat_natCast n
    refine ⟨_, rfl, (n : Int), rfl, (by omega), (by omega), fun D hD => ?_⟩
    rw [hnN]
    refine lc_range (lo := 0) (n := n) (fun i H' => ∃ (g' : Tags) (bs : List Addr), bs.length = i ∧ H' D = some (.lst (bs.map V.ref)) ∧ g' D = .sR ∧ (∀ j b, bs[j]? = some b → ∀ ad, RepAt c g' ad H' j b (repNew n)) ∧
        (∀ b o, H b = some o → H' b = some o ∧ g' b = g b))
      ⟨tagAt g D .sR, [], rfl, upd_same, tagAt_same, fun j b hb => by simp at hb, fun b o hb => ⟨by rw [upd_ne (ne_of_none hb hD)]; exact hb, tagAt_ne (ne_of_none hb hD)⟩⟩
      (fun i H' hi pv' => ?_) (fun H' pv' => ?_)
    · obtain ⟨g', bs, hl, hDl, gD, hbs, hold⟩ := pv'
      refine ⟨rfl, _, rfl, _, rfl, ?_⟩
      intro x dr nx ndr ne
      refine ⟨tagAt g' x (.rep i), x, dr, i, n, by rw [Int.zero_add]; rfl, upd_same, tagAt_same, hi, by omega, fun H2 g2 R2 K2 => ⟨rfl, ?_⟩⟩
      have old : ∀ b o, H' b = some o → H2 b = some o ∧ g2 b = g' b := fun b o hb => by
        have hbx : b ≠ x := ne_of_none hb nx
        obtain ⟨z1, z2⟩ := K2 b o (by rw [upd_ne hbx, upd_ne (ne_of_none hb ndr)]; exact hb) hbx
        exact ⟨z1, z2.trans (tagAt_ne hbx)⟩
      obtain ⟨D2, gD2⟩ := old D _ hDl
      have KD : Kp (fun t => t = .sR) g2 H2 g2 (upd H2 D (.lst (bs.map V.ref ++ [V.ref x]))) := Kp.put (gD2.trans gD)
      refine ⟨bs.map V.ref, D2, by rw [List.length_map, hl]; exact small1000 (by omega), g2, bs ++ [x], by rw [List.length_append, hl]; rfl, ?_, gD2.trans gD, fun j b hb ad => ?_, fun b o hb => ?_⟩
      · refine upd_same.trans ?_
        rw [List.map_append]
        rfl
      · by_cases hji : j < i
        · rw [List.getElem?_append_left (by omega)] at hb
          exact ((hbs j b hb ad).kp (T := T0) (fun b o hb _ => old b o hb) fun _ _ z => z).kp KD fun t ht e => by subst e; cases ht
        · rw [List.getElem?_append_right (by omega), hl] at hb
          have hj0 : j - i = 0 := by
            have := (List.getElem?_eq_some_iff.mp hb).1
            rw [List.length_singleton] at this
            omega
          rw [hj0] at hb
          have e1 : x = b := by simpa using hb
          subst e1
          have e2 : j = i := by omega
          subst e2
          exact (R2 ad).kp KD fun t ht e => by subst e; cases ht
      · obtain ⟨h1, h2⟩ := hold b o hb
        obtain ⟨h3, h4⟩ := old b o h1
        refine ⟨?_, h4.trans h2⟩
        rw [upd_ne (ne_of_none hb hD)]
        exact h3
    · obtain ⟨g', bs, hl, hDl, gD, hbs, hold⟩ := pv'
      obtain ⟨a1, ga1⟩ := hold a _ S.obj
      refine ⟨_, rfl, a, c.S, dx, _, rfl, a1, T.clS, T.s1, (by show 3 < 1000; decide), ?_⟩
      refine ⟨(by decide), fun eo heo => ?_⟩
      have haD : a ≠ D := ne_of_none S.obj hD
      have haeo : a ≠ eo := ne_of_none upd_same heo
      refine ⟨_, rfl, a, c.S, dx, _, rfl, (upd_ne haeo).trans upd_same, T.clS, T.s2, (by show 3 < 1000; decide), ?_⟩
      refine ⟨(by decide), fun mo hmo => ?_⟩
      have hamo : a ≠ mo := ne_of_none upd_same hmo
      refine ⟨_, rfl, a, c.S, dx, _, rfl, (upd_ne hamo).trans upd_same, T.clS, T.s3, (by show 3 < 1000; decide), ?_⟩
      refine ⟨(by show 1 ≤ sizeLine; decide), fun p hp => ?_⟩
      have eo1 : H' eo = none := by
        rw [upd_ne (fun z => haeo z.symm)] at heo
        exact heo
      have nmo : eo ≠ mo := fun e => by
        rw [← e] at hmo
        rw [upd_ne (fun z => haeo z.symm), upd_same] at hmo
        cases hmo
      have mo1 : H' mo = none := by
        rw [upd_ne (fun z => hamo z.symm), upd_ne (fun z => nmo z.symm), upd_ne (fun z => hamo z.symm)] at hmo
        exact hmo
      have keep : ∀ (x1 x2 x3 x4 x5 : HO) b o, H' b = some o → b ≠ a → (upd (upd (upd (upd (upd H' a x1) eo x2) a x3) mo x4) a x5) b = some o := fun x1 x2 x3 x4 x5 b o hb hne => by
        rw [upd_ne hne, upd_ne (ne_of_none hb mo1), upd_ne hne, upd_ne (ne_of_none hb eo1), upd_ne hne]
        exact hb
      have tags : ∀ b o, H' b = some o → tagAt (tagAt g' eo .sE) mo .sM b = g' b := fun b o hb => by
        rw [tagAt_ne (ne_of_none hb mo1), tagAt_ne (ne_of_none hb eo1)]
      have nDeo : D ≠ eo := ne_of_none hDl eo1
      have nDmo : D ≠ mo := ne_of_none hDl mo1
      have gbad : ¬ (n = 0 ∨ 6 < n) := by omega
      refine q.end (g' := tagAt (tagAt g' eo .sE) mo .sM) (ad' := ad) ?_ (fun b o hb hn => ?_) hp ?_
      · show SesAt c _ ad _ a (if n = 0 ∨ 6 < n then (s, [-1]) else (freshS n, [0])).1
        rw [if_neg gbad]
        refine ⟨dx, D, eo, mo, bs, [], ?_⟩
        refine fresh_ses (n := n) ?_ ?_ ?_ ?_ hl (fun k b hb ad => ?_) ?_ ?_ ?_ ?_ ad
        · refine upd_same.trans ?_
          unfold ssF
          rw [put_here, put_past (by decide +kernel), put_here, put_past (by decide +kernel), put_past (by decide +kernel), put_here]
        · exact keep _ _ _ _ _ D _ hDl haD.symm
        · rw [upd_ne (fun z => haeo z.symm), upd_ne nmo, upd_ne (fun z => haeo z.symm)]
          exact upd_same
        · rw [upd_ne (fun z => hamo z.symm)]
          exact upd_same
        · refine (hbs k b hb ad).kp (T := fun t => t = .ses) (fun b o hb hn => ?_) fun t ht e => by subst e; cases ht
          have hba : b ≠ a := fun e => by
            rw [e, ga1] at hn
            exact hn S.gS
          exact ⟨keep _ _ _ _ _ b o hb hba, tags b o hb⟩
        · rw [tags a _ a1, ga1, S.gS]
        · rw [tags D _ hDl, gD]
        · rw [tagAt_ne nmo, tagAt_same]
        · exact tagAt_same
      · have hba : b ≠ a := fun e => hn (by show g b ≠ .mine; rw [e, S.gS]; simp)
        obtain ⟨h1, h2⟩ := hold b o hb
        exact ⟨keep _ _ _ _ _ b o h1 hba, (tags b o h1).trans h2⟩
      · show _ = nts (if n = 0 ∨ 6 < n then (s, [-1]) else (freshS n, [0])).2
        rw [if_neg gbad]; rfl
end
end VD
end
section
set_option Elab.async false
set_option maxRecDepth 100000
set_option maxHeartbeats 2000000
namespace VD
open PySem PySem.Spec PyProof.Rows L2
open Sq32 (Deed Letter Counts at_ was may counts House)
section
variable {P : Program} {w : World} {K : PySem.W.Frag} {mg : Str → Option Value} {base : Heap} {c : Cl} {f : Addr} {fd : FuncData}
/-- a refusal -/
theorem refuse {c : Cl} {g : Tags} {ad : Deed → Addr} {H : Hp} {a : Addr} {s : Ses} {cl : Sq32.Call} {Q : VK} {z : Int} (q : Does c g H a s cl Q) (S : SesAt c g ad H a s) (e : s.step cl = (s, [z])) : ∀ p, H p = none → Q (.ref p) (upd H p (.lst [.int z])) := fun p hp => by
  refine q.end (g' := g) (ad' := ad) ?_ Kp.refl hp ?_
  · rw [e]; exact S
  · rw [e]; rfl
/-! ### create -/
def spCreate (c : Cl) : Sp := fun vs H Q _ => ∃ (g : Tags) (ad : Deed → Addr) (a : Addr) (s : Ses) (h : House) (k v : Nat), vs = [.ref a, .int (k : Int), .int (v : Int)] ∧ SesAt c g ad H a s ∧ SInv s h ∧ Does c g H a s (.does k v) Q
theorem sc_create : FnScope ["self", "replica", "value", "event"] ["self", "replica", "value"] (defScope sCreate) := ⟨rfl, rfl, rfl, by decide +kernel, rfl, by decide +kernel, by decide +kernel⟩
theorem ok_create (T : Txt K mg c) (F : Fun K "create" "Session.create" sCreate f fd) (MH : Met P w K mg base 1 c.S "has_replica" (spHasReplica c)) (MC : Met P w K mg base 3 c.R "create" (spRCreate c)) : FnOk P w K mg base CX0 4 f fd ["self", "replica", "value"] (spCreate c) := by
  refine F.ok sc_create (fun vs H Q E h => ?_) (fun cdv A outer s H vs Q E hr h => ?_)
  · obtain ⟨_, _, _, _, _, _, _, rfl, _⟩ := h
    rfl
  · obtain ⟨t2, k2⟩ := T.k2
    obtain ⟨t4, k4⟩ := T.k4
    obtain ⟨t5, k5⟩ := T.k5
    obtain ⟨t6, k6⟩ := T.k6
    obtain ⟨t8, k8⟩ := T.k8
    refine ⟨_, pss_cons (ps_if (pt_not (pt_val (pe_met T.clS MH hr (by decide) (pv 0) (pa_cons (pv 1) pa_nil)))) (pss_one (ps_ret (pe_lst (pa_cons (pe_glob (v := .int (-2)) rfl k6 ⟨_, rfl⟩) pa_nil)))) pss_nil)
      (pss_cons (ps_if (pt_cmpR op_gt (pv 2) (pe_glob (v := .int 1000000000) rfl k4 ⟨_, rfl⟩) (nomark _)) (pss_one (ps_ret (pe_lst (pa_cons (pe_glob (v := .int (-1)) rfl k5 ⟨_, rfl⟩) pa_nil)))) pss_nil)
      (pss_cons (ps_if (pt_cmpR op_ge (pe_callB call_len_seq (by rfl) T.len PySem.boot_len (pa_cons (pe_fld (pv 0) rfl) pa_nil)) (pe_glob (v := .int 60) rfl k2 ⟨_, rfl⟩) (nomark _)) (pss_one (ps_ret (pe_lst (pa_cons (pe_glob (v := .int (-5)) rfl k8 ⟨_, rfl⟩) pa_nil)))) pss_nil)
      (pss_cons (ps_set (i := 3) sc_create.nd rfl (Or.inl rfl) (pe_met T.clR MC hr (by decide) (pe_ix ix_list (pe_fld (pv 0) rfl) (pv 1) (fun _ _ => rfl)) (pa_cons (pv 2) pa_nil)))
      (pss_cons (ps_expr (pe_bm PySem.F.plainAttrs_list PySem.F.slot_list_append PySem.F.type_list_append mt_append (pe_fld (pv 0) rfl) (pa_cons (pv 3) pa_nil)))
      (pss_one (ps_ret (pe_lst (pa_cons (pe_fld (pv 3) rfl) pa_nil)))))))), ?_⟩
    obtain ⟨g, ad, a, s, h, k, v, rfl, SS, I, q⟩ := h
    obtain ⟨dx, re, eo, mo, ras, mas, S⟩ := id SS
    refine ⟨_, rfl, a, dx, _, rfl, S.obj, ss_no (by decide +kernel), _, rfl, g, ad, a, s, k, rfl, SS, _, rfl, ?_⟩
    refine not_b _ (fun e => ?_) (fun e => ?_)
    · have hk : ¬ k < s.reps.length := of_decide_eq_false e
      exact ⟨by show 1 ≤ sizeLine; decide, refuse q SS (by simp only [Ses.step]; rw [if_pos (by omega)])⟩
    have hk : k < s.reps.length := of_decide_eq_true e
    refine ⟨_, rfl, _, _, rfl, rfl, _, rfl, ?_⟩
    by_cases e1 : (1000000000 : Int) < (v : Int)
    · exact if_true_of' (decide_eq_true e1) ⟨by show 1 ≤ sizeLine; decide, refuse q SS (by simp only [Ses.step]; rw [if_neg (by omega), if_pos (by omega)])⟩
    refine if_false_of' (decide_eq_false e1) ?_
    refine ⟨_, rfl, a, c.S, dx, _, _, rfl, S.obj, T.clS, T.s2, ss_events, eo, _, rfl, .inl (SqL.of S.evs), _, _, rfl, rfl, _, rfl, ?_⟩
    rw [refs_length]
    by_cases e2 : (60 : Int) ≤ (s.events.length : Int)
    · exact if_true_of' (decide_eq_true e2) ⟨by show 1 ≤ sizeLine; decide, refuse q SS (by simp only [Ses.step]; rw [if_neg (by omega), if_neg (by omega), if_pos (by omega)])⟩
    refine if_false_of' (decide_eq_false e2) ?_
    have h60 : ¬ 60 ≤ s.events.length := by omega
    have hkr : k < ras.length := by rw [S.rlen]; exact hk
    have hb : ras[k]? = some ras[k] := List.getElem?_eq_getElem hkr
    have RA := S.rep k _ hb
    obtain ⟨dr, pa, pp, pk, pv', ks, R⟩ := id RA
    have RI := I.rep k hk
    have hcr : at_ ((s.rep k).vec k) k = cr s.events k := by rw [RI.vec, created_le RI hk]
    have hnew : (⟨k, at_ ((s.rep k).vec k) k + 1, (s.rep k).vec k, v⟩ : Deed) ∉ s.events := fun z => by
      have h1 := (I.ev.le_cr z).2
      have h2 : at_ ((s.rep k).vec k) k + 1 ≤ cr s.events k := h1
      omega
    refine ⟨_, rfl, a, c.S, dx, _, _, rfl, S.obj, T.clS, T.s1, ss_replicas, _, rfl, re, _, _, _, rfl, rfl, SqL.of S.reps, atI_nat (by rw [List.getElem?_map, hb]; rfl), ?_⟩
    refine ⟨ras[k], dr, _, rfl, R.obj, rp_no (by decide +kernel), _, rfl, ?_⟩
    have a60 := RI.app60 I.ev
    refine ⟨g, ad, k, ras[k], s.rep k, v, rfl, RA, by rw [RI.kl k hk]; exact hk, by rw [RI.klen]; exact hk, by omega, fun x hx e => hnew (e ▸ RI.app x hx), fun x hx e => hnew (e ▸ RI.pen x hx), fun H1 g1 p hpN EV R1 K1 => ?_⟩
    have S1 := S.put I.closed hk hb R1 K1 fun d hd => adAt_ne fun e => hnew (e ▸ hd)
    obtain ⟨de, da, E1, E2, gE1, gE2⟩ := EV.ex
    refine ⟨_, rfl, a, c.S, dx, _, _, rfl, S1.obj, T.clS, T.s2, ss_events, .inl ⟨rfl, _, SqL.of S1.evs⟩, _, rfl, eo, _, _, rfl, rfl, S1.evs, ?_, ?_⟩
    · rw [refs_length]
      exact small1000 (by show s.events.length ≤ 1000; omega)
    have tgE : ∀ {y : Addr} {t : Tag}, g1 y = t → t ≠ .sE → y ≠ eo := fun h1 hn e => hn (by rw [← h1, e, S1.gE])
    have hpe : p ≠ eo := tgE gE1 (by simp)
    refine ⟨_, rfl, p, c.E, de, _, _, rfl, (upd_ne hpe).trans E1, T.clE, T.e2, ev_number, ?_⟩
    refine ⟨by show 1 ≤ sizeLine; decide, fun p2 hp2 => ?_⟩
    have KE : Kp (fun t => t = .sE) g1 H1 g1 (upd H1 eo (.lst (refs (adAt ad ⟨k, at_ ((s.rep k).vec k) k + 1, (s.rep k).vec k, v⟩ p) (s.put k ((s.rep k).app k ⟨k, at_ ((s.rep k).vec k) k + 1, (s.rep k).vec k, v⟩)).events ++ [.ref p]))) := Kp.put S1.gE
    refine q.end (g' := g1) (ad' := adAt ad ⟨k, at_ ((s.rep k).vec k) k + 1, (s.rep k).vec k, v⟩ p) ?_ ?_ hp2 ?_
    · simp only [Ses.step]
      rw [if_neg (by omega), if_neg (by omega), if_neg h60]
      refine ⟨dx, re, eo, mo, ras, mas, ?_⟩
      obtain ⟨b1, _⟩ := KE _ _ S1.obj (by rw [S1.gS]; simp)
      obtain ⟨b2, _⟩ := KE _ _ S1.reps (by rw [S1.gR]; simp)
      obtain ⟨b3, _⟩ := KE _ _ S1.msgs (by rw [S1.gM]; simp)
      refine ⟨b1, b2, S1.rlen, fun j b' hb' => (S1.rep j b' hb').kp KE fun t ht e => (by subst e; cases ht), ?_, fun d hd => ?_, b3, S1.mlen, fun i b' m hb' hm => (S1.msg i b' m hb' hm).kp KE (by simp), S1.gS, S1.gR, S1.gE, S1.gM⟩
      · refine upd_same.trans ?_
        show _ = some (HO.lst (refs _ (s.events ++ [_])))
        unfold refs
        rw [List.map_append]
        show _ = some (HO.lst (_ ++ [V.ref (adAt ad ⟨k, at_ ((s.rep k).vec k) k + 1, (s.rep k).vec k, v⟩ p ⟨k, at_ ((s.rep k).vec k) k + 1, (s.rep k).vec k, v⟩)]))
        rw [adAt_same]
        rfl
      · rcases List.mem_append.mp (show d ∈ s.events ++ [_] from hd) with z | z
        · exact (S1.ev d z).kp KE (by simp)
        · rw [List.mem_singleton.mp z, adAt_same]
          exact EV.kp KE (by simp)
    · refine (K1.mono fun t ht => ?_).trans (KE.mono fun t ht => ?_)
      · intro e
        have ht' : t.own = some k := ht
        rw [e] at ht'
        cases ht'
      · rw [ht]
        simp [TM]
    · simp only [Ses.step]
      rw [if_neg (by omega), if_neg (by omega), if_neg h60]
      rfl
end
end VD
end
section
set_option Elab.async false
set_option maxRecDepth 100000
set_option maxHeartbeats 2000000
namespace VD
open PySem PySem.Spec PyProof.Rows L2
open Sq32 (Deed Letter Counts at_ was may counts House)
section
variable {P : Program} {w : World} {K : PySem.W.Frag} {mg : Str → Option Value} {base : Heap} {c : Cl} {f : Addr} {fd : FuncData}
theorem sM_mono {t : Tag} (h : t = .sM) : TM t := by
  rw [h]
  intro e
  cases e
/-! ### send -/
def spSend (c : Cl) : Sp := fun vs H Q _ => ∃ (g : Tags) (ad : Deed → Addr) (a : Addr) (s : Ses) (h : House) (k j : Nat), vs = [.ref a, .int (k : Int), .int (j : Int)] ∧ SesAt c g ad H a s ∧ SInv s h ∧ Does c g H a s (.send k j) Q
theorem sc_send : FnScope ["self", "sender", "receiver", "events"] ["self", "sender", "receiver"] (defScope sSend) := ⟨rfl, rfl, rfl, by decide +kernel, rfl, by decide +kernel, by decide +kernel⟩
theorem ok_send (T : Txt K mg c) (F : Fun K "send" "Session.send" sSend f fd) (MC : Met P w K mg base 2 c.S "can_connect" (spCanConnect c)) (MH : Met P w K mg base 1 c.S "has_room_for_message" (spHasRoom c)) (MF : Met P w K mg base 1 c.R "events_for" (spFor c))
    (MA : Met P w K mg base 3 c.S "add_message" (spAddMessage c)) : FnOk P w K mg base CX0 4 f fd ["self", "sender", "receiver"] (spSend c) := by
  refine F.ok sc_send (fun vs H Q E h => ?_) (fun cdv A outer s H vs Q E hr h => ?_)
  · obtain ⟨_, _, _, _, _, _, _, rfl, _⟩ := h
    rfl
  · obtain ⟨t6, k6⟩ := T.k6
    obtain ⟨t8, k8⟩ := T.k8
    refine ⟨_, pss_cons (ps_if (pt_not (pt_val (pe_met T.clS MC hr (by decide) (pv 0) (pa_cons (pv 1) (pa_cons (pv 2) pa_nil))))) (pss_one (ps_ret (pe_lst (pa_cons (pe_glob (v := .int (-2)) rfl k6 ⟨_, rfl⟩) pa_nil)))) pss_nil)
      (pss_cons (ps_if (pt_not (pt_val (pe_met0 T.clS MH hr (by decide) (pv 0)))) (pss_one (ps_ret (pe_lst (pa_cons (pe_glob (v := .int (-5)) rfl k8 ⟨_, rfl⟩) pa_nil)))) pss_nil)
      (pss_cons (ps_set (i := 3) sc_send.nd rfl (Or.inl rfl) (pe_met T.clR MF hr (by decide) (pe_ix ix_list (pe_fld (pv 0) rfl) (pv 1) (fun _ _ => rfl)) (pa_cons (pv 2) pa_nil)))
      (pss_one (ps_ret (pe_lst (pa_cons (pe_met T.clS MA hr (by decide) (pv 0) (pa_cons (pv 1) (pa_cons (pv 2) (pa_cons (pv 3) pa_nil)))) (pa_cons (pe_callB call_len_seq (by rfl) T.len PySem.boot_len (pa_cons (pv 3) pa_nil)) pa_nil))))))), ?_⟩
    obtain ⟨g, ad, a, s, h, k, j, rfl, SS, I, q⟩ := h
    obtain ⟨dx, re, eo, mo, ras, mas, S⟩ := id SS
    refine ⟨_, rfl, a, dx, _, rfl, S.obj, ss_no (by decide +kernel), _, rfl, _, rfl, g, ad, a, s, k, j, rfl, SS, _, rfl, ?_⟩
    refine not_b _ (fun e => ?_) (fun e => ?_)
    · have hk : ¬ (k < s.reps.length ∧ j < s.reps.length ∧ k ≠ j) := of_decide_eq_false e
      exact ⟨by show 1 ≤ sizeLine; decide, refuse q SS (by simp only [Ses.step]; rw [if_pos (by omega)])⟩
    obtain ⟨hk, hj, hne⟩ : k < s.reps.length ∧ j < s.reps.length ∧ k ≠ j := of_decide_eq_true e
    refine ⟨_, rfl, a, dx, _, rfl, S.obj, ss_no (by decide +kernel), g, ad, a, s, rfl, SS, _, rfl, ?_⟩
    refine not_b _ (fun e => ?_) (fun e => ?_)
    · have hm : ¬ s.msgs.length < 200 := of_decide_eq_false e
      exact ⟨by show 1 ≤ sizeLine; decide, refuse q SS (by simp only [Ses.step]; rw [if_neg (by omega), if_pos (by omega)])⟩
    have hm : s.msgs.length < 200 := of_decide_eq_true e
    have hkr : k < ras.length := by rw [S.rlen]; exact hk
    have hb : ras[k]? = some ras[k] := List.getElem?_eq_getElem hkr
    have RA := S.rep k _ hb
    obtain ⟨dr, pa, pp, pk, pv', ks, R⟩ := id RA
    have RI := I.rep k hk
    have a60 := RI.app60 I.ev
    refine ⟨_, rfl, a, c.S, dx, _, _, rfl, S.obj, T.clS, T.s1, ss_replicas, _, rfl, re, _, _, _, rfl, rfl, SqL.of S.reps, atI_nat (by rw [List.getElem?_map, hb]; rfl), ?_⟩
    refine ⟨ras[k], dr, _, rfl, R.obj, rp_no (by decide +kernel), _, rfl, ?_⟩
    refine ⟨g, ad, k, j, ras[k], s.rep k, rfl, RA, by rw [RI.klen]; exact hj, by omega, fun d hd => ⟨S.ev d (RI.app d hd), by rw [RI.kl j hj]; exact I.ev.desk d (RI.app d hd)⟩, fun H1 u hu h1 s1 => ?_⟩
    have K1 : Kp T0 g H (tagAt g u .fix) H1 := fun b o hb _ => ⟨s1 b o hb, tagAt_ne (ne_of_none hb hu)⟩
    have S1 := S.kp K1 fun _ _ z => z
    refine ⟨_, rfl, a, dx, _, rfl, S1.obj, ss_no (by decide +kernel), _, rfl, _, rfl, _, rfl, ?_⟩
    refine ⟨tagAt g u .fix, ad, a, u, s, k, j, (s.rep k).forOther j, rfl, ⟨_, _, _, _, _, _, S1⟩, hk, by rw [RI.klen]; exact hk, by omega, h1, tagAt_same, fun H2 g2 S2 K2 => ?_⟩
    have h2 := (K2 u _ h1 (by rw [tagAt_same]; simp)).1
    refine ⟨_, rfl, u, _, rfl, .inl (SqL.of h2), by show 2 ≤ sizeLine; decide, fun p hp => ?_⟩
    refine q.end (g' := g2) (ad' := ad) ?_ ((Kp.of0 K1).trans (K2.mono fun t ht => sM_mono ht)) hp ?_
    · simp only [Ses.step]
      rw [if_neg (by omega), if_neg (by omega)]
      exact S2
    · simp only [Ses.step]
      rw [if_neg (by omega), if_neg (by omega), refs_length]
      rfl
/-! ### send_one -/
def spSendOne (c : Cl) : Sp := fun vs H Q _ => ∃ (g : Tags) (ad : Deed → Addr) (a : Addr) (s : Ses) (h : House) (k j d n : Nat), vs = [.ref a, .int (k : Int), .int (j : Int), .int (d : Int), .int (n : Int)] ∧ SesAt c g ad H a s ∧ SInv s h ∧ Does c g H a s (.post k j d n) Q
theorem sc_sendOne : FnScope ["self", "sender", "receiver", "origin", "number", "event"] ["self", "sender", "receiver", "origin", "number"] (defScope sSendOne) := ⟨rfl, rfl, rfl, by decide +kernel, rfl, by decide +kernel, by decide +kernel⟩
theorem ok_sendOne (T : Txt K mg c) (F : Fun K "send_one" "Session.send_one" sSendOne f fd) (MC : Met P w K mg base 2 c.S "can_connect" (spCanConnect c)) (MH : Met P w K mg base 1 c.S "has_room_for_message" (spHasRoom c)) (ME : Cal P w K mg base 1 "find_event" (spFE c))
    (MA : Met P w K mg base 3 c.S "add_message" (spAddMessage c)) : FnOk P w K mg base CX0 4 f fd ["self", "sender", "receiver", "origin", "number"] (spSendOne c) := by
  refine F.ok sc_sendOne (fun vs H Q E h => ?_) (fun cdv A outer s H vs Q E hr h => ?_)
  · obtain ⟨_, _, _, _, _, _, _, _, _, rfl, _⟩ := h
    rfl
  · obtain ⟨t6, k6⟩ := T.k6
    obtain ⟨t7, k7⟩ := T.k7
    obtain ⟨t8, k8⟩ := T.k8
    refine ⟨_, pss_cons (ps_if (pt_not (pt_val (pe_met T.clS MC hr (by decide) (pv 0) (pa_cons (pv 1) (pa_cons (pv 2) pa_nil))))) (pss_one (ps_ret (pe_lst (pa_cons (pe_glob (v := .int (-2)) rfl k6 ⟨_, rfl⟩) pa_nil)))) pss_nil)
      (pss_cons (ps_set (i := 5) sc_sendOne.nd rfl (Or.inl rfl) (pe_cal ME hr (by decide) rfl (pa_cons (pe_fld (pe_ix ix_list (pe_fld (pv 0) rfl) (pv 1) (fun _ _ => rfl)) rfl) (pa_cons (pv 3) (pa_cons (pv 4) pa_nil)))))
      (pss_cons (ps_if (pt_cmpR op_isN (pv 5) pe_non (nomark _)) (pss_one (ps_ret (pe_lst (pa_cons (pe_glob (v := .int (-3)) rfl k7 ⟨_, rfl⟩) pa_nil)))) pss_nil)
      (pss_cons (ps_if (pt_not (pt_val (pe_met0 T.clS MH hr (by decide) (pv 0)))) (pss_one (ps_ret (pe_lst (pa_cons (pe_glob (v := .int (-5)) rfl k8 ⟨_, rfl⟩) pa_nil)))) pss_nil)
      (pss_one (ps_ret (pe_lst (pa_cons (pe_met T.clS MA hr (by decide) (pv 0) (pa_cons (pv 1) (pa_cons (pv 2) (pa_cons (pe_lst (pa_cons (pv 5) pa_nil)) pa_nil)))) pa_nil))))))), ?_⟩
    obtain ⟨g, ad, a, s, h, k, j, d, n, rfl, SS, I, q⟩ := h
    obtain ⟨dx, re, eo, mo, ras, mas, S⟩ := id SS
    refine ⟨_, rfl, a, dx, _, rfl, S.obj, ss_no (by decide +kernel), _, rfl, _, rfl, g, ad, a, s, k, j, rfl, SS, _, rfl, ?_⟩
    refine not_b _ (fun e => ?_) (fun e => ?_)
    · have hk : ¬ (k < s.reps.length ∧ j < s.reps.length ∧ k ≠ j) := of_decide_eq_false e
      exact ⟨by show 1 ≤ sizeLine; decide, refuse q SS (by simp only [Ses.step]; rw [if_pos (by omega)])⟩
    obtain ⟨hk, hj, hne⟩ : k < s.reps.length ∧ j < s.reps.length ∧ k ≠ j := of_decide_eq_true e
    have hkr : k < ras.length := by rw [S.rlen]; exact hk
    have hb : ras[k]? = some ras[k] := List.getElem?_eq_getElem hkr
    have RA := S.rep k _ hb
    obtain ⟨dr, pa, pp, pk, pv', ks, R⟩ := id RA
    have RI := I.rep k hk
    refine ⟨_, rfl, a, c.S, dx, _, _, rfl, S.obj, T.clS, T.s1, ss_replicas, _, rfl, re, _, _, _, rfl, rfl, SqL.of S.reps, atI_nat (by rw [List.getElem?_map, hb]; rfl), ?_⟩
    refine ⟨ras[k], c.R, dr, _, _, rfl, R.obj, T.clR, T.r2, rp_applied, _, rfl, _, rfl, ?_⟩
    refine ⟨g, ad, pa, (s.rep k).applied, d, n, rfl, R.app, fun x hx => S.ev x (RI.app x hx), ?_⟩
    have ng : ¬ (s.reps.length ≤ k ∨ s.reps.length ≤ j ∨ k = j) := by omega
    cases hf : (s.rep k).applied.find? (fun e => e.desk == d && e.n == n) with
    | none =>
      refine ⟨_, rfl, rfl, _, rfl, ?_⟩
      refine if_true_of' (decide_eq_true rfl) ⟨by show 1 ≤ sizeLine; decide, refuse q SS ?_⟩
      simp only [Ses.step]
      rw [if_neg ng, hf]
    | some x =>
      refine ⟨_, rfl, rfl, _, rfl, ?_⟩
      refine if_false_of' (decide_eq_false (by intro z; cases z)) ?_
      refine ⟨_, rfl, a, dx, _, rfl, S.obj, ss_no (by decide +kernel), g, ad, a, s, rfl, SS, _, rfl, ?_⟩
      refine not_b _ (fun e => ?_) (fun e => ?_)
      · have hm : ¬ s.msgs.length < 200 := of_decide_eq_false e
        refine ⟨by show 1 ≤ sizeLine; decide, refuse q SS ?_⟩
        simp only [Ses.step]
        rw [if_neg ng, hf]
        dsimp only
        rw [if_pos (by omega)]
      have hm : s.msgs.length < 200 := of_decide_eq_true e
      refine ⟨_, rfl, a, dx, _, rfl, S.obj, ss_no (by decide +kernel), _, rfl, _, rfl, _, rfl, by show 1 ≤ sizeLine; decide, fun u hu => ?_⟩
      have K1 : Kp T0 g H (tagAt g u .fix) (upd H u (.lst [.ref (ad x)])) := Kp.new hu
      have S1 := S.kp K1 fun _ _ z => z
      refine ⟨tagAt g u .fix, ad, a, u, s, k, j, [x], rfl, ⟨_, _, _, _, _, _, S1⟩, hk, by rw [RI.klen]; exact hk, by omega, upd_same, tagAt_same, fun H2 g2 S2 K2 => ?_⟩
      refine ⟨by show 1 ≤ sizeLine; decide, fun p hp => ?_⟩
      have est : s.step (.post k j d n) = ({ s with msgs := s.msgs ++ [⟨k, j, (s.rep k).vec k, [x]⟩] }, [(s.msgs.length : Int)]) := by
        simp only [Ses.step]
        rw [if_neg ng, hf]
        dsimp only
        rw [if_neg (by omega)]
      refine q.end (g' := g2) (ad' := ad) ?_ ((Kp.of0 K1).trans (K2.mono fun t ht => sM_mono ht)) hp ?_
      · rw [est]
        exact S2
      · rw [est]
        rfl
end
end VD
end
section
set_option Elab.async false
set_option maxRecDepth 100000
set_option maxHeartbeats 2000000
namespace VD
open PySem PySem.Spec PyProof.Rows L2
open Sq32 (Deed Letter Counts at_ was may counts House)
theorem receive_facts {s : Ses} {h : House} (I : SInv s h) {m : Letter} (hm : m ∈ s.msgs) :
    RunInv s.reps.length m.to s.events ((s.rep m.to).arrive m.deeds) ∧ ((s.rep m.to).receive m.to m.deeds).known.length = s.reps.length ∧ (((s.rep m.to).receive m.to m.deeds).vec m.from_).length = m.has.length := by
  have M := I.msg m hm
  have R := I.rep m.to M.to
  obtain ⟨a1, a2, a3⟩ := R.arrive I.ev M.deeds
  obtain ⟨b1, b2, b3, b4, b5⟩ := run_ok I.ev M.to ((s.rep m.to).arrive m.deeds).pending.length _ a3
  refine ⟨a3, b1.klen, ?_⟩
  show ((Rep.run m.to _ _).vec m.from_).length = _
  rw [b4 m.from_ M.ne, M.has]
  exact R.kl m.from_ M.from_
section
variable {P : Program} {w : World} {K : PySem.W.Frag} {mg : Str → Option Value} {base : Heap} {c : Cl} {f : Addr} {fd : FuncData}
/-! ### deliver -/
def spDeliver (c : Cl) : Sp := fun vs H Q _ => ∃ (g : Tags) (ad : Deed → Addr) (a : Addr) (s : Ses) (h : House) (i : Nat), vs = [.ref a, .int (i : Int)] ∧ SesAt c g ad H a s ∧ SInv s h ∧ Does c g H a s (.comes i) Q
theorem sc_deliver : FnScope ["self", "number", "message", "receiver", "applied_count"] ["self", "number"] (defScope sDeliver) := ⟨rfl, rfl, rfl, by decide +kernel, rfl, by decide +kernel, by decide +kernel⟩
theorem ok_deliver (T : Txt K mg c) (F : Fun K "deliver" "Session.deliver" sDeliver f fd) (MHM : Met P w K mg base 1 c.S "has_message" (spHasMessage c)) (MR : Met P w K mg base 3 c.R "receive" (spReceive c)) (ML : Met P w K mg base 1 c.R "learn" (spLearn c)) : FnOk P w K mg base CX0 4 f fd ["self", "number"] (spDeliver c) := by
  refine F.ok sc_deliver (fun vs H Q E h => ?_) (fun cdv A outer s H vs Q E hr h => ?_)
  · obtain ⟨_, _, _, _, _, _, rfl, _⟩ := h
    rfl
  · obtain ⟨t6, k6⟩ := T.k6
    refine ⟨_, pss_cons (ps_if (pt_not (pt_val (pe_met T.clS MHM hr (by decide) (pv 0) (pa_cons (pv 1) pa_nil)))) (pss_one (ps_ret (pe_lst (pa_cons (pe_glob (v := .int (-2)) rfl k6 ⟨_, rfl⟩) pa_nil)))) pss_nil)
      (pss_cons (ps_set (i := 2) sc_deliver.nd rfl (Or.inl rfl) (pe_ix ix_list (pe_fld (pv 0) rfl) (pv 1) (fun _ _ => rfl)))
      (pss_cons (ps_set (i := 3) sc_deliver.nd rfl (Or.inl rfl) (pe_ix ix_list (pe_fld (pv 0) rfl) (pe_fld (pv 2) rfl) (fun _ _ => rfl)))
      (pss_cons (ps_set (i := 4) sc_deliver.nd rfl (Or.inl rfl) (pe_met T.clR MR hr (by decide) (pv 3) (pa_cons (pe_fld (pv 2) rfl) pa_nil)))
      (pss_cons (ps_expr (pe_met T.clR ML hr (by decide) (pv 3) (pa_cons (pe_fld (pv 2) rfl) (pa_cons (pe_fld (pv 2) rfl) pa_nil))))
      (pss_one (ps_ret (pe_lst (pa_cons (pv 4) (pa_cons (pe_callB call_len_seq (by rfl) T.len PySem.boot_len (pa_cons (pe_fld (pv 3) rfl) pa_nil)) pa_nil))))))))), ?_⟩
    obtain ⟨g, ad, a, s, h, i, rfl, SS, I, q⟩ := h
    obtain ⟨dx, re, eo, mo, ras, mas, S⟩ := id SS
    refine ⟨_, rfl, a, dx, _, rfl, S.obj, ss_no (by decide +kernel), _, rfl, g, ad, a, s, i, rfl, SS, _, rfl, ?_⟩
    refine not_b _ (fun e => ?_) (fun e => ?_)
    · have hi : ¬ i < s.msgs.length := of_decide_eq_false e
      refine ⟨by show 1 ≤ sizeLine; decide, refuse q SS ?_⟩
      simp only [Ses.step]
      rw [List.getElem?_eq_none (by omega)]
    have hi : i < s.msgs.length := of_decide_eq_true e
    have him : i < mas.length := by rw [S.mlen]; exact hi
    have hmi : s.msgs[i]? = some s.msgs[i] := List.getElem?_eq_getElem hi
    have hbi : mas[i]? = some mas[i] := List.getElem?_eq_getElem him
    generalize hm0 : s.msgs[i] = m at hmi
    have hm : m ∈ s.msgs := List.mem_of_getElem? hmi
    obtain ⟨dm, pv0, pe0, M1, M2, M3, gM1, gM2, gM3⟩ := (S.msg i _ m hbi hmi).ex
    have MI := I.msg m hm
    have RI := I.rep m.to MI.to
    obtain ⟨RUN, klen, vlen⟩ := receive_facts I hm
    refine ⟨_, rfl, a, c.S, dx, _, _, rfl, S.obj, T.clS, T.s3, ss_messages, _, rfl, mo, _, _, _, rfl, rfl, SqL.of S.msgs, atI_nat (by rw [List.getElem?_map, hbi]; rfl), ?_⟩
    have hkr : m.to < ras.length := by rw [S.rlen]; exact MI.to
    have hb : ras[m.to]? = some ras[m.to] := List.getElem?_eq_getElem hkr
    have RA := S.rep m.to _ hb
    obtain ⟨dr, pa, pp, pk, pv', ks, R⟩ := id RA
    refine ⟨_, rfl, a, c.S, dx, _, _, rfl, S.obj, T.clS, T.s1, ss_replicas, _, rfl, mas[i], c.M, dm, _, _, rfl, M1, T.clM, T.m2, ms_receiver, re, _, _, _, rfl, rfl, SqL.of S.reps, atI_nat (by rw [List.getElem?_map, hb]; rfl), ?_⟩
    refine ⟨_, rfl, ras[m.to], dr, _, rfl, R.obj, rp_no (by decide +kernel), _, rfl, mas[i], c.M, dm, _, _, rfl, M1, T.clM, T.m4, ms_events, ?_⟩
    refine ⟨g, ad, m.to, s.reps.length, ras[m.to], pe0, s.rep m.to, m.deeds, s.events, rfl, RA, M3, gM3, I.ev, MI.to, I.le6, RUN, S.ev, MI.deeds, RI.pen, RI.pen60 I.ev, MI.most, fun H1 g1 R1 K1 => ?_⟩
    have c1 := K1 _ _ M1 (by rw [gM1]; exact fix_no)
    have c2 := K1 _ _ M2 (by rw [gM2]; exact fix_no)
    obtain ⟨dr1, pa1, pp1, pk1, pv1, ks1, R1i⟩ := id R1
    refine ⟨_, rfl, ras[m.to], dr1, _, rfl, R1i.obj, rp_no (by decide +kernel), _, rfl, mas[i], c.M, dm, _, _, rfl, c1.1, T.clM, T.m1, ms_sender, _, rfl, mas[i], c.M, dm, _, _, rfl, c1.1, T.clM, T.m3, ms_vector, ?_⟩
    refine ⟨g1, ad, m.to, m.from_, ras[m.to], pv0, (s.rep m.to).receive m.to m.deeds, m.has, rfl, R1, c2.1, by rw [klen]; exact MI.from_, MI.ne, vlen, by have := I.le6; have := MI.has; omega, fun H2 g2 R2 K2 => ?_⟩
    obtain ⟨dr2, pa2, pp2, pk2, pv2, ks2, R2i⟩ := id R2
    refine ⟨_, rfl, _, rfl, ras[m.to], c.R, dr2, _, _, rfl, R2i.obj, T.clR, T.r3, rp_pending, pp2, _, rfl, .inl (SqL.of R2i.pen), by show 2 ≤ sizeLine; decide, fun p hp => ?_⟩
    have S2 := S.put I.closed MI.to hb R2 (K1.trans K2) fun _ _ => rfl
    have est : s.step (.comes i) = (s.put m.to (((s.rep m.to).receive m.to m.deeds).learn m.from_ m.has), [(((s.rep m.to).receive m.to m.deeds).applied.length : Int) - ((s.rep m.to).applied.length : Int), ((((s.rep m.to).receive m.to m.deeds).learn m.from_ m.has).pending.length : Int)]) := by
      simp only [Ses.step]
      rw [hmi]
    refine q.end (g' := g2) (ad' := ad) ?_ ((K1.trans K2).mono fun t ht => ?_) hp ?_
    · rw [est]
      exact ⟨_, _, _, _, _, _, S2⟩
    · intro e
      have ht' : t.own = some m.to := ht
      rw [e] at ht'
      cases ht'
    · rw [est, refs_length]
      rfl
/-! ### questions -/
theorem Does.ask {g : Tags} {ad : Deed → Addr} {H H' : Hp} {a p : Addr} {s : Ses} {cl : Sq32.Call} {Q : VK} {l : List Int} (q : Does c g H a s cl Q) (S : SesAt c g ad H a s) (e : s.step cl = (s, l)) (sm : Same H H') (hp : H p = none) (h : H' p = some (.lst (nts l))) : Q (.ref p) H' := by
  have KA : Kp T0 g H (tagAt g p .ans) H' := fun b o hb _ => ⟨sm b o hb, tagAt_ne (ne_of_none hb hp)⟩
  refine q H' (tagAt g p .ans) ad p ?_ ?_ tagAt_same (Kp.of0 KA)
  · rw [e]
    obtain ⟨_, _, _, _, _, _, S⟩ := S
    exact ⟨_, _, _, _, _, _, S.kp KA fun _ _ z => z⟩
  · rw [e]
    exact h
def three (l : List Deed) : List V := l.flatMap fun d => [.int (d.desk : Int), .int (d.n : Int), .int (d.says : Int)]
theorem three_len (l : List Deed) : (three l).length = 3 * l.length := by
  unfold three
  induction l with
  | nil => rfl
  | cons d l ih =>
    rw [List.flatMap_cons, List.length_append, ih]
    simp only [List.length_cons, List.length_nil]
    omega
theorem three_more {l : List Deed} {i : Nat} {d : Deed} (hd : l[i]? = some d) : three (l.take (i + 1)) = three (l.take i) ++ [.int (d.desk : Int), .int (d.n : Int), .int (d.says : Int)] := by
  unfold three
  rw [take_snoc hd, List.flatMap_append]
  simp
theorem nts_told (l : List Deed) : nts (toldP l) = .int (l.length : Int) :: three l := by
  unfold nts toldP three Sq32.ints
  rw [List.map_cons]
  congr 1
  induction l with
  | nil => rfl
  | cons d l ih =>
    rw [List.flatMap_cons, List.flatMap_cons, List.map_append, List.map_append, ih]
    rfl
/-! ### list_events -/
def spLE (c : Cl) : Sp := fun vs H Q _ => ∃ (g : Tags) (ad : Deed → Addr) (pa : Addr) (l : List Deed), vs = [.ref pa] ∧ H pa = some (.lst (refs ad l)) ∧ (∀ d ∈ l, EvAt c g H (ad d) d) ∧ l.length ≤ 1000 ∧
  ∀ H' p, H p = none → H' p = some (.lst (nts (toldP l))) → Same H H' → Q (.ref p) H'
theorem sc_le : FnScope ["events", "answer", "event"] ["events"] (defScope sListEvents) := ⟨rfl, rfl, rfl, by decide +kernel, rfl, by decide +kernel, by decide +kernel⟩
theorem ok_le (T : Txt K mg c) (F : Fun K "list_events" "list_events" sListEvents f fd) : FnOk P w K mg base CX0 1 f fd ["events"] (spLE c) := by
  refine F.ok sc_le (fun vs H Q E h => ?_) (fun cdv A outer s H vs Q E hr h => ?_)
  · obtain ⟨_, _, _, _, rfl, _⟩ := h
    rfl
  · refine ⟨_, pss_cons (ps_set (i := 1) sc_le.nd rfl (Or.inl rfl) (pe_lst (pa_cons (pe_callB call_len_seq (by rfl) T.len PySem.boot_len (pa_cons (pv 0) pa_nil)) pa_nil)))
      (pss_cons (ps_for PassesOwn.never rfl (pi_list (pv 0)) (pg_name (i := 2) sc_le.nd rfl (Or.inl rfl))
        (pss_one (ps_expr (pe_bm PySem.F.plainAttrs_list PySem.F.slot_list_extend PySem.F.type_list_extend mt_extend (pv 1) (pa_cons (pe_lst (pa_cons (pe_fld (pv 2) rfl) (pa_cons (pe_fld (pv 2) rfl) (pa_cons (pe_fld (pv 2) rfl) pa_nil)))) pa_nil)))))
      (pss_one (ps_ret (pv 1)))), ?_⟩
    obtain ⟨g, ad, pa, l, rfl, hpa, hE, hl, q⟩ := h
    refine ⟨_, rfl, pa, _, rfl, .inl (SqL.of hpa), by show 1 ≤ sizeLine; decide, fun p hp => ?_⟩
    rw [refs_length]
    have R0 : upd H p (.lst [.int (l.length : Int)]) pa = some (.lst (refs ad l)) := (upd_ne (ne_of_none hpa hp)).trans hpa
    refine ⟨_, rfl, pa, rfl, ⟨_, SqL.of R0⟩, ?_⟩
    refine for_list (K := K) (a := pa) (xs := refs ad l) (fun i σ H' => ∃ v, σ = [some (.ref pa), some (.ref p), v] ∧ Same H H' ∧ H' p = some (.lst (.int (l.length : Int) :: three (l.take i))))
      ⟨none, rfl, same_new hp, by rw [List.take_zero]; exact upd_same⟩ (fun i σ H' _ ⟨_, _, e, _⟩ => SqL.of (e _ _ hpa)) ?_ ?_
    · rintro i x σ H' hx ⟨v, rfl, sm, h0⟩
      obtain ⟨d, hd, rfl⟩ := refs_at hx
      obtain ⟨de, da, E1, _⟩ := ((hE d (List.mem_of_getElem? hd)).same sm).ex
      refine ⟨_, rfl, .inl ⟨rfl, _, SqL.of h0⟩, _, rfl, ad d, c.E, de, _, _, rfl, E1, T.clE, T.e1, ev_origin, _, rfl, ad d, c.E, de, _, _, rfl, E1, T.clE, T.e2, ev_number, _, rfl, ad d, c.E, de, _, _, rfl, E1, T.clE, T.e3, ev_value, by show 3 ≤ sizeLine; decide, fun z hz => ?_⟩
      have npz : p ≠ z := ne_of_none h0 hz
      refine ⟨p, z, _, _, rfl, rfl, (upd_ne npz).trans h0, upd_same, ?_, ?_⟩
      · show (three (l.take i)).length + 1 + 3 ≤ sizeLine
        rw [three_len]
        have := List.length_take_le' i l
        have line : sizeLine = 16777216 := by decide
        omega
      · refine ⟨_, rfl, fun b o hb => ?_, ?_⟩
        · have := sm b o hb
          rw [upd_ne (ne_of_none hb hp), upd_ne (ne_of_none this hz)]
          exact this
        · refine upd_same.trans ?_
          rw [three_more hd]
          rfl
    · rintro σ H' ⟨v, rfl, sm, h0⟩
      rw [refs_length, List.take_length] at h0
      exact ⟨_, rfl, q H' p hp (by rw [nts_told]; exact h0) sm⟩
/-! ### list_applied -/
def spListApplied (c : Cl) : Sp := fun vs H Q _ => ∃ (g : Tags) (ad : Deed → Addr) (a : Addr) (s : Ses) (h : House) (k : Nat), vs = [.ref a, .int (k : Int)] ∧ SesAt c g ad H a s ∧ SInv s h ∧ Does c g H a s (.taken k) Q
theorem sc_ListApplied : FnScope ["self", "replica"] ["self", "replica"] (defScope sListApplied) := ⟨rfl, rfl, rfl, by decide +kernel, rfl, by decide +kernel, by decide +kernel⟩
theorem ok_ListApplied (T : Txt K mg c) (F : Fun K "list_applied" "Session.list_applied" sListApplied f fd) (MH : Met P w K mg base 1 c.S "has_replica" (spHasReplica c)) (ML : Cal P w K mg base 1 "list_events" (spLE c)) : FnOk P w K mg base CX0 2 f fd ["self", "replica"] (spListApplied c) := by
  refine F.ok sc_ListApplied (fun vs H Q E h => ?_) (fun cdv A outer s H vs Q E hr h => ?_)
  · obtain ⟨_, _, _, _, _, _, rfl, _⟩ := h
    rfl
  · obtain ⟨t6, k6⟩ := T.k6
    refine ⟨_, pss_cons (ps_if (pt_not (pt_val (pe_met T.clS MH hr (by decide) (pv 0) (pa_cons (pv 1) pa_nil)))) (pss_one (ps_ret (pe_lst (pa_cons (pe_glob (v := .int (-2)) rfl k6 ⟨_, rfl⟩) pa_nil)))) pss_nil)
      (pss_one (ps_ret (pe_cal ML hr (by decide) rfl (pa_cons (pe_fld (pe_ix ix_list (pe_fld (pv 0) rfl) (pv 1) (fun _ _ => rfl)) rfl) pa_nil)))), ?_⟩
    obtain ⟨g, ad, a, s, h, k, rfl, SS, I, q⟩ := h
    obtain ⟨dx, re, eo, mo, ras, mas, S⟩ := id SS
    refine ⟨_, rfl, a, dx, _, rfl, S.obj, ss_no (by decide +kernel), _, rfl, g, ad, a, s, k, rfl, SS, _, rfl, ?_⟩
    refine not_b _ (fun e => ?_) (fun e => ?_)
    · have hk : ¬ k < s.reps.length := of_decide_eq_false e
      exact ⟨by show 1 ≤ sizeLine; decide, refuse q SS (by simp only [Ses.step]; rw [if_pos (by omega)])⟩
    have hk : k < s.reps.length := of_decide_eq_true e
    have hkr : k < ras.length := by rw [S.rlen]; exact hk
    have hb : ras[k]? = some ras[k] := List.getElem?_eq_getElem hkr
    obtain ⟨dr, pa, pp, pk, pv', ks, R⟩ := S.rep k _ hb
    have RI := I.rep k hk
    have a60 := RI.app60 I.ev
    refine ⟨_, rfl, a, c.S, dx, _, _, rfl, S.obj, T.clS, T.s1, ss_replicas, _, rfl, re, _, _, _, rfl, rfl, SqL.of S.reps, atI_nat (by rw [List.getElem?_map, hb]; rfl), ?_⟩
    refine ⟨ras[k], c.R, dr, _, _, rfl, R.obj, T.clR, T.r2, rp_applied, ?_⟩
    refine ⟨g, ad, pa, (s.rep k).applied, rfl, R.app, fun d hd => S.ev d (RI.app d hd), by omega, fun H1 p hp h1 s1 => ?_⟩
    exact q.ask SS (by simp only [Ses.step]; rw [if_neg (by omega)]) s1 hp h1
/-! ### list_pending -/
def spListPending (c : Cl) : Sp := fun vs H Q _ => ∃ (g : Tags) (ad : Deed → Addr) (a : Addr) (s : Ses) (h : House) (k : Nat), vs = [.ref a, .int (k : Int)] ∧ SesAt c g ad H a s ∧ SInv s h ∧ Does c g H a s (.waits k) Q
theorem sc_ListPending : FnScope ["self", "replica"] ["self", "replica"] (defScope sListPending) := ⟨rfl, rfl, rfl, by decide +kernel, rfl, by decide +kernel, by decide +kernel⟩
theorem ok_ListPending (T : Txt K mg c) (F : Fun K "list_pending" "Session.list_pending" sListPending f fd) (MH : Met P w K mg base 1 c.S "has_replica" (spHasReplica c)) (ML : Cal P w K mg base 1 "list_events" (spLE c)) : FnOk P w K mg base CX0 2 f fd ["self", "replica"] (spListPending c) := by
  refine F.ok sc_ListPending (fun vs H Q E h => ?_) (fun cdv A outer s H vs Q E hr h => ?_)
  · obtain ⟨_, _, _, _, _, _, rfl, _⟩ := h
    rfl
  · obtain ⟨t6, k6⟩ := T.k6
    refine ⟨_, pss_cons (ps_if (pt_not (pt_val (pe_met T.clS MH hr (by decide) (pv 0) (pa_cons (pv 1) pa_nil)))) (pss_one (ps_ret (pe_lst (pa_cons (pe_glob (v := .int (-2)) rfl k6 ⟨_, rfl⟩) pa_nil)))) pss_nil)
      (pss_one (ps_ret (pe_cal ML hr (by decide) rfl (pa_cons (pe_fld (pe_ix ix_list (pe_fld (pv 0) rfl) (pv 1) (fun _ _ => rfl)) rfl) pa_nil)))), ?_⟩
    obtain ⟨g, ad, a, s, h, k, rfl, SS, I, q⟩ := h
    obtain ⟨dx, re, eo, mo, ras, mas, S⟩ := id SS
    refine ⟨_, rfl, a, dx, _, rfl, S.obj, ss_no (by decide +kernel), _, rfl, g, ad, a, s, k, rfl, SS, _, rfl, ?_⟩
    refine not_b _ (fun e => ?_) (fun e => ?_)
    · have hk : ¬ k < s.reps.length := of_decide_eq_false e
      exact ⟨by show 1 ≤ sizeLine; decide, refuse q SS (by simp only [Ses.step]; rw [if_pos (by omega)])⟩
    have hk : k < s.reps.length := of_decide_eq_true e
    have hkr : k < ras.length := by rw [S.rlen]; exact hk
    have hb : ras[k]? = some ras[k] := List.getElem?_eq_getElem hkr
    obtain ⟨dr, pa, pp, pk, pv', ks, R⟩ := S.rep k _ hb
    have RI := I.rep k hk
    have a60 := RI.pen60 I.ev
    refine ⟨_, rfl, a, c.S, dx, _, _, rfl, S.obj, T.clS, T.s1, ss_replicas, _, rfl, re, _, _, _, rfl, rfl, SqL.of S.reps, atI_nat (by rw [List.getElem?_map, hb]; rfl), ?_⟩
    refine ⟨ras[k], c.R, dr, _, _, rfl, R.obj, T.clR, T.r3, rp_pending, ?_⟩
    refine ⟨g, ad, pp, (s.rep k).pending, rfl, R.pen, fun d hd => S.ev d (RI.pen d hd), by omega, fun H1 p hp h1 s1 => ?_⟩
    exact q.ask SS (by simp only [Ses.step]; rw [if_neg (by omega)]) s1 hp h1
end
end VD
end
section
set_option Elab.async false
set_option maxRecDepth 100000
set_option maxHeartbeats 2000000
namespace VD
open PySem PySem.Spec PyProof.Rows L2
open Sq32 (Deed Letter Counts at_ was may counts House)
/-! ### the least of the known -/
theorem fold_mins {n : Nat} : ∀ (l : List Counts) (c : Counts), c.length = n → (∀ x ∈ l, x.length = n) → (l.foldl mins c).length = n ∧
    ∀ i, i < n → (at_ (l.foldl mins c) i = at_ c i ∨ ∃ x ∈ l, at_ (l.foldl mins c) i = at_ x i) ∧ at_ (l.foldl mins c) i ≤ at_ c i ∧ ∀ x ∈ l, at_ (l.foldl mins c) i ≤ at_ x i
  | [], c, hc, _ => ⟨hc, fun i _ => ⟨.inl rfl, Nat.le_refl _, fun _ h => (nomatch h)⟩⟩
  | x :: l, c, hc, hl => by
    have hx := hl x List.mem_cons_self
    have hcx : c.length = x.length := by rw [hc, hx]
    obtain ⟨h1, h2⟩ := fold_mins l (mins c x) ((mins_length hcx).trans hc) fun y hy => hl y (List.mem_cons_of_mem _ hy)
    rw [List.foldl_cons]
    refine ⟨h1, fun i hi => ?_⟩
    obtain ⟨a1, a2, a3⟩ := h2 i hi
    have e := at_mins hcx (i := i) (by omega)
    rw [e] at a1 a2
    refine ⟨?_, by omega, fun y hy => ?_⟩
    · rcases a1 with a1 | ⟨y, hy, a1⟩
      · by_cases q : at_ c i ≤ at_ x i
        · exact .inl (by omega)
        · exact .inr ⟨x, List.mem_cons_self, by omega⟩
      · exact .inr ⟨y, List.mem_cons_of_mem _ hy, a1⟩
    · rcases List.mem_cons.mp hy with q | q
      · subst q; omega
      · exact a3 y q
def stab (k : Nat) (r : Rep) : Counts := r.known.foldl mins (r.vec k)
def lows (n : Nat) (r : Rep) (o : Nat) : List Int := (List.range n).map fun j => ((at_ (r.vec j) o : Nat) : Int)
theorem vec_mem {r : Rep} {n j : Nat} (hl : r.known.length = n) (hj : j < n) : r.vec j ∈ r.known := List.mem_of_getElem? (vec_at (r := r) (k := j) (by omega))
theorem mem_vec {r : Rep} {n : Nat} {x : Counts} (hl : r.known.length = n) (h : x ∈ r.known) : ∃ j, j < n ∧ r.vec j = x := by
  obtain ⟨j, hj⟩ := List.getElem?_of_mem h
  have h1 := (List.getElem?_eq_some_iff.mp hj).1
  rw [vec_at h1] at hj
  exact ⟨j, by omega, Option.some.inj hj⟩
theorem stab_at {k n : Nat} {r : Rep} (hl : r.known.length = n) (hk : k < n) (hv : ∀ j, j < n → (r.vec j).length = n) : (stab k r).length = n ∧
    ∀ o, o < n → ∀ m : Int, m ∈ lows n r o → (∀ y, y ∈ lows n r o → m ≤ y) → m = ((at_ (stab k r) o : Nat) : Int) := by
  have hx : ∀ x ∈ r.known, x.length = n := fun x h => by
    obtain ⟨j, hj, e⟩ := mem_vec hl h
    rw [← e]
    exact hv j hj
  obtain ⟨h1, h2⟩ := fold_mins r.known (r.vec k) (hv k hk) hx
  refine ⟨h1, fun o ho m hm hle => ?_⟩
  obtain ⟨a1, a2, a3⟩ := h2 o ho
  have low : ∀ j, j < n → ((at_ (r.vec j) o : Nat) : Int) ∈ lows n r o := fun j hj => List.mem_map.mpr ⟨j, List.mem_range.mpr hj, rfl⟩
  obtain ⟨j, hj, e⟩ := List.mem_map.mp hm
  have hj' := List.mem_range.mp hj
  have b1 := a3 _ (vec_mem hl hj')
  have b2 : ∃ i, i < n ∧ at_ (stab k r) o = at_ (r.vec i) o := by
    rcases a1 with q | ⟨x, hx, q⟩
    · exact ⟨k, hk, q⟩
    · obtain ⟨i, hi, e⟩ := mem_vec hl hx
      exact ⟨i, hi, by rw [e]; exact q⟩
  obtain ⟨i, hi, e2⟩ := b2
  have b3 := hle _ (low i hi)
  rw [e2]
  have b4 : at_ (stab k r) o ≤ at_ (r.vec j) o := b1
  have b5 : ((at_ (r.vec j) o : Nat) : Int) = m := e
  omega
section
variable {P : Program} {w : World} {K : PySem.W.Frag} {mg : Str → Option Value} {base : Heap} {c : Cl} {f : Addr} {fd : FuncData}
/-! ### least_known -/
theorem lows_more {n i : Nat} {r : Rep} {o : Nat} : lows (i + 1) r o = lows i r o ++ [((at_ (r.vec i) o : Nat) : Int)] := by
  unfold lows
  rw [List.range_succ, List.map_append]
  rfl
theorem lows_length {n : Nat} {r : Rep} {o : Nat} : (lows n r o).length = n := by
  unfold lows
  rw [List.length_map, List.length_range]
def spLeast (c : Cl) : Sp := fun vs H Q _ => ∃ (g : Tags) (ad : Deed → Addr) (k n : Nat) (a : Addr) (r : Rep) (o : Nat), vs = [.ref a, .int (o : Int)] ∧ RepAt c g ad H k a r ∧ r.known.length = n ∧ (∀ j, j < n → (r.vec j).length = n) ∧ 0 < n ∧ o < n ∧ n ≤ 1000 ∧
  ∀ H' m, Same H H' → m ∈ lows n r o → (∀ y, y ∈ lows n r o → m ≤ y) → Q (.int m) H'
theorem sc_least : FnScope ["self", "origin", "vector"] ["self", "origin"] (defScope sLeastKnown) := ⟨rfl, rfl, rfl, by decide +kernel, rfl, by decide +kernel, by decide +kernel⟩
theorem ok_least (T : Txt K mg c) (F : Fun K "least_known" "Replica.least_known" sLeastKnown f fd) : FnOk P w K mg base CX0 1 f fd ["self", "origin"] (spLeast c) := by
  refine F.ok sc_least (fun vs H Q E h => ?_) (fun cdv A outer s H vs Q E hr h => ?_)
  · obtain ⟨_, _, _, _, _, _, _, rfl, _⟩ := h
    rfl
  · refine ⟨_, pss_one (ps_ret (pe_callB (cr_min rfl) (by rfl) T.min (by decide +kernel) (pa_cons
        (pe_lc (own := [("vector", 2)]) (g := gName 2) (tt := tYes) (te := tOp (rIxL K) (tVar 2) (tVar 1)) rfl sc_least.nd (pi_list (pe_fld (pv 0) rfl))
          (blkOk_by (own := [("vector", 2)]) (N := ["self", "origin", "vector"]) (sc := defScope sLeastKnown) (by decide +kernel))
          (fun _ _ _ _ _ => pg_name (i := 2) sc_least.nd rfl (Or.inl rfl)) (fun _ _ _ _ _ => pts_nil)
          (fun _ _ _ _ _ => pe_ix ix_list (pv 2) (pv 1) (fun _ _ => rfl))) pa_nil))), ?_⟩
    obtain ⟨g, ad, k, n, a, r, o, rfl, hR, hl, hv, hn0, ho, hn, q⟩ := h
    obtain ⟨dx, pa, pp, pk, pv', ks, R⟩ := hR
    refine ⟨_, rfl, a, c.R, dx, _, _, rfl, R.obj, T.clR, T.r4, rp_known, pk, rfl, ⟨_, SqL.of R.kno⟩, fun D hD => ?_⟩
    refine lc_list (K := K) (a := pk) (xs := ks.map V.ref) (fun i H' => Same H H' ∧ H' D = some (.lst (nts (lows i r o))))
      ⟨same_new hD, upd_same⟩ (fun i H' _ p => SqL.of (p.1 _ _ R.kno)) (fun i x H' hx p => ?_) (fun H' p => ?_)
    · obtain ⟨p1, p2⟩ := p
      obtain ⟨b, hb, rfl⟩ : ∃ b, ks[i]? = some b ∧ x = V.ref b := by
        rw [List.getElem?_map] at hx
        cases e : ks[i]? with
        | none => rw [e] at hx; cases hx
        | some b => rw [e] at hx; exact ⟨b, rfl, (Option.some.inj hx).symm⟩
      have hi : i < n := by
        have h1 := (List.getElem?_eq_some_iff.mp hb).1
        have h2 := R.klen
        omega
      obtain ⟨h1, _⟩ := R.vec i b hb
      refine ⟨rfl, _, rfl, _, rfl, b, _, _, _, rfl, rfl, SqL.of (p1 _ _ h1), atI_nat (nums_get (by rw [hv i hi]; exact ho)), _, p2, ?_, fun b o hb => ?_, ?_⟩
      · unfold nts
        rw [List.length_map, lows_length]
        exact small1000 (by omega)
      · rw [upd_ne (ne_of_none hb hD)]
        exact p1 b o hb
      · refine upd_same.trans ?_
        rw [lows_more (n := n)]
        unfold nts
        rw [List.map_append]
        rfl
    · obtain ⟨p1, p2⟩ := p
      have el : (ks.map V.ref).length = n := by rw [List.length_map, R.klen]; exact hl
      rw [el] at p2
      exact ⟨D, lows n r o, rfl, SqL.of p2, by rw [lows_length]; exact hn0, fun m h1 h2 => q H' m p1 h1 h2⟩
/-! ### stable_vector -/
def spStable (c : Cl) : Sp := fun vs H Q _ => ∃ (g : Tags) (ad : Deed → Addr) (k n : Nat) (a : Addr) (r : Rep), vs = [.ref a] ∧ RepAt c g ad H k a r ∧ k < n ∧ r.known.length = n ∧ (∀ j, j < n → (r.vec j).length = n) ∧ n ≤ 1000 ∧
  ∀ H' p, H p = none → H' p = some (.lst (nums (stab k r))) → Same H H' → Q (.ref p) H'
theorem sc_stable : FnScope ["self", "origin"] ["self"] (defScope sStableVector) := ⟨rfl, rfl, rfl, by decide +kernel, rfl, by decide +kernel, by decide +kernel⟩
theorem ok_stable (T : Txt K mg c) (F : Fun K "stable_vector" "Replica.stable_vector" sStableVector f fd) (ML : Met P w K mg base 1 c.R "least_known" (spLeast c)) : FnOk P w K mg base CX0 2 f fd ["self"] (spStable c) := by
  refine F.ok sc_stable (fun vs H Q E h => ?_) (fun cdv A outer s H vs Q E hr h => ?_)
  · obtain ⟨_, _, _, _, _, _, rfl, _⟩ := h
    rfl
  · refine ⟨_, pss_one (ps_ret (pe_lc (own := [("origin", 1)]) (g := gName 1) (tt := tYes) (te := tMeth c.R "least_known" (spLeast c) [] E0 (tVar 0) (tCons (tVar 1) tNil)) rfl sc_stable.nd
          (pi_range1 (by rfl) T.range (pa_cons (pe_callB call_len_seq (by rfl) T.len PySem.boot_len (pa_cons (pe_fld (pv 0) rfl) pa_nil)) pa_nil))
          (blkOk_by (own := [("origin", 1)]) (N := ["self", "origin"]) (sc := defScope sStableVector) (by decide +kernel))
          (fun _ _ _ _ _ => pg_name (i := 1) sc_stable.nd rfl (Or.inl rfl)) (fun _ _ _ _ _ => pts_nil)
          (fun _ _ _ _ _ => pe_met T.clR ML hr (by decide) (pv 0) (pa_cons (pv 1) pa_nil)))), ?_⟩
    obtain ⟨g, ad, k, n, a, r, rfl, hR, hk, hl, hv, hn, q⟩ := h
    obtain ⟨dx, pa, pp, pk, pv', ks, R⟩ := hR
    obtain ⟨gv, hvk⟩ := R.gV
    obtain ⟨sl, sa⟩ := stab_at hl hk hv
    refine ⟨_, rfl, a, c.R, dx, _, _, rfl, R.obj, T.clR, T.r5, rp_vector, pv', _, rfl, .inl (SqL.of hvk), ?_⟩
    rw [nums_length, hv k hk]
    refine ⟨(n : Int), rfl, (by omega), (by omega), fun D hD => ?_⟩
    rw [show ((n : Int)).toNat = n from Int.toNat_natCast n]
    refine lc_range (lo := 0) (n := n) (fun i H' => Same H H' ∧ H' D = some (.lst (nums ((stab k r).take i))))
      ⟨same_new hD, by rw [List.take_zero]; exact upd_same⟩ (fun i H' hi p => ?_) (fun H' p => ?_)
    · obtain ⟨p1, p2⟩ := p
      have R' := R.same p1
      refine ⟨rfl, _, rfl, a, dx, _, rfl, R'.obj, rp_no (by decide +kernel), _, rfl, ?_⟩
      refine ⟨g, ad, k, n, a, r, i, by rw [Int.zero_add]; rfl, ⟨_, _, _, _, _, _, R'⟩, hl, hv, by omega, hi, hn, fun H2 m s2 hm hle => ?_⟩
      rw [sa i hi m hm hle]
      refine ⟨_, s2 _ _ p2, ?_, fun b o hb => ?_, ?_⟩
      · rw [nums_length]
        refine small1000 (Nat.le_trans (List.length_take_le' _ _) ?_)
        omega
      · rw [upd_ne (ne_of_none hb hD)]
        exact s2 _ _ (p1 b o hb)
      · refine upd_same.trans ?_
        have hi2 : i < (stab k r).length := by omega
        rw [take_snoc (List.getElem?_eq_getElem hi2), ← at_lt hi2]
        unfold nums
        rw [List.map_append]
        rfl
    · obtain ⟨p1, p2⟩ := p
      rw [List.take_of_length_le (by omega)] at p2
      exact q H' D hD p2 p1
/-! ### 0, then the numbers -/
theorem nts_zero (l : Counts) : nts (0 :: Sq32.ints l) = [V.int 0] ++ nums l := by
  unfold nts Sq32.ints nums
  rw [List.map_cons, List.map_map]
  rfl
/-! ### list_vector -/
def spListVector (c : Cl) : Sp := fun vs H Q _ => ∃ (g : Tags) (ad : Deed → Addr) (a : Addr) (s : Ses) (h : House) (k : Nat), vs = [.ref a, .int (k : Int)] ∧ SesAt c g ad H a s ∧ SInv s h ∧ Does c g H a s (.has k) Q
theorem sc_ListVector : FnScope ["self", "replica"] ["self", "replica"] (defScope sListVector) := ⟨rfl, rfl, rfl, by decide +kernel, rfl, by decide +kernel, by decide +kernel⟩
theorem line6 {l : Counts} {n : Nat} (h : l.length = n) (h6 : n ≤ 6) : ([V.int 0] : List V).length + (nums l).length ≤ sizeLine := by
  rw [nums_length, h]
  have line : sizeLine = 16777216 := by decide
  show 1 + n ≤ sizeLine
  omega
theorem ok_ListVector (T : Txt K mg c) (F : Fun K "list_vector" "Session.list_vector" sListVector f fd) (MH : Met P w K mg base 1 c.S "has_replica" (spHasReplica c)) : FnOk P w K mg base CX0 2 f fd ["self", "replica"] (spListVector c) := by
  refine F.ok sc_ListVector (fun vs H Q E h => ?_) (fun cdv A outer s H vs Q E hr h => ?_)
  · obtain ⟨_, _, _, _, _, _, rfl, _⟩ := h
    rfl
  · obtain ⟨t6, k6⟩ := T.k6
    refine ⟨_, pss_cons (ps_if (pt_not (pt_val (pe_met T.clS MH hr (by decide) (pv 0) (pa_cons (pv 1) pa_nil)))) (pss_one (ps_ret (pe_lst (pa_cons (pe_glob (v := .int (-2)) rfl k6 ⟨_, rfl⟩) pa_nil)))) pss_nil)
      (pss_one (ps_ret (pe_op op_cat (pe_lst (pa_cons pe_int pa_nil)) (pe_fld (pe_ix ix_list (pe_fld (pv 0) rfl) (pv 1) (fun _ _ => rfl)) rfl)))), ?_⟩
    obtain ⟨g, ad, a, s, h, k, rfl, SS, I, q⟩ := h
    obtain ⟨dx, re, eo, mo, ras, mas, S⟩ := id SS
    refine ⟨_, rfl, a, dx, _, rfl, S.obj, ss_no (by decide +kernel), _, rfl, g, ad, a, s, k, rfl, SS, _, rfl, ?_⟩
    refine not_b _ (fun e => ?_) (fun e => ?_)
    · have hk : ¬ k < s.reps.length := of_decide_eq_false e
      exact ⟨by show 1 ≤ sizeLine; decide, refuse q SS (by simp only [Ses.step]; rw [if_pos (by omega)])⟩
    have hk : k < s.reps.length := of_decide_eq_true e
    refine ⟨by show 1 ≤ sizeLine; decide, fun z hz => ?_⟩
    have S1 := S.kp (T := T0) (Kp.new' (o := .lst [.int 0]) hz) fun _ _ z => z
    have hkr : k < ras.length := by rw [S.rlen]; exact hk
    have hb : ras[k]? = some ras[k] := List.getElem?_eq_getElem hkr
    obtain ⟨dr, pa, pp, pk, pv', ks, R⟩ := S1.rep k _ hb
    obtain ⟨gv, hv⟩ := R.gV
    have RI := I.rep k hk
    refine ⟨_, rfl, a, c.S, dx, _, _, rfl, S1.obj, T.clS, T.s1, ss_replicas, _, rfl, re, _, _, _, rfl, rfl, SqL.of S1.reps, atI_nat (by rw [List.getElem?_map, hb]; rfl), ?_⟩
    refine ⟨ras[k], c.R, dr, _, _, rfl, R.obj, T.clR, T.r5, rp_vector, ?_⟩
    refine ⟨z, pv', _, _, rfl, rfl, upd_same, hv, line6 (RI.kl k hk) I.le6, fun p hp => ?_⟩
    exact q.ask SS (l := 0 :: Sq32.ints ((s.rep k).vec k)) (by simp only [Ses.step]; rw [if_neg (by omega)]) ((same_new hz).trans (same_new hp)) ((same_new hz).free hp) (by rw [nts_zero]; exact upd_same)
/-! ### list_known -/
def spListKnown (c : Cl) : Sp := fun vs H Q _ => ∃ (g : Tags) (ad : Deed → Addr) (a : Addr) (s : Ses) (h : House) (k j : Nat), vs = [.ref a, .int (k : Int), .int (j : Int)] ∧ SesAt c g ad H a s ∧ SInv s h ∧ Does c g H a s (.sure k j) Q
theorem sc_ListKnown : FnScope ["self", "replica", "other"] ["self", "replica", "other"] (defScope sListKnown) := ⟨rfl, rfl, rfl, by decide +kernel, rfl, by decide +kernel, by decide +kernel⟩
theorem ok_ListKnown (T : Txt K mg c) (F : Fun K "list_known" "Session.list_known" sListKnown f fd) (MH : Met P w K mg base 1 c.S "has_replica" (spHasReplica c)) : FnOk P w K mg base CX0 2 f fd ["self", "replica", "other"] (spListKnown c) := by
  refine F.ok sc_ListKnown (fun vs H Q E h => ?_) (fun cdv A outer s H vs Q E hr h => ?_)
  · obtain ⟨_, _, _, _, _, _, _, rfl, _⟩ := h
    rfl
  · obtain ⟨t6, k6⟩ := T.k6
    refine ⟨_, pss_cons (ps_if (PW.pt (pw_or (pt_not (pt_val (pe_met T.clS MH hr (by decide) (pv 0) (pa_cons (pv 1) pa_nil)))) (pw_or1 (pt_not (pt_val (pe_met T.clS MH hr (by decide) (pv 0) (pa_cons (pv 2) pa_nil))))))) (pss_one (ps_ret (pe_lst (pa_cons (pe_glob (v := .int (-2)) rfl k6 ⟨_, rfl⟩) pa_nil)))) pss_nil)
      (pss_one (ps_ret (pe_op op_cat (pe_lst (pa_cons pe_int pa_nil)) (pe_ix ix_list (pe_fld (pe_ix ix_list (pe_fld (pv 0) rfl) (pv 1) (fun _ _ => rfl)) rfl) (pv 2) (fun _ _ => rfl))))), ?_⟩
    obtain ⟨g, ad, a, s, h, k, j, rfl, SS, I, q⟩ := h
    obtain ⟨dx, re, eo, mo, ras, mas, S⟩ := id SS
    refine ⟨_, rfl, a, dx, _, rfl, S.obj, ss_no (by decide +kernel), _, rfl, g, ad, a, s, k, rfl, SS, _, rfl, ?_⟩
    refine not_b _ (fun e => ?_) (fun e => ?_)
    · have hk : ¬ k < s.reps.length := of_decide_eq_false e
      exact iteT ⟨by show 1 ≤ sizeLine; decide, refuse q SS (by simp only [Ses.step]; rw [if_pos (by omega)])⟩
    have hk : k < s.reps.length := of_decide_eq_true e
    refine ⟨_, rfl, a, dx, _, rfl, S.obj, ss_no (by decide +kernel), _, rfl, g, ad, a, s, j, rfl, SS, _, rfl, ?_⟩
    refine not_b _ (fun e => ?_) (fun e => ?_)
    · have hj : ¬ j < s.reps.length := of_decide_eq_false e
      exact ⟨by show 1 ≤ sizeLine; decide, refuse q SS (by simp only [Ses.step]; rw [if_pos (by omega)])⟩
    have hj : j < s.reps.length := of_decide_eq_true e
    refine ⟨by show 1 ≤ sizeLine; decide, fun z hz => ?_⟩
    have S1 := S.kp (T := T0) (Kp.new' (o := .lst [.int 0]) hz) fun _ _ z => z
    have hkr : k < ras.length := by rw [S.rlen]; exact hk
    have hb : ras[k]? = some ras[k] := List.getElem?_eq_getElem hkr
    obtain ⟨dr, pa, pp, pk, pv', ks, R⟩ := S1.rep k _ hb
    have RI := I.rep k hk
    have hjk : j < ks.length := by rw [R.klen, RI.klen]; exact hj
    obtain ⟨hv, gv⟩ := R.vec j ks[j] (List.getElem?_eq_getElem hjk)
    refine ⟨_, rfl, a, c.S, dx, _, _, rfl, S1.obj, T.clS, T.s1, ss_replicas, _, rfl, re, _, _, _, rfl, rfl, SqL.of S1.reps, atI_nat (by rw [List.getElem?_map, hb]; rfl), ?_⟩
    refine ⟨ras[k], c.R, dr, _, _, rfl, R.obj, T.clR, T.r4, rp_known, ?_⟩
    refine ⟨_, rfl, pk, _, _, _, rfl, rfl, SqL.of R.kno, atI_nat (by rw [List.getElem?_map, List.getElem?_eq_getElem hjk]; rfl), ?_⟩
    refine ⟨z, ks[j], _, _, rfl, rfl, upd_same, hv, line6 (RI.kl j hj) I.le6, fun p hp => ?_⟩
    exact q.ask SS (l := 0 :: Sq32.ints ((s.rep k).vec j)) (by simp only [Ses.step]; rw [if_neg (by omega)]) ((same_new hz).trans (same_new hp)) ((same_new hz).free hp) (by rw [nts_zero]; exact upd_same)
/-! ### list_stable -/
def spListStable (c : Cl) : Sp := fun vs H Q _ => ∃ (g : Tags) (ad : Deed → Addr) (a : Addr) (s : Ses) (h : House) (k : Nat), vs = [.ref a, .int (k : Int)] ∧ SesAt c g ad H a s ∧ SInv s h ∧ Does c g H a s (.all k) Q
theorem sc_ListStable : FnScope ["self", "replica"] ["self", "replica"] (defScope sListStable) := ⟨rfl, rfl, rfl, by decide +kernel, rfl, by decide +kernel, by decide +kernel⟩
theorem ok_ListStable (T : Txt K mg c) (F : Fun K "list_stable" "Session.list_stable" sListStable f fd) (MH : Met P w K mg base 1 c.S "has_replica" (spHasReplica c)) (MS : Met P w K mg base 2 c.R "stable_vector" (spStable c)) : FnOk P w K mg base CX0 3 f fd ["self", "replica"] (spListStable c) := by
  refine F.ok sc_ListStable (fun vs H Q E h => ?_) (fun cdv A outer s H vs Q E hr h => ?_)
  · obtain ⟨_, _, _, _, _, _, rfl, _⟩ := h
    rfl
  · obtain ⟨t6, k6⟩ := T.k6
    refine ⟨_, pss_cons (ps_if (pt_not (pt_val (pe_met T.clS MH hr (by decide) (pv 0) (pa_cons (pv 1) pa_nil)))) (pss_one (ps_ret (pe_lst (pa_cons (pe_glob (v := .int (-2)) rfl k6 ⟨_, rfl⟩) pa_nil)))) pss_nil)
      (pss_one (ps_ret (pe_op op_cat (pe_lst (pa_cons pe_int pa_nil)) (pe_met0 T.clR MS hr (by decide) (pe_ix ix_list (pe_fld (pv 0) rfl) (pv 1) (fun _ _ => rfl)))))), ?_⟩
    obtain ⟨g, ad, a, s, h, k, rfl, SS, I, q⟩ := h
    obtain ⟨dx, re, eo, mo, ras, mas, S⟩ := id SS
    refine ⟨_, rfl, a, dx, _, rfl, S.obj, ss_no (by decide +kernel), _, rfl, g, ad, a, s, k, rfl, SS, _, rfl, ?_⟩
    refine not_b _ (fun e => ?_) (fun e => ?_)
    · have hk : ¬ k < s.reps.length := of_decide_eq_false e
      exact ⟨by show 1 ≤ sizeLine; decide, refuse q SS (by simp only [Ses.step]; rw [if_pos (by omega)])⟩
    have hk : k < s.reps.length := of_decide_eq_true e
    refine ⟨by show 1 ≤ sizeLine; decide, fun z hz => ?_⟩
    have S1 := S.kp (T := T0) (Kp.new' (o := .lst [.int 0]) hz) fun _ _ z => z
    have hkr : k < ras.length := by rw [S.rlen]; exact hk
    have hb : ras[k]? = some ras[k] := List.getElem?_eq_getElem hkr
    obtain ⟨dr, pa, pp, pk, pv', ks, R⟩ := S1.rep k _ hb
    have RI := I.rep k hk
    refine ⟨_, rfl, a, c.S, dx, _, _, rfl, S1.obj, T.clS, T.s1, ss_replicas, _, rfl, re, _, _, _, rfl, rfl, SqL.of S1.reps, atI_nat (by rw [List.getElem?_map, hb]; rfl), ?_⟩
    refine ⟨ras[k], dr, _, rfl, R.obj, rp_no (by decide +kernel), ?_⟩
    refine ⟨g, ad, k, s.reps.length, ras[k], s.rep k, rfl, ⟨_, _, _, _, _, _, R⟩, hk, RI.klen, RI.kl, by have := I.le6; omega, fun H2 u hu h2 s2 => ?_⟩
    have sz := (stab_at RI.klen hk RI.kl).1
    have z0 : upd H z (.lst [.int 0]) z = some (.lst [.int 0]) := upd_same
    refine ⟨z, u, _, _, rfl, rfl, s2 _ _ z0, h2, line6 sz I.le6, fun p hp => ?_⟩
    exact q.ask SS (l := 0 :: Sq32.ints (s.stable k)) (by simp only [Ses.step]; rw [if_neg (by omega)]) (((same_new hz).trans s2).trans (same_new hp)) (((same_new hz).trans s2).free hp) (by rw [nts_zero]; exact upd_same)
end
end VD
end
section
set_option Elab.async false
set_option maxRecDepth 100000
set_option maxHeartbeats 2000000
namespace VD
open PySem PySem.Spec PyProof.Rows L2
open Sq32 (Deed Letter Counts at_ was may counts House)
section
variable {P : Program} {w : World} {K : PySem.W.Frag} {mg : Str → Option Value} {base : Heap} {c : Cl} {f : Addr} {fd : FuncData}
/-! ### compare -/
def spCompare (c : Cl) : Sp := fun vs H Q _ => ∃ (g : Tags) (ad : Deed → Addr) (a : Addr) (s : Ses) (h : House) (d n e m : Nat), vs = [.ref a, .int (d : Int), .int (n : Int), .int (e : Int), .int (m : Int)] ∧ SesAt c g ad H a s ∧ SInv s h ∧ Does c g H a s (.hangs d n e m) Q
theorem sc_Compare : FnScope ["self", "first_origin", "first_number", "second_origin", "second_number", "first", "second"] ["self", "first_origin", "first_number", "second_origin", "second_number"] (defScope sCompare) := ⟨rfl, rfl, rfl, by decide +kernel, rfl, by decide +kernel, by decide +kernel⟩
theorem ok_Compare (T : Txt K mg c) (F : Fun K "compare" "Session.compare" sCompare f fd) (MF : Cal P w K mg base 1 "find_event" (spFE c)) (MD : Met P w K mg base 1 c.E "depends_on" (spDep c)) : FnOk P w K mg base CX0 2 f fd ["self", "first_origin", "first_number", "second_origin", "second_number"] (spCompare c) := by
  refine F.ok sc_Compare (fun vs H Q E h => ?_) (fun cdv A outer s H vs Q E hr h => ?_)
  · obtain ⟨_, _, _, _, _, _, _, _, _, rfl, _⟩ := h
    rfl
  · obtain ⟨t6, k6⟩ := T.k6
    obtain ⟨t9, k9⟩ := T.k9
    obtain ⟨t10, k10⟩ := T.k10
    obtain ⟨t11, k11⟩ := T.k11
    refine ⟨_, pss_cons (ps_set (i := 5) sc_Compare.nd rfl (Or.inl rfl) (pe_cal MF hr (by decide) rfl (pa_cons (pe_fld (pv 0) rfl) (pa_cons (pv 1) (pa_cons (pv 2) pa_nil)))))
      (pss_cons (ps_set (i := 6) sc_Compare.nd rfl (Or.inl rfl) (pe_cal MF hr (by decide) rfl (pa_cons (pe_fld (pv 0) rfl) (pa_cons (pv 3) (pa_cons (pv 4) pa_nil)))))
      (pss_cons (ps_if (PW.pt (pw_or (pt_cmpR op_isN (pv 5) pe_non (nomark _)) (pw_or1 (pt_cmpR op_isN (pv 6) pe_non (nomark _))))) (pss_one (ps_ret (pe_lst (pa_cons (pe_glob (v := .int (-2)) rfl k6 ⟨_, rfl⟩) pa_nil)))) pss_nil)
      (pss_cons (ps_if (pt_val (pe_met T.clE MD hr (by decide) (pv 6) (pa_cons (pv 5) pa_nil))) (pss_one (ps_ret (pe_lst (pa_cons (pe_glob (v := .int 1) rfl k10 ⟨_, rfl⟩) pa_nil)))) pss_nil)
      (pss_cons (ps_if (pt_val (pe_met T.clE MD hr (by decide) (pv 5) (pa_cons (pv 6) pa_nil))) (pss_one (ps_ret (pe_lst (pa_cons (pe_glob (v := .int 2) rfl k11 ⟨_, rfl⟩) pa_nil)))) pss_nil)
      (pss_one (ps_ret (pe_lst (pa_cons (pe_glob (v := .int 0) rfl k9 ⟨_, rfl⟩) pa_nil)))))))), ?_⟩
    obtain ⟨g, ad, a, s, h, d, n, e, m, rfl, SS, I, q⟩ := h
    obtain ⟨dx, re, eo, mo, ras, mas, S⟩ := id SS
    refine ⟨_, rfl, a, c.S, dx, _, _, rfl, S.obj, T.clS, T.s2, ss_events, _, rfl, _, rfl, ?_⟩
    refine ⟨g, ad, eo, s.events, d, n, rfl, S.evs, S.ev, ?_⟩
    refine ⟨_, rfl, a, c.S, dx, _, _, rfl, S.obj, T.clS, T.s2, ss_events, _, rfl, _, rfl, ?_⟩
    refine ⟨g, ad, eo, s.events, e, m, rfl, S.evs, S.ev, ?_⟩
    cases hx : s.events.find? (fun x => x.desk == d && x.n == n) with
    | none =>
      have hx' : s.ev d n = none := hx
      refine ⟨_, rfl, rfl, _, rfl, ?_⟩
      refine if_true_of' (decide_eq_true rfl) (iteT ⟨by show 1 ≤ sizeLine; decide, refuse q SS ?_⟩)
      simp only [Ses.step]
      rw [hx']
    | some x =>
      have hx' : s.ev d n = some x := hx
      refine ⟨_, rfl, rfl, _, rfl, ?_⟩
      refine if_false_of' (decide_eq_false (by intro z; cases z)) ?_
      cases hy : s.events.find? (fun x => x.desk == e && x.n == m) with
      | none =>
        have hy' : s.ev e m = none := hy
        refine ⟨_, rfl, rfl, _, rfl, ?_⟩
        refine if_true_of' (decide_eq_true rfl) ⟨by show 1 ≤ sizeLine; decide, refuse q SS ?_⟩
        simp only [Ses.step]
        rw [hx', hy']
      | some y =>
        have hy' : s.ev e m = some y := hy
        refine ⟨_, rfl, rfl, _, rfl, ?_⟩
        refine if_false_of' (decide_eq_false (by intro z; cases z)) ?_
        have mx := List.mem_of_find?_eq_some hx
        have my := List.mem_of_find?_eq_some hy
        have ex := S.ev x mx
        have ey := S.ev y my
        obtain ⟨ddx, dax, X1, _⟩ := ex.ex
        obtain ⟨ddy, day, Y1, _⟩ := ey.ex
        have est : s.step (.hangs d n e m) = (s, [if was y.after x = true then 1 else if was x.after y = true then 2 else 0]) := by
          simp only [Ses.step]
          rw [hx', hy']
        refine ⟨_, rfl, ad y, ddy, _, rfl, Y1, ev_no (by decide +kernel), _, rfl, ?_⟩
        refine ⟨g, ad y, ad x, y, x, rfl, ey, ex, by rw [I.ev.len y my]; exact I.ev.desk x mx, _, rfl, ?_⟩
        cases w1 : was y.after x with
        | true =>
          rw [w1, if_pos rfl] at est
          exact iteT ⟨by show 1 ≤ sizeLine; decide, refuse q SS est⟩
        | false =>
          rw [w1, if_neg Bool.false_ne_true] at est
          refine iteF ⟨_, rfl, ad x, ddx, _, rfl, X1, ev_no (by decide +kernel), _, rfl, ?_⟩
          refine ⟨g, ad x, ad y, x, y, rfl, ex, ey, by rw [I.ev.len x mx]; exact I.ev.desk y my, _, rfl, ?_⟩
          cases w2 : was x.after y with
          | true =>
            rw [w2, if_pos rfl] at est
            exact iteT ⟨by show 1 ≤ sizeLine; decide, refuse q SS est⟩
          | false =>
            rw [w2, if_neg Bool.false_ne_true] at est
            exact iteF ⟨by show 1 ≤ sizeLine; decide, refuse q SS est⟩
/-! ### list_message -/
def two (l : List Deed) : List V := l.flatMap fun d => [.int (d.desk : Int), .int (d.n : Int)]
theorem two_len (l : List Deed) : (two l).length = 2 * l.length := by
  unfold two
  induction l with
  | nil => rfl
  | cons d l ih =>
    rw [List.flatMap_cons, List.length_append, ih]
    simp only [List.length_cons, List.length_nil]
    omega
theorem two_more {l : List Deed} {i : Nat} {d : Deed} (hd : l[i]? = some d) : two (l.take (i + 1)) = two (l.take i) ++ [.int (d.desk : Int), .int (d.n : Int)] := by
  unfold two
  rw [take_snoc hd, List.flatMap_append]
  simp
theorem nts_two (l : List Deed) : nts ((l.length : Int) :: Sq32.ints (l.flatMap fun d => [d.desk, d.n])) = .int (l.length : Int) :: two l := by
  unfold nts two Sq32.ints
  rw [List.map_cons]
  congr 1
  induction l with
  | nil => rfl
  | cons d l ih =>
    rw [List.flatMap_cons, List.flatMap_cons, List.map_append, List.map_append, ih]
    rfl
def spListMessage (c : Cl) : Sp := fun vs H Q _ => ∃ (g : Tags) (ad : Deed → Addr) (a : Addr) (s : Ses) (h : House) (i : Nat), vs = [.ref a, .int (i : Int)] ∧ SesAt c g ad H a s ∧ SInv s h ∧ Does c g H a s (.letter i) Q
theorem sc_ListMessage : FnScope ["self", "number", "events", "answer", "event"] ["self", "number"] (defScope sListMessage) := ⟨rfl, rfl, rfl, by decide +kernel, rfl, by decide +kernel, by decide +kernel⟩
theorem ok_ListMessage (T : Txt K mg c) (F : Fun K "list_message" "Session.list_message" sListMessage f fd) (MHM : Met P w K mg base 1 c.S "has_message" (spHasMessage c)) : FnOk P w K mg base CX0 2 f fd ["self", "number"] (spListMessage c) := by
  refine F.ok sc_ListMessage (fun vs H Q E h => ?_) (fun cdv A outer s H vs Q E hr h => ?_)
  · obtain ⟨_, _, _, _, _, _, rfl, _⟩ := h
    rfl
  · obtain ⟨t6, k6⟩ := T.k6
    refine ⟨_, pss_cons (ps_if (pt_not (pt_val (pe_met T.clS MHM hr (by decide) (pv 0) (pa_cons (pv 1) pa_nil)))) (pss_one (ps_ret (pe_lst (pa_cons (pe_glob (v := .int (-2)) rfl k6 ⟨_, rfl⟩) pa_nil)))) pss_nil)
      (pss_cons (ps_set (i := 2) sc_ListMessage.nd rfl (Or.inl rfl) (pe_fld (pe_ix ix_list (pe_fld (pv 0) rfl) (pv 1) (fun _ _ => rfl)) rfl))
      (pss_cons (ps_set (i := 3) sc_ListMessage.nd rfl (Or.inl rfl) (pe_lst (pa_cons (pe_callB call_len_seq (by rfl) T.len PySem.boot_len (pa_cons (pv 2) pa_nil)) pa_nil)))
      (pss_cons (ps_for PassesOwn.never rfl (pi_list (pv 2)) (pg_name (i := 4) sc_ListMessage.nd rfl (Or.inl rfl))
        (pss_one (ps_expr (pe_bm PySem.F.plainAttrs_list PySem.F.slot_list_extend PySem.F.type_list_extend mt_extend (pv 3) (pa_cons (pe_lst (pa_cons (pe_fld (pv 4) rfl) (pa_cons (pe_fld (pv 4) rfl) pa_nil))) pa_nil)))))
      (pss_one (ps_ret (pv 3)))))), ?_⟩
    obtain ⟨g, ad, a, s, h, i, rfl, SS, I, q⟩ := h
    obtain ⟨dx, re, eo, mo, ras, mas, S⟩ := id SS
    refine ⟨_, rfl, a, dx, _, rfl, S.obj, ss_no (by decide +kernel), _, rfl, g, ad, a, s, i, rfl, SS, _, rfl, ?_⟩
    refine not_b _ (fun e => ?_) (fun e => ?_)
    · have hi : ¬ i < s.msgs.length := of_decide_eq_false e
      refine ⟨by show 1 ≤ sizeLine; decide, refuse q SS ?_⟩
      simp only [Ses.step]
      rw [List.getElem?_eq_none (by omega)]
    have hi : i < s.msgs.length := of_decide_eq_true e
    have him : i < mas.length := by rw [S.mlen]; exact hi
    have hmi : s.msgs[i]? = some s.msgs[i] := List.getElem?_eq_getElem hi
    have hbi : mas[i]? = some mas[i] := List.getElem?_eq_getElem him
    generalize hm0 : s.msgs[i] = m at hmi
    have hm : m ∈ s.msgs := List.mem_of_getElem? hmi
    obtain ⟨dm, pv0, pe0, M1, M2, M3, gM1, gM2, gM3⟩ := (S.msg i _ m hbi hmi).ex
    have MI := I.msg m hm
    have m60 := MI.most
    refine ⟨_, rfl, a, c.S, dx, _, _, rfl, S.obj, T.clS, T.s3, ss_messages, _, rfl, mo, _, _, _, rfl, rfl, SqL.of S.msgs, atI_nat (by rw [List.getElem?_map, hbi]; rfl), ?_⟩
    refine ⟨mas[i], c.M, dm, _, _, rfl, M1, T.clM, T.m4, ms_events, ?_⟩
    refine ⟨_, rfl, pe0, _, rfl, .inl (SqL.of M3), by show 1 ≤ sizeLine; decide, fun p hp => ?_⟩
    rw [refs_length]
    have R0 : upd H p (.lst [.int (m.deeds.length : Int)]) pe0 = some (.lst (refs ad m.deeds)) := (upd_ne (ne_of_none M3 hp)).trans M3
    refine ⟨_, rfl, pe0, rfl, ⟨_, SqL.of R0⟩, ?_⟩
    refine for_list (K := K) (a := pe0) (xs := refs ad m.deeds) (fun j σ H' => ∃ v, σ = [some (.ref a), some (.int (i : Int)), some (.ref pe0), some (.ref p), v] ∧ Same H H' ∧ H' p = some (.lst (.int (m.deeds.length : Int) :: two (m.deeds.take j))))
      ⟨none, rfl, same_new hp, by rw [List.take_zero]; exact upd_same⟩ (fun j σ H' _ ⟨_, _, e, _⟩ => SqL.of (e _ _ M3)) ?_ ?_
    · rintro j x σ H' hx ⟨v, rfl, sm, h0⟩
      obtain ⟨d, hd, rfl⟩ := refs_at hx
      obtain ⟨de, da, E1, _⟩ := ((S.ev d (MI.deeds d (List.mem_of_getElem? hd))).same sm).ex
      refine ⟨_, rfl, .inl ⟨rfl, _, SqL.of h0⟩, _, rfl, ad d, c.E, de, _, _, rfl, E1, T.clE, T.e1, ev_origin, _, rfl, ad d, c.E, de, _, _, rfl, E1, T.clE, T.e2, ev_number, by show 2 ≤ sizeLine; decide, fun z hz => ?_⟩
      have npz : p ≠ z := ne_of_none h0 hz
      refine ⟨p, z, _, _, rfl, rfl, (upd_ne npz).trans h0, upd_same, ?_, ?_⟩
      · show (two (m.deeds.take j)).length + 1 + 2 ≤ sizeLine
        rw [two_len]
        have := List.length_take_le' j m.deeds
        have line : sizeLine = 16777216 := by decide
        omega
      · refine ⟨_, rfl, fun b o hb => ?_, ?_⟩
        · have := sm b o hb
          rw [upd_ne (ne_of_none hb hp), upd_ne (ne_of_none this hz)]
          exact this
        · refine upd_same.trans ?_
          rw [two_more hd]
          rfl
    · rintro σ H' ⟨v, rfl, sm, h0⟩
      rw [refs_length, List.take_length] at h0
      refine ⟨_, rfl, q.ask SS (l := (m.deeds.length : Int) :: Sq32.ints (m.deeds.flatMap fun d => [d.desk, d.n])) ?_ sm hp (by rw [nts_two]; exact h0)⟩
      simp only [Ses.step]
      rw [hmi]
end
end VD
end
section
set_option Elab.async false
set_option maxRecDepth 100000
set_option maxHeartbeats 2000000
namespace L2
open PySem PySem.Spec PyProof.Rows
/-! ### d[k] of a written dict with ints for keys -/
def intKeys (es : Array DictEntry) : Bool := es.toList.all fun e => match e.key with
  | .int i _ => e.hash == hashInt i
  | _ => false
theorem intKeys_of {prog : Program} {w : World} {es : Array DictEntry} (h : intKeys es = true) : KeysOf (intKind prog w) es := fun e he => by
  have := List.all_eq_true.mp h e (Array.mem_toList_iff.mpr he)
  cases hk : e.key with
  | int i t =>
    rw [hk] at this
    exact ⟨i, intKind_is prog w i t, beq_iff_eq.mp this⟩
  | _ => rw [hk] at this; cases this
def rIxDI (K : PySem.W.Frag) : R2 := fun x y H Q => ∃ (p : Addr) (z : Int) (v : V) (es : Array DictEntry) (n : Nat) (u : Value), x = .ref p ∧ y = .int z ∧ K.lookup p = some ⟨.type "dict", none, .dict es n, #[]⟩ ∧ intKeys es = true ∧ findBy Value.isInt es z = some u ∧ RelV v u ∧ Q v H
section
variable {X : Cx}
theorem ix_kdictI : IxR X (rIxDI X.K) := by
  intro value slice pins s σ H x y v u Q I rx ry h hs
  obtain ⟨p, z, r, es, n, u0, rfl, rfl, hl, hk, e, ru, q⟩ := h
  obtain rfl : v = Value.ref p := rx
  obtain ⟨t, rfl⟩ := ry
  have hm : s.heap.MapOf (intKind X.prog X.w) p (fun k => findBy Value.isInt es k) := ⟨_, es, n, I.kIn _ _ hl, ⟨rfl, rfl, rfl⟩, rfl, intKeys_of hk, fun _ => rfl⟩
  exact tail_any hm.typeIs slot_dict_getitem.lookup (wpAny_getItem_of (intKind_is X.prog X.w z t) hm e ⟨r, H, I.tok _, ru, q⟩) hs
end
end L2
namespace VD
open PySem PySem.Spec PyProof.Rows L2
open Sq32 (Deed Letter Counts at_ was may counts House)
abbrev sAnswers : Stmt := top 32
abbrev sPerform : Stmt := top 33
abbrev sChange : Stmt := top 34
abbrev sAsk : Stmt := top 35
/-- the table of how many arguments a call has -/
def cntOk (es : Array DictEntry) (p : Int) : Prop := ∀ n, PySq32.shape p = some (n, 0) → ∃ u, findBy Value.isInt es p = some u ∧ RelV (.int (n : Int)) u
structure Tab (K : PySem.W.Frag) (mg : Str → Option Value) : Prop where
  ex : ∃ (D : Addr) (es : Array DictEntry) (n : Nat), mg "ARGUMENT_COUNTS" = some (.ref D) ∧ K.lookup D = some ⟨.type "dict", none, .dict es n, #[]⟩ ∧ intKeys es = true ∧ ∀ p, cntOk es p
section
variable {P : Program} {w : World} {K : PySem.W.Frag} {mg : Str → Option Value} {base : Heap} {c : Cl} {f : Addr} {fd : FuncData}
def spPerform (c : Cl) : Sp := fun vs H Q _ => ∃ (g : Tags) (ad : Deed → Addr) (a u : Addr) (s : Ses) (h : House) (l : List Int) (x : Sq32.Call), vs = [.ref a, .ref u] ∧ SesAt c g ad H a s ∧ SInv s h ∧ Is [l] x ∧ H u = some (.lst (nts l)) ∧ Does c g H a s x Q
def spAns (K : PySem.W.Frag) : Sp := fun vs H Q _ => ∃ (a : Addr) (ns : List Int), vs = [.ref a] ∧ SqL K H a (nts ns) ∧ ns.length ≤ 1500 ∧ PySq32.answers_asked ns = true ∧
  ∀ (H' : Hp) (p : Addr), H' p = some (.lst (nts (PySq32.answers ns))) → Q (.ref p) H'
theorem sc_answers : FnScope ["calls", "session", "results", "position", "end", "answer"] ["calls"] (defScope sAnswers) := ⟨rfl, rfl, rfl, by decide +kernel, rfl, by decide +kernel, by decide +kernel⟩
theorem SqL.kept {H H' : Hp} {a : Addr} {xs : List V} (h : SqL K H a xs) (e : ∀ o, H a = some o → H' a = some o) : SqL K H' a xs := by
  rcases h with (h | ⟨o, h⟩) | h
  · exact .inl (.inl (e _ h))
  · exact .inl (.inr ⟨o, e _ h⟩)
  · exact .inr h
theorem nts_length (l : List Int) : (nts l).length = l.length := List.length_map _
theorem cut_at {l : List Int} {i n : Nat} (h : i + (1 + n) ≤ l.length) : cutV (nts l) (some (i : Int)) (some ((i : Int) + 1 + (n : Int))) = nts ((l.drop i).take (1 + n)) := by
  have e1 : HT.sIx (nts l).length 0 (some (i : Int)) = i := by
    rw [HT.sIx_nat, nts_length]
    omega
  have e2 : HT.sIx (nts l).length (nts l).length (some ((i : Int) + 1 + (n : Int))) = i + (1 + n) := by
    have e3 : (i : Int) + 1 + (n : Int) = ((i + (1 + n) : Nat) : Int) := by omega
    rw [e3, HT.sIx_nat, nts_length]
    omega
  unfold cutV
  rw [e1, e2]
  unfold nts
  rw [← List.map_drop, ← List.map_take]
  congr 2
  omega
def AnsInv (c : Cl) (H : Hp) (a x r : Addr) (ns : List Int) (os0 : List (List Int)) (m : Nat) (σ : L2.St) (H' : Hp) : Prop :=
  ∃ (g' : Tags) (ad' : Deed → Addr) (s' : Ses) (h' : House) (fu pos : Nat) (cs : List (List (List Int))) (os : List (List Int)) (acc : List Int) (v4 v5 : Option V),
    σ = [some (.ref a), some (.ref x), some (.ref r), some (.int (pos : Int)), v4, v5] ∧ SesAt c g' ad' H' x s' ∧ SInv s' h' ∧ H' r = some (.lst (nts acc)) ∧ g' r = .mine ∧ (∀ o, H a = some o → H' a = some o ∧ g' a = .mine) ∧
    PyFlat.calls PySq32.shape fu (ns.drop pos) = some cs ∧ Plays s' cs os ∧ acc ++ PyFlat.told os = PyFlat.told os0 ∧ pos ≤ ns.length ∧ m = ns.length - pos
theorem ok_answers (T : Txt K mg c) (B : Tab K mg) (F : Fun K "answers" "answers" sAnswers f fd) (MS : Mak P w K mg base 3 "Session" c.S (spSsI c)) (MP : Cal P w K mg base 6 "perform" (spPerform c)) : FnOk P w K mg base CX0 7 f fd ["calls"] (spAns K) := by
  refine F.ok sc_answers (fun vs H Q E h => ?_) (fun cdv A outer s H vs Q E hr h => ?_)
  · obtain ⟨_, _, rfl, _⟩ := h
    rfl
  · obtain ⟨Dd, es, en, bm, bl, bk, bc⟩ := B.ex
    refine ⟨_, pss_cons (ps_set (i := 1) sc_answers.nd rfl (Or.inl rfl) (pe_mak0 MS hr (by decide) rfl))
      (pss_cons (ps_set (i := 2) sc_answers.nd rfl (Or.inl rfl) (pe_lst pa_nil))
      (pss_cons (ps_set (i := 3) sc_answers.nd rfl (Or.inl rfl) pe_int)
      (pss_cons (ps_while PassesOwn.never (pt_cmpR op_lt (pv 3) (pe_callB call_len_seq (by rfl) T.len PySem.boot_len (pa_cons (pv 0) pa_nil)) (nomark _))
        (pss_cons (ps_set (i := 4) sc_answers.nd rfl (Or.inl rfl) (pe_op op_add (pe_op op_add (pv 3) pe_int) (pe_ix ix_kdictI (pe_glob (v := .ref Dd) rfl bm rfl) (pe_ix ix_list (pv 0) (pv 3) (fun _ _ => rfl)) (fun _ _ => rfl))))
        (pss_cons (ps_set (i := 5) sc_answers.nd rfl (Or.inl rfl) (pe_cal MP hr (by decide) rfl (pa_cons (pv 1) (pa_cons (pe_slice sl_list (pv 0) (po_some (pv 3)) (po_some (pv 4))) pa_nil))))
        (pss_cons (ps_expr (pe_bm PySem.F.plainAttrs_list PySem.F.slot_list_append PySem.F.type_list_append mt_append (pv 2) (pa_cons (pe_callB call_len_seq (by rfl) T.len PySem.boot_len (pa_cons (pv 5) pa_nil)) pa_nil)))
        (pss_cons (ps_expr (pe_bm PySem.F.plainAttrs_list PySem.F.slot_list_extend PySem.F.type_list_extend mt_extend (pv 2) (pa_cons (pv 5) pa_nil)))
        (pss_one (ps_set (i := 3) sc_answers.nd rfl (Or.inl rfl) (pv 4))))))))
      (pss_one (ps_ret (pv 2)))))), ?_⟩
    obtain ⟨a, ns, rfl, hS, hlen, hask, q⟩ := h
    obtain ⟨cs0, os0, hc0, P0, ea, hbig⟩ := asked_parts hask
    intro x dx nx ndx ne
    refine ⟨tagAt (fun _ => .mine) x .ses, x, dx, rfl, upd_same, tagAt_same, fun H1 g1 S1 K1 => ⟨rfl, ?_⟩⟩
    have old : ∀ b o, H b = some o → H1 b = some o ∧ g1 b = .mine := fun b o hb => by
      have hbx : b ≠ x := ne_of_none hb nx
      obtain ⟨z1, z2⟩ := K1 b o (by rw [upd_ne hbx, upd_ne (ne_of_none hb ndx)]; exact hb) hbx
      exact ⟨z1, z2.trans (tagAt_ne hbx)⟩
    refine ⟨(by decide), fun r hrN => ?_⟩
    obtain ⟨d1, re1, eo1, mo1, ras1, mas1, S1i⟩ := S1 (fun _ => 0)
    have S2 := S1i.kp (T := T0) (Kp.new (o := .lst []) (t := .mine) hrN) fun _ _ z => z
    have ar : ∀ o, H a = some o → a ≠ r := fun o ho => ne_of_none (old a o ho).1 hrN
    refine ⟨AnsInv c H a x r ns os0, ⟨ns.length, ⟨tagAt g1 r .mine, fun _ => 0, freshS 1, Sq32.none_ 1, ns.length, 0, cs0, os0, [], none, none, rfl, ⟨_, _, _, _, _, _, S2⟩, inv_fresh (Nat.le_refl 1) (by decide), upd_same, tagAt_same, ?_, hc0, P0, rfl, Nat.zero_le _, rfl⟩⟩, ?_⟩
    · intro o ho
      obtain ⟨z1, z2⟩ := old a o ho
      exact ⟨(upd_ne (ar o ho)).trans z1, (tagAt_ne (ar o ho)).trans z2⟩
    rintro m σ H2 ⟨g2, ad2, s2, h2, fu, pos, cs, os, acc, v4, v5, rfl, SA, I2, hr2, gr2, ka, hcs, PL, hacc, hpos, rfl⟩
    have hS2 : SqL K H2 a (nts ns) := SqL.kept hS fun o ho => (ka o ho).1
    refine ⟨_, rfl, _, rfl, a, _, rfl, .inl hS2, _, _, rfl, rfl, _, rfl, ?_⟩
    rw [nts_length]
    by_cases hp : pos < ns.length
    · refine if_true_of' (decide_eq_true (by omega)) ?_
      -- the call that stands here
      have ed : ns.drop pos = ns[pos] :: ns.drop (pos + 1) := List.drop_eq_getElem_cons hp
      rw [ed] at hcs
      obtain ⟨fu', n, cs', hsh, hn, rfl, hcs'⟩ := calls_cons hcs
      rw [List.length_drop] at hn
      cases PL with
      | @cons _ _ _ cl os' hIs PL' =>
      obtain ⟨u, hu1, hu2⟩ := bc (ns[pos]) n hsh
      refine ⟨AnsInv c H a x r ns os0 (ns.length - (pos + (1 + n))), fun σ' H' z => ⟨_, by omega, z⟩, ?_⟩
      -- end = position + 1 + ARGUMENT_COUNTS[calls[position]]
      refine ⟨_, rfl, _, _, rfl, rfl, _, rfl, _, rfl, a, _, _, _, rfl, rfl, hS2, atI_nat (by unfold nts; rw [List.getElem?_map, List.getElem?_eq_getElem hp]; rfl), ?_⟩
      refine ⟨Dd, _, _, es, en, u, rfl, rfl, bl, bk, hu1, hu2, _, _, rfl, rfl, ?_⟩
      -- answer = perform(session, calls[position:end])
      refine ⟨_, rfl, _, rfl, _, rfl, _, rfl, _, rfl, _, rfl, a, _, rfl, hS2, fun p hpN => ?_⟩
      rw [cut_at (by omega)]
      have ecut : (ns.drop pos).take (1 + n) = ns[pos] :: (ns.drop (pos + 1)).take n := by
        rw [ed, Nat.add_comm 1 n, List.take_succ_cons]
      rw [ecut]
      obtain ⟨d2, re2, eo2, mo2, ras2, mas2, S2i⟩ := SA
      have S3 := S2i.kp (T := T0) (Kp.new' (o := .lst (nts (ns[pos] :: (ns.drop (pos + 1)).take n))) hpN) fun _ _ z => z
      refine ⟨g2, ad2, x, p, s2, h2, ns[pos] :: (ns.drop (pos + 1)).take n, cl, rfl, ⟨_, _, _, _, _, _, S3⟩, I2, hIs, upd_same, fun H3 g3 ad3 p3 SA3 hp3 gp3 K3 => ?_⟩
      have tm : ∀ {b : Addr}, g2 b = .mine → ¬ TM (g2 b) := fun h z => z h
      have hrp : r ≠ p := ne_of_none hr2 hpN
      obtain ⟨hr3, gr3⟩ := K3 r _ ((upd_ne hrp).trans hr2) (tm gr2)
      have gr3' := gr3.trans gr2
      have hne : p3 ≠ r := fun e => by rw [e, gr3'] at gp3; cases gp3
      have ka3 : ∀ o, H a = some o → H3 a = some o ∧ g3 a = .mine := fun o ho => by
        obtain ⟨z1, z2⟩ := ka o ho
        obtain ⟨y1, y2⟩ := K3 a o ((upd_ne (ne_of_none z1 hpN)).trans z1) (tm z2)
        exact ⟨y1, y2.trans z2⟩
      have hlen2 : acc.length + (1 + ((s2.step cl).2).length) + (PyFlat.told os').length ≤ 10000000 := by
        have h1 := congrArg List.length hacc
        have h2 : PyFlat.told ((s2.step cl).2 :: os') = (((s2.step cl).2.length : Int) :: (s2.step cl).2) ++ PyFlat.told os' := rfl
        rw [h2] at h1
        simp only [List.length_append, List.length_cons] at h1
        omega
      have line : sizeLine = 16777216 := by decide
      -- results.append(len(answer))
      refine ⟨_, rfl, .inl ⟨rfl, _, SqL.of hr3⟩, _, rfl, p3, _, rfl, .inl (SqL.of hp3), r, _, _, rfl, rfl, hr3, (by rw [nts_length]; omega), ?_⟩
      -- results.extend(answer)
      refine ⟨_, rfl, .inl ⟨rfl, _, SqL.of upd_same⟩, _, rfl, r, p3, _, _, rfl, rfl, upd_same, (upd_ne hne).trans hp3, (by rw [List.length_append, nts_length, nts_length, List.length_singleton]; omega), ?_⟩
      refine ⟨_, rfl, ?_⟩
      obtain ⟨d3, re3, eo3, mo3, ras3, mas3, S3i⟩ := SA3
      have KR : ∀ (y1 y2 : HO), Kp (fun t => t = .mine) g3 H3 g3 (upd (upd H3 r y1) r y2) := fun y1 y2 => (Kp.put gr3').trans (Kp.put gr3')
      obtain ⟨I3, _⟩ := step_ok I2 cl
      refine ⟨g3, ad3, (s2.step cl).1, _, fu', pos + (1 + n), cs', os', acc ++ ((s2.step cl).2.length : Int) :: (s2.step cl).2, some (.int ((pos : Int) + 1 + (n : Int))), some (.ref p3), ?_, ⟨_, _, _, _, _, _, S3i.kp (KR _ _) fun t ht e => ht e⟩, I3, ?_, gr3', fun o ho => ?_, ?_, PL', ?_, by omega, rfl⟩
      · have e5 : (pos : Int) + 1 + (n : Int) = ((pos + (1 + n) : Nat) : Int) := by omega
        show ([_, _, _, some (V.int ((pos : Int) + 1 + (n : Int))), some (V.int ((pos : Int) + 1 + (n : Int))), _] : L2.St) = _
        rw [e5]
      · refine upd_same.trans ?_
        unfold nts
        rw [List.map_append, List.append_assoc, List.length_map]
        rfl
      · obtain ⟨z1, z2⟩ := ka3 o ho
        refine ⟨?_, z2⟩
        rw [upd_ne (ar o ho), upd_ne (ar o ho)]
        exact z1
      · rw [List.drop_drop] at hcs'
        rw [show pos + (1 + n) = pos + 1 + n by omega]
        exact hcs'
      · rw [← hacc, List.append_assoc]
        rfl
    · refine if_false_of' (decide_eq_false (by omega)) ?_
      have e0 : ns.drop pos = [] := List.drop_eq_nil_of_le (by omega)
      rw [e0] at hcs
      have := calls_nil hcs
      subst this
      cases PL
      refine ⟨_, rfl, ?_⟩
      refine q H2 r ?_
      rw [ea, ← hacc]
      show H2 r = some (.lst (nts (acc ++ [])))
      rw [List.append_nil]
      exact hr2
end
end VD
end
section
set_option Elab.async false
set_option maxRecDepth 100000
set_option maxHeartbeats 2000000
namespace VD
open PySem PySem.Spec PyProof.Rows L2
open Sq32 (Deed Letter Counts at_ was may counts House)
section
variable {P : Program} {w : World} {K : PySem.W.Frag} {mg : Str → Option Value} {base : Heap} {c : Cl} {f : Addr} {fd : FuncData}
theorem ne_int {i j : Int} (h : i ≠ j) : decide (V.int i = V.int j) = false := decide_eq_false fun z => h (by injection z)
theorem eq_int {i : Int} : decide (V.int i = V.int i) = true := decide_eq_true rfl
/-- a call of one half: ch tells which -/
def spHalf (c : Cl) (ch : Bool) : Sp := fun vs H Q _ => ∃ (g : Tags) (ad : Deed → Addr) (a u : Addr) (s : Ses) (h : House) (l : List Int) (x : Sq32.Call), vs = [.ref a, .ref u] ∧ SesAt c g ad H a s ∧ SInv s h ∧ Is [l] x ∧ H u = some (.lst (nts l)) ∧ Does c g H a s x Q ∧ decide (l.headD 0 ≤ 5) = ch
theorem sc_change : FnScope ["session", "call", "operation"] ["session", "call"] (defScope sChange) := ⟨rfl, rfl, rfl, by decide +kernel, rfl, by decide +kernel, by decide +kernel⟩
theorem sc_ask : FnScope ["session", "call", "operation"] ["session", "call"] (defScope sAsk) := ⟨rfl, rfl, rfl, by decide +kernel, rfl, by decide +kernel, by decide +kernel⟩
theorem sc_perform : FnScope ["session", "call"] ["session", "call"] (defScope sPerform) := ⟨rfl, rfl, rfl, by decide +kernel, rfl, by decide +kernel, by decide +kernel⟩
theorem ok_change (T : Txt K mg c) (F : Fun K "change" "change" sChange f fd) (M0 : Met P w K mg base 3 c.S "begin" (spBegin c)) (M1 : Met P w K mg base 4 c.S "create" (spCreate c)) (M2 : Met P w K mg base 4 c.S "send" (spSend c)) (M3 : Met P w K mg base 4 c.S "send_one" (spSendOne c)) (M4 : Met P w K mg base 4 c.S "deliver" (spDeliver c)) : FnOk P w K mg base CX0 5 f fd ["session", "call"] (spHalf c true) := by
  refine F.ok sc_change (fun vs H Q E h => ?_) (fun cdv A outer s H vs Q E hr h => ?_)
  · obtain ⟨_, _, _, _, _, _, _, _, rfl, _⟩ := h
    rfl
  · obtain ⟨t1, k1⟩ := T.b1
    obtain ⟨t2, k2⟩ := T.b2
    obtain ⟨t3, k3⟩ := T.b3
    obtain ⟨t4, k4⟩ := T.b4
    refine ⟨_, pss_cons (ps_set (i := 2) sc_change.nd rfl (Or.inl rfl) (pe_ix ix_list (pv 1) pe_int (fun _ _ => rfl)))
      (pss_cons (ps_if (pt_cmpR op_eq (pv 2) (pe_glob (v := .int 1) rfl k1 ⟨_, rfl⟩) (nomark _)) (pss_one (ps_ret (pe_met T.clS M0 hr (by decide) (pv 0) (pa_cons (pe_ix ix_list (pv 1) pe_int (fun _ _ => rfl)) pa_nil)))) pss_nil)
      (pss_cons (ps_if (pt_cmpR op_eq (pv 2) (pe_glob (v := .int 2) rfl k2 ⟨_, rfl⟩) (nomark _)) (pss_one (ps_ret (pe_met T.clS M1 hr (by decide) (pv 0) (pa_cons (pe_ix ix_list (pv 1) pe_int (fun _ _ => rfl)) (pa_cons (pe_ix ix_list (pv 1) pe_int (fun _ _ => rfl)) pa_nil))))) pss_nil)
      (pss_cons (ps_if (pt_cmpR op_eq (pv 2) (pe_glob (v := .int 3) rfl k3 ⟨_, rfl⟩) (nomark _)) (pss_one (ps_ret (pe_met T.clS M2 hr (by decide) (pv 0) (pa_cons (pe_ix ix_list (pv 1) pe_int (fun _ _ => rfl)) (pa_cons (pe_ix ix_list (pv 1) pe_int (fun _ _ => rfl)) pa_nil))))) pss_nil)
      (pss_cons (ps_if (pt_cmpR op_eq (pv 2) (pe_glob (v := .int 4) rfl k4 ⟨_, rfl⟩) (nomark _)) (pss_one (ps_ret (pe_met T.clS M3 hr (by decide) (pv 0) (pa_cons (pe_ix ix_list (pv 1) pe_int (fun _ _ => rfl)) (pa_cons (pe_ix ix_list (pv 1) pe_int (fun _ _ => rfl)) (pa_cons (pe_ix ix_list (pv 1) pe_int (fun _ _ => rfl)) (pa_cons (pe_ix ix_list (pv 1) pe_int (fun _ _ => rfl)) pa_nil))))))) pss_nil)
      (pss_one (ps_ret (pe_met T.clS M4 hr (by decide) (pv 0) (pa_cons (pe_ix ix_list (pv 1) pe_int (fun _ _ => rfl)) pa_nil)))))))), ?_⟩
    obtain ⟨g, ad, a, u, s, h, l, x, rfl, SS, I, hIs, hu, q, hch⟩ := h
    obtain ⟨dx, re, eo, mo, ras, mas, S⟩ := id SS
    cases hIs with
    | begin_ n =>
      refine ⟨_, rfl, u, _, _, _, rfl, rfl, SqL.of hu, rfl, ?_⟩
      refine ⟨_, rfl, rfl, _, rfl, if_true_of' eq_int ?_⟩
      refine ⟨_, rfl, a, dx, _, rfl, S.obj, ss_no (by decide +kernel), _, rfl, u, _, _, _, rfl, rfl, SqL.of hu, rfl, ?_⟩
      exact ⟨g, ad, a, s, n, rfl, SS, q⟩
    | does k v =>
      refine ⟨_, rfl, u, _, _, _, rfl, rfl, SqL.of hu, rfl, ?_⟩
      refine ⟨_, rfl, rfl, _, rfl, if_false_of' (ne_int (by decide)) ?_⟩
      refine ⟨_, rfl, rfl, _, rfl, if_true_of' eq_int ?_⟩
      refine ⟨_, rfl, a, dx, _, rfl, S.obj, ss_no (by decide +kernel), _, rfl, u, _, _, _, rfl, rfl, SqL.of hu, rfl, _, rfl, u, _, _, _, rfl, rfl, SqL.of hu, rfl, ?_⟩
      exact ⟨g, ad, a, s, h, k, v, rfl, SS, I, q⟩
    | send k j =>
      refine ⟨_, rfl, u, _, _, _, rfl, rfl, SqL.of hu, rfl, ?_⟩
      refine ⟨_, rfl, rfl, _, rfl, if_false_of' (ne_int (by decide)) ?_⟩
      refine ⟨_, rfl, rfl, _, rfl, if_false_of' (ne_int (by decide)) ?_⟩
      refine ⟨_, rfl, rfl, _, rfl, if_true_of' eq_int ?_⟩
      refine ⟨_, rfl, a, dx, _, rfl, S.obj, ss_no (by decide +kernel), _, rfl, u, _, _, _, rfl, rfl, SqL.of hu, rfl, _, rfl, u, _, _, _, rfl, rfl, SqL.of hu, rfl, ?_⟩
      exact ⟨g, ad, a, s, h, k, j, rfl, SS, I, q⟩
    | post k j d n =>
      refine ⟨_, rfl, u, _, _, _, rfl, rfl, SqL.of hu, rfl, ?_⟩
      refine ⟨_, rfl, rfl, _, rfl, if_false_of' (ne_int (by decide)) ?_⟩
      refine ⟨_, rfl, rfl, _, rfl, if_false_of' (ne_int (by decide)) ?_⟩
      refine ⟨_, rfl, rfl, _, rfl, if_false_of' (ne_int (by decide)) ?_⟩
      refine ⟨_, rfl, rfl, _, rfl, if_true_of' eq_int ?_⟩
      refine ⟨_, rfl, a, dx, _, rfl, S.obj, ss_no (by decide +kernel), _, rfl, u, _, _, _, rfl, rfl, SqL.of hu, rfl, _, rfl, u, _, _, _, rfl, rfl, SqL.of hu, rfl, _, rfl, u, _, _, _, rfl, rfl, SqL.of hu, rfl, _, rfl, u, _, _, _, rfl, rfl, SqL.of hu, rfl, ?_⟩
      exact ⟨g, ad, a, s, h, k, j, d, n, rfl, SS, I, q⟩
    | comes i =>
      refine ⟨_, rfl, u, _, _, _, rfl, rfl, SqL.of hu, rfl, ?_⟩
      refine ⟨_, rfl, rfl, _, rfl, if_false_of' (ne_int (by decide)) ?_⟩
      refine ⟨_, rfl, rfl, _, rfl, if_false_of' (ne_int (by decide)) ?_⟩
      refine ⟨_, rfl, rfl, _, rfl, if_false_of' (ne_int (by decide)) ?_⟩
      refine ⟨_, rfl, rfl, _, rfl, if_false_of' (ne_int (by decide)) ?_⟩
      refine ⟨_, rfl, a, dx, _, rfl, S.obj, ss_no (by decide +kernel), _, rfl, u, _, _, _, rfl, rfl, SqL.of hu, rfl, ?_⟩
      exact ⟨g, ad, a, s, h, i, rfl, SS, I, q⟩
    | taken k =>
      exact absurd (show decide ((6 : Int) ≤ 5) = true from hch) (by decide)
    | waits k =>
      exact absurd (show decide ((7 : Int) ≤ 5) = true from hch) (by decide)
    | has k =>
      exact absurd (show decide ((8 : Int) ≤ 5) = true from hch) (by decide)
    | sure k j =>
      exact absurd (show decide ((9 : Int) ≤ 5) = true from hch) (by decide)
    | all k =>
      exact absurd (show decide ((10 : Int) ≤ 5) = true from hch) (by decide)
    | hangs d n e m =>
      exact absurd (show decide ((11 : Int) ≤ 5) = true from hch) (by decide)
    | letter i =>
      exact absurd (show decide ((12 : Int) ≤ 5) = true from hch) (by decide)
theorem ok_ask (T : Txt K mg c) (F : Fun K "ask" "ask" sAsk f fd) (M0 : Met P w K mg base 2 c.S "list_applied" (spListApplied c)) (M1 : Met P w K mg base 2 c.S "list_pending" (spListPending c)) (M2 : Met P w K mg base 2 c.S "list_vector" (spListVector c)) (M3 : Met P w K mg base 2 c.S "list_known" (spListKnown c)) (M4 : Met P w K mg base 3 c.S "list_stable" (spListStable c)) (M5 : Met P w K mg base 2 c.S "compare" (spCompare c)) (M6 : Met P w K mg base 2 c.S "list_message" (spListMessage c)) : FnOk P w K mg base CX0 4 f fd ["session", "call"] (spHalf c false) := by
  refine F.ok sc_ask (fun vs H Q E h => ?_) (fun cdv A outer s H vs Q E hr h => ?_)
  · obtain ⟨_, _, _, _, _, _, _, _, rfl, _⟩ := h
    rfl
  · obtain ⟨t6, k6⟩ := T.b6
    obtain ⟨t7, k7⟩ := T.b7
    obtain ⟨t8, k8⟩ := T.b8
    obtain ⟨t9, k9⟩ := T.b9
    obtain ⟨t10, k10⟩ := T.b10
    obtain ⟨t11, k11⟩ := T.b11
    refine ⟨_, pss_cons (ps_set (i := 2) sc_ask.nd rfl (Or.inl rfl) (pe_ix ix_list (pv 1) pe_int (fun _ _ => rfl)))
      (pss_cons (ps_if (pt_cmpR op_eq (pv 2) (pe_glob (v := .int 6) rfl k6 ⟨_, rfl⟩) (nomark _)) (pss_one (ps_ret (pe_met T.clS M0 hr (by decide) (pv 0) (pa_cons (pe_ix ix_list (pv 1) pe_int (fun _ _ => rfl)) pa_nil)))) pss_nil)
      (pss_cons (ps_if (pt_cmpR op_eq (pv 2) (pe_glob (v := .int 7) rfl k7 ⟨_, rfl⟩) (nomark _)) (pss_one (ps_ret (pe_met T.clS M1 hr (by decide) (pv 0) (pa_cons (pe_ix ix_list (pv 1) pe_int (fun _ _ => rfl)) pa_nil)))) pss_nil)
      (pss_cons (ps_if (pt_cmpR op_eq (pv 2) (pe_glob (v := .int 8) rfl k8 ⟨_, rfl⟩) (nomark _)) (pss_one (ps_ret (pe_met T.clS M2 hr (by decide) (pv 0) (pa_cons (pe_ix ix_list (pv 1) pe_int (fun _ _ => rfl)) pa_nil)))) pss_nil)
      (pss_cons (ps_if (pt_cmpR op_eq (pv 2) (pe_glob (v := .int 9) rfl k9 ⟨_, rfl⟩) (nomark _)) (pss_one (ps_ret (pe_met T.clS M3 hr (by decide) (pv 0) (pa_cons (pe_ix ix_list (pv 1) pe_int (fun _ _ => rfl)) (pa_cons (pe_ix ix_list (pv 1) pe_int (fun _ _ => rfl)) pa_nil))))) pss_nil)
      (pss_cons (ps_if (pt_cmpR op_eq (pv 2) (pe_glob (v := .int 10) rfl k10 ⟨_, rfl⟩) (nomark _)) (pss_one (ps_ret (pe_met T.clS M4 hr (by decide) (pv 0) (pa_cons (pe_ix ix_list (pv 1) pe_int (fun _ _ => rfl)) pa_nil)))) pss_nil)
      (pss_cons (ps_if (pt_cmpR op_eq (pv 2) (pe_glob (v := .int 11) rfl k11 ⟨_, rfl⟩) (nomark _)) (pss_one (ps_ret (pe_met T.clS M5 hr (by decide) (pv 0) (pa_cons (pe_ix ix_list (pv 1) pe_int (fun _ _ => rfl)) (pa_cons (pe_ix ix_list (pv 1) pe_int (fun _ _ => rfl)) (pa_cons (pe_ix ix_list (pv 1) pe_int (fun _ _ => rfl)) (pa_cons (pe_ix ix_list (pv 1) pe_int (fun _ _ => rfl)) pa_nil))))))) pss_nil)
      (pss_one (ps_ret (pe_met T.clS M6 hr (by decide) (pv 0) (pa_cons (pe_ix ix_list (pv 1) pe_int (fun _ _ => rfl)) pa_nil)))))))))), ?_⟩
    obtain ⟨g, ad, a, u, s, h, l, x, rfl, SS, I, hIs, hu, q, hch⟩ := h
    obtain ⟨dx, re, eo, mo, ras, mas, S⟩ := id SS
    cases hIs with
    | begin_ n =>
      exact absurd (show decide ((1 : Int) ≤ 5) = false from hch) (by decide)
    | does k v =>
      exact absurd (show decide ((2 : Int) ≤ 5) = false from hch) (by decide)
    | send k j =>
      exact absurd (show decide ((3 : Int) ≤ 5) = false from hch) (by decide)
    | post k j d n =>
      exact absurd (show decide ((4 : Int) ≤ 5) = false from hch) (by decide)
    | comes i =>
      exact absurd (show decide ((5 : Int) ≤ 5) = false from hch) (by decide)
    | taken k =>
      refine ⟨_, rfl, u, _, _, _, rfl, rfl, SqL.of hu, rfl, ?_⟩
      refine ⟨_, rfl, rfl, _, rfl, if_true_of' eq_int ?_⟩
      refine ⟨_, rfl, a, dx, _, rfl, S.obj, ss_no (by decide +kernel), _, rfl, u, _, _, _, rfl, rfl, SqL.of hu, rfl, ?_⟩
      exact ⟨g, ad, a, s, h, k, rfl, SS, I, q⟩
    | waits k =>
      refine ⟨_, rfl, u, _, _, _, rfl, rfl, SqL.of hu, rfl, ?_⟩
      refine ⟨_, rfl, rfl, _, rfl, if_false_of' (ne_int (by decide)) ?_⟩
      refine ⟨_, rfl, rfl, _, rfl, if_true_of' eq_int ?_⟩
      refine ⟨_, rfl, a, dx, _, rfl, S.obj, ss_no (by decide +kernel), _, rfl, u, _, _, _, rfl, rfl, SqL.of hu, rfl, ?_⟩
      exact ⟨g, ad, a, s, h, k, rfl, SS, I, q⟩
    | has k =>
      refine ⟨_, rfl, u, _, _, _, rfl, rfl, SqL.of hu, rfl, ?_⟩
      refine ⟨_, rfl, rfl, _, rfl, if_false_of' (ne_int (by decide)) ?_⟩
      refine ⟨_, rfl, rfl, _, rfl, if_false_of' (ne_int (by decide)) ?_⟩
      refine ⟨_, rfl, rfl, _, rfl, if_true_of' eq_int ?_⟩
      refine ⟨_, rfl, a, dx, _, rfl, S.obj, ss_no (by decide +kernel), _, rfl, u, _, _, _, rfl, rfl, SqL.of hu, rfl, ?_⟩
      exact ⟨g, ad, a, s, h, k, rfl, SS, I, q⟩
    | sure k j =>
      refine ⟨_, rfl, u, _, _, _, rfl, rfl, SqL.of hu, rfl, ?_⟩
      refine ⟨_, rfl, rfl, _, rfl, if_false_of' (ne_int (by decide)) ?_⟩
      refine ⟨_, rfl, rfl, _, rfl, if_false_of' (ne_int (by decide)) ?_⟩
      refine ⟨_, rfl, rfl, _, rfl, if_false_of' (ne_int (by decide)) ?_⟩
      refine ⟨_, rfl, rfl, _, rfl, if_true_of' eq_int ?_⟩
      refine ⟨_, rfl, a, dx, _, rfl, S.obj, ss_no (by decide +kernel), _, rfl, u, _, _, _, rfl, rfl, SqL.of hu, rfl, _, rfl, u, _, _, _, rfl, rfl, SqL.of hu, rfl, ?_⟩
      exact ⟨g, ad, a, s, h, k, j, rfl, SS, I, q⟩
    | all k =>
      refine ⟨_, rfl, u, _, _, _, rfl, rfl, SqL.of hu, rfl, ?_⟩
      refine ⟨_, rfl, rfl, _, rfl, if_false_of' (ne_int (by decide)) ?_⟩
      refine ⟨_, rfl, rfl, _, rfl, if_false_of' (ne_int (by decide)) ?_⟩
      refine ⟨_, rfl, rfl, _, rfl, if_false_of' (ne_int (by decide)) ?_⟩
      refine ⟨_, rfl, rfl, _, rfl, if_false_of' (ne_int (by decide)) ?_⟩
      refine ⟨_, rfl, rfl, _, rfl, if_true_of' eq_int ?_⟩
      refine ⟨_, rfl, a, dx, _, rfl, S.obj, ss_no (by decide +kernel), _, rfl, u, _, _, _, rfl, rfl, SqL.of hu, rfl, ?_⟩
      exact ⟨g, ad, a, s, h, k, rfl, SS, I, q⟩
    | hangs d n e m =>
      refine ⟨_, rfl, u, _, _, _, rfl, rfl, SqL.of hu, rfl, ?_⟩
      refine ⟨_, rfl, rfl, _, rfl, if_false_of' (ne_int (by decide)) ?_⟩
      refine ⟨_, rfl, rfl, _, rfl, if_false_of' (ne_int (by decide)) ?_⟩
      refine ⟨_, rfl, rfl, _, rfl, if_false_of' (ne_int (by decide)) ?_⟩
      refine ⟨_, rfl, rfl, _, rfl, if_false_of' (ne_int (by decide)) ?_⟩
      refine ⟨_, rfl, rfl, _, rfl, if_false_of' (ne_int (by decide)) ?_⟩
      refine ⟨_, rfl, rfl, _, rfl, if_true_of' eq_int ?_⟩
      refine ⟨_, rfl, a, dx, _, rfl, S.obj, ss_no (by decide +kernel), _, rfl, u, _, _, _, rfl, rfl, SqL.of hu, rfl, _, rfl, u, _, _, _, rfl, rfl, SqL.of hu, rfl, _, rfl, u, _, _, _, rfl, rfl, SqL.of hu, rfl, _, rfl, u, _, _, _, rfl, rfl, SqL.of hu, rfl, ?_⟩
      exact ⟨g, ad, a, s, h, d, n, e, m, rfl, SS, I, q⟩
    | letter i =>
      refine ⟨_, rfl, u, _, _, _, rfl, rfl, SqL.of hu, rfl, ?_⟩
      refine ⟨_, rfl, rfl, _, rfl, if_false_of' (ne_int (by decide)) ?_⟩
      refine ⟨_, rfl, rfl, _, rfl, if_false_of' (ne_int (by decide)) ?_⟩
      refine ⟨_, rfl, rfl, _, rfl, if_false_of' (ne_int (by decide)) ?_⟩
      refine ⟨_, rfl, rfl, _, rfl, if_false_of' (ne_int (by decide)) ?_⟩
      refine ⟨_, rfl, rfl, _, rfl, if_false_of' (ne_int (by decide)) ?_⟩
      refine ⟨_, rfl, rfl, _, rfl, if_false_of' (ne_int (by decide)) ?_⟩
      refine ⟨_, rfl, a, dx, _, rfl, S.obj, ss_no (by decide +kernel), _, rfl, u, _, _, _, rfl, rfl, SqL.of hu, rfl, ?_⟩
      exact ⟨g, ad, a, s, h, i, rfl, SS, I, q⟩
theorem ok_perform (T : Txt K mg c) (F : Fun K "perform" "perform" sPerform f fd) (MC : Cal P w K mg base 5 "change" (spHalf c true)) (MA : Cal P w K mg base 4 "ask" (spHalf c false)) : FnOk P w K mg base CX0 6 f fd ["session", "call"] (spPerform c) := by
  refine F.ok sc_perform (fun vs H Q E h => ?_) (fun cdv A outer s H vs Q E hr h => ?_)
  · obtain ⟨_, _, _, _, _, _, _, _, rfl, _⟩ := h
    rfl
  · obtain ⟨t5, k5⟩ := T.b5
    refine ⟨_, pss_cons (ps_if (pt_cmpR op_le (pe_ix ix_list (pv 1) pe_int (fun _ _ => rfl)) (pe_glob (v := .int 5) rfl k5 ⟨_, rfl⟩) (nomark _)) (pss_one (ps_ret (pe_cal MC hr (by decide) rfl (pa_cons (pv 0) (pa_cons (pv 1) pa_nil))))) pss_nil)
      (pss_one (ps_ret (pe_cal MA hr (by decide) rfl (pa_cons (pv 0) (pa_cons (pv 1) pa_nil))))), ?_⟩
    obtain ⟨g, ad, a, u, s, h, l, x, rfl, SS, I, hIs, hu, q⟩ := h
    have hl : atI (nts l) 0 = some (.int (l.headD 0)) := by
      cases hIs <;> rfl
    refine ⟨_, rfl, u, _, _, _, rfl, rfl, SqL.of hu, hl, _, _, rfl, rfl, _, rfl, ?_⟩
    by_cases e : l.headD 0 ≤ 5
    · refine if_true_of' (decide_eq_true e) ⟨_, rfl, _, rfl, ?_⟩
      exact ⟨g, ad, a, u, s, h, l, x, rfl, SS, I, hIs, hu, q, decide_eq_true e⟩
    · refine if_false_of' (decide_eq_false e) ⟨_, rfl, _, rfl, ?_⟩
      exact ⟨g, ad, a, u, s, h, l, x, rfl, SS, I, hIs, hu, q, decide_eq_false e⟩
end
end VD
end
section
set_option Elab.async false
set_option linter.all false
set_option maxRecDepth 100000
set_option maxHeartbeats 0
namespace VD
open PySem PySem.Spec PyProof.Rows L2
open Sq32 (Deed Letter Counts at_ was may counts House)
/-! ### the written table of counts -/
def table : List (Int × Nat) := [(1, 1), (2, 2), (3, 2), (4, 4), (5, 1), (6, 1), (7, 1), (8, 1), (9, 2), (10, 1), (11, 4), (12, 1)]
def tabV (es : Array DictEntry) : Bool := table.all fun q => match findBy Value.isInt es q.1 with
  | some u => He.relB (.int (q.2 : Int)) u
  | none => false
def tabB (K : PySem.W.Frag) (a : Addr) : Bool := match K.lookup a with
  | some ⟨.type c, none, .dict es _, sl⟩ => decide (c = "dict") && (sl.isEmpty && (intKeys es && tabV es))
  | _ => false
theorem ite_mem {p z : Int} {a n : Nat} {L : List (Int × Nat)} {E : Option (Nat × Nat)} (h : (if p = z then some (a, 0) else E) = some (n, 0)) (hL : (z, a) ∈ L) (hE : E = some (n, 0) → (p, n) ∈ L) : (p, n) ∈ L := by
  by_cases e : p = z
  · rw [if_pos e] at h
    injection h with h
    injection h with h _
    rw [e, ← h]
    exact hL
  · rw [if_neg e] at h
    exact hE h
theorem shape_mem {p : Int} {n : Nat} (h : PySq32.shape p = some (n, 0)) : (p, n) ∈ table := by
  unfold PySq32.shape at h
  refine ite_mem h (by decide) fun h => ite_mem h (by decide) fun h => ite_mem h (by decide) fun h => ite_mem h (by decide) fun h => ite_mem h (by decide) fun h => ite_mem h (by decide) fun h => ite_mem h (by decide) fun h => ite_mem h (by decide) fun h => ite_mem h (by decide) fun h => ite_mem h (by decide) fun h => ite_mem h (by decide) fun h => ite_mem h (by decide) fun h => ?_
  cases h
theorem tabB_ok {K : PySem.W.Frag} {a : Addr} (h : tabB K a = true) : ∃ (es : Array DictEntry) (n : Nat), K.lookup a = some ⟨.type "dict", none, .dict es n, #[]⟩ ∧ intKeys es = true ∧ ∀ p, cntOk es p := by
  unfold tabB at h
  split at h
  · rename_i cn es n sl hK
    simp only [Bool.and_eq_true, decide_eq_true_eq, Array.isEmpty_iff] at h
    obtain ⟨e1, e2, keys, vals⟩ := h
    subst e1 e2
    refine ⟨es, n, hK, keys, fun p m hm => ?_⟩
    have told := List.all_eq_true.mp vals _ (shape_mem hm)
    dsimp only at told
    split at told
    · rename_i u hu
      exact ⟨u, hu, He.relB_ok told⟩
    · cases told
  · cases h
/-! ### the facts that the head looks at -/
def d_evI : He.DefD := ⟨("Event", some "__init__"), "__init__", "Event.__init__", defArgs sEvI, defBody sEvI, defScope sEvI, [], []⟩
def d_dep : He.DefD := ⟨("Event", some "depends_on"), "depends_on", "Event.depends_on", defArgs sDependsOn, defBody sDependsOn, defScope sDependsOn, [], []⟩
def d_key : He.DefD := ⟨("pending_place", none), "pending_place", "pending_place", defArgs sKey, defBody sKey, defScope sKey, [], []⟩
def d_fe : He.DefD := ⟨("find_event", none), "find_event", "find_event", defArgs sFindEvent, defBody sFindEvent, defScope sFindEvent, [], []⟩
def d_le : He.DefD := ⟨("list_events", none), "list_events", "list_events", defArgs sListEvents, defBody sListEvents, defScope sListEvents, [], []⟩
def d_msI : He.DefD := ⟨("Message", some "__init__"), "__init__", "Message.__init__", defArgs sMsI, defBody sMsI, defScope sMsI, [], []⟩
def d_rpI : He.DefD := ⟨("Replica", some "__init__"), "__init__", "Replica.__init__", defArgs sRpI, defBody sRpI, defScope sRpI, [], []⟩
def d_has : He.DefD := ⟨("Replica", some "has_applied"), "has_applied", "Replica.has_applied", defArgs sHasApplied, defBody sHasApplied, defScope sHasApplied, [], []⟩
def d_can : He.DefD := ⟨("Replica", some "can_apply"), "can_apply", "Replica.can_apply", defArgs sCanApply, defBody sCanApply, defScope sCanApply, [], []⟩
def d_apply : He.DefD := ⟨("Replica", some "apply"), "apply", "Replica.apply", defArgs sApply, defBody sApply, defScope sApply, [], []⟩
def d_rcreate : He.DefD := ⟨("Replica", some "create"), "create", "Replica.create", defArgs sRCreate, defBody sRCreate, defScope sRCreate, [], []⟩
def d_for_ : He.DefD := ⟨("Replica", some "events_for"), "events_for", "Replica.events_for", defArgs sEventsFor, defBody sEventsFor, defScope sEventsFor, [], []⟩
def d_add : He.DefD := ⟨("Replica", some "add_pending"), "add_pending", "Replica.add_pending", defArgs sAddPending, defBody sAddPending, defScope sAddPending, [], []⟩
def d_first : He.DefD := ⟨("Replica", some "first_applicable"), "first_applicable", "Replica.first_applicable", defArgs sFirst, defBody sFirst, defScope sFirst, [], []⟩
def d_receive : He.DefD := ⟨("Replica", some "receive"), "receive", "Replica.receive", defArgs sReceive, defBody sReceive, defScope sReceive, [], []⟩
def d_learn : He.DefD := ⟨("Replica", some "learn"), "learn", "Replica.learn", defArgs sLearn, defBody sLearn, defScope sLearn, [], []⟩
def d_least : He.DefD := ⟨("Replica", some "least_known"), "least_known", "Replica.least_known", defArgs sLeastKnown, defBody sLeastKnown, defScope sLeastKnown, [], []⟩
def d_stable : He.DefD := ⟨("Replica", some "stable_vector"), "stable_vector", "Replica.stable_vector", defArgs sStableVector, defBody sStableVector, defScope sStableVector, [], []⟩
def d_ssI : He.DefD := ⟨("Session", some "__init__"), "__init__", "Session.__init__", defArgs sSsI, defBody sSsI, defScope sSsI, [], []⟩
def d_hasReplica : He.DefD := ⟨("Session", some "has_replica"), "has_replica", "Session.has_replica", defArgs sHasReplica, defBody sHasReplica, defScope sHasReplica, [], []⟩
def d_hasMessage : He.DefD := ⟨("Session", some "has_message"), "has_message", "Session.has_message", defArgs sHasMessage, defBody sHasMessage, defScope sHasMessage, [], []⟩
def d_canConnect : He.DefD := ⟨("Session", some "can_connect"), "can_connect", "Session.can_connect", defArgs sCanConnect, defBody sCanConnect, defScope sCanConnect, [], []⟩
def d_hasRoom : He.DefD := ⟨("Session", some "has_room_for_message"), "has_room_for_message", "Session.has_room_for_message", defArgs sHasRoom, defBody sHasRoom, defScope sHasRoom, [], []⟩
def d_addMessage : He.DefD := ⟨("Session", some "add_message"), "add_message", "Session.add_message", defArgs sAddMessage, defBody sAddMessage, defScope sAddMessage, [], []⟩
def d_begin_ : He.DefD := ⟨("Session", some "begin"), "begin", "Session.begin", defArgs sBegin, defBody sBegin, defScope sBegin, [], []⟩
def d_create : He.DefD := ⟨("Session", some "create"), "create", "Session.create", defArgs sCreate, defBody sCreate, defScope sCreate, [], []⟩
def d_send : He.DefD := ⟨("Session", some "send"), "send", "Session.send", defArgs sSend, defBody sSend, defScope sSend, [], []⟩
def d_sendOne : He.DefD := ⟨("Session", some "send_one"), "send_one", "Session.send_one", defArgs sSendOne, defBody sSendOne, defScope sSendOne, [], []⟩
def d_deliver : He.DefD := ⟨("Session", some "deliver"), "deliver", "Session.deliver", defArgs sDeliver, defBody sDeliver, defScope sDeliver, [], []⟩
def d_listApplied : He.DefD := ⟨("Session", some "list_applied"), "list_applied", "Session.list_applied", defArgs sListApplied, defBody sListApplied, defScope sListApplied, [], []⟩
def d_listPending : He.DefD := ⟨("Session", some "list_pending"), "list_pending", "Session.list_pending", defArgs sListPending, defBody sListPending, defScope sListPending, [], []⟩
def d_listVector : He.DefD := ⟨("Session", some "list_vector"), "list_vector", "Session.list_vector", defArgs sListVector, defBody sListVector, defScope sListVector, [], []⟩
def d_listKnown : He.DefD := ⟨("Session", some "list_known"), "list_known", "Session.list_known", defArgs sListKnown, defBody sListKnown, defScope sListKnown, [], []⟩
def d_listStable : He.DefD := ⟨("Session", some "list_stable"), "list_stable", "Session.list_stable", defArgs sListStable, defBody sListStable, defScope sListStable, [], []⟩
def d_compare : He.DefD := ⟨("Session", some "compare"), "compare", "Session.compare", defArgs sCompare, defBody sCompare, defScope sCompare, [], []⟩
def d_listMessage : He.DefD := ⟨("Session", some "list_message"), "list_message", "Session.list_message", defArgs sListMessage, defBody sListMessage, defScope sListMessage, [], []⟩
def d_change : He.DefD := ⟨("change", none), "change", "change", defArgs sChange, defBody sChange, defScope sChange, [], []⟩
def d_ask : He.DefD := ⟨("ask", none), "ask", "ask", defArgs sAsk, defBody sAsk, defScope sAsk, [], []⟩
def d_perform : He.DefD := ⟨("perform", none), "perform", "perform", defArgs sPerform, defBody sPerform, defScope sPerform, [], []⟩
def d_answers : He.DefD := ⟨("answers", none), "answers", "answers", defArgs sAnswers, defBody sAnswers, defScope sAnswers, [], []⟩
def fn : List He.DefD := [d_evI, d_dep, d_key, d_fe, d_le, d_msI, d_rpI, d_has, d_can, d_apply, d_rcreate, d_for_, d_add, d_first, d_receive, d_learn, d_least, d_stable, d_ssI, d_hasReplica, d_hasMessage, d_canConnect, d_hasRoom, d_addMessage, d_begin_, d_create, d_send, d_sendOne, d_deliver, d_listApplied, d_listPending, d_listVector, d_listKnown, d_listStable, d_compare, d_listMessage, d_change, d_ask, d_perform, d_answers]
def fa : List He.Fa := [
  .cls "Event", .cls "Message", .cls "Replica", .cls "Session", .noat "Event" "origin", .noat "Event" "number", .noat "Event" "value", .noat "Event" "dependencies",
  .noat "Message" "sender", .noat "Message" "receiver", .noat "Message" "vector", .noat "Message" "events", .noat "Replica" "place", .noat "Replica" "applied", .noat "Replica" "pending", .noat "Replica" "known",
  .noat "Replica" "vector", .noat "Session" "replicas", .noat "Session" "events", .noat "Session" "messages", .glo "Event", .glo "Message", .glo "Replica", .glo "Session",
  .int "MOST_REPLICAS" (6), .int "MOST_EVENTS" (60), .int "MOST_MESSAGES" (200), .int "HIGHEST_VALUE" (1000000000), .int "OUT_OF_RANGE" (-1), .int "NOT_THERE" (-2), .int "NOT_APPLIED" (-3), .int "TOO_MANY" (-5),
  .int "UNRELATED" (0), .int "FIRST_IS_EARLIER" (1), .int "SECOND_IS_EARLIER" (2), .int "BEGIN" (1), .int "CREATE" (2), .int "SEND" (3), .int "SEND_ONE" (4), .int "DELIVER" (5),
  .int "APPLIED" (6), .int "PENDING" (7), .int "VECTOR" (8), .int "KNOWN" (9), .int "STABLE" (10), .int "COMPARE" (11), .free "len", .free "range",
  .free "zip", .free "all", .free "max", .free "min", .free "list", .free "sorted", .mkr "Event", .meth "Event" "depends_on",
  .glo "pending_place", .glo "find_event", .glo "list_events", .mkr "Message", .mkr "Replica", .meth "Replica" "has_applied", .meth "Replica" "can_apply", .meth "Replica" "apply",
  .meth "Replica" "create", .meth "Replica" "events_for", .meth "Replica" "add_pending", .meth "Replica" "first_applicable", .meth "Replica" "receive", .meth "Replica" "learn", .meth "Replica" "least_known", .meth "Replica" "stable_vector",
  .mkr "Session", .meth "Session" "has_replica", .meth "Session" "has_message", .meth "Session" "can_connect", .meth "Session" "has_room_for_message", .meth "Session" "add_message", .meth "Session" "begin", .meth "Session" "create",
  .meth "Session" "send", .meth "Session" "send_one", .meth "Session" "deliver", .meth "Session" "list_applied", .meth "Session" "list_pending", .meth "Session" "list_vector", .meth "Session" "list_known", .meth "Session" "list_stable",
  .meth "Session" "compare", .meth "Session" "list_message", .glo "change", .glo "ask", .glo "perform", .glo "answers", .glo "ARGUMENT_COUNTS"]
def ex (K : PySem.W.Frag) : Bool := decide (PySem.W.mroIn K (He.ga K "Event") (.type "object") = some true) && (He.eqO (PySem.W.findIn K (.ref (He.ga K "Event")) "__eq__") (some (some (.builtin "object.__eq__"))) && tabB K (He.ga K "ARGUMENT_COUNTS"))
theorem fun_of {K : PySem.W.Frag} {x qual : Str} {st : Stmt} {f : Addr} {fd : FuncData} (F : FunD K x qual (defArgs st) (defBody st) (defScope st) [] [] f fd) : Fun K x qual st f fd := by
  obtain ⟨oc, od, dV, kV, doc, pm, an, cdv, ct, osl, e, lk, hc, hd, _⟩ := F.ex
  rcases hd with ⟨_, rfl⟩ | ⟨e2, _⟩
  · exact ⟨⟨oc, od, kV, doc, pm, an, cdv, ct, osl, e, lk, hc⟩, F.kp⟩
  · exact absurd rfl e2
section
variable {P : Program} {w : World} {K : PySem.W.Frag} {h : Heap} {mg : Str → Option Value} {f : Addr}
def cl (K : PySem.W.Frag) : Cl := ⟨He.ga K "Event", He.ga K "Message", He.ga K "Replica", He.ga K "Session"⟩
theorem txt_of (X : K.In h) (G : h.Ns mainGlobals mg) (c : He.SaysX fa fn [] [] ex w h K) : Txt K mg (cl K) := by
  have D := c.t.d
  obtain ⟨x1, x2⟩ := He.ba c.more
  obtain ⟨x2, _⟩ := He.ba x2
  have oE := of_decide_eq_true x1
  have qE := He.eqO_ok x2
  exact ⟨He.cls_ok (D.fact 0 rfl), He.cls_ok (D.fact 1 rfl), He.cls_ok (D.fact 2 rfl), He.cls_ok (D.fact 3 rfl), He.noat_ok (D.fact 4 rfl), He.noat_ok (D.fact 5 rfl),
    He.noat_ok (D.fact 6 rfl), He.noat_ok (D.fact 7 rfl), He.noat_ok (D.fact 8 rfl), He.noat_ok (D.fact 9 rfl), He.noat_ok (D.fact 10 rfl), He.noat_ok (D.fact 11 rfl),
    He.noat_ok (D.fact 12 rfl), He.noat_ok (D.fact 13 rfl), He.noat_ok (D.fact 14 rfl), He.noat_ok (D.fact 15 rfl), He.noat_ok (D.fact 16 rfl), He.noat_ok (D.fact 17 rfl),
    He.noat_ok (D.fact 18 rfl), He.noat_ok (D.fact 19 rfl), He.glo_ok X G (D.fact 20 rfl), He.glo_ok X G (D.fact 21 rfl), He.glo_ok X G (D.fact 22 rfl), He.glo_ok X G (D.fact 23 rfl),
    He.int_ok X G (D.fact 24 rfl), He.int_ok X G (D.fact 25 rfl), He.int_ok X G (D.fact 26 rfl), He.int_ok X G (D.fact 27 rfl), He.int_ok X G (D.fact 28 rfl), He.int_ok X G (D.fact 29 rfl),
    He.int_ok X G (D.fact 30 rfl), He.int_ok X G (D.fact 31 rfl), He.int_ok X G (D.fact 32 rfl), He.int_ok X G (D.fact 33 rfl), He.int_ok X G (D.fact 34 rfl), He.int_ok X G (D.fact 35 rfl),
    He.int_ok X G (D.fact 36 rfl), He.int_ok X G (D.fact 37 rfl), He.int_ok X G (D.fact 38 rfl), He.int_ok X G (D.fact 39 rfl), He.int_ok X G (D.fact 40 rfl), He.int_ok X G (D.fact 41 rfl),
    He.int_ok X G (D.fact 42 rfl), He.int_ok X G (D.fact 43 rfl), He.int_ok X G (D.fact 44 rfl), He.int_ok X G (D.fact 45 rfl), He.free_ok X G (D.fact 46 rfl), He.free_ok X G (D.fact 47 rfl),
    He.free_ok X G (D.fact 48 rfl), He.free_ok X G (D.fact 49 rfl), He.free_ok X G (D.fact 50 rfl), He.free_ok X G (D.fact 51 rfl), He.free_ok X G (D.fact 52 rfl), He.free_ok X G (D.fact 53 rfl),
    oE, qE⟩
theorem tab_of (X : K.In h) (G : h.Ns mainGlobals mg) (c : He.SaysX fa fn [] [] ex w h K) : Tab K mg := by
  have D := c.t.d
  obtain ⟨_, x2⟩ := He.ba c.more
  obtain ⟨_, x3⟩ := He.ba x2
  obtain ⟨es, n, h1, h2, h3⟩ := tabB_ok x3
  exact ⟨He.ga K "ARGUMENT_COUNTS", es, n, He.glo_ok X G (D.fact 94 rfl), h1, h2, h3⟩
theorem facts (X : K.In h) (G : h.Ns mainGlobals mg) (hfa : mg ("answers" : Str) = some (.ref f)) (c : He.SaysX fa fn [] [] ex w h K) :
    ∃ fd : FuncData, (∀ (s : Shared) (us : List Value), us.length = (["calls"] : List Str).length → BindsTo s fd ⟨us, []⟩ ((["calls"] : List Str).zip us)) ∧ ∀ base : Heap, K.In base → base.Ns mainGlobals mg → FnOk P w K mg base CX0 7 f fd ["calls"] (spAns K) := by
  have T := txt_of X G c
  have B := tab_of X G c
  have D := c.t.d
  obtain ⟨fd_evI, E_evI⟩ := D.def_ 0 (d := d_evI) rfl
  have F_evI : Fun K "__init__" "Event.__init__" sEvI (He.ma K (He.ga K "Event") "__init__") fd_evI := fun_of E_evI
  have b_evI : Binds K fd_evI ["self", "origin", "number", "value", "dependencies"] [] := F_evI.binds (ps := ["self", "origin", "number", "value", "dependencies"]) fun _ _ _ _ _ _ us hl => match us, hl with | [_, _, _, _, _], _ => rfl
  obtain ⟨fd_dep, E_dep⟩ := D.def_ 1 (d := d_dep) rfl
  have F_dep : Fun K "depends_on" "Event.depends_on" sDependsOn (He.ma K (He.ga K "Event") "depends_on") fd_dep := fun_of E_dep
  have b_dep : Binds K fd_dep ["self", "other"] [] := F_dep.binds (ps := ["self", "other"]) fun _ _ _ _ _ _ us hl => match us, hl with | [_, _], _ => rfl
  obtain ⟨fd_key, E_key⟩ := D.def_ 2 (d := d_key) rfl
  have F_key : Fun K "pending_place" "pending_place" sKey (He.ga K "pending_place") fd_key := fun_of E_key
  obtain ⟨fd_fe, E_fe⟩ := D.def_ 3 (d := d_fe) rfl
  have F_fe : Fun K "find_event" "find_event" sFindEvent (He.ga K "find_event") fd_fe := fun_of E_fe
  have b_fe : Binds K fd_fe ["events", "origin", "number"] [] := F_fe.binds (ps := ["events", "origin", "number"]) fun _ _ _ _ _ _ us hl => match us, hl with | [_, _, _], _ => rfl
  obtain ⟨fd_le, E_le⟩ := D.def_ 4 (d := d_le) rfl
  have F_le : Fun K "list_events" "list_events" sListEvents (He.ga K "list_events") fd_le := fun_of E_le
  have b_le : Binds K fd_le ["events"] [] := F_le.binds (ps := ["events"]) fun _ _ _ _ _ _ us hl => match us, hl with | [_], _ => rfl
  obtain ⟨fd_msI, E_msI⟩ := D.def_ 5 (d := d_msI) rfl
  have F_msI : Fun K "__init__" "Message.__init__" sMsI (He.ma K (He.ga K "Message") "__init__") fd_msI := fun_of E_msI
  have b_msI : Binds K fd_msI ["self", "sender", "receiver", "vector", "events"] [] := F_msI.binds (ps := ["self", "sender", "receiver", "vector", "events"]) fun _ _ _ _ _ _ us hl => match us, hl with | [_, _, _, _, _], _ => rfl
  obtain ⟨fd_rpI, E_rpI⟩ := D.def_ 6 (d := d_rpI) rfl
  have F_rpI : Fun K "__init__" "Replica.__init__" sRpI (He.ma K (He.ga K "Replica") "__init__") fd_rpI := fun_of E_rpI
  have b_rpI : Binds K fd_rpI ["self", "place", "count"] [] := F_rpI.binds (ps := ["self", "place", "count"]) fun _ _ _ _ _ _ us hl => match us, hl with | [_, _, _], _ => rfl
  obtain ⟨fd_has, E_has⟩ := D.def_ 7 (d := d_has) rfl
  have F_has : Fun K "has_applied" "Replica.has_applied" sHasApplied (He.ma K (He.ga K "Replica") "has_applied") fd_has := fun_of E_has
  have b_has : Binds K fd_has ["self", "event"] [] := F_has.binds (ps := ["self", "event"]) fun _ _ _ _ _ _ us hl => match us, hl with | [_, _], _ => rfl
  obtain ⟨fd_can, E_can⟩ := D.def_ 8 (d := d_can) rfl
  have F_can : Fun K "can_apply" "Replica.can_apply" sCanApply (He.ma K (He.ga K "Replica") "can_apply") fd_can := fun_of E_can
  have b_can : Binds K fd_can ["self", "event"] [] := F_can.binds (ps := ["self", "event"]) fun _ _ _ _ _ _ us hl => match us, hl with | [_, _], _ => rfl
  obtain ⟨fd_apply, E_apply⟩ := D.def_ 9 (d := d_apply) rfl
  have F_apply : Fun K "apply" "Replica.apply" sApply (He.ma K (He.ga K "Replica") "apply") fd_apply := fun_of E_apply
  have b_apply : Binds K fd_apply ["self", "event"] [] := F_apply.binds (ps := ["self", "event"]) fun _ _ _ _ _ _ us hl => match us, hl with | [_, _], _ => rfl
  obtain ⟨fd_rcreate, E_rcreate⟩ := D.def_ 10 (d := d_rcreate) rfl
  have F_rcreate : Fun K "create" "Replica.create" sRCreate (He.ma K (He.ga K "Replica") "create") fd_rcreate := fun_of E_rcreate
  have b_rcreate : Binds K fd_rcreate ["self", "value"] [] := F_rcreate.binds (ps := ["self", "value"]) fun _ _ _ _ _ _ us hl => match us, hl with | [_, _], _ => rfl
  obtain ⟨fd_for_, E_for_⟩ := D.def_ 11 (d := d_for_) rfl
  have F_for_ : Fun K "events_for" "Replica.events_for" sEventsFor (He.ma K (He.ga K "Replica") "events_for") fd_for_ := fun_of E_for_
  have b_for_ : Binds K fd_for_ ["self", "other"] [] := F_for_.binds (ps := ["self", "other"]) fun _ _ _ _ _ _ us hl => match us, hl with | [_, _], _ => rfl
  obtain ⟨fd_add, E_add⟩ := D.def_ 12 (d := d_add) rfl
  have F_add : Fun K "add_pending" "Replica.add_pending" sAddPending (He.ma K (He.ga K "Replica") "add_pending") fd_add := fun_of E_add
  have b_add : Binds K fd_add ["self", "events"] [] := F_add.binds (ps := ["self", "events"]) fun _ _ _ _ _ _ us hl => match us, hl with | [_, _], _ => rfl
  obtain ⟨fd_first, E_first⟩ := D.def_ 13 (d := d_first) rfl
  have F_first : Fun K "first_applicable" "Replica.first_applicable" sFirst (He.ma K (He.ga K "Replica") "first_applicable") fd_first := fun_of E_first
  have b_first : Binds K fd_first ["self"] [] := F_first.binds (ps := ["self"]) fun _ _ _ _ _ _ us hl => match us, hl with | [_], _ => rfl
  obtain ⟨fd_receive, E_receive⟩ := D.def_ 14 (d := d_receive) rfl
  have F_receive : Fun K "receive" "Replica.receive" sReceive (He.ma K (He.ga K "Replica") "receive") fd_receive := fun_of E_receive
  have b_receive : Binds K fd_receive ["self", "events"] [] := F_receive.binds (ps := ["self", "events"]) fun _ _ _ _ _ _ us hl => match us, hl with | [_, _], _ => rfl
  obtain ⟨fd_learn, E_learn⟩ := D.def_ 15 (d := d_learn) rfl
  have F_learn : Fun K "learn" "Replica.learn" sLearn (He.ma K (He.ga K "Replica") "learn") fd_learn := fun_of E_learn
  have b_learn : Binds K fd_learn ["self", "other", "vector"] [] := F_learn.binds (ps := ["self", "other", "vector"]) fun _ _ _ _ _ _ us hl => match us, hl with | [_, _, _], _ => rfl
  obtain ⟨fd_least, E_least⟩ := D.def_ 16 (d := d_least) rfl
  have F_least : Fun K "least_known" "Replica.least_known" sLeastKnown (He.ma K (He.ga K "Replica") "least_known") fd_least := fun_of E_least
  have b_least : Binds K fd_least ["self", "origin"] [] := F_least.binds (ps := ["self", "origin"]) fun _ _ _ _ _ _ us hl => match us, hl with | [_, _], _ => rfl
  obtain ⟨fd_stable, E_stable⟩ := D.def_ 17 (d := d_stable) rfl
  have F_stable : Fun K "stable_vector" "Replica.stable_vector" sStableVector (He.ma K (He.ga K "Replica") "stable_vector") fd_stable := fun_of E_stable
  have b_stable : Binds K fd_stable ["self"] [] := F_stable.binds (ps := ["self"]) fun _ _ _ _ _ _ us hl => match us, hl with | [_], _ => rfl
  obtain ⟨fd_ssI, E_ssI⟩ := D.def_ 18 (d := d_ssI) rfl
  have F_ssI : Fun K "__init__" "Session.__init__" sSsI (He.ma K (He.ga K "Session") "__init__") fd_ssI := fun_of E_ssI
  have b_ssI : Binds K fd_ssI ["self"] [] := F_ssI.binds (ps := ["self"]) fun _ _ _ _ _ _ us hl => match us, hl with | [_], _ => rfl
  obtain ⟨fd_hasReplica, E_hasReplica⟩ := D.def_ 19 (d := d_hasReplica) rfl
  have F_hasReplica : Fun K "has_replica" "Session.has_replica" sHasReplica (He.ma K (He.ga K "Session") "has_replica") fd_hasReplica := fun_of E_hasReplica
  have b_hasReplica : Binds K fd_hasReplica ["self", "replica"] [] := F_hasReplica.binds (ps := ["self", "replica"]) fun _ _ _ _ _ _ us hl => match us, hl with | [_, _], _ => rfl
  obtain ⟨fd_hasMessage, E_hasMessage⟩ := D.def_ 20 (d := d_hasMessage) rfl
  have F_hasMessage : Fun K "has_message" "Session.has_message" sHasMessage (He.ma K (He.ga K "Session") "has_message") fd_hasMessage := fun_of E_hasMessage
  have b_hasMessage : Binds K fd_hasMessage ["self", "number"] [] := F_hasMessage.binds (ps := ["self", "number"]) fun _ _ _ _ _ _ us hl => match us, hl with | [_, _], _ => rfl
  obtain ⟨fd_canConnect, E_canConnect⟩ := D.def_ 21 (d := d_canConnect) rfl
  have F_canConnect : Fun K "can_connect" "Session.can_connect" sCanConnect (He.ma K (He.ga K "Session") "can_connect") fd_canConnect := fun_of E_canConnect
  have b_canConnect : Binds K fd_canConnect ["self", "sender", "receiver"] [] := F_canConnect.binds (ps := ["self", "sender", "receiver"]) fun _ _ _ _ _ _ us hl => match us, hl with | [_, _, _], _ => rfl
  obtain ⟨fd_hasRoom, E_hasRoom⟩ := D.def_ 22 (d := d_hasRoom) rfl
  have F_hasRoom : Fun K "has_room_for_message" "Session.has_room_for_message" sHasRoom (He.ma K (He.ga K "Session") "has_room_for_message") fd_hasRoom := fun_of E_hasRoom
  have b_hasRoom : Binds K fd_hasRoom ["self"] [] := F_hasRoom.binds (ps := ["self"]) fun _ _ _ _ _ _ us hl => match us, hl with | [_], _ => rfl
  obtain ⟨fd_addMessage, E_addMessage⟩ := D.def_ 23 (d := d_addMessage) rfl
  have F_addMessage : Fun K "add_message" "Session.add_message" sAddMessage (He.ma K (He.ga K "Session") "add_message") fd_addMessage := fun_of E_addMessage
  have b_addMessage : Binds K fd_addMessage ["self", "sender", "receiver", "events"] [] := F_addMessage.binds (ps := ["self", "sender", "receiver", "events"]) fun _ _ _ _ _ _ us hl => match us, hl with | [_, _, _, _], _ => rfl
  obtain ⟨fd_begin_, E_begin_⟩ := D.def_ 24 (d := d_begin_) rfl
  have F_begin_ : Fun K "begin" "Session.begin" sBegin (He.ma K (He.ga K "Session") "begin") fd_begin_ := fun_of E_begin_
  have b_begin_ : Binds K fd_begin_ ["self", "count"] [] := F_begin_.binds (ps := ["self", "count"]) fun _ _ _ _ _ _ us hl => match us, hl with | [_, _], _ => rfl
  obtain ⟨fd_create, E_create⟩ := D.def_ 25 (d := d_create) rfl
  have F_create : Fun K "create" "Session.create" sCreate (He.ma K (He.ga K "Session") "create") fd_create := fun_of E_create
  have b_create : Binds K fd_create ["self", "replica", "value"] [] := F_create.binds (ps := ["self", "replica", "value"]) fun _ _ _ _ _ _ us hl => match us, hl with | [_, _, _], _ => rfl
  obtain ⟨fd_send, E_send⟩ := D.def_ 26 (d := d_send) rfl
  have F_send : Fun K "send" "Session.send" sSend (He.ma K (He.ga K "Session") "send") fd_send := fun_of E_send
  have b_send : Binds K fd_send ["self", "sender", "receiver"] [] := F_send.binds (ps := ["self", "sender", "receiver"]) fun _ _ _ _ _ _ us hl => match us, hl with | [_, _, _], _ => rfl
  obtain ⟨fd_sendOne, E_sendOne⟩ := D.def_ 27 (d := d_sendOne) rfl
  have F_sendOne : Fun K "send_one" "Session.send_one" sSendOne (He.ma K (He.ga K "Session") "send_one") fd_sendOne := fun_of E_sendOne
  have b_sendOne : Binds K fd_sendOne ["self", "sender", "receiver", "origin", "number"] [] := F_sendOne.binds (ps := ["self", "sender", "receiver", "origin", "number"]) fun _ _ _ _ _ _ us hl => match us, hl with | [_, _, _, _, _], _ => rfl
  obtain ⟨fd_deliver, E_deliver⟩ := D.def_ 28 (d := d_deliver) rfl
  have F_deliver : Fun K "deliver" "Session.deliver" sDeliver (He.ma K (He.ga K "Session") "deliver") fd_deliver := fun_of E_deliver
  have b_deliver : Binds K fd_deliver ["self", "number"] [] := F_deliver.binds (ps := ["self", "number"]) fun _ _ _ _ _ _ us hl => match us, hl with | [_, _], _ => rfl
  obtain ⟨fd_listApplied, E_listApplied⟩ := D.def_ 29 (d := d_listApplied) rfl
  have F_listApplied : Fun K "list_applied" "Session.list_applied" sListApplied (He.ma K (He.ga K "Session") "list_applied") fd_listApplied := fun_of E_listApplied
  have b_listApplied : Binds K fd_listApplied ["self", "replica"] [] := F_listApplied.binds (ps := ["self", "replica"]) fun _ _ _ _ _ _ us hl => match us, hl with | [_, _], _ => rfl
  obtain ⟨fd_listPending, E_listPending⟩ := D.def_ 30 (d := d_listPending) rfl
  have F_listPending : Fun K "list_pending" "Session.list_pending" sListPending (He.ma K (He.ga K "Session") "list_pending") fd_listPending := fun_of E_listPending
  have b_listPending : Binds K fd_listPending ["self", "replica"] [] := F_listPending.binds (ps := ["self", "replica"]) fun _ _ _ _ _ _ us hl => match us, hl with | [_, _], _ => rfl
  obtain ⟨fd_listVector, E_listVector⟩ := D.def_ 31 (d := d_listVector) rfl
  have F_listVector : Fun K "list_vector" "Session.list_vector" sListVector (He.ma K (He.ga K "Session") "list_vector") fd_listVector := fun_of E_listVector
  have b_listVector : Binds K fd_listVector ["self", "replica"] [] := F_listVector.binds (ps := ["self", "replica"]) fun _ _ _ _ _ _ us hl => match us, hl with | [_, _], _ => rfl
  obtain ⟨fd_listKnown, E_listKnown⟩ := D.def_ 32 (d := d_listKnown) rfl
  have F_listKnown : Fun K "list_known" "Session.list_known" sListKnown (He.ma K (He.ga K "Session") "list_known") fd_listKnown := fun_of E_listKnown
  have b_listKnown : Binds K fd_listKnown ["self", "replica", "other"] [] := F_listKnown.binds (ps := ["self", "replica", "other"]) fun _ _ _ _ _ _ us hl => match us, hl with | [_, _, _], _ => rfl
  obtain ⟨fd_listStable, E_listStable⟩ := D.def_ 33 (d := d_listStable) rfl
  have F_listStable : Fun K "list_stable" "Session.list_stable" sListStable (He.ma K (He.ga K "Session") "list_stable") fd_listStable := fun_of E_listStable
  have b_listStable : Binds K fd_listStable ["self", "replica"] [] := F_listStable.binds (ps := ["self", "replica"]) fun _ _ _ _ _ _ us hl => match us, hl with | [_, _], _ => rfl
  obtain ⟨fd_compare, E_compare⟩ := D.def_ 34 (d := d_compare) rfl
  have F_compare : Fun K "compare" "Session.compare" sCompare (He.ma K (He.ga K "Session") "compare") fd_compare := fun_of E_compare
  have b_compare : Binds K fd_compare ["self", "first_origin", "first_number", "second_origin", "second_number"] [] := F_compare.binds (ps := ["self", "first_origin", "first_number", "second_origin", "second_number"]) fun _ _ _ _ _ _ us hl => match us, hl with | [_, _, _, _, _], _ => rfl
  obtain ⟨fd_listMessage, E_listMessage⟩ := D.def_ 35 (d := d_listMessage) rfl
  have F_listMessage : Fun K "list_message" "Session.list_message" sListMessage (He.ma K (He.ga K "Session") "list_message") fd_listMessage := fun_of E_listMessage
  have b_listMessage : Binds K fd_listMessage ["self", "number"] [] := F_listMessage.binds (ps := ["self", "number"]) fun _ _ _ _ _ _ us hl => match us, hl with | [_, _], _ => rfl
  obtain ⟨fd_change, E_change⟩ := D.def_ 36 (d := d_change) rfl
  have F_change : Fun K "change" "change" sChange (He.ga K "change") fd_change := fun_of E_change
  have b_change : Binds K fd_change ["session", "call"] [] := F_change.binds (ps := ["session", "call"]) fun _ _ _ _ _ _ us hl => match us, hl with | [_, _], _ => rfl
  obtain ⟨fd_ask, E_ask⟩ := D.def_ 37 (d := d_ask) rfl
  have F_ask : Fun K "ask" "ask" sAsk (He.ga K "ask") fd_ask := fun_of E_ask
  have b_ask : Binds K fd_ask ["session", "call"] [] := F_ask.binds (ps := ["session", "call"]) fun _ _ _ _ _ _ us hl => match us, hl with | [_, _], _ => rfl
  obtain ⟨fd_perform, E_perform⟩ := D.def_ 38 (d := d_perform) rfl
  have F_perform : Fun K "perform" "perform" sPerform (He.ga K "perform") fd_perform := fun_of E_perform
  have b_perform : Binds K fd_perform ["session", "call"] [] := F_perform.binds (ps := ["session", "call"]) fun _ _ _ _ _ _ us hl => match us, hl with | [_, _], _ => rfl
  obtain ⟨fd_answers, E_answers⟩ := D.def_ 39 (d := d_answers) rfl
  have F_answers : Fun K "answers" "answers" sAnswers (He.ga K "answers") fd_answers := fun_of E_answers
  have e := hfa.symm.trans (He.glo_ok X G (D.fact 93 rfl))
  cases e
  refine ⟨fd_answers, fun s us hl => FunD.bindsA (ps := ["calls"]) E_answers (fun _ _ _ _ _ _ us hl => match us, hl with | [_], _ => rfl) s us hl, fun base _ _ => ?_⟩
  have M_evI : Mak P w K mg base 1 "Event" (cl K).E (spEvI (cl K)) := ⟨_, _, _, He.mkr_ok (D.fact 54 rfl), (ok_evI T F_evI), He.glo_ok X G (D.fact 20 rfl), b_evI⟩
  have M_dep : Met P w K mg base 1 (cl K).E "depends_on" (spDep (cl K)) := ⟨_, _, _, He.meth_ok (D.fact 55 rfl), (ok_dep T F_dep), b_dep⟩
  have M_fe : Cal P w K mg base 1 "find_event" (spFE (cl K)) := ⟨_, _, _, (ok_fe T F_fe), He.glo_ok X G (D.fact 57 rfl), F_fe.kp, b_fe⟩
  have M_le : Cal P w K mg base 1 "list_events" (spLE (cl K)) := ⟨_, _, _, (ok_le T F_le), He.glo_ok X G (D.fact 58 rfl), F_le.kp, b_le⟩
  have M_msI : Mak P w K mg base 1 "Message" (cl K).M (spMsI (cl K)) := ⟨_, _, _, He.mkr_ok (D.fact 59 rfl), (ok_msI T F_msI), He.glo_ok X G (D.fact 21 rfl), b_msI⟩
  have M_rpI : Mak P w K mg base 1 "Replica" (cl K).R (spRpI (cl K)) := ⟨_, _, _, He.mkr_ok (D.fact 60 rfl), (ok_rpI T F_rpI), He.glo_ok X G (D.fact 22 rfl), b_rpI⟩
  have M_has : Met P w K mg base 1 (cl K).R "has_applied" (spHas (cl K)) := ⟨_, _, _, He.meth_ok (D.fact 61 rfl), (ok_has T F_has), b_has⟩
  have M_can : Met P w K mg base 1 (cl K).R "can_apply" (spCan (cl K)) := ⟨_, _, _, He.meth_ok (D.fact 62 rfl), (ok_can T F_can), b_can⟩
  have M_apply : Met P w K mg base 1 (cl K).R "apply" (spApply (cl K)) := ⟨_, _, _, He.meth_ok (D.fact 63 rfl), (ok_apply T F_apply), b_apply⟩
  have M_rcreate : Met P w K mg base 3 (cl K).R "create" (spRCreate (cl K)) := ⟨_, _, _, He.meth_ok (D.fact 64 rfl), (ok_rcreate T F_rcreate M_evI M_apply), b_rcreate⟩
  have M_for_ : Met P w K mg base 1 (cl K).R "events_for" (spFor (cl K)) := ⟨_, _, _, He.meth_ok (D.fact 65 rfl), (ok_for T F_for_), b_for_⟩
  have M_add : Met P w K mg base 2 (cl K).R "add_pending" (spAdd (cl K)) := ⟨_, _, _, He.meth_ok (D.fact 66 rfl), (ok_add T F_add F_key (He.glo_ok X G (D.fact 56 rfl))), b_add⟩
  have M_first : Met P w K mg base 2 (cl K).R "first_applicable" (spFirst (cl K)) := ⟨_, _, _, He.meth_ok (D.fact 67 rfl), (ok_first T F_first M_can), b_first⟩
  have M_receive : Met P w K mg base 3 (cl K).R "receive" (spReceive (cl K)) := ⟨_, _, _, He.meth_ok (D.fact 68 rfl), (ok_receive T F_receive M_add M_first M_apply M_has), b_receive⟩
  have M_learn : Met P w K mg base 1 (cl K).R "learn" (spLearn (cl K)) := ⟨_, _, _, He.meth_ok (D.fact 69 rfl), (ok_learn T F_learn), b_learn⟩
  have M_least : Met P w K mg base 1 (cl K).R "least_known" (spLeast (cl K)) := ⟨_, _, _, He.meth_ok (D.fact 70 rfl), (ok_least T F_least), b_least⟩
  have M_stable : Met P w K mg base 2 (cl K).R "stable_vector" (spStable (cl K)) := ⟨_, _, _, He.meth_ok (D.fact 71 rfl), (ok_stable T F_stable M_least), b_stable⟩
  have M_ssI : Mak P w K mg base 3 "Session" (cl K).S (spSsI (cl K)) := ⟨_, _, _, He.mkr_ok (D.fact 72 rfl), (ok_ssI T F_ssI M_rpI), He.glo_ok X G (D.fact 23 rfl), b_ssI⟩
  have M_hasReplica : Met P w K mg base 1 (cl K).S "has_replica" (spHasReplica (cl K)) := ⟨_, _, _, He.meth_ok (D.fact 73 rfl), (ok_hasReplica T F_hasReplica), b_hasReplica⟩
  have M_hasMessage : Met P w K mg base 1 (cl K).S "has_message" (spHasMessage (cl K)) := ⟨_, _, _, He.meth_ok (D.fact 74 rfl), (ok_hasMessage T F_hasMessage), b_hasMessage⟩
  have M_canConnect : Met P w K mg base 2 (cl K).S "can_connect" (spCanConnect (cl K)) := ⟨_, _, _, He.meth_ok (D.fact 75 rfl), (ok_canConnect T F_canConnect M_hasReplica), b_canConnect⟩
  have M_hasRoom : Met P w K mg base 1 (cl K).S "has_room_for_message" (spHasRoom (cl K)) := ⟨_, _, _, He.meth_ok (D.fact 76 rfl), (ok_hasRoom T F_hasRoom), b_hasRoom⟩
  have M_addMessage : Met P w K mg base 3 (cl K).S "add_message" (spAddMessage (cl K)) := ⟨_, _, _, He.meth_ok (D.fact 77 rfl), (ok_addMessage T F_addMessage M_msI), b_addMessage⟩
  have M_begin_ : Met P w K mg base 3 (cl K).S "begin" (spBegin (cl K)) := ⟨_, _, _, He.meth_ok (D.fact 78 rfl), (ok_begin T F_begin_ M_rpI), b_begin_⟩
  have M_create : Met P w K mg base 4 (cl K).S "create" (spCreate (cl K)) := ⟨_, _, _, He.meth_ok (D.fact 79 rfl), (ok_create T F_create M_hasReplica M_rcreate), b_create⟩
  have M_send : Met P w K mg base 4 (cl K).S "send" (spSend (cl K)) := ⟨_, _, _, He.meth_ok (D.fact 80 rfl), (ok_send T F_send M_canConnect M_hasRoom M_for_ M_addMessage), b_send⟩
  have M_sendOne : Met P w K mg base 4 (cl K).S "send_one" (spSendOne (cl K)) := ⟨_, _, _, He.meth_ok (D.fact 81 rfl), (ok_sendOne T F_sendOne M_canConnect M_hasRoom M_fe M_addMessage), b_sendOne⟩
  have M_deliver : Met P w K mg base 4 (cl K).S "deliver" (spDeliver (cl K)) := ⟨_, _, _, He.meth_ok (D.fact 82 rfl), (ok_deliver T F_deliver M_hasMessage M_receive M_learn), b_deliver⟩
  have M_listApplied : Met P w K mg base 2 (cl K).S "list_applied" (spListApplied (cl K)) := ⟨_, _, _, He.meth_ok (D.fact 83 rfl), (ok_ListApplied T F_listApplied M_hasReplica M_le), b_listApplied⟩
  have M_listPending : Met P w K mg base 2 (cl K).S "list_pending" (spListPending (cl K)) := ⟨_, _, _, He.meth_ok (D.fact 84 rfl), (ok_ListPending T F_listPending M_hasReplica M_le), b_listPending⟩
  have M_listVector : Met P w K mg base 2 (cl K).S "list_vector" (spListVector (cl K)) := ⟨_, _, _, He.meth_ok (D.fact 85 rfl), (ok_ListVector T F_listVector M_hasReplica), b_listVector⟩
  have M_listKnown : Met P w K mg base 2 (cl K).S "list_known" (spListKnown (cl K)) := ⟨_, _, _, He.meth_ok (D.fact 86 rfl), (ok_ListKnown T F_listKnown M_hasReplica), b_listKnown⟩
  have M_listStable : Met P w K mg base 3 (cl K).S "list_stable" (spListStable (cl K)) := ⟨_, _, _, He.meth_ok (D.fact 87 rfl), (ok_ListStable T F_listStable M_hasReplica M_stable), b_listStable⟩
  have M_compare : Met P w K mg base 2 (cl K).S "compare" (spCompare (cl K)) := ⟨_, _, _, He.meth_ok (D.fact 88 rfl), (ok_Compare T F_compare M_fe M_dep), b_compare⟩
  have M_listMessage : Met P w K mg base 2 (cl K).S "list_message" (spListMessage (cl K)) := ⟨_, _, _, He.meth_ok (D.fact 89 rfl), (ok_ListMessage T F_listMessage M_hasMessage), b_listMessage⟩
  have M_change : Cal P w K mg base 5 "change" (spHalf (cl K) true) := ⟨_, _, _, (ok_change T F_change M_begin_ M_create M_send M_sendOne M_deliver), He.glo_ok X G (D.fact 90 rfl), F_change.kp, b_change⟩
  have M_ask : Cal P w K mg base 4 "ask" (spHalf (cl K) false) := ⟨_, _, _, (ok_ask T F_ask M_listApplied M_listPending M_listVector M_listKnown M_listStable M_compare M_listMessage), He.glo_ok X G (D.fact 91 rfl), F_ask.kp, b_ask⟩
  have M_perform : Cal P w K mg base 6 "perform" (spPerform (cl K)) := ⟨_, _, _, (ok_perform T F_perform M_change M_ask), He.glo_ok X G (D.fact 92 rfl), F_perform.kp, b_perform⟩
  exact ok_answers T B F_answers M_ssI M_perform
end
/-! ### the written part, whichever it is -/
theorem walk_ex {r : PySem.W.OpenSpec} {q : Program} {loose : List Str} {XP : (Str → Option Value) → Heap → Prop} {YP : PySem.W.Frag → World → Heap → Prop} {d : DefRec} {kwd : List (Str × Expr)} {go : Value → List Value → Sem Value}
    (each : ∀ K, PySem.W.WalkOS q loose XP (YP K) r d kwd go) : PySem.W.WalkOS q loose XP (fun w h => ∃ K, YP K w h) r d kwd go := fun w s0 s1 mg mb G Y => Y.elim fun K y => each K w s0 s1 mg mb G y
end VD
end
set_option Elab.async false
set_option linter.all false
set_option maxRecDepth 100000
set_option maxHeartbeats 0
namespace VD
open PySem PySem.Spec PyProof.Rows L2
/-! ### the run of the top -/
abbrev R : PySem.W.OpenSpec := PySem.Challenge.rw_vectordelivery_s01_answers
abbrev qv : Program := PySem.W.view R.prog [32]
def names : List Str := (["MOST_REPLICAS", "MOST_EVENTS", "MOST_MESSAGES", "HIGHEST_VALUE", "OUT_OF_RANGE", "NOT_THERE", "NOT_APPLIED", "TOO_MANY", "UNRELATED", "FIRST_IS_EARLIER", "SECOND_IS_EARLIER", "Event", "pending_place", "find_event", "list_events", "Message", "Replica", "Session"] : List Str) ++ ([
  "BEGIN", "CREATE", "SEND", "SEND_ONE", "DELIVER", "APPLIED", "PENDING", "VECTOR", "KNOWN", "STABLE", "COMPARE", "ARGUMENT_COUNTS", "perform", "change", "ask"] : List Str)
abbrev hk : PySem.W.Hook := He.hookX 6 fa fn [] [] ex
def ob (s : PySem.W.SharedT) : He.AlX := He.obsX 6 fa fn [] [] ex (HandSHeadRun.getT s)
theorem ob_eq (s : PySem.W.SharedT) : ob s = hk.obs s.abs := He.obsX_eq (HandSHeadRun.getT_eq s)
theorem run_f (w : World) : HandSHeadRun.RunEqS R qv hk ob 6000 names (w.withFollow "special-get-raises" false) := by
  intro os
  kernel_rfl
theorem run_t (w : World) : HandSHeadRun.RunEqS R qv hk ob 6000 names (w.withFollow "special-get-raises" true) := by
  intro os
  kernel_rfl
theorem run (w : World) : HandSHeadRun.RunEqS R qv hk ob 6000 names w := PySem.W.byRow2 "special-get-raises" (P := fun w => HandSHeadRun.RunEqS R qv hk ob 6000 names w) run_f run_t w
end VD
open PySem PySem.W PySem.Calls PyProof.Rows
theorem PySem.Challenge.cw_vectordelivery_s01_answers_holds : PySem.Challenge.rw_vectordelivery_s01_answers.Holds := by
  w_on
  refine HandSHeadRun.head_spec (r := PySem.Challenge.rw_vectordelivery_s01_answers) (q := VD.qv) (H := VD.hk) (ob := VD.ob) (M := 6000) (loose := VD.names) (d := HandSHeadRun.topDef (PySem.Challenge.rw_vectordelivery_s01_answers).prog 32) (kwd := []) VD.ob_eq
    (by kernel_rfl) (fun s => by kernel_rfl) VD.run (by kernel_rfl) (by kernel_rfl) (by kernel_rfl) os_shapes (by decide +kernel) (by decide +kernel) ⟨rfl, rfl, rfl, rfl, rfl, by decide +kernel⟩ ?hw ?hc
  case hw => exact ⟨[.list [.int 1, .int 1]], by decide +kernel, by decide +kernel⟩
  case hc =>
    refine VD.walk_ex (YP := fun K w h => K.In h ∧ He.SaysX VD.fa VD.fn [] [] VD.ex w h K) fun K => ?_
    refine L2.walk_specK (r := PySem.Challenge.rw_vectordelivery_s01_answers) (k := 7) (CX := L2.CX0) (ps := ["calls"]) (K := fun _ => K) (sp := VD.spAns) (by decide +kernel) (by kernel_rfl) rfl ⟨rfl, by decide, by decide⟩ (fun _ _ Y => Y.1) ?F ?S (fun _ _ _ _ z => z)
    case F =>
      intro w mg fa h Y KX G hmg0
      have en : (HandSHeadRun.topDef (PySem.Challenge.rw_vectordelivery_s01_answers).prog 32).name = ("answers" : PySem.Str) := by kernel_rfl
      rw [en] at hmg0
      exact VD.facts (P := (PySem.Challenge.rw_vectordelivery_s01_answers).prog) KX G hmg0 Y.2
    case S =>
      intro K H xs a hO hwi hask hx
      cases hx with
      | cons h1 h2 =>
        cases h2
        cases h1 with
        | lst hs ha =>
          have e := L2.ints_dw a.1 _ ha
          subst e
          have q : ((Codec.inLen 0 1500 a.1 && a.1.all (Codec.inInt 0 18446744073709551615)) && true) = true := hwi
          rw [Bool.and_eq_true, Bool.and_eq_true] at q
          exact ⟨_, a.1, rfl, hs, (Codec.inNat_iff.mp q.1.1).2, hask, fun H' p hp => .lst (L2.SqL.of hp) (L2.dw_ints _)⟩
#print axioms PySem.Challenge.cw_vectordelivery_s01_answers_holds
