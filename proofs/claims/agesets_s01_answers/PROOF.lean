import PyProof.Rows.All
import PySem.Challenge.RW_agesets_s01_answers
import Wide.All
import OpenK.AllK
import Wide.FinOn
import Open.SpecLaws
import KE.OsGo
import HandS.ForSpec
import HandS.Comp
import HandS.Iter
import HandS.SetFor
import HandS.CallLocal
import HandS.Flow
import HandS.Steps
import HandS.Evl
import HandS.SortKw
import HandS.More
import HandS.Keys
import HandS.Conv
import HandS.Small
import HandS.Walk
import HandS.FromBytesMap
import KE.SortKeyHeap
import KE.DatumOrd
set_option Elab.async false
set_option linter.all false
set_option maxRecDepth 100000
set_option maxHeartbeats 4000001
/-! AgA: the flat list of calls, read call by call. Core Lean and the specification alone. -/
namespace Ag
open Km493

/-- a call, as the flat list has it -/
def code : Km493.Call → List Int
  | .start n l h => [0, n, l, h]
  | .pass n => [1, n]
  | .born => [2]
  | .open_ => [3]
  | .shut => [4]
  | .join i => [5, i]
  | .joinAll => [6]
  | .age i => [7, i]
  | .whose i => [8, i]
  | .members s => [9, s]
  | .name s => [10, s]
  | .alike s => [11, s]
  | .may => [12]
  | .missed => [13]
  | .senior i j => [14, i, j]
  | .twisted => [15]
  | .rank => [16]
  | .span s => [17, s]
  | .when_ i => [18, i]
  | .back => [19]
  | .again => [20]
  | .state => [21]
/-- its number, its whole numbers -/
def num : Km493.Call → Nat
  | .start _ _ _ => 0
  | .pass _ => 1
  | .born => 2
  | .open_ => 3
  | .shut => 4
  | .join _ => 5
  | .joinAll => 6
  | .age _ => 7
  | .whose _ => 8
  | .members _ => 9
  | .name _ => 10
  | .alike _ => 11
  | .may => 12
  | .missed => 13
  | .senior _ _ => 14
  | .twisted => 15
  | .rank => 16
  | .span _ => 17
  | .when_ _ => 18
  | .back => 19
  | .again => 20
  | .state => 21
def args : Km493.Call → List Nat
  | .start n l h => [n, l, h]
  | .pass n => [n]
  | .join i => [i]
  | .age i => [i]
  | .whose i => [i]
  | .members s => [s]
  | .name s => [s]
  | .alike s => [s]
  | .senior i j => [i, j]
  | .span s => [s]
  | .when_ i => [i]
  | _ => []
theorem code_eq (x : Km493.Call) : code x = (num x : Int) :: (args x).map fun (n : Nat) => (n : Int) := by cases x <;> rfl
theorem num_lt (x : Km493.Call) : num x < 22 := by cases x <;> (show _ < 22; simp [num])

theorem nat_of {z : Int} (h : Km493Neutral.natural z 32 = true) : z = (z.toNat : Int) ∧ z.toNat < 4294967296 := by
  unfold Km493Neutral.natural at h
  rw [Bool.and_eq_true, decide_eq_true_eq, decide_eq_true_eq] at h
  have h2 : (2 : Int) ^ 32 = 4294967296 := by decide
  omega

theorem and2 {a b : Bool} (h : (a && b) = true) : a = true ∧ b = true := by rwa [Bool.and_eq_true] at h
/-- what is asked is a call: its code, its reading -/
theorem asked_code {c : Km493Neutral.Call} (h : Km493Neutral.asked1 c = true) : ∃ x : Km493.Call, c = [code x] ∧ Km493Neutral.callOf c = some x ∧ ∀ n ∈ args x, n < 4294967296 := by
  unfold Km493Neutral.asked1 at h
  split at h
  · obtain ⟨h1, h3⟩ := and2 h
    obtain ⟨h1, h2⟩ := and2 h1
    obtain ⟨e1, b1⟩ := nat_of h1
    obtain ⟨e2, b2⟩ := nat_of h2
    obtain ⟨e3, b3⟩ := nat_of h3
    refine ⟨.start _ _ _, ?_, rfl, fun n hn => ?_⟩
    · show _ = [[0, _, _, _]]
      rw [← e1, ← e2, ← e3]
    · simp only [args, List.mem_cons, List.not_mem_nil, or_false] at hn
      rcases hn with rfl | rfl | rfl <;> assumption
  · obtain ⟨e1, b1⟩ := nat_of h
    exact ⟨.pass _, by show _ = [[1, _]]; rw [← e1], rfl, fun n hn => by rw [List.mem_singleton.mp hn]; exact b1⟩
  · exact ⟨.born, rfl, rfl, fun n hn => nomatch hn⟩
  · exact ⟨.open_, rfl, rfl, fun n hn => nomatch hn⟩
  · exact ⟨.shut, rfl, rfl, fun n hn => nomatch hn⟩
  · obtain ⟨e1, b1⟩ := nat_of h
    exact ⟨.join _, by show _ = [[5, _]]; rw [← e1], rfl, fun n hn => by rw [List.mem_singleton.mp hn]; exact b1⟩
  · exact ⟨.joinAll, rfl, rfl, fun n hn => nomatch hn⟩
  · obtain ⟨e1, b1⟩ := nat_of h
    exact ⟨.age _, by show _ = [[7, _]]; rw [← e1], rfl, fun n hn => by rw [List.mem_singleton.mp hn]; exact b1⟩
  · obtain ⟨e1, b1⟩ := nat_of h
    exact ⟨.whose _, by show _ = [[8, _]]; rw [← e1], rfl, fun n hn => by rw [List.mem_singleton.mp hn]; exact b1⟩
  · obtain ⟨e1, b1⟩ := nat_of h
    exact ⟨.members _, by show _ = [[9, _]]; rw [← e1], rfl, fun n hn => by rw [List.mem_singleton.mp hn]; exact b1⟩
  · obtain ⟨e1, b1⟩ := nat_of h
    exact ⟨.name _, by show _ = [[10, _]]; rw [← e1], rfl, fun n hn => by rw [List.mem_singleton.mp hn]; exact b1⟩
  · obtain ⟨e1, b1⟩ := nat_of h
    exact ⟨.alike _, by show _ = [[11, _]]; rw [← e1], rfl, fun n hn => by rw [List.mem_singleton.mp hn]; exact b1⟩
  · exact ⟨.may, rfl, rfl, fun n hn => nomatch hn⟩
  · exact ⟨.missed, rfl, rfl, fun n hn => nomatch hn⟩
  · obtain ⟨h1, h2⟩ := and2 h
    obtain ⟨e1, b1⟩ := nat_of h1
    obtain ⟨e2, b2⟩ := nat_of h2
    refine ⟨.senior _ _, ?_, rfl, fun n hn => ?_⟩
    · show _ = [[14, _, _]]
      rw [← e1, ← e2]
    · simp only [args, List.mem_cons, List.not_mem_nil, or_false] at hn
      rcases hn with rfl | rfl <;> assumption
  · exact ⟨.twisted, rfl, rfl, fun n hn => nomatch hn⟩
  · exact ⟨.rank, rfl, rfl, fun n hn => nomatch hn⟩
  · obtain ⟨e1, b1⟩ := nat_of h
    exact ⟨.span _, by show _ = [[17, _]]; rw [← e1], rfl, fun n hn => by rw [List.mem_singleton.mp hn]; exact b1⟩
  · obtain ⟨e1, b1⟩ := nat_of h
    exact ⟨.when_ _, by show _ = [[18, _]]; rw [← e1], rfl, fun n hn => by rw [List.mem_singleton.mp hn]; exact b1⟩
  · exact ⟨.back, rfl, rfl, fun n hn => nomatch hn⟩
  · exact ⟨.again, rfl, rfl, fun n hn => nomatch hn⟩
  · exact ⟨.state, rfl, rfl, fun n hn => nomatch hn⟩
  · cases h

/-- a call's own arity -/
theorem shape_code (x : Km493.Call) : PyKm493.shape (num x : Int) = some ((args x).length, 0) := by cases x <;> rfl
theorem whole_id (c : List (List Int)) : PyKm493.whole c = c := by
  unfold PyKm493.whole
  split <;> rfl
theorem map_whole (cs : List (List (List Int))) : cs.map PyKm493.whole = cs := by
  rw [show PyKm493.whole = id from funext whole_id, List.map_id]

/-- what is due of the calls from a state on -/
def due (s : Km493Neutral.S) (cs : List (List (List Int))) : List Int := PyFlat.told (PyFlat.played Km493Neutral.step s cs)
/-- the rest of the list: its calls, each asked, each may come -/
structure Rest (s : Km493Neutral.S) (l : List Int) (cs : List (List (List Int))) : Prop where
  cut : ∃ f, PyFlat.calls PyKm493.shape f l = some cs
  ask : cs.all Km493Neutral.asked1 = true
  may : Km493Neutral.may s cs = true

theorem calls_cons {f : Nat} {l : List Int} {cs : List (List (List Int))} (h : PyFlat.calls PyKm493.shape f l = some cs) :
    (l = [] ∧ cs = []) ∨ ∃ g p r n k xs t cs', l = p :: r ∧ f = g + 1 ∧ PyKm493.shape p = some (n, k) ∧ n ≤ r.length ∧ PyFlat.rows k (r.drop n) = some (xs, t) ∧ PyFlat.calls PyKm493.shape g t = some cs' ∧ cs = ((p :: r.take n) :: xs) :: cs' := by
  cases l with
  | nil =>
    left
    cases f <;> exact ⟨rfl, (Option.some.inj h).symm⟩
  | cons p r =>
    right
    cases f with
    | zero => cases h
    | succ g =>
      unfold PyFlat.calls at h
      cases hc : PyFlat.call PyKm493.shape (p :: r) with
      | none =>
          rw [hc] at h; cases h
      | some q =>
        obtain ⟨c, t⟩ := q
        rw [hc] at h
        dsimp only at h
        cases h2 : PyFlat.calls PyKm493.shape g t with
        | none => rw [h2] at h; cases h
        | some cs' =>
          rw [h2] at h
          cases h
          unfold PyFlat.call at hc
          dsimp only at hc
          cases hs : PyKm493.shape p with
          | none => rw [hs] at hc; cases hc
          | some nk =>
            obtain ⟨n, k⟩ := nk
            rw [hs] at hc
            dsimp only at hc
            by_cases hl : r.length < n
            · rw [if_pos hl] at hc; cases hc
            · rw [if_neg hl] at hc
              cases hr : PyFlat.rows k (r.drop n) with
              | none => rw [hr] at hc; cases hc
              | some q =>
                obtain ⟨xs, t'⟩ := q
                rw [hr] at hc
                cases hc
                exact ⟨g, p, r, n, k, xs, t, cs', rfl, rfl, hs, by omega, hr, h2, rfl⟩

theorem step_some (d : Desk) (x : Km493.Call) (h : Km493Neutral.callOf [code x] = some x) : Km493Neutral.step (some d) [code x] = (some (act d x).1, Km493Neutral.told (act d x).2) := by
  unfold Km493Neutral.step
  rw [h]
theorem call_code (x : Km493.Call) : Km493Neutral.callOf [code x] = some x := by
  cases x <;> simp [code, Km493Neutral.callOf]
theorem num_nonneg (x : Km493.Call) : (0 : Int) ≤ num x := Int.natCast_nonneg _

/-- the rest is at its end, or begins with a call -/
theorem Rest.next {s : Km493Neutral.S} {l : List Int} {cs : List (List (List Int))} (R : Rest s l cs) :
    (l = [] ∧ cs = []) ∨ ∃ x l' cs', l = code x ++ l' ∧ cs = [code x] :: cs' ∧ (∀ n ∈ args x, n < 4294967296) ∧ ((Km493Neutral.step s [code x]).2.isEmpty = false) ∧ Rest (Km493Neutral.step s [code x]).1 l' cs' := by
  obtain ⟨⟨f, hf⟩, ha, hm⟩ := R
  rcases calls_cons hf with h | ⟨g, p, r, n, k, xs, t, cs', rfl, rfl, hs, hn, hr, hc, rfl⟩
  · exact .inl h
  · right
    rw [List.all_cons] at ha
    obtain ⟨a1, a2⟩ := and2 ha
    obtain ⟨x, ex, ec, bx⟩ := asked_code a1
    rw [ex] at hm
    unfold Km493Neutral.may at hm
    obtain ⟨m1, m2⟩ := and2 hm
    have e1 : p :: r.take n = code x := (List.cons.inj ex).1
    have e2 : xs = [] := (List.cons.inj ex).2
    rw [code_eq] at e1
    have ep : p = (num x : Int) := (List.cons.inj e1).1
    have et : r.take n = (args x).map fun (n : Nat) => (n : Int) := (List.cons.inj e1).2
    rw [ep, shape_code] at hs
    have hnk := Option.some.inj hs
    have hn' : n = (args x).length := (congrArg Prod.fst hnk).symm
    have hk : k = 0 := (congrArg Prod.snd hnk).symm
    subst hk
    have ht : r.drop n = t := congrArg Prod.snd (Option.some.inj hr)
    refine ⟨x, t, cs', ?_, by rw [ex], bx, by rw [Bool.not_eq_true'] at m1; exact m1, ⟨g, hc⟩, a2, m2⟩
    rw [code_eq, ep, ← et, ← ht]
    show _ = _ :: (r.take n ++ r.drop n)
    rw [List.take_append_drop]

theorem due_nil (s : Km493Neutral.S) : due s [] = [] := rfl
theorem due_cons (s : Km493Neutral.S) (c : List (List Int)) (cs : List (List (List Int))) : due s (c :: cs) = ((Km493Neutral.step s c).2.length : Int) :: (Km493Neutral.step s c).2 ++ due (Km493Neutral.step s c).1 cs := by
  simp [due, PyFlat.played, PyFlat.told]

/-- what the statement's premise gives -/
theorem asked_rest {l : List Int} (h : PyKm493.answers_asked l = true) : ∃ cs, Rest Km493Neutral.start l cs ∧ cs.length ≤ 1000 ∧ PyKm493.answers l = due Km493Neutral.start cs := by
  unfold PyKm493.answers_asked at h
  cases e : PyFlat.calls PyKm493.shape l.length l with
  | none =>
      rw [e] at h; cases h
  | some raw =>
    rw [e] at h
    dsimp only at h
    rw [map_whole] at h
    obtain ⟨h1, _⟩ := and2 h
    obtain ⟨h2, h3⟩ := and2 h1
    obtain ⟨h4, _⟩ := and2 h2
    obtain ⟨_, h5⟩ := and2 h4
    unfold Km493Neutral.asked at h3
    obtain ⟨_, h6⟩ := and2 h3
    obtain ⟨_, h7⟩ := and2 h6
    obtain ⟨h8, h9⟩ := and2 h7
    refine ⟨raw, ⟨⟨_, e⟩, h8, h9⟩, of_decide_eq_true h5, ?_⟩
    unfold PyKm493.answers PyKm493.calls
    rw [e]
    dsimp only
    rw [map_whole]
    rfl

theorem act_start (d : Desk) (n l h : Nat) : act d (.start n l h) = if n < 2 ∨ 12 < n ∨ h < l ∨ 60 < h then (d, only (-22)) else (⟨⟨n, l, h, 0, [], []⟩, [], []⟩, only 0) := rfl
/-- ahead of a start that is taken only starts come -/
theorem step_none {x : Km493.Call} (h : (Km493Neutral.step none [code x]).2.isEmpty = false) : ∃ n l h, x = .start n l h := by
  unfold Km493Neutral.step at h
  rw [call_code] at h
  dsimp only at h
  cases x with
  | start n l k => exact ⟨n, l, k, rfl⟩
  | _ => simp [Km493Neutral.isStart] at h
theorem step_start (n l h : Nat) : Km493Neutral.step none [code (.start n l h)] =
    if n < 2 ∨ 12 < n ∨ h < l ∨ 60 < h then (none, [-22]) else (some ⟨⟨n, l, h, 0, [], []⟩, [], []⟩, [0]) := by
  unfold Km493Neutral.step
  rw [call_code]
  dsimp only
  rw [if_pos (show Km493Neutral.isStart (Call.start n l h) = true from rfl)]
  rw [act_start]
  split <;> rfl
end Ag

/-! AgB: what holds of every book and desk; what each call does, case by case. Core Lean and the specification alone. -/
namespace Ag
open Km493

/-- is the last set open -/
def isOpen (b : Book) : Bool := match b.sets.getLast? with
  | some x => x.to_ == none
  | none => false
structure BookOk (b : Book) : Prop where
  names : 2 ≤ b.names ∧ b.names ≤ 12
  ages : b.low ≤ b.high ∧ b.high ≤ 60
  year : b.year ≤ 300
  people : b.people.length ≤ 20
  sets : b.sets.length ≤ 16
  born : ∀ p ∈ b.people, p.born ≤ b.year
  joined : ∀ p ∈ b.people, ∀ j, p.joined = some j → j.2 < b.sets.length ∧ p.born ≤ j.1 ∧ j.1 ≤ b.year
  shut : ∀ s, s + 1 < b.sets.length → ∀ x, b.sets[s]? = some x → x.to_ ≠ none
structure DeskOk (d : Desk) : Prop where
  now : BookOk d.now
  past : ∀ b ∈ d.past, BookOk b
  future : ∀ b ∈ d.future, BookOk b
  few : d.past.length ≤ 20
  all : d.past.length + d.future.length ≤ 20

theorem getLast_append (l : List Band) (x : Band) : (l ++ [x]).getLast? = some x := by simp

/-! ### which set is open -/
theorem find_range {p : Nat → Bool} : ∀ n, (∀ s, s + 1 < n → p s = false) → (List.range n).find? p = if n = 0 then none else if p (n - 1) = true then some (n - 1) else none
  | 0, _ => rfl
  | n + 1, h => by
    rw [List.range_succ, List.find?_append, find_range n (fun s hs => h s (by omega))]
    by_cases hn : n = 0
    · subst hn
      cases hp : p 0 <;> simp [hp]
    · have e : p (n - 1) = false := h (n - 1) (by omega)
      rw [if_neg hn, e]
      cases hp : p n <;> simp [hp]
theorem getLast_get (l : List Band) : l.getLast? = l[l.length - 1]? := List.getLast?_eq_getElem?
theorem open_eq {b : Book} (h : BookOk b) : b.open_ = if isOpen b = true then some (b.sets.length - 1) else none := by
  unfold Book.open_
  rw [find_range b.sets.length (fun s hs => by
    cases e : b.sets[s]? with
    | none => have := List.getElem?_eq_none_iff.mp e; omega
    | some x =>
      have := h.shut s hs x e
      rw
          [List.getD_eq_getElem?_getD, e]
      simp only [Option.getD_some]
      exact beq_eq_false_iff_ne.mpr this)]
  unfold isOpen
  rw [getLast_get]
  by_cases hl : b.sets.length = 0
  · have e0 : b.sets = [] := List.eq_nil_of_length_eq_zero hl
    rw [if_pos hl, e0]
    rfl
  · rw [if_neg hl]
    have hlt : b.sets.length - 1 < b.sets.length := by omega
    rw [List.getD_eq_getElem?_getD, List.getElem?_eq_getElem hlt]
    rfl
theorem isOpen_pos {b : Book} (h : isOpen b = true) : 0 < b.sets.length := by
  unfold isOpen at h
  cases e : b.sets with
  | nil => rw [e] at h; cases h
  | cons x l => exact Nat.succ_pos _
theorem open_yes {b : Book} (h : BookOk b) (o : isOpen b = true) : b.open_ = some (b.sets.length - 1) := by rw [open_eq h, if_pos o]
theorem open_no {b : Book} (h : BookOk b) (o : isOpen b = false) : b.open_ = none := by rw [open_eq h, o]; rfl

/-! ### a person, by number -/
theorem p_get {b : Book} {i : Nat} {p : Person} (h : b.people[i]? = some p) : b.p i = p := by
  unfold Book.p
  rw [List.getD_eq_getElem?_getD, h]
  rfl
theorem p_at {b : Book} {i : Nat} (h : i < b.people.length) : b.people[i]? = some (b.p i) := by
  rw [List.getElem?_eq_getElem h]
  congr 1
  unfold Book.p
  rw [List.getD_eq_getElem?_getD, List.getElem?_eq_getElem h]
  rfl
theorem p_mem {b : Book} {i : Nat} (h : i < b.people.length) : b.p i ∈ b.people := List.mem_of_getElem? (p_at h)
theorem no_iff {b : Book} {i : Nat} : b.no i = true ↔ b.people.length ≤ i := by
  unfold Book.no
  rw [decide_eq_true_eq]
theorem ns_iff {b : Book} {s : Nat} : b.ns s = true ↔ b.sets.length ≤ s := by
  unfold Book.ns
  rw [decide_eq_true_eq]
theorem no_false {b : Book} {i : Nat} (h : i < b.people.length) : b.no i = false := by
  unfold Book.no
  exact
      decide_eq_false (by omega)
theorem ns_false {b : Book} {i : Nat} (h : i < b.sets.length) : b.ns i = false := by
  unfold Book.ns
  exact
      decide_eq_false (by omega)

/-! ### the changes keep a book in order -/
def passed (b : Book) (n : Nat) : Book := { b with year := b.year + n }
def bornIn (b : Book) : Book := { b with people := b.people ++ [⟨b.year, none⟩] }
def openedIn (b : Book) : Book := { b with sets := b.sets ++ [⟨b.year, none⟩] }
def shutIn (b : Book) (s : Nat) : Book := { b with sets := b.sets.set s { b.sets.getD s ⟨0, none⟩ with to_ := some b.year } }
theorem ok_passed {b : Book} {n : Nat} (h : BookOk b) (hn : b.year + n ≤ 300) : BookOk (passed b n) where
  names := h.names
  ages := h.ages
  year := hn
  people := h.people
  sets := h.sets
  born := fun p hp => Nat.le_trans (h.born p hp) (Nat.le_add_right _ _)
  joined := fun p hp j hj => ⟨(h.joined p hp j hj).1, (h.joined p hp j hj).2.1, Nat.le_trans (h.joined p hp j hj).2.2 (Nat.le_add_right _ _)⟩
  shut := h.shut
theorem ok_born {b : Book} (h : BookOk b) (hn : b.people.length < 20) : BookOk (bornIn b) where
  names := h.names
  ages := h.ages
  year := h.year
  people := by show (b.people ++ [_]).length ≤ 20; rw [List.length_append]; exact hn
  sets := h.sets
  born := fun p hp => by
    rcases List.mem_append.mp hp
        with hp | hp
    · exact h.born p hp
    · rw [List.mem_singleton.mp hp]; exact Nat.le_refl _
  joined := fun p hp j hj => by
    rcases List.mem_append.mp hp
        with hp | hp
    · exact h.joined p hp j hj
    · rw [List.mem_singleton.mp hp] at hj; cases hj
  shut := h.shut
theorem ok_opened {b : Book} (h : BookOk b) (o : isOpen b = false) (hn : b.sets.length < 16) : BookOk (openedIn b) where
  names := h.names
  ages := h.ages
  year := h.year
  people := h.people
  sets := by show (b.sets ++ [_]).length ≤ 16; rw [List.length_append]; exact hn
  born := h.born
  joined := fun p hp j hj => ⟨by show j.2 < (b.sets ++ [_]).length; rw [List.length_append]; exact Nat.lt_succ_of_lt (h.joined p hp j hj).1, (h.joined p hp j hj).2⟩
  shut := fun s hs x hx => by
    have hs' : s + 1 < b.sets.length + 1 := by
      have e : (openedIn b).sets.length = b.sets.length + 1 := by show (b.sets ++ [_]).length = _; rw [List.length_append]; rfl
      omega
    have hx' : b.sets[s]? = some x := by
      have e : (openedIn b).sets[s]? = (b.sets ++ [⟨b.year, none⟩])[s]? := rfl
      rw [e, List.getElem?_append_left (by omega)] at hx
      exact hx
    by_cases hl : s + 1 < b.sets.length
    · exact h.shut s hl x hx'
    · have e : s = b.sets.length - 1 := by omega
      intro hz
      have : isOpen b = true := by
        unfold isOpen
        rw [getLast_get, ← e, hx']
        show (x.to_ == none) = true
        rw [hz]
        rfl
      rw [this] at o
      cases o
theorem ok_shut {b : Book} {s : Nat} (h : BookOk b) : BookOk (shutIn b s) where
  names := h.names
  ages := h.ages
  year := h.year
  people := h.people
  sets := by show (b.sets.set _ _).length ≤ 16; rw [List.length_set]; exact h.sets
  born := h.born
  joined := fun p hp j hj => ⟨by show j.2 < (b.sets.set _ _).length; rw [List.length_set]; exact (h.joined p hp j hj).1, (h.joined p hp j hj).2⟩
  shut := fun t ht x hx => by
    have ht' : t + 1 < b.sets.length := by
      have e : (shutIn b s).sets.length = b.sets.length := by show (b.sets.set _ _).length = _; rw [List.length_set]
      omega
    have e : (shutIn b s).sets[t]? = (b.sets.set s { b.sets.getD s ⟨0, none⟩ with to_ := some b.year })[t]? := rfl
    rw [e, List.getElem?_set] at hx
    split at hx
    · split at hx
      · cases hx; intro z; cases z
      · cases hx
    · exact h.shut t ht' x hx
theorem enter_people (b : Book) (s i : Nat) : (b.enter s i).people = b.people.set i { b.p i with joined := some (b.year, s) } := rfl
theorem ok_enter {b : Book} {s i : Nat} (h : BookOk b) (hs : s < b.sets.length) : BookOk (b.enter s i) where
  names := h.names
  ages := h.ages
  year := h.year
  people := by show (b.people.set _ _).length ≤ 20; rw [List.length_set]; exact h.people
  sets := h.sets
  born := fun p hp => by
    by_cases hi : i < b.people.length
    · rcases List.mem_or_eq_of_mem_set hp with hp | hp
      · exact h.born p hp
      · rw [hp]; exact (show (b.p i).born ≤ b.year from h.born (b.p i) (p_mem hi))
    · have e : (b.enter s i).people = b.people := List.set_eq_of_length_le (by omega)
      rw [e] at hp
      exact h.born p hp
  joined := fun p hp j hj => by
    by_cases hi : i < b.people.length
    · rcases List.mem_or_eq_of_mem_set hp with hp | hp
      · exact h.joined p hp j hj
      · rw [hp] at hj ⊢
        have e : j = (b.year, s) := (Option.some.inj hj).symm
        rw [e]
        exact ⟨hs, (show (b.p i).born ≤ b.year from h.born (b.p i) (p_mem hi)), Nat.le_refl _⟩
    · have e : (b.enter s i).people = b.people := List.set_eq_of_length_le (by omega)
      rw [e] at hp
      exact h.joined p hp j hj
  shut := h.shut
theorem enter_sets (b : Book) (s i : Nat) : (b.enter s i).sets = b.sets := rfl
theorem fold_sets (s : Nat) : ∀ (l : List Nat) (b : Book), (l.foldl (fun b i => b.enter s i) b).sets = b.sets
  | [], _ => rfl
  | i :: l, b => (fold_sets s l (b.enter s i)).trans (enter_sets b s i)
theorem ok_fold {s : Nat} : ∀ (l : List Nat) {b : Book}, BookOk b → s < b.sets.length → BookOk (l.foldl (fun b i => b.enter s i) b)
  | [], _, h, _ => h
  | _ :: l, _, h, hs => ok_fold l (ok_enter h hs) hs

theorem become_ok {d : Desk} {b : Book} (h : DeskOk d) (hb : BookOk b) : DeskOk (d.become b) where
  now := hb
  past := fun c hc => by
    have hc' : c ∈ d.now :: d.past := List.mem_of_mem_take hc
    rcases List.mem_cons.mp hc' with rfl | hc'
    · exact h.now
    · exact h.past c hc'
  future := fun c hc => nomatch hc
  few := by show ((d.now :: d.past).take PAST).length ≤ 20; rw [List.length_take]; exact Nat.min_le_left _ _
  all := by show ((d.now :: d.past).take PAST).length + 0 ≤ 20; rw [List.length_take]; exact Nat.min_le_left _ _

/-! ### each call, case by case -/
section
variable {d : Desk}
theorem act_start_no {n l h : Nat} (c : n < 2 ∨ 12 < n ∨ h < l ∨ 60 < h) : act d (.start n l h) = (d, only (-22)) := by rw [act_start, if_pos c]
theorem act_start_yes {n l h : Nat} (c : ¬(n < 2 ∨ 12 < n ∨ h < l ∨ 60 < h)) : act d (.start n l h) = (⟨⟨n, l, h, 0, [], []⟩, [], []⟩, only 0) := by rw [act_start, if_neg c]
theorem act_pass {n : Nat} : act d (.pass n) = if n = 0 ∨ LAST < d.now.year + n then (d, only (-22)) else (d.become (passed d.now n), only (n2i (d.now.year + n))) := rfl
theorem act_born : act d .born = if PEOPLE ≤ d.now.people.length then (d, only (-28)) else (d.become (bornIn d.now), only (n2i d.now.people.length)) := rfl
theorem act_open : act d .open_ = if d.now.open_ != none then (d, only (-17)) else if SETS ≤ d.now.sets.length then (d, only (-28)) else (d.become (openedIn d.now), ⟨n2i d.now.sets.length, [d.now.name d.now.sets.length]⟩) := rfl
theorem act_shut : act d .shut = match d.now.open_ with
      | none => (d, only (-6))
      | some s => (d.become (shutIn d.now s), only (n2i (d.now.members s).length)) := rfl
theorem act_join {i : Nat} : act d (.join i) = if d.now.no i = true then (d, only (-2)) else if (d.now.p i).joined != none then (d, only (-17)) else match d.now.open_ with
      | none => (d, only (-16))
      | some s => if d.now.may i = false then (d, only (-22)) else (d.become (d.now.enter s i), only (n2i s)) := rfl
theorem act_joinAll : act d .joinAll = match d.now.open_ with
      | none => (d, only (-16))
      | some s => if d.now.all.filter d.now.may = [] then (d, only (-6)) else (d.become ((d.now.all.filter d.now.may).foldl (fun b i => b.enter s i) d.now), ⟨n2i (d.now.all.filter d.now.may).length, [bits (d.now.all.filter d.now.may)]⟩) := rfl
end

/-- the order is kept by every call -/
theorem act_ok {d : Desk} (x : Km493.Call) (h : DeskOk d) : DeskOk (act d x).1 := by
  cases x with
  | start n l k =>
    by_cases c : n < 2 ∨ 12 < n ∨ k < l ∨ 60 < k
    · rw [act_start_no c]; exact h
    · rw [act_start_yes c]
      exact ⟨⟨by show 2 ≤ n ∧ n ≤ 12; omega, by show l ≤ k ∧ k ≤ 60; omega, Nat.zero_le _, Nat.zero_le _, Nat.zero_le _, fun p hp => (nomatch hp), fun p hp => (nomatch hp), fun s hs x hx => by cases hx⟩, fun b hb => (nomatch hb), fun b hb => (nomatch hb), Nat.zero_le _, Nat.zero_le _⟩
  | pass n =>
    rw [act_pass]
    split
    · exact h
    · rename_i c
      have c' : ¬(n = 0 ∨ 300 < d.now.year + n) := c
      exact become_ok h (ok_passed h.now (by omega))
  | born =>
    rw [act_born]
    split
    · exact h
    · rename_i c
      have c' : ¬ 20 ≤ d.now.people.length := c
      exact become_ok h (ok_born h.now (by omega))
  | open_ =>
    rw [act_open]
    split
    · exact h
    · rename_i o
      split
      · exact h
      · rename_i c
        have c' : ¬ 16 ≤ d.now.sets.length := c
        refine become_ok h (ok_opened h.now ?_ (by omega))
        cases e : isOpen d.now with
        | false => rfl
        | true => rw [open_yes h.now e] at o; exact absurd rfl o
  | shut =>
    rw [act_shut]
    split
    · exact h
    · exact become_ok h (ok_shut h.now)
  | join i =>
    rw [act_join]
    split
    · exact h
    · split
      · exact h
      · cases e : isOpen d.now with
        | false => rw [open_no h.now e]; exact h
        | true =>
          rw [open_yes h.now e]
          have := isOpen_pos e
          dsimp only
          split
          · exact h
          · exact become_ok h (ok_enter h.now (by omega))
  | joinAll =>
    rw [act_joinAll]
    cases e : isOpen d.now with
    | false => rw [open_no h.now e]; exact h
    | true =>
      rw [open_yes h.now e]
      have := isOpen_pos e
      dsimp only
      split
      · exact h
      · exact become_ok h (ok_fold _ h.now (by omega))
  | back =>
    show DeskOk (match d.past with
      | [] => (d, only (-2))
      | k :: r => (⟨k, r, d.now :: d.future⟩, only (n2i r.length))).1
    cases e : d.past with
    | nil => exact h
    | cons k r =>
      have hf := h.few
      have ha := h.all
      rw [e, List.length_cons] at hf ha
      refine ⟨h.past k (by rw [e]; exact List.mem_cons_self ..), fun b hb => h.past b (by rw [e]; exact List.mem_cons_of_mem _ hb), fun b hb => ?_, by show r.length ≤ 20; omega, by show r.length + (d.now :: d.future).length ≤ 20; rw [List.length_cons]; omega⟩
      rcases List.mem_cons.mp hb
          with rfl | hb
      · exact h.now
      · exact h.future b hb
  | again =>
    show DeskOk (match d.future with
      | [] => (d, only (-2))
      | k :: r => (⟨k, (d.now :: d.past).take PAST, r⟩, only (n2i r.length))).1
    cases e : d.future with
    | nil => exact h
    | cons k r =>
      have ha := h.all
      rw [e, List.length_cons] at ha
      have hp : ((d.now :: d.past).take PAST).length = d.past.length + 1 := by rw [List.length_take, List.length_cons]; exact Nat.min_eq_right (by show _ ≤ 20; omega)
      refine ⟨h.future k (by rw [e]; exact List.mem_cons_self ..), fun b hb => ?_, fun b hb => h.future b (by rw [e]; exact List.mem_cons_of_mem _ hb), by show ((d.now :: d.past).take PAST).length ≤ 20; omega, by show ((d.now :: d.past).take PAST).length + r.length ≤ 20; omega⟩
      rcases List.mem_cons.mp (List.mem_of_mem_take hb) with rfl | hb
      · exact h.now
      · exact h.past b hb
  | age i => exact h
  | whose i => exact h
  | members s => exact h
  | name s => exact h
  | alike s => exact h
  | may => exact h
  | missed => exact h
  | senior i j => exact h
  | twisted => exact h
  | rank => exact h
  | span s => exact h
  | when_ i => exact h
  | state => exact h
end Ag

/-! AgF: short names of readings; a call of what an expression gives; values of readings (the heap as it was). -/
namespace Ag
open L2 PySem PySem.Spec PyProof.Rows

abbrev rPlus : R2 := rI0 (fun i j => .int (i + j))
abbrev rMinus : R2 := rI0 fun i j => .int (i - j)
abbrev rTimes : R2 := rI CMul fun i j => .int (i * j)
abbrev rRest : R2 := rI (fun _ j => j ≠ 0) fun i j => .int (i.fmod j)
abbrev rFloor : R2 := rI CDivN fun i j => .int (i.fdiv j)
abbrev rLess : R2 := rI0 fun i j => .bl (decide (i < j))
abbrev rLeq : R2 := rI0 fun i j => .bl (decide (i ≤ j))
abbrev rNeg : V → Hp → VK → Prop := rU fun i => .int (-i)
abbrev rTupleOf (K : PySem.W.Frag) : List V → Hp → VK → Prop := fun xs H Q => ∃ p ys, xs = [.ref p] ∧ ((SqL K H p ys ∧ ∀ l, H l = none → Q (.ref l) (upd H l (.tup ys))) ∨ (SqT K H p ys ∧ Q (.ref p) H))
abbrev rMinTwo : List V → Hp → VK → Prop := fun xs H Q => ∃ i j, xs = [.int i, .int j] ∧ Q (.int (if j < i then j else i)) H
abbrev ipAdd : TIp := ipI fun i j => i + j
abbrev ipSub : TIp := ipI fun i j => i - j

/-! ### a call of what a subscript gives -/
def tCallE (S : Addr → Sp → Prop) (tf : TE) (t : TA) : TE := fun σ H Q => tf σ H fun x H1 => ∃ f sp, x = .ref f ∧ S f sp ∧ t σ H1 fun vs H2 => sp vs H2 Q E0
section
variable {X : Cx} {k : Nat} {p pos : Pos} {a b e : Expr} {es : List Expr} {t : TA} {tf : TE} {S : Addr → Sp → Prop}
theorem pe_callE (hf : PE X (.Subscript a b p) tf) (A : ∀ f sp, S f sp → Held X.prog X.w X.K X.mg X.base k f sp) (hr : Room k X.A) (ha : PA X (e :: es) t)
    (h1 : starEach (e :: es) X.env = (false, eval e X.env) :: starEach es X.env := by rfl)
    (h2 : (backTo pos (starEach es X.env)).any (·.1) = false := by rfl)
    (hc : eval (.Call (.Subscript a b p) (e :: es) [] pos) X.env = (do callWith pos (← eval (.Subscript a b p) X.env) [] (backTo pos (starEach (e :: es) X.env)) (backToKw pos (keywordEach [] X.env))) := by rfl) :
    PE X (.Call (.Subscript a b p) (e :: es) [] pos) (tCallE S tf t) := by
  refine ⟨fun pins s σ G Q I h => ?_⟩
  rw [hc]
  refine wpAny_bind (thn (hf.run pins s σ G _ I h) fun _ sa ⟨_, Ha, Ia, ra, qa⟩ => ?_)
  obtain ⟨g, pr, rfl, hS, ht⟩ := qa
  obtain ⟨gd, prs, G, keep, bi⟩ := (A g pr hS).ex
  cases ra
  refine PySem.W.callWith_K (h₀ := X.base) I.ok.mod.kin keep (thn (ha.run pos pins sa σ Ha _ Ia ht) fun _ sb ⟨ws, Hb, Ib, rb, qb⟩ => ⟨Ib.kIn, ?_⟩) h1 h2
  refine run_fn (dvs := []) (E := E0) G hr bi .nil pass0 Ib rb ?_
  rw [List.append_nil]
  exact qb
end
end Ag

/-! AgS: a bound method as a value; sorted(xs, key=o.m): the keys are tuples of ints that the method makes. -/
namespace Ag
open PySem PySem.Spec PySem.W PySem.Calls PyProof.Rows L2

/-- all that was there is there -/
def Ext (H H' : Hp) : Prop := ∀ b o, H b = some o → H' b = some o
theorem Ext.rfl' {H : Hp} : Ext H H := fun _ _ e => e
theorem Ext.trans {H H1 H2 : Hp} (a : Ext H H1) (b : Ext H1 H2) : Ext H H2 := fun c o e => b c o (a c o e)
theorem Ext.new {H : Hp} {p : Addr} {o : HO} (h : H p = none) : Ext H (upd H p o) := fun c u e => by rw [upd_ne (ne_of_none e h)]; exact e

/-! ### o.m as a value -/
def tBound (C : Addr) (m : Str) (g : Addr) (ta : TE) : TE := fun σ H Q => ta σ H fun x H1 => ∃ a dx fs, x = .ref a ∧ H1 a = some (.ins C dx fs) ∧ fs.lookup m = none ∧ ∀ q, H1 q = none → Q (.ref q) (upd H1 q (.met g a))
theorem pe_boundM {X : Cx} {e : Expr} {ta : TE} {C g : Addr} {m : Str} {pos : Pos} (he : PE X e ta) (c : Cls X.K C) (k : BMeth X.K C m g) (hb : attributeBase e m X.env (eval e X.env) = eval e X.env) : PE X (.Attribute e m pos) (tBound C m g ta) := by
  refine ⟨fun pins s σ G Q I h => ?_⟩
  refine attr_of hb (thn (he.run pins s σ G _ I h) fun u s1 ⟨x, H1, I1, rx, a, dx, fs, ex, ea, l, q⟩ => ?_)
  subst ex
  exact op_getbound I1 ea c k l rx q

/-! ### sorted by a bound method -/
/-- a key of ints, as data -/
def kd (k : Int → List Int) (n : Int) : PyData := .tuple ((k n).map .int)
/-- the promise of a key's method, over any later heap -/
def KeyOk (sp : Sp) (x : Addr) (k : Int → List Int) (H : Hp) (n : Int) : Prop :=
  ∀ H1, Ext H H1 → ∀ R : VK, (∀ p H2, Ext H1 H2 → H2 p = some (.tup ((k n).map V.int)) → R (.ref p) H2) → sp [.ref x, .int n] H1 R E0
def rSortedMet (K : PySem.W.Frag) (g : Addr) (sp : Sp) : List V → List V → Hp → VK → Prop := fun vs zs H Q => ∃ (l q x : Addr) (ns : List Int) (k : Int → List Int) (d : Nat), vs = [.ref l] ∧ zs = [.ref q] ∧ H q = some (.met g x) ∧ SqL K H l (ns.map V.int) ∧
  (∀ n, (k n).length = d + 1) ∧ (∀ n ∈ ns, KeyOk sp x k H n) ∧ ∀ p H1, Ext H H1 → H p = none → H1 p = some (.lst ((ns.mergeSort (PySem.W.dataLe false (kd k))).map V.int)) → Q (.ref p) H1

theorem reads_ints {h : Heap} : ∀ {vs : List Value} {ns : List Int}, Vals (ns.map V.int) vs → ReadsAll h vs (ns.map .int) []
  | _, [], .nil => .nil
  | _, n :: ns, .cons ⟨t, e⟩ r => by
    subst e
    exact ReadsAll.cons (as := []) (bs := []) (.int n t) (reads_ints r)
theorem alike_keys : ∀ (xs ys : List Int), PySem.W.alike (.tuple (xs.map .int)) (.tuple (ys.map .int)) = PySem.W.alikeAll (xs.map .int) (ys.map .int) := fun _ _ => rfl

section
variable {X : Cx} {pins : List (Addr × Obj)} {σ : L2.St} {g x q : Addr} {sp : Sp} {kk : Nat} {ns : List Int} {k : Int → List Int}
/-- the keys that are made: tuples that the heap knows -/
def KeyAt (H : Hp) (k : Int → List Int) (v : Value) (n : Int) : Prop := ∃ p, v = .ref p ∧ H p = some (.tup ((k n).map V.int))
theorem KeyAt.ext {H H' : Hp} {v : Value} {n : Int} (e : Ext H H') (a : KeyAt H k v n) : KeyAt H' k v n := let ⟨p, h1, h2⟩ := a; ⟨p, h1, e p _ h2⟩
theorem KeyAt.reads {H : Hp} {s : Shared} {v : Value} {n : Int} (I : Inv X pins σ H s) (a : KeyAt H k v n) : Reads s.heap v (kd k n) [] := by
  obtain ⟨p, rfl, hp⟩ := a
  obtain ⟨_, its, rv, o, ho, hc, n', hd⟩ := I.hok p _ hp
  exact Reads.tuple ho hc hd (reads_ints (by simpa using rv))

theorem each_map' {α β γ : Type} {R : α → γ → Prop} (f : β → γ) : ∀ {as : List α} {bs : List β}, EachIs (fun a b => R a (f b)) as bs → EachIs R as (bs.map f)
  | _, _, .nil => .nil
  | _, _, .cons h t => .cons h (each_map' f t)
theorem each_vals : ∀ {vs : List Value} {ns : List Int}, Vals (ns.map V.int) vs → EachIs (fun v n => ∃ t, v = Value.int n t) vs ns
  | _, [], .nil => .nil
  | _, _ :: _, .cons r t => .cons r (each_vals t)
theorem vals_each : ∀ {vs : List Value} {ns : List Int}, EachIs (fun v n => ∃ t, v = Value.int n t) vs ns → Vals (ns.map V.int) vs
  | _, _, .nil => .nil
  | _, _, .cons r t => .cons r (vals_each t)

/-- the keys are made one by one, then it is sorted -/
theorem met_rest {A : Around} {s : Shared} {H : Hp} {a kS : Addr} {e1 : Nat} {vs : List Value} {P : PySem.Fin → Shared → Prop} {E : Value → Shared → Prop} {d : Nat}
    (hA : A.frames = some X.stack) (hr : Room kk A) (Fn : FnR X.prog X.w X.K X.mg X.base CX0 kk g sp) (I : Inv X pins σ H s) (hq : H q = some (.met g x)) (hd : ∀ n, (k n).length = d + 1) (hk : ∀ n ∈ ns, KeyOk sp x k H n)
    (ra : FbM.Rec X pins a) (rk : FbM.Rec X pins kS) (fa : FpOk X pins H a) (fk : FpOk X pins H kS) (ua : H a = none) (uk : H kS = none) (hka : kS ≠ a) (na : s.heap.get? a = some (seqObj "list" #[] e1)) (nk : s.heap.get? kS = some (seqObj "list" #[] 0))
    (ev : EachIs (fun v n => ∃ t, v = Value.int n t) vs ns) (hcap : vs.length ≤ sizeLine)
    (h : ∀ s' H' out c, Ext H H' → Inv X pins σ H' s' → H' a = none → H' kS = none → s'.heap.get? a = some (seqObj "list" (List.toArray out) c) → KeyedOut false (ns.map (kd k)) vs out → P (.done (.ret .none)) s') :
    wpAny (model X.prog X.w) A (ksk_rest a (.ref q) false vs.toArray e1 (.ref kS)) P E s := by
  have hal : AllAlike (ns.map (kd k)) := AllAlike.of fun b b' => alike_ints _ _
  have hsk : PySem.W.Sortable (ns.map (kd k)) := Sortable.tuples fun b => by
    have e := hd b
    unfold kd
    cases hb : k b with
    | nil => rw [hb] at e; cases e
    | cons i r => exact ⟨_, _, rfl⟩
  have hu : ∀ y, y ∈ ns.map (kd k) → A.units + y.depth < cLine := fun y hy => by
    obtain ⟨n, _, rfl⟩ := List.mem_map.mp hy
    have e : (kd k n).depth = 1 + PyData.depthAll ((k n).map .int) := by
      first | rfl | (unfold kd; simp [PyData.depth]; omega) | (unfold kd; simp [PyData.depth, Nat.add_comm])
    rw [e, depth_ints]
    have := hr.un
    omega
  unfold ksk_rest
  refine wpAny_bind
    (wpAny_rule ?_)
  first
    | rw [List.forIn_toArray]
    | (rw [← Array.forIn_toList]
       simp only [List.toList_toArray])
    | rw [← Array.forIn_toList]
  refine wpAny_bind (ksk_fold (fun i s' => ∃ H' made e, Ext H H' ∧ Inv X pins σ H' s' ∧ H' a = none ∧ H' kS = none ∧ s'.heap.get? kS = some (seqObj "list" made e) ∧ s'.heap.get? a = some (seqObj "list" #[] e1) ∧ EachIs (KeyAt H' k) made.toList (ns.take i)) vs 0 s
    ⟨H, #[], 0, Ext.rfl', I, ua, uk, nk, na, by rw [List.take_zero]; exact EachIs.nil⟩ ?step ?done)
  case step =>
    rintro j y s' hy ⟨H', made, e, ex, I', ua', uk', gk', na', hkA⟩
    simp only [Nat.zero_add] at hkA ⊢
    have hj : j < vs.length := (List.getElem?_eq_some_iff.mp hy).1
    have hl := ev.length
    obtain ⟨n, hn⟩ : ∃ n, ns[j]? = some n := ⟨_, List.getElem?_eq_getElem (by omega)⟩
    have hfit : made.size ≤ vs.length := by
      have hq1' := hkA.length
      rw [Array.length_toList, List.length_take] at hq1'
      omega
    have hyn : ∃ t, y = Value.int n t := ev.zip (y, n) (List.mem_of_getElem? (i := j) (by rw [List.getElem?_zip_eq_some]; exact ⟨hy, hn⟩))
    obtain ⟨t, rfl⟩ := hyn
    have e0 := I'.env0
    have e1' : Env0 X.prog X.w X.K X.mg X.base A X.stack s' H' := ⟨hA, e0.mod, e0.bs, e0.bsz, e0.funs, e0.frf, e0.hok, e0.bare⟩
    have hq1 : s'.heap.get? q = some (PySem.W.methodObj (.ref g) (.ref x)) := I'.hok q _ (ex q _ hq)
    refine wpAny_bind
      (wpAny_attempt ?_)
    refine wpAny_call (PySem.W.method_call hq1 (codeAny_mono (Fn A X.stack _ H' [.ref x, .int n t] [.ref x, .int n] (fun v H2 => Ext H' H2 ∧ ∃ p, v = .ref p ∧ H2 p = some (.tup ((k n).map V.int))) E0 hr e1' (.cons rfl (.cons ⟨t, rfl⟩ .nil))
      (hk n (List.mem_of_getElem? hn) H' ex _ fun p H2 x2 hp => ⟨x2, p, rfl, hp⟩)) fun rr s2 hres => ?_))
    cases rr with
    | error e => exact False.elim hres
    | ok fl =>
      cases fl with
      | next => exact False.elim hres
      | brk => exact False.elim hres
      | cont => exact False.elim hres
      | ret v =>
        obtain ⟨v', H2, os, bare, un, hok, rv', x2, p, rfl, hp⟩ := (show CE X.stack X.prog X.w H' _ _ v s2 from hres)
        obtain rfl : v = Value.ref p := rv'
        have I2 : Inv X pins σ H2 s2 := I'.call' os un hok bare (fun b y => absurd y List.not_mem_nil)
        have ua2 : H2 a = none := un.free a _ na' ua' List.not_mem_nil
        have uk2 : H2 kS = none := un.free kS _ gk' uk' List.not_mem_nil
        have na2 : s2.heap.get? a = some (seqObj "list" #[] e1) := un.keep a _ na' ua' ra.fr List.not_mem_nil
        have gk2 : s2.heap.get? kS = some (seqObj "list" made e) := un.keep kS _ gk' uk' rk.fr List.not_mem_nil
        have s1 := Heap.SameBut.update s2.heap kS (Obj.mapSeq (·.push (Value.ref p)))
        obtain ⟨c2, hc2⟩ : ∃ c2, (s2.heap.update kS (Obj.mapSeq (·.push (Value.ref p)))).get? kS = some (seqObj "list" (made.push (Value.ref p)) c2) := ⟨_, get?_update_seq gk2 (·.push (Value.ref p))⟩
        have ek : ns.take (j + 1) = ns.take j ++ [n] := by rw [List.take_add_one, hn]; simp
        have ea : (made.push (Value.ref p)).toList = made.toList ++ [Value.ref p] := by simp
        refine wpAny_bind (listUpdate_at gk2 rfl ?_ (Nat.le_trans hfit hcap) (Nat.le_trans (Nat.le_of_eq (Array.size_push ..)) (Nat.succ_le_succ (Nat.le_trans hfit hcap))))
        refine wpAny_pure ⟨rfl, H2, made.push (Value.ref p), c2, ex.trans x2, rk.turn (t' := s2.toks) I2 uk2 fun c o hc e => (s1.2 c hc).trans e, ua2, uk2, hc2, (s1.2 a hka.symm).trans na2, ?_⟩
        rw [ea, ek]
        exact each_snoc (R := KeyAt H2 k) ⟨p, rfl, hp⟩ (hkA.mono fun u m z => z.ext x2)
  case done =>
    rintro s' ⟨H', made, e, ex, I', ua', uk', gk', na', hkA⟩
    have hl := ev.length
    have e3 : ns.take (0 + vs.length) = ns := List.take_of_length_le (by omega)
    rw [e3] at hkA
    have hkd : EachIs (fun v y => ∃ as, Reads s'.heap v y as) made.toList (ns.map (kd k)) := each_map' (R := fun v y => ∃ as, Reads s'.heap v y as) (kd k) (hkA.mono fun v n z => ⟨[], z.reads I'⟩)
    have heqn : made.size = vs.length := by
      have hq1' := hkA.length
      rw [Array.length_toList] at hq1'
      omega
    refine wpAny_bind (listItems_at gk' rfl ?_)
    have kp : KeepsBut a (hideAll s'.heap [kS]) s'.heap := fun b o hb q => of_hideAll _ q
    refine keyH_end (κ := dataKind s'.heap (ns.map (kd k))) (h₁ := hideAll s'.heap [kS]) kp (hideAll_none _ (by simp)) gk' na' hka (SortsAt.data (s := s') hkd hal hsk hu) heqn hcap fun h3 tk3 c k3 n3 => ?_
    refine h { s' with heap := h3, toks := tk3 } H' _ c ex ?_ ua' uk' n3 ⟨s'.heap, made.toList, hal, rfl, hkd⟩
    refine I'.turnedL (ch := [a, kS]) (fun b o hb q => k3 b o (fun z => hb (by simp [z])) (hideAll_get _ q (fun z => hb (by rw [List.mem_singleton.mp z]; simp)))) fun b hb => ?_
    rcases List.mem_cons.mp hb
        with rfl | hb
    · exact ⟨ua', fa.2⟩
    · rw
        [List.mem_singleton.mp hb]
      exact ⟨uk', fk.2⟩

theorem cr_sortedMet (hcalm : X.calm = true) (Fn : FnR X.prog X.w X.K X.mg X.base CX0 kk g sp) (hr : Room (kk + 2) X.A) : CallRK X (.builtin "sorted") [Str.ofString "key"] (rSortedMet X.K g sp) := by
  intro pins s σ H vs zs us ws Q I r rq h
  obtain ⟨l, q, x, ns, k, d, rfl, rfl, hq, hs, hd, hk, hQ⟩ := h
  obtain rfl := Vals.ref1 r
  obtain ⟨u1, rfl, e1⟩ := vals1 rq
  obtain rfl : u1 = Value.ref q := e1
  obtain ⟨items, rv, hl, hfit⟩ := I.list hs
  have ev := each_vals rv
  have hlen := rv.length
  rw [List.length_map] at hlen hfit
  have hcap : items.length ≤ sizeLine := by omega
  refine sorted_of_sort hl.isList hcap (ksk_s1 _ _) (fun _ => ksk_l1 _ _) fun E' => ?_
  show wpAny _ _ (Builtin.«list.sort» ⟨[.ref (s.heap.objs.size + 1)], [(Str.ofString "key", .ref q)]⟩) _ _ _
  rw [ksk_t1]
  have hcp := copyHeap_at s.heap items
  obtain ⟨ep, hcp1⟩ : ∃ ep, ((copyHeap s.heap items).update (s.heap.objs.size + 1) (Obj.mapSeq fun _ => (#[] : Array Value))).get? (s.heap.objs.size + 1) = some (seqObj "list" #[] ep) := ⟨_, get?_update_seq hcp fun _ => #[]⟩
  have hszc : (copyHeap s.heap items).objs.size = s.heap.objs.size + 2 := by
    unfold copyHeap
    rw [size_push', Heap.size_update, size_push']
  have hkS : (((copyHeap s.heap items).update (s.heap.objs.size + 1) (Obj.mapSeq fun _ => (#[] : Array Value))).push (seqObj "tuple" items.toArray 0)).objs.size = s.heap.objs.size + 3 := by rw [size_push', Heap.size_update, hszc]
  unfold ksk_tree
  refine wpAny_bind (listItems_at hcp rfl ?_)
  refine wpAny_bind (listUpdate_at hcp rfl ?_ (by rw [List.size_toArray]; exact hcap) (Nat.zero_le _))
  refine wpAny_bind (seqEpoch_at hcp1 rfl ?_)
  refine wpAny_bind (wpAny_newTuple ?_ (by show items.length ≤ _; exact hcap))
  refine
      wpAny_bind (wpAny_newList ?_ (Nat.zero_le _))
  refine wpAny_holding ?_
  have kp : ∀ b u, s.heap.get? b = some u → (sortingHeap (copyHeap s.heap items) (s.heap.objs.size + 1) items).get? b = some u := fun b u e => sortingHeap_old (Nat.ne_of_lt (Nat.lt_succ_of_lt (Heap.lt_size e))) (copyHeap_old e)
  have hA : X.A.in1.in1.frames = some X.stack := I.ok.frames
  have na0 : H (s.heap.objs.size + 1) = none := I.hok.fresh (Nat.le_succ _)
  have nk0 : H (s.heap.objs.size + 3) = none := I.hok.fresh (by omega)
  rw [hkS]
  refine met_rest (a := s.heap.objs.size + 1) (kS := s.heap.objs.size + 3) (s := { s with heap := sortingHeap (copyHeap s.heap items) (s.heap.objs.size + 1) items }) (ns := ns) (k := k) (H := H) hA (Room.in1 (Room.in1 hr)) Fn (I.kept (t' := s.toks) kp) hq hd hk (FbM.rec_new I (Nat.le_succ _)) (FbM.rec_new I (Nat.le_add_right _ 3)) (I.fpOk (Nat.le_succ _) na0) (I.fpOk (Nat.le_add_right _ 3) nk0) na0 nk0 (Nat.ne_of_gt (Nat.add_lt_add_left (by decide) _))
    (Heap.get?_push_of_some _ (Heap.get?_push_of_some _ hcp1)) (by rw [← hkS]; exact Heap.get?_push_size _ rfl) ev hcap fun s' H' out c ex I' ua uk hD ko => ⟨rfl, ?_⟩
  have ko' := keyedOut_each (R := fun v n => ∃ t, v = Value.int n t) (kd k) ko ev
  have rv' := vals_each ko'
  have hl' := rv'.length
  have hlo : ((ns.mergeSort (dataLe false (kd k))).map V.int).length ≤ sizeLine := by rw [List.length_map, List.length_mergeSort]; exact hfit
  have J := I'.take (t' := s'.toks) (h' := s'.heap) (it := s.heap.objs.size + 1) (o := .lst ((ns.mergeSort (dataLe false (kd k))).map V.int)) (fun b ob _ e => e) ⟨ua, (I.fpOk (H' := H) (Nat.le_succ _) na0).2⟩ ⟨hlo, out, c, rv', hD⟩
  exact ⟨.ref (s.heap.objs.size + 1), _, J, rfl, hQ _ _ (ex.trans (Ext.new ua)) na0 upd_same⟩

/-! ### max(xs, default=d) -/
def rMaxDef (K : PySem.W.Frag) : List V → List V → Hp → VK → Prop := fun vs zs H Q => ∃ (a : Addr) (ms : List Int) (d : Int), vs = [.ref a] ∧ zs = [.int d] ∧ SqL K H a (ms.map V.int) ∧
  (ms = [] → Q (.int d) H) ∧ ∀ m, m ∈ ms → (∀ y, y ∈ ms → y ≤ m) → Q (.int m) H
theorem maxOf_int : ∀ (ys : List Int) (y : Int), PySem.W.maxOf y ys ∈ y :: ys ∧ ∀ z ∈ y :: ys, z ≤ PySem.W.maxOf y ys
  | [], y => ⟨List.mem_singleton.mpr rfl, fun z hfit => by rw [List.mem_singleton.mp hfit]; exact Int.le_refl y⟩
  | x :: ys, y => by
    obtain ⟨h1, h2⟩ := maxOf_int ys (if decide (y < x) = true then x else y)
    have e : PySem.W.maxOf y (x :: ys) = PySem.W.maxOf (if decide (y < x) = true then x else y) ys := rfl
    rw [e]
    by_cases c : y < x
    · rw [if_pos (decide_eq_true c)] at h1 h2 ⊢
      refine ⟨List.mem_cons_of_mem _ h1, fun z hfit => ?_⟩
      rcases List.mem_cons.mp hfit with rfl | hfit
      · exact Int.le_trans (Int.le_of_lt c) (h2 x (List.mem_cons_self ..))
      · exact h2 z hfit
    · rw [if_neg (by rw [decide_eq_true_eq]; exact c)] at h1 h2 ⊢
      refine ⟨?_, fun z hfit => ?_⟩
      · rcases List.mem_cons.mp h1 with h1 | h1
        · rw [h1]; exact List.mem_cons_self ..
        · exact List.mem_cons_of_mem _ (List.mem_cons_of_mem _ h1)
      · rcases List.mem_cons.mp hfit with rfl | hfit
        · exact h2 z (List.mem_cons_self ..)
        · rcases List.mem_cons.mp hfit with rfl | hfit
          · exact Int.le_trans (Int.not_lt.mp c) (h2 y (List.mem_cons_self ..))
          · exact h2 z (List.mem_cons_of_mem _ hfit)
theorem cr_maxDef (hcalm : X.calm = true) (hr : Room kk X.A) : CallRK X (.builtin "max") [Str.ofString "default"] (rMaxDef X.K) := by
  intro pins s σ H vs zs us ws Q I r rq h
  obtain ⟨a, ms, d, rfl, rfl, hs, h0, h1⟩ := h
  obtain rfl := Vals.ref1 r
  obtain ⟨w1, rfl, t, rfl⟩ := vals1 rq
  obtain ⟨items, rv, hl, hfit⟩ := I.list hs
  have hu := hr.units
  refine max_list_datum_default (α := Int) (xs := ms) (I.ok.hd hcalm) hl.isList ⟨[], (show ReadsAll s.heap (List.toArray items).toList (ms.map fun i => PyData.int i) [] from by simpa using reads_ints rv)⟩ (by show X.A.units + 1 + 0 < cLine; omega) (fun e h' tk hk => ⟨.int d, H, I.kept hk, ⟨_, rfl⟩, h0 e⟩) fun y ys i v h' tk e hi hv hk => ?_
  obtain ⟨m1, m2⟩ := maxOf_int ys y
  obtain ⟨bs, hv⟩ := hv
  have hv' : Reads h' v (.int (PySem.W.maxOf y ys)) bs := hv
  cases hv' with
  | int _ t => exact ⟨.int (PySem.W.maxOf y ys), H, I.kept hk, ⟨_, rfl⟩, h1 _ (by rw [e]; exact m1) (by rw [e]; exact m2)⟩
end
abbrev rDictOf : List V → Hp → VK → Prop := fun xs H Q => ∃ (a : Addr) (kvs : List (Key × V)), xs = [.ref a] ∧ Rd H a (.dK kvs) ∧ ∀ p, H p = none → Q (.ref p) (upd H p (.dK kvs))
/-- a written tuple -/
theorem sqT_of {K : PySem.W.Frag} {a : Addr} {od : Option Addr} {items : Array Value} {n : Nat} {sl : Array (Option Value)} {xs : List V} (l : K.lookup a = some ⟨.type "tuple", od, .seq items n, sl⟩) (hfit : items.size ≤ sizeLine) (r : Vals xs items.toList) (H : Hp) : SqT K H a xs := .inr ⟨_, items, n, l, rfl, rfl, hfit, r⟩
theorem hu1 {k : Nat} {A : Around} (r : Room k A) : A.units + 1 < cLine := by have := r.units; omega
end Ag

/-! generated by gen.py from the program at its commit: places, slots, readings, derivations -/
namespace Ag
open L2 PySem PySem.Spec PyProof.Rows

def top (i : Nat) : Stmt := PySem.Challenge.pw_agesets_s01_answers.main.body.getD i (.Pass ⟨0, 0, 0, 0⟩)
abbrev s_Roll_init : Stmt := inClass (top 3) 0
abbrev s_begin : Stmt := inClass (top 3) 1
abbrev s_is_person : Stmt := inClass (top 3) 2
abbrev s_is_set : Stmt := inClass (top 3) 3
abbrev s_is_in_a_set : Stmt := inClass (top 3) 4
abbrev s_age_of : Stmt := inClass (top 3) 5
abbrev s_age_at_joining : Stmt := inClass (top 3) 6
abbrev s_is_of_age : Stmt := inClass (top 3) 7
abbrev s_may_join : Stmt := inClass (top 3) 8
abbrev s_has_missed : Stmt := inClass (top 3) 9
abbrev s_name_of : Stmt := inClass (top 3) 10
abbrev s_last_set : Stmt := inClass (top 3) 11
abbrev s_people : Stmt := inClass (top 3) 12
abbrev s_who_may_join : Stmt := inClass (top 3) 13
abbrev s_who_has_missed : Stmt := inClass (top 3) 14
abbrev s_are_in : Stmt := inClass (top 3) 15
abbrev s_birth_years_in : Stmt := inClass (top 3) 16
abbrev s_have_the_name_of : Stmt := inClass (top 3) 17
abbrev s_is_senior : Stmt := inClass (top 3) 18
abbrev s_place_of : Stmt := inClass (top 3) 19
abbrev s_ranked : Stmt := inClass (top 3) 20
abbrev s_turned_apart : Stmt := inClass (top 3) 21
abbrev s_add_person : Stmt := inClass (top 3) 22
abbrev s_open_next : Stmt := inClass (top 3) 23
abbrev s_put_in_open : Stmt := inClass (top 3) 24
abbrev s_standing : Stmt := inClass (top 3) 25
abbrev s_stand_as : Stmt := inClass (top 3) 26
abbrev s_note_change : Stmt := inClass (top 3) 27
abbrev s_take_back : Stmt := inClass (top 3) 28
abbrev s_do_again : Stmt := inClass (top 3) 29
abbrev s_as_a_set : Stmt := top 22
abbrev s_os_start : Stmt := top 23
abbrev s_os_pass : Stmt := top 24
abbrev s_os_born : Stmt := top 25
abbrev s_os_open : Stmt := top 26
abbrev s_os_shut : Stmt := top 27
abbrev s_os_join : Stmt := top 28
abbrev s_os_join_all : Stmt := top 29
abbrev s_os_age : Stmt := top 30
abbrev s_os_whose : Stmt := top 31
abbrev s_os_members : Stmt := top 32
abbrev s_os_name : Stmt := top 33
abbrev s_os_alike : Stmt := top 34
abbrev s_os_may : Stmt := top 35
abbrev s_os_missed : Stmt := top 36
abbrev s_os_senior : Stmt := top 37
abbrev s_os_turned : Stmt := top 38
abbrev s_os_rank : Stmt := top 39
abbrev s_os_span : Stmt := top 40
abbrev s_os_when : Stmt := top 41
abbrev s_os_back : Stmt := top 42
abbrev s_os_again : Stmt := top 43
abbrev s_os_state : Stmt := top 44
abbrev s_answer_to : Stmt := top 46
abbrev s_answers : Stmt := top 47
/-- addresses -/
structure Adr where
  C_Roll : Addr
  t_NO_SET : Tok
  t_MOST_TAKEN_BACK : Tok
  t_NOT_THERE : Tok
  t_NOTHING_DUE : Tok
  t_NONE_OPEN : Tok
  t_ALREADY : Tok
  t_NOT_AS_ASKED : Tok
  t_FULL : Tok
  t_IN_NO_SET : Tok
  t_NOBODY_IN_IT : Tok
  t_NEITHER_IS_SENIOR : Tok
  t_FIRST_IS_SENIOR : Tok
  t_SECOND_IS_SENIOR : Tok
  t_FEWEST_NAMES : Tok
  t_MOST_NAMES : Tok
  t_HIGHEST_AGE : Tok
  t_LAST_YEAR : Tok
  t_MOST_PEOPLE : Tok
  t_MOST_SETS : Tok
  a_CALLS : Addr
  u_CALLS_0 : Addr
  u_CALLS_1 : Addr
  u_CALLS_2 : Addr
  u_CALLS_3 : Addr
  u_CALLS_4 : Addr
  u_CALLS_5 : Addr
  u_CALLS_6 : Addr
  u_CALLS_7 : Addr
  u_CALLS_8 : Addr
  u_CALLS_9 : Addr
  u_CALLS_10 : Addr
  u_CALLS_11 : Addr
  u_CALLS_12 : Addr
  u_CALLS_13 : Addr
  u_CALLS_14 : Addr
  u_CALLS_15 : Addr
  u_CALLS_16 : Addr
  u_CALLS_17 : Addr
  u_CALLS_18 : Addr
  u_CALLS_19 : Addr
  u_CALLS_20 : Addr
  u_CALLS_21 : Addr
  f_Roll_init : Addr
  fd_Roll_init : FuncData
  f_begin : Addr
  fd_begin : FuncData
  f_is_person : Addr
  fd_is_person : FuncData
  f_is_set : Addr
  fd_is_set : FuncData
  f_is_in_a_set : Addr
  fd_is_in_a_set : FuncData
  f_age_of : Addr
  fd_age_of : FuncData
  f_age_at_joining : Addr
  fd_age_at_joining : FuncData
  f_is_of_age : Addr
  fd_is_of_age : FuncData
  f_may_join : Addr
  fd_may_join : FuncData
  f_has_missed : Addr
  fd_has_missed : FuncData
  f_name_of : Addr
  fd_name_of : FuncData
  f_last_set : Addr
  fd_last_set : FuncData
  f_people : Addr
  fd_people : FuncData
  f_who_may_join : Addr
  fd_who_may_join : FuncData
  f_who_has_missed : Addr
  fd_who_has_missed : FuncData
  f_are_in : Addr
  fd_are_in : FuncData
  f_birth_years_in : Addr
  fd_birth_years_in : FuncData
  f_have_the_name_of : Addr
  fd_have_the_name_of : FuncData
  f_is_senior : Addr
  fd_is_senior : FuncData
  f_place_of : Addr
  fd_place_of : FuncData
  f_ranked : Addr
  fd_ranked : FuncData
  f_turned_apart : Addr
  fd_turned_apart : FuncData
  f_add_person : Addr
  fd_add_person : FuncData
  f_open_next : Addr
  fd_open_next : FuncData
  f_put_in_open : Addr
  fd_put_in_open : FuncData
  f_standing : Addr
  fd_standing : FuncData
  f_stand_as : Addr
  fd_stand_as : FuncData
  f_note_change : Addr
  fd_note_change : FuncData
  f_take_back : Addr
  fd_take_back : FuncData
  f_do_again : Addr
  fd_do_again : FuncData
  f_as_a_set : Addr
  fd_as_a_set : FuncData
  f_os_start : Addr
  fd_os_start : FuncData
  f_os_pass : Addr
  fd_os_pass : FuncData
  f_os_born : Addr
  fd_os_born : FuncData
  f_os_open : Addr
  fd_os_open : FuncData
  f_os_shut : Addr
  fd_os_shut : FuncData
  f_os_join : Addr
  fd_os_join : FuncData
  f_os_join_all : Addr
  fd_os_join_all : FuncData
  f_os_age : Addr
  fd_os_age : FuncData
  f_os_whose : Addr
  fd_os_whose : FuncData
  f_os_members : Addr
  fd_os_members : FuncData
  f_os_name : Addr
  fd_os_name : FuncData
  f_os_alike : Addr
  fd_os_alike : FuncData
  f_os_may : Addr
  fd_os_may : FuncData
  f_os_missed : Addr
  fd_os_missed : FuncData
  f_os_senior : Addr
  fd_os_senior : FuncData
  f_os_turned : Addr
  fd_os_turned : FuncData
  f_os_rank : Addr
  fd_os_rank : FuncData
  f_os_span : Addr
  fd_os_span : FuncData
  f_os_when : Addr
  fd_os_when : FuncData
  f_os_back : Addr
  fd_os_back : FuncData
  f_os_again : Addr
  fd_os_again : FuncData
  f_os_state : Addr
  fd_os_state : FuncData
  f_answer_to : Addr
  fd_answer_to : FuncData
  f_answers : Addr
  fd_answers : FuncData
/-- what the top has written -/
structure Txt (K : PySem.W.Frag) (mg : Str → Option Value) (A : Adr) : Prop where
  cl_Roll : Cls K A.C_Roll
  g_Roll : mg "Roll" = some (.ref A.C_Roll)
  mk_Roll : Mk K A.C_Roll A.f_Roll_init
  na_names : NoAttr K A.C_Roll "names"
  na_youngest : NoAttr K A.C_Roll "youngest"
  na_oldest : NoAttr K A.C_Roll "oldest"
  na_year : NoAttr K A.C_Roll "year"
  na_birth_years : NoAttr K A.C_Roll "birth_years"
  na_set_of : NoAttr K A.C_Roll "set_of"
  na_join_years : NoAttr K A.C_Roll "join_years"
  na_set_count : NoAttr K A.C_Roll "set_count"
  na_one_is_open : NoAttr K A.C_Roll "one_is_open"
  na_stood_ahead : NoAttr K A.C_Roll "stood_ahead"
  na_stood_behind : NoAttr K A.C_Roll "stood_behind"
  g_NO_SET : mg "NO_SET" = some (.int (-1) A.t_NO_SET)
  g_MOST_TAKEN_BACK : mg "MOST_TAKEN_BACK" = some (.int (20) A.t_MOST_TAKEN_BACK)
  g_NOT_THERE : mg "NOT_THERE" = some (.int (-2) A.t_NOT_THERE)
  g_NOTHING_DUE : mg "NOTHING_DUE" = some (.int (-6) A.t_NOTHING_DUE)
  g_NONE_OPEN : mg "NONE_OPEN" = some (.int (-16) A.t_NONE_OPEN)
  g_ALREADY : mg "ALREADY" = some (.int (-17) A.t_ALREADY)
  g_NOT_AS_ASKED : mg "NOT_AS_ASKED" = some (.int (-22) A.t_NOT_AS_ASKED)
  g_FULL : mg "FULL" = some (.int (-28) A.t_FULL)
  g_IN_NO_SET : mg "IN_NO_SET" = some (.int (-33) A.t_IN_NO_SET)
  g_NOBODY_IN_IT : mg "NOBODY_IN_IT" = some (.int (-33) A.t_NOBODY_IN_IT)
  g_NEITHER_IS_SENIOR : mg "NEITHER_IS_SENIOR" = some (.int (0) A.t_NEITHER_IS_SENIOR)
  g_FIRST_IS_SENIOR : mg "FIRST_IS_SENIOR" = some (.int (1) A.t_FIRST_IS_SENIOR)
  g_SECOND_IS_SENIOR : mg "SECOND_IS_SENIOR" = some (.int (2) A.t_SECOND_IS_SENIOR)
  g_FEWEST_NAMES : mg "FEWEST_NAMES" = some (.int (2) A.t_FEWEST_NAMES)
  g_MOST_NAMES : mg "MOST_NAMES" = some (.int (12) A.t_MOST_NAMES)
  g_HIGHEST_AGE : mg "HIGHEST_AGE" = some (.int (60) A.t_HIGHEST_AGE)
  g_LAST_YEAR : mg "LAST_YEAR" = some (.int (300) A.t_LAST_YEAR)
  g_MOST_PEOPLE : mg "MOST_PEOPLE" = some (.int (20) A.t_MOST_PEOPLE)
  g_MOST_SETS : mg "MOST_SETS" = some (.int (16) A.t_MOST_SETS)
  g_CALLS : mg "CALLS" = some (.ref A.a_CALLS)
  n_len : mg "len" = none
  n_list : mg "list" = none
  n_range : mg "range" = none
  n_sorted : mg "sorted" = none
  n_dict : mg "dict" = none
  n_enumerate : mg "enumerate" = none
  n_any : mg "any" = none
  n_max : mg "max" = none
  n_min : mg "min" = none
  u_CALLS : ∀ H, SqT K H A.a_CALLS [.ref A.u_CALLS_0, .ref A.u_CALLS_1, .ref A.u_CALLS_2, .ref A.u_CALLS_3, .ref A.u_CALLS_4, .ref A.u_CALLS_5, .ref A.u_CALLS_6, .ref A.u_CALLS_7, .ref A.u_CALLS_8, .ref A.u_CALLS_9, .ref A.u_CALLS_10, .ref A.u_CALLS_11, .ref A.u_CALLS_12, .ref A.u_CALLS_13, .ref A.u_CALLS_14, .ref A.u_CALLS_15, .ref A.u_CALLS_16, .ref A.u_CALLS_17, .ref A.u_CALLS_18, .ref A.u_CALLS_19, .ref A.u_CALLS_20, .ref A.u_CALLS_21]
  u_CALLS_0 : ∀ H, SqT K H A.u_CALLS_0 [.ref A.f_os_start, .int 3, .bl false]
  u_CALLS_1 : ∀ H, SqT K H A.u_CALLS_1 [.ref A.f_os_pass, .int 1, .bl true]
  u_CALLS_2 : ∀ H, SqT K H A.u_CALLS_2 [.ref A.f_os_born, .int 0, .bl true]
  u_CALLS_3 : ∀ H, SqT K H A.u_CALLS_3 [.ref A.f_os_open, .int 0, .bl true]
  u_CALLS_4 : ∀ H, SqT K H A.u_CALLS_4 [.ref A.f_os_shut, .int 0, .bl true]
  u_CALLS_5 : ∀ H, SqT K H A.u_CALLS_5 [.ref A.f_os_join, .int 1, .bl true]
  u_CALLS_6 : ∀ H, SqT K H A.u_CALLS_6 [.ref A.f_os_join_all, .int 0, .bl true]
  u_CALLS_7 : ∀ H, SqT K H A.u_CALLS_7 [.ref A.f_os_age, .int 1, .bl false]
  u_CALLS_8 : ∀ H, SqT K H A.u_CALLS_8 [.ref A.f_os_whose, .int 1, .bl false]
  u_CALLS_9 : ∀ H, SqT K H A.u_CALLS_9 [.ref A.f_os_members, .int 1, .bl false]
  u_CALLS_10 : ∀ H, SqT K H A.u_CALLS_10 [.ref A.f_os_name, .int 1, .bl false]
  u_CALLS_11 : ∀ H, SqT K H A.u_CALLS_11 [.ref A.f_os_alike, .int 1, .bl false]
  u_CALLS_12 : ∀ H, SqT K H A.u_CALLS_12 [.ref A.f_os_may, .int 0, .bl false]
  u_CALLS_13 : ∀ H, SqT K H A.u_CALLS_13 [.ref A.f_os_missed, .int 0, .bl false]
  u_CALLS_14 : ∀ H, SqT K H A.u_CALLS_14 [.ref A.f_os_senior, .int 2, .bl false]
  u_CALLS_15 : ∀ H, SqT K H A.u_CALLS_15 [.ref A.f_os_turned, .int 0, .bl false]
  u_CALLS_16 : ∀ H, SqT K H A.u_CALLS_16 [.ref A.f_os_rank, .int 0, .bl false]
  u_CALLS_17 : ∀ H, SqT K H A.u_CALLS_17 [.ref A.f_os_span, .int 1, .bl false]
  u_CALLS_18 : ∀ H, SqT K H A.u_CALLS_18 [.ref A.f_os_when, .int 1, .bl false]
  u_CALLS_19 : ∀ H, SqT K H A.u_CALLS_19 [.ref A.f_os_back, .int 0, .bl false]
  u_CALLS_20 : ∀ H, SqT K H A.u_CALLS_20 [.ref A.f_os_again, .int 0, .bl false]
  u_CALLS_21 : ∀ H, SqT K H A.u_CALLS_21 [.ref A.f_os_state, .int 0, .bl false]
  F_Roll_init : Fun K "__init__" "Roll.__init__" s_Roll_init A.f_Roll_init A.fd_Roll_init
  b_Roll_init : Binds K A.fd_Roll_init ["self"] []
  F_begin : Fun K "begin" "Roll.begin" s_begin A.f_begin A.fd_begin
  b_begin : Binds K A.fd_begin ["self", "names", "youngest", "oldest"] []
  m_begin : Meth K A.C_Roll "begin" A.f_begin
  F_is_person : Fun K "is_person" "Roll.is_person" s_is_person A.f_is_person A.fd_is_person
  b_is_person : Binds K A.fd_is_person ["self", "person"] []
  m_is_person : Meth K A.C_Roll "is_person" A.f_is_person
  F_is_set : Fun K "is_set" "Roll.is_set" s_is_set A.f_is_set A.fd_is_set
  b_is_set : Binds K A.fd_is_set ["self", "number"] []
  m_is_set : Meth K A.C_Roll "is_set" A.f_is_set
  F_is_in_a_set : Fun K "is_in_a_set" "Roll.is_in_a_set" s_is_in_a_set A.f_is_in_a_set A.fd_is_in_a_set
  b_is_in_a_set : Binds K A.fd_is_in_a_set ["self", "person"] []
  m_is_in_a_set : Meth K A.C_Roll "is_in_a_set" A.f_is_in_a_set
  F_age_of : Fun K "age_of" "Roll.age_of" s_age_of A.f_age_of A.fd_age_of
  b_age_of : Binds K A.fd_age_of ["self", "person"] []
  m_age_of : Meth K A.C_Roll "age_of" A.f_age_of
  F_age_at_joining : Fun K "age_at_joining" "Roll.age_at_joining" s_age_at_joining A.f_age_at_joining A.fd_age_at_joining
  b_age_at_joining : Binds K A.fd_age_at_joining ["self", "person"] []
  m_age_at_joining : Meth K A.C_Roll "age_at_joining" A.f_age_at_joining
  F_is_of_age : Fun K "is_of_age" "Roll.is_of_age" s_is_of_age A.f_is_of_age A.fd_is_of_age
  b_is_of_age : Binds K A.fd_is_of_age ["self", "person"] []
  m_is_of_age : Meth K A.C_Roll "is_of_age" A.f_is_of_age
  F_may_join : Fun K "may_join" "Roll.may_join" s_may_join A.f_may_join A.fd_may_join
  b_may_join : Binds K A.fd_may_join ["self", "person"] []
  m_may_join : Meth K A.C_Roll "may_join" A.f_may_join
  F_has_missed : Fun K "has_missed" "Roll.has_missed" s_has_missed A.f_has_missed A.fd_has_missed
  b_has_missed : Binds K A.fd_has_missed ["self", "person"] []
  m_has_missed : Meth K A.C_Roll "has_missed" A.f_has_missed
  F_name_of : Fun K "name_of" "Roll.name_of" s_name_of A.f_name_of A.fd_name_of
  b_name_of : Binds K A.fd_name_of ["self", "number"] []
  m_name_of : Meth K A.C_Roll "name_of" A.f_name_of
  F_last_set : Fun K "last_set" "Roll.last_set" s_last_set A.f_last_set A.fd_last_set
  b_last_set : Binds K A.fd_last_set ["self"] []
  m_last_set : Meth K A.C_Roll "last_set" A.f_last_set
  F_people : Fun K "people" "Roll.people" s_people A.f_people A.fd_people
  b_people : Binds K A.fd_people ["self"] []
  m_people : Meth K A.C_Roll "people" A.f_people
  F_who_may_join : Fun K "who_may_join" "Roll.who_may_join" s_who_may_join A.f_who_may_join A.fd_who_may_join
  b_who_may_join : Binds K A.fd_who_may_join ["self"] []
  m_who_may_join : Meth K A.C_Roll "who_may_join" A.f_who_may_join
  F_who_has_missed : Fun K "who_has_missed" "Roll.who_has_missed" s_who_has_missed A.f_who_has_missed A.fd_who_has_missed
  b_who_has_missed : Binds K A.fd_who_has_missed ["self"] []
  m_who_has_missed : Meth K A.C_Roll "who_has_missed" A.f_who_has_missed
  F_are_in : Fun K "are_in" "Roll.are_in" s_are_in A.f_are_in A.fd_are_in
  b_are_in : Binds K A.fd_are_in ["self", "number"] []
  m_are_in : Meth K A.C_Roll "are_in" A.f_are_in
  F_birth_years_in : Fun K "birth_years_in" "Roll.birth_years_in" s_birth_years_in A.f_birth_years_in A.fd_birth_years_in
  b_birth_years_in : Binds K A.fd_birth_years_in ["self", "number"] []
  m_birth_years_in : Meth K A.C_Roll "birth_years_in" A.f_birth_years_in
  F_have_the_name_of : Fun K "have_the_name_of" "Roll.have_the_name_of" s_have_the_name_of A.f_have_the_name_of A.fd_have_the_name_of
  b_have_the_name_of : Binds K A.fd_have_the_name_of ["self", "number"] []
  m_have_the_name_of : Meth K A.C_Roll "have_the_name_of" A.f_have_the_name_of
  F_is_senior : Fun K "is_senior" "Roll.is_senior" s_is_senior A.f_is_senior A.fd_is_senior
  b_is_senior : Binds K A.fd_is_senior ["self", "person", "other"] []
  m_is_senior : Meth K A.C_Roll "is_senior" A.f_is_senior
  F_place_of : Fun K "place_of" "Roll.place_of" s_place_of A.f_place_of A.fd_place_of
  b_place_of : Binds K A.fd_place_of ["self", "person"] []
  m_place_of : Meth K A.C_Roll "place_of" A.f_place_of
  bm_place_of : BMeth K A.C_Roll "place_of" A.f_place_of
  F_ranked : Fun K "ranked" "Roll.ranked" s_ranked A.f_ranked A.fd_ranked
  b_ranked : Binds K A.fd_ranked ["self"] []
  m_ranked : Meth K A.C_Roll "ranked" A.f_ranked
  F_turned_apart : Fun K "turned_apart" "Roll.turned_apart" s_turned_apart A.f_turned_apart A.fd_turned_apart
  b_turned_apart : Binds K A.fd_turned_apart ["self"] []
  m_turned_apart : Meth K A.C_Roll "turned_apart" A.f_turned_apart
  F_add_person : Fun K "add_person" "Roll.add_person" s_add_person A.f_add_person A.fd_add_person
  b_add_person : Binds K A.fd_add_person ["self"] []
  m_add_person : Meth K A.C_Roll "add_person" A.f_add_person
  F_open_next : Fun K "open_next" "Roll.open_next" s_open_next A.f_open_next A.fd_open_next
  b_open_next : Binds K A.fd_open_next ["self"] []
  m_open_next : Meth K A.C_Roll "open_next" A.f_open_next
  F_put_in_open : Fun K "put_in_open" "Roll.put_in_open" s_put_in_open A.f_put_in_open A.fd_put_in_open
  b_put_in_open : Binds K A.fd_put_in_open ["self", "person"] []
  m_put_in_open : Meth K A.C_Roll "put_in_open" A.f_put_in_open
  F_standing : Fun K "standing" "Roll.standing" s_standing A.f_standing A.fd_standing
  b_standing : Binds K A.fd_standing ["self"] []
  m_standing : Meth K A.C_Roll "standing" A.f_standing
  F_stand_as : Fun K "stand_as" "Roll.stand_as" s_stand_as A.f_stand_as A.fd_stand_as
  b_stand_as : Binds K A.fd_stand_as ["self", "stood"] []
  m_stand_as : Meth K A.C_Roll "stand_as" A.f_stand_as
  F_note_change : Fun K "note_change" "Roll.note_change" s_note_change A.f_note_change A.fd_note_change
  b_note_change : Binds K A.fd_note_change ["self", "stood"] []
  m_note_change : Meth K A.C_Roll "note_change" A.f_note_change
  F_take_back : Fun K "take_back" "Roll.take_back" s_take_back A.f_take_back A.fd_take_back
  b_take_back : Binds K A.fd_take_back ["self"] []
  m_take_back : Meth K A.C_Roll "take_back" A.f_take_back
  F_do_again : Fun K "do_again" "Roll.do_again" s_do_again A.f_do_again A.fd_do_again
  b_do_again : Binds K A.fd_do_again ["self"] []
  m_do_again : Meth K A.C_Roll "do_again" A.f_do_again
  F_as_a_set : Fun K "as_a_set" "as_a_set" s_as_a_set A.f_as_a_set A.fd_as_a_set
  b_as_a_set : Binds K A.fd_as_a_set ["chosen"] []
  g_as_a_set : mg "as_a_set" = some (.ref A.f_as_a_set)
  F_os_start : Fun K "os_start" "os_start" s_os_start A.f_os_start A.fd_os_start
  b_os_start : Binds K A.fd_os_start ["roll", "numbers"] []
  g_os_start : mg "os_start" = some (.ref A.f_os_start)
  F_os_pass : Fun K "os_pass" "os_pass" s_os_pass A.f_os_pass A.fd_os_pass
  b_os_pass : Binds K A.fd_os_pass ["roll", "numbers"] []
  g_os_pass : mg "os_pass" = some (.ref A.f_os_pass)
  F_os_born : Fun K "os_born" "os_born" s_os_born A.f_os_born A.fd_os_born
  b_os_born : Binds K A.fd_os_born ["roll", "numbers"] []
  g_os_born : mg "os_born" = some (.ref A.f_os_born)
  F_os_open : Fun K "os_open" "os_open" s_os_open A.f_os_open A.fd_os_open
  b_os_open : Binds K A.fd_os_open ["roll", "numbers"] []
  g_os_open : mg "os_open" = some (.ref A.f_os_open)
  F_os_shut : Fun K "os_shut" "os_shut" s_os_shut A.f_os_shut A.fd_os_shut
  b_os_shut : Binds K A.fd_os_shut ["roll", "numbers"] []
  g_os_shut : mg "os_shut" = some (.ref A.f_os_shut)
  F_os_join : Fun K "os_join" "os_join" s_os_join A.f_os_join A.fd_os_join
  b_os_join : Binds K A.fd_os_join ["roll", "numbers"] []
  g_os_join : mg "os_join" = some (.ref A.f_os_join)
  F_os_join_all : Fun K "os_join_all" "os_join_all" s_os_join_all A.f_os_join_all A.fd_os_join_all
  b_os_join_all : Binds K A.fd_os_join_all ["roll", "numbers"] []
  g_os_join_all : mg "os_join_all" = some (.ref A.f_os_join_all)
  F_os_age : Fun K "os_age" "os_age" s_os_age A.f_os_age A.fd_os_age
  b_os_age : Binds K A.fd_os_age ["roll", "numbers"] []
  g_os_age : mg "os_age" = some (.ref A.f_os_age)
  F_os_whose : Fun K "os_whose" "os_whose" s_os_whose A.f_os_whose A.fd_os_whose
  b_os_whose : Binds K A.fd_os_whose ["roll", "numbers"] []
  g_os_whose : mg "os_whose" = some (.ref A.f_os_whose)
  F_os_members : Fun K "os_members" "os_members" s_os_members A.f_os_members A.fd_os_members
  b_os_members : Binds K A.fd_os_members ["roll", "numbers"] []
  g_os_members : mg "os_members" = some (.ref A.f_os_members)
  F_os_name : Fun K "os_name" "os_name" s_os_name A.f_os_name A.fd_os_name
  b_os_name : Binds K A.fd_os_name ["roll", "numbers"] []
  g_os_name : mg "os_name" = some (.ref A.f_os_name)
  F_os_alike : Fun K "os_alike" "os_alike" s_os_alike A.f_os_alike A.fd_os_alike
  b_os_alike : Binds K A.fd_os_alike ["roll", "numbers"] []
  g_os_alike : mg "os_alike" = some (.ref A.f_os_alike)
  F_os_may : Fun K "os_may" "os_may" s_os_may A.f_os_may A.fd_os_may
  b_os_may : Binds K A.fd_os_may ["roll", "numbers"] []
  g_os_may : mg "os_may" = some (.ref A.f_os_may)
  F_os_missed : Fun K "os_missed" "os_missed" s_os_missed A.f_os_missed A.fd_os_missed
  b_os_missed : Binds K A.fd_os_missed ["roll", "numbers"] []
  g_os_missed : mg "os_missed" = some (.ref A.f_os_missed)
  F_os_senior : Fun K "os_senior" "os_senior" s_os_senior A.f_os_senior A.fd_os_senior
  b_os_senior : Binds K A.fd_os_senior ["roll", "numbers"] []
  g_os_senior : mg "os_senior" = some (.ref A.f_os_senior)
  F_os_turned : Fun K "os_turned" "os_turned" s_os_turned A.f_os_turned A.fd_os_turned
  b_os_turned : Binds K A.fd_os_turned ["roll", "numbers"] []
  g_os_turned : mg "os_turned" = some (.ref A.f_os_turned)
  F_os_rank : Fun K "os_rank" "os_rank" s_os_rank A.f_os_rank A.fd_os_rank
  b_os_rank : Binds K A.fd_os_rank ["roll", "numbers"] []
  g_os_rank : mg "os_rank" = some (.ref A.f_os_rank)
  F_os_span : Fun K "os_span" "os_span" s_os_span A.f_os_span A.fd_os_span
  b_os_span : Binds K A.fd_os_span ["roll", "numbers"] []
  g_os_span : mg "os_span" = some (.ref A.f_os_span)
  F_os_when : Fun K "os_when" "os_when" s_os_when A.f_os_when A.fd_os_when
  b_os_when : Binds K A.fd_os_when ["roll", "numbers"] []
  g_os_when : mg "os_when" = some (.ref A.f_os_when)
  F_os_back : Fun K "os_back" "os_back" s_os_back A.f_os_back A.fd_os_back
  b_os_back : Binds K A.fd_os_back ["roll", "numbers"] []
  g_os_back : mg "os_back" = some (.ref A.f_os_back)
  F_os_again : Fun K "os_again" "os_again" s_os_again A.f_os_again A.fd_os_again
  b_os_again : Binds K A.fd_os_again ["roll", "numbers"] []
  g_os_again : mg "os_again" = some (.ref A.f_os_again)
  F_os_state : Fun K "os_state" "os_state" s_os_state A.f_os_state A.fd_os_state
  b_os_state : Binds K A.fd_os_state ["roll", "numbers"] []
  g_os_state : mg "os_state" = some (.ref A.f_os_state)
  F_answer_to : Fun K "answer_to" "answer_to" s_answer_to A.f_answer_to A.fd_answer_to
  b_answer_to : Binds K A.fd_answer_to ["roll", "call", "numbers"] []
  g_answer_to : mg "answer_to" = some (.ref A.f_answer_to)
  F_answers : Fun K "answers" "answers" s_answers A.f_answers A.fd_answers
  b_answers : Binds K A.fd_answers ["calls"] []
  g_answers : mg "answers" = some (.ref A.f_answers)

/-- the fields of Roll -/
structure R_Roll where
  names : V
  youngest : V
  oldest : V
  year : V
  birth_years : V
  set_of : V
  join_years : V
  set_count : V
  one_is_open : V
  stood_ahead : V
  stood_behind : V
def rF_Roll (r : R_Roll) : List (Str × V) := [("names", r.names), ("youngest", r.youngest), ("oldest", r.oldest), ("year", r.year), ("birth_years", r.birth_years), ("set_of", r.set_of), ("join_years", r.join_years), ("set_count", r.set_count), ("one_is_open", r.one_is_open), ("stood_ahead", r.stood_ahead), ("stood_behind", r.stood_behind)]
theorem lk_names {r : R_Roll} : (rF_Roll r).lookup ("names" : Str) = some r.names := rfl
theorem pf_names {r : R_Roll} {v : V} : putF "names" v (rF_Roll r) = rF_Roll { r with names := v } := rfl
theorem lk_youngest {r : R_Roll} : (rF_Roll r).lookup ("youngest" : Str) = some r.youngest := rfl
theorem pf_youngest {r : R_Roll} {v : V} : putF "youngest" v (rF_Roll r) = rF_Roll { r with youngest := v } := rfl
theorem lk_oldest {r : R_Roll} : (rF_Roll r).lookup ("oldest" : Str) = some r.oldest := rfl
theorem pf_oldest {r : R_Roll} {v : V} : putF "oldest" v (rF_Roll r) = rF_Roll { r with oldest := v } := rfl
theorem lk_year {r : R_Roll} : (rF_Roll r).lookup ("year" : Str) = some r.year := rfl
theorem pf_year {r : R_Roll} {v : V} : putF "year" v (rF_Roll r) = rF_Roll { r with year := v } := rfl
theorem lk_birth_years {r : R_Roll} : (rF_Roll r).lookup ("birth_years" : Str) = some r.birth_years := rfl
theorem pf_birth_years {r : R_Roll} {v : V} : putF "birth_years" v (rF_Roll r) = rF_Roll { r with birth_years := v } := rfl
theorem lk_set_of {r : R_Roll} : (rF_Roll r).lookup ("set_of" : Str) = some r.set_of := rfl
theorem pf_set_of {r : R_Roll} {v : V} : putF "set_of" v (rF_Roll r) = rF_Roll { r with set_of := v } := rfl
theorem lk_join_years {r : R_Roll} : (rF_Roll r).lookup ("join_years" : Str) = some r.join_years := rfl
theorem pf_join_years {r : R_Roll} {v : V} : putF "join_years" v (rF_Roll r) = rF_Roll { r with join_years := v } := rfl
theorem lk_set_count {r : R_Roll} : (rF_Roll r).lookup ("set_count" : Str) = some r.set_count := rfl
theorem pf_set_count {r : R_Roll} {v : V} : putF "set_count" v (rF_Roll r) = rF_Roll { r with set_count := v } := rfl
theorem lk_one_is_open {r : R_Roll} : (rF_Roll r).lookup ("one_is_open" : Str) = some r.one_is_open := rfl
theorem pf_one_is_open {r : R_Roll} {v : V} : putF "one_is_open" v (rF_Roll r) = rF_Roll { r with one_is_open := v } := rfl
theorem lk_stood_ahead {r : R_Roll} : (rF_Roll r).lookup ("stood_ahead" : Str) = some r.stood_ahead := rfl
theorem pf_stood_ahead {r : R_Roll} {v : V} : putF "stood_ahead" v (rF_Roll r) = rF_Roll { r with stood_ahead := v } := rfl
theorem lk_stood_behind {r : R_Roll} : (rF_Roll r).lookup ("stood_behind" : Str) = some r.stood_behind := rfl
theorem pf_stood_behind {r : R_Roll} {v : V} : putF "stood_behind" v (rF_Roll r) = rF_Roll { r with stood_behind := v } := rfl
theorem lm_begin {r : R_Roll} : (rF_Roll r).lookup ("begin" : Str) = none := rfl
theorem lm_is_person {r : R_Roll} : (rF_Roll r).lookup ("is_person" : Str) = none := rfl
theorem lm_is_set {r : R_Roll} : (rF_Roll r).lookup ("is_set" : Str) = none := rfl
theorem lm_is_in_a_set {r : R_Roll} : (rF_Roll r).lookup ("is_in_a_set" : Str) = none := rfl
theorem lm_age_of {r : R_Roll} : (rF_Roll r).lookup ("age_of" : Str) = none := rfl
theorem lm_age_at_joining {r : R_Roll} : (rF_Roll r).lookup ("age_at_joining" : Str) = none := rfl
theorem lm_is_of_age {r : R_Roll} : (rF_Roll r).lookup ("is_of_age" : Str) = none := rfl
theorem lm_may_join {r : R_Roll} : (rF_Roll r).lookup ("may_join" : Str) = none := rfl
theorem lm_has_missed {r : R_Roll} : (rF_Roll r).lookup ("has_missed" : Str) = none := rfl
theorem lm_name_of {r : R_Roll} : (rF_Roll r).lookup ("name_of" : Str) = none := rfl
theorem lm_last_set {r : R_Roll} : (rF_Roll r).lookup ("last_set" : Str) = none := rfl
theorem lm_people {r : R_Roll} : (rF_Roll r).lookup ("people" : Str) = none := rfl
theorem lm_who_may_join {r : R_Roll} : (rF_Roll r).lookup ("who_may_join" : Str) = none := rfl
theorem lm_who_has_missed {r : R_Roll} : (rF_Roll r).lookup ("who_has_missed" : Str) = none := rfl
theorem lm_are_in {r : R_Roll} : (rF_Roll r).lookup ("are_in" : Str) = none := rfl
theorem lm_birth_years_in {r : R_Roll} : (rF_Roll r).lookup ("birth_years_in" : Str) = none := rfl
theorem lm_have_the_name_of {r : R_Roll} : (rF_Roll r).lookup ("have_the_name_of" : Str) = none := rfl
theorem lm_is_senior {r : R_Roll} : (rF_Roll r).lookup ("is_senior" : Str) = none := rfl
theorem lm_place_of {r : R_Roll} : (rF_Roll r).lookup ("place_of" : Str) = none := rfl
theorem lm_ranked {r : R_Roll} : (rF_Roll r).lookup ("ranked" : Str) = none := rfl
theorem lm_turned_apart {r : R_Roll} : (rF_Roll r).lookup ("turned_apart" : Str) = none := rfl
theorem lm_add_person {r : R_Roll} : (rF_Roll r).lookup ("add_person" : Str) = none := rfl
theorem lm_open_next {r : R_Roll} : (rF_Roll r).lookup ("open_next" : Str) = none := rfl
theorem lm_put_in_open {r : R_Roll} : (rF_Roll r).lookup ("put_in_open" : Str) = none := rfl
theorem lm_standing {r : R_Roll} : (rF_Roll r).lookup ("standing" : Str) = none := rfl
theorem lm_stand_as {r : R_Roll} : (rF_Roll r).lookup ("stand_as" : Str) = none := rfl
theorem lm_note_change {r : R_Roll} : (rF_Roll r).lookup ("note_change" : Str) = none := rfl
theorem lm_take_back {r : R_Roll} : (rF_Roll r).lookup ("take_back" : Str) = none := rfl
theorem lm_do_again {r : R_Roll} : (rF_Roll r).lookup ("do_again" : Str) = none := rfl
theorem pf0_Roll {v0 v1 v2 v3 v4 v5 v6 v7 v8 v9 v10 : V} : putF "stood_behind" v10 (putF "stood_ahead" v9 (putF "one_is_open" v8 (putF "set_count" v7 (putF "join_years" v6 (putF "set_of" v5 (putF "birth_years" v4 (putF "year" v3 (putF "oldest" v2 (putF "youngest" v1 (putF "names" v0 ([]))))))))))) = rF_Roll ⟨v0, v1, v2, v3, v4, v5, v6, v7, v8, v9, v10⟩ := rfl
/-! Roll.__init__: level 2 -/
theorem sc_Roll_init : FnScope ["self"] ["self"] (defScope s_Roll_init) := ⟨rfl, rfl, rfl, by decide +kernel, rfl, by decide +kernel, by decide +kernel⟩
def t_Roll_init (K : PySem.W.Frag) (A : Adr) (sp_begin : Sp) : TS :=
  (tDrop (tMeth A.C_Roll "begin" sp_begin [] E0 (tVar 0) (tCons (tC (.int 1)) (tCons (tC (.int 0)) (tCons (tC (.int 0)) tNil)))))
theorem ok_Roll_init {P : Program} {w : World} {K : PySem.W.Frag} {mg : Str → Option Value} {base : Heap} {A : Adr} {sp sp_begin : Sp} (T : Txt K mg A) (G_begin : FnOk P w K mg base CX0 1 A.f_begin A.fd_begin ["self", "names", "youngest", "oldest"] sp_begin)
    (len : ∀ vs H Q E, sp vs H Q E → vs.length = 1) (pure : ∀ vs H Q E, sp vs H Q E → t_Roll_init K A sp_begin { nx := fun _ H' => Q .non H', rt := Q } (start ["self"] vs) H) :
    FnOk P w K mg base CX0 2 A.f_Roll_init A.fd_Roll_init ["self"] sp :=
  T.F_Roll_init.ok sc_Roll_init len fun cdv Ar outer s H vs Q E hr h => ⟨t_Roll_init K A sp_begin, by
    exact (pss_one (ps_expr (pe_meth (pv 0) T.cl_Roll T.m_begin G_begin hr T.b_begin .nil pass0 (pa_cons pe_int (pa_cons pe_int (pa_cons pe_int pa_nil)))))), pure vs H Q E h⟩

/-! Roll.begin: level 1 -/
theorem sc_begin : FnScope ["self", "names", "youngest", "oldest"] ["self", "names", "youngest", "oldest"] (defScope s_begin) := ⟨rfl, rfl, rfl, by decide +kernel, rfl, by decide +kernel, by decide +kernel⟩
def t_begin (K : PySem.W.Frag) (A : Adr) : TS :=
  (tSeq (sFld K (tVar 0) (tVar 1) "names")
    (tSeq (sFld K (tVar 0) (tVar 2) "youngest")
    (tSeq (sFld K (tVar 0) (tVar 3) "oldest")
    (tSeq (sFld K (tVar 0) (tC (.int 0)) "year")
    (tSeq (sFld K (tVar 0) (tLst tNil) "birth_years")
    (tSeq (sFld K (tVar 0) (tLst tNil) "set_of")
    (tSeq (sFld K (tVar 0) tDNewK "join_years")
    (tSeq (sFld K (tVar 0) (tC (.int 0)) "set_count")
    (tSeq (sFld K (tVar 0) (tC (.bl false)) "one_is_open")
    (tSeq (sFld K (tVar 0) (tLst tNil) "stood_ahead")
    (sFld K (tVar 0) (tLst tNil) "stood_behind")))))))))))
theorem ok_begin {P : Program} {w : World} {K : PySem.W.Frag} {mg : Str → Option Value} {base : Heap} {A : Adr} {sp : Sp} (T : Txt K mg A)
    (len : ∀ vs H Q E, sp vs H Q E → vs.length = 4) (pure : ∀ vs H Q E, sp vs H Q E → t_begin K A { nx := fun _ H' => Q .non H', rt := Q } (start ["self", "names", "youngest", "oldest"] vs) H) :
    FnOk P w K mg base CX0 1 A.f_begin A.fd_begin ["self", "names", "youngest", "oldest"] sp :=
  T.F_begin.ok sc_begin len fun cdv Ar outer s H vs Q E hr h => ⟨t_begin K A, by
    exact (pss_cons (ps_fld (pv 0) (pv 1) rfl)
    (pss_cons (ps_fld (pv 0) (pv 2) rfl)
    (pss_cons (ps_fld (pv 0) (pv 3) rfl)
    (pss_cons (ps_fld (pv 0) pe_int rfl)
    (pss_cons (ps_fld (pv 0) (pe_lst pa_nil) rfl)
    (pss_cons (ps_fld (pv 0) (pe_lst pa_nil) rfl)
    (pss_cons (ps_fld (pv 0) pe_dnewK rfl)
    (pss_cons (ps_fld (pv 0) pe_int rfl)
    (pss_cons (ps_fld (pv 0) pe_bl rfl)
    (pss_cons (ps_fld (pv 0) (pe_lst pa_nil) rfl)
    (pss_one (ps_fld (pv 0) (pe_lst pa_nil) rfl)))))))))))), pure vs H Q E h⟩

/-! Roll.is_person: level 1 -/
theorem sc_is_person : FnScope ["self", "person"] ["self", "person"] (defScope s_is_person) := ⟨rfl, rfl, rfl, by decide +kernel, rfl, by decide +kernel, by decide +kernel⟩
def t_is_person (K : PySem.W.Frag) (A : Adr) : TS :=
  (tRet (tOp rLess (tVar 1) (tCB (Evl.rLenS K) (tCons (tFld K (tVar 0) "birth_years") tNil))))
theorem ok_is_person {P : Program} {w : World} {K : PySem.W.Frag} {mg : Str → Option Value} {base : Heap} {A : Adr} {sp : Sp} (T : Txt K mg A)
    (len : ∀ vs H Q E, sp vs H Q E → vs.length = 2) (pure : ∀ vs H Q E, sp vs H Q E → t_is_person K A { nx := fun _ H' => Q .non H', rt := Q } (start ["self", "person"] vs) H) :
    FnOk P w K mg base CX0 1 A.f_is_person A.fd_is_person ["self", "person"] sp :=
  T.F_is_person.ok sc_is_person len fun cdv Ar outer s H vs Q E hr h => ⟨t_is_person K A, by
    exact (pss_one (ps_ret (pe_cmpR op_lt (pv 1) (pe_callB call_len_seq rfl T.n_len PySem.boot_len (pa_cons (pe_fld (pv 0) rfl) pa_nil)) (nomark _)))), pure vs H Q E h⟩

/-! Roll.is_set: level 1 -/
theorem sc_is_set : FnScope ["self", "number"] ["self", "number"] (defScope s_is_set) := ⟨rfl, rfl, rfl, by decide +kernel, rfl, by decide +kernel, by decide +kernel⟩
def t_is_set (K : PySem.W.Frag) (A : Adr) : TS :=
  (tRet (tOp rLess (tVar 1) (tFld K (tVar 0) "set_count")))
theorem ok_is_set {P : Program} {w : World} {K : PySem.W.Frag} {mg : Str → Option Value} {base : Heap} {A : Adr} {sp : Sp} (T : Txt K mg A)
    (len : ∀ vs H Q E, sp vs H Q E → vs.length = 2) (pure : ∀ vs H Q E, sp vs H Q E → t_is_set K A { nx := fun _ H' => Q .non H', rt := Q } (start ["self", "number"] vs) H) :
    FnOk P w K mg base CX0 1 A.f_is_set A.fd_is_set ["self", "number"] sp :=
  T.F_is_set.ok sc_is_set len fun cdv Ar outer s H vs Q E hr h => ⟨t_is_set K A, by
    exact (pss_one (ps_ret (pe_cmpR op_lt (pv 1) (pe_fld (pv 0) rfl) (nomark _)))), pure vs H Q E h⟩

/-! Roll.is_in_a_set: level 1 -/
theorem sc_is_in_a_set : FnScope ["self", "person"] ["self", "person"] (defScope s_is_in_a_set) := ⟨rfl, rfl, rfl, by decide +kernel, rfl, by decide +kernel, by decide +kernel⟩
def t_is_in_a_set (K : PySem.W.Frag) (A : Adr) : TS :=
  (tRet (tOp rNe (tOp (rIxL K) (tFld K (tVar 0) "set_of") (tVar 1)) (tC (.int (-1)))))
theorem ok_is_in_a_set {P : Program} {w : World} {K : PySem.W.Frag} {mg : Str → Option Value} {base : Heap} {A : Adr} {sp : Sp} (T : Txt K mg A)
    (len : ∀ vs H Q E, sp vs H Q E → vs.length = 2) (pure : ∀ vs H Q E, sp vs H Q E → t_is_in_a_set K A { nx := fun _ H' => Q .non H', rt := Q } (start ["self", "person"] vs) H) :
    FnOk P w K mg base CX0 1 A.f_is_in_a_set A.fd_is_in_a_set ["self", "person"] sp :=
  T.F_is_in_a_set.ok sc_is_in_a_set len fun cdv Ar outer s H vs Q E hr h => ⟨t_is_in_a_set K A, by
    exact (pss_one (ps_ret (pe_cmpR op_ne (pe_ix ix_list (pe_fld (pv 0) rfl) (pv 1) (fun _ _ => rfl)) (pe_glob rfl T.g_NO_SET ⟨_, rfl⟩) (nomark _)))), pure vs H Q E h⟩

/-! Roll.age_of: level 1 -/
theorem sc_age_of : FnScope ["self", "person"] ["self", "person"] (defScope s_age_of) := ⟨rfl, rfl, rfl, by decide +kernel, rfl, by decide +kernel, by decide +kernel⟩
def t_age_of (K : PySem.W.Frag) (A : Adr) : TS :=
  (tRet (tOp rMinus (tFld K (tVar 0) "year") (tOp (rIxL K) (tFld K (tVar 0) "birth_years") (tVar 1))))
theorem ok_age_of {P : Program} {w : World} {K : PySem.W.Frag} {mg : Str → Option Value} {base : Heap} {A : Adr} {sp : Sp} (T : Txt K mg A)
    (len : ∀ vs H Q E, sp vs H Q E → vs.length = 2) (pure : ∀ vs H Q E, sp vs H Q E → t_age_of K A { nx := fun _ H' => Q .non H', rt := Q } (start ["self", "person"] vs) H) :
    FnOk P w K mg base CX0 1 A.f_age_of A.fd_age_of ["self", "person"] sp :=
  T.F_age_of.ok sc_age_of len fun cdv Ar outer s H vs Q E hr h => ⟨t_age_of K A, by
    exact (pss_one (ps_ret (pe_op op_sub (pe_fld (pv 0) rfl) (pe_ix ix_list (pe_fld (pv 0) rfl) (pv 1) (fun _ _ => rfl))))), pure vs H Q E h⟩

/-! Roll.age_at_joining: level 1 -/
theorem sc_age_at_joining : FnScope ["self", "person"] ["self", "person"] (defScope s_age_at_joining) := ⟨rfl, rfl, rfl, by decide +kernel, rfl, by decide +kernel, by decide +kernel⟩
def t_age_at_joining (K : PySem.W.Frag) (A : Adr) : TS :=
  (tRet (tOp rMinus (tDGet (tFld K (tVar 0) "join_years") (tVar 1)) (tOp (rIxL K) (tFld K (tVar 0) "birth_years") (tVar 1))))
theorem ok_age_at_joining {P : Program} {w : World} {K : PySem.W.Frag} {mg : Str → Option Value} {base : Heap} {A : Adr} {sp : Sp} (T : Txt K mg A)
    (len : ∀ vs H Q E, sp vs H Q E → vs.length = 2) (pure : ∀ vs H Q E, sp vs H Q E → t_age_at_joining K A { nx := fun _ H' => Q .non H', rt := Q } (start ["self", "person"] vs) H) :
    FnOk P w K mg base CX0 1 A.f_age_at_joining A.fd_age_at_joining ["self", "person"] sp :=
  T.F_age_at_joining.ok sc_age_at_joining len fun cdv Ar outer s H vs Q E hr h => ⟨t_age_at_joining K A, by
    exact (pss_one (ps_ret (pe_op op_sub (pe_dget (hu1 hr) (pe_fld (pv 0) rfl) (pv 1) (fun _ _ => rfl)) (pe_ix ix_list (pe_fld (pv 0) rfl) (pv 1) (fun _ _ => rfl))))), pure vs H Q E h⟩

/-! Roll.is_of_age: level 2 -/
theorem sc_is_of_age : FnScope ["self", "person"] ["self", "person"] (defScope s_is_of_age) := ⟨rfl, rfl, rfl, by decide +kernel, rfl, by decide +kernel, by decide +kernel⟩
def t_is_of_age (K : PySem.W.Frag) (A : Adr) (sp_age_of : Sp) : TS :=
  (tRet (tChain rLeq rLeq (tFld K (tVar 0) "youngest") (tMeth A.C_Roll "age_of" sp_age_of [] E0 (tVar 0) (tCons (tVar 1) tNil)) (tFld K (tVar 0) "oldest")))
theorem ok_is_of_age {P : Program} {w : World} {K : PySem.W.Frag} {mg : Str → Option Value} {base : Heap} {A : Adr} {sp sp_age_of : Sp} (T : Txt K mg A) (G_age_of : FnOk P w K mg base CX0 1 A.f_age_of A.fd_age_of ["self", "person"] sp_age_of)
    (len : ∀ vs H Q E, sp vs H Q E → vs.length = 2) (pure : ∀ vs H Q E, sp vs H Q E → t_is_of_age K A sp_age_of { nx := fun _ H' => Q .non H', rt := Q } (start ["self", "person"] vs) H) :
    FnOk P w K mg base CX0 2 A.f_is_of_age A.fd_is_of_age ["self", "person"] sp :=
  T.F_is_of_age.ok sc_is_of_age len fun cdv Ar outer s H vs Q E hr h => ⟨t_is_of_age K A sp_age_of, by
    exact (pss_one (ps_ret (pe_chain op_le op_le (pe_fld (pv 0) rfl) (pe_meth (pv 0) T.cl_Roll T.m_age_of G_age_of hr T.b_age_of .nil pass0 (pa_cons (pv 1) pa_nil)) (pe_fld (pv 0) rfl)))), pure vs H Q E h⟩

/-! Roll.may_join: level 3 -/
theorem sc_may_join : FnScope ["self", "person"] ["self", "person"] (defScope s_may_join) := ⟨rfl, rfl, rfl, by decide +kernel, rfl, by decide +kernel, by decide +kernel⟩
def t_may_join (K : PySem.W.Frag) (A : Adr) (sp_is_of_age sp_is_in_a_set : Sp) : TS :=
  (tRet (tAndV (tNotV (tMeth A.C_Roll "is_in_a_set" sp_is_in_a_set [] E0 (tVar 0) (tCons (tVar 1) tNil))) (tMeth A.C_Roll "is_of_age" sp_is_of_age [] E0 (tVar 0) (tCons (tVar 1) tNil))))
theorem ok_may_join {P : Program} {w : World} {K : PySem.W.Frag} {mg : Str → Option Value} {base : Heap} {A : Adr} {sp sp_is_of_age sp_is_in_a_set : Sp} (T : Txt K mg A) (G_is_of_age : FnOk P w K mg base CX0 2 A.f_is_of_age A.fd_is_of_age ["self", "person"] sp_is_of_age) (G_is_in_a_set : FnOk P w K mg base CX0 1 A.f_is_in_a_set A.fd_is_in_a_set ["self", "person"] sp_is_in_a_set)
    (len : ∀ vs H Q E, sp vs H Q E → vs.length = 2) (pure : ∀ vs H Q E, sp vs H Q E → t_may_join K A sp_is_of_age sp_is_in_a_set { nx := fun _ H' => Q .non H', rt := Q } (start ["self", "person"] vs) H) :
    FnOk P w K mg base CX0 3 A.f_may_join A.fd_may_join ["self", "person"] sp :=
  T.F_may_join.ok sc_may_join len fun cdv Ar outer s H vs Q E hr h => ⟨t_may_join K A sp_is_of_age sp_is_in_a_set, by
    exact (pss_one (ps_ret (pe_and (pe_not (pe_meth (pv 0) T.cl_Roll T.m_is_in_a_set G_is_in_a_set (hr.mono (by decide)) T.b_is_in_a_set .nil pass0 (pa_cons (pv 1) pa_nil))) (pe_one (pe_meth (pv 0) T.cl_Roll T.m_is_of_age G_is_of_age hr T.b_is_of_age .nil pass0 (pa_cons (pv 1) pa_nil)))))), pure vs H Q E h⟩

/-! Roll.has_missed: level 2 -/
theorem sc_has_missed : FnScope ["self", "person"] ["self", "person"] (defScope s_has_missed) := ⟨rfl, rfl, rfl, by decide +kernel, rfl, by decide +kernel, by decide +kernel⟩
def t_has_missed (K : PySem.W.Frag) (A : Adr) (sp_age_of sp_is_in_a_set : Sp) : TS :=
  (tRet (tAndV (tNotV (tMeth A.C_Roll "is_in_a_set" sp_is_in_a_set [] E0 (tVar 0) (tCons (tVar 1) tNil))) (tOp rGt (tMeth A.C_Roll "age_of" sp_age_of [] E0 (tVar 0) (tCons (tVar 1) tNil)) (tFld K (tVar 0) "oldest"))))
theorem ok_has_missed {P : Program} {w : World} {K : PySem.W.Frag} {mg : Str → Option Value} {base : Heap} {A : Adr} {sp sp_age_of sp_is_in_a_set : Sp} (T : Txt K mg A) (G_age_of : FnOk P w K mg base CX0 1 A.f_age_of A.fd_age_of ["self", "person"] sp_age_of) (G_is_in_a_set : FnOk P w K mg base CX0 1 A.f_is_in_a_set A.fd_is_in_a_set ["self", "person"] sp_is_in_a_set)
    (len : ∀ vs H Q E, sp vs H Q E → vs.length = 2) (pure : ∀ vs H Q E, sp vs H Q E → t_has_missed K A sp_age_of sp_is_in_a_set { nx := fun _ H' => Q .non H', rt := Q } (start ["self", "person"] vs) H) :
    FnOk P w K mg base CX0 2 A.f_has_missed A.fd_has_missed ["self", "person"] sp :=
  T.F_has_missed.ok sc_has_missed len fun cdv Ar outer s H vs Q E hr h => ⟨t_has_missed K A sp_age_of sp_is_in_a_set, by
    exact (pss_one (ps_ret (pe_and (pe_not (pe_meth (pv 0) T.cl_Roll T.m_is_in_a_set G_is_in_a_set hr T.b_is_in_a_set .nil pass0 (pa_cons (pv 1) pa_nil))) (pe_one (pe_cmpR op_gt (pe_meth (pv 0) T.cl_Roll T.m_age_of G_age_of hr T.b_age_of .nil pass0 (pa_cons (pv 1) pa_nil)) (pe_fld (pv 0) rfl) (nomark _)))))), pure vs H Q E h⟩

/-! Roll.name_of: level 1 -/
theorem sc_name_of : FnScope ["self", "number"] ["self", "number"] (defScope s_name_of) := ⟨rfl, rfl, rfl, by decide +kernel, rfl, by decide +kernel, by decide +kernel⟩
def t_name_of (K : PySem.W.Frag) (A : Adr) : TS :=
  (tRet (tOp rRest (tVar 1) (tFld K (tVar 0) "names")))
theorem ok_name_of {P : Program} {w : World} {K : PySem.W.Frag} {mg : Str → Option Value} {base : Heap} {A : Adr} {sp : Sp} (T : Txt K mg A)
    (len : ∀ vs H Q E, sp vs H Q E → vs.length = 2) (pure : ∀ vs H Q E, sp vs H Q E → t_name_of K A { nx := fun _ H' => Q .non H', rt := Q } (start ["self", "number"] vs) H) :
    FnOk P w K mg base CX0 1 A.f_name_of A.fd_name_of ["self", "number"] sp :=
  T.F_name_of.ok sc_name_of len fun cdv Ar outer s H vs Q E hr h => ⟨t_name_of K A, by
    exact (pss_one (ps_ret (pe_op op_modN (pv 1) (pe_fld (pv 0) rfl)))), pure vs H Q E h⟩

/-! Roll.last_set: level 1 -/
theorem sc_last_set : FnScope ["self"] ["self"] (defScope s_last_set) := ⟨rfl, rfl, rfl, by decide +kernel, rfl, by decide +kernel, by decide +kernel⟩
def t_last_set (K : PySem.W.Frag) (A : Adr) : TS :=
  (tRet (tOp rMinus (tFld K (tVar 0) "set_count") (tC (.int 1))))
theorem ok_last_set {P : Program} {w : World} {K : PySem.W.Frag} {mg : Str → Option Value} {base : Heap} {A : Adr} {sp : Sp} (T : Txt K mg A)
    (len : ∀ vs H Q E, sp vs H Q E → vs.length = 1) (pure : ∀ vs H Q E, sp vs H Q E → t_last_set K A { nx := fun _ H' => Q .non H', rt := Q } (start ["self"] vs) H) :
    FnOk P w K mg base CX0 1 A.f_last_set A.fd_last_set ["self"] sp :=
  T.F_last_set.ok sc_last_set len fun cdv Ar outer s H vs Q E hr h => ⟨t_last_set K A, by
    exact (pss_one (ps_ret (pe_op op_sub (pe_fld (pv 0) rfl) pe_int))), pure vs H Q E h⟩

/-! Roll.people: level 1 -/
theorem sc_people : FnScope ["self"] ["self"] (defScope s_people) := ⟨rfl, rfl, rfl, by decide +kernel, rfl, by decide +kernel, by decide +kernel⟩
def t_people (K : PySem.W.Frag) (A : Adr) : TS :=
  (tRet (tLstRg (tRg1 (tCB (Evl.rLenS K) (tCons (tFld K (tVar 0) "birth_years") tNil)))))
theorem ok_people {P : Program} {w : World} {K : PySem.W.Frag} {mg : Str → Option Value} {base : Heap} {A : Adr} {sp : Sp} (T : Txt K mg A)
    (len : ∀ vs H Q E, sp vs H Q E → vs.length = 1) (pure : ∀ vs H Q E, sp vs H Q E → t_people K A { nx := fun _ H' => Q .non H', rt := Q } (start ["self"] vs) H) :
    FnOk P w K mg base CX0 1 A.f_people A.fd_people ["self"] sp :=
  T.F_people.ok sc_people len fun cdv Ar outer s H vs Q E hr h => ⟨t_people K A, by
    exact (pss_one (ps_ret (pe_listRg rfl rfl T.n_list (prg_1 rfl T.n_range (pe_callB call_len_seq rfl T.n_len PySem.boot_len (pa_cons (pe_fld (pv 0) rfl) pa_nil)))))), pure vs H Q E h⟩

/-! Roll.who_may_join: level 4 -/
theorem sc_who_may_join : FnScope ["self", "person"] ["self"] (defScope s_who_may_join) := ⟨rfl, rfl, rfl, by decide +kernel, rfl, by decide +kernel, by decide +kernel⟩
def t_who_may_join (K : PySem.W.Frag) (A : Adr) (sp_may_join sp_people : Sp) : TS :=
  (tRet (tLc (iList K (tMeth A.C_Roll "people" sp_people [] E0 (tVar 0) tNil)) (gName 1) tYes (tMeth A.C_Roll "may_join" sp_may_join [] E0 (tVar 0) (tCons (tVar 1) tNil)) [1]))
theorem ok_who_may_join {P : Program} {w : World} {K : PySem.W.Frag} {mg : Str → Option Value} {base : Heap} {A : Adr} {sp sp_may_join sp_people : Sp} (T : Txt K mg A) (G_may_join : FnOk P w K mg base CX0 3 A.f_may_join A.fd_may_join ["self", "person"] sp_may_join) (G_people : FnOk P w K mg base CX0 1 A.f_people A.fd_people ["self"] sp_people)
    (len : ∀ vs H Q E, sp vs H Q E → vs.length = 1) (pure : ∀ vs H Q E, sp vs H Q E → t_who_may_join K A sp_may_join sp_people { nx := fun _ H' => Q .non H', rt := Q } (start ["self", "person"] vs) H) :
    FnOk P w K mg base CX0 4 A.f_who_may_join A.fd_who_may_join ["self"] sp :=
  T.F_who_may_join.ok sc_who_may_join len fun cdv Ar outer s H vs Q E hr h => ⟨t_who_may_join K A sp_may_join sp_people, by
    exact (pss_one (ps_ret (pe_lc (own := [("person", 1)]) (g := (gName 1)) (tt := tYes) rfl sc_who_may_join.nd (pi_list (pe_meth0 (pv 0) T.cl_Roll T.m_people G_people (hr.mono (by decide)) T.b_people .nil pass0)) (blkOk_by (N := ["self", "person"]) (sc := defScope s_who_may_join) (by decide +kernel)) (fun _ _ _ _ _ => (pg_name (i := 1) sc_who_may_join.nd rfl (Or.inl rfl))) (fun _ _ _ _ _ => pts_nil) (fun _ _ _ _ _ => (pe_meth (pv 0) T.cl_Roll T.m_may_join G_may_join hr T.b_may_join .nil pass0 (pa_cons (pv 1) pa_nil)))))), pure vs H Q E h⟩

/-! Roll.who_has_missed: level 3 -/
theorem sc_who_has_missed : FnScope ["self", "person"] ["self"] (defScope s_who_has_missed) := ⟨rfl, rfl, rfl, by decide +kernel, rfl, by decide +kernel, by decide +kernel⟩
def t_who_has_missed (K : PySem.W.Frag) (A : Adr) (sp_has_missed sp_people : Sp) : TS :=
  (tRet (tLc (iList K (tMeth A.C_Roll "people" sp_people [] E0 (tVar 0) tNil)) (gName 1) tYes (tMeth A.C_Roll "has_missed" sp_has_missed [] E0 (tVar 0) (tCons (tVar 1) tNil)) [1]))
theorem ok_who_has_missed {P : Program} {w : World} {K : PySem.W.Frag} {mg : Str → Option Value} {base : Heap} {A : Adr} {sp sp_has_missed sp_people : Sp} (T : Txt K mg A) (G_has_missed : FnOk P w K mg base CX0 2 A.f_has_missed A.fd_has_missed ["self", "person"] sp_has_missed) (G_people : FnOk P w K mg base CX0 1 A.f_people A.fd_people ["self"] sp_people)
    (len : ∀ vs H Q E, sp vs H Q E → vs.length = 1) (pure : ∀ vs H Q E, sp vs H Q E → t_who_has_missed K A sp_has_missed sp_people { nx := fun _ H' => Q .non H', rt := Q } (start ["self", "person"] vs) H) :
    FnOk P w K mg base CX0 3 A.f_who_has_missed A.fd_who_has_missed ["self"] sp :=
  T.F_who_has_missed.ok sc_who_has_missed len fun cdv Ar outer s H vs Q E hr h => ⟨t_who_has_missed K A sp_has_missed sp_people, by
    exact (pss_one (ps_ret (pe_lc (own := [("person", 1)]) (g := (gName 1)) (tt := tYes) rfl sc_who_has_missed.nd (pi_list (pe_meth0 (pv 0) T.cl_Roll T.m_people G_people (hr.mono (by decide)) T.b_people .nil pass0)) (blkOk_by (N := ["self", "person"]) (sc := defScope s_who_has_missed) (by decide +kernel)) (fun _ _ _ _ _ => (pg_name (i := 1) sc_who_has_missed.nd rfl (Or.inl rfl))) (fun _ _ _ _ _ => pts_nil) (fun _ _ _ _ _ => (pe_meth (pv 0) T.cl_Roll T.m_has_missed G_has_missed hr T.b_has_missed .nil pass0 (pa_cons (pv 1) pa_nil)))))), pure vs H Q E h⟩

/-! Roll.are_in: level 1 -/
theorem sc_are_in : FnScope ["self", "number", "joined"] ["self", "number"] (defScope s_are_in) := ⟨rfl, rfl, rfl, by decide +kernel, rfl, by decide +kernel, by decide +kernel⟩
def t_are_in (K : PySem.W.Frag) (A : Adr) : TS :=
  (tRet (tLc (iList K (tFld K (tVar 0) "set_of")) (gName 2) tYes (tOp rEq (tVar 2) (tVar 1)) [2]))
theorem ok_are_in {P : Program} {w : World} {K : PySem.W.Frag} {mg : Str → Option Value} {base : Heap} {A : Adr} {sp : Sp} (T : Txt K mg A)
    (len : ∀ vs H Q E, sp vs H Q E → vs.length = 2) (pure : ∀ vs H Q E, sp vs H Q E → t_are_in K A { nx := fun _ H' => Q .non H', rt := Q } (start ["self", "number", "joined"] vs) H) :
    FnOk P w K mg base CX0 1 A.f_are_in A.fd_are_in ["self", "number"] sp :=
  T.F_are_in.ok sc_are_in len fun cdv Ar outer s H vs Q E hr h => ⟨t_are_in K A, by
    exact (pss_one (ps_ret (pe_lc (own := [("joined", 2)]) (g := (gName 2)) (tt := tYes) rfl sc_are_in.nd (pi_list (pe_fld (pv 0) rfl)) (blkOk_by (N := ["self", "number", "joined"]) (sc := defScope s_are_in) (by decide +kernel)) (fun _ _ _ _ _ => (pg_name (i := 2) sc_are_in.nd rfl (Or.inl rfl))) (fun _ _ _ _ _ => pts_nil) (fun _ _ _ _ _ => (pe_cmpR op_eq (pv 2) (pv 1) (nomark _)))))), pure vs H Q E h⟩

/-! Roll.birth_years_in: level 2 -/
theorem sc_birth_years_in : FnScope ["self", "number", "person"] ["self", "number"] (defScope s_birth_years_in) := ⟨rfl, rfl, rfl, by decide +kernel, rfl, by decide +kernel, by decide +kernel⟩
def t_birth_years_in (K : PySem.W.Frag) (A : Adr) (sp_people : Sp) : TS :=
  (tRet (tLc (iList K (tMeth A.C_Roll "people" sp_people [] E0 (tVar 0) tNil)) (gName 2) ((tTest (tOp rEq (tOp (rIxL K) (tFld K (tVar 0) "set_of") (tVar 2)) (tVar 1)))) (tOp (rIxL K) (tFld K (tVar 0) "birth_years") (tVar 2)) [2]))
theorem ok_birth_years_in {P : Program} {w : World} {K : PySem.W.Frag} {mg : Str → Option Value} {base : Heap} {A : Adr} {sp sp_people : Sp} (T : Txt K mg A) (G_people : FnOk P w K mg base CX0 1 A.f_people A.fd_people ["self"] sp_people)
    (len : ∀ vs H Q E, sp vs H Q E → vs.length = 2) (pure : ∀ vs H Q E, sp vs H Q E → t_birth_years_in K A sp_people { nx := fun _ H' => Q .non H', rt := Q } (start ["self", "number", "person"] vs) H) :
    FnOk P w K mg base CX0 2 A.f_birth_years_in A.fd_birth_years_in ["self", "number"] sp :=
  T.F_birth_years_in.ok sc_birth_years_in len fun cdv Ar outer s H vs Q E hr h => ⟨t_birth_years_in K A sp_people, by
    exact (pss_one (ps_ret (pe_lc (own := [("person", 2)]) (g := (gName 2)) (tt := (tTest (tOp rEq (tOp (rIxL K) (tFld K (tVar 0) "set_of") (tVar 2)) (tVar 1)))) rfl sc_birth_years_in.nd (pi_list (pe_meth0 (pv 0) T.cl_Roll T.m_people G_people hr T.b_people .nil pass0)) (blkOk_by (N := ["self", "number", "person"]) (sc := defScope s_birth_years_in) (by decide +kernel)) (fun _ _ _ _ _ => (pg_name (i := 2) sc_birth_years_in.nd rfl (Or.inl rfl))) (fun _ _ _ _ _ => pts_one (pt_cmpR op_eq (pe_ix ix_list (pe_fld (pv 0) rfl) (pv 2) (fun _ _ => rfl)) (pv 1) (nomark _))) (fun _ _ _ _ _ => (pe_ix ix_list (pe_fld (pv 0) rfl) (pv 2) (fun _ _ => rfl)))))), pure vs H Q E h⟩

/-! Roll.have_the_name_of: level 2 -/
theorem sc_have_the_name_of : FnScope ["self", "number", "other"] ["self", "number"] (defScope s_have_the_name_of) := ⟨rfl, rfl, rfl, by decide +kernel, rfl, by decide +kernel, by decide +kernel⟩
def t_have_the_name_of (K : PySem.W.Frag) (A : Adr) (sp_name_of : Sp) : TS :=
  (tRet (tLc (iRng1 (tCons (tFld K (tVar 0) "set_count") tNil)) (gName 2) tYes (tOp rEq (tMeth A.C_Roll "name_of" sp_name_of [] E0 (tVar 0) (tCons (tVar 2) tNil)) (tMeth A.C_Roll "name_of" sp_name_of [] E0 (tVar 0) (tCons (tVar 1) tNil))) [2]))
theorem ok_have_the_name_of {P : Program} {w : World} {K : PySem.W.Frag} {mg : Str → Option Value} {base : Heap} {A : Adr} {sp sp_name_of : Sp} (T : Txt K mg A) (G_name_of : FnOk P w K mg base CX0 1 A.f_name_of A.fd_name_of ["self", "number"] sp_name_of)
    (len : ∀ vs H Q E, sp vs H Q E → vs.length = 2) (pure : ∀ vs H Q E, sp vs H Q E → t_have_the_name_of K A sp_name_of { nx := fun _ H' => Q .non H', rt := Q } (start ["self", "number", "other"] vs) H) :
    FnOk P w K mg base CX0 2 A.f_have_the_name_of A.fd_have_the_name_of ["self", "number"] sp :=
  T.F_have_the_name_of.ok sc_have_the_name_of len fun cdv Ar outer s H vs Q E hr h => ⟨t_have_the_name_of K A sp_name_of, by
    exact (pss_one (ps_ret (pe_lc (own := [("other", 2)]) (g := (gName 2)) (tt := tYes) rfl sc_have_the_name_of.nd (pi_range1 rfl T.n_range (pa_cons (pe_fld (pv 0) rfl) pa_nil)) (blkOk_by (N := ["self", "number", "other"]) (sc := defScope s_have_the_name_of) (by decide +kernel)) (fun _ _ _ _ _ => (pg_name (i := 2) sc_have_the_name_of.nd rfl (Or.inl rfl))) (fun _ _ _ _ _ => pts_nil) (fun _ _ _ _ _ => (pe_cmpR op_eq (pe_meth (pv 0) T.cl_Roll T.m_name_of G_name_of hr T.b_name_of .nil pass0 (pa_cons (pv 2) pa_nil)) (pe_meth (pv 0) T.cl_Roll T.m_name_of G_name_of hr T.b_name_of .nil pass0 (pa_cons (pv 1) pa_nil)) (nomark _)))))), pure vs H Q E h⟩

/-! Roll.is_senior: level 1 -/
theorem sc_is_senior : FnScope ["self", "person", "other"] ["self", "person", "other"] (defScope s_is_senior) := ⟨rfl, rfl, rfl, by decide +kernel, rfl, by decide +kernel, by decide +kernel⟩
def t_is_senior (K : PySem.W.Frag) (A : Adr) : TS :=
  (tRet (tOp rLess (tOp (rIxL K) (tFld K (tVar 0) "set_of") (tVar 1)) (tOp (rIxL K) (tFld K (tVar 0) "set_of") (tVar 2))))
theorem ok_is_senior {P : Program} {w : World} {K : PySem.W.Frag} {mg : Str → Option Value} {base : Heap} {A : Adr} {sp : Sp} (T : Txt K mg A)
    (len : ∀ vs H Q E, sp vs H Q E → vs.length = 3) (pure : ∀ vs H Q E, sp vs H Q E → t_is_senior K A { nx := fun _ H' => Q .non H', rt := Q } (start ["self", "person", "other"] vs) H) :
    FnOk P w K mg base CX0 1 A.f_is_senior A.fd_is_senior ["self", "person", "other"] sp :=
  T.F_is_senior.ok sc_is_senior len fun cdv Ar outer s H vs Q E hr h => ⟨t_is_senior K A, by
    exact (pss_one (ps_ret (pe_cmpR op_lt (pe_ix ix_list (pe_fld (pv 0) rfl) (pv 1) (fun _ _ => rfl)) (pe_ix ix_list (pe_fld (pv 0) rfl) (pv 2) (fun _ _ => rfl)) (nomark _)))), pure vs H Q E h⟩

/-! Roll.place_of: level 1 -/
theorem sc_place_of : FnScope ["self", "person"] ["self", "person"] (defScope s_place_of) := ⟨rfl, rfl, rfl, by decide +kernel, rfl, by decide +kernel, by decide +kernel⟩
def t_place_of (K : PySem.W.Frag) (A : Adr) : TS :=
  (tRet (tTup (tCons (tOp (rIxL K) (tFld K (tVar 0) "set_of") (tVar 1)) (tCons (tOp (rIxL K) (tFld K (tVar 0) "birth_years") (tVar 1)) (tCons (tVar 1) tNil)))))
theorem ok_place_of {P : Program} {w : World} {K : PySem.W.Frag} {mg : Str → Option Value} {base : Heap} {A : Adr} {sp : Sp} (T : Txt K mg A)
    (len : ∀ vs H Q E, sp vs H Q E → vs.length = 2) (pure : ∀ vs H Q E, sp vs H Q E → t_place_of K A { nx := fun _ H' => Q .non H', rt := Q } (start ["self", "person"] vs) H) :
    FnOk P w K mg base CX0 1 A.f_place_of A.fd_place_of ["self", "person"] sp :=
  T.F_place_of.ok sc_place_of len fun cdv Ar outer s H vs Q E hr h => ⟨t_place_of K A, by
    exact (pss_one (ps_ret (pe_tup (pa_cons (pe_ix ix_list (pe_fld (pv 0) rfl) (pv 1) (fun _ _ => rfl)) (pa_cons (pe_ix ix_list (pe_fld (pv 0) rfl) (pv 1) (fun _ _ => rfl)) (pa_cons (pv 1) pa_nil)))))), pure vs H Q E h⟩

/-! Roll.ranked: level 4 -/
theorem sc_ranked : FnScope ["self", "joined", "person"] ["self"] (defScope s_ranked) := ⟨rfl, rfl, rfl, by decide +kernel, rfl, by decide +kernel, by decide +kernel⟩
def t_ranked (K : PySem.W.Frag) (A : Adr) (sp_is_in_a_set sp_people sp_place_of : Sp) : TS :=
  (tSeq (tAsg (tLc (iList K (tMeth A.C_Roll "people" sp_people [] E0 (tVar 0) tNil)) (gName 2) ((tB (tMeth A.C_Roll "is_in_a_set" sp_is_in_a_set [] E0 (tVar 0) (tCons (tVar 2) tNil)))) (tVar 2) [2]) (gName 1))
    (tRet (tCKw (rSortedMet K A.f_place_of sp_place_of) (tCons (tVar 1) tNil) (tCons (tBound A.C_Roll "place_of" A.f_place_of (tVar 0)) tNil))))
theorem ok_ranked {P : Program} {w : World} {K : PySem.W.Frag} {mg : Str → Option Value} {base : Heap} {A : Adr} {sp sp_is_in_a_set sp_people sp_place_of : Sp} (T : Txt K mg A) (G_is_in_a_set : FnOk P w K mg base CX0 1 A.f_is_in_a_set A.fd_is_in_a_set ["self", "person"] sp_is_in_a_set) (G_people : FnOk P w K mg base CX0 1 A.f_people A.fd_people ["self"] sp_people) (G_place_of : FnOk P w K mg base CX0 1 A.f_place_of A.fd_place_of ["self", "person"] sp_place_of)
    (len : ∀ vs H Q E, sp vs H Q E → vs.length = 1) (pure : ∀ vs H Q E, sp vs H Q E → t_ranked K A sp_is_in_a_set sp_people sp_place_of { nx := fun _ H' => Q .non H', rt := Q } (start ["self", "joined", "person"] vs) H) :
    FnOk P w K mg base CX0 4 A.f_ranked A.fd_ranked ["self"] sp :=
  T.F_ranked.ok sc_ranked len fun cdv Ar outer s H vs Q E hr h => ⟨t_ranked K A sp_is_in_a_set sp_people sp_place_of, by
    exact (pss_cons (ps_setLc (i := 1) (own := [("person", 2)]) (g := (gName 2)) (tt := (tB (tMeth A.C_Roll "is_in_a_set" sp_is_in_a_set [] E0 (tVar 0) (tCons (tVar 2) tNil)))) rfl sc_ranked.nd rfl rfl (sw_true rfl rfl rfl (by decide +kernel)) (pi_list (pe_meth0 (pv 0) T.cl_Roll T.m_people G_people (hr.mono (by decide)) T.b_people .nil pass0)) (blkOk_by (N := ["self", "joined", "person"]) (sc := defScope s_ranked) (by decide +kernel)) (fun _ _ _ _ _ => (pg_name (i := 2) sc_ranked.nd rfl (Or.inl rfl))) (fun _ _ _ _ _ => pts_one (pt_val (pe_meth (pv 0) T.cl_Roll T.m_is_in_a_set G_is_in_a_set (hr.mono (by decide)) T.b_is_in_a_set .nil pass0 (pa_cons (pv 2) pa_nil)))) (fun _ _ _ _ _ => (pv 2)))
    (pss_one (ps_ret (pe_callBK (cr_sortedMet rfl (FnR.imp (G_place_of.raw T.b_place_of .nil) fun vs H Q E h => by rw [List.append_nil]; exact h) hr) rfl T.n_sorted (by decide +kernel) (pa_cons (pv 1) pa_nil) (pk_cons (pe_boundM (pv 0) T.cl_Roll T.bm_place_of rfl) pk_nil))))), pure vs H Q E h⟩

/-! Roll.turned_apart: level 5 -/
theorem sc_turned_apart : FnScope ["self", "apart", "joined", "person", "other", "years"] ["self"] (defScope s_turned_apart) := ⟨rfl, rfl, rfl, by decide +kernel, rfl, by decide +kernel, by decide +kernel⟩
def t_turned_apart (K : PySem.W.Frag) (A : Adr) (sp_ranked sp_is_senior : Sp) : TS :=
  (tSeq (tAsg (tLst tNil) (gName 1))
    (tSeq (tAsg (tMeth A.C_Roll "ranked" sp_ranked [] E0 (tVar 0) tNil) (gName 2))
    (tSeq (tFor (iList K (tVar 2)) (gName 3)
      (tFor (iList K (tVar 2)) (gName 4)
        (tSeq (tAsg (tOp rMinus (tOp (rIxL K) (tFld K (tVar 0) "birth_years") (tVar 3)) (tOp (rIxL K) (tFld K (tVar 0) "birth_years") (tVar 4))) (gName 5))
        (tIfS (tAnd (tTest (tOp rGt (tVar 5) (tC (.int 0)))) (tB (tMeth A.C_Roll "is_senior" sp_is_senior [] E0 (tVar 0) (tCons (tVar 3) (tCons (tVar 4) tNil)))))
          (tDrop (tBM K "list" rAppend (tVar 1) (tCons (tVar 5) tNil)))
          tNext))))
    (tRet (tVar 1)))))
theorem ok_turned_apart {P : Program} {w : World} {K : PySem.W.Frag} {mg : Str → Option Value} {base : Heap} {A : Adr} {sp sp_ranked sp_is_senior : Sp} (T : Txt K mg A) (G_ranked : FnOk P w K mg base CX0 4 A.f_ranked A.fd_ranked ["self"] sp_ranked) (G_is_senior : FnOk P w K mg base CX0 1 A.f_is_senior A.fd_is_senior ["self", "person", "other"] sp_is_senior)
    (len : ∀ vs H Q E, sp vs H Q E → vs.length = 1) (pure : ∀ vs H Q E, sp vs H Q E → t_turned_apart K A sp_ranked sp_is_senior { nx := fun _ H' => Q .non H', rt := Q } (start ["self", "apart", "joined", "person", "other", "years"] vs) H) :
    FnOk P w K mg base CX0 5 A.f_turned_apart A.fd_turned_apart ["self"] sp :=
  T.F_turned_apart.ok sc_turned_apart len fun cdv Ar outer s H vs Q E hr h => ⟨t_turned_apart K A sp_ranked sp_is_senior, by
    exact (pss_cons (ps_set (i := 1) sc_turned_apart.nd rfl (Or.inl rfl) (pe_lst pa_nil))
    (pss_cons (ps_set (i := 2) sc_turned_apart.nd rfl (Or.inl rfl) (pe_meth0 (pv 0) T.cl_Roll T.m_ranked G_ranked hr T.b_ranked .nil pass0))
    (pss_cons (ps_for PassesOwn.never rfl (pi_list (pv 2)) (pg_name (i := 3) sc_turned_apart.nd rfl (Or.inl rfl))
      (pss_one (ps_for PassesOwn.never rfl (pi_list (pv 2)) (pg_name (i := 4) sc_turned_apart.nd rfl (Or.inl rfl))
        (pss_cons (ps_set (i := 5) sc_turned_apart.nd rfl (Or.inl rfl) (pe_op op_sub (pe_ix ix_list (pe_fld (pv 0) rfl) (pv 3) (fun _ _ => rfl)) (pe_ix ix_list (pe_fld (pv 0) rfl) (pv 4) (fun _ _ => rfl))))
        (pss_one (ps_if (PW.pt (pw_and (pt_cmpR op_gt (pv 5) pe_int (nomark _)) (pw_and1 (pt_val (pe_meth (pv 0) T.cl_Roll T.m_is_senior G_is_senior (hr.mono (by decide)) T.b_is_senior .nil pass0 (pa_cons (pv 3) (pa_cons (pv 4) pa_nil)))))))
          (pss_one (ps_expr (pe_bm PySem.F.plainAttrs_list PySem.F.slot_list_append PySem.F.type_list_append mt_append (pv 1) (pa_cons (pv 5) pa_nil))))
          pss_nil))))))
    (pss_one (ps_ret (pv 1)))))), pure vs H Q E h⟩

/-! Roll.add_person: level 1 -/
theorem sc_add_person : FnScope ["self"] ["self"] (defScope s_add_person) := ⟨rfl, rfl, rfl, by decide +kernel, rfl, by decide +kernel, by decide +kernel⟩
def t_add_person (K : PySem.W.Frag) (A : Adr) : TS :=
  (tSeq (tDrop (tBM K "list" rAppend (tFld K (tVar 0) "birth_years") (tCons (tFld K (tVar 0) "year") tNil)))
    (tDrop (tBM K "list" rAppend (tFld K (tVar 0) "set_of") (tCons (tC (.int (-1))) tNil))))
theorem ok_add_person {P : Program} {w : World} {K : PySem.W.Frag} {mg : Str → Option Value} {base : Heap} {A : Adr} {sp : Sp} (T : Txt K mg A)
    (len : ∀ vs H Q E, sp vs H Q E → vs.length = 1) (pure : ∀ vs H Q E, sp vs H Q E → t_add_person K A { nx := fun _ H' => Q .non H', rt := Q } (start ["self"] vs) H) :
    FnOk P w K mg base CX0 1 A.f_add_person A.fd_add_person ["self"] sp :=
  T.F_add_person.ok sc_add_person len fun cdv Ar outer s H vs Q E hr h => ⟨t_add_person K A, by
    exact (pss_cons (ps_expr (pe_bm PySem.F.plainAttrs_list PySem.F.slot_list_append PySem.F.type_list_append mt_append (pe_fld (pv 0) rfl) (pa_cons (pe_fld (pv 0) rfl) pa_nil)))
    (pss_one (ps_expr (pe_bm PySem.F.plainAttrs_list PySem.F.slot_list_append PySem.F.type_list_append mt_append (pe_fld (pv 0) rfl) (pa_cons (pe_glob rfl T.g_NO_SET ⟨_, rfl⟩) pa_nil))))), pure vs H Q E h⟩

/-! Roll.open_next: level 1 -/
theorem sc_open_next : FnScope ["self"] ["self"] (defScope s_open_next) := ⟨rfl, rfl, rfl, by decide +kernel, rfl, by decide +kernel, by decide +kernel⟩
def t_open_next (K : PySem.W.Frag) (A : Adr) : TS :=
  (tSeq (sFldAug K (tVar 0) (tC (.int 1)) L2.rAdd "set_count")
    (sFld K (tVar 0) (tC (.bl true)) "one_is_open"))
theorem ok_open_next {P : Program} {w : World} {K : PySem.W.Frag} {mg : Str → Option Value} {base : Heap} {A : Adr} {sp : Sp} (T : Txt K mg A)
    (len : ∀ vs H Q E, sp vs H Q E → vs.length = 1) (pure : ∀ vs H Q E, sp vs H Q E → t_open_next K A { nx := fun _ H' => Q .non H', rt := Q } (start ["self"] vs) H) :
    FnOk P w K mg base CX0 1 A.f_open_next A.fd_open_next ["self"] sp :=
  T.F_open_next.ok sc_open_next len fun cdv Ar outer s H vs Q E hr h => ⟨t_open_next K A, by
    exact (pss_cons (ps_fldaug (pv 0) pe_int in_add)
    (pss_one (ps_fld (pv 0) pe_bl rfl))), pure vs H Q E h⟩

/-! Roll.put_in_open: level 2 -/
theorem sc_put_in_open : FnScope ["self", "person"] ["self", "person"] (defScope s_put_in_open) := ⟨rfl, rfl, rfl, by decide +kernel, rfl, by decide +kernel, by decide +kernel⟩
def t_put_in_open (K : PySem.W.Frag) (A : Adr) (sp_last_set : Sp) : TS :=
  (tSeq (tAsg (tMeth A.C_Roll "last_set" sp_last_set [] E0 (tVar 0) tNil) (gSub (tFld K (tVar 0) "set_of") (tVar 1) rSetL))
    (tAsg (tFld K (tVar 0) "year") (gSub (tFld K (tVar 0) "join_years") (tVar 1) rSetD)))
theorem ok_put_in_open {P : Program} {w : World} {K : PySem.W.Frag} {mg : Str → Option Value} {base : Heap} {A : Adr} {sp sp_last_set : Sp} (T : Txt K mg A) (G_last_set : FnOk P w K mg base CX0 1 A.f_last_set A.fd_last_set ["self"] sp_last_set)
    (len : ∀ vs H Q E, sp vs H Q E → vs.length = 2) (pure : ∀ vs H Q E, sp vs H Q E → t_put_in_open K A sp_last_set { nx := fun _ H' => Q .non H', rt := Q } (start ["self", "person"] vs) H) :
    FnOk P w K mg base CX0 2 A.f_put_in_open A.fd_put_in_open ["self", "person"] sp :=
  T.F_put_in_open.ok sc_put_in_open len fun cdv Ar outer s H vs Q E hr h => ⟨t_put_in_open K A sp_last_set, by
    exact (pss_cons (ps_asg (pe_meth0 (pv 0) T.cl_Roll T.m_last_set G_last_set hr T.b_last_set .nil pass0) (pg_sub (pe_fld (pv 0) rfl) (pv 1) set_list))
    (pss_one (ps_asg (pe_fld (pv 0) rfl) (pg_sub (pe_fld (pv 0) rfl) (pv 1) (set_dict (hu1 hr)))))), pure vs H Q E h⟩

/-! Roll.standing: level 1 -/
theorem sc_standing : FnScope ["self"] ["self"] (defScope s_standing) := ⟨rfl, rfl, rfl, by decide +kernel, rfl, by decide +kernel, by decide +kernel⟩
def t_standing (K : PySem.W.Frag) (A : Adr) : TS :=
  (tRet (tTup (tCons (tFld K (tVar 0) "year") (tCons (tCB (Evl.rListS K) (tCons (tFld K (tVar 0) "birth_years") tNil)) (tCons (tCB (Evl.rListS K) (tCons (tFld K (tVar 0) "set_of") tNil)) (tCons (tCB rDictOf (tCons (tFld K (tVar 0) "join_years") tNil)) (tCons (tFld K (tVar 0) "set_count") (tCons (tFld K (tVar 0) "one_is_open") tNil))))))))
theorem ok_standing {P : Program} {w : World} {K : PySem.W.Frag} {mg : Str → Option Value} {base : Heap} {A : Adr} {sp : Sp} (T : Txt K mg A)
    (len : ∀ vs H Q E, sp vs H Q E → vs.length = 1) (pure : ∀ vs H Q E, sp vs H Q E → t_standing K A { nx := fun _ H' => Q .non H', rt := Q } (start ["self"] vs) H) :
    FnOk P w K mg base CX0 1 A.f_standing A.fd_standing ["self"] sp :=
  T.F_standing.ok sc_standing len fun cdv Ar outer s H vs Q E hr h => ⟨t_standing K A, by
    exact (pss_one (ps_ret (pe_tup (pa_cons (pe_fld (pv 0) rfl) (pa_cons (pe_callTy call_list_of rfl T.n_list (by decide +kernel) (pa_cons (pe_fld (pv 0) rfl) pa_nil)) (pa_cons (pe_callTy call_list_of rfl T.n_list (by decide +kernel) (pa_cons (pe_fld (pv 0) rfl) pa_nil)) (pa_cons (pe_callTy call_dictD rfl T.n_dict (by decide +kernel) (pa_cons (pe_fld (pv 0) rfl) pa_nil)) (pa_cons (pe_fld (pv 0) rfl) (pa_cons (pe_fld (pv 0) rfl) pa_nil))))))))), pure vs H Q E h⟩

/-! Roll.stand_as: level 1 -/
theorem sc_stand_as : FnScope ["self", "stood"] ["self", "stood"] (defScope s_stand_as) := ⟨rfl, rfl, rfl, by decide +kernel, rfl, by decide +kernel, by decide +kernel⟩
def t_stand_as (K : PySem.W.Frag) (A : Adr) : TS :=
  (tSeq (sFld K (tVar 0) (tOp (rIxT K) (tVar 1) (tC (.int 0))) "year")
    (tSeq (sFld K (tVar 0) (tOp (rIxT K) (tVar 1) (tC (.int 1))) "birth_years")
    (tSeq (sFld K (tVar 0) (tOp (rIxT K) (tVar 1) (tC (.int 2))) "set_of")
    (tSeq (sFld K (tVar 0) (tOp (rIxT K) (tVar 1) (tC (.int 3))) "join_years")
    (tSeq (sFld K (tVar 0) (tOp (rIxT K) (tVar 1) (tC (.int 4))) "set_count")
    (sFld K (tVar 0) (tOp (rIxT K) (tVar 1) (tC (.int 5))) "one_is_open"))))))
theorem ok_stand_as {P : Program} {w : World} {K : PySem.W.Frag} {mg : Str → Option Value} {base : Heap} {A : Adr} {sp : Sp} (T : Txt K mg A)
    (len : ∀ vs H Q E, sp vs H Q E → vs.length = 2) (pure : ∀ vs H Q E, sp vs H Q E → t_stand_as K A { nx := fun _ H' => Q .non H', rt := Q } (start ["self", "stood"] vs) H) :
    FnOk P w K mg base CX0 1 A.f_stand_as A.fd_stand_as ["self", "stood"] sp :=
  T.F_stand_as.ok sc_stand_as len fun cdv Ar outer s H vs Q E hr h => ⟨t_stand_as K A, by
    exact (pss_cons (ps_fld (pv 0) (pe_ix ix_tup (pv 1) pe_int (fun _ _ => rfl)) rfl)
    (pss_cons (ps_fld (pv 0) (pe_ix ix_tup (pv 1) pe_int (fun _ _ => rfl)) rfl)
    (pss_cons (ps_fld (pv 0) (pe_ix ix_tup (pv 1) pe_int (fun _ _ => rfl)) rfl)
    (pss_cons (ps_fld (pv 0) (pe_ix ix_tup (pv 1) pe_int (fun _ _ => rfl)) rfl)
    (pss_cons (ps_fld (pv 0) (pe_ix ix_tup (pv 1) pe_int (fun _ _ => rfl)) rfl)
    (pss_one (ps_fld (pv 0) (pe_ix ix_tup (pv 1) pe_int (fun _ _ => rfl)) rfl))))))), pure vs H Q E h⟩

/-! Roll.note_change: level 1 -/
theorem sc_note_change : FnScope ["self", "stood"] ["self", "stood"] (defScope s_note_change) := ⟨rfl, rfl, rfl, by decide +kernel, rfl, by decide +kernel, by decide +kernel⟩
def t_note_change (K : PySem.W.Frag) (A : Adr) : TS :=
  (tSeq (tDrop (tBM K "list" rAppend (tFld K (tVar 0) "stood_ahead") (tCons (tVar 1) tNil)))
    (tSeq (sFld K (tVar 0) (tSl (rSlL K) (tFld K (tVar 0) "stood_ahead") (tPart (tUn rNeg (tC (.int (20))))) tNoPart) "stood_ahead")
    (sFld K (tVar 0) (tLst tNil) "stood_behind")))
theorem ok_note_change {P : Program} {w : World} {K : PySem.W.Frag} {mg : Str → Option Value} {base : Heap} {A : Adr} {sp : Sp} (T : Txt K mg A)
    (len : ∀ vs H Q E, sp vs H Q E → vs.length = 2) (pure : ∀ vs H Q E, sp vs H Q E → t_note_change K A { nx := fun _ H' => Q .non H', rt := Q } (start ["self", "stood"] vs) H) :
    FnOk P w K mg base CX0 1 A.f_note_change A.fd_note_change ["self", "stood"] sp :=
  T.F_note_change.ok sc_note_change len fun cdv Ar outer s H vs Q E hr h => ⟨t_note_change K A, by
    exact (pss_cons (ps_expr (pe_bm PySem.F.plainAttrs_list PySem.F.slot_list_append PySem.F.type_list_append mt_append (pe_fld (pv 0) rfl) (pa_cons (pv 1) pa_nil)))
    (pss_cons (ps_fld (pv 0) (pe_slice sl_list (pe_fld (pv 0) rfl) (po_some (pe_un un_neg (pe_glob rfl T.g_MOST_TAKEN_BACK ⟨_, rfl⟩))) po_none) rfl)
    (pss_one (ps_fld (pv 0) (pe_lst pa_nil) rfl)))), pure vs H Q E h⟩

/-! Roll.take_back: level 2 -/
theorem sc_take_back : FnScope ["self"] ["self"] (defScope s_take_back) := ⟨rfl, rfl, rfl, by decide +kernel, rfl, by decide +kernel, by decide +kernel⟩
def t_take_back (K : PySem.W.Frag) (A : Adr) (sp_standing sp_stand_as : Sp) : TS :=
  (tSeq (tDrop (tBM K "list" rAppend (tFld K (tVar 0) "stood_behind") (tCons (tMeth A.C_Roll "standing" sp_standing [] E0 (tVar 0) tNil) tNil)))
    (tDrop (tMeth A.C_Roll "stand_as" sp_stand_as [] E0 (tVar 0) (tCons (tBM0 K "list" rPop (tFld K (tVar 0) "stood_ahead")) tNil))))
theorem ok_take_back {P : Program} {w : World} {K : PySem.W.Frag} {mg : Str → Option Value} {base : Heap} {A : Adr} {sp sp_standing sp_stand_as : Sp} (T : Txt K mg A) (G_standing : FnOk P w K mg base CX0 1 A.f_standing A.fd_standing ["self"] sp_standing) (G_stand_as : FnOk P w K mg base CX0 1 A.f_stand_as A.fd_stand_as ["self", "stood"] sp_stand_as)
    (len : ∀ vs H Q E, sp vs H Q E → vs.length = 1) (pure : ∀ vs H Q E, sp vs H Q E → t_take_back K A sp_standing sp_stand_as { nx := fun _ H' => Q .non H', rt := Q } (start ["self"] vs) H) :
    FnOk P w K mg base CX0 2 A.f_take_back A.fd_take_back ["self"] sp :=
  T.F_take_back.ok sc_take_back len fun cdv Ar outer s H vs Q E hr h => ⟨t_take_back K A sp_standing sp_stand_as, by
    exact (pss_cons (ps_expr (pe_bm PySem.F.plainAttrs_list PySem.F.slot_list_append PySem.F.type_list_append mt_append (pe_fld (pv 0) rfl) (pa_cons (pe_meth0 (pv 0) T.cl_Roll T.m_standing G_standing hr T.b_standing .nil pass0) pa_nil)))
    (pss_one (ps_expr (pe_meth (pv 0) T.cl_Roll T.m_stand_as G_stand_as hr T.b_stand_as .nil pass0 (pa_cons (pe_bm0 PySem.F.plainAttrs_list PySem.F.slot_list_pop PySem.F.type_list_pop mt_pop (pe_fld (pv 0) rfl)) pa_nil))))), pure vs H Q E h⟩

/-! Roll.do_again: level 2 -/
theorem sc_do_again : FnScope ["self"] ["self"] (defScope s_do_again) := ⟨rfl, rfl, rfl, by decide +kernel, rfl, by decide +kernel, by decide +kernel⟩
def t_do_again (K : PySem.W.Frag) (A : Adr) (sp_standing sp_stand_as : Sp) : TS :=
  (tSeq (tDrop (tBM K "list" rAppend (tFld K (tVar 0) "stood_ahead") (tCons (tMeth A.C_Roll "standing" sp_standing [] E0 (tVar 0) tNil) tNil)))
    (tDrop (tMeth A.C_Roll "stand_as" sp_stand_as [] E0 (tVar 0) (tCons (tBM0 K "list" rPop (tFld K (tVar 0) "stood_behind")) tNil))))
theorem ok_do_again {P : Program} {w : World} {K : PySem.W.Frag} {mg : Str → Option Value} {base : Heap} {A : Adr} {sp sp_standing sp_stand_as : Sp} (T : Txt K mg A) (G_standing : FnOk P w K mg base CX0 1 A.f_standing A.fd_standing ["self"] sp_standing) (G_stand_as : FnOk P w K mg base CX0 1 A.f_stand_as A.fd_stand_as ["self", "stood"] sp_stand_as)
    (len : ∀ vs H Q E, sp vs H Q E → vs.length = 1) (pure : ∀ vs H Q E, sp vs H Q E → t_do_again K A sp_standing sp_stand_as { nx := fun _ H' => Q .non H', rt := Q } (start ["self"] vs) H) :
    FnOk P w K mg base CX0 2 A.f_do_again A.fd_do_again ["self"] sp :=
  T.F_do_again.ok sc_do_again len fun cdv Ar outer s H vs Q E hr h => ⟨t_do_again K A sp_standing sp_stand_as, by
    exact (pss_cons (ps_expr (pe_bm PySem.F.plainAttrs_list PySem.F.slot_list_append PySem.F.type_list_append mt_append (pe_fld (pv 0) rfl) (pa_cons (pe_meth0 (pv 0) T.cl_Roll T.m_standing G_standing hr T.b_standing .nil pass0) pa_nil)))
    (pss_one (ps_expr (pe_meth (pv 0) T.cl_Roll T.m_stand_as G_stand_as hr T.b_stand_as .nil pass0 (pa_cons (pe_bm0 PySem.F.plainAttrs_list PySem.F.slot_list_pop PySem.F.type_list_pop mt_pop (pe_fld (pv 0) rfl)) pa_nil))))), pure vs H Q E h⟩

/-! as_a_set: level 1 -/
theorem sc_as_a_set : FnScope ["chosen", "how_many", "together", "power", "is_chosen"] ["chosen"] (defScope s_as_a_set) := ⟨rfl, rfl, rfl, by decide +kernel, rfl, by decide +kernel, by decide +kernel⟩
def t_as_a_set (K : PySem.W.Frag) (A : Adr) : TS :=
  (tSeq (tAsg (tC (.int 0)) (gName 1))
    (tSeq (tAsg (tC (.int 0)) (gName 2))
    (tSeq (tAsg (tC (.int 1)) (gName 3))
    (tSeq (tFor (iList K (tVar 0)) (gName 4)
      (tSeq (tIfS (tB (tVar 4))
        (tSeq (tAug 1 (tC (.int 1)) ipAdd)
        (tAug 2 (tVar 3) ipAdd))
        tNext)
      (tAug 3 (tVar 3) ipAdd)))
    (tRet (tLst (tCons (tVar 1) (tCons (tVar 2) tNil))))))))
theorem ok_as_a_set {P : Program} {w : World} {K : PySem.W.Frag} {mg : Str → Option Value} {base : Heap} {A : Adr} {sp : Sp} (T : Txt K mg A)
    (len : ∀ vs H Q E, sp vs H Q E → vs.length = 1) (pure : ∀ vs H Q E, sp vs H Q E → t_as_a_set K A { nx := fun _ H' => Q .non H', rt := Q } (start ["chosen", "how_many", "together", "power", "is_chosen"] vs) H) :
    FnOk P w K mg base CX0 1 A.f_as_a_set A.fd_as_a_set ["chosen"] sp :=
  T.F_as_a_set.ok sc_as_a_set len fun cdv Ar outer s H vs Q E hr h => ⟨t_as_a_set K A, by
    exact (pss_cons (ps_set (i := 1) sc_as_a_set.nd rfl (Or.inl rfl) pe_int)
    (pss_cons (ps_set (i := 2) sc_as_a_set.nd rfl (Or.inl rfl) pe_int)
    (pss_cons (ps_set (i := 3) sc_as_a_set.nd rfl (Or.inl rfl) pe_int)
    (pss_cons (ps_for PassesOwn.never rfl (pi_list (pv 0)) (pg_name (i := 4) sc_as_a_set.nd rfl (Or.inl rfl))
      (pss_cons (ps_if (pt_val (pv 4))
        (pss_cons (ps_aug (i := 1) sc_as_a_set.nd rfl (Or.inl rfl) pe_int ip_add)
        (pss_one (ps_aug (i := 2) sc_as_a_set.nd rfl (Or.inl rfl) (pv 3) ip_add)))
        pss_nil)
      (pss_one (ps_aug (i := 3) sc_as_a_set.nd rfl (Or.inl rfl) (pv 3) ip_add))))
    (pss_one (ps_ret (pe_lst (pa_cons (pv 1) (pa_cons (pv 2) pa_nil))))))))), pure vs H Q E h⟩

/-! os_start: level 2 -/
theorem sc_os_start : FnScope ["roll", "numbers", "names", "youngest", "oldest"] ["roll", "numbers"] (defScope s_os_start) := ⟨rfl, rfl, rfl, by decide +kernel, rfl, by decide +kernel, by decide +kernel⟩
def t_os_start (K : PySem.W.Frag) (A : Adr) (sp_begin : Sp) : TS :=
  (tSeq (tAsg (tOp (rIxL K) (tVar 1) (tC (.int 0))) (gName 2))
    (tSeq (tAsg (tOp (rIxL K) (tVar 1) (tC (.int 1))) (gName 3))
    (tSeq (tAsg (tOp (rIxL K) (tVar 1) (tC (.int 2))) (gName 4))
    (tSeq (tIfS (tOr (tTest (tOp rLess (tVar 2) (tC (.int (2))))) (tTest (tOp rGt (tVar 2) (tC (.int (12))))))
      (tRet (tLst (tCons (tC (.int (-22))) tNil)))
      tNext)
    (tSeq (tIfS (tOr (tTest (tOp rLess (tVar 4) (tVar 3))) (tTest (tOp rGt (tVar 4) (tC (.int (60))))))
      (tRet (tLst (tCons (tC (.int (-22))) tNil)))
      tNext)
    (tSeq (tDrop (tMeth A.C_Roll "begin" sp_begin [] E0 (tVar 0) (tCons (tVar 2) (tCons (tVar 3) (tCons (tVar 4) tNil)))))
    (tRet (tLst (tCons (tC (.int 0)) tNil)))))))))
theorem ok_os_start {P : Program} {w : World} {K : PySem.W.Frag} {mg : Str → Option Value} {base : Heap} {A : Adr} {sp sp_begin : Sp} (T : Txt K mg A) (G_begin : FnOk P w K mg base CX0 1 A.f_begin A.fd_begin ["self", "names", "youngest", "oldest"] sp_begin)
    (len : ∀ vs H Q E, sp vs H Q E → vs.length = 2) (pure : ∀ vs H Q E, sp vs H Q E → t_os_start K A sp_begin { nx := fun _ H' => Q .non H', rt := Q } (start ["roll", "numbers", "names", "youngest", "oldest"] vs) H) :
    FnOk P w K mg base CX0 2 A.f_os_start A.fd_os_start ["roll", "numbers"] sp :=
  T.F_os_start.ok sc_os_start len fun cdv Ar outer s H vs Q E hr h => ⟨t_os_start K A sp_begin, by
    exact (pss_cons (ps_set (i := 2) sc_os_start.nd rfl (Or.inl rfl) (pe_ix ix_list (pv 1) pe_int (fun _ _ => rfl)))
    (pss_cons (ps_set (i := 3) sc_os_start.nd rfl (Or.inl rfl) (pe_ix ix_list (pv 1) pe_int (fun _ _ => rfl)))
    (pss_cons (ps_set (i := 4) sc_os_start.nd rfl (Or.inl rfl) (pe_ix ix_list (pv 1) pe_int (fun _ _ => rfl)))
    (pss_cons (ps_if (PW.pt (pw_or (pt_cmpR op_lt (pv 2) (pe_glob rfl T.g_FEWEST_NAMES ⟨_, rfl⟩) (nomark _)) (pw_or1 (pt_cmpR op_gt (pv 2) (pe_glob rfl T.g_MOST_NAMES ⟨_, rfl⟩) (nomark _)))))
      (pss_one (ps_ret (pe_lst (pa_cons (pe_glob rfl T.g_NOT_AS_ASKED ⟨_, rfl⟩) pa_nil))))
      pss_nil)
    (pss_cons (ps_if (PW.pt (pw_or (pt_cmpR op_lt (pv 4) (pv 3) (nomark _)) (pw_or1 (pt_cmpR op_gt (pv 4) (pe_glob rfl T.g_HIGHEST_AGE ⟨_, rfl⟩) (nomark _)))))
      (pss_one (ps_ret (pe_lst (pa_cons (pe_glob rfl T.g_NOT_AS_ASKED ⟨_, rfl⟩) pa_nil))))
      pss_nil)
    (pss_cons (ps_expr (pe_meth (pv 0) T.cl_Roll T.m_begin G_begin hr T.b_begin .nil pass0 (pa_cons (pv 2) (pa_cons (pv 3) (pa_cons (pv 4) pa_nil)))))
    (pss_one (ps_ret (pe_lst (pa_cons pe_int pa_nil)))))))))), pure vs H Q E h⟩

/-! os_pass: level 1 -/
theorem sc_os_pass : FnScope ["roll", "numbers", "years"] ["roll", "numbers"] (defScope s_os_pass) := ⟨rfl, rfl, rfl, by decide +kernel, rfl, by decide +kernel, by decide +kernel⟩
def t_os_pass (K : PySem.W.Frag) (A : Adr) : TS :=
  (tSeq (tAsg (tOp (rIxL K) (tVar 1) (tC (.int 0))) (gName 2))
    (tSeq (tIfS (tOr (tTest (tOp rEq (tVar 2) (tC (.int 0)))) (tTest (tOp rGt (tOp rPlus (tFld K (tVar 0) "year") (tVar 2)) (tC (.int (300))))))
      (tRet (tLst (tCons (tC (.int (-22))) tNil)))
      tNext)
    (tSeq (sFldAug K (tVar 0) (tVar 2) L2.rAdd "year")
    (tRet (tLst (tCons (tFld K (tVar 0) "year") tNil))))))
theorem ok_os_pass {P : Program} {w : World} {K : PySem.W.Frag} {mg : Str → Option Value} {base : Heap} {A : Adr} {sp : Sp} (T : Txt K mg A)
    (len : ∀ vs H Q E, sp vs H Q E → vs.length = 2) (pure : ∀ vs H Q E, sp vs H Q E → t_os_pass K A { nx := fun _ H' => Q .non H', rt := Q } (start ["roll", "numbers", "years"] vs) H) :
    FnOk P w K mg base CX0 1 A.f_os_pass A.fd_os_pass ["roll", "numbers"] sp :=
  T.F_os_pass.ok sc_os_pass len fun cdv Ar outer s H vs Q E hr h => ⟨t_os_pass K A, by
    exact (pss_cons (ps_set (i := 2) sc_os_pass.nd rfl (Or.inl rfl) (pe_ix ix_list (pv 1) pe_int (fun _ _ => rfl)))
    (pss_cons (ps_if (PW.pt (pw_or (pt_cmpR op_eq (pv 2) pe_int (nomark _)) (pw_or1 (pt_cmpR op_gt (pe_op op_add (pe_fld (pv 0) rfl) (pv 2)) (pe_glob rfl T.g_LAST_YEAR ⟨_, rfl⟩) (nomark _)))))
      (pss_one (ps_ret (pe_lst (pa_cons (pe_glob rfl T.g_NOT_AS_ASKED ⟨_, rfl⟩) pa_nil))))
      pss_nil)
    (pss_cons (ps_fldaug (pv 0) (pv 2) in_add)
    (pss_one (ps_ret (pe_lst (pa_cons (pe_fld (pv 0) rfl) pa_nil))))))), pure vs H Q E h⟩

/-! os_born: level 2 -/
theorem sc_os_born : FnScope ["roll", "numbers", "person"] ["roll", "numbers"] (defScope s_os_born) := ⟨rfl, rfl, rfl, by decide +kernel, rfl, by decide +kernel, by decide +kernel⟩
def t_os_born (K : PySem.W.Frag) (A : Adr) (sp_add_person : Sp) : TS :=
  (tSeq (tAsg (tCB (Evl.rLenS K) (tCons (tFld K (tVar 0) "birth_years") tNil)) (gName 2))
    (tSeq (tIfS (tTest (tOp rEq (tVar 2) (tC (.int (20)))))
      (tRet (tLst (tCons (tC (.int (-28))) tNil)))
      tNext)
    (tSeq (tDrop (tMeth A.C_Roll "add_person" sp_add_person [] E0 (tVar 0) tNil))
    (tRet (tLst (tCons (tVar 2) tNil))))))
theorem ok_os_born {P : Program} {w : World} {K : PySem.W.Frag} {mg : Str → Option Value} {base : Heap} {A : Adr} {sp sp_add_person : Sp} (T : Txt K mg A) (G_add_person : FnOk P w K mg base CX0 1 A.f_add_person A.fd_add_person ["self"] sp_add_person)
    (len : ∀ vs H Q E, sp vs H Q E → vs.length = 2) (pure : ∀ vs H Q E, sp vs H Q E → t_os_born K A sp_add_person { nx := fun _ H' => Q .non H', rt := Q } (start ["roll", "numbers", "person"] vs) H) :
    FnOk P w K mg base CX0 2 A.f_os_born A.fd_os_born ["roll", "numbers"] sp :=
  T.F_os_born.ok sc_os_born len fun cdv Ar outer s H vs Q E hr h => ⟨t_os_born K A sp_add_person, by
    exact (pss_cons (ps_set (i := 2) sc_os_born.nd rfl (Or.inl rfl) (pe_callB call_len_seq rfl T.n_len PySem.boot_len (pa_cons (pe_fld (pv 0) rfl) pa_nil)))
    (pss_cons (ps_if (pt_cmpR op_eq (pv 2) (pe_glob rfl T.g_MOST_PEOPLE ⟨_, rfl⟩) (nomark _))
      (pss_one (ps_ret (pe_lst (pa_cons (pe_glob rfl T.g_FULL ⟨_, rfl⟩) pa_nil))))
      pss_nil)
    (pss_cons (ps_expr (pe_meth0 (pv 0) T.cl_Roll T.m_add_person G_add_person hr T.b_add_person .nil pass0))
    (pss_one (ps_ret (pe_lst (pa_cons (pv 2) pa_nil))))))), pure vs H Q E h⟩

/-! os_open: level 2 -/
theorem sc_os_open : FnScope ["roll", "numbers", "opened"] ["roll", "numbers"] (defScope s_os_open) := ⟨rfl, rfl, rfl, by decide +kernel, rfl, by decide +kernel, by decide +kernel⟩
def t_os_open (K : PySem.W.Frag) (A : Adr) (sp_open_next sp_last_set sp_name_of : Sp) : TS :=
  (tSeq (tIfS (tB (tFld K (tVar 0) "one_is_open"))
      (tRet (tLst (tCons (tC (.int (-17))) tNil)))
      tNext)
    (tSeq (tIfS (tTest (tOp rEq (tFld K (tVar 0) "set_count") (tC (.int (16)))))
      (tRet (tLst (tCons (tC (.int (-28))) tNil)))
      tNext)
    (tSeq (tDrop (tMeth A.C_Roll "open_next" sp_open_next [] E0 (tVar 0) tNil))
    (tSeq (tAsg (tMeth A.C_Roll "last_set" sp_last_set [] E0 (tVar 0) tNil) (gName 2))
    (tRet (tLst (tCons (tVar 2) (tCons (tMeth A.C_Roll "name_of" sp_name_of [] E0 (tVar 0) (tCons (tVar 2) tNil)) tNil))))))))
theorem ok_os_open {P : Program} {w : World} {K : PySem.W.Frag} {mg : Str → Option Value} {base : Heap} {A : Adr} {sp sp_open_next sp_last_set sp_name_of : Sp} (T : Txt K mg A) (G_open_next : FnOk P w K mg base CX0 1 A.f_open_next A.fd_open_next ["self"] sp_open_next) (G_last_set : FnOk P w K mg base CX0 1 A.f_last_set A.fd_last_set ["self"] sp_last_set) (G_name_of : FnOk P w K mg base CX0 1 A.f_name_of A.fd_name_of ["self", "number"] sp_name_of)
    (len : ∀ vs H Q E, sp vs H Q E → vs.length = 2) (pure : ∀ vs H Q E, sp vs H Q E → t_os_open K A sp_open_next sp_last_set sp_name_of { nx := fun _ H' => Q .non H', rt := Q } (start ["roll", "numbers", "opened"] vs) H) :
    FnOk P w K mg base CX0 2 A.f_os_open A.fd_os_open ["roll", "numbers"] sp :=
  T.F_os_open.ok sc_os_open len fun cdv Ar outer s H vs Q E hr h => ⟨t_os_open K A sp_open_next sp_last_set sp_name_of, by
    exact (pss_cons (ps_if (pt_val (pe_fld (pv 0) rfl))
      (pss_one (ps_ret (pe_lst (pa_cons (pe_glob rfl T.g_ALREADY ⟨_, rfl⟩) pa_nil))))
      pss_nil)
    (pss_cons (ps_if (pt_cmpR op_eq (pe_fld (pv 0) rfl) (pe_glob rfl T.g_MOST_SETS ⟨_, rfl⟩) (nomark _))
      (pss_one (ps_ret (pe_lst (pa_cons (pe_glob rfl T.g_FULL ⟨_, rfl⟩) pa_nil))))
      pss_nil)
    (pss_cons (ps_expr (pe_meth0 (pv 0) T.cl_Roll T.m_open_next G_open_next hr T.b_open_next .nil pass0))
    (pss_cons (ps_set (i := 2) sc_os_open.nd rfl (Or.inl rfl) (pe_meth0 (pv 0) T.cl_Roll T.m_last_set G_last_set hr T.b_last_set .nil pass0))
    (pss_one (ps_ret (pe_lst (pa_cons (pv 2) (pa_cons (pe_meth (pv 0) T.cl_Roll T.m_name_of G_name_of hr T.b_name_of .nil pass0 (pa_cons (pv 2) pa_nil)) pa_nil))))))))), pure vs H Q E h⟩

/-! os_shut: level 2 -/
theorem sc_os_shut : FnScope ["roll", "numbers"] ["roll", "numbers"] (defScope s_os_shut) := ⟨rfl, rfl, rfl, by decide +kernel, rfl, by decide +kernel, by decide +kernel⟩
def t_os_shut (K : PySem.W.Frag) (A : Adr) (sp_last_set : Sp) : TS :=
  (tSeq (tIfS (tNot (tB (tFld K (tVar 0) "one_is_open")))
      (tRet (tLst (tCons (tC (.int (-6))) tNil)))
      tNext)
    (tSeq (sFld K (tVar 0) (tC (.bl false)) "one_is_open")
    (tRet (tLst (tCons (tBM K "list" (rCntI K) (tFld K (tVar 0) "set_of") (tCons (tMeth A.C_Roll "last_set" sp_last_set [] E0 (tVar 0) tNil) tNil)) tNil)))))
theorem ok_os_shut {P : Program} {w : World} {K : PySem.W.Frag} {mg : Str → Option Value} {base : Heap} {A : Adr} {sp sp_last_set : Sp} (T : Txt K mg A) (G_last_set : FnOk P w K mg base CX0 1 A.f_last_set A.fd_last_set ["self"] sp_last_set)
    (len : ∀ vs H Q E, sp vs H Q E → vs.length = 2) (pure : ∀ vs H Q E, sp vs H Q E → t_os_shut K A sp_last_set { nx := fun _ H' => Q .non H', rt := Q } (start ["roll", "numbers"] vs) H) :
    FnOk P w K mg base CX0 2 A.f_os_shut A.fd_os_shut ["roll", "numbers"] sp :=
  T.F_os_shut.ok sc_os_shut len fun cdv Ar outer s H vs Q E hr h => ⟨t_os_shut K A sp_last_set, by
    exact (pss_cons (ps_if (pt_not (pt_val (pe_fld (pv 0) rfl)))
      (pss_one (ps_ret (pe_lst (pa_cons (pe_glob rfl T.g_NOTHING_DUE ⟨_, rfl⟩) pa_nil))))
      pss_nil)
    (pss_cons (ps_fld (pv 0) pe_bl rfl)
    (pss_one (ps_ret (pe_lst (pa_cons (pe_bm PySem.F.plainAttrs_list PySem.F.slot_list_count PySem.F.type_list_count mt_lcount (pe_fld (pv 0) rfl) (pa_cons (pe_meth0 (pv 0) T.cl_Roll T.m_last_set G_last_set hr T.b_last_set .nil pass0) pa_nil)) pa_nil)))))), pure vs H Q E h⟩

/-! os_join: level 3 -/
theorem sc_os_join : FnScope ["roll", "numbers", "person"] ["roll", "numbers"] (defScope s_os_join) := ⟨rfl, rfl, rfl, by decide +kernel, rfl, by decide +kernel, by decide +kernel⟩
def t_os_join (K : PySem.W.Frag) (A : Adr) (sp_is_person sp_is_in_a_set sp_is_of_age sp_put_in_open sp_last_set : Sp) : TS :=
  (tSeq (tAsg (tOp (rIxL K) (tVar 1) (tC (.int 0))) (gName 2))
    (tSeq (tIfS (tNot (tB (tMeth A.C_Roll "is_person" sp_is_person [] E0 (tVar 0) (tCons (tVar 2) tNil))))
      (tRet (tLst (tCons (tC (.int (-2))) tNil)))
      tNext)
    (tSeq (tIfS (tB (tMeth A.C_Roll "is_in_a_set" sp_is_in_a_set [] E0 (tVar 0) (tCons (tVar 2) tNil)))
      (tRet (tLst (tCons (tC (.int (-17))) tNil)))
      tNext)
    (tSeq (tIfS (tNot (tB (tFld K (tVar 0) "one_is_open")))
      (tRet (tLst (tCons (tC (.int (-16))) tNil)))
      tNext)
    (tSeq (tIfS (tNot (tB (tMeth A.C_Roll "is_of_age" sp_is_of_age [] E0 (tVar 0) (tCons (tVar 2) tNil))))
      (tRet (tLst (tCons (tC (.int (-22))) tNil)))
      tNext)
    (tSeq (tDrop (tMeth A.C_Roll "put_in_open" sp_put_in_open [] E0 (tVar 0) (tCons (tVar 2) tNil)))
    (tRet (tLst (tCons (tMeth A.C_Roll "last_set" sp_last_set [] E0 (tVar 0) tNil) tNil)))))))))
theorem ok_os_join {P : Program} {w : World} {K : PySem.W.Frag} {mg : Str → Option Value} {base : Heap} {A : Adr} {sp sp_is_person sp_is_in_a_set sp_is_of_age sp_put_in_open sp_last_set : Sp} (T : Txt K mg A) (G_is_person : FnOk P w K mg base CX0 1 A.f_is_person A.fd_is_person ["self", "person"] sp_is_person) (G_is_in_a_set : FnOk P w K mg base CX0 1 A.f_is_in_a_set A.fd_is_in_a_set ["self", "person"] sp_is_in_a_set) (G_is_of_age : FnOk P w K mg base CX0 2 A.f_is_of_age A.fd_is_of_age ["self", "person"] sp_is_of_age) (G_put_in_open : FnOk P w K mg base CX0 2 A.f_put_in_open A.fd_put_in_open ["self", "person"] sp_put_in_open) (G_last_set : FnOk P w K mg base CX0 1 A.f_last_set A.fd_last_set ["self"] sp_last_set)
    (len : ∀ vs H Q E, sp vs H Q E → vs.length = 2) (pure : ∀ vs H Q E, sp vs H Q E → t_os_join K A sp_is_person sp_is_in_a_set sp_is_of_age sp_put_in_open sp_last_set { nx := fun _ H' => Q .non H', rt := Q } (start ["roll", "numbers", "person"] vs) H) :
    FnOk P w K mg base CX0 3 A.f_os_join A.fd_os_join ["roll", "numbers"] sp :=
  T.F_os_join.ok sc_os_join len fun cdv Ar outer s H vs Q E hr h => ⟨t_os_join K A sp_is_person sp_is_in_a_set sp_is_of_age sp_put_in_open sp_last_set, by
    exact (pss_cons (ps_set (i := 2) sc_os_join.nd rfl (Or.inl rfl) (pe_ix ix_list (pv 1) pe_int (fun _ _ => rfl)))
    (pss_cons (ps_if (pt_not (pt_val (pe_meth (pv 0) T.cl_Roll T.m_is_person G_is_person (hr.mono (by decide)) T.b_is_person .nil pass0 (pa_cons (pv 2) pa_nil))))
      (pss_one (ps_ret (pe_lst (pa_cons (pe_glob rfl T.g_NOT_THERE ⟨_, rfl⟩) pa_nil))))
      pss_nil)
    (pss_cons (ps_if (pt_val (pe_meth (pv 0) T.cl_Roll T.m_is_in_a_set G_is_in_a_set (hr.mono (by decide)) T.b_is_in_a_set .nil pass0 (pa_cons (pv 2) pa_nil)))
      (pss_one (ps_ret (pe_lst (pa_cons (pe_glob rfl T.g_ALREADY ⟨_, rfl⟩) pa_nil))))
      pss_nil)
    (pss_cons (ps_if (pt_not (pt_val (pe_fld (pv 0) rfl)))
      (pss_one (ps_ret (pe_lst (pa_cons (pe_glob rfl T.g_NONE_OPEN ⟨_, rfl⟩) pa_nil))))
      pss_nil)
    (pss_cons (ps_if (pt_not (pt_val (pe_meth (pv 0) T.cl_Roll T.m_is_of_age G_is_of_age hr T.b_is_of_age .nil pass0 (pa_cons (pv 2) pa_nil))))
      (pss_one (ps_ret (pe_lst (pa_cons (pe_glob rfl T.g_NOT_AS_ASKED ⟨_, rfl⟩) pa_nil))))
      pss_nil)
    (pss_cons (ps_expr (pe_meth (pv 0) T.cl_Roll T.m_put_in_open G_put_in_open hr T.b_put_in_open .nil pass0 (pa_cons (pv 2) pa_nil)))
    (pss_one (ps_ret (pe_lst (pa_cons (pe_meth0 (pv 0) T.cl_Roll T.m_last_set G_last_set (hr.mono (by decide)) T.b_last_set .nil pass0) pa_nil)))))))))), pure vs H Q E h⟩

/-! os_join_all: level 5 -/
theorem sc_os_join_all : FnScope ["roll", "numbers", "joining", "person", "joins"] ["roll", "numbers"] (defScope s_os_join_all) := ⟨rfl, rfl, rfl, by decide +kernel, rfl, by decide +kernel, by decide +kernel⟩
def t_os_join_all (K : PySem.W.Frag) (A : Adr) (sp_who_may_join sp_put_in_open sp_as_a_set : Sp) : TS :=
  (tSeq (tIfS (tNot (tB (tFld K (tVar 0) "one_is_open")))
      (tRet (tLst (tCons (tC (.int (-16))) tNil)))
      tNext)
    (tSeq (tAsg (tMeth A.C_Roll "who_may_join" sp_who_may_join [] E0 (tVar 0) tNil) (gName 2))
    (tSeq (tIfS (tNot (tB (tCB (rAny K) (tCons (tVar 2) tNil))))
      (tRet (tLst (tCons (tC (.int (-6))) tNil)))
      tNext)
    (tSeq (tFor (iEnum K (tCons (tVar 2) tNil)) (gTup K 2 (gCons (gName 3) (gCons (gName 4) gNil)))
      (tIfS (tB (tVar 4))
        (tDrop (tMeth A.C_Roll "put_in_open" sp_put_in_open [] E0 (tVar 0) (tCons (tVar 3) tNil)))
        tNext))
    (tRet (tCall sp_as_a_set [] E0 (tCons (tVar 2) tNil)))))))
theorem ok_os_join_all {P : Program} {w : World} {K : PySem.W.Frag} {mg : Str → Option Value} {base : Heap} {A : Adr} {sp sp_who_may_join sp_put_in_open sp_as_a_set : Sp} (T : Txt K mg A) (G_who_may_join : FnOk P w K mg base CX0 4 A.f_who_may_join A.fd_who_may_join ["self"] sp_who_may_join) (G_put_in_open : FnOk P w K mg base CX0 2 A.f_put_in_open A.fd_put_in_open ["self", "person"] sp_put_in_open) (G_as_a_set : FnOk P w K mg base CX0 1 A.f_as_a_set A.fd_as_a_set ["chosen"] sp_as_a_set)
    (len : ∀ vs H Q E, sp vs H Q E → vs.length = 2) (pure : ∀ vs H Q E, sp vs H Q E → t_os_join_all K A sp_who_may_join sp_put_in_open sp_as_a_set { nx := fun _ H' => Q .non H', rt := Q } (start ["roll", "numbers", "joining", "person", "joins"] vs) H) :
    FnOk P w K mg base CX0 5 A.f_os_join_all A.fd_os_join_all ["roll", "numbers"] sp :=
  T.F_os_join_all.ok sc_os_join_all len fun cdv Ar outer s H vs Q E hr h => ⟨t_os_join_all K A sp_who_may_join sp_put_in_open sp_as_a_set, by
    exact (pss_cons (ps_if (pt_not (pt_val (pe_fld (pv 0) rfl)))
      (pss_one (ps_ret (pe_lst (pa_cons (pe_glob rfl T.g_NONE_OPEN ⟨_, rfl⟩) pa_nil))))
      pss_nil)
    (pss_cons (ps_set (i := 2) sc_os_join_all.nd rfl (Or.inl rfl) (pe_meth0 (pv 0) T.cl_Roll T.m_who_may_join G_who_may_join hr T.b_who_may_join .nil pass0))
    (pss_cons (ps_if (pt_not (pt_val (pe_callB (cr_any rfl) rfl T.n_any (by decide +kernel) (pa_cons (pv 2) pa_nil))))
      (pss_one (ps_ret (pe_lst (pa_cons (pe_glob rfl T.g_NOTHING_DUE ⟨_, rfl⟩) pa_nil))))
      pss_nil)
    (pss_cons (ps_for PassesOwn.never rfl (pi_enum rfl T.n_enumerate (pa_cons (pv 2) pa_nil)) (pg_tup rfl (pgs_cons (pg_name (i := 3) sc_os_join_all.nd rfl (Or.inl rfl)) (pgs_cons (pg_name (i := 4) sc_os_join_all.nd rfl (Or.inl rfl)) pgs_nil)))
      (pss_one (ps_if (pt_val (pv 4))
        (pss_one (ps_expr (pe_meth (pv 0) T.cl_Roll T.m_put_in_open G_put_in_open (hr.mono (by decide)) T.b_put_in_open .nil pass0 (pa_cons (pv 3) pa_nil))))
        pss_nil)))
    (pss_one (ps_ret (pe_call G_as_a_set (hr.mono (by decide)) rfl T.g_as_a_set T.F_as_a_set.kp T.b_as_a_set .nil pass0 (pa_cons (pv 2) pa_nil)))))))), pure vs H Q E h⟩

/-! os_age: level 2 -/
theorem sc_os_age : FnScope ["roll", "numbers", "person"] ["roll", "numbers"] (defScope s_os_age) := ⟨rfl, rfl, rfl, by decide +kernel, rfl, by decide +kernel, by decide +kernel⟩
def t_os_age (K : PySem.W.Frag) (A : Adr) (sp_is_person sp_age_of : Sp) : TS :=
  (tSeq (tAsg (tOp (rIxL K) (tVar 1) (tC (.int 0))) (gName 2))
    (tSeq (tIfS (tNot (tB (tMeth A.C_Roll "is_person" sp_is_person [] E0 (tVar 0) (tCons (tVar 2) tNil))))
      (tRet (tLst (tCons (tC (.int (-2))) tNil)))
      tNext)
    (tRet (tLst (tCons (tMeth A.C_Roll "age_of" sp_age_of [] E0 (tVar 0) (tCons (tVar 2) tNil)) tNil)))))
theorem ok_os_age {P : Program} {w : World} {K : PySem.W.Frag} {mg : Str → Option Value} {base : Heap} {A : Adr} {sp sp_is_person sp_age_of : Sp} (T : Txt K mg A) (G_is_person : FnOk P w K mg base CX0 1 A.f_is_person A.fd_is_person ["self", "person"] sp_is_person) (G_age_of : FnOk P w K mg base CX0 1 A.f_age_of A.fd_age_of ["self", "person"] sp_age_of)
    (len : ∀ vs H Q E, sp vs H Q E → vs.length = 2) (pure : ∀ vs H Q E, sp vs H Q E → t_os_age K A sp_is_person sp_age_of { nx := fun _ H' => Q .non H', rt := Q } (start ["roll", "numbers", "person"] vs) H) :
    FnOk P w K mg base CX0 2 A.f_os_age A.fd_os_age ["roll", "numbers"] sp :=
  T.F_os_age.ok sc_os_age len fun cdv Ar outer s H vs Q E hr h => ⟨t_os_age K A sp_is_person sp_age_of, by
    exact (pss_cons (ps_set (i := 2) sc_os_age.nd rfl (Or.inl rfl) (pe_ix ix_list (pv 1) pe_int (fun _ _ => rfl)))
    (pss_cons (ps_if (pt_not (pt_val (pe_meth (pv 0) T.cl_Roll T.m_is_person G_is_person hr T.b_is_person .nil pass0 (pa_cons (pv 2) pa_nil))))
      (pss_one (ps_ret (pe_lst (pa_cons (pe_glob rfl T.g_NOT_THERE ⟨_, rfl⟩) pa_nil))))
      pss_nil)
    (pss_one (ps_ret (pe_lst (pa_cons (pe_meth (pv 0) T.cl_Roll T.m_age_of G_age_of hr T.b_age_of .nil pass0 (pa_cons (pv 2) pa_nil)) pa_nil)))))), pure vs H Q E h⟩

/-! os_whose: level 2 -/
theorem sc_os_whose : FnScope ["roll", "numbers", "person", "joined"] ["roll", "numbers"] (defScope s_os_whose) := ⟨rfl, rfl, rfl, by decide +kernel, rfl, by decide +kernel, by decide +kernel⟩
def t_os_whose (K : PySem.W.Frag) (A : Adr) (sp_is_person sp_is_in_a_set sp_name_of : Sp) : TS :=
  (tSeq (tAsg (tOp (rIxL K) (tVar 1) (tC (.int 0))) (gName 2))
    (tSeq (tIfS (tNot (tB (tMeth A.C_Roll "is_person" sp_is_person [] E0 (tVar 0) (tCons (tVar 2) tNil))))
      (tRet (tLst (tCons (tC (.int (-2))) tNil)))
      tNext)
    (tSeq (tIfS (tNot (tB (tMeth A.C_Roll "is_in_a_set" sp_is_in_a_set [] E0 (tVar 0) (tCons (tVar 2) tNil))))
      (tRet (tLst (tCons (tC (.int (-33))) tNil)))
      tNext)
    (tSeq (tAsg (tOp (rIxL K) (tFld K (tVar 0) "set_of") (tVar 2)) (gName 3))
    (tRet (tLst (tCons (tVar 3) (tCons (tMeth A.C_Roll "name_of" sp_name_of [] E0 (tVar 0) (tCons (tVar 3) tNil)) tNil))))))))
theorem ok_os_whose {P : Program} {w : World} {K : PySem.W.Frag} {mg : Str → Option Value} {base : Heap} {A : Adr} {sp sp_is_person sp_is_in_a_set sp_name_of : Sp} (T : Txt K mg A) (G_is_person : FnOk P w K mg base CX0 1 A.f_is_person A.fd_is_person ["self", "person"] sp_is_person) (G_is_in_a_set : FnOk P w K mg base CX0 1 A.f_is_in_a_set A.fd_is_in_a_set ["self", "person"] sp_is_in_a_set) (G_name_of : FnOk P w K mg base CX0 1 A.f_name_of A.fd_name_of ["self", "number"] sp_name_of)
    (len : ∀ vs H Q E, sp vs H Q E → vs.length = 2) (pure : ∀ vs H Q E, sp vs H Q E → t_os_whose K A sp_is_person sp_is_in_a_set sp_name_of { nx := fun _ H' => Q .non H', rt := Q } (start ["roll", "numbers", "person", "joined"] vs) H) :
    FnOk P w K mg base CX0 2 A.f_os_whose A.fd_os_whose ["roll", "numbers"] sp :=
  T.F_os_whose.ok sc_os_whose len fun cdv Ar outer s H vs Q E hr h => ⟨t_os_whose K A sp_is_person sp_is_in_a_set sp_name_of, by
    exact (pss_cons (ps_set (i := 2) sc_os_whose.nd rfl (Or.inl rfl) (pe_ix ix_list (pv 1) pe_int (fun _ _ => rfl)))
    (pss_cons (ps_if (pt_not (pt_val (pe_meth (pv 0) T.cl_Roll T.m_is_person G_is_person hr T.b_is_person .nil pass0 (pa_cons (pv 2) pa_nil))))
      (pss_one (ps_ret (pe_lst (pa_cons (pe_glob rfl T.g_NOT_THERE ⟨_, rfl⟩) pa_nil))))
      pss_nil)
    (pss_cons (ps_if (pt_not (pt_val (pe_meth (pv 0) T.cl_Roll T.m_is_in_a_set G_is_in_a_set hr T.b_is_in_a_set .nil pass0 (pa_cons (pv 2) pa_nil))))
      (pss_one (ps_ret (pe_lst (pa_cons (pe_glob rfl T.g_IN_NO_SET ⟨_, rfl⟩) pa_nil))))
      pss_nil)
    (pss_cons (ps_set (i := 3) sc_os_whose.nd rfl (Or.inl rfl) (pe_ix ix_list (pe_fld (pv 0) rfl) (pv 2) (fun _ _ => rfl)))
    (pss_one (ps_ret (pe_lst (pa_cons (pv 3) (pa_cons (pe_meth (pv 0) T.cl_Roll T.m_name_of G_name_of hr T.b_name_of .nil pass0 (pa_cons (pv 3) pa_nil)) pa_nil))))))))), pure vs H Q E h⟩

/-! os_members: level 2 -/
theorem sc_os_members : FnScope ["roll", "numbers", "number"] ["roll", "numbers"] (defScope s_os_members) := ⟨rfl, rfl, rfl, by decide +kernel, rfl, by decide +kernel, by decide +kernel⟩
def t_os_members (K : PySem.W.Frag) (A : Adr) (sp_is_set sp_are_in sp_as_a_set : Sp) : TS :=
  (tSeq (tAsg (tOp (rIxL K) (tVar 1) (tC (.int 0))) (gName 2))
    (tSeq (tIfS (tNot (tB (tMeth A.C_Roll "is_set" sp_is_set [] E0 (tVar 0) (tCons (tVar 2) tNil))))
      (tRet (tLst (tCons (tC (.int (-2))) tNil)))
      tNext)
    (tRet (tCall sp_as_a_set [] E0 (tCons (tMeth A.C_Roll "are_in" sp_are_in [] E0 (tVar 0) (tCons (tVar 2) tNil)) tNil)))))
theorem ok_os_members {P : Program} {w : World} {K : PySem.W.Frag} {mg : Str → Option Value} {base : Heap} {A : Adr} {sp sp_is_set sp_are_in sp_as_a_set : Sp} (T : Txt K mg A) (G_is_set : FnOk P w K mg base CX0 1 A.f_is_set A.fd_is_set ["self", "number"] sp_is_set) (G_are_in : FnOk P w K mg base CX0 1 A.f_are_in A.fd_are_in ["self", "number"] sp_are_in) (G_as_a_set : FnOk P w K mg base CX0 1 A.f_as_a_set A.fd_as_a_set ["chosen"] sp_as_a_set)
    (len : ∀ vs H Q E, sp vs H Q E → vs.length = 2) (pure : ∀ vs H Q E, sp vs H Q E → t_os_members K A sp_is_set sp_are_in sp_as_a_set { nx := fun _ H' => Q .non H', rt := Q } (start ["roll", "numbers", "number"] vs) H) :
    FnOk P w K mg base CX0 2 A.f_os_members A.fd_os_members ["roll", "numbers"] sp :=
  T.F_os_members.ok sc_os_members len fun cdv Ar outer s H vs Q E hr h => ⟨t_os_members K A sp_is_set sp_are_in sp_as_a_set, by
    exact (pss_cons (ps_set (i := 2) sc_os_members.nd rfl (Or.inl rfl) (pe_ix ix_list (pv 1) pe_int (fun _ _ => rfl)))
    (pss_cons (ps_if (pt_not (pt_val (pe_meth (pv 0) T.cl_Roll T.m_is_set G_is_set hr T.b_is_set .nil pass0 (pa_cons (pv 2) pa_nil))))
      (pss_one (ps_ret (pe_lst (pa_cons (pe_glob rfl T.g_NOT_THERE ⟨_, rfl⟩) pa_nil))))
      pss_nil)
    (pss_one (ps_ret (pe_call G_as_a_set hr rfl T.g_as_a_set T.F_as_a_set.kp T.b_as_a_set .nil pass0 (pa_cons (pe_meth (pv 0) T.cl_Roll T.m_are_in G_are_in hr T.b_are_in .nil pass0 (pa_cons (pv 2) pa_nil)) pa_nil)))))), pure vs H Q E h⟩

/-! os_name: level 2 -/
theorem sc_os_name : FnScope ["roll", "numbers"] ["roll", "numbers"] (defScope s_os_name) := ⟨rfl, rfl, rfl, by decide +kernel, rfl, by decide +kernel, by decide +kernel⟩
def t_os_name (K : PySem.W.Frag) (A : Adr) (sp_name_of : Sp) : TS :=
  (tRet (tLst (tCons (tMeth A.C_Roll "name_of" sp_name_of [] E0 (tVar 0) (tCons (tOp (rIxL K) (tVar 1) (tC (.int 0))) tNil)) tNil)))
theorem ok_os_name {P : Program} {w : World} {K : PySem.W.Frag} {mg : Str → Option Value} {base : Heap} {A : Adr} {sp sp_name_of : Sp} (T : Txt K mg A) (G_name_of : FnOk P w K mg base CX0 1 A.f_name_of A.fd_name_of ["self", "number"] sp_name_of)
    (len : ∀ vs H Q E, sp vs H Q E → vs.length = 2) (pure : ∀ vs H Q E, sp vs H Q E → t_os_name K A sp_name_of { nx := fun _ H' => Q .non H', rt := Q } (start ["roll", "numbers"] vs) H) :
    FnOk P w K mg base CX0 2 A.f_os_name A.fd_os_name ["roll", "numbers"] sp :=
  T.F_os_name.ok sc_os_name len fun cdv Ar outer s H vs Q E hr h => ⟨t_os_name K A sp_name_of, by
    exact (pss_one (ps_ret (pe_lst (pa_cons (pe_meth (pv 0) T.cl_Roll T.m_name_of G_name_of hr T.b_name_of .nil pass0 (pa_cons (pe_ix ix_list (pv 1) pe_int (fun _ _ => rfl)) pa_nil)) pa_nil)))), pure vs H Q E h⟩

/-! os_alike: level 3 -/
theorem sc_os_alike : FnScope ["roll", "numbers", "number"] ["roll", "numbers"] (defScope s_os_alike) := ⟨rfl, rfl, rfl, by decide +kernel, rfl, by decide +kernel, by decide +kernel⟩
def t_os_alike (K : PySem.W.Frag) (A : Adr) (sp_is_set sp_have_the_name_of sp_as_a_set : Sp) : TS :=
  (tSeq (tAsg (tOp (rIxL K) (tVar 1) (tC (.int 0))) (gName 2))
    (tSeq (tIfS (tNot (tB (tMeth A.C_Roll "is_set" sp_is_set [] E0 (tVar 0) (tCons (tVar 2) tNil))))
      (tRet (tLst (tCons (tC (.int (-2))) tNil)))
      tNext)
    (tRet (tCall sp_as_a_set [] E0 (tCons (tMeth A.C_Roll "have_the_name_of" sp_have_the_name_of [] E0 (tVar 0) (tCons (tVar 2) tNil)) tNil)))))
theorem ok_os_alike {P : Program} {w : World} {K : PySem.W.Frag} {mg : Str → Option Value} {base : Heap} {A : Adr} {sp sp_is_set sp_have_the_name_of sp_as_a_set : Sp} (T : Txt K mg A) (G_is_set : FnOk P w K mg base CX0 1 A.f_is_set A.fd_is_set ["self", "number"] sp_is_set) (G_have_the_name_of : FnOk P w K mg base CX0 2 A.f_have_the_name_of A.fd_have_the_name_of ["self", "number"] sp_have_the_name_of) (G_as_a_set : FnOk P w K mg base CX0 1 A.f_as_a_set A.fd_as_a_set ["chosen"] sp_as_a_set)
    (len : ∀ vs H Q E, sp vs H Q E → vs.length = 2) (pure : ∀ vs H Q E, sp vs H Q E → t_os_alike K A sp_is_set sp_have_the_name_of sp_as_a_set { nx := fun _ H' => Q .non H', rt := Q } (start ["roll", "numbers", "number"] vs) H) :
    FnOk P w K mg base CX0 3 A.f_os_alike A.fd_os_alike ["roll", "numbers"] sp :=
  T.F_os_alike.ok sc_os_alike len fun cdv Ar outer s H vs Q E hr h => ⟨t_os_alike K A sp_is_set sp_have_the_name_of sp_as_a_set, by
    exact (pss_cons (ps_set (i := 2) sc_os_alike.nd rfl (Or.inl rfl) (pe_ix ix_list (pv 1) pe_int (fun _ _ => rfl)))
    (pss_cons (ps_if (pt_not (pt_val (pe_meth (pv 0) T.cl_Roll T.m_is_set G_is_set (hr.mono (by decide)) T.b_is_set .nil pass0 (pa_cons (pv 2) pa_nil))))
      (pss_one (ps_ret (pe_lst (pa_cons (pe_glob rfl T.g_NOT_THERE ⟨_, rfl⟩) pa_nil))))
      pss_nil)
    (pss_one (ps_ret (pe_call G_as_a_set (hr.mono (by decide)) rfl T.g_as_a_set T.F_as_a_set.kp T.b_as_a_set .nil pass0 (pa_cons (pe_meth (pv 0) T.cl_Roll T.m_have_the_name_of G_have_the_name_of hr T.b_have_the_name_of .nil pass0 (pa_cons (pv 2) pa_nil)) pa_nil)))))), pure vs H Q E h⟩

/-! os_may: level 5 -/
theorem sc_os_may : FnScope ["roll", "numbers"] ["roll", "numbers"] (defScope s_os_may) := ⟨rfl, rfl, rfl, by decide +kernel, rfl, by decide +kernel, by decide +kernel⟩
def t_os_may (K : PySem.W.Frag) (A : Adr) (sp_who_may_join sp_as_a_set : Sp) : TS :=
  (tRet (tCall sp_as_a_set [] E0 (tCons (tMeth A.C_Roll "who_may_join" sp_who_may_join [] E0 (tVar 0) tNil) tNil)))
theorem ok_os_may {P : Program} {w : World} {K : PySem.W.Frag} {mg : Str → Option Value} {base : Heap} {A : Adr} {sp sp_who_may_join sp_as_a_set : Sp} (T : Txt K mg A) (G_who_may_join : FnOk P w K mg base CX0 4 A.f_who_may_join A.fd_who_may_join ["self"] sp_who_may_join) (G_as_a_set : FnOk P w K mg base CX0 1 A.f_as_a_set A.fd_as_a_set ["chosen"] sp_as_a_set)
    (len : ∀ vs H Q E, sp vs H Q E → vs.length = 2) (pure : ∀ vs H Q E, sp vs H Q E → t_os_may K A sp_who_may_join sp_as_a_set { nx := fun _ H' => Q .non H', rt := Q } (start ["roll", "numbers"] vs) H) :
    FnOk P w K mg base CX0 5 A.f_os_may A.fd_os_may ["roll", "numbers"] sp :=
  T.F_os_may.ok sc_os_may len fun cdv Ar outer s H vs Q E hr h => ⟨t_os_may K A sp_who_may_join sp_as_a_set, by
    exact (pss_one (ps_ret (pe_call G_as_a_set (hr.mono (by decide)) rfl T.g_as_a_set T.F_as_a_set.kp T.b_as_a_set .nil pass0 (pa_cons (pe_meth0 (pv 0) T.cl_Roll T.m_who_may_join G_who_may_join hr T.b_who_may_join .nil pass0) pa_nil)))), pure vs H Q E h⟩

/-! os_missed: level 4 -/
theorem sc_os_missed : FnScope ["roll", "numbers"] ["roll", "numbers"] (defScope s_os_missed) := ⟨rfl, rfl, rfl, by decide +kernel, rfl, by decide +kernel, by decide +kernel⟩
def t_os_missed (K : PySem.W.Frag) (A : Adr) (sp_who_has_missed sp_as_a_set : Sp) : TS :=
  (tRet (tCall sp_as_a_set [] E0 (tCons (tMeth A.C_Roll "who_has_missed" sp_who_has_missed [] E0 (tVar 0) tNil) tNil)))
theorem ok_os_missed {P : Program} {w : World} {K : PySem.W.Frag} {mg : Str → Option Value} {base : Heap} {A : Adr} {sp sp_who_has_missed sp_as_a_set : Sp} (T : Txt K mg A) (G_who_has_missed : FnOk P w K mg base CX0 3 A.f_who_has_missed A.fd_who_has_missed ["self"] sp_who_has_missed) (G_as_a_set : FnOk P w K mg base CX0 1 A.f_as_a_set A.fd_as_a_set ["chosen"] sp_as_a_set)
    (len : ∀ vs H Q E, sp vs H Q E → vs.length = 2) (pure : ∀ vs H Q E, sp vs H Q E → t_os_missed K A sp_who_has_missed sp_as_a_set { nx := fun _ H' => Q .non H', rt := Q } (start ["roll", "numbers"] vs) H) :
    FnOk P w K mg base CX0 4 A.f_os_missed A.fd_os_missed ["roll", "numbers"] sp :=
  T.F_os_missed.ok sc_os_missed len fun cdv Ar outer s H vs Q E hr h => ⟨t_os_missed K A sp_who_has_missed sp_as_a_set, by
    exact (pss_one (ps_ret (pe_call G_as_a_set (hr.mono (by decide)) rfl T.g_as_a_set T.F_as_a_set.kp T.b_as_a_set .nil pass0 (pa_cons (pe_meth0 (pv 0) T.cl_Roll T.m_who_has_missed G_who_has_missed hr T.b_who_has_missed .nil pass0) pa_nil)))), pure vs H Q E h⟩

/-! os_senior: level 2 -/
theorem sc_os_senior : FnScope ["roll", "numbers", "first", "second"] ["roll", "numbers"] (defScope s_os_senior) := ⟨rfl, rfl, rfl, by decide +kernel, rfl, by decide +kernel, by decide +kernel⟩
def t_os_senior (K : PySem.W.Frag) (A : Adr) (sp_is_person sp_is_in_a_set sp_is_senior : Sp) : TS :=
  (tSeq (tAsg (tOp (rIxL K) (tVar 1) (tC (.int 0))) (gName 2))
    (tSeq (tAsg (tOp (rIxL K) (tVar 1) (tC (.int 1))) (gName 3))
    (tSeq (tIfS (tOr (tNot (tB (tMeth A.C_Roll "is_person" sp_is_person [] E0 (tVar 0) (tCons (tVar 2) tNil)))) (tNot (tB (tMeth A.C_Roll "is_person" sp_is_person [] E0 (tVar 0) (tCons (tVar 3) tNil)))))
      (tRet (tLst (tCons (tC (.int (-2))) tNil)))
      tNext)
    (tSeq (tIfS (tOr (tNot (tB (tMeth A.C_Roll "is_in_a_set" sp_is_in_a_set [] E0 (tVar 0) (tCons (tVar 2) tNil)))) (tNot (tB (tMeth A.C_Roll "is_in_a_set" sp_is_in_a_set [] E0 (tVar 0) (tCons (tVar 3) tNil)))))
      (tRet (tLst (tCons (tC (.int (-33))) tNil)))
      tNext)
    (tSeq (tIfS (tB (tMeth A.C_Roll "is_senior" sp_is_senior [] E0 (tVar 0) (tCons (tVar 2) (tCons (tVar 3) tNil))))
      (tRet (tLst (tCons (tC (.int (1))) tNil)))
      tNext)
    (tSeq (tIfS (tB (tMeth A.C_Roll "is_senior" sp_is_senior [] E0 (tVar 0) (tCons (tVar 3) (tCons (tVar 2) tNil))))
      (tRet (tLst (tCons (tC (.int (2))) tNil)))
      tNext)
    (tRet (tLst (tCons (tC (.int (0))) tNil)))))))))
theorem ok_os_senior {P : Program} {w : World} {K : PySem.W.Frag} {mg : Str → Option Value} {base : Heap} {A : Adr} {sp sp_is_person sp_is_in_a_set sp_is_senior : Sp} (T : Txt K mg A) (G_is_person : FnOk P w K mg base CX0 1 A.f_is_person A.fd_is_person ["self", "person"] sp_is_person) (G_is_in_a_set : FnOk P w K mg base CX0 1 A.f_is_in_a_set A.fd_is_in_a_set ["self", "person"] sp_is_in_a_set) (G_is_senior : FnOk P w K mg base CX0 1 A.f_is_senior A.fd_is_senior ["self", "person", "other"] sp_is_senior)
    (len : ∀ vs H Q E, sp vs H Q E → vs.length = 2) (pure : ∀ vs H Q E, sp vs H Q E → t_os_senior K A sp_is_person sp_is_in_a_set sp_is_senior { nx := fun _ H' => Q .non H', rt := Q } (start ["roll", "numbers", "first", "second"] vs) H) :
    FnOk P w K mg base CX0 2 A.f_os_senior A.fd_os_senior ["roll", "numbers"] sp :=
  T.F_os_senior.ok sc_os_senior len fun cdv Ar outer s H vs Q E hr h => ⟨t_os_senior K A sp_is_person sp_is_in_a_set sp_is_senior, by
    exact (pss_cons (ps_set (i := 2) sc_os_senior.nd rfl (Or.inl rfl) (pe_ix ix_list (pv 1) pe_int (fun _ _ => rfl)))
    (pss_cons (ps_set (i := 3) sc_os_senior.nd rfl (Or.inl rfl) (pe_ix ix_list (pv 1) pe_int (fun _ _ => rfl)))
    (pss_cons (ps_if (PW.pt (pw_or (pt_not (pt_val (pe_meth (pv 0) T.cl_Roll T.m_is_person G_is_person hr T.b_is_person .nil pass0 (pa_cons (pv 2) pa_nil)))) (pw_or1 (pt_not (pt_val (pe_meth (pv 0) T.cl_Roll T.m_is_person G_is_person hr T.b_is_person .nil pass0 (pa_cons (pv 3) pa_nil)))))))
      (pss_one (ps_ret (pe_lst (pa_cons (pe_glob rfl T.g_NOT_THERE ⟨_, rfl⟩) pa_nil))))
      pss_nil)
    (pss_cons (ps_if (PW.pt (pw_or (pt_not (pt_val (pe_meth (pv 0) T.cl_Roll T.m_is_in_a_set G_is_in_a_set hr T.b_is_in_a_set .nil pass0 (pa_cons (pv 2) pa_nil)))) (pw_or1 (pt_not (pt_val (pe_meth (pv 0) T.cl_Roll T.m_is_in_a_set G_is_in_a_set hr T.b_is_in_a_set .nil pass0 (pa_cons (pv 3) pa_nil)))))))
      (pss_one (ps_ret (pe_lst (pa_cons (pe_glob rfl T.g_IN_NO_SET ⟨_, rfl⟩) pa_nil))))
      pss_nil)
    (pss_cons (ps_if (pt_val (pe_meth (pv 0) T.cl_Roll T.m_is_senior G_is_senior hr T.b_is_senior .nil pass0 (pa_cons (pv 2) (pa_cons (pv 3) pa_nil))))
      (pss_one (ps_ret (pe_lst (pa_cons (pe_glob rfl T.g_FIRST_IS_SENIOR ⟨_, rfl⟩) pa_nil))))
      pss_nil)
    (pss_cons (ps_if (pt_val (pe_meth (pv 0) T.cl_Roll T.m_is_senior G_is_senior hr T.b_is_senior .nil pass0 (pa_cons (pv 3) (pa_cons (pv 2) pa_nil))))
      (pss_one (ps_ret (pe_lst (pa_cons (pe_glob rfl T.g_SECOND_IS_SENIOR ⟨_, rfl⟩) pa_nil))))
      pss_nil)
    (pss_one (ps_ret (pe_lst (pa_cons (pe_glob rfl T.g_NEITHER_IS_SENIOR ⟨_, rfl⟩) pa_nil)))))))))), pure vs H Q E h⟩

/-! os_turned: level 6 -/
theorem sc_os_turned : FnScope ["roll", "numbers", "apart"] ["roll", "numbers"] (defScope s_os_turned) := ⟨rfl, rfl, rfl, by decide +kernel, rfl, by decide +kernel, by decide +kernel⟩
def t_os_turned (K : PySem.W.Frag) (A : Adr) (sp_turned_apart : Sp) : TS :=
  (tSeq (tAsg (tMeth A.C_Roll "turned_apart" sp_turned_apart [] E0 (tVar 0) tNil) (gName 2))
    (tRet (tLst (tCons (tCB (Evl.rLenS K) (tCons (tVar 2) tNil)) (tCons (tCKw (rMaxDef K) (tCons (tVar 2) tNil) (tCons (tC (.int 0)) tNil)) tNil)))))
theorem ok_os_turned {P : Program} {w : World} {K : PySem.W.Frag} {mg : Str → Option Value} {base : Heap} {A : Adr} {sp sp_turned_apart : Sp} (T : Txt K mg A) (G_turned_apart : FnOk P w K mg base CX0 5 A.f_turned_apart A.fd_turned_apart ["self"] sp_turned_apart)
    (len : ∀ vs H Q E, sp vs H Q E → vs.length = 2) (pure : ∀ vs H Q E, sp vs H Q E → t_os_turned K A sp_turned_apart { nx := fun _ H' => Q .non H', rt := Q } (start ["roll", "numbers", "apart"] vs) H) :
    FnOk P w K mg base CX0 6 A.f_os_turned A.fd_os_turned ["roll", "numbers"] sp :=
  T.F_os_turned.ok sc_os_turned len fun cdv Ar outer s H vs Q E hr h => ⟨t_os_turned K A sp_turned_apart, by
    exact (pss_cons (ps_set (i := 2) sc_os_turned.nd rfl (Or.inl rfl) (pe_meth0 (pv 0) T.cl_Roll T.m_turned_apart G_turned_apart hr T.b_turned_apart .nil pass0))
    (pss_one (ps_ret (pe_lst (pa_cons (pe_callB call_len_seq rfl T.n_len PySem.boot_len (pa_cons (pv 2) pa_nil)) (pa_cons (pe_callBK (cr_maxDef rfl hr) rfl T.n_max (by decide +kernel) (pa_cons (pv 2) pa_nil) (pk_cons pe_int pk_nil)) pa_nil)))))), pure vs H Q E h⟩

/-! os_rank: level 5 -/
theorem sc_os_rank : FnScope ["roll", "numbers", "ranked"] ["roll", "numbers"] (defScope s_os_rank) := ⟨rfl, rfl, rfl, by decide +kernel, rfl, by decide +kernel, by decide +kernel⟩
def t_os_rank (K : PySem.W.Frag) (A : Adr) (sp_ranked : Sp) : TS :=
  (tSeq (tAsg (tMeth A.C_Roll "ranked" sp_ranked [] E0 (tVar 0) tNil) (gName 2))
    (tRet (tOp rCat (tOp rCat (tLst (tCons (tCB (Evl.rLenS K) (tCons (tVar 2) tNil)) tNil)) (tVar 2)) (tOp rRep (tLst (tCons (tC (.int 0)) tNil)) (tOp rMinus (tC (.int (20))) (tCB (Evl.rLenS K) (tCons (tVar 2) tNil)))))))
theorem ok_os_rank {P : Program} {w : World} {K : PySem.W.Frag} {mg : Str → Option Value} {base : Heap} {A : Adr} {sp sp_ranked : Sp} (T : Txt K mg A) (G_ranked : FnOk P w K mg base CX0 4 A.f_ranked A.fd_ranked ["self"] sp_ranked)
    (len : ∀ vs H Q E, sp vs H Q E → vs.length = 2) (pure : ∀ vs H Q E, sp vs H Q E → t_os_rank K A sp_ranked { nx := fun _ H' => Q .non H', rt := Q } (start ["roll", "numbers", "ranked"] vs) H) :
    FnOk P w K mg base CX0 5 A.f_os_rank A.fd_os_rank ["roll", "numbers"] sp :=
  T.F_os_rank.ok sc_os_rank len fun cdv Ar outer s H vs Q E hr h => ⟨t_os_rank K A sp_ranked, by
    exact (pss_cons (ps_set (i := 2) sc_os_rank.nd rfl (Or.inl rfl) (pe_meth0 (pv 0) T.cl_Roll T.m_ranked G_ranked hr T.b_ranked .nil pass0))
    (pss_one (ps_ret (pe_op op_cat (pe_op op_cat (pe_lst (pa_cons (pe_callB call_len_seq rfl T.n_len PySem.boot_len (pa_cons (pv 2) pa_nil)) pa_nil)) (pv 2)) (pe_op op_rep (pe_lst (pa_cons pe_int pa_nil)) (pe_op op_sub (pe_glob rfl T.g_MOST_PEOPLE ⟨_, rfl⟩) (pe_callB call_len_seq rfl T.n_len PySem.boot_len (pa_cons (pv 2) pa_nil)))))))), pure vs H Q E h⟩

/-! os_span: level 3 -/
theorem sc_os_span : FnScope ["roll", "numbers", "number", "born", "first", "last"] ["roll", "numbers"] (defScope s_os_span) := ⟨rfl, rfl, rfl, by decide +kernel, rfl, by decide +kernel, by decide +kernel⟩
def t_os_span (K : PySem.W.Frag) (A : Adr) (sp_is_set sp_birth_years_in : Sp) : TS :=
  (tSeq (tAsg (tOp (rIxL K) (tVar 1) (tC (.int 0))) (gName 2))
    (tSeq (tIfS (tNot (tB (tMeth A.C_Roll "is_set" sp_is_set [] E0 (tVar 0) (tCons (tVar 2) tNil))))
      (tRet (tLst (tCons (tC (.int (-2))) tNil)))
      tNext)
    (tSeq (tAsg (tMeth A.C_Roll "birth_years_in" sp_birth_years_in [] E0 (tVar 0) (tCons (tVar 2) tNil)) (gName 3))
    (tSeq (tIfS (tTest (tOp rEq (tCB (Evl.rLenS K) (tCons (tVar 3) tNil)) (tC (.int 0))))
      (tRet (tLst (tCons (tC (.int (-33))) tNil)))
      tNext)
    (tSeq (tAsg (tCB (rMin K) (tCons (tVar 3) tNil)) (gName 4))
    (tSeq (tAsg (tCB (rMax K) (tCons (tVar 3) tNil)) (gName 5))
    (tRet (tLst (tCons (tOp rMinus (tVar 5) (tVar 4)) (tCons (tVar 4) (tCons (tVar 5) tNil)))))))))))
theorem ok_os_span {P : Program} {w : World} {K : PySem.W.Frag} {mg : Str → Option Value} {base : Heap} {A : Adr} {sp sp_is_set sp_birth_years_in : Sp} (T : Txt K mg A) (G_is_set : FnOk P w K mg base CX0 1 A.f_is_set A.fd_is_set ["self", "number"] sp_is_set) (G_birth_years_in : FnOk P w K mg base CX0 2 A.f_birth_years_in A.fd_birth_years_in ["self", "number"] sp_birth_years_in)
    (len : ∀ vs H Q E, sp vs H Q E → vs.length = 2) (pure : ∀ vs H Q E, sp vs H Q E → t_os_span K A sp_is_set sp_birth_years_in { nx := fun _ H' => Q .non H', rt := Q } (start ["roll", "numbers", "number", "born", "first", "last"] vs) H) :
    FnOk P w K mg base CX0 3 A.f_os_span A.fd_os_span ["roll", "numbers"] sp :=
  T.F_os_span.ok sc_os_span len fun cdv Ar outer s H vs Q E hr h => ⟨t_os_span K A sp_is_set sp_birth_years_in, by
    exact (pss_cons (ps_set (i := 2) sc_os_span.nd rfl (Or.inl rfl) (pe_ix ix_list (pv 1) pe_int (fun _ _ => rfl)))
    (pss_cons (ps_if (pt_not (pt_val (pe_meth (pv 0) T.cl_Roll T.m_is_set G_is_set (hr.mono (by decide)) T.b_is_set .nil pass0 (pa_cons (pv 2) pa_nil))))
      (pss_one (ps_ret (pe_lst (pa_cons (pe_glob rfl T.g_NOT_THERE ⟨_, rfl⟩) pa_nil))))
      pss_nil)
    (pss_cons (ps_set (i := 3) sc_os_span.nd rfl (Or.inl rfl) (pe_meth (pv 0) T.cl_Roll T.m_birth_years_in G_birth_years_in hr T.b_birth_years_in .nil pass0 (pa_cons (pv 2) pa_nil)))
    (pss_cons (ps_if (pt_cmpR op_eq (pe_callB call_len_seq rfl T.n_len PySem.boot_len (pa_cons (pv 3) pa_nil)) pe_int (nomark _))
      (pss_one (ps_ret (pe_lst (pa_cons (pe_glob rfl T.g_NOBODY_IN_IT ⟨_, rfl⟩) pa_nil))))
      pss_nil)
    (pss_cons (ps_set (i := 4) sc_os_span.nd rfl (Or.inl rfl) (pe_callB (cr_min rfl) rfl T.n_min (by decide +kernel) (pa_cons (pv 3) pa_nil)))
    (pss_cons (ps_set (i := 5) sc_os_span.nd rfl (Or.inl rfl) (pe_callB (cr_max rfl) rfl T.n_max (by decide +kernel) (pa_cons (pv 3) pa_nil)))
    (pss_one (ps_ret (pe_lst (pa_cons (pe_op op_sub (pv 5) (pv 4)) (pa_cons (pv 4) (pa_cons (pv 5) pa_nil)))))))))))), pure vs H Q E h⟩

/-! os_when: level 2 -/
theorem sc_os_when : FnScope ["roll", "numbers", "person"] ["roll", "numbers"] (defScope s_os_when) := ⟨rfl, rfl, rfl, by decide +kernel, rfl, by decide +kernel, by decide +kernel⟩
def t_os_when (K : PySem.W.Frag) (A : Adr) (sp_is_person sp_is_in_a_set sp_age_at_joining : Sp) : TS :=
  (tSeq (tAsg (tOp (rIxL K) (tVar 1) (tC (.int 0))) (gName 2))
    (tSeq (tIfS (tNot (tB (tMeth A.C_Roll "is_person" sp_is_person [] E0 (tVar 0) (tCons (tVar 2) tNil))))
      (tRet (tLst (tCons (tC (.int (-2))) tNil)))
      tNext)
    (tSeq (tIfS (tNot (tB (tMeth A.C_Roll "is_in_a_set" sp_is_in_a_set [] E0 (tVar 0) (tCons (tVar 2) tNil))))
      (tRet (tLst (tCons (tC (.int (-33))) tNil)))
      tNext)
    (tRet (tLst (tCons (tDGet (tFld K (tVar 0) "join_years") (tVar 2)) (tCons (tMeth A.C_Roll "age_at_joining" sp_age_at_joining [] E0 (tVar 0) (tCons (tVar 2) tNil)) tNil)))))))
theorem ok_os_when {P : Program} {w : World} {K : PySem.W.Frag} {mg : Str → Option Value} {base : Heap} {A : Adr} {sp sp_is_person sp_is_in_a_set sp_age_at_joining : Sp} (T : Txt K mg A) (G_is_person : FnOk P w K mg base CX0 1 A.f_is_person A.fd_is_person ["self", "person"] sp_is_person) (G_is_in_a_set : FnOk P w K mg base CX0 1 A.f_is_in_a_set A.fd_is_in_a_set ["self", "person"] sp_is_in_a_set) (G_age_at_joining : FnOk P w K mg base CX0 1 A.f_age_at_joining A.fd_age_at_joining ["self", "person"] sp_age_at_joining)
    (len : ∀ vs H Q E, sp vs H Q E → vs.length = 2) (pure : ∀ vs H Q E, sp vs H Q E → t_os_when K A sp_is_person sp_is_in_a_set sp_age_at_joining { nx := fun _ H' => Q .non H', rt := Q } (start ["roll", "numbers", "person"] vs) H) :
    FnOk P w K mg base CX0 2 A.f_os_when A.fd_os_when ["roll", "numbers"] sp :=
  T.F_os_when.ok sc_os_when len fun cdv Ar outer s H vs Q E hr h => ⟨t_os_when K A sp_is_person sp_is_in_a_set sp_age_at_joining, by
    exact (pss_cons (ps_set (i := 2) sc_os_when.nd rfl (Or.inl rfl) (pe_ix ix_list (pv 1) pe_int (fun _ _ => rfl)))
    (pss_cons (ps_if (pt_not (pt_val (pe_meth (pv 0) T.cl_Roll T.m_is_person G_is_person hr T.b_is_person .nil pass0 (pa_cons (pv 2) pa_nil))))
      (pss_one (ps_ret (pe_lst (pa_cons (pe_glob rfl T.g_NOT_THERE ⟨_, rfl⟩) pa_nil))))
      pss_nil)
    (pss_cons (ps_if (pt_not (pt_val (pe_meth (pv 0) T.cl_Roll T.m_is_in_a_set G_is_in_a_set hr T.b_is_in_a_set .nil pass0 (pa_cons (pv 2) pa_nil))))
      (pss_one (ps_ret (pe_lst (pa_cons (pe_glob rfl T.g_IN_NO_SET ⟨_, rfl⟩) pa_nil))))
      pss_nil)
    (pss_one (ps_ret (pe_lst (pa_cons (pe_dget (hu1 hr) (pe_fld (pv 0) rfl) (pv 2) (fun _ _ => rfl)) (pa_cons (pe_meth (pv 0) T.cl_Roll T.m_age_at_joining G_age_at_joining hr T.b_age_at_joining .nil pass0 (pa_cons (pv 2) pa_nil)) pa_nil)))))))), pure vs H Q E h⟩

/-! os_back: level 3 -/
theorem sc_os_back : FnScope ["roll", "numbers"] ["roll", "numbers"] (defScope s_os_back) := ⟨rfl, rfl, rfl, by decide +kernel, rfl, by decide +kernel, by decide +kernel⟩
def t_os_back (K : PySem.W.Frag) (A : Adr) (sp_take_back : Sp) : TS :=
  (tSeq (tIfS (tTest (tOp rEq (tCB (Evl.rLenS K) (tCons (tFld K (tVar 0) "stood_ahead") tNil)) (tC (.int 0))))
      (tRet (tLst (tCons (tC (.int (-2))) tNil)))
      tNext)
    (tSeq (tDrop (tMeth A.C_Roll "take_back" sp_take_back [] E0 (tVar 0) tNil))
    (tRet (tLst (tCons (tCB (Evl.rLenS K) (tCons (tFld K (tVar 0) "stood_ahead") tNil)) tNil)))))
theorem ok_os_back {P : Program} {w : World} {K : PySem.W.Frag} {mg : Str → Option Value} {base : Heap} {A : Adr} {sp sp_take_back : Sp} (T : Txt K mg A) (G_take_back : FnOk P w K mg base CX0 2 A.f_take_back A.fd_take_back ["self"] sp_take_back)
    (len : ∀ vs H Q E, sp vs H Q E → vs.length = 2) (pure : ∀ vs H Q E, sp vs H Q E → t_os_back K A sp_take_back { nx := fun _ H' => Q .non H', rt := Q } (start ["roll", "numbers"] vs) H) :
    FnOk P w K mg base CX0 3 A.f_os_back A.fd_os_back ["roll", "numbers"] sp :=
  T.F_os_back.ok sc_os_back len fun cdv Ar outer s H vs Q E hr h => ⟨t_os_back K A sp_take_back, by
    exact (pss_cons (ps_if (pt_cmpR op_eq (pe_callB call_len_seq rfl T.n_len PySem.boot_len (pa_cons (pe_fld (pv 0) rfl) pa_nil)) pe_int (nomark _))
      (pss_one (ps_ret (pe_lst (pa_cons (pe_glob rfl T.g_NOT_THERE ⟨_, rfl⟩) pa_nil))))
      pss_nil)
    (pss_cons (ps_expr (pe_meth0 (pv 0) T.cl_Roll T.m_take_back G_take_back hr T.b_take_back .nil pass0))
    (pss_one (ps_ret (pe_lst (pa_cons (pe_callB call_len_seq rfl T.n_len PySem.boot_len (pa_cons (pe_fld (pv 0) rfl) pa_nil)) pa_nil)))))), pure vs H Q E h⟩

/-! os_again: level 3 -/
theorem sc_os_again : FnScope ["roll", "numbers"] ["roll", "numbers"] (defScope s_os_again) := ⟨rfl, rfl, rfl, by decide +kernel, rfl, by decide +kernel, by decide +kernel⟩
def t_os_again (K : PySem.W.Frag) (A : Adr) (sp_do_again : Sp) : TS :=
  (tSeq (tIfS (tTest (tOp rEq (tCB (Evl.rLenS K) (tCons (tFld K (tVar 0) "stood_behind") tNil)) (tC (.int 0))))
      (tRet (tLst (tCons (tC (.int (-2))) tNil)))
      tNext)
    (tSeq (tDrop (tMeth A.C_Roll "do_again" sp_do_again [] E0 (tVar 0) tNil))
    (tRet (tLst (tCons (tCB (Evl.rLenS K) (tCons (tFld K (tVar 0) "stood_behind") tNil)) tNil)))))
theorem ok_os_again {P : Program} {w : World} {K : PySem.W.Frag} {mg : Str → Option Value} {base : Heap} {A : Adr} {sp sp_do_again : Sp} (T : Txt K mg A) (G_do_again : FnOk P w K mg base CX0 2 A.f_do_again A.fd_do_again ["self"] sp_do_again)
    (len : ∀ vs H Q E, sp vs H Q E → vs.length = 2) (pure : ∀ vs H Q E, sp vs H Q E → t_os_again K A sp_do_again { nx := fun _ H' => Q .non H', rt := Q } (start ["roll", "numbers"] vs) H) :
    FnOk P w K mg base CX0 3 A.f_os_again A.fd_os_again ["roll", "numbers"] sp :=
  T.F_os_again.ok sc_os_again len fun cdv Ar outer s H vs Q E hr h => ⟨t_os_again K A sp_do_again, by
    exact (pss_cons (ps_if (pt_cmpR op_eq (pe_callB call_len_seq rfl T.n_len PySem.boot_len (pa_cons (pe_fld (pv 0) rfl) pa_nil)) pe_int (nomark _))
      (pss_one (ps_ret (pe_lst (pa_cons (pe_glob rfl T.g_NOT_THERE ⟨_, rfl⟩) pa_nil))))
      pss_nil)
    (pss_cons (ps_expr (pe_meth0 (pv 0) T.cl_Roll T.m_do_again G_do_again hr T.b_do_again .nil pass0))
    (pss_one (ps_ret (pe_lst (pa_cons (pe_callB call_len_seq rfl T.n_len PySem.boot_len (pa_cons (pe_fld (pv 0) rfl) pa_nil)) pa_nil)))))), pure vs H Q E h⟩

/-! os_state: level 2 -/
theorem sc_os_state : FnScope ["roll", "numbers", "one_more"] ["roll", "numbers"] (defScope s_os_state) := ⟨rfl, rfl, rfl, by decide +kernel, rfl, by decide +kernel, by decide +kernel⟩
def t_os_state (K : PySem.W.Frag) (A : Adr) (sp_last_set : Sp) : TS :=
  (tSeq (tAsg (tIf (tB (tFld K (tVar 0) "one_is_open")) (tOp rPlus (tMeth A.C_Roll "last_set" sp_last_set [] E0 (tVar 0) tNil) (tC (.int 1))) (tC (.int 0))) (gName 2))
    (tRet (tLst (tCons (tFld K (tVar 0) "year") (tCons (tCB (Evl.rLenS K) (tCons (tFld K (tVar 0) "birth_years") tNil)) (tCons (tFld K (tVar 0) "set_count") (tCons (tVar 2) (tCons (tCB (Evl.rLenS K) (tCons (tFld K (tVar 0) "stood_ahead") tNil)) (tCons (tCB (Evl.rLenS K) (tCons (tFld K (tVar 0) "stood_behind") tNil)) tNil)))))))))
theorem ok_os_state {P : Program} {w : World} {K : PySem.W.Frag} {mg : Str → Option Value} {base : Heap} {A : Adr} {sp sp_last_set : Sp} (T : Txt K mg A) (G_last_set : FnOk P w K mg base CX0 1 A.f_last_set A.fd_last_set ["self"] sp_last_set)
    (len : ∀ vs H Q E, sp vs H Q E → vs.length = 2) (pure : ∀ vs H Q E, sp vs H Q E → t_os_state K A sp_last_set { nx := fun _ H' => Q .non H', rt := Q } (start ["roll", "numbers", "one_more"] vs) H) :
    FnOk P w K mg base CX0 2 A.f_os_state A.fd_os_state ["roll", "numbers"] sp :=
  T.F_os_state.ok sc_os_state len fun cdv Ar outer s H vs Q E hr h => ⟨t_os_state K A sp_last_set, by
    exact (pss_cons (ps_set (i := 2) sc_os_state.nd rfl (Or.inl rfl) (pe_ifExp (pt_val (pe_fld (pv 0) rfl)) (pe_op op_add (pe_meth0 (pv 0) T.cl_Roll T.m_last_set G_last_set hr T.b_last_set .nil pass0) pe_int) pe_int))
    (pss_one (ps_ret (pe_lst (pa_cons (pe_fld (pv 0) rfl) (pa_cons (pe_callB call_len_seq rfl T.n_len PySem.boot_len (pa_cons (pe_fld (pv 0) rfl) pa_nil)) (pa_cons (pe_fld (pv 0) rfl) (pa_cons (pv 2) (pa_cons (pe_callB call_len_seq rfl T.n_len PySem.boot_len (pa_cons (pe_fld (pv 0) rfl) pa_nil)) (pa_cons (pe_callB call_len_seq rfl T.n_len PySem.boot_len (pa_cons (pe_fld (pv 0) rfl) pa_nil)) pa_nil)))))))))), pure vs H Q E h⟩

/-! answer_to: level 7 -/
theorem sc_answer_to : FnScope ["roll", "call", "numbers", "stood", "answer"] ["roll", "call", "numbers"] (defScope s_answer_to) := ⟨rfl, rfl, rfl, by decide +kernel, rfl, by decide +kernel, by decide +kernel⟩
def t_answer_to (K : PySem.W.Frag) (A : Adr) (sp_standing sp_note_change : Sp) (S : Addr → Sp → Prop) : TS :=
  (tSeq (tIfS (tNot (tB (tOp (rIxT K) (tVar 1) (tC (.int 2)))))
      (tRet (tCallE S (tOp (rIxT K) (tVar 1) (tC (.int 0))) (tCons (tVar 0) (tCons (tVar 2) tNil))))
      tNext)
    (tSeq (tAsg (tMeth A.C_Roll "standing" sp_standing [] E0 (tVar 0) tNil) (gName 3))
    (tSeq (tAsg (tCallE S (tOp (rIxT K) (tVar 1) (tC (.int 0))) (tCons (tVar 0) (tCons (tVar 2) tNil))) (gName 4))
    (tSeq (tIfS (tTest (tOp rGe (tOp (rIxL K) (tVar 4) (tC (.int 0))) (tC (.int 0))))
      (tDrop (tMeth A.C_Roll "note_change" sp_note_change [] E0 (tVar 0) (tCons (tVar 3) tNil)))
      tNext)
    (tRet (tVar 4))))))
theorem ok_answer_to {P : Program} {w : World} {K : PySem.W.Frag} {mg : Str → Option Value} {base : Heap} {A : Adr} {sp sp_standing sp_note_change : Sp} {S : Addr → Sp → Prop} (T : Txt K mg A) (G_standing : FnOk P w K mg base CX0 1 A.f_standing A.fd_standing ["self"] sp_standing) (G_note_change : FnOk P w K mg base CX0 1 A.f_note_change A.fd_note_change ["self", "stood"] sp_note_change) (S_held : ∀ f sp, S f sp → Held P w K mg base 6 f sp)
    (len : ∀ vs H Q E, sp vs H Q E → vs.length = 3) (pure : ∀ vs H Q E, sp vs H Q E → t_answer_to K A sp_standing sp_note_change S { nx := fun _ H' => Q .non H', rt := Q } (start ["roll", "call", "numbers", "stood", "answer"] vs) H) :
    FnOk P w K mg base CX0 7 A.f_answer_to A.fd_answer_to ["roll", "call", "numbers"] sp :=
  T.F_answer_to.ok sc_answer_to len fun cdv Ar outer s H vs Q E hr h => ⟨t_answer_to K A sp_standing sp_note_change S, by
    exact (pss_cons (ps_if (pt_not (pt_val (pe_ix ix_tup (pv 1) pe_int (fun _ _ => rfl))))
      (pss_one (ps_ret (pe_callE (pe_ix ix_tup (pv 1) pe_int (fun _ _ => rfl)) S_held hr (pa_cons (pv 0) (pa_cons (pv 2) pa_nil)))))
      pss_nil)
    (pss_cons (ps_set (i := 3) sc_answer_to.nd rfl (Or.inl rfl) (pe_meth0 (pv 0) T.cl_Roll T.m_standing G_standing (hr.mono (by decide)) T.b_standing .nil pass0))
    (pss_cons (ps_set (i := 4) sc_answer_to.nd rfl (Or.inl rfl) (pe_callE (pe_ix ix_tup (pv 1) pe_int (fun _ _ => rfl)) S_held hr (pa_cons (pv 0) (pa_cons (pv 2) pa_nil))))
    (pss_cons (ps_if (pt_cmpR op_ge (pe_ix ix_list (pv 4) pe_int (fun _ _ => rfl)) pe_int (nomark _))
      (pss_one (ps_expr (pe_meth (pv 0) T.cl_Roll T.m_note_change G_note_change (hr.mono (by decide)) T.b_note_change .nil pass0 (pa_cons (pv 3) pa_nil))))
      pss_nil)
    (pss_one (ps_ret (pv 4))))))), pure vs H Q E h⟩

/-! answers: level 8 -/
theorem sc_answers : FnScope ["calls", "roll", "told", "at", "call", "behind", "answer"] ["calls"] (defScope s_answers) := ⟨rfl, rfl, rfl, by decide +kernel, rfl, by decide +kernel, by decide +kernel⟩
def t_answers (K : PySem.W.Frag) (A : Adr) (sp_Roll_init sp_answer_to : Sp) : TS :=
  (tSeq (tAsg (tMake A.C_Roll sp_Roll_init [] E0 tNil) (gName 1))
    (tSeq (tAsg (tLst tNil) (gName 2))
    (tSeq (tAsg (tC (.int 0)) (gName 3))
    (tSeq (tWhile (tTest (tOp rLess (tVar 3) (tCB (Evl.rLenS K) (tCons (tVar 0) tNil))))
      (tSeq (tAsg (tOp (rIxT K) (tC (.ref A.a_CALLS)) (tOp (rIxL K) (tVar 0) (tVar 3))) (gName 4))
      (tSeq (tAsg (tOp rPlus (tOp rPlus (tVar 3) (tC (.int 1))) (tOp (rIxT K) (tVar 4) (tC (.int 1)))) (gName 5))
      (tSeq (tAsg (tCall sp_answer_to [] E0 (tCons (tVar 1) (tCons (tVar 4) (tCons (tSl (rSlL K) (tVar 0) (tPart (tOp rPlus (tVar 3) (tC (.int 1)))) (tPart (tVar 5))) tNil)))) (gName 6))
      (tSeq (tDrop (tBM K "list" rAppend (tVar 2) (tCons (tCB (Evl.rLenS K) (tCons (tVar 6) tNil)) tNil)))
      (tSeq (tDrop (tBM K "list" rExtend (tVar 2) (tCons (tVar 6) tNil)))
      (tAsg (tVar 5) (gName 3))))))))
    (tRet (tVar 2))))))
theorem ok_answers {P : Program} {w : World} {K : PySem.W.Frag} {mg : Str → Option Value} {base : Heap} {A : Adr} {sp sp_Roll_init sp_answer_to : Sp} (T : Txt K mg A) (G_Roll_init : FnOk P w K mg base CX0 2 A.f_Roll_init A.fd_Roll_init ["self"] sp_Roll_init) (G_answer_to : FnOk P w K mg base CX0 7 A.f_answer_to A.fd_answer_to ["roll", "call", "numbers"] sp_answer_to)
    (len : ∀ vs H Q E, sp vs H Q E → vs.length = 1) (pure : ∀ vs H Q E, sp vs H Q E → t_answers K A sp_Roll_init sp_answer_to { nx := fun _ H' => Q .non H', rt := Q } (start ["calls", "roll", "told", "at", "call", "behind", "answer"] vs) H) :
    FnOk P w K mg base CX0 8 A.f_answers A.fd_answers ["calls"] sp :=
  T.F_answers.ok sc_answers len fun cdv Ar outer s H vs Q E hr h => ⟨t_answers K A sp_Roll_init sp_answer_to, by
    exact (pss_cons (ps_set (i := 1) sc_answers.nd rfl (Or.inl rfl) (pe_make0 T.mk_Roll G_Roll_init (hr.mono (by decide)) rfl T.g_Roll T.b_Roll_init .nil pass0))
    (pss_cons (ps_set (i := 2) sc_answers.nd rfl (Or.inl rfl) (pe_lst pa_nil))
    (pss_cons (ps_set (i := 3) sc_answers.nd rfl (Or.inl rfl) pe_int)
    (pss_cons (ps_while PassesOwn.never (pt_cmpR op_lt (pv 3) (pe_callB call_len_seq rfl T.n_len PySem.boot_len (pa_cons (pv 0) pa_nil)) (nomark _))
      (pss_cons (ps_set (i := 4) sc_answers.nd rfl (Or.inl rfl) (pe_ix ix_tup (pe_glob rfl T.g_CALLS rfl) (pe_ix ix_list (pv 0) (pv 3) (fun _ _ => rfl)) (fun _ _ => rfl)))
      (pss_cons (ps_set (i := 5) sc_answers.nd rfl (Or.inl rfl) (pe_op op_add (pe_op op_add (pv 3) pe_int) (pe_ix ix_tup (pv 4) pe_int (fun _ _ => rfl))))
      (pss_cons (ps_set (i := 6) sc_answers.nd rfl (Or.inl rfl) (pe_call G_answer_to hr rfl T.g_answer_to T.F_answer_to.kp T.b_answer_to .nil pass0 (pa_cons (pv 1) (pa_cons (pv 4) (pa_cons (pe_slice sl_list (pv 0) (po_some (pe_op op_add (pv 3) pe_int)) (po_some (pv 5))) pa_nil)))))
      (pss_cons (ps_expr (pe_bm PySem.F.plainAttrs_list PySem.F.slot_list_append PySem.F.type_list_append mt_append (pv 2) (pa_cons (pe_callB call_len_seq rfl T.n_len PySem.boot_len (pa_cons (pv 6) pa_nil)) pa_nil)))
      (pss_cons (ps_expr (pe_bm PySem.F.plainAttrs_list PySem.F.slot_list_extend PySem.F.type_list_extend mt_extend (pv 2) (pa_cons (pv 6) pa_nil)))
      (pss_one (ps_set (i := 3) sc_answers.nd rfl (Or.inl rfl) (pv 5)))))))))
    (pss_one (ps_ret (pv 2))))))), pure vs H Q E h⟩

end Ag

/-! AgG: values of readings for this program; the object and the book it stands for. -/
namespace Ag
open PySem PySem.Spec PyProof.Rows L2 Evl

section
variable {K : PySem.W.Frag} {σ : L2.St} {H H' : Hp} {ta tb tc te td ty : TE} {t : TA} {tt : TT} {x y z v : V} {a C dx : Addr} {fs : List (Str × V)} {f m : Str} {sp : Sp} {vs xs ys : List V} {D : Ends} {tu tz : TS}
theorem ev_fld (h : Ev ta σ H (.ref a)) (O : H a = some (.ins C dx fs)) (c : Cls K C) (n : NoAttr K C f) (l : fs.lookup f = some v) : Ev (tFld K ta f) σ H v := fun H1 e Q q =>
  h H1 e _ fun H2 e2 => ⟨a, C, dx, fs, v, rfl, (e.trans e2) a _ O, c, n, l, q H2 e2⟩
theorem ev_meth (h : Ev ta σ H (.ref a)) (O : H a = some (.ins C dx fs)) (l : fs.lookup m = none) (ha : EvA t σ H vs) (hs : SpV sp (.ref a :: vs) H v) : Ev (tMeth C m sp [] E0 ta t) σ H v := fun H1 e Q q =>
  h H1 e _ fun H2 e2 => ⟨a, dx, fs, rfl, (e.trans e2) a _ O, l, ha H2 (e.trans e2) _ fun H3 e3 => by
    rw [List.append_nil]
    exact hs H3 ((e.trans e2).trans e3) Q (fun H4 e4 => q H4 ((e2.trans e3).trans e4)) E0⟩
theorem el_meth (h : Ev ta σ H (.ref a)) (O : H a = some (.ins C dx fs)) (l : fs.lookup m = none) (ha : EvA t σ H vs) (hs : SpL sp (.ref a :: vs) H xs) : EvL (tMeth C m sp [] E0 ta t) σ H xs := fun H1 e Q q =>
  h H1 e _ fun H2 e2 => ⟨a, dx, fs, rfl, (e.trans e2) a _ O, l, ha H2 (e.trans e2) _ fun H3 e3 => by
    rw [List.append_nil]
    exact hs H3 ((e.trans e2).trans e3) Q (fun p H4 hp e4 h4 => q p H4 (fresh_back (e2.trans e3) hp) ((e2.trans e3).trans e4) h4) E0⟩
theorem ev_dget {k : Key} {kvs : List (Key × V)} (h : Ev td σ H (.ref a)) (hi : Ev ty σ H (kV k)) (hd : H a = some (.dK kvs)) (hv : valV kvs k = some v) : Ev (tDGet td ty) σ H v := fun H1 e Q q =>
  h H1 e _ fun H2 e2 => hi H2 (e.trans e2) _ fun H3 e3 => ⟨a, v, rfl, by rw [← hv]; exact DGet.k (((e.trans e2).trans e3) a _ hd), q H3 (e2.trans e3)⟩
theorem ev_chain {r r' : R2} {p q : Bool} (ha : Ev ta σ H x) (hb : Ev tb σ H y) (h1 : RV r x y H (.bl p)) (hc : Ev tc σ H z) (h2 : RV r' y z H (.bl q)) : Ev (tChain r r' ta tb tc) σ H (.bl (p && q)) := fun H1 e Q k =>
  ha H1 e _ fun H2 e2 => hb H2 (e.trans e2) _ fun H3 e3 => h1 H3 ((e.trans e2).trans e3) _ fun H4 e4 => ⟨p, rfl, by
    cases p with
    | true =>
      exact hc H4 (((e.trans e2).trans e3).trans e4) _ fun H5 e5 => h2 H5 ((((e.trans e2).trans e3).trans e4).trans e5) _ fun H6 e6 => k H6 ((((e2.trans e3).trans e4).trans e5).trans e6)
    | false => exact k H4 ((e2.trans e3).trans e4)⟩
theorem el_rng {n : Nat} (h : Ev ta σ H (.int n)) (hn : n ≤ 10000) : EvL (tLstRg (tRg1 ta)) σ H ((List.range n).map fun (i : Nat) => V.int i) := fun H1 e Q q =>
  h H1 e _ fun H2 e2 => ⟨n, rfl, RgOk.of_le (by omega) (by omega) (by omega) (by omega), fun p hp => q p _ (fresh_back e2 hp) (e2.trans (Ex.new hp)) (by
    rw [upd_same]
    unfold rgV
    congr 2
    rw [Int.sub_zero, Int.toNat_natCast]
    exact List.map_congr_left fun i _ => by rw [Int.zero_add])⟩
theorem ev_cnt {l : Addr} {ns : List Int} {k : Int} (h : Ev ta σ H (.ref l)) (hs : SqL K H l (ns.map V.int)) (hk : Ev tb σ H (.int k)) : Ev (tBM K "list" (rCntI K) ta (tCons tb tNil)) σ H (.int (ns.count k : Nat)) := fun H1 e Q q =>
  h H1 e _ fun H2 e2 => ⟨Or.inl ⟨rfl, _, ex_l (e.trans e2) hs⟩, hk H2 (e.trans e2) _ fun H3 e3 => ⟨l, ns, k, rfl, rfl, ex_l ((e.trans e2).trans e3) hs, q H3 (e2.trans e3)⟩⟩
theorem rc_any {l : Addr} {bs : List Bool} (h : SqL K H l (bs.map V.bl)) : RC (rAny K) [.ref l] H (.bl (bs.any id)) := fun H1 e Q q => ⟨l, bs, rfl, ex_l e h, q H1 (Ex.refl H1)⟩
theorem rc_max {l : Addr} {ns : List Int} {m : Int} (h : SqL K H l (ns.map V.int)) (hm : m ∈ ns) (hu : ∀ y ∈ ns, y ≤ m) : RC (rMax K) [.ref l] H (.int m) := fun H1 e Q q =>
  ⟨l, ns, rfl, ex_l e h, List.length_pos_of_mem hm, fun m' h1 h2 => by
    have e' : m' = m := Int.le_antisymm (hu m' h1) (h2 m hm)
    rw [e']
    exact q H1 (Ex.refl H1)⟩
theorem rc_min {l : Addr} {ns : List Int} {m : Int} (h : SqL K H l (ns.map V.int)) (hm : m ∈ ns) (hu : ∀ y ∈ ns, m ≤ y) : RC (rMin K) [.ref l] H (.int m) := fun H1 e Q q =>
  ⟨l, ns, rfl, ex_l e h, List.length_pos_of_mem hm, fun m' h1 h2 => by
    have e' : m' = m := Int.le_antisymm (h2 m hm) (hu m' h1)
    rw [e']
    exact q H1 (Ex.refl H1)⟩
theorem ev_maxDef {l : Addr} {ns : List Int} {d m : Int} (ha : Ev ta σ H (.ref l)) (h : SqL K H l (ns.map V.int)) (hd : Ev tb σ H (.int d)) (h0 : ns = [] → m = d) (h1 : ns ≠ [] → m ∈ ns ∧ ∀ y ∈ ns, y ≤ m) : Ev (tCKw (rMaxDef K) (tCons ta tNil) (tCons tb tNil)) σ H (.int m) := fun H1 e Q q =>
  ha H1 e _ fun H2 e2 => hd H2 (e.trans e2) _ fun H3 e3 => ⟨l, ns, d, rfl, rfl, ex_l ((e.trans e2).trans e3) h, fun z => by rw [← h0 z]; exact q H3 (e2.trans e3), fun m' k1 k2 => by
    obtain ⟨j1, j2⟩ := h1 (by rintro rfl; cases k1)
    have e' : m' = m := Int.le_antisymm (j2 m' k1) (k2 m j1)
    rw [e']
    exact q H3 (e2.trans e3)⟩
theorem el_cat {xs ys : List V} (ha : EvL ta σ H xs) (hb : EvL tb σ H ys) (hz : xs.length + ys.length ≤ 100000) : EvL (tOp rCat ta tb) σ H (xs ++ ys) := fun H1 e Q q =>
  ha H1 e _ fun l H2 _ e2 hl => hb H2 (e.trans e2) _ fun b H3 _ e3 hb' => ⟨l, b, xs, ys, rfl, rfl, e3 l _ hl, hb', sz_of hz, fun p hp => q p _ (fresh_back (e2.trans e3) hp) ((e2.trans e3).trans (Ex.new hp)) upd_same⟩
theorem el_catV {l : Addr} {xs ys : List V} (ha : EvL ta σ H xs) (hb : Ev tb σ H (.ref l)) (h : H l = some (.lst ys)) (hz : xs.length + ys.length ≤ 100000) : EvL (tOp rCat ta tb) σ H (xs ++ ys) := fun H1 e Q q =>
  ha H1 e _ fun p' H2 _ e2 hl => hb H2 (e.trans e2) _ fun H3 e3 => ⟨p', l, xs, ys, rfl, rfl, e3 p' _ hl, ((e.trans e2).trans e3) l _ h, sz_of hz, fun p hp => q p _ (fresh_back (e2.trans e3) hp) ((e2.trans e3).trans (Ex.new hp)) upd_same⟩
theorem el_rep {k : Nat} {xs : List V} (ha : EvL ta σ H xs) (hb : Ev tb σ H (.int k)) (hk : k ≤ 1000) (hz : xs.length ≤ 100) : EvL (tOp rRep ta tb) σ H (List.replicate k xs).flatten := fun H1 e Q q =>
  ha H1 e _ fun l H2 _ e2 hl => hb H2 (e.trans e2) _ fun H3 e3 => ⟨l, k, xs, rfl, rfl, e3 l _ hl, by omega, by omega, by
    rw [Int.toNat_natCast]
    refine sz_of ?_
    exact Nat.le_trans (Nat.mul_le_mul hz hk) (by decide), fun p hp => q p _ (fresh_back (e2.trans e3) hp) ((e2.trans e3).trans (Ex.new hp)) (by rw [upd_same, Int.toNat_natCast])⟩
theorem el_sortM {l : Addr} {g : Addr} {ns : List Int} {k : Int → List Int} {d : Nat} (ha : Ev ta σ H (.ref l)) (h : SqL K H l (ns.map V.int)) (hb : Ev tb σ H (.ref a)) (O : H a = some (.ins C dx fs)) (hm : fs.lookup m = none) (hd : ∀ n, (k n).length = d + 1)
    (hk : ∀ n ∈ ns, KeyOk sp a k H n) : EvL (tCKw (rSortedMet K g sp) (tCons ta tNil) (tCons (tBound C m g tb) tNil)) σ H ((ns.mergeSort (PySem.W.dataLe false (kd k))).map V.int) := fun H1 e Q q =>
  ha H1 e _ fun H2 e2 => hb H2 (e.trans e2) _ fun H3 e3 => ⟨a, dx, fs, rfl, ((e.trans e2).trans e3) a _ O, hm, fun p hp => ⟨l, p, a, ns, k, d, rfl, rfl, upd_same, ex_l (((e.trans e2).trans e3).trans (Ex.new hp)) h, hd,
    fun n hn H4 e4 => hk n hn H4 ((((e.trans e2).trans e3).trans (Ex.new hp)).trans e4), fun p' H4 e4 hp' h4 => q p' H4 (fresh_back ((e2.trans e3).trans (Ex.new hp)) hp') (((e2.trans e3).trans (Ex.new hp)).trans e4) h4⟩⟩
/-! statements that write -/
theorem s_fld (hv : Ev te σ H y) (ha : Ev ta σ H (.ref a)) (O : H a = some (.ins C dx fs)) (c : Cls K C) (n : NoAttr K C f) (hl : fs.length < 1000) (k : ∀ H1, Ex H H1 → D.nx σ (upd H1 a (.ins C dx (putF f y fs)))) : sFld K ta te f D σ H :=
  hv H (Ex.refl H) _ fun H1 e1 => ha H1 e1 _ fun H2 e2 => ⟨a, C, dx, fs, rfl, (e1.trans e2) a _ O, c, n, hl, k H2 (e1.trans e2)⟩
theorem s_fldL (hv : EvL te σ H xs) (ha : Ev ta σ H (.ref a)) (O : H a = some (.ins C dx fs)) (c : Cls K C) (n : NoAttr K C f) (hl : fs.length < 1000) (k : ∀ p H1, H p = none → Ex H H1 → H1 p = some (.lst xs) → D.nx σ (upd H1 a (.ins C dx (putF f (.ref p) fs)))) : sFld K ta te f D σ H :=
  hv H (Ex.refl H) _ fun p H1 hp e1 h1 => ha H1 e1 _ fun H2 e2 => ⟨a, C, dx, fs, rfl, (e1.trans e2) a _ O, c, n, hl, k p H2 hp (e1.trans e2) (e2 p _ h1)⟩
theorem s_fldD (ha : Ev ta σ H (.ref a)) (O : H a = some (.ins C dx fs)) (c : Cls K C) (n : NoAttr K C f) (hl : fs.length < 1000) (k : ∀ p H1, H p = none → Ex H H1 → H1 p = some (.dK []) → D.nx σ (upd H1 a (.ins C dx (putF f (.ref p) fs)))) : sFld K ta tDNewK f D σ H :=
  fun p hp => ha _ (Ex.new hp) _ fun H2 e2 => ⟨a, C, dx, fs, rfl, ((Ex.new hp).trans e2) a _ O, c, n, hl, k p H2 hp ((Ex.new hp).trans e2) (e2 p _ upd_same)⟩
theorem s_fldaug {i j : Int} (ha : Ev ta σ H (.ref a)) (O : H a = some (.ins C dx fs)) (c : Cls K C) (n : NoAttr K C f) (l : fs.lookup f = some (.int i)) (hv : Ev te σ H (.int j)) (hl : fs.length < 1000)
    (k : ∀ H1, Ex H H1 → D.nx σ (upd H1 a (.ins C dx (putF f (.int (i + j)) fs)))) : sFldAug K ta te L2.rAdd f D σ H :=
  ha H (Ex.refl H) _ fun H1 e1 => ⟨a, C, dx, fs, .int i, rfl, e1 a _ O, c, n, l, hv H1 e1 _ fun H2 e2 => ⟨i, j, rfl, rfl, dx, fs, (e1.trans e2) a _ O, hl, k H2 (e1.trans e2)⟩⟩
theorem s_setD {k : Key} {kvs : List (Key × V)} (hd : H a = some (.dK kvs)) (h : Ev te σ H v) (ho : Ev ta σ H (.ref a)) (hi : Ev tb σ H (kV k)) (hl : kvs.length < 100000) (q : ∀ H1, Ex H H1 → D.nx σ (upd H1 a (.dK (putK kvs k v)))) : tAsg te (gSub ta tb rSetD) D σ H :=
  h H (Ex.refl H) _ fun H1 e1 => ho H1 e1 _ fun H2 e2 => hi H2 (e1.trans e2) _ fun H3 e3 => ⟨a, _, rfl, DPut.k (((e1.trans e2).trans e3) a _ hd) (sz_lt hl), q H3 ((e1.trans e2).trans e3)⟩
end
section
variable {K : PySem.W.Frag} {mg : Str → Option Value} {A : Adr} {σ : L2.St} {H : Hp} {ta : TE} {t : TA} {sp : Sp} {vs xs : List V} {v : V} {a dx : Addr}
theorem vf_names (T : Txt K mg A) {r : R_Roll} (O : H a = some (.ins A.C_Roll dx (rF_Roll r))) (h : Ev ta σ H (.ref a)) : Ev (tFld K ta "names") σ H r.names := ev_fld h O T.cl_Roll T.na_names lk_names
theorem vf_youngest (T : Txt K mg A) {r : R_Roll} (O : H a = some (.ins A.C_Roll dx (rF_Roll r))) (h : Ev ta σ H (.ref a)) : Ev (tFld K ta "youngest") σ H r.youngest := ev_fld h O T.cl_Roll T.na_youngest lk_youngest
theorem vf_oldest (T : Txt K mg A) {r : R_Roll} (O : H a = some (.ins A.C_Roll dx (rF_Roll r))) (h : Ev ta σ H (.ref a)) : Ev (tFld K ta "oldest") σ H r.oldest := ev_fld h O T.cl_Roll T.na_oldest lk_oldest
theorem vf_year (T : Txt K mg A) {r : R_Roll} (O : H a = some (.ins A.C_Roll dx (rF_Roll r))) (h : Ev ta σ H (.ref a)) : Ev (tFld K ta "year") σ H r.year := ev_fld h O T.cl_Roll T.na_year lk_year
theorem vf_birth_years (T : Txt K mg A) {r : R_Roll} (O : H a = some (.ins A.C_Roll dx (rF_Roll r))) (h : Ev ta σ H (.ref a)) : Ev (tFld K ta "birth_years") σ H r.birth_years := ev_fld h O T.cl_Roll T.na_birth_years lk_birth_years
theorem vf_set_of (T : Txt K mg A) {r : R_Roll} (O : H a = some (.ins A.C_Roll dx (rF_Roll r))) (h : Ev ta σ H (.ref a)) : Ev (tFld K ta "set_of") σ H r.set_of := ev_fld h O T.cl_Roll T.na_set_of lk_set_of
theorem vf_join_years (T : Txt K mg A) {r : R_Roll} (O : H a = some (.ins A.C_Roll dx (rF_Roll r))) (h : Ev ta σ H (.ref a)) : Ev (tFld K ta "join_years") σ H r.join_years := ev_fld h O T.cl_Roll T.na_join_years lk_join_years
theorem vf_set_count (T : Txt K mg A) {r : R_Roll} (O : H a = some (.ins A.C_Roll dx (rF_Roll r))) (h : Ev ta σ H (.ref a)) : Ev (tFld K ta "set_count") σ H r.set_count := ev_fld h O T.cl_Roll T.na_set_count lk_set_count
theorem vf_one_is_open (T : Txt K mg A) {r : R_Roll} (O : H a = some (.ins A.C_Roll dx (rF_Roll r))) (h : Ev ta σ H (.ref a)) : Ev (tFld K ta "one_is_open") σ H r.one_is_open := ev_fld h O T.cl_Roll T.na_one_is_open lk_one_is_open
theorem vf_stood_ahead (T : Txt K mg A) {r : R_Roll} (O : H a = some (.ins A.C_Roll dx (rF_Roll r))) (h : Ev ta σ H (.ref a)) : Ev (tFld K ta "stood_ahead") σ H r.stood_ahead := ev_fld h O T.cl_Roll T.na_stood_ahead lk_stood_ahead
theorem vf_stood_behind (T : Txt K mg A) {r : R_Roll} (O : H a = some (.ins A.C_Roll dx (rF_Roll r))) (h : Ev ta σ H (.ref a)) : Ev (tFld K ta "stood_behind") σ H r.stood_behind := ev_fld h O T.cl_Roll T.na_stood_behind lk_stood_behind
theorem vm_begin {r : R_Roll} (O : H a = some (.ins A.C_Roll dx (rF_Roll r))) (h : Ev ta σ H (.ref a)) (ha : EvA t σ H vs) (hs : SpV sp (.ref a :: vs) H v) : Ev (tMeth A.C_Roll "begin" sp [] E0 ta t) σ H v := ev_meth h O lm_begin ha hs
theorem vl_begin {r : R_Roll} (O : H a = some (.ins A.C_Roll dx (rF_Roll r))) (h : Ev ta σ H (.ref a)) (ha : EvA t σ H vs) (hs : SpL sp (.ref a :: vs) H xs) : EvL (tMeth A.C_Roll "begin" sp [] E0 ta t) σ H xs := el_meth h O lm_begin ha hs
theorem vm_is_person {r : R_Roll} (O : H a = some (.ins A.C_Roll dx (rF_Roll r))) (h : Ev ta σ H (.ref a)) (ha : EvA t σ H vs) (hs : SpV sp (.ref a :: vs) H v) : Ev (tMeth A.C_Roll "is_person" sp [] E0 ta t) σ H v := ev_meth h O lm_is_person ha hs
theorem vl_is_person {r : R_Roll} (O : H a = some (.ins A.C_Roll dx (rF_Roll r))) (h : Ev ta σ H (.ref a)) (ha : EvA t σ H vs) (hs : SpL sp (.ref a :: vs) H xs) : EvL (tMeth A.C_Roll "is_person" sp [] E0 ta t) σ H xs := el_meth h O lm_is_person ha hs
theorem vm_is_set {r : R_Roll} (O : H a = some (.ins A.C_Roll dx (rF_Roll r))) (h : Ev ta σ H (.ref a)) (ha : EvA t σ H vs) (hs : SpV sp (.ref a :: vs) H v) : Ev (tMeth A.C_Roll "is_set" sp [] E0 ta t) σ H v := ev_meth h O lm_is_set ha hs
theorem vl_is_set {r : R_Roll} (O : H a = some (.ins A.C_Roll dx (rF_Roll r))) (h : Ev ta σ H (.ref a)) (ha : EvA t σ H vs) (hs : SpL sp (.ref a :: vs) H xs) : EvL (tMeth A.C_Roll "is_set" sp [] E0 ta t) σ H xs := el_meth h O lm_is_set ha hs
theorem vm_is_in_a_set {r : R_Roll} (O : H a = some (.ins A.C_Roll dx (rF_Roll r))) (h : Ev ta σ H (.ref a)) (ha : EvA t σ H vs) (hs : SpV sp (.ref a :: vs) H v) : Ev (tMeth A.C_Roll "is_in_a_set" sp [] E0 ta t) σ H v := ev_meth h O lm_is_in_a_set ha hs
theorem vl_is_in_a_set {r : R_Roll} (O : H a = some (.ins A.C_Roll dx (rF_Roll r))) (h : Ev ta σ H (.ref a)) (ha : EvA t σ H vs) (hs : SpL sp (.ref a :: vs) H xs) : EvL (tMeth A.C_Roll "is_in_a_set" sp [] E0 ta t) σ H xs := el_meth h O lm_is_in_a_set ha hs
theorem vm_age_of {r : R_Roll} (O : H a = some (.ins A.C_Roll dx (rF_Roll r))) (h : Ev ta σ H (.ref a)) (ha : EvA t σ H vs) (hs : SpV sp (.ref a :: vs) H v) : Ev (tMeth A.C_Roll "age_of" sp [] E0 ta t) σ H v := ev_meth h O lm_age_of ha hs
theorem vl_age_of {r : R_Roll} (O : H a = some (.ins A.C_Roll dx (rF_Roll r))) (h : Ev ta σ H (.ref a)) (ha : EvA t σ H vs) (hs : SpL sp (.ref a :: vs) H xs) : EvL (tMeth A.C_Roll "age_of" sp [] E0 ta t) σ H xs := el_meth h O lm_age_of ha hs
theorem vm_age_at_joining {r : R_Roll} (O : H a = some (.ins A.C_Roll dx (rF_Roll r))) (h : Ev ta σ H (.ref a)) (ha : EvA t σ H vs) (hs : SpV sp (.ref a :: vs) H v) : Ev (tMeth A.C_Roll "age_at_joining" sp [] E0 ta t) σ H v := ev_meth h O lm_age_at_joining ha hs
theorem vl_age_at_joining {r : R_Roll} (O : H a = some (.ins A.C_Roll dx (rF_Roll r))) (h : Ev ta σ H (.ref a)) (ha : EvA t σ H vs) (hs : SpL sp (.ref a :: vs) H xs) : EvL (tMeth A.C_Roll "age_at_joining" sp [] E0 ta t) σ H xs := el_meth h O lm_age_at_joining ha hs
theorem vm_is_of_age {r : R_Roll} (O : H a = some (.ins A.C_Roll dx (rF_Roll r))) (h : Ev ta σ H (.ref a)) (ha : EvA t σ H vs) (hs : SpV sp (.ref a :: vs) H v) : Ev (tMeth A.C_Roll "is_of_age" sp [] E0 ta t) σ H v := ev_meth h O lm_is_of_age ha hs
theorem vl_is_of_age {r : R_Roll} (O : H a = some (.ins A.C_Roll dx (rF_Roll r))) (h : Ev ta σ H (.ref a)) (ha : EvA t σ H vs) (hs : SpL sp (.ref a :: vs) H xs) : EvL (tMeth A.C_Roll "is_of_age" sp [] E0 ta t) σ H xs := el_meth h O lm_is_of_age ha hs
theorem vm_may_join {r : R_Roll} (O : H a = some (.ins A.C_Roll dx (rF_Roll r))) (h : Ev ta σ H (.ref a)) (ha : EvA t σ H vs) (hs : SpV sp (.ref a :: vs) H v) : Ev (tMeth A.C_Roll "may_join" sp [] E0 ta t) σ H v := ev_meth h O lm_may_join ha hs
theorem vl_may_join {r : R_Roll} (O : H a = some (.ins A.C_Roll dx (rF_Roll r))) (h : Ev ta σ H (.ref a)) (ha : EvA t σ H vs) (hs : SpL sp (.ref a :: vs) H xs) : EvL (tMeth A.C_Roll "may_join" sp [] E0 ta t) σ H xs := el_meth h O lm_may_join ha hs
theorem vm_has_missed {r : R_Roll} (O : H a = some (.ins A.C_Roll dx (rF_Roll r))) (h : Ev ta σ H (.ref a)) (ha : EvA t σ H vs) (hs : SpV sp (.ref a :: vs) H v) : Ev (tMeth A.C_Roll "has_missed" sp [] E0 ta t) σ H v := ev_meth h O lm_has_missed ha hs
theorem vl_has_missed {r : R_Roll} (O : H a = some (.ins A.C_Roll dx (rF_Roll r))) (h : Ev ta σ H (.ref a)) (ha : EvA t σ H vs) (hs : SpL sp (.ref a :: vs) H xs) : EvL (tMeth A.C_Roll "has_missed" sp [] E0 ta t) σ H xs := el_meth h O lm_has_missed ha hs
theorem vm_name_of {r : R_Roll} (O : H a = some (.ins A.C_Roll dx (rF_Roll r))) (h : Ev ta σ H (.ref a)) (ha : EvA t σ H vs) (hs : SpV sp (.ref a :: vs) H v) : Ev (tMeth A.C_Roll "name_of" sp [] E0 ta t) σ H v := ev_meth h O lm_name_of ha hs
theorem vl_name_of {r : R_Roll} (O : H a = some (.ins A.C_Roll dx (rF_Roll r))) (h : Ev ta σ H (.ref a)) (ha : EvA t σ H vs) (hs : SpL sp (.ref a :: vs) H xs) : EvL (tMeth A.C_Roll "name_of" sp [] E0 ta t) σ H xs := el_meth h O lm_name_of ha hs
theorem vm_last_set {r : R_Roll} (O : H a = some (.ins A.C_Roll dx (rF_Roll r))) (h : Ev ta σ H (.ref a)) (ha : EvA t σ H vs) (hs : SpV sp (.ref a :: vs) H v) : Ev (tMeth A.C_Roll "last_set" sp [] E0 ta t) σ H v := ev_meth h O lm_last_set ha hs
theorem vl_last_set {r : R_Roll} (O : H a = some (.ins A.C_Roll dx (rF_Roll r))) (h : Ev ta σ H (.ref a)) (ha : EvA t σ H vs) (hs : SpL sp (.ref a :: vs) H xs) : EvL (tMeth A.C_Roll "last_set" sp [] E0 ta t) σ H xs := el_meth h O lm_last_set ha hs
theorem vm_people {r : R_Roll} (O : H a = some (.ins A.C_Roll dx (rF_Roll r))) (h : Ev ta σ H (.ref a)) (ha : EvA t σ H vs) (hs : SpV sp (.ref a :: vs) H v) : Ev (tMeth A.C_Roll "people" sp [] E0 ta t) σ H v := ev_meth h O lm_people ha hs
theorem vl_people {r : R_Roll} (O : H a = some (.ins A.C_Roll dx (rF_Roll r))) (h : Ev ta σ H (.ref a)) (ha : EvA t σ H vs) (hs : SpL sp (.ref a :: vs) H xs) : EvL (tMeth A.C_Roll "people" sp [] E0 ta t) σ H xs := el_meth h O lm_people ha hs
theorem vm_who_may_join {r : R_Roll} (O : H a = some (.ins A.C_Roll dx (rF_Roll r))) (h : Ev ta σ H (.ref a)) (ha : EvA t σ H vs) (hs : SpV sp (.ref a :: vs) H v) : Ev (tMeth A.C_Roll "who_may_join" sp [] E0 ta t) σ H v := ev_meth h O lm_who_may_join ha hs
theorem vl_who_may_join {r : R_Roll} (O : H a = some (.ins A.C_Roll dx (rF_Roll r))) (h : Ev ta σ H (.ref a)) (ha : EvA t σ H vs) (hs : SpL sp (.ref a :: vs) H xs) : EvL (tMeth A.C_Roll "who_may_join" sp [] E0 ta t) σ H xs := el_meth h O lm_who_may_join ha hs
theorem vm_who_has_missed {r : R_Roll} (O : H a = some (.ins A.C_Roll dx (rF_Roll r))) (h : Ev ta σ H (.ref a)) (ha : EvA t σ H vs) (hs : SpV sp (.ref a :: vs) H v) : Ev (tMeth A.C_Roll "who_has_missed" sp [] E0 ta t) σ H v := ev_meth h O lm_who_has_missed ha hs
theorem vl_who_has_missed {r : R_Roll} (O : H a = some (.ins A.C_Roll dx (rF_Roll r))) (h : Ev ta σ H (.ref a)) (ha : EvA t σ H vs) (hs : SpL sp (.ref a :: vs) H xs) : EvL (tMeth A.C_Roll "who_has_missed" sp [] E0 ta t) σ H xs := el_meth h O lm_who_has_missed ha hs
theorem vm_are_in {r : R_Roll} (O : H a = some (.ins A.C_Roll dx (rF_Roll r))) (h : Ev ta σ H (.ref a)) (ha : EvA t σ H vs) (hs : SpV sp (.ref a :: vs) H v) : Ev (tMeth A.C_Roll "are_in" sp [] E0 ta t) σ H v := ev_meth h O lm_are_in ha hs
theorem vl_are_in {r : R_Roll} (O : H a = some (.ins A.C_Roll dx (rF_Roll r))) (h : Ev ta σ H (.ref a)) (ha : EvA t σ H vs) (hs : SpL sp (.ref a :: vs) H xs) : EvL (tMeth A.C_Roll "are_in" sp [] E0 ta t) σ H xs := el_meth h O lm_are_in ha hs
theorem vm_birth_years_in {r : R_Roll} (O : H a = some (.ins A.C_Roll dx (rF_Roll r))) (h : Ev ta σ H (.ref a)) (ha : EvA t σ H vs) (hs : SpV sp (.ref a :: vs) H v) : Ev (tMeth A.C_Roll "birth_years_in" sp [] E0 ta t) σ H v := ev_meth h O lm_birth_years_in ha hs
theorem vl_birth_years_in {r : R_Roll} (O : H a = some (.ins A.C_Roll dx (rF_Roll r))) (h : Ev ta σ H (.ref a)) (ha : EvA t σ H vs) (hs : SpL sp (.ref a :: vs) H xs) : EvL (tMeth A.C_Roll "birth_years_in" sp [] E0 ta t) σ H xs := el_meth h O lm_birth_years_in ha hs
theorem vm_have_the_name_of {r : R_Roll} (O : H a = some (.ins A.C_Roll dx (rF_Roll r))) (h : Ev ta σ H (.ref a)) (ha : EvA t σ H vs) (hs : SpV sp (.ref a :: vs) H v) : Ev (tMeth A.C_Roll "have_the_name_of" sp [] E0 ta t) σ H v := ev_meth h O lm_have_the_name_of ha hs
theorem vl_have_the_name_of {r : R_Roll} (O : H a = some (.ins A.C_Roll dx (rF_Roll r))) (h : Ev ta σ H (.ref a)) (ha : EvA t σ H vs) (hs : SpL sp (.ref a :: vs) H xs) : EvL (tMeth A.C_Roll "have_the_name_of" sp [] E0 ta t) σ H xs := el_meth h O lm_have_the_name_of ha hs
theorem vm_is_senior {r : R_Roll} (O : H a = some (.ins A.C_Roll dx (rF_Roll r))) (h : Ev ta σ H (.ref a)) (ha : EvA t σ H vs) (hs : SpV sp (.ref a :: vs) H v) : Ev (tMeth A.C_Roll "is_senior" sp [] E0 ta t) σ H v := ev_meth h O lm_is_senior ha hs
theorem vl_is_senior {r : R_Roll} (O : H a = some (.ins A.C_Roll dx (rF_Roll r))) (h : Ev ta σ H (.ref a)) (ha : EvA t σ H vs) (hs : SpL sp (.ref a :: vs) H xs) : EvL (tMeth A.C_Roll "is_senior" sp [] E0 ta t) σ H xs := el_meth h O lm_is_senior ha hs
theorem vm_place_of {r : R_Roll} (O : H a = some (.ins A.C_Roll dx (rF_Roll r))) (h : Ev ta σ H (.ref a)) (ha : EvA t σ H vs) (hs : SpV sp (.ref a :: vs) H v) : Ev (tMeth A.C_Roll "place_of" sp [] E0 ta t) σ H v := ev_meth h O lm_place_of ha hs
theorem vl_place_of {r : R_Roll} (O : H a = some (.ins A.C_Roll dx (rF_Roll r))) (h : Ev ta σ H (.ref a)) (ha : EvA t σ H vs) (hs : SpL sp (.ref a :: vs) H xs) : EvL (tMeth A.C_Roll "place_of" sp [] E0 ta t) σ H xs := el_meth h O lm_place_of ha hs
theorem vm_ranked {r : R_Roll} (O : H a = some (.ins A.C_Roll dx (rF_Roll r))) (h : Ev ta σ H (.ref a)) (ha : EvA t σ H vs) (hs : SpV sp (.ref a :: vs) H v) : Ev (tMeth A.C_Roll "ranked" sp [] E0 ta t) σ H v := ev_meth h O lm_ranked ha hs
theorem vl_ranked {r : R_Roll} (O : H a = some (.ins A.C_Roll dx (rF_Roll r))) (h : Ev ta σ H (.ref a)) (ha : EvA t σ H vs) (hs : SpL sp (.ref a :: vs) H xs) : EvL (tMeth A.C_Roll "ranked" sp [] E0 ta t) σ H xs := el_meth h O lm_ranked ha hs
theorem vm_turned_apart {r : R_Roll} (O : H a = some (.ins A.C_Roll dx (rF_Roll r))) (h : Ev ta σ H (.ref a)) (ha : EvA t σ H vs) (hs : SpV sp (.ref a :: vs) H v) : Ev (tMeth A.C_Roll "turned_apart" sp [] E0 ta t) σ H v := ev_meth h O lm_turned_apart ha hs
theorem vl_turned_apart {r : R_Roll} (O : H a = some (.ins A.C_Roll dx (rF_Roll r))) (h : Ev ta σ H (.ref a)) (ha : EvA t σ H vs) (hs : SpL sp (.ref a :: vs) H xs) : EvL (tMeth A.C_Roll "turned_apart" sp [] E0 ta t) σ H xs := el_meth h O lm_turned_apart ha hs
theorem vm_add_person {r : R_Roll} (O : H a = some (.ins A.C_Roll dx (rF_Roll r))) (h : Ev ta σ H (.ref a)) (ha : EvA t σ H vs) (hs : SpV sp (.ref a :: vs) H v) : Ev (tMeth A.C_Roll "add_person" sp [] E0 ta t) σ H v := ev_meth h O lm_add_person ha hs
theorem vl_add_person {r : R_Roll} (O : H a = some (.ins A.C_Roll dx (rF_Roll r))) (h : Ev ta σ H (.ref a)) (ha : EvA t σ H vs) (hs : SpL sp (.ref a :: vs) H xs) : EvL (tMeth A.C_Roll "add_person" sp [] E0 ta t) σ H xs := el_meth h O lm_add_person ha hs
theorem vm_open_next {r : R_Roll} (O : H a = some (.ins A.C_Roll dx (rF_Roll r))) (h : Ev ta σ H (.ref a)) (ha : EvA t σ H vs) (hs : SpV sp (.ref a :: vs) H v) : Ev (tMeth A.C_Roll "open_next" sp [] E0 ta t) σ H v := ev_meth h O lm_open_next ha hs
theorem vl_open_next {r : R_Roll} (O : H a = some (.ins A.C_Roll dx (rF_Roll r))) (h : Ev ta σ H (.ref a)) (ha : EvA t σ H vs) (hs : SpL sp (.ref a :: vs) H xs) : EvL (tMeth A.C_Roll "open_next" sp [] E0 ta t) σ H xs := el_meth h O lm_open_next ha hs
theorem vm_put_in_open {r : R_Roll} (O : H a = some (.ins A.C_Roll dx (rF_Roll r))) (h : Ev ta σ H (.ref a)) (ha : EvA t σ H vs) (hs : SpV sp (.ref a :: vs) H v) : Ev (tMeth A.C_Roll "put_in_open" sp [] E0 ta t) σ H v := ev_meth h O lm_put_in_open ha hs
theorem vl_put_in_open {r : R_Roll} (O : H a = some (.ins A.C_Roll dx (rF_Roll r))) (h : Ev ta σ H (.ref a)) (ha : EvA t σ H vs) (hs : SpL sp (.ref a :: vs) H xs) : EvL (tMeth A.C_Roll "put_in_open" sp [] E0 ta t) σ H xs := el_meth h O lm_put_in_open ha hs
theorem vm_standing {r : R_Roll} (O : H a = some (.ins A.C_Roll dx (rF_Roll r))) (h : Ev ta σ H (.ref a)) (ha : EvA t σ H vs) (hs : SpV sp (.ref a :: vs) H v) : Ev (tMeth A.C_Roll "standing" sp [] E0 ta t) σ H v := ev_meth h O lm_standing ha hs
theorem vl_standing {r : R_Roll} (O : H a = some (.ins A.C_Roll dx (rF_Roll r))) (h : Ev ta σ H (.ref a)) (ha : EvA t σ H vs) (hs : SpL sp (.ref a :: vs) H xs) : EvL (tMeth A.C_Roll "standing" sp [] E0 ta t) σ H xs := el_meth h O lm_standing ha hs
theorem vm_stand_as {r : R_Roll} (O : H a = some (.ins A.C_Roll dx (rF_Roll r))) (h : Ev ta σ H (.ref a)) (ha : EvA t σ H vs) (hs : SpV sp (.ref a :: vs) H v) : Ev (tMeth A.C_Roll "stand_as" sp [] E0 ta t) σ H v := ev_meth h O lm_stand_as ha hs
theorem vl_stand_as {r : R_Roll} (O : H a = some (.ins A.C_Roll dx (rF_Roll r))) (h : Ev ta σ H (.ref a)) (ha : EvA t σ H vs) (hs : SpL sp (.ref a :: vs) H xs) : EvL (tMeth A.C_Roll "stand_as" sp [] E0 ta t) σ H xs := el_meth h O lm_stand_as ha hs
theorem vm_note_change {r : R_Roll} (O : H a = some (.ins A.C_Roll dx (rF_Roll r))) (h : Ev ta σ H (.ref a)) (ha : EvA t σ H vs) (hs : SpV sp (.ref a :: vs) H v) : Ev (tMeth A.C_Roll "note_change" sp [] E0 ta t) σ H v := ev_meth h O lm_note_change ha hs
theorem vl_note_change {r : R_Roll} (O : H a = some (.ins A.C_Roll dx (rF_Roll r))) (h : Ev ta σ H (.ref a)) (ha : EvA t σ H vs) (hs : SpL sp (.ref a :: vs) H xs) : EvL (tMeth A.C_Roll "note_change" sp [] E0 ta t) σ H xs := el_meth h O lm_note_change ha hs
theorem vm_take_back {r : R_Roll} (O : H a = some (.ins A.C_Roll dx (rF_Roll r))) (h : Ev ta σ H (.ref a)) (ha : EvA t σ H vs) (hs : SpV sp (.ref a :: vs) H v) : Ev (tMeth A.C_Roll "take_back" sp [] E0 ta t) σ H v := ev_meth h O lm_take_back ha hs
theorem vl_take_back {r : R_Roll} (O : H a = some (.ins A.C_Roll dx (rF_Roll r))) (h : Ev ta σ H (.ref a)) (ha : EvA t σ H vs) (hs : SpL sp (.ref a :: vs) H xs) : EvL (tMeth A.C_Roll "take_back" sp [] E0 ta t) σ H xs := el_meth h O lm_take_back ha hs
theorem vm_do_again {r : R_Roll} (O : H a = some (.ins A.C_Roll dx (rF_Roll r))) (h : Ev ta σ H (.ref a)) (ha : EvA t σ H vs) (hs : SpV sp (.ref a :: vs) H v) : Ev (tMeth A.C_Roll "do_again" sp [] E0 ta t) σ H v := ev_meth h O lm_do_again ha hs
theorem vl_do_again {r : R_Roll} (O : H a = some (.ins A.C_Roll dx (rF_Roll r))) (h : Ev ta σ H (.ref a)) (ha : EvA t σ H vs) (hs : SpL sp (.ref a :: vs) H xs) : EvL (tMeth A.C_Roll "do_again" sp [] E0 ta t) σ H xs := el_meth h O lm_do_again ha hs
end

/-! ### the object and its book -/
open Km493 (Book Person Band Desk)
structure Ad where
  dx : Addr
  B : Addr
  S : Addr
  J : Addr
  SA : Addr
  SB : Addr
def mkR (b : Book) (x : Ad) : R_Roll := ⟨.int b.names, .int b.low, .int b.high, .int b.year, .ref x.B, .ref x.S, .ref x.J, .int b.sets.length, .bl (isOpen b), .ref x.SA, .ref x.SB⟩
def setI (p : Person) : Int := match p.joined with
  | none => -1
  | some j => j.2
def bornI (ps : List Person) : List Int := ps.map fun p => (p.born : Int)
def setsI (ps : List Person) : List Int := ps.map setI
structure DictOk (kvs : List (Key × V)) (ps : List Person) : Prop where
  at_ : ∀ (i : Nat) (p : Person) (j : Nat × Nat), ps[i]? = some p → p.joined = some j → valV kvs (.inl (i : Int)) = some (.int j.1)
  few : kvs.length ≤ ps.countP fun p => p.joined.isSome
/-- three containers that hold a book's people -/
structure Held3 (H : Hp) (B S J : Addr) (ps : List Person) : Prop where
  hB : H B = some (.lst ((bornI ps).map V.int))
  hS : H S = some (.lst ((setsI ps).map V.int))
  hJ : ∃ kvs, H J = some (.dK kvs) ∧ DictOk kvs ps
structure Now (A : Adr) (H : Hp) (a : Addr) (x : Ad) (b : Book) : Prop where
  obj : H a = some (.ins A.C_Roll x.dx (rF_Roll (mkR b x)))
  h3 : Held3 H x.B x.S x.J b.people
  ok : BookOk b
section
variable {K : PySem.W.Frag} {mg : Str → Option Value} {A : Adr} {σ : L2.St} {H H' : Hp} {ta tb : TE} {a : Addr} {x : Ad} {b : Book} {B S J : Addr} {ps : List Person}
theorem Held3.ext (e : Ex H H') (h : Held3 H B S J ps) : Held3 H' B S J ps := ⟨e _ _ h.hB, e _ _ h.hS, let ⟨k, h1, h2⟩ := h.hJ; ⟨k, e _ _ h1, h2⟩⟩
theorem Now.ext (e : Ex H H') (h : Now A H a x b) : Now A H' a x b := ⟨e _ _ h.obj, h.h3.ext e, h.ok⟩
theorem len_bornI : ((bornI ps).map V.int).length = ps.length := by rw [List.length_map, bornI, List.length_map]
theorem len_setsI : ((setsI ps).map V.int).length = ps.length := by rw [List.length_map, setsI, List.length_map]
theorem at_born {i : Nat} {p : Person} (h : ps[i]? = some p) : atI ((bornI ps).map V.int) (i : Int) = some (.int p.born) := atI_nat (by rw [List.getElem?_map, bornI, List.getElem?_map, h]; rfl)
theorem at_set {i : Nat} {p : Person} (h : ps[i]? = some p) : atI ((setsI ps).map V.int) (i : Int) = some (.int (setI p)) := atI_nat (by rw [List.getElem?_map, setsI, List.getElem?_map, h]; rfl)
/-- the born year of person i, the set's number, how many people -/
theorem nv_born (T : Txt K mg A) (N : Now A H a x b) (h : Ev ta σ H (.ref a)) {i : Nat} (hi : i < b.people.length) (hb : Ev tb σ H (.int i)) : Ev (tOp (rIxL K) (tFld K ta "birth_years") tb) σ H (.int (b.p i).born) :=
  ev_op (vf_birth_years T N.obj h) hb (rv_ixL (sq_of N.h3.hB) (at_born (p_at hi)))
theorem nv_set (T : Txt K mg A) (N : Now A H a x b) (h : Ev ta σ H (.ref a)) {i : Nat} (hi : i < b.people.length) (hb : Ev tb σ H (.int i)) : Ev (tOp (rIxL K) (tFld K ta "set_of") tb) σ H (.int (setI (b.p i))) :=
  ev_op (vf_set_of T N.obj h) hb (rv_ixL (sq_of N.h3.hS) (at_set (p_at hi)))
theorem nv_len (T : Txt K mg A) (N : Now A H a x b) (h : Ev ta σ H (.ref a)) : Ev (tCB (Evl.rLenS K) (tCons (tFld K ta "birth_years") tNil)) σ H (.int (b.people.length : Nat)) :=
  ev_is (ev_len (vf_birth_years T N.obj h) (sq_of N.h3.hB)) (by rw [len_bornI])
end

/-! ### promises of questions -/
def spQ (A : Adr) (f : Book → List V → V → Prop) : Sp := fun vs H Q _ => ∃ a x b ws v, vs = .ref a :: ws ∧ Now A H a x b ∧ f b ws v ∧ RetV v H Q
def spL (A : Adr) (f : Book → List V → List V → Prop) : Sp := fun vs H Q _ => ∃ a x b ws xs, vs = .ref a :: ws ∧ Now A H a x b ∧ f b ws xs ∧ RetL xs H Q
theorem spQ_at {A : Adr} {f : Book → List V → V → Prop} {H : Hp} {a : Addr} {x : Ad} {b : Book} {ws : List V} {v : V} (N : Now A H a x b) (h : f b ws v) : SpV (spQ A f) (.ref a :: ws) H v := fun H1 e Q q _ => ⟨a, x, b, ws, v, rfl, N.ext e, h, q⟩
theorem spL_at {A : Adr} {f : Book → List V → List V → Prop} {H : Hp} {a : Addr} {x : Ad} {b : Book} {ws xs : List V} (N : Now A H a x b) (h : f b ws xs) : SpL (spL A f) (.ref a :: ws) H xs := fun H1 e Q q _ => ⟨a, x, b, ws, xs, rfl, N.ext e, h, q⟩
end Ag

/-! AgM: the questions of the class keep their promises. -/
namespace Ag
open PySem PySem.Spec PyProof.Rows L2 Evl
open Km493 (Book Person Band Desk)

theorem dlt {i n : Nat} : decide ((i : Int) < (n : Int)) = decide (i < n) := by simp [Int.ofNat_lt]
theorem dle {i n : Nat} : decide ((i : Int) ≤ (n : Int)) = decide (i ≤ n) := by simp [Int.ofNat_le]
theorem deq {i n : Nat} : decide ((i : Int) = (n : Int)) = decide (i = n) := by simp [Int.ofNat_inj]
theorem vint_eq {i j : Int} : decide (V.int i = V.int j) = decide (i = j) := by simp
section
variable {K : PySem.W.Frag} {mg : Str → Option Value} {A : Adr} {σ : L2.St} {H : Hp} {te : TE} {t : TT} {xs ys : List V}
theorem el_is (h : EvL te σ H xs) (e : xs = ys) : EvL te σ H ys := e ▸ h
theorem et_yes : EvT tYes σ H true := fun H1 _ _ q => q H1 (Ex.refl H1)
theorem given_all {n : Nat} {v : Nat → V} : given n (fun _ => true) v = (List.range n).map v := by unfold given; rw [List.filter_eq_self.mpr (fun _ _ => rfl)]
theorem rng_get {n i : Nat} {x : V} (h : ((List.range n).map fun (i : Nat) => V.int i)[i]? = some x) : x = .int i ∧ i < n := by
  rw [List.getElem?_map] at h
  by_cases hi : i < n
  · rw [List.getElem?_range hi] at h
    exact ⟨(Option.some.inj h).symm, hi⟩
  · rw [List.getElem?_eq_none_iff.mpr (by rw [List.length_range]; omega)] at h
    cases h
theorem rng_len {n : Nat} : ((List.range n).map fun (i : Nat) => V.int i).length = n := by rw [List.length_map, List.length_range]

theorem joined_set (p : Person) : (!decide (setI p = -1)) = p.joined.isSome := by
  unfold setI
  cases p.joined with
  | none => rfl
  | some j => 
    have : ¬ ((j.2 : Int) = -1) := by omega
    simp [this]

/-! #### promises -/
abbrev spIsPerson (A : Adr) := spQ A fun b ws v => ∃ i : Nat, ws = [.int i] ∧ v = .bl (decide (i < b.people.length))
abbrev spIsSet (A : Adr) := spQ A fun b ws v => ∃ i : Nat, ws = [.int i] ∧ v = .bl (decide (i < b.sets.length))
abbrev spInSet (A : Adr) := spQ A fun b ws v => ∃ i : Nat, ws = [.int i] ∧ i < b.people.length ∧ v = .bl (b.p i).joined.isSome
abbrev spAgeOf (A : Adr) := spQ A fun b ws v => ∃ i : Nat, ws = [.int i] ∧ i < b.people.length ∧ v = .int (b.age i : Nat)
abbrev spAgeAt (A : Adr) := spQ A fun b ws v => ∃ (i : Nat) (j : Nat × Nat), ws = [.int i] ∧ i < b.people.length ∧ (b.p i).joined = some j ∧ v = .int ((j.1 - (b.p i).born : Nat))
abbrev spOfAge (A : Adr) := spQ A fun b ws v => ∃ i : Nat, ws = [.int i] ∧ i < b.people.length ∧ v = .bl (decide (b.low ≤ b.age i) && decide (b.age i ≤ b.high))
abbrev spMay (A : Adr) := spQ A fun b ws v => ∃ i : Nat, ws = [.int i] ∧ i < b.people.length ∧ v = .bl (b.may i)
abbrev spMissed (A : Adr) := spQ A fun b ws v => ∃ i : Nat, ws = [.int i] ∧ i < b.people.length ∧ v = .bl ((b.p i).joined == none && decide (b.high < b.age i))
abbrev spNameOf (A : Adr) := spQ A fun b ws v => ∃ i : Nat, ws = [.int i] ∧ v = .int (b.name i : Nat)
abbrev spLast (A : Adr) := spQ A fun b ws v => ws = [] ∧ v = .int ((b.sets.length : Int) - 1)
abbrev spPeople (A : Adr) := spL A fun b ws xs => ws = [] ∧ xs = (List.range b.people.length).map fun (i : Nat) => V.int i
abbrev spWhoMay (A : Adr) := spL A fun b ws xs => ws = [] ∧ xs = (b.all.map b.may).map V.bl
abbrev spWhoMissed (A : Adr) := spL A fun b ws xs => ws = [] ∧ xs = (b.all.map fun i => ((b.p i).joined == none && decide (b.high < b.age i))).map V.bl
abbrev spAreIn (A : Adr) := spL A fun b ws xs => ∃ s : Nat, ws = [.int s] ∧ xs = (b.all.map fun i => decide (setI (b.p i) = s)).map V.bl
abbrev spBornIn (A : Adr) := spL A fun b ws xs => ∃ s : Nat, ws = [.int s] ∧ xs = (b.all.filter fun i => decide (setI (b.p i) = s)).map fun i => V.int (b.p i).born
abbrev spAlike (A : Adr) := spL A fun b ws xs => ∃ s : Nat, ws = [.int s] ∧ xs = ((List.range b.sets.length).map fun t => decide (b.name t = b.name s)).map V.bl
abbrev spSenior (A : Adr) := spQ A fun b ws v => ∃ i j : Nat, ws = [.int i, .int j] ∧ i < b.people.length ∧ j < b.people.length ∧ v = .bl (decide (setI (b.p i) < setI (b.p j)))
def spPlace (A : Adr) : Sp := fun vs H Q _ => ∃ a x b, ∃ i : Nat, vs = [.ref a, .int i] ∧ Now A H a x b ∧ i < b.people.length ∧ ∀ p H2, H p = none → Ex H H2 → H2 p = some (.tup [.int (setI (b.p i)), .int (b.p i).born, .int i]) → Q (.ref p) H2

/-! #### proofs -/
theorem pure_is_person (T : Txt K mg A) (vs : List V) (H : Hp) (Q : VK) (E : XK) : spIsPerson A vs H Q E → t_is_person K A { nx := fun _ H' => Q .non H', rt := Q } (start ["self", "person"] vs) H := by
  rintro ⟨a, x, b, ws, v, rfl, N, ⟨i, rfl, rfl⟩, k⟩
  exact s_ret (ev_is (ev_op (ev_var rfl) (nv_len T N (ev_var rfl)) rv_I0) (congrArg V.bl dlt)) k
theorem pure_is_set (T : Txt K mg A) (vs : List V) (H : Hp) (Q : VK) (E : XK) : spIsSet A vs H Q E → t_is_set K A { nx := fun _ H' => Q .non H', rt := Q } (start ["self", "number"] vs) H := by
  rintro ⟨a, x, b, ws, v, rfl, N, ⟨i, rfl, rfl⟩, k⟩
  exact s_ret (ev_is (ev_op (ev_var rfl) (vf_set_count T N.obj (ev_var rfl)) rv_I0) (congrArg V.bl dlt)) k
theorem pure_is_in_a_set (T : Txt K mg A) (vs : List V) (H : Hp) (Q : VK) (E : XK) : spInSet A vs H Q E → t_is_in_a_set K A { nx := fun _ H' => Q .non H', rt := Q } (start ["self", "person"] vs) H := by
  rintro ⟨a, x, b, ws, v, rfl, N, ⟨i, rfl, hi, rfl⟩, k⟩
  exact s_ret (ev_is (ev_op (nv_set T N (ev_var rfl) hi (ev_var rfl)) ev_c (rv_ne rfl)) (congrArg V.bl (by rw [vint_eq]; exact joined_set _))) k
theorem age_int {b : Book} (ok : BookOk b) {i : Nat} (hi : i < b.people.length) : ((b.year : Int) - ((b.p i).born : Int)) = ((b.age i : Nat) : Int) := by
  have := ok.born _ (p_mem hi)
  unfold Km493.Book.age
  omega
theorem pure_age_of (T : Txt K mg A) (vs : List V) (H : Hp) (Q : VK) (E : XK) : spAgeOf A vs H Q E → t_age_of K A { nx := fun _ H' => Q .non H', rt := Q } (start ["self", "person"] vs) H := by
  rintro ⟨a, x, b, ws, v, rfl, N, ⟨i, rfl, hi, rfl⟩, k⟩
  exact s_ret (ev_is (ev_op (vf_year T N.obj (ev_var rfl)) (nv_born T N (ev_var rfl) hi (ev_var rfl)) rv_I0) (congrArg V.int (age_int N.ok hi))) k
theorem pure_age_at_joining (T : Txt K mg A) (vs : List V) (H : Hp) (Q : VK) (E : XK) : spAgeAt A vs H Q E → t_age_at_joining K A { nx := fun _ H' => Q .non H', rt := Q } (start ["self", "person"] vs) H := by
  rintro ⟨a, x, b, ws, v, rfl, N, ⟨i, j, rfl, hi, hj, rfl⟩, k⟩
  obtain ⟨kvs, h1, h2⟩ := N.h3.hJ
  have := (N.ok.joined _ (p_mem hi) j hj).2.1
  exact s_ret (ev_is (ev_op (ev_dget (k := .inl (i : Int)) (vf_join_years T N.obj (ev_var rfl)) (ev_var rfl) h1 (h2.at_ i _ j (p_at hi) hj)) (nv_born T N (ev_var rfl) hi (ev_var rfl)) rv_I0) (congrArg V.int (by show (j.1 : Int) - _ = _; omega))) k
theorem pure_is_of_age (T : Txt K mg A) (vs : List V) (H : Hp) (Q : VK) (E : XK) : spOfAge A vs H Q E → t_is_of_age K A (spAgeOf A) { nx := fun _ H' => Q .non H', rt := Q } (start ["self", "person"] vs) H := by
  rintro ⟨a, x, b, ws, v, rfl, N, ⟨i, rfl, hi, rfl⟩, k⟩
  refine s_ret (ev_is (ev_chain (p := decide ((b.low : Int) ≤ ((b.age i : Nat) : Int))) (q := decide (((b.age i : Nat) : Int) ≤ (b.high : Int))) (vf_youngest T N.obj (ev_var rfl)) (vm_age_of N.obj (ev_var rfl) (ea_cons (ev_var rfl) ea_nil) (spQ_at N ⟨i, rfl, hi, rfl⟩)) rv_I0 (vf_oldest T N.obj (ev_var rfl)) rv_I0) ?_) k
  rw [dle, dle]
theorem isNone_beq (o : Option (Nat × Nat)) : (!o.isSome) = (o == none) := by cases o <;> rfl
theorem pure_may_join (T : Txt K mg A) (vs : List V) (H : Hp) (Q : VK) (E : XK) : spMay A vs H Q E → t_may_join K A (spOfAge A) (spInSet A) { nx := fun _ H' => Q .non H', rt := Q } (start ["self", "person"] vs) H := by
  rintro ⟨a, x, b, ws, v, rfl, N, ⟨i, rfl, hi, rfl⟩, k⟩
  refine s_ret (ev_is (ev_andV (ev_notV (vm_is_in_a_set N.obj (ev_var rfl) (ea_cons (ev_var rfl) ea_nil) (spQ_at N ⟨i, rfl, hi, rfl⟩))) fun _ => vm_is_of_age N.obj (ev_var rfl) (ea_cons (ev_var rfl) ea_nil) (spQ_at N ⟨i, rfl, hi, rfl⟩)) ?_) k
  rw [isNone_beq]
  rfl
theorem pure_has_missed (T : Txt K mg A) (vs : List V) (H : Hp) (Q : VK) (E : XK) : spMissed A vs H Q E → t_has_missed K A (spAgeOf A) (spInSet A) { nx := fun _ H' => Q .non H', rt := Q } (start ["self", "person"] vs) H := by
  rintro ⟨a, x, b, ws, v, rfl, N, ⟨i, rfl, hi, rfl⟩, k⟩
  refine s_ret (ev_is (ev_andV (b := decide (b.high < b.age i)) (ev_notV (vm_is_in_a_set N.obj (ev_var rfl) (ea_cons (ev_var rfl) ea_nil) (spQ_at N ⟨i, rfl, hi, rfl⟩))) fun _ => ev_is (ev_op (r := rGt) (vm_age_of N.obj (ev_var rfl) (ea_cons (ev_var rfl) ea_nil) (spQ_at N ⟨i, rfl, hi, rfl⟩)) (vf_oldest T N.obj (ev_var rfl)) rv_I0) (congrArg V.bl dlt)) ?_) k
  rw [isNone_beq]
theorem pure_name_of (T : Txt K mg A) (vs : List V) (H : Hp) (Q : VK) (E : XK) : spNameOf A vs H Q E → t_name_of K A { nx := fun _ H' => Q .non H', rt := Q } (start ["self", "number"] vs) H := by
  rintro ⟨a, x, b, ws, v, rfl, N, ⟨i, rfl, rfl⟩, k⟩
  have := N.ok.names.1
  exact s_ret (ev_is (ev_op (ev_var rfl) (vf_names T N.obj (ev_var rfl)) (rv_I (by show ((b.names : Nat) : Int) ≠ 0; omega))) (congrArg V.int (by show Int.fmod (i : Int) (b.names : Int) = _; rw [Int.fmod_eq_emod_of_nonneg _ (by omega)]; rfl))) k
theorem pure_last_set (T : Txt K mg A) (vs : List V) (H : Hp) (Q : VK) (E : XK) : spLast A vs H Q E → t_last_set K A { nx := fun _ H' => Q .non H', rt := Q } (start ["self"] vs) H := by
  rintro ⟨a, x, b, ws, v, rfl, N, ⟨rfl, rfl⟩, k⟩
  exact s_ret (ev_op (vf_set_count T N.obj (ev_var rfl)) ev_c rv_I0) k
theorem pure_people (T : Txt K mg A) (vs : List V) (H : Hp) (Q : VK) (E : XK) : spPeople A vs H Q E → t_people K A { nx := fun _ H' => Q .non H', rt := Q } (start ["self"] vs) H := by
  rintro ⟨a, x, b, ws, xs, rfl, N, ⟨rfl, rfl⟩, k⟩
  have := N.ok.people
  exact s_retL (el_rng (nv_len T N (ev_var rfl)) (by omega)) k
theorem pure_who_may_join (T : Txt K mg A) (vs : List V) (H : Hp) (Q : VK) (E : XK) : spWhoMay A vs H Q E → t_who_may_join K A (spMay A) (spPeople A) { nx := fun _ H' => Q .non H', rt := Q } (start ["self", "person"] vs) H := by
  rintro ⟨a, x, b, ws, xs, rfl, N, ⟨rfl, rfl⟩, k⟩
  have := N.ok.people
  refine s_retL (el_is (el_lcNL (fun _ => true) (fun i => .bl (b.may i)) (vl_people N.obj (ev_var rfl) ea_nil (spL_at N ⟨rfl, rfl⟩)) (by rw [rng_len]; omega) (fun _ => rfl) (fun _ _ _ _ _ => et_yes) fun i y H1 e hy _ => ?_) ?_) k
  · obtain ⟨rfl, hi⟩ := rng_get hy
    exact vm_may_join (N.ext e).obj (ev_var rfl) (ea_cons (ev_var rfl) ea_nil) (spQ_at (N.ext e) ⟨i, rfl, hi, rfl⟩)
  · rw [rng_len, given_all, List.map_map]
    rfl
theorem pure_who_has_missed (T : Txt K mg A) (vs : List V) (H : Hp) (Q : VK) (E : XK) : spWhoMissed A vs H Q E → t_who_has_missed K A (spMissed A) (spPeople A) { nx := fun _ H' => Q .non H', rt := Q } (start ["self", "person"] vs) H := by
  rintro ⟨a, x, b, ws, xs, rfl, N, ⟨rfl, rfl⟩, k⟩
  have := N.ok.people
  refine s_retL (el_is (el_lcNL (fun _ => true) (fun i => .bl ((b.p i).joined == none && decide (b.high < b.age i))) (vl_people N.obj (ev_var rfl) ea_nil (spL_at N ⟨rfl, rfl⟩)) (by rw [rng_len]; omega) (fun _ => rfl) (fun _ _ _ _ _ => et_yes) fun i y H1 e hy _ => ?_) ?_) k
  · obtain ⟨rfl, hi⟩ := rng_get hy
    exact vm_has_missed (N.ext e).obj (ev_var rfl) (ea_cons (ev_var rfl) ea_nil) (spQ_at (N.ext e) ⟨i, rfl, hi, rfl⟩)
  · rw [rng_len, given_all, List.map_map]
    rfl
theorem sets_get {ps : List Person} {i : Nat} {y : V} (h : ((setsI ps).map V.int)[i]? = some y) : ∃ p, ps[i]? = some p ∧ y = .int (setI p) := by
  rw [List.getElem?_map, setsI, List.getElem?_map] at h
  cases e : ps[i]? with
  | none =>
      rw [e] at h; cases h
  | some p => rw [e] at h; exact ⟨p, rfl, (Option.some.inj h).symm⟩
theorem pure_are_in (T : Txt K mg A) (vs : List V) (H : Hp) (Q : VK) (E : XK) : spAreIn A vs H Q E → t_are_in K A { nx := fun _ H' => Q .non H', rt := Q } (start ["self", "number", "joined"] vs) H := by
  rintro ⟨a, x, b, ws, xs, rfl, N, ⟨s, rfl, rfl⟩, k⟩
  have := N.ok.people
  refine s_retL (el_is (el_lcL (fun _ => true) (fun i => .bl (decide (setI (b.p i) = s))) (vf_set_of T N.obj (ev_var rfl)) (sq_of N.h3.hS) (by rw [len_setsI]; omega) (fun _ => rfl) (fun _ _ _ _ _ => et_yes) fun i y H1 e hy _ => ?_) ?_) k
  · obtain ⟨p, hp, rfl⟩ := sets_get hy
    rw [p_get hp]
    exact ev_is (ev_op (ev_var rfl) (ev_var rfl) (rv_eq rfl)) (congrArg V.bl vint_eq)
  · rw [len_setsI, given_all, List.map_map]
    rfl
theorem pure_birth_years_in (T : Txt K mg A) (vs : List V) (H : Hp) (Q : VK) (E : XK) : spBornIn A vs H Q E → t_birth_years_in K A (spPeople A) { nx := fun _ H' => Q .non H', rt := Q } (start ["self", "number", "person"] vs) H := by
  rintro ⟨a, x, b, ws, xs, rfl, N, ⟨s, rfl, rfl⟩, k⟩
  have := N.ok.people
  refine s_retL (el_is (el_lcNL (fun i => decide (setI (b.p i) = s)) (fun i => .int (b.p i).born) (vl_people N.obj (ev_var rfl) ea_nil (spL_at N ⟨rfl, rfl⟩)) (by rw [rng_len]; omega) (fun _ => rfl) (fun i y H1 e hy => ?_) fun i y H1 e hy _ => ?_) ?_) k
  · obtain ⟨rfl, hi⟩ := rng_get hy
    exact et_test (ev_is (ev_op (nv_set T (N.ext e) (ev_var rfl) hi (ev_var rfl)) (ev_var rfl) (rv_eq rfl)) (congrArg V.bl vint_eq))
  · obtain ⟨rfl, hi⟩ := rng_get hy
    exact nv_born T (N.ext e) (ev_var rfl) hi (ev_var rfl)
  · rw [rng_len]
    rfl
theorem pure_have_the_name_of (T : Txt K mg A) (vs : List V) (H : Hp) (Q : VK) (E : XK) : spAlike A vs H Q E → t_have_the_name_of K A (spNameOf A) { nx := fun _ H' => Q .non H', rt := Q } (start ["self", "number", "other"] vs) H := by
  rintro ⟨a, x, b, ws, xs, rfl, N, ⟨s, rfl, rfl⟩, k⟩
  have := N.ok.sets
  refine s_retL (el_is (el_lcR1 (fun _ => true) (fun i => .bl (decide (b.name i = b.name s))) (ea_cons (vf_set_count T N.obj (ev_var rfl)) ea_nil) (by constructor <;> omega) (fun _ => rfl) (fun _ _ _ _ => et_yes) fun i H1 e hi _ => ?_) ?_) k
  · exact ev_is (ev_op (vm_name_of (N.ext e).obj (ev_var rfl) (ea_cons (ev_var rfl) ea_nil) (spQ_at (N.ext e) ⟨i, rfl, rfl⟩)) (vm_name_of (N.ext e).obj (ev_var rfl) (ea_cons (ev_var rfl) ea_nil) (spQ_at (N.ext e) ⟨s, rfl, rfl⟩)) (rv_eq rfl)) (congrArg V.bl (by rw [vint_eq]; exact deq))
  · rw [Int.toNat_natCast, given_all, List.map_map]
    rfl
theorem pure_is_senior (T : Txt K mg A) (vs : List V) (H : Hp) (Q : VK) (E : XK) : spSenior A vs H Q E → t_is_senior K A { nx := fun _ H' => Q .non H', rt := Q } (start ["self", "person", "other"] vs) H := by
  rintro ⟨a, x, b, ws, v, rfl, N, ⟨i, j, rfl, hi, hj, rfl⟩, k⟩
  exact s_ret (ev_op (nv_set T N (ev_var rfl) hi (ev_var rfl)) (nv_set T N (ev_var rfl) hj (ev_var rfl)) rv_I0) k
theorem pure_place_of (T : Txt K mg A) (vs : List V) (H : Hp) (Q : VK) (E : XK) : spPlace A vs H Q E → t_place_of K A { nx := fun _ H' => Q .non H', rt := Q } (start ["self", "person"] vs) H := by
  rintro ⟨a, x, b, i, rfl, N, hi, k⟩
  exact s_retU (eu_tup (ea_cons (nv_set T N (ev_var rfl) hi (ev_var rfl)) (ea_cons (nv_born T N (ev_var rfl) hi (ev_var rfl)) (ea_cons (ev_var rfl) ea_nil))) (by show 3 ≤ 100000; omega)) k
end
end Ag

/-! AgN: the specification's lists, as the program makes them. -/
namespace Ag
open Km493 (Book Person Band Desk bits insertBy sortBy)

/-! ### sets of numbers -/
def sel (bs : List Bool) : List Nat := (List.range bs.length).filter fun i => bs.getD i false
theorem sel_map (n : Nat) (g : Nat → Bool) : sel ((List.range n).map g) = (List.range n).filter g := by
  unfold sel
  rw
      [List.length_map, List.length_range]
  refine List.filter_congr fun i hi => ?_
  have hi' : i < n := List.mem_range.mp hi
  rw [List.getD_eq_getElem?_getD, List.getElem?_map, List.getElem?_range hi']
  rfl
theorem bits_snoc (l : List Nat) (i : Nat) : bits (l ++ [i]) = bits l + 2 ^ i := by
  unfold bits
  rw [List.map_append, List.foldl_append]
  rfl
theorem any_sel (n : Nat) (g : Nat → Bool) : ((List.range n).map g).any id = true ↔ (List.range n).filter g ≠ [] := by
  rw [List.any_eq_true]
  constructor
  · rintro ⟨b, hb, h⟩ e
    obtain ⟨i, hi, rfl⟩ := List.mem_map.mp hb
    have := List.filter_eq_nil_iff.mp e i hi
    exact this h
  · intro h
    obtain ⟨i, hi⟩ := List.exists_mem_of_ne_nil _ h
    obtain ⟨h1, h2⟩ := List.mem_filter.mp hi
    exact ⟨g i, List.mem_map.mpr ⟨i, h1, rfl⟩, h2⟩

/-! ### which set -/
theorem set_iff {b : Book} {i s : Nat} : (b.set_ i == some s) = decide (setI (b.p i) = (s : Int)) := by
  unfold Km493.Book.set_ setI
  cases (b.p i).joined with
  | none =>
    have : ¬ ((-1 : Int) = (s : Int)) := by omega
    simp [this]
  | some j =>
    by_cases h : j.2 = s
    · subst h; simp
    · have : ¬ ((j.2 : Int) = (s : Int)) := by omega
      simp [h, this]
theorem members_eq (b : Book) (s : Nat) : b.members s = b.all.filter fun i => decide (setI (b.p i) = (s : Int)) := by
  unfold Km493.Book.members
  exact List.filter_congr fun i _ => set_iff
theorem people_p (b : Book) : b.people = b.all.map b.p := by
  refine List.ext_getElem? fun i => ?_
  unfold Km493.Book.all
  rw [List.getElem?_map]
  by_cases hi : i < b.people.length
  · rw [p_at hi, List.getElem?_range hi]; rfl
  · rw [List.getElem?_eq_none_iff.mpr (by omega), List.getElem?_eq_none_iff.mpr (by rw [List.length_range]; omega)]; rfl
theorem count_members (b : Book) (s : Nat) : (setsI b.people).count (s : Int) = (b.members s).length := by
  rw [members_eq, setsI]
  conv => lhs; rw [people_p]
  rw [List.map_map, List.count_eq_countP, List.countP_map, List.countP_eq_length_filter]
  congr 1

/-! ### the order of seniors -/
/-- the key of a person: set, year, number -/
def key3 (b : Book) (i : Nat) : List Int := [setI (b.p i), ((b.p i).born : Int), (i : Int)]
/-- ahead of another, in a set -/
def ahead (f : Nat → Nat) (i j : Nat) : Prop := f i < f j ∨ (f i = f j ∧ i < j)
theorem insert_mem {f : Nat → Nat} {a x : Nat} : ∀ {l : List Nat}, x ∈ insertBy f a l ↔ x = a ∨ x ∈ l
  | [] => by simp [insertBy]
  | b :: l => by
    unfold insertBy
    split
    · simp
    · rw [List.mem_cons, insert_mem (l := l), List.mem_cons]
      constructor
      · rintro (h | h | h)
        · exact .inr (.inl h)
        · exact .inl h
        · exact .inr (.inr h)
      · rintro (h | h | h)
        · exact .inr (.inl h)
        · exact .inl h
        · exact .inr (.inr h)
theorem insert_perm {f : Nat → Nat} {a : Nat} : ∀ (l : List Nat), (insertBy f a l).Perm (a :: l)
  | [] => .refl _
  | b :: l => by
    unfold insertBy
    split
    · exact .refl _
    · exact ((insert_perm l).cons b).trans (List.Perm.swap a b l)
theorem insert_sorted {f : Nat → Nat} {a : Nat} : ∀ {l : List Nat}, l.Pairwise (ahead f) → (∀ x ∈ l, x < a) → (insertBy f a l).Pairwise (ahead f)
  | [], _, _ => List.pairwise_singleton _ _
  | b :: l, h, hl => by
    obtain ⟨h1, h2⟩ :=
        List.pairwise_cons.mp h
    unfold insertBy
    split
    · rename_i c
      refine List.pairwise_cons.mpr ⟨fun x hx => ?_, h⟩
      rcases List.mem_cons.mp hx
          with rfl | hx
      · exact .inl c
      · rcases h1 x hx with z | ⟨z, _⟩
        · exact .inl (Nat.lt_trans c z)
        · exact .inl (by rw [← z]; exact c)
    · rename_i c
      refine List.pairwise_cons.mpr ⟨fun x hx => ?_, insert_sorted h2 fun x hx => hl x (List.mem_cons_of_mem _ hx)⟩
      rcases insert_mem.mp hx with rfl | hx
      · rcases Nat.lt_or_ge (f b) (f x) with z | z
        · exact .inl z
        · exact .inr ⟨by omega, hl b (List.mem_cons_self ..)⟩
      · exact h1 x hx
theorem fold_sort {f : Nat → Nat} : ∀ (l r : List Nat), r.Pairwise (ahead f) → l.Pairwise (· < ·) → (∀ x ∈ r, ∀ y ∈ l, x < y) →
    (l.foldl (fun r a => insertBy f a r) r).Pairwise (ahead f) ∧ (l.foldl (fun r a => insertBy f a r) r).Perm (r ++ l)
  | [], r, h, _, _ => ⟨h, by rw [List.append_nil]; exact .refl _⟩
  | a :: l, r, h, hl, hx => by
    obtain ⟨l1, l2⟩ := List.pairwise_cons.mp hl
    obtain ⟨h1, h2⟩ := fold_sort l (insertBy f a r) (insert_sorted h fun x m => hx x m a (List.mem_cons_self ..)) l2 (fun x hx' y hy => by
      rcases insert_mem.mp hx' with rfl | hx'
      · exact l1 y hy
      · exact hx x hx' y (List.mem_cons_of_mem _ hy))
    refine ⟨h1, h2.trans ?_⟩
    have := (insert_perm (f := f) (a := a) r).append_right l
    refine this.trans ?_
    rw [List.cons_append]
    exact List.perm_middle.symm
theorem members_sorted (b : Book) (s : Nat) : (b.members s).Pairwise (· < ·) := by
  unfold Km493.Book.members Km493.Book.all
  exact List.Pairwise.filter _ (List.pairwise_lt_range)
theorem sort_members (b : Book) (s : Nat) : (sortBy (fun i => (b.p i).born) (b.members s)).Pairwise (ahead fun i => (b.p i).born) ∧ (sortBy (fun i => (b.p i).born) (b.members s)).Perm (b.members s) := by
  obtain ⟨h1, h2⟩ := fold_sort (f := fun i => (b.p i).born) (b.members s) [] .nil (members_sorted b s) (fun x hx => nomatch hx)
  rw [List.nil_append] at h2
  exact ⟨h1, h2⟩
theorem mem_members {b : Book} {s i : Nat} : i ∈ b.members s ↔ i < b.people.length ∧ setI (b.p i) = (s : Int) := by
  rw [members_eq, List.mem_filter, decide_eq_true_eq]
  unfold Km493.Book.all
  rw [List.mem_range]
theorem mem_sort {b : Book} {s i : Nat} : i ∈ sortBy (fun i => (b.p i).born) (b.members s) ↔ i ∈ b.members s := (sort_members b s).2.mem_iff
theorem rank_mem {b : Book} (ok : BookOk b) {i : Nat} : i ∈ b.rank ↔ i < b.people.length ∧ (b.p i).joined.isSome = true := by
  unfold Km493.Book.rank
  rw [List.mem_flatMap]
  constructor
  · rintro ⟨s, _, h⟩
    obtain ⟨h1, h2⟩ := mem_members.mp (mem_sort.mp h)
    refine ⟨h1, ?_⟩
    rw [← joined_set, h2]
    have : ¬ ((s : Int) = -1) := by omega
    simp [this]
  · rintro ⟨h1, h2⟩
    obtain ⟨j, hj⟩ := Option.isSome_iff_exists.mp h2
    exact ⟨j.2, List.mem_range.mpr (ok.joined _ (p_mem h1) j hj).1, mem_sort.mpr (mem_members.mpr ⟨h1, by unfold setI; rw [hj]⟩)⟩
theorem key3_lt {b : Book} {i j : Nat} (h : setI (b.p i) < setI (b.p j) ∨ (setI (b.p i) = setI (b.p j) ∧ ahead (fun i => (b.p i).born) i j)) : key3 b i < key3 b j := by
  unfold key3
  rw [List.cons_lt_cons_iff]
  rcases h with h | ⟨h, h'⟩
  · exact .inl h
  · refine .inr ⟨h, ?_⟩
    rw [List.cons_lt_cons_iff]
    rcases h' with h' | ⟨h', h''⟩
    · exact .inl (Int.ofNat_lt.mpr h')
    · refine .inr ⟨congrArg Int.ofNat h', ?_⟩
      rw [List.cons_lt_cons_iff]
      exact .inl (Int.ofNat_lt.mpr h'')
theorem rank_sorted (b : Book) : b.rank.Pairwise fun i j => key3 b i < key3 b j := by
  unfold Km493.Book.rank
  rw [List.flatMap, List.pairwise_flatten]
  constructor
  · intro l hl
    obtain ⟨s, hs, rfl⟩ := List.mem_map.mp hl
    refine List.Pairwise.imp_of_mem (fun {x y} hx hy h => ?_) (sort_members b s).1
    have h1 := (mem_members.mp (mem_sort.mp hx)).2
    have h2 := (mem_members.mp (mem_sort.mp hy)).2
    exact key3_lt (.inr ⟨h1.trans h2.symm, h⟩)
  · rw [List.pairwise_map]
    refine List.Pairwise.imp (fun {s t} h x hx y hy => ?_) List.pairwise_lt_range
    have h1 := (mem_members.mp (mem_sort.mp hx)).2
    have h2 := (mem_members.mp (mem_sort.mp hy)).2
    exact key3_lt (.inl (by rw [h1, h2]; exact Int.ofNat_lt.mpr h))
theorem rank_perm {b : Book} (ok : BookOk b) : b.rank.Perm (b.all.filter fun i => (b.p i).joined.isSome) := by
  have n1 : b.rank.Nodup := (rank_sorted b).imp fun {x y} h e => by
    subst e
    exact List.lt_irrefl _ h
  have n2 : (b.all.filter fun i => (b.p i).joined.isSome).Nodup := List.Pairwise.filter _ List.nodup_range
  refine (List.perm_ext_iff_of_nodup n1 n2).mpr fun i => ?_
  rw [rank_mem ok, List.mem_filter]
  unfold Km493.Book.all
  rw [List.mem_range]

/-- two lists in order, of the same members, are one -/
theorem order_unique {α : Type} {r : α → α → Prop} (anti : ∀ x y, r x y → r y x → x = y) : ∀ {l m : List α}, l.Perm m → l.Pairwise r → m.Pairwise r → l = m
  | [], m, p, _, _ => (List.nil_perm.mp p).symm
  | x :: l, [], p, _, _ => by cases p.length_eq
  | x :: l, y :: m, p, hl, hm => by
    obtain ⟨l1, l2⟩ := List.pairwise_cons.mp hl
    obtain ⟨m1, m2⟩ := List.pairwise_cons.mp hm
    have e : x = y := by
      have hx : x ∈ y :: m := p.mem_iff.mp (List.mem_cons_self ..)
      have hy : y ∈ x :: l := p.mem_iff.mpr (List.mem_cons_self ..)
      rcases List.mem_cons.mp hx
          with e | hx
      · exact e
      · rcases List.mem_cons.mp hy with e | hy
        · exact e.symm
        · exact anti _ _ (l1 y hy) (m1 x hx)
    subst e
    rw [order_unique anti ((List.perm_cons x).mp p) l2 m2]
/-- the same, of persons as ints -/
def kk (b : Book) (n : Int) : List Int := [setI (b.p n.toNat), ((b.p n.toNat).born : Int), n]
theorem kk_nat (b : Book) (i : Nat) : kk b (i : Int) = key3 b i := by unfold kk key3; rw [Int.toNat_natCast]
theorem kk_inj {b : Book} {m n : Int} (h : kk b m = kk b n) : m = n := by
  unfold kk at h
  injection h with _ h
  injection h with _ h
  injection h

/-! ### the turned -/
def innerN (b : Book) (p : Nat) (os : List Nat) : List Nat := (os.filter fun o => decide ((b.p o).born < (b.p p).born) && decide (setI (b.p p) < setI (b.p o))).map fun o => (b.p p).born - (b.p o).born
def apartN (b : Book) (l m : List Nat) : List Nat := l.flatMap fun p => innerN b p m
theorem inner_snoc (b : Book) (p o : Nat) (os : List Nat) : innerN b p (os ++ [o]) = innerN b p os ++ (if (decide ((b.p o).born < (b.p p).born) && decide (setI (b.p p) < setI (b.p o))) = true then [(b.p p).born - (b.p o).born] else []) := by
  unfold innerN
  rw [List.filter_append, List.map_append]
  congr 1
  by_cases h : (decide ((b.p o).born < (b.p p).born) && decide (setI (b.p p) < setI (b.p o))) = true
  · rw [if_pos h, List.filter_cons, if_pos h]; rfl
  · rw [if_neg h, List.filter_cons, if_neg h]; rfl
theorem apart_snoc (b : Book) (p : Nat) (l m : List Nat) : apartN b (l ++ [p]) m = apartN b l m ++ innerN b p m := by
  unfold apartN
  rw [List.flatMap_append, List.flatMap_cons, List.flatMap_nil, List.append_nil]
theorem inner_perm {b : Book} {p : Nat} {m m' : List Nat} (h : m.Perm m') : (innerN b p m).Perm (innerN b p m') := (h.filter _).map _
theorem flat_perm {α β : Type} {f g : α → List β} : ∀ (l : List α), (∀ a ∈ l, (f a).Perm (g a)) → (l.flatMap f).Perm (l.flatMap g)
  | [], _ => .refl _
  | a :: l, h => by
    rw [List.flatMap_cons, List.flatMap_cons]
    exact (h a (List.mem_cons_self ..)).append (flat_perm l fun x hx => h x (List.mem_cons_of_mem _ hx))
theorem flat_congr {α β : Type} {f g : α → List β} : ∀ (l : List α), (∀ a ∈ l, f a = g a) → l.flatMap f = l.flatMap g
  | [], _ => rfl
  | a :: l, h => by
    rw [List.flatMap_cons, List.flatMap_cons, h a (List.mem_cons_self ..), flat_congr l fun x hx => h x (List.mem_cons_of_mem _ hx)]
theorem flat_filter {α β : Type} (c : α → Bool) (f : α → List β) : ∀ (l : List α), (∀ a ∈ l, c a = false → f a = []) → (l.filter c).flatMap f = l.flatMap f
  | [], _ => rfl
  | a :: l, h => by
    have ih := flat_filter c f l fun x hx => h x (List.mem_cons_of_mem _ hx)
    rw [List.filter_cons, List.flatMap_cons]
    cases hc : c a with
    | true => rw [if_pos rfl, List.flatMap_cons, ih]
    | false => rw [if_neg (by decide), h a (List.mem_cons_self ..) hc, ih]; rfl
theorem flat_append {α β : Type} (f g : α → List β) : ∀ (l : List α), (l.flatMap fun a => f a ++ g a).Perm (l.flatMap f ++ l.flatMap g)
  | [] => .refl _
  | a :: l => by
    rw [List.flatMap_cons, List.flatMap_cons, List.flatMap_cons, List.append_assoc, List.append_assoc]
    refine
        List.Perm.append_left _ ?_
    refine ((flat_append f g l).append_left (g a)).trans ?_
    rw
        [← List.append_assoc, ← List.append_assoc]
    exact List.perm_append_comm.append_right _
theorem flat_swap {α β γ : Type} (g : α → β → List γ) : ∀ (l : List α) (m : List β), (l.flatMap fun a => m.flatMap fun b => g a b).Perm (m.flatMap fun b => l.flatMap fun a => g a b)
  | [], m => by
    have : (m.flatMap fun b => ([] : List α).flatMap fun a => g a b) = [] := by
      induction m with
      | nil => rfl
      | cons b m ih => rw [List.flatMap_cons, ih]; rfl
    rw [this]
    exact .refl _
  | a :: l, m => by
    rw [List.flatMap_cons]
    refine ((flat_swap g l m).append_left _).trans ?_
    refine (flat_append (fun b => g a b) (fun b => l.flatMap fun a => g a b) m).symm.trans ?_
    rw [flat_congr m fun b _ => (show g a b ++ (l.flatMap fun a => g a b) = (a :: l).flatMap fun a => g a b from rfl)]
theorem filter_map_flat {α β : Type} (c : α → Bool) (f : α → β) : ∀ (l : List α), (l.filter c).map f = l.flatMap fun a => if c a = true then [f a] else []
  | [] => rfl
  | a :: l => by
    rw [List.filter_cons, List.flatMap_cons]
    cases hc : c a with
    | true => rw [if_pos rfl, if_pos rfl, List.map_cons, filter_map_flat c f l]; rfl
    | false => rw [if_neg (by decide), if_neg (by decide), filter_map_flat c f l]; rfl
theorem apart_perm {b : Book} {l l' m m' : List Nat} (h : l.Perm l') (h' : m.Perm m') : (apartN b l m).Perm (apartN b l' m') := by
  unfold apartN
  exact (List.Perm.flatMap_right _ h).trans (flat_perm _ fun a _ => inner_perm h')
def cell (b : Book) (j i : Nat) : List Nat := if (decide ((b.p i).born < (b.p j).born) && b.senior j i) = true then [(b.p j).born - (b.p i).born] else []
theorem senior_eq {b : Book} {i j : Nat} : b.senior i j = ((b.p i).joined.isSome && ((b.p j).joined.isSome && decide (setI (b.p i) < setI (b.p j)))) := by
  unfold Km493.Book.senior Km493.Book.set_ setI
  cases (b.p i).joined with
  | none => rfl
  | some x =>
    cases (b.p j).joined with
    | none => rfl
    | some y => simp [Int.ofNat_lt]
theorem twisted_cells (b : Book) : (b.twisted.map fun p => (b.p p.2).born - (b.p p.1).born) = b.all.flatMap fun i => b.all.flatMap fun j => cell b j i := by
  unfold Km493.Book.twisted
  rw [filter_map_flat, List.flatMap_assoc]
  refine flat_congr _ fun i _ => ?_
  rw [List.flatMap_map]
  rfl
theorem apart_cells (b : Book) : apartN b (b.all.filter fun i => (b.p i).joined.isSome) (b.all.filter fun i => (b.p i).joined.isSome) = b.all.flatMap fun j => b.all.flatMap fun i => cell b j i := by
  have z : ∀ j, (b.p j).joined.isSome = false → (b.all.flatMap fun i => cell b j i) = [] := fun j hj => by
    rw [List.flatMap_eq_nil_iff]
    intro i _
    unfold cell
    rw [senior_eq, hj]
    simp
  rw [← flat_filter (fun i => (b.p i).joined.isSome) (fun j => b.all.flatMap fun i => cell b j i) b.all fun j _ hj => z j hj]
  unfold apartN
  refine flat_congr _ fun j hj => ?_
  have hj' := (List.mem_filter.mp hj).2
  unfold innerN
  rw [filter_map_flat, flat_filter]
  · refine flat_congr _ fun i _ => ?_
    unfold cell
    rw [senior_eq, hj']
    cases hi : (b.p i).joined.isSome with
    | true => rfl
    | false =>
      have e : setI (b.p i) = -1 := by
        unfold setI
        cases h : (b.p i).joined with
        | none => rfl
        | some q => rw [h] at hi; cases hi
      have n : ¬ (setI (b.p j) < setI (b.p i)) := by
        rw [e]
        unfold setI
        cases (b.p j).joined with
        | none => show ¬ ((-1 : Int) < -1); omega
        | some q => show ¬ ((q.2 : Int) < -1); omega
      simp [n]
  · intro i _ hi
    have e : setI (b.p i) = -1 := by
      unfold setI
      cases h : (b.p i).joined with
      | none => rfl
      | some q => rw [h] at hi; cases hi
    have n : ¬ (setI (b.p j) < setI (b.p i)) := by
      rw [e]
      unfold setI
      cases (b.p j).joined with
      | none => show ¬ ((-1 : Int) < -1); omega
      | some q => show ¬ ((q.2 : Int) < -1); omega
    simp [n]
theorem apart_twisted {b : Book} (ok : BookOk b) : (apartN b b.rank b.rank).Perm (b.twisted.map fun p => (b.p p.2).born - (b.p p.1).born) := by
  refine (apart_perm (rank_perm ok) (rank_perm ok)).trans ?_
  rw [apart_cells, twisted_cells]
  exact (flat_swap (fun i j => cell b j i) b.all b.all).symm
theorem fold_max_le : ∀ (l : List Nat) (a : Nat), a ≤ l.foldl max a ∧ (∀ x ∈ l, x ≤ l.foldl max a) ∧ (l.foldl max a = a ∨ l.foldl max a ∈ l)
  | [], a => ⟨Nat.le_refl _, fun x hx => (nomatch hx), .inl rfl⟩
  | y :: l, a => by
    obtain ⟨h1, h2, h3⟩ := fold_max_le l (max a y)
    rw [List.foldl_cons]
    refine ⟨by omega, fun x hx => ?_, ?_⟩
    · rcases List.mem_cons.mp hx with rfl | hx
      · omega
      · exact h2 x hx
    · rcases h3 with h3 | h3
      · rcases Nat.le_total a y with c | c
        · right; rw [h3, Nat.max_eq_right c]; exact List.mem_cons_self ..
        · left; rw [h3, Nat.max_eq_left c]
      · right; exact List.mem_cons_of_mem _ h3
theorem fold_min_le : ∀ (l : List Nat) (a : Nat), l.foldl min a ≤ a ∧ (∀ x ∈ l, l.foldl min a ≤ x) ∧ (l.foldl min a = a ∨ l.foldl min a ∈ l)
  | [], a => ⟨Nat.le_refl _, fun x hx => (nomatch hx), .inl rfl⟩
  | y :: l, a => by
    obtain ⟨h1, h2, h3⟩ := fold_min_le l (min a y)
    rw [List.foldl_cons]
    refine ⟨by omega, fun x hx => ?_, ?_⟩
    · rcases List.mem_cons.mp hx with rfl | hx
      · omega
      · exact h2 x hx
    · rcases h3 with h3 | h3
      · rcases Nat.le_total a y with c | c
        · left; rw [h3, Nat.min_eq_left c]
        · right; rw [h3, Nat.min_eq_right c]; exact List.mem_cons_self ..
      · right; exact List.mem_cons_of_mem _ h3
theorem max0 {l : List Nat} (h : l ≠ []) : l.foldl max 0 ∈ l ∧ ∀ x ∈ l, x ≤ l.foldl max 0 := by
  obtain ⟨h1, h2, h3⟩ := fold_max_le l 0
  refine ⟨?_, h2⟩
  rcases h3 with h3 | h3
  · obtain ⟨x, hx⟩ := List.exists_mem_of_ne_nil _ h
    have := h2 x hx
    have e : l.foldl max 0 = x := by omega
    rw [e]; exact hx
  · exact h3
theorem min300 {l : List Nat} (h : l ≠ []) (hb : ∀ x ∈ l, x ≤ 300) : l.foldl min 300 ∈ l ∧ ∀ x ∈ l, l.foldl min 300 ≤ x := by
  obtain ⟨h1, h2, h3⟩ := fold_min_le l 300
  refine ⟨?_, h2⟩
  rcases h3 with h3 | h3
  · obtain ⟨x, hx⟩ := List.exists_mem_of_ne_nil _ h
    have := h2 x hx
    have := hb x hx
    have e : l.foldl min 300 = x := by omega
    rw [e]; exact hx
  · exact h3
end Ag

/-! AgR: the seniors in order, the turned, a set of numbers. -/
namespace Ag
open PySem PySem.Spec PyProof.Rows L2 Evl
open Km493 (Book Person Band Desk bits)

theorem dataLe_kd (k : Int → List Int) : PySem.W.dataLe false (kd k) = fun p q => decide (k p ≤ k q) := by
  funext p q
  show (!PySem.W.dataLt (.tuple ((k q).map .int)) (.tuple ((k p).map .int))) = _
  rw [PySem.W.dataLt_tuple]
  show (!PySem.W.rowLt ((k q).map .int) ((k p).map .int)) = _
  rw [PySem.W.dataLt_ints]
  by_cases h : k q < k p
  · rw [decide_eq_true h, decide_eq_false (fun r => List.not_lt.mpr r h)]; rfl
  · rw [decide_eq_false h, decide_eq_true (List.not_lt.mp h)]; rfl
theorem rank_sort {b : Book} (ok : BookOk b) : (((b.all.filter fun i => (b.p i).joined.isSome).map fun (i : Nat) => (i : Int)).mergeSort (PySem.W.dataLe false (kd (kk b)))) = b.rank.map fun (i : Nat) => (i : Int) := by
  rw [dataLe_kd]
  refine order_unique (r := fun p q => kk b p ≤ kk b q) (fun x y h1 h2 => kk_inj (List.le_antisymm h1 h2)) ?_ ?_ ?_
  · exact (List.mergeSort_perm _ _).trans ((rank_perm ok).symm.map _)
  · refine (List.pairwise_mergeSort (le := fun p q => decide (kk b p ≤ kk b q)) (fun x y z h1 h2 => ?_) (fun x y => ?_) _).imp fun {x y} h => of_decide_eq_true h
    · exact decide_eq_true (List.le_trans (of_decide_eq_true h1) (of_decide_eq_true h2))
    · rcases List.le_total (kk b x) (kk b y) with h | h
      · rw [decide_eq_true h]; rfl
      · rw [decide_eq_true h, Bool.or_true]
  · rw [List.pairwise_map]
    refine (rank_sorted b).imp fun {x y} h => ?_
    rw [kk_nat, kk_nat]
    exact List.le_of_lt h
theorem rank_few {b : Book} (ok : BookOk b) : b.rank.length ≤ 20 := by
  rw [(rank_perm ok).length_eq]
  refine Nat.le_trans (List.length_filter_le _ _) ?_
  unfold Km493.Book.all
  rw [List.length_range]
  exact ok.people

section
variable {K : PySem.W.Frag} {mg : Str → Option Value} {A : Adr}
abbrev natV (l : List Nat) : List V := l.map fun (i : Nat) => V.int i
abbrev spRanked (A : Adr) := spL A fun b ws xs => ws = [] ∧ xs = natV b.rank
abbrev spApart (A : Adr) := spL A fun b ws xs => ws = [] ∧ xs = natV (apartN b b.rank b.rank)
def spAsSet (K : PySem.W.Frag) : Sp := fun vs H Q _ => ∃ p bs, vs = [.ref p] ∧ SqL K H p (bs.map V.bl) ∧ RetL [.int (sel bs).length, .int (bits (sel bs))] H Q

theorem pure_ranked (T : Txt K mg A) (vs : List V) (H : Hp) (Q : VK) (E : XK) : spRanked A vs H Q E → t_ranked K A (spInSet A) (spPeople A) (spPlace A) { nx := fun _ H' => Q .non H', rt := Q } (start ["self", "joined", "person"] vs) H := by
  rintro ⟨a, x, b, ws, xs, rfl, N, ⟨rfl, rfl⟩, k⟩
  have hp := N.ok.people
  refine q_asgL (el_lcNL (fun i => (b.p i).joined.isSome) (fun i => .int i) (vl_people N.obj (ev_var rfl) ea_nil (spL_at N ⟨rfl, rfl⟩)) (by rw [rng_len]; omega) (fun _ => rfl) (fun i y H1 e hy => ?_) fun i y H1 e hy _ => ?_) fun l H1 hl e hl1 => ?_
  · obtain ⟨rfl, hi⟩ := rng_get hy
    exact et_B (vm_is_in_a_set (N.ext e).obj (ev_var rfl) (ea_cons (ev_var rfl) ea_nil) (spQ_at (N.ext e) ⟨i, rfl, hi, rfl⟩))
  · obtain ⟨rfl, hi⟩ := rng_get hy
    exact ev_var rfl
  · have e1 : given ((List.range b.people.length).map fun (i : Nat) => V.int i).length (fun i => (b.p i).joined.isSome) (fun i => V.int i) = ((b.all.filter fun i => (b.p i).joined.isSome).map fun (i : Nat) => (i : Int)).map V.int := by
      rw [rng_len, List.map_map]
      rfl
    rw [e1] at hl1
    have N1 := N.ext e
    refine s_retL (el_is (el_sortM (d := 2) (k := kk b) (ev_var rfl) (sq_of hl1) (ev_var rfl) N1.obj lm_place_of (fun _ => rfl) fun n hn => ?_) (by rw [rank_sort N.ok, List.map_map]; rfl)) fun p H2 h2 e2 h2' => k.go e h2 e2 h2'
    obtain ⟨i, hi, rfl⟩ := List.mem_map.mp hn
    have hi' : i < b.people.length := List.mem_range.mp (List.mem_filter.mp hi).1
    intro H3 e3 R hR
    refine ⟨a, x, b, i, rfl, N1.ext e3, hi', fun p H4 _ e4 h4 => hR p H4 e4 ?_⟩
    rw [kk_nat]
    exact h4

theorem bool_get {bs : List Bool} {i : Nat} {x : V} (h : (bs.map V.bl)[i]? = some x) : x = .bl (bs.getD i false) := by
  rw [List.getElem?_map] at h
  rw
      [List.getD_eq_getElem?_getD]
  cases e : bs[i]? with
  | none =>
      rw [e] at h; cases h
  | some c => rw [e] at h; exact (Option.some.inj h).symm
def selN (bs : List Bool) (i : Nat) : List Nat := (List.range i).filter fun i => bs.getD i false
theorem selN_succ (bs : List Bool) (i : Nat) : selN bs (i + 1) = selN bs i ++ (if bs.getD i false = true then [i] else []) := by
  unfold selN
  rw [List.range_succ, List.filter_append, List.filter_cons, List.filter_nil]
theorem pure_as_a_set (vs : List V) (H : Hp) (Q : VK) (E : XK) : spAsSet K vs H Q E → t_as_a_set K A { nx := fun _ H' => Q .non H', rt := Q } (start ["chosen", "how_many", "together", "power", "is_chosen"] vs) H := by
  rintro ⟨p, bs, rfl, hs, k⟩
  refine q_asg ev_c fun H1 e1 => q_asg ev_c fun H2 e2 => q_asg ev_c fun H3 e3 => ?_
  have e := (e1.trans e2).trans e3
  refine q_forLn (a := p) (xs := bs.map V.bl) (ev_var rfl) (ex_l e hs) (fun i σ' H' => Ex H H' ∧ ∃ y, σ' = [some (.ref p), some (.int (selN bs i).length), some (.int (bits (selN bs i))), some (.int ((2 ^ i : Nat) : Int)), y]) (fun H4 e4 => ⟨e.trans e4, _, rfl⟩) (fun i σ' H' _ q => ex_l q.1 hs) (fun i y σ' H' hy q => ?_) (fun σ' H' q => ?_)
  · obtain ⟨q1, z, rfl⟩ := q
    obtain rfl := bool_get hy
    have e2 : ((2 ^ i : Nat) : Int) + ((2 ^ i : Nat) : Int) = ((2 ^ (i + 1) : Nat) : Int) := by
      rw [Nat.pow_succ]; omega
    refine q_when (et_B (ev_var rfl)) (fun hb H4 e4 => ?_) (fun hb H4 e4 => ?_)
    · refine q_aug rfl ev_c fun H5 e5 => s_aug rfl (ev_var rfl) fun H6 e6 => s_aug rfl (ev_var rfl) fun H7 e7 => ⟨(((q1.trans e4).trans e5).trans e6).trans e7, some (.bl (bs.getD i false)), ?_⟩
      have h1 : selN bs (i + 1) = selN bs i ++ [i] := by rw [selN_succ, if_pos hb]
      rw [h1, bits_snoc, List.length_append, ← e2]
      simp [Int.natCast_add]
    · refine s_aug rfl (ev_var rfl) fun H7 e7 => ⟨(q1.trans e4).trans e7, some (.bl (bs.getD i false)), ?_⟩
      have h1 : selN bs (i + 1) = selN bs i := by rw [selN_succ, if_neg (by rw [hb]; decide), List.append_nil]
      rw [h1, ← e2]
      rfl
  · obtain ⟨q1, z, rfl⟩ := q
    have h1 : selN bs (bs.map V.bl).length = sel bs := by rw [List.length_map]; rfl
    rw [h1]
    exact s_retL (el_lst (ea_cons (ev_var rfl) (ea_cons (ev_var rfl) ea_nil)) (by show 2 ≤ 100000; omega)) fun p' H5 h5 e5 h5' => k.go q1 h5 e5 h5'

theorem nat_snoc (l : List Nat) (d : Nat) : natV (l ++ [d]) = natV l ++ [V.int d] := List.map_append ..
theorem nat_get {l : List Nat} {i : Nat} {x : V} (h : (natV l)[i]? = some x) : ∃ n, l[i]? = some n ∧ x = .int n := by
  rw [List.getElem?_map] at h
  cases e : l[i]? with
  | none =>
      rw [e] at h; cases h
  | some c => rw [e] at h; exact ⟨c, rfl, (Option.some.inj h).symm⟩
theorem pure_turned_apart (T : Txt K mg A) (vs : List V) (H : Hp) (Q : VK) (E : XK) : spApart A vs H Q E → t_turned_apart K A (spRanked A) (spSenior A) { nx := fun _ H' => Q .non H', rt := Q } (start ["self", "apart", "joined", "person", "other", "years"] vs) H := by
  rintro ⟨a, x, b, ws, xs, rfl, N, ⟨rfl, rfl⟩, k⟩
  have hfew := rank_few N.ok
  refine q_asgL (el_lst ea_nil (by decide)) fun p H1 hp e1 hp1 => ?_
  refine q_asgL (vl_ranked (N.ext e1).obj (ev_var rfl) ea_nil (spL_at (N.ext e1) ⟨rfl, rfl⟩)) fun l H2 hl e2 hl2 => ?_
  have lp : l ≠ p := fun z => by rw [z, hp1] at hl; cases hl
  refine q_forLn (a := l) (xs := natV b.rank) (ev_var rfl) (sq_of hl2)
    (fun i σ' H' => Ex H H' ∧ H' l = some (.lst (natV b.rank)) ∧ (apartN b (b.rank.take i) b.rank).length ≤ 20 * i ∧ H' p = some (.lst (natV (apartN b (b.rank.take i) b.rank))) ∧ ∃ y3 y4 y5, σ' = [some (.ref a), some (.ref p), some (.ref l), y3, y4, y5])
    (fun H4 e4 => ⟨(e1.trans e2).trans e4, e4 _ _ hl2, Nat.zero_le _, e4 _ _ (e2 _ _ hp1), _, _, _, rfl⟩) (fun i σ' H' _ q => sq_of q.2.1) (fun i y σ' H' hy q => ?_) (fun σ' H' q => ?_)
  · obtain ⟨q1, q2, q3, q4, y3, y4, y5, rfl⟩ := q
    obtain ⟨n, hn, rfl⟩ := nat_get hy
    have hil : i < b.rank.length := (List.getElem?_eq_some_iff.mp hn).1
    have hnm : n < b.people.length := ((rank_mem N.ok).mp (List.mem_of_getElem? hn)).1
    have et : b.rank.take (i + 1) = b.rank.take i ++ [n] := by rw [List.take_add_one, hn]; rfl
    refine s_forLn (a := l) (xs := natV b.rank) (ev_var rfl) (sq_of q2)
      (fun j σ' H' => Ex H H' ∧ H' l = some (.lst (natV b.rank)) ∧ (innerN b n (b.rank.take j)).length ≤ j ∧ H' p = some (.lst (natV (apartN b (b.rank.take i) b.rank ++ innerN b n (b.rank.take j)))) ∧ ∃ y4 y5, σ' = [some (.ref a), some (.ref p), some (.ref l), some (.int n), y4, y5])
      (fun H4 e4 => ⟨q1.trans e4, e4 _ _ q2, Nat.zero_le _, by rw [e4 _ _ q4, List.take_zero]; show _ = some (HO.lst (natV (_ ++ []))); rw [List.append_nil], _, _, rfl⟩) (fun j σ' H' _ q => sq_of q.2.1) (fun j y σ' H' hy q => ?_) (fun σ' H' q => ?_)
    · obtain ⟨r1, r2, r3, r4, z4, z5, rfl⟩ := q
      obtain ⟨o, ho, rfl⟩ := nat_get hy
      have hjl : j < b.rank.length := (List.getElem?_eq_some_iff.mp ho).1
      have hom : o < b.people.length := ((rank_mem N.ok).mp (List.mem_of_getElem? ho)).1
      have ej : b.rank.take (j + 1) = b.rank.take j ++ [o] := by rw [List.take_add_one, ho]; rfl
      have N2 := N.ext r1
      have is := inner_snoc b n o (b.rank.take j)
      refine q_asg (ev_op (nv_born T N2 (ev_var rfl) hnm (ev_var rfl)) (nv_born T N2 (ev_var rfl) hom (ev_var rfl)) rv_I0) fun H5 e5 => ?_
      refine s_when (b := decide ((b.p o).born < (b.p n).born) && decide (setI (b.p n) < setI (b.p o))) (et_and (et_test (ev_is (ev_op (r := rGt) (ev_var rfl) ev_c rv_I0) (congrArg V.bl ?_))) fun _ => et_B (vm_is_senior (N2.ext e5).obj (ev_var rfl) (ea_cons (ev_var rfl) (ea_cons (ev_var rfl) ea_nil)) (spQ_at (N2.ext e5) ⟨n, o, rfl, hnm, hom, rfl⟩))) (fun hb H6 e6 => ?_) (fun hb H6 e6 => ?_)
      · by_cases c : (b.p o).born < (b.p n).born
        · rw [decide_eq_true c]; exact decide_eq_true (by omega)
        · rw [decide_eq_false c]; exact decide_eq_false (by omega)
      · have hc : (b.p o).born < (b.p n).born := of_decide_eq_true (Bool.and_eq_true .. ▸ hb).1
        rw [if_pos hb] at is
        refine s_app ((e5.trans e6) _ _ r4) (ev_var rfl) (ev_var rfl) ?_ fun H7 e7 => ⟨Ex.mut (((r1.trans e5).trans e6).trans e7) hp, ?_, ?_, ?_, _, _, rfl⟩
        · rw [List.length_map, List.length_append]; omega
        · rw [upd_ne lp]; exact ((e5.trans e6).trans e7) _ _ r2
        · rw [ej, is, List.length_append]; show _ + 1 ≤ _; omega
        · have ed : V.int (((b.p n).born : Int) - ((b.p o).born : Int)) = V.int (((b.p n).born - (b.p o).born : Nat) : Int) := congrArg V.int (by omega)
          rw [upd_same, ej, is, ← List.append_assoc, nat_snoc, ← ed]
      · rw [if_neg (by rw [hb]; decide), List.append_nil] at is
        refine ⟨(r1.trans e5).trans e6, (e5.trans e6) _ _ r2, ?_, ?_, _, _, rfl⟩
        · rw [ej, is]; omega
        · rw [ej, is]; exact (e5.trans e6) _ _ r4
    · obtain ⟨r1, r2, r3, r4, z4, z5, rfl⟩ := q
      have lr : (natV b.rank).length = b.rank.length := List.length_map _
      rw [lr, List.take_length] at r3 r4
      refine ⟨r1, r2, ?_, ?_, _, _, _, rfl⟩
      · rw [et, apart_snoc, List.length_append]; omega
      · rw [et, apart_snoc]; exact r4
  · obtain ⟨q1, q2, q3, q4, y3, y4, y5, rfl⟩ := q
    have lr : (natV b.rank).length = b.rank.length := List.length_map _
    rw [lr, List.take_length] at q4
    exact s_ret (ev_var rfl) fun H5 e5 => k p H5 hp (q1.trans e5) (e5 _ _ q4)
end
end Ag

/-! AgC: the changes of the class. -/
namespace Ag
open PySem PySem.Spec PyProof.Rows L2 Evl
open Km493 (Book Person Band Desk bits)

/-- all that was there but at l is as it was -/
structure FrL (l : List Addr) (H H' : Hp) : Prop where
  keep : ∀ z o, z ∉ l → H z = some o → H' z = some o
  dom : ∀ z o, H z = some o → ∃ o', H' z = some o'
instance {l : List Addr} {H H' : Hp} : CoeFun (FrL l H H') (fun _ => ∀ z o, z ∉ l → H z = some o → H' z = some o) := ⟨FrL.keep⟩
section
variable {K : PySem.W.Frag} {mg : Str → Option Value} {A : Adr} {σ : L2.St} {H H' H1 : Hp} {ta tb te : TE} {y v : V} {a C dx z p : Addr} {fs : List (Str × V)} {f : Str} {xs : List V} {D : Ends} {tz : TS} {l l' : List Addr} {o : HO}
theorem FrL.refl : FrL l H H := ⟨fun _ _ _ h => h, fun _ o h => ⟨o, h⟩⟩
theorem FrL.trans (f : FrL l H H') (g : FrL l H' H1) : FrL l H H1 := ⟨fun z o hz h => g z o hz (f z o hz h), fun z o h => let ⟨o', h'⟩ := f.dom z o h; g.dom z o' h'⟩
theorem FrL.mono (f : FrL l H H') (s : ∀ z ∈ l, z ∈ l') : FrL l' H H' := ⟨fun z o hz h => f z o (fun m => hz (s z m)) h, f.dom⟩
theorem FrL.of (e : Ex H H') : FrL l H H' := ⟨fun z o _ h => e z o h, fun z o h => ⟨o, e z o h⟩⟩
theorem FrL.write (e : Ex H H') (hz : z ∈ l) : FrL l H (upd H' z o) := ⟨fun w o' hw h => by
  rw [upd_ne (fun q => hw (by rw [q]; exact hz))]
  exact e w o' h, fun w o' h => by
  by_cases c : w = z
  · exact ⟨o, by rw [c]; exact upd_same⟩
  · exact ⟨o', by rw [upd_ne c]; exact e w o' h⟩⟩
theorem FrL.fresh (f : FrL l H H') (h : H' z = none) : H z = none := by
  cases e : H z with
  | none => rfl
  | some o =>
    obtain ⟨o', h'⟩ := f.dom z o e
    rw [h'] at h
    cases h
theorem FrL.none (f : FrL l H H') (hz : z ∉ l) (h : H' z = none) : H z = none := by
  cases e : H z with
  | none => rfl
  | some o => rw [f z o hz e] at h; cases h
theorem s_fld' (hv : Ev te σ H y) (ha : Ev ta σ H (.ref a)) (O : H a = some (.ins C dx fs)) (c : Cls K C) (n : NoAttr K C f) (hl : fs.length < 1000) (k : ∀ G, FrL [a] H G → G a = some (.ins C dx (putF f y fs)) → D.nx σ G) : sFld K ta te f D σ H :=
  s_fld hv ha O c n hl fun H1 e => k _ (FrL.write e (List.mem_singleton.mpr rfl)) upd_same
theorem s_fldL' (hv : EvL te σ H xs) (ha : Ev ta σ H (.ref a)) (O : H a = some (.ins C dx fs)) (c : Cls K C) (n : NoAttr K C f) (hl : fs.length < 1000) (k : ∀ p G, H p = none → p ≠ a → FrL [a] H G → G a = some (.ins C dx (putF f (.ref p) fs)) → G p = some (.lst xs) → D.nx σ G) : sFld K ta te f D σ H :=
  s_fldL hv ha O c n hl fun p H1 hp e h1 => by
    have pa : p ≠ a := fun q => by rw [q, O] at hp; cases hp
    exact k p _ hp pa (FrL.write e (List.mem_singleton.mpr rfl)) upd_same (by rw [upd_ne pa]; exact h1)
theorem s_fldD' (ha : Ev ta σ H (.ref a)) (O : H a = some (.ins C dx fs)) (c : Cls K C) (n : NoAttr K C f) (hl : fs.length < 1000) (k : ∀ p G, H p = none → p ≠ a → FrL [a] H G → G a = some (.ins C dx (putF f (.ref p) fs)) → G p = some (.dK []) → D.nx σ G) : sFld K ta tDNewK f D σ H :=
  s_fldD ha O c n hl fun p H1 hp e h1 => by
    have pa : p ≠ a := fun q => by rw [q, O] at hp; cases hp
    exact k p _ hp pa (FrL.write e (List.mem_singleton.mpr rfl)) upd_same (by rw [upd_ne pa]; exact h1)
theorem q_fld' (hv : Ev te σ H y) (ha : Ev ta σ H (.ref a)) (O : H a = some (.ins C dx fs)) (c : Cls K C) (n : NoAttr K C f) (hl : fs.length < 1000) (k : ∀ G, FrL [a] H G → G a = some (.ins C dx (putF f y fs)) → tz D σ G) : tSeq (sFld K ta te f) tz D σ H :=
  s_fld' (D := { D with nx := tz D }) hv ha O c n hl k
theorem q_fldL' (hv : EvL te σ H xs) (ha : Ev ta σ H (.ref a)) (O : H a = some (.ins C dx fs)) (c : Cls K C) (n : NoAttr K C f) (hl : fs.length < 1000) (k : ∀ p G, H p = none → p ≠ a → FrL [a] H G → G a = some (.ins C dx (putF f (.ref p) fs)) → G p = some (.lst xs) → tz D σ G) : tSeq (sFld K ta te f) tz D σ H :=
  s_fldL' (D := { D with nx := tz D }) hv ha O c n hl k
theorem q_fldD' (ha : Ev ta σ H (.ref a)) (O : H a = some (.ins C dx fs)) (c : Cls K C) (n : NoAttr K C f) (hl : fs.length < 1000) (k : ∀ p G, H p = none → p ≠ a → FrL [a] H G → G a = some (.ins C dx (putF f (.ref p) fs)) → G p = some (.dK []) → tz D σ G) : tSeq (sFld K ta tDNewK f) tz D σ H :=
  s_fldD' (D := { D with nx := tz D }) ha O c n hl k
theorem putF_len : ∀ fs : List (Str × V), (putF f v fs).length ≤ fs.length + 1
  | [] => Nat.le_refl _
  | (g, x) :: r => by
    unfold putF
    split
    · exact Nat.le_succ _
    · exact Nat.succ_le_succ (putF_len r)
theorem putF_le {n : Nat} (h : fs.length ≤ n) : (putF f v fs).length ≤ n + 1 := Nat.le_trans (putF_len fs) (Nat.succ_le_succ h)
theorem lt1000 {n m : Nat} (h : n ≤ m) (hm : m ≤ 100) : n < 1000 := by omega
theorem ni {z a : Addr} (h : z ≠ a) : z ∉ [a] := fun m => h (List.mem_singleton.mp m)
theorem pfx {v0 v1 v2 v3 v4 v5 v6 v7 v8 v9 v10 : V} (h : fs = [] ∨ ∃ r, fs = rF_Roll r) :
    putF "stood_behind" v10 (putF "stood_ahead" v9 (putF "one_is_open" v8 (putF "set_count" v7 (putF "join_years" v6 (putF "set_of" v5 (putF "birth_years" v4 (putF "year" v3 (putF "oldest" v2 (putF "youngest" v1 (putF "names" v0 fs)))))))))) = rF_Roll ⟨v0, v1, v2, v3, v4, v5, v6, v7, v8, v9, v10⟩ := by
  rcases h with rfl | ⟨r, rfl⟩ <;> rfl

/-! ### begin, __init__ -/
def owned (x : Ad) : List Addr := [x.SA, x.SB, x.B, x.S, x.J]
/-- a new object -/
structure Fresh (A : Adr) (H' : Hp) (a : Addr) (x : Ad) (n l h : V) : Prop where
  obj : H' a = some (.ins A.C_Roll x.dx (rF_Roll ⟨n, l, h, .int 0, .ref x.B, .ref x.S, .ref x.J, .int 0, .bl false, .ref x.SA, .ref x.SB⟩))
  hB : H' x.B = some (.lst [])
  hS : H' x.S = some (.lst [])
  hJ : H' x.J = some (.dK [])
  sa : H' x.SA = some (.lst [])
  sb : H' x.SB = some (.lst [])
  nd : (owned x).Nodup
def spBegin (A : Adr) : Sp := fun vs H Q _ => ∃ a dx fs n l h, vs = [.ref a, n, l, h] ∧ H a = some (.ins A.C_Roll dx fs) ∧ (fs = [] ∨ ∃ r, fs = rF_Roll r) ∧
  ∀ x H', Fresh A H' a x n l h → (∀ z ∈ owned x, H z = none) → FrL [a] H H' → Q .non H'
theorem pure_begin (T : Txt K mg A) (vs : List V) (H : Hp) (Q : VK) (E : XK) : spBegin A vs H Q E → t_begin K A { nx := fun _ H' => Q .non H', rt := Q } (start ["self", "names", "youngest", "oldest"] vs) H := by
  rintro ⟨a, dx, fs, n, l, h, rfl, O, hf, k⟩
  have l0 : fs.length ≤ 11 := by
    rcases hf with rfl | ⟨r, rfl⟩
    · exact Nat.zero_le _
    · exact Nat.le_refl _
  have l1 := putF_le (f := "names") (v := n) l0
  have l2 := putF_le (f := "youngest") (v := l) l1
  have l3 := putF_le (f := "oldest") (v := h) l2
  have l4 := putF_le (f := "year") (v := .int 0) l3
  refine q_fld' (ev_var rfl) (ev_var rfl) O T.cl_Roll T.na_names (lt1000 l0 (by decide)) fun G1 f1 O1 => ?_
  refine q_fld' (ev_var rfl) (ev_var rfl) O1 T.cl_Roll T.na_youngest (lt1000 l1 (by decide)) fun G2 f2 O2 => ?_
  refine q_fld' (ev_var rfl) (ev_var rfl) O2 T.cl_Roll T.na_oldest (lt1000 l2 (by decide)) fun G3 f3 O3 => ?_
  refine q_fld' ev_c (ev_var rfl) O3 T.cl_Roll T.na_year (lt1000 l3 (by decide)) fun G4 f4 O4 => ?_
  refine q_fldL' (el_lst ea_nil (by decide)) (ev_var rfl) O4 T.cl_Roll T.na_birth_years (lt1000 l4 (by decide)) fun B G5 hB nB f5 O5 gB => ?_
  have l5 := putF_le (f := "birth_years") (v := .ref B) l4
  refine q_fldL' (el_lst ea_nil (by decide)) (ev_var rfl) O5 T.cl_Roll T.na_set_of (lt1000 l5 (by decide)) fun S G6 hS nS f6 O6 gS => ?_
  have l6 := putF_le (f := "set_of") (v := .ref S) l5
  refine q_fldD' (ev_var rfl) O6 T.cl_Roll T.na_join_years (lt1000 l6 (by decide)) fun J G7 hJ nJ f7 O7 gJ => ?_
  have l7 := putF_le (f := "join_years") (v := .ref J) l6
  have l8 := putF_le (f := "set_count") (v := .int 0) l7
  refine q_fld' ev_c (ev_var rfl) O7 T.cl_Roll T.na_set_count (lt1000 l7 (by decide)) fun G8 f8 O8 => ?_
  refine q_fld' ev_c (ev_var rfl) O8 T.cl_Roll T.na_one_is_open (lt1000 l8 (by decide)) fun G9 f9 O9 => ?_
  have l9 := putF_le (f := "one_is_open") (v := .bl false) l8
  refine q_fldL' (el_lst ea_nil (by decide)) (ev_var rfl) O9 T.cl_Roll T.na_stood_ahead (lt1000 l9 (by decide)) fun SA G10 hA nA f10 O10 gA => ?_
  have l10 := putF_le (f := "stood_ahead") (v := .ref SA) l9
  refine s_fldL' (el_lst ea_nil (by decide)) (ev_var rfl) O10 T.cl_Roll T.na_stood_behind (lt1000 l10 (by decide)) fun SB G11 hSB nSB f11 O11 gSB => ?_
  have F4 := ((f1.trans f2).trans f3).trans f4
  have F5 := F4.trans f5
  have F6 := F5.trans f6
  have F9 := ((F6.trans f7).trans f8).trans f9
  have F10 := F9.trans f10
  have B10 := ((((f6.trans f7).trans f8).trans f9).trans f10) B _ (ni nB) gB
  have S10 := (((f7.trans f8).trans f9).trans f10) S _ (ni nS) gS
  have J10 := ((f8.trans f9).trans f10) J _ (ni nJ) gJ
  have B9 := (((f6.trans f7).trans f8).trans f9) B _ (ni nB) gB
  have S9 := ((f7.trans f8).trans f9) S _ (ni nS) gS
  have J9 := (f8.trans f9) J _ (ni nJ) gJ
  have B6 := f6 B _ (ni nB) gB
  refine k ⟨dx, B, S, J, SA, SB⟩ G11 ⟨by rw [O11, pfx hf], f11 B _ (ni nB) B10, f11 S _ (ni nS) S10, f11 J _ (ni nJ) J10, f11 SA _ (ni nA) gA, gSB, ?_⟩ ?_ (F10.trans f11)
  · show [SA, SB, B, S, J].Nodup
    have a1 : SA ≠ SB := fun q => by rw [q] at gA; rw [gA] at hSB; cases hSB
    have a2 : SA ≠ B := fun q => by rw [q, B9] at hA; cases hA
    have a3 : SA ≠ S := fun q => by rw [q, S9] at hA; cases hA
    have a4 : SA ≠ J := fun q => by rw [q, J9] at hA; cases hA
    have b2 : SB ≠ B := fun q => by rw [q, B10] at hSB; cases hSB
    have b3 : SB ≠ S := fun q => by rw [q, S10] at hSB; cases hSB
    have b4 : SB ≠ J := fun q => by rw [q, J10] at hSB; cases hSB
    have c1 : B ≠ S := fun q => by rw [← q, gB] at hS; cases hS
    have c2 : B ≠ J := fun q => by rw [← q, B6] at hJ; cases hJ
    have c3 : S ≠ J := fun q => by rw [← q, gS] at hJ; cases hJ
    simp [a1, a2, a3, a4, b2, b3, b4, c1, c2, c3]
  · intro z hz
    simp only [owned, List.mem_cons, List.not_mem_nil, or_false] at hz
    rcases hz with rfl | rfl | rfl | rfl | rfl
    · exact F9.none (ni nA) hA
    · exact F10.none (ni nSB) hSB
    · exact F4.none (ni nB) hB
    · exact F5.none (ni nS) hS
    · exact F6.none (ni nJ) hJ
def spInit (A : Adr) : Sp := fun vs H Q _ => ∃ a dx, vs = [.ref a] ∧ H a = some (.ins A.C_Roll dx []) ∧ ∀ x H', Fresh A H' a x (.int 1) (.int 0) (.int 0) → (∀ z ∈ owned x, H z = none) → FrL [a] H H' → Q .non H'
theorem pure_init (T : Txt K mg A) (vs : List V) (H : Hp) (Q : VK) (E : XK) : spInit A vs H Q E → t_Roll_init K A (spBegin A) { nx := fun _ H' => Q .non H', rt := Q } (start ["self"] vs) H := by
  rintro ⟨a, dx, rfl, O, k⟩
  exact ⟨.ref a, rfl, a, dx, [], rfl, O, rfl, a, dx, [], .int 1, .int 0, .int 0, rfl, O, .inl rfl, fun x H' h1 h2 h3 => k x H' h1 h2 h3⟩

/-! ### how all stands -/
structure A3 where
  t : Addr
  B : Addr
  S : Addr
  J : Addr
def A3.own (q : A3) : List Addr := [q.B, q.S, q.J]
def stand (b : Book) (q : A3) : List V := [.int b.year, .ref q.B, .ref q.S, .ref q.J, .int b.sets.length, .bl (isOpen b)]
structure Snap (H : Hp) (q : A3) (b : Book) : Prop where
  tup : H q.t = some (.tup (stand b q))
  h3 : Held3 H q.B q.S q.J b.people
theorem Snap.ext {q : A3} {b : Book} (e : Ex H H') (h : Snap H q b) : Snap H' q b := ⟨e _ _ h.tup, h.h3.ext e⟩
theorem ed_dict {kvs : List (Key × V)} (h : Ev ta σ H (.ref a)) (hd : H a = some (.dK kvs)) (H1 : Hp) (e : Ex H H1) (Q : VK) (q : ∀ p H2, H1 p = none → Ex H1 H2 → H2 p = some (.dK kvs) → Q (.ref p) H2) : tCB rDictOf (tCons ta tNil) σ H1 Q :=
  h H1 e _ fun H2 e2 => ⟨a, kvs, rfl, .inl ((e.trans e2) a _ hd), fun p hp => q p _ (fresh_back e2 hp) (e2.trans (Ex.new hp)) upd_same⟩
def spStanding (A : Adr) : Sp := fun vs H Q _ => ∃ a x b, vs = [.ref a] ∧ Now A H a x b ∧ ∀ q H', Ex H H' → Snap H' q b → H q.t = none → (∀ z ∈ q.own, H z = none) → q.own.Nodup → Q (.ref q.t) H'
theorem pure_standing (T : Txt K mg A) (vs : List V) (H : Hp) (Q : VK) (E : XK) : spStanding A vs H Q E → t_standing K A { nx := fun _ H' => Q .non H', rt := Q } (start ["self"] vs) H := by
  rintro ⟨a, x, b, rfl, N, k⟩
  obtain ⟨kvs, hJ, hD⟩ := N.h3.hJ
  have hv : ∀ G, Ev (tVar 0) (start ["self"] [V.ref a]) G (.ref a) := fun G => ev_var rfl
  unfold t_standing tRet tTup
  refine vf_year T N.obj (hv H) H (Ex.refl H) _ fun H1 e1 => ?_
  refine el_list (vf_birth_years T N.obj (hv H)) (sq_of N.h3.hB) H1 e1 _ fun B H2 nB e2 gB => ?_
  have x2 := e1.trans e2
  refine el_list (vf_set_of T N.obj (hv H)) (sq_of N.h3.hS) H2 x2 _ fun S H3 nS e3 gS => ?_
  have x3 := x2.trans e3
  refine ed_dict (vf_join_years T N.obj (hv H)) hJ H3 x3 _ fun J H4 nJ e4 gJ => ?_
  have x4 := x3.trans e4
  refine vf_set_count T N.obj (hv H) H4 x4 _ fun H5 e5 => ?_
  have x5 := x4.trans e5
  refine vf_one_is_open T N.obj (hv H) H5 x5 _ fun H6 e6 => ?_
  have x6 := x5.trans e6
  refine ⟨by show 6 ≤ sizeLine; decide, fun t ht => ?_⟩
  have x7 := x6.trans (Ex.new (o := .tup [V.int b.year, .ref B, .ref S, .ref J, .int b.sets.length, .bl (isOpen b)]) ht)
  have y4 := (e5.trans e6).trans (Ex.new (o := .tup [V.int b.year, .ref B, .ref S, .ref J, .int b.sets.length, .bl (isOpen b)]) ht)
  refine k ⟨t, B, S, J⟩ _ x7 ⟨upd_same, ⟨((e3.trans e4).trans y4) _ _ gB, (e4.trans y4) _ _ gS, kvs, y4 _ _ gJ, hD⟩⟩ (fresh_back x6 ht) (fun z hz => ?_) ?_
  · simp only [A3.own, List.mem_cons, List.not_mem_nil, or_false] at hz
    rcases hz with rfl | rfl | rfl
    · exact fresh_back e1 nB
    · exact fresh_back x2 nS
    · exact fresh_back x3 nJ
  · have c1 : B ≠ S := fun q => by rw [← q, gB] at nS; cases nS
    have c2 : B ≠ J := fun q => by rw [← q, e3 _ _ gB] at nJ; cases nJ
    have c3 : S ≠ J := fun q => by rw [← q, gS] at nJ; cases nJ
    simp [A3.own, c1, c2, c3]
def spStandAs (A : Adr) : Sp := fun vs H Q _ => ∃ a dx r t v0 v1 v2 v3 v4 v5, vs = [.ref a, .ref t] ∧ H a = some (.ins A.C_Roll dx (rF_Roll r)) ∧ H t = some (.tup [v0, v1, v2, v3, v4, v5]) ∧
  ∀ H', H' a = some (.ins A.C_Roll dx (rF_Roll { r with year := v0, birth_years := v1, set_of := v2, join_years := v3, set_count := v4, one_is_open := v5 })) → FrL [a] H H' → Q .non H'
theorem rF_len (r : R_Roll) : (rF_Roll r).length < 1000 := by show 11 < 1000; decide
theorem pure_stand_as (T : Txt K mg A) (vs : List V) (H : Hp) (Q : VK) (E : XK) : spStandAs A vs H Q E → t_stand_as K A { nx := fun _ H' => Q .non H', rt := Q } (start ["self", "stood"] vs) H := by
  rintro ⟨a, dx, r, t, v0, v1, v2, v3, v4, v5, rfl, O, ht, k⟩
  have ta : t ∉ [a] := ni (ne_of ht O (fun q => by cases q))
  refine q_fld' (ev_op (ev_var rfl) ev_c (rv_ixT (st_of ht) rfl)) (ev_var rfl) O T.cl_Roll T.na_year (rF_len _) fun G1 f1 O1 => ?_
  rw [pf_year] at O1
  have ht1 := f1 _ _ ta ht
  refine q_fld' (ev_op (ev_var rfl) ev_c (rv_ixT (st_of ht1) rfl)) (ev_var rfl) O1 T.cl_Roll T.na_birth_years (rF_len _) fun G2 f2 O2 => ?_
  rw [pf_birth_years] at O2
  have ht2 := f2 _ _ ta ht1
  refine q_fld' (ev_op (ev_var rfl) ev_c (rv_ixT (st_of ht2) rfl)) (ev_var rfl) O2 T.cl_Roll T.na_set_of (rF_len _) fun G3 f3 O3 => ?_
  rw [pf_set_of] at O3
  have ht3 := f3 _ _ ta ht2
  refine q_fld' (ev_op (ev_var rfl) ev_c (rv_ixT (st_of ht3) rfl)) (ev_var rfl) O3 T.cl_Roll T.na_join_years (rF_len _) fun G4 f4 O4 => ?_
  rw [pf_join_years] at O4
  have ht4 := f4 _ _ ta ht3
  refine q_fld' (ev_op (ev_var rfl) ev_c (rv_ixT (st_of ht4) rfl)) (ev_var rfl) O4 T.cl_Roll T.na_set_count (rF_len _) fun G5 f5 O5 => ?_
  rw [pf_set_count] at O5
  have ht5 := f5 _ _ ta ht4
  refine s_fld' (ev_op (ev_var rfl) ev_c (rv_ixT (st_of ht5) rfl)) (ev_var rfl) O5 T.cl_Roll T.na_one_is_open (rF_len _) fun G6 f6 O6 => ?_
  rw [pf_one_is_open] at O6
  exact k G6 O6 (((((f1.trans f2).trans f3).trans f4).trans f5).trans f6)
theorem cut20 (xs : List V) : cutV xs (some (-20)) none = xs.drop (xs.length - 20) := by
  have e : HT.sIx xs.length 0 (some (-20)) = xs.length - 20 := by
    show (if (-20 : Int) < 0 then ((-20 : Int) + (xs.length : Int)).toNat else min (-20 : Int).toNat xs.length) = _
    rw [if_pos (by decide)]
    omega
  unfold cutV
  rw [e, HT.sIx_none]
  exact
      List.take_of_length_le (by rw [List.length_drop]; omega)
def spNote (A : Adr) : Sp := fun vs H Q _ => ∃ a dx r SA xs v, vs = [.ref a, v] ∧ H a = some (.ins A.C_Roll dx (rF_Roll r)) ∧ r.stood_ahead = .ref SA ∧ H SA = some (.lst xs) ∧ xs.length ≤ 20 ∧
  ∀ SA' SB' H', H' a = some (.ins A.C_Roll dx (rF_Roll { r with stood_ahead := .ref SA', stood_behind := .ref SB' })) → H' SA' = some (.lst ((xs ++ [v]).drop ((xs ++ [v]).length - 20))) → H' SB' = some (.lst []) → SA' ≠ SB' → H SA' = none → H SB' = none → FrL [a, SA] H H' → Q .non H'
theorem pure_note_change (T : Txt K mg A) (vs : List V) (H : Hp) (Q : VK) (E : XK) : spNote A vs H Q E → t_note_change K A { nx := fun _ H' => Q .non H', rt := Q } (start ["self", "stood"] vs) H := by
  rintro ⟨a, dx, r, SA, xs, v, rfl, O, hr, hs, hl, k⟩
  have sa : SA ≠ a := ne_of hs O (fun q => by cases q)
  have vs : ∀ {G dx' r'}, G a = some (.ins A.C_Roll dx' (rF_Roll r')) → r'.stood_ahead = .ref SA → Ev (tFld K (tVar 0) "stood_ahead") (start ["self", "stood"] [V.ref a, v]) G (.ref SA) := fun h1 h2 => ev_is (vf_stood_ahead T h1 (ev_var rfl)) h2
  refine q_app hs (vs O hr) (ev_var rfl) (by omega) fun H1 e1 => ?_
  have O1 : upd H1 SA (.lst (xs ++ [v])) a = some (.ins A.C_Roll dx (rF_Roll r)) := by rw [upd_ne (Ne.symm sa)]; exact e1 _ _ O
  have g1 : FrL [a, SA] H (upd H1 SA (.lst (xs ++ [v]))) := FrL.write e1 (by simp)
  refine q_fldL' (el_is (el_sl (vs O1 hr) (eo_some (ev_un ev_c ru_neg)) eo_none (sq_of upd_same)) (cut20 _)) (ev_var rfl) O1 T.cl_Roll T.na_stood_ahead (rF_len _) fun SA' G2 n2 na2 f2 O2 g2 => ?_
  rw [pf_stood_ahead] at O2
  refine s_fldL' (el_lst ea_nil (by decide)) (ev_var rfl) O2 T.cl_Roll T.na_stood_behind (rF_len _) fun SB' G3 n3 na3 f3 O3 g3 => ?_
  rw [pf_stood_behind] at O3
  have m1 : FrL [a, SA] (upd H1 SA (.lst (xs ++ [v]))) G2 := f2.mono fun z hz => by rw [List.mem_singleton.mp hz]; simp
  have m2 : FrL [a, SA] G2 G3 := f3.mono fun z hz => by rw [List.mem_singleton.mp hz]; simp
  have nsa : SA' ≠ SA := fun q => by rw [q, upd_same] at n2; cases n2
  have nsb : SB' ≠ SA := fun q => by rw [q, f2 SA _ (ni sa) upd_same] at n3; cases n3
  refine k SA' SB' G3 O3 (f3 _ _ (ni na2) g2) g3 (fun q => by rw [q] at g2; rw [g2] at n3; cases n3) (g1.none (by simp [na2, nsa]) n2) ((g1.trans m1).none (by simp [na3, nsb]) n3) ((g1.trans m1).trans m2)
end
end Ag

/-! AgD: the book's changes; the desk that the object stands for. -/
namespace Ag
open PySem PySem.Spec PyProof.Rows L2 Evl
open Km493 (Book Person Band Desk bits)

/-! ### books -/
theorem bornI_born (b : Book) : bornI (bornIn b).people = bornI b.people ++ [(b.year : Int)] := by simp [bornIn, bornI]
theorem setsI_born (b : Book) : setsI (bornIn b).people = setsI b.people ++ [-1] := by simp [bornIn, setsI, setI]
theorem dict_born {b : Book} {kvs : List (Key × V)} (h : DictOk kvs b.people) : DictOk kvs (bornIn b).people where
  at_ := fun i p j hp hj => by
    have e : (bornIn b).people = b.people ++ [⟨b.year, none⟩] := rfl
    rw [e] at hp
    by_cases hi : i < b.people.length
    · rw [List.getElem?_append_left hi] at hp
      exact h.at_ i p j hp hj
    · rw [List.getElem?_append_right (by omega)] at hp
      have hm := List.mem_of_getElem? hp
      rw [List.mem_singleton.mp hm] at hj
      cases hj
  few := by
    have e : (bornIn b).people = b.people ++ [⟨b.year, none⟩] := rfl
    rw [e, List.countP_append]
    have := h.few
    omega
theorem map_set_same {α β : Type} (f : α → β) {l : List α} {i : Nat} {u v : α} (h : l[i]? = some u) (e : f v = f u) : (l.set i v).map f = l.map f := by
  refine
      List.ext_getElem? fun j => ?_
  rw [List.getElem?_map, List.getElem?_map, List.getElem?_set]
  have hi := (List.getElem?_eq_some_iff.mp h).1
  by_cases c : i = j
  · subst c
    rw [if_pos rfl, if_pos hi, h]
    show some (f v) = some (f u)
    rw [e]
  · rw [if_neg c]
theorem bornI_enter {b : Book} {s i : Nat} (hi : i < b.people.length) : bornI (b.enter s i).people = bornI b.people := by
  rw [enter_people, bornI]
  exact map_set_same (v := { b.p i with joined := some (b.year, s) }) (fun p => (p.born : Int)) (p_at hi) rfl
theorem setsI_enter (b : Book) (s i : Nat) : setsI (b.enter s i).people = (setsI b.people).set i (s : Int) := by
  rw [enter_people, setsI, List.map_set]
  rfl
theorem dict_enter {b : Book} {s i : Nat} {kvs : List (Key × V)} (hi : i < b.people.length) (hn : (b.p i).joined = none) (h : DictOk kvs b.people) : DictOk (putK kvs (.inl (i : Int)) (.int b.year)) (b.enter s i).people where
  at_ := fun j p w hp hw => by
    rw [enter_people, List.getElem?_set] at hp
    rw [valV_put]
    by_cases c : i = j
    · subst c
      rw [if_pos rfl, if_pos hi] at hp
      rw [← Option.some.inj hp] at hw
      have e : w = (b.year, s) := (Option.some.inj hw).symm
      rw [if_pos rfl, e]
    · rw [if_neg c] at hp
      rw [if_neg (fun q => c (by injection q with q; omega))]
      exact h.at_ j p w hp hw
  few := by
    have h1 := length_putK kvs (.inl (i : Int)) (V.int b.year)
    have h2 := h.few
    have e : b.people[i] = b.p i := Option.some.inj ((List.getElem?_eq_getElem hi).symm.trans (p_at hi))
    rw [enter_people, List.countP_set hi, e, hn]
    have e1 : (Option.isSome (none : Option (Nat × Nat))) = false := rfl
    have e2 : (Option.isSome (some (b.year, s))) = true := rfl
    simp only [e1, e2, if_true, Bool.false_eq_true, if_false]
    omega
theorem open_opened (b : Book) : isOpen (openedIn b) = true := by
  unfold isOpen openedIn
  rw [getLast_append]
  rfl
theorem len_opened (b : Book) : (openedIn b).sets.length = b.sets.length + 1 := by
  show (b.sets ++ [_]).length = _
  rw [List.length_append]; rfl
theorem len_shut (b : Book) (s : Nat) : (shutIn b s).sets.length = b.sets.length := by
  show (b.sets.set _ _).length = _
  rw [List.length_set]
theorem open_shut {b : Book} (h : 0 < b.sets.length) : isOpen (shutIn b (b.sets.length - 1)) = false := by
  unfold isOpen
  rw [getLast_get, len_shut]
  have e : (shutIn b (b.sets.length - 1)).sets[b.sets.length - 1]? = some { b.sets.getD (b.sets.length - 1) ⟨0, none⟩ with to_ := some b.year } := by
    show (b.sets.set _ _)[_]? = _
    rw [List.getElem?_set, if_pos rfl, if_pos (by omega)]
  rw [e]
  rfl

section
variable {K : PySem.W.Frag} {mg : Str → Option Value} {A : Adr} {H H' : Hp} {a : Addr} {x : Ad} {b b' : Book}
theorem Now.ne (N : Now A H a x b) : x.B ≠ a ∧ x.S ≠ a ∧ x.J ≠ a ∧ x.B ≠ x.J ∧ x.S ≠ x.J := by
  obtain ⟨kvs, hJ, _⟩ := N.h3.hJ
  exact ⟨ne_of N.h3.hB N.obj (fun q => by cases q), ne_of N.h3.hS N.obj (fun q => by cases q), ne_of hJ N.obj (fun q => by cases q), ne_of N.h3.hB hJ (fun q => by cases q), ne_of N.h3.hS hJ (fun q => by cases q)⟩
theorem Now.step (N : Now A H a x b) (f : FrL [a] H H') (O : H' a = some (.ins A.C_Roll x.dx (rF_Roll (mkR b' x)))) (hp : b'.people = b.people) (ok : BookOk b') : Now A H' a x b' := by
  obtain ⟨n1, n2, n3, _, _⟩ := N.ne
  obtain ⟨kvs, hJ, hD⟩ := N.h3.hJ
  exact ⟨O, by rw [hp]; exact ⟨f _ _ (ni n1) N.h3.hB, f _ _ (ni n2) N.h3.hS, kvs, f _ _ (ni n3) hJ, hD⟩, ok⟩
def four (a : Addr) (x : Ad) : List Addr := [a, x.B, x.S, x.J]
def spBorn (A : Adr) : Sp := fun vs H Q _ => ∃ a x b, vs = [.ref a] ∧ Now A H a x b ∧ x.B ≠ x.S ∧ BookOk (bornIn b) ∧ ∀ H', Now A H' a x (bornIn b) → FrL (four a x) H H' → Q .non H'
theorem pure_add_person (T : Txt K mg A) (vs : List V) (H : Hp) (Q : VK) (E : XK) : spBorn A vs H Q E → t_add_person K A { nx := fun _ H' => Q .non H', rt := Q } (start ["self"] vs) H := by
  rintro ⟨a, x, b, rfl, N, bs, ok, k⟩
  obtain ⟨n1, n2, n3, n4, n5⟩ := N.ne
  obtain ⟨kvs, hJ, hD⟩ := N.h3.hJ
  have hp := N.ok.people
  refine q_app N.h3.hB (vf_birth_years T N.obj (ev_var rfl)) (vf_year T N.obj (ev_var rfl)) (by rw [len_bornI]; omega) fun H1 e1 => ?_
  have O1 : upd H1 x.B (.lst ((bornI b.people).map V.int ++ [V.int b.year])) a = some (.ins A.C_Roll x.dx (rF_Roll (mkR b x))) := by rw [upd_ne (Ne.symm n1)]; exact e1 _ _ N.obj
  have S1 : upd H1 x.B (.lst ((bornI b.people).map V.int ++ [V.int b.year])) x.S = some (.lst ((setsI b.people).map V.int)) := by rw [upd_ne (Ne.symm bs)]; exact e1 _ _ N.h3.hS
  refine s_app S1 (vf_set_of T O1 (ev_var rfl)) ev_c (by rw [len_setsI]; omega) fun H2 e2 => ?_
  have f1 : FrL (four a x) H (upd H1 x.B (.lst ((bornI b.people).map V.int ++ [V.int b.year]))) := FrL.write e1 (by simp [four])
  refine k _ ⟨?_, ⟨?_, ?_, kvs, ?_, dict_born hD⟩, ok⟩ (f1.trans (FrL.write e2 (by simp [four])))
  · rw [upd_ne (Ne.symm n2)]; exact e2 _ _ O1
  · rw [upd_ne bs, e2 _ _ upd_same, bornI_born, List.map_append]; rfl
  · rw [upd_same, setsI_born, List.map_append]; rfl
  · rw [upd_ne (Ne.symm n5)]
    exact e2 _ _ (by rw [upd_ne (Ne.symm n4)]; exact e1 _ _ hJ)
def spOpenN (A : Adr) : Sp := fun vs H Q _ => ∃ a x b, vs = [.ref a] ∧ Now A H a x b ∧ BookOk (openedIn b) ∧ ∀ H', Now A H' a x (openedIn b) → FrL [a] H H' → Q .non H'
theorem pure_open_next (T : Txt K mg A) (vs : List V) (H : Hp) (Q : VK) (E : XK) : spOpenN A vs H Q E → t_open_next K A { nx := fun _ H' => Q .non H', rt := Q } (start ["self"] vs) H := by
  rintro ⟨a, x, b, rfl, N, ok, k⟩
  refine st_seq (s_fldaug (i := (b.sets.length : Int)) (j := 1) (ev_var rfl) N.obj T.cl_Roll T.na_set_count lk_set_count ev_c (rF_len _) fun H1 e1 => ?_)
  show sFld K (tVar 0) (tC (.bl true)) "one_is_open" _ _ _
  refine s_fld' ev_c (ev_var rfl) (by rw [pf_set_count]; exact upd_same) T.cl_Roll T.na_one_is_open (rF_len _) fun G f O => ?_
  rw [pf_one_is_open] at O
  refine k G (N.step ((FrL.write e1 (List.mem_singleton.mpr rfl)).trans f) ?_ rfl ok) ((FrL.write e1 (List.mem_singleton.mpr rfl)).trans f)
  rw [O]
  unfold mkR
  rw [open_opened, len_opened]
  rfl
def spPut (A : Adr) : Sp := fun vs H Q _ => ∃ a x b, ∃ i : Nat, vs = [.ref a, .int i] ∧ Now A H a x b ∧ x.B ≠ x.S ∧ i < b.people.length ∧ (b.p i).joined = none ∧ 0 < b.sets.length ∧ ∀ H', Now A H' a x (b.enter (b.sets.length - 1) i) → FrL (four a x) H H' → Q .non H'
theorem pure_put_in_open (T : Txt K mg A) (vs : List V) (H : Hp) (Q : VK) (E : XK) : spPut A vs H Q E → t_put_in_open K A (spLast A) { nx := fun _ H' => Q .non H', rt := Q } (start ["self", "person"] vs) H := by
  rintro ⟨a, x, b, i, rfl, N, bs, hi, hn, ho, k⟩
  obtain ⟨n1, n2, n3, n4, n5⟩ := N.ne
  obtain ⟨kvs, hJ, hD⟩ := N.h3.hJ
  have hp := N.ok.people
  have hfew := hD.few
  have hcp := List.countP_le_length (p := fun p : Person => p.joined.isSome) (l := b.people)
  refine q_setL (j := i) N.h3.hS (ev_is (vm_last_set N.obj (ev_var rfl) ea_nil (spQ_at N ⟨rfl, rfl⟩)) (congrArg V.int (show (b.sets.length : Int) - 1 = ((b.sets.length - 1 : Nat) : Int) by omega))) (vf_set_of T N.obj (ev_var rfl)) (ev_var rfl) (by rw [len_setsI]; exact hi) fun H1 e1 => ?_
  have e0 : ((setsI b.people).map V.int).set i (.int ((b.sets.length - 1 : Nat) : Int)) = (setsI (b.enter (b.sets.length - 1) i).people).map V.int := by rw [setsI_enter, List.map_set]
  rw [e0]
  have O1 : upd H1 x.S (.lst ((setsI (b.enter (b.sets.length - 1) i).people).map V.int)) a = some (.ins A.C_Roll x.dx (rF_Roll (mkR b x))) := by rw [upd_ne (Ne.symm n2)]; exact e1 _ _ N.obj
  have J1 : upd H1 x.S (.lst ((setsI (b.enter (b.sets.length - 1) i).people).map V.int)) x.J = some (.dK kvs) := by rw [upd_ne (Ne.symm n5)]; exact e1 _ _ hJ
  refine s_setD (k := .inl (i : Int)) J1 (vf_year T O1 (ev_var rfl)) (vf_join_years T O1 (ev_var rfl)) (ev_var rfl) (by omega) fun H2 e2 => ?_
  have f1 : FrL (four a x) H (upd H1 x.S (.lst ((setsI (b.enter (b.sets.length - 1) i).people).map V.int))) := FrL.write e1 (by simp [four])
  refine k _ ⟨?_, ⟨?_, ?_, _, upd_same, dict_enter hi hn hD⟩, ok_enter N.ok (by omega)⟩ (f1.trans (FrL.write e2 (by simp [four])))
  · rw [upd_ne (Ne.symm n3)]; exact e2 _ _ O1
  · rw [upd_ne n4, bornI_enter hi]
    exact e2 _ _ (by rw [upd_ne bs]; exact e1 _ _ N.h3.hB)
  · rw [upd_ne n5]; exact e2 _ _ upd_same
end
end Ag

/-! AgK: the desk that the object stands for; changes taken back and done again. -/
namespace Ag
open PySem PySem.Spec PyProof.Rows L2 Evl
open Km493 (Book Person Band Desk bits)

def rest3 (xs ys : List A3) : List Addr := xs.flatMap A3.own ++ ys.flatMap A3.own
def own (x : Ad) (xs ys : List A3) : List Addr := owned x ++ rest3 xs ys
def tops (xs : List A3) : List V := xs.reverse.map fun q => V.ref q.t
structure RepX (A : Adr) (H : Hp) (a : Addr) (d : Desk) (x : Ad) (xs ys : List A3) : Prop where
  now : Now A H a x d.now
  sa : H x.SA = some (.lst (tops xs))
  sb : H x.SB = some (.lst (tops ys))
  past : Paired (Snap H) xs d.past
  future : Paired (Snap H) ys d.future
  nd : (own x xs ys).Nodup
  ok : DeskOk d
  same : ∀ b, b ∈ d.past ∨ b ∈ d.future → b.names = d.now.names ∧ b.low = d.now.low ∧ b.high = d.now.high

theorem paired_imp {α β : Type} {F G : α → β → Prop} : ∀ {l : List α} {m : List β}, Paired F l m → (∀ a b, a ∈ l → F a b → G a b) → Paired G l m
  | _, _, .nil, _ => .nil
  | _, _, .cons r t, f => .cons (f _ _ (List.mem_cons_self ..) r) (paired_imp t fun a b ha => f a b (List.mem_cons_of_mem _ ha))
theorem paired_mem {α β : Type} {F : α → β → Prop} : ∀ {l : List α} {m : List β}, Paired F l m → ∀ a ∈ l, ∃ b, F a b
  | _, _, .nil, _, h =>
      nomatch h
  | _, _, .cons r t, a, h => by
    rcases List.mem_cons.mp h
        with rfl | h
    · exact ⟨_, r⟩
    · exact paired_mem t a h
theorem paired_take {α β : Type} {F : α → β → Prop} (n : Nat) : ∀ {l : List α} {m : List β}, Paired F l m → Paired F (l.take n) (m.take n) := by
  induction n with
  | zero => intro l m h; exact .nil
  | succ n ih =>
    intro l m h
    cases h with
    | nil => exact .nil
    | cons r t => exact .cons r (ih t)
theorem tops_len (xs : List A3) : (tops xs).length = xs.length := by rw [tops, List.length_map, List.length_reverse]
theorem tops_cons (q : A3) (xs : List A3) : tops (q :: xs) = tops xs ++ [V.ref q.t] := by rw [tops, List.reverse_cons, List.map_append]; rfl

section
variable {K : PySem.W.Frag} {mg : Str → Option Value} {A : Adr} {H H' : Hp} {a : Addr} {d : Desk} {x : Ad} {xs ys : List A3} {q : A3} {b b' : Book} {l : List Addr}
theorem Snap.keep (s : Snap H q b) (f : FrL l H H') (hb : ∀ z ∈ q.own, z ∉ l) (ht : q.t ∉ l) : Snap H' q b := by
  obtain ⟨kvs, hJ, hD⟩ := s.h3.hJ
  exact ⟨f _ _ ht s.tup, f _ _ (hb _ (by simp [A3.own])) s.h3.hB, f _ _ (hb _ (by simp [A3.own])) s.h3.hS, kvs, f _ _ (hb _ (by simp [A3.own])) hJ, hD⟩
/-- what an owned thing is -/
def Con (H : Hp) (z : Addr) : Prop := (∃ ws, H z = some (.lst ws)) ∨ ∃ kvs, H z = some (.dK kvs)
theorem Con.some (h : Con H z) : ∃ o, H z = some o := by
  rcases h with ⟨w, h⟩ | ⟨w, h⟩ <;> exact ⟨_, h⟩
theorem Con.ne_ins {C dx : Addr} {fs : List (Str × V)} (h : Con H z) (O : H a = .some (.ins C dx fs)) : z ≠ a := by
  rcases h with ⟨w, h⟩ | ⟨w, h⟩ <;> exact ne_of h O (fun q => by cases q)
theorem Con.ne_tup {ws : List V} (h : Con H z) (O : H a = .some (.tup ws)) : a ≠ z := by
  rcases h with ⟨w, h⟩ | ⟨w, h⟩ <;> exact ne_of O h (fun q => by cases q)
theorem Held3.con {B S J : Addr} {ps : List Person} (h : Held3 H B S J ps) : Con H B ∧ Con H S ∧ Con H J := ⟨.inl ⟨_, h.hB⟩, .inl ⟨_, h.hS⟩, .inr (let ⟨k, h, _⟩ := h.hJ; ⟨k, h⟩)⟩
theorem Snap.con (s : Snap H q b) : ∀ z ∈ q.own, Con H z := fun z hz => by
  obtain ⟨h1, h2, h3⟩ := s.h3.con
  simp only [A3.own, List.mem_cons, List.not_mem_nil, or_false] at hz
  rcases hz with rfl | rfl | rfl <;> assumption
theorem flat_con {bs : List Book} (p : Paired (Snap H) xs bs) : ∀ z ∈ xs.flatMap A3.own, Con H z := fun z hz => by
  obtain ⟨q, hq, hz⟩ := List.mem_flatMap.mp hz
  obtain ⟨b, s⟩ := paired_mem p q hq
  exact s.con z hz
theorem RepX.rest (R : RepX A H a d x xs ys) : ∀ z ∈ rest3 xs ys, Con H z := fun z hz => by
  rcases List.mem_append.mp hz
      with hz | hz
  · exact flat_con R.past z hz
  · exact flat_con R.future z hz
theorem RepX.con (R : RepX A H a d x xs ys) : ∀ z ∈ own x xs ys, Con H z := fun z hz => by
  rcases List.mem_append.mp hz
      with hz | hz
  · obtain ⟨h1, h2, h3⟩ := R.now.h3.con
    simp only [owned, List.mem_cons, List.not_mem_nil, or_false] at hz
    rcases hz with rfl | rfl | rfl | rfl | rfl
    · exact .inl ⟨_, R.sa⟩
    · exact .inl ⟨_, R.sb⟩
    · exact h1
    · exact h2
    · exact h3
  · exact R.rest z hz
theorem RepX.ext (e : Ex H H') (R : RepX A H a d x xs ys) : RepX A H' a d x xs ys :=
  ⟨R.now.ext e, e _ _ R.sa, e _ _ R.sb, paired_imp R.past fun _ _ _ s => s.ext e, paired_imp R.future fun _ _ _ s => s.ext e, R.nd, R.ok, R.same⟩
theorem RepX.sep (R : RepX A H a d x xs ys) : ∀ z ∈ rest3 xs ys, z ∉ owned x := fun z hz h => (List.nodup_append.mp R.nd).2.2 z h z hz rfl
theorem RepX.nd5 (R : RepX A H a d x xs ys) : (owned x).Nodup := (List.nodup_append.mp R.nd).1
theorem RepX.bs (R : RepX A H a d x xs ys) : x.B ≠ x.S := by
  have h := R.nd5
  simp only [owned, List.nodup_cons, List.mem_cons, List.not_mem_nil, or_false, not_or] at h
  exact h.2.2.1.1
theorem mem_rest_l (hq : q ∈ xs) : ∀ z ∈ q.own, z ∈ rest3 xs ys := fun z hz => List.mem_append_left _ (List.mem_flatMap.mpr ⟨q, hq, hz⟩)
theorem mem_rest_r (hq : q ∈ ys) : ∀ z ∈ q.own, z ∈ rest3 xs ys := fun z hz => List.mem_append_right _ (List.mem_flatMap.mpr ⟨q, hq, hz⟩)
/-- the book of now has changed, its containers with it -/
theorem RepX.renow (R : RepX A H a d x xs ys) (N : Now A H' a x b') (f : FrL (four a x) H H') (hs : b'.names = d.now.names ∧ b'.low = d.now.low ∧ b'.high = d.now.high) : RepX A H' a ⟨b', d.past, d.future⟩ x xs ys := by
  have h5 := R.nd5
  simp only [owned, List.nodup_cons, List.mem_cons, List.not_mem_nil, or_false, not_or] at h5
  obtain ⟨⟨a1, a2, a3, a4⟩, ⟨b1, b2, b3⟩, _⟩ := h5
  have cA : x.SA ≠ a := (Con.ne_ins (.inl ⟨_, R.sa⟩) R.now.obj)
  have cB : x.SB ≠ a := (Con.ne_ins (.inl ⟨_, R.sb⟩) R.now.obj)
  obtain ⟨k1, k2, k3⟩ := R.now.h3.con
  have hk : ∀ q b, (∀ z ∈ q.own, z ∈ rest3 xs ys) → Snap H q b → Snap H' q b := fun q b hm s => s.keep f (fun z hz h => by
    have hr := hm z hz
    have hns := R.sep z hr
    simp only [four, List.mem_cons, List.not_mem_nil, or_false] at h
    rcases h with rfl | rfl | rfl | rfl
    · exact (R.rest _ hr).ne_ins R.now.obj rfl
    · exact hns (by simp [owned])
    · exact hns (by simp [owned])
    · exact hns (by simp [owned])) (fun h => by
    simp only [four, List.mem_cons, List.not_mem_nil, or_false] at h
    rcases h with h | h | h | h
    · exact (ne_of s.tup R.now.obj (fun q => by cases q)) h
    · exact k1.ne_tup s.tup h
    · exact k2.ne_tup s.tup h
    · exact k3.ne_tup s.tup h)
  refine ⟨N, f _ _ (by simp [four, cA, a2, a3, a4]) R.sa, f _ _ (by simp [four, cB, b1, b2, b3]) R.sb, paired_imp R.past fun q b hq s => hk q b (mem_rest_l hq) s, paired_imp R.future fun q b hq s => hk q b (mem_rest_r hq) s, R.nd, ⟨N.ok, R.ok.past, R.ok.future, R.ok.few, R.ok.all⟩, fun b hb => ?_⟩
  obtain ⟨h1, h2, h3⟩ := R.same b hb
  exact ⟨h1.trans hs.1.symm, h2.trans hs.2.1.symm, h3.trans hs.2.2.symm⟩

theorem act_back {k : Book} {r : List Book} (h : d.past = k :: r) : Km493.act d .back = (⟨k, r, d.now :: d.future⟩, Km493.only (Km493.n2i r.length)) := by
  show (match d.past with
      | [] => (d, Km493.only (-2))
      | k :: r => (⟨k, r, d.now :: d.future⟩, Km493.only (Km493.n2i r.length))) = _
  rw [h]
theorem act_again {k : Book} {r : List Book} (h : d.future = k :: r) (ok : DeskOk d) : Km493.act d .again = (⟨k, d.now :: d.past, r⟩, Km493.only (Km493.n2i r.length)) := by
  show (match d.future with
      | [] => (d, Km493.only (-2))
      | k :: r => (⟨k, (d.now :: d.past).take Km493.PAST, r⟩, Km493.only (Km493.n2i r.length))) = _
  have ha := ok.all
  rw [h, List.length_cons] at ha
  rw [h]
  show ((⟨k, (d.now :: d.past).take Km493.PAST, r⟩ : Desk), _) = _
  rw [List.take_of_length_le (by show (d.past.length + 1) ≤ 20; omega)]
def swapped (x : Ad) (q : A3) : Ad := ⟨x.dx, q.B, q.S, q.J, x.SA, x.SB⟩
def restood (r : R_Roll) (k : Book) (q : A3) : R_Roll := { r with year := .int k.year, birth_years := .ref q.B, set_of := .ref q.S, join_years := .ref q.J, set_count := .int k.sets.length, one_is_open := .bl (isOpen k) }
theorem restood_eq {k : Book} (h : k.names = b.names ∧ k.low = b.low ∧ k.high = b.high) : restood (mkR b x) k q = mkR k (swapped x q) := by
  unfold restood mkR swapped
  rw [h.1, h.2.1, h.2.2]
theorem nodup_swap {P X Y N : List Addr} (h : (P ++ (X ++ Y)).Nodup) (hn : N.Nodup) (hd : ∀ z ∈ N, z ∉ P ++ (X ++ Y)) : (P ++ (X ++ (N ++ Y))).Nodup ∧ (P ++ ((N ++ X) ++ Y)).Nodup := by
  have h0 : (N ++ (P ++ (X ++ Y))).Nodup := List.nodup_append.mpr ⟨hn, h, fun u hu v hv e => hd u hu (e ▸ hv)⟩
  have p1 : (N ++ (P ++ (X ++ Y))).Perm (P ++ (N ++ (X ++ Y))) := List.perm_append_comm_assoc ..
  have p2 : (P ++ (N ++ (X ++ Y))).Perm (P ++ (X ++ (N ++ Y))) := List.Perm.append_left _ (List.perm_append_comm_assoc ..)
  refine ⟨(p1.trans p2).nodup_iff.mp h0, ?_⟩
  rw [List.append_assoc N X Y]
  exact p1.nodup_iff.mp h0
theorem own_back (x : Ad) (q : A3) (xs ys : List A3) : own x (q :: xs) ys = [x.SA, x.SB] ++ ([x.B, x.S, x.J] ++ (q.own ++ (xs.flatMap A3.own ++ ys.flatMap A3.own))) := by
  unfold own rest3 owned
  rw [List.flatMap_cons, List.append_assoc]
  rfl
theorem own_again (x : Ad) (q : A3) (xs ys : List A3) : (own x xs (q :: ys)).Perm ([x.SA, x.SB] ++ ([x.B, x.S, x.J] ++ (q.own ++ (xs.flatMap A3.own ++ ys.flatMap A3.own)))) := by
  unfold own rest3 owned
  rw [List.flatMap_cons]
  exact List.Perm.append_left [x.SA, x.SB, x.B, x.S, x.J] (List.perm_append_comm_assoc ..)
/-- the heap behind a change taken back or done again -/
structure Turned (A : Adr) (H H' : Hp) (a : Addr) (d : Desk) (x : Ad) (k : Book) (q q' : A3) (us ws : List V) : Prop where
  obj : H' a = some (.ins A.C_Roll x.dx (rF_Roll (restood (mkR d.now x) k q)))
  sa : H' x.SA = some (.lst us)
  sb : H' x.SB = some (.lst ws)
  fr : FrL [a, x.SA, x.SB] H H'
  sn : Snap H' q' d.now
  new : ∀ z ∈ q'.own, H z = none
  nd : q'.own.Nodup
theorem turn_snaps {k : Book} {q' : A3} {us ws : List V} (R : RepX A H a d x xs ys) (t : Turned A H H' a d x k q q' us ws) (g : A3) (b : Book) (hm : ∀ z ∈ g.own, z ∈ rest3 xs ys) (s : Snap H g b) : Snap H' g b :=
  s.keep t.fr (fun z hz h => by
    have hr := hm z hz
    have hns := R.sep z hr
    simp only [List.mem_cons, List.not_mem_nil, or_false] at h
    rcases h with rfl | rfl | rfl
    · exact (R.rest _ hr).ne_ins R.now.obj rfl
    · exact hns (by simp [owned])
    · exact hns (by simp [owned])) (fun h => by
    simp only [List.mem_cons, List.not_mem_nil, or_false] at h
    rcases h with h | h | h
    · exact (ne_of s.tup R.now.obj (fun q => by cases q)) h
    · exact (Con.ne_tup (.inl ⟨_, R.sa⟩) s.tup) h
    · exact (Con.ne_tup (.inl ⟨_, R.sb⟩) s.tup) h)
theorem back_rep {k : Book} {r : List Book} {q' : A3} (R : RepX A H a d x (q :: xs) ys) (hp : d.past = k :: r) (t : Turned A H H' a d x k q q' (tops xs) (tops (q' :: ys))) :
    RepX A H' a ⟨k, r, d.now :: d.future⟩ (swapped x q) xs (q' :: ys) ∧ ∀ z ∈ own (swapped x q) xs (q' :: ys), z ∈ own x (q :: xs) ys ∨ H z = none := by
  have hp' := R.past
  rw [hp] at hp'
  cases hp' with
  | cons s0 sp =>
    have hs := R.same k (.inl (by rw [hp]; exact List.mem_cons_self ..))
    have ok := act_ok .back R.ok
    rw [act_back hp] at ok
    have sq := turn_snaps R t q k (mem_rest_l (List.mem_cons_self ..)) s0
    have hnd : ([x.SA, x.SB] ++ (q.own ++ (xs.flatMap A3.own ++ ys.flatMap A3.own))).Nodup := by
      have h := R.nd
      rw [own_back] at h
      exact h.sublist (List.Sublist.append (List.Sublist.refl _) (List.sublist_append_right _ _))
    have hall : ∀ z ∈ [x.SA, x.SB] ++ (q.own ++ (xs.flatMap A3.own ++ ys.flatMap A3.own)), z ∈ own x (q :: xs) ys := fun z hz => by
      rw [own_back]
      rcases List.mem_append.mp hz
          with hz | hz
      · exact List.mem_append_left _ hz
      · exact List.mem_append_right _ (List.mem_append_right _ hz)
    have e1 : own (swapped x q) xs (q' :: ys) = ([x.SA, x.SB] ++ q.own) ++ (xs.flatMap A3.own ++ (q'.own ++ ys.flatMap A3.own)) := rfl
    have e2 : [x.SA, x.SB] ++ (q.own ++ (xs.flatMap A3.own ++ ys.flatMap A3.own)) = ([x.SA, x.SB] ++ q.own) ++ (xs.flatMap A3.own ++ ys.flatMap A3.own) := by rw [List.append_assoc]
    refine ⟨⟨⟨?_, sq.h3, ok.now⟩, t.sa, t.sb, paired_imp sp fun g b hg s => turn_snaps R t g b (mem_rest_l (List.mem_cons_of_mem _ hg)) s, .cons t.sn (paired_imp R.future fun g b hg s => turn_snaps R t g b (mem_rest_r hg) s), ?_, ok, fun b hb => ?_⟩, fun z hz => ?_⟩
    · rw [t.obj, restood_eq hs]; rfl
    · rw [e1]
      rw [e2] at hnd hall
      refine (nodup_swap hnd t.nd fun z hz hm => ?_).1
      obtain ⟨o, ho⟩ := (R.con z (hall z hm)).some
      rw [t.new z hz] at ho
      cases ho
    · have hb' : b = d.now ∨ b ∈ d.past ∨ b ∈ d.future := by
        rcases hb with hb | hb
        · exact .inr (.inl (by rw [hp]; exact List.mem_cons_of_mem _ hb))
        · rcases List.mem_cons.mp hb with hb | hb
          · exact .inl hb
          · exact .inr (.inr hb)
      rcases hb' with rfl | hb'
      · exact ⟨hs.1.symm, hs.2.1.symm, hs.2.2.symm⟩
      · obtain ⟨h1, h2, h3⟩ := R.same b hb'
        exact ⟨h1.trans hs.1.symm, h2.trans hs.2.1.symm, h3.trans hs.2.2.symm⟩
    · rw [e1] at hz
      by_cases hn : z ∈ q'.own
      · exact .inr (t.new z hn)
      · refine .inl (hall z ?_)
        simp only [List.mem_append] at hz ⊢
        rcases hz with (hz | hz) | hz | hz | hz
        · exact .inl hz
        · exact .inr (.inl hz)
        · exact .inr (.inr (.inl hz))
        · exact absurd hz hn
        · exact .inr (.inr (.inr hz))
theorem again_rep {k : Book} {r : List Book} {q' : A3} (R : RepX A H a d x xs (q :: ys)) (hp : d.future = k :: r) (t : Turned A H H' a d x k q q' (tops (q' :: xs)) (tops ys)) :
    RepX A H' a ⟨k, d.now :: d.past, r⟩ (swapped x q) (q' :: xs) ys ∧ ∀ z ∈ own (swapped x q) (q' :: xs) ys, z ∈ own x xs (q :: ys) ∨ H z = none := by
  have hp' := R.future
  rw [hp] at hp'
  cases hp' with
  | cons s0 sp =>
    have hs := R.same k (.inr (by rw [hp]; exact List.mem_cons_self ..))
    have ok := act_ok .again R.ok
    rw [act_again hp R.ok] at ok
    have sq := turn_snaps R t q k (mem_rest_r (List.mem_cons_self ..)) s0
    have hnd : ([x.SA, x.SB] ++ (q.own ++ (xs.flatMap A3.own ++ ys.flatMap A3.own))).Nodup := by
      have h := (own_again x q xs ys).nodup_iff.mp R.nd
      exact h.sublist (List.Sublist.append (List.Sublist.refl _) (List.sublist_append_right _ _))
    have hall : ∀ z ∈ [x.SA, x.SB] ++ (q.own ++ (xs.flatMap A3.own ++ ys.flatMap A3.own)), z ∈ own x xs (q :: ys) := fun z hz => by
      rw [(own_again x q xs ys).mem_iff]
      rcases List.mem_append.mp hz
          with hz | hz
      · exact List.mem_append_left _ hz
      · exact List.mem_append_right _ (List.mem_append_right _ hz)
    have e1 : own (swapped x q) (q' :: xs) ys = ([x.SA, x.SB] ++ q.own) ++ ((q'.own ++ xs.flatMap A3.own) ++ ys.flatMap A3.own) := rfl
    have e2 : [x.SA, x.SB] ++ (q.own ++ (xs.flatMap A3.own ++ ys.flatMap A3.own)) = ([x.SA, x.SB] ++ q.own) ++ (xs.flatMap A3.own ++ ys.flatMap A3.own) := by rw [List.append_assoc]
    refine ⟨⟨⟨?_, sq.h3, ok.now⟩, t.sa, t.sb, .cons t.sn (paired_imp R.past fun g b hg s => turn_snaps R t g b (mem_rest_l hg) s), paired_imp sp fun g b hg s => turn_snaps R t g b (mem_rest_r (List.mem_cons_of_mem _ hg)) s, ?_, ok, fun b hb => ?_⟩, fun z hz => ?_⟩
    · rw [t.obj, restood_eq hs]; rfl
    · rw [e1]
      rw [e2] at hnd hall
      refine (nodup_swap hnd t.nd fun z hz hm => ?_).2
      obtain ⟨o, ho⟩ := (R.con z (hall z hm)).some
      rw [t.new z hz] at ho
      cases ho
    · have hb' : b = d.now ∨ b ∈ d.past ∨ b ∈ d.future := by
        rcases hb with hb | hb
        · rcases List.mem_cons.mp hb with hb | hb
          · exact .inl hb
          · exact .inr (.inl hb)
        · exact .inr (.inr (by rw [hp]; exact List.mem_cons_of_mem _ hb))
      rcases hb' with rfl | hb'
      · exact ⟨hs.1.symm, hs.2.1.symm, hs.2.2.symm⟩
      · obtain ⟨h1, h2, h3⟩ := R.same b hb'
        exact ⟨h1.trans hs.1.symm, h2.trans hs.2.1.symm, h3.trans hs.2.2.symm⟩
    · rw [e1] at hz
      by_cases hn : z ∈ q'.own
      · exact .inr (t.new z hn)
      · refine .inl (hall z ?_)
        simp only [List.mem_append] at hz ⊢
        rcases hz with (hz | hz) | (hz | hz) | hz
        · exact .inl hz
        · exact .inr (.inl hz)
        · exact absurd hz hn
        · exact .inr (.inr (.inl hz))
        · exact .inr (.inr (.inr hz))
end
end Ag

/-! AgW: take_back, do_again. -/
namespace Ag
open PySem PySem.Spec PyProof.Rows L2 Evl
open Km493 (Book Person Band Desk bits)
section
variable {K : PySem.W.Frag} {mg : Str → Option Value} {A : Adr} {σ : L2.St} {H : Hp} {ta : TE} {a l : Addr} {x : Ad} {b : Book} {zs : List V} {D : Ends} {tz : TS}
/-- xs.append(self.standing()) -/
theorem q_appStand (N : Now A H a x b) (hv : ∀ G, Ev (tVar 0) σ G (.ref a)) (hl : H l = some (.lst zs)) (ha : Ev ta σ H (.ref l)) (hz : zs.length < 100000)
    (k : ∀ q H1, Ex H H1 → Snap H1 q b → H q.t = none → (∀ z ∈ q.own, H z = none) → q.own.Nodup → tz D σ (upd H1 l (.lst (zs ++ [.ref q.t])))) :
    tSeq (tDrop (tBM K "list" rAppend ta (tCons (tMeth A.C_Roll "standing" (spStanding A) [] E0 (tVar 0) tNil) tNil))) tz D σ H := by
  unfold tSeq tDrop tBM tCons tMeth tNil
  refine ha H (Ex.refl H) _ fun H1 e1 => ⟨Or.inl ⟨rfl, zs, sq_of (e1 _ _ hl)⟩, ?_⟩
  refine hv H1 H1 (Ex.refl H1) _ fun H2 e2 => ⟨a, x.dx, _, rfl, (e1.trans e2) _ _ N.obj, lm_standing, a, x, b, rfl, N.ext (e1.trans e2), fun q H3 e3 hs n1 n2 nd => ?_⟩
  exact ⟨l, zs, .ref q.t, rfl, rfl, ((e1.trans e2).trans e3) _ _ hl, sz_lt hz, k q H3 ((e1.trans e2).trans e3) hs (fresh_back (e1.trans e2) n1) (fun z h => fresh_back (e1.trans e2) (n2 z h)) nd⟩
/-- self.stand_as(xs.pop()) -/
theorem s_popStand {dx t : Addr} {r : R_Roll} {v0 v1 v2 v3 v4 v5 : V} (O : H a = some (.ins A.C_Roll dx (rF_Roll r))) (hv : ∀ G, Ev (tVar 0) σ G (.ref a)) (hl : H l = some (.lst (zs ++ [.ref t]))) (ha : Ev ta σ H (.ref l)) (ht : H t = some (.tup [v0, v1, v2, v3, v4, v5]))
    (k : ∀ H', H' a = some (.ins A.C_Roll dx (rF_Roll { r with year := v0, birth_years := v1, set_of := v2, join_years := v3, set_count := v4, one_is_open := v5 })) → H' l = some (.lst zs) → FrL [a, l] H H' → D.nx σ H') :
    tDrop (tMeth A.C_Roll "stand_as" (spStandAs A) [] E0 (tVar 0) (tCons (tBM0 K "list" rPop ta) tNil)) D σ H := by
  have la : l ≠ a := ne_of hl O (fun q => by cases q)
  have tl : t ≠ l := ne_of ht hl (fun q => by cases q)
  unfold tDrop tMeth tCons tBM0 tNil
  refine hv H H (Ex.refl H) _ fun H1 e1 => ⟨a, dx, _, rfl, e1 _ _ O, lm_stand_as, ?_⟩
  refine ha H1 e1 _ fun H2 e2 => ⟨Or.inl ⟨rfl, _, sq_of ((e1.trans e2) _ _ hl)⟩, l, zs ++ [.ref t], .ref t, rfl, rfl, (e1.trans e2) _ _ hl, ?_, ?_⟩
  · rw [List.length_append]
    show (zs ++ [V.ref t])[zs.length + 1 - 1]? = _
    rw [Nat.add_sub_cancel, List.getElem?_append_right (Nat.le_refl _), Nat.sub_self]
    rfl
  · rw [List.dropLast_concat]
    have f : FrL [a, l] H (upd H2 l (.lst zs)) := FrL.write (e1.trans e2) (by simp)
    refine ⟨a, dx, r, t, v0, v1, v2, v3, v4, v5, rfl, ?_, ?_, fun H' O' f' => k H' O' (f' _ _ (ni la) upd_same) (f.trans (f'.mono fun z hz => by rw [List.mem_singleton.mp hz]; simp))⟩
    · rw [upd_ne (Ne.symm la)]; exact (e1.trans e2) _ _ O
    · rw [upd_ne tl]; exact (e1.trans e2) _ _ ht
def spBack (A : Adr) : Sp := fun vs H Q _ => ∃ a d x q xs ys k r, vs = [.ref a] ∧ RepX A H a d x (q :: xs) ys ∧ d.past = k :: r ∧
  ∀ H' x' xs' ys', RepX A H' a ⟨k, r, d.now :: d.future⟩ x' xs' ys' → (∀ z ∈ own x' xs' ys', z ∈ own x (q :: xs) ys ∨ H z = none) → FrL (a :: own x (q :: xs) ys) H H' → Q .non H'
def spAgain (A : Adr) : Sp := fun vs H Q _ => ∃ a d x q xs ys k r, vs = [.ref a] ∧ RepX A H a d x xs (q :: ys) ∧ d.future = k :: r ∧
  ∀ H' x' xs' ys', RepX A H' a ⟨k, d.now :: d.past, r⟩ x' xs' ys' → (∀ z ∈ own x' xs' ys', z ∈ own x xs (q :: ys) ∨ H z = none) → FrL (a :: own x xs (q :: ys)) H H' → Q .non H'
theorem paired_len {α β : Type} {F : α → β → Prop} {l : List α} {m : List β} (p : Paired F l m) : l.length = m.length := by
  induction p with
  | nil => rfl
  | cons _ _ ih =>
      rw [List.length_cons, List.length_cons, ih]
theorem pure_take_back (T : Txt K mg A) (vs : List V) (H : Hp) (Q : VK) (E : XK) : spBack A vs H Q E → t_take_back K A (spStanding A) (spStandAs A) { nx := fun _ H' => Q .non H', rt := Q } (start ["self"] vs) H := by
  rintro ⟨a, d, x, q, xs, ys, k, r, rfl, R, hp, kk⟩
  have hv : ∀ G, Ev (tVar 0) (start ["self"] [V.ref a]) G (.ref a) := fun G => ev_var rfl
  have h5 := R.nd5
  simp only [owned, List.nodup_cons, List.mem_cons, List.not_mem_nil, or_false, not_or] at h5
  have ab : x.SA ≠ x.SB := h5.1.1
  have la := paired_len R.future
  have lb := R.ok.all
  have cA : x.SA ≠ a := (Con.ne_ins (.inl ⟨_, R.sa⟩) R.now.obj)
  have cB : x.SB ≠ a := (Con.ne_ins (.inl ⟨_, R.sb⟩) R.now.obj)
  refine q_appStand R.now hv R.sb (vf_stood_behind T R.now.obj (hv H)) (by rw [tops_len]; omega) fun q' H1 e1 hs n1 n2 nd => ?_
  have hp' := R.past
  rw [hp] at hp'
  cases hp' with
  | cons s0 sp =>
    have O1 : upd H1 x.SB (.lst (tops ys ++ [V.ref q'.t])) a = some (.ins A.C_Roll x.dx (rF_Roll (mkR d.now x))) := by rw [upd_ne (Ne.symm cB)]; exact e1 _ _ R.now.obj
    have f1 : FrL [a, x.SA, x.SB] H (upd H1 x.SB (.lst (tops ys ++ [V.ref q'.t]))) := FrL.write e1 (by simp)
    have tB : q.t ≠ x.SB := Con.ne_tup (.inl ⟨_, R.sb⟩) s0.tup
    refine s_popStand (zs := tops xs) (t := q.t) O1 hv (by rw [upd_ne ab, e1 _ _ R.sa, tops_cons]) (vf_stood_ahead T O1 (hv _)) (by rw [upd_ne tB]; exact e1 _ _ s0.tup) fun H' O' l' f' => ?_
    have f2 : FrL [a, x.SA, x.SB] (upd H1 x.SB (.lst (tops ys ++ [V.ref q'.t]))) H' := f'.mono fun z hz => by
      simp only [List.mem_cons, List.not_mem_nil, or_false] at hz ⊢
      rcases hz with rfl | rfl
      · exact .inl rfl
      · exact .inr (.inl rfl)
    have hq : ∀ z, H z = none → z ∉ [a, x.SA, x.SB] := fun z hz hm => by
      simp only [List.mem_cons, List.not_mem_nil, or_false]
          at hm
      rcases hm with rfl | rfl | rfl
      · rw [R.now.obj] at hz; cases hz
      · rw [R.sa] at hz; cases hz
      · rw [R.sb] at hz; cases hz
    have m2 : ∀ z, z ∉ [a, x.SA, x.SB] → z ∉ [x.SB] := fun z hz hm => hz (by rw [List.mem_singleton.mp hm]; simp)
    have sn : Snap H' q' d.now := (hs.keep (l := [x.SB]) (FrL.write (Ex.refl _) (List.mem_singleton.mpr rfl)) (fun z hz => m2 z (hq z (n2 z hz))) (m2 _ (hq _ n1))).keep f2 (fun z hz => hq z (n2 z hz)) (hq _ n1)
    obtain ⟨R', hm⟩ := back_rep R hp ⟨O', l', by rw [f' _ _ (by simp [cB, Ne.symm ab]) upd_same, tops_cons], f1.trans f2, sn, n2, nd⟩
    exact kk H' _ _ _ R' hm ((f1.trans f2).mono fun z hz => by
      simp only [List.mem_cons, List.not_mem_nil, or_false] at hz
      rcases hz with rfl | rfl | rfl
      · exact List.mem_cons_self ..
      · exact List.mem_cons_of_mem _ (by simp [own, owned])
      · exact List.mem_cons_of_mem _ (by simp [own, owned]))
theorem pure_do_again (T : Txt K mg A) (vs : List V) (H : Hp) (Q : VK) (E : XK) : spAgain A vs H Q E → t_do_again K A (spStanding A) (spStandAs A) { nx := fun _ H' => Q .non H', rt := Q } (start ["self"] vs) H := by
  rintro ⟨a, d, x, q, xs, ys, k, r, rfl, R, hp, kk⟩
  have hv : ∀ G, Ev (tVar 0) (start ["self"] [V.ref a]) G (.ref a) := fun G => ev_var rfl
  have h5 := R.nd5
  simp only [owned, List.nodup_cons, List.mem_cons, List.not_mem_nil, or_false, not_or] at h5
  have ab : x.SA ≠ x.SB := h5.1.1
  have la := paired_len R.past
  have lb := R.ok.all
  have cA : x.SA ≠ a := (Con.ne_ins (.inl ⟨_, R.sa⟩) R.now.obj)
  have cB : x.SB ≠ a := (Con.ne_ins (.inl ⟨_, R.sb⟩) R.now.obj)
  refine q_appStand R.now hv R.sa (vf_stood_ahead T R.now.obj (hv H)) (by rw [tops_len]; omega) fun q' H1 e1 hs n1 n2 nd => ?_
  have hp' := R.future
  rw [hp] at hp'
  cases hp' with
  | cons s0 sp =>
    have O1 : upd H1 x.SA (.lst (tops xs ++ [V.ref q'.t])) a = some (.ins A.C_Roll x.dx (rF_Roll (mkR d.now x))) := by rw [upd_ne (Ne.symm cA)]; exact e1 _ _ R.now.obj
    have f1 : FrL [a, x.SA, x.SB] H (upd H1 x.SA (.lst (tops xs ++ [V.ref q'.t]))) := FrL.write e1 (by simp)
    have tB : q.t ≠ x.SA := Con.ne_tup (.inl ⟨_, R.sa⟩) s0.tup
    refine s_popStand (zs := tops ys) (t := q.t) O1 hv (by rw [upd_ne (Ne.symm ab), e1 _ _ R.sb, tops_cons]) (vf_stood_behind T O1 (hv _)) (by rw [upd_ne tB]; exact e1 _ _ s0.tup) fun H' O' l' f' => ?_
    have f2 : FrL [a, x.SA, x.SB] (upd H1 x.SA (.lst (tops xs ++ [V.ref q'.t]))) H' := f'.mono fun z hz => by
      simp only [List.mem_cons, List.not_mem_nil, or_false] at hz ⊢
      rcases hz with rfl | rfl
      · exact .inl rfl
      · exact .inr (.inr rfl)
    have hq : ∀ z, H z = none → z ∉ [a, x.SA, x.SB] := fun z hz hm => by
      simp only [List.mem_cons, List.not_mem_nil, or_false]
          at hm
      rcases hm with rfl | rfl | rfl
      · rw [R.now.obj] at hz; cases hz
      · rw [R.sa] at hz; cases hz
      · rw [R.sb] at hz; cases hz
    have m2 : ∀ z, z ∉ [a, x.SA, x.SB] → z ∉ [x.SA] := fun z hz hm => hz (by rw [List.mem_singleton.mp hm]; simp)
    have sn : Snap H' q' d.now := (hs.keep (l := [x.SA]) (FrL.write (Ex.refl _) (List.mem_singleton.mpr rfl)) (fun z hz => m2 z (hq z (n2 z hz))) (m2 _ (hq _ n1))).keep f2 (fun z hz => hq z (n2 z hz)) (hq _ n1)
    obtain ⟨R', hm⟩ := again_rep R hp ⟨O', by rw [f' _ _ (by simp [cA, ab]) upd_same, tops_cons], l', f1.trans f2, sn, n2, nd⟩
    exact kk H' _ _ _ R' hm ((f1.trans f2).mono fun z hz => by
      simp only [List.mem_cons, List.not_mem_nil, or_false] at hz
      rcases hz with rfl | rfl | rfl
      · exact List.mem_cons_self ..
      · exact List.mem_cons_of_mem _ (by simp [own, owned])
      · exact List.mem_cons_of_mem _ (by simp [own, owned]))
end
end Ag

/-! AgH: the calls: what each one's def promises, and that it keeps it. -/
namespace Ag
open PySem PySem.Spec PyProof.Rows L2 Evl
open Km493 (Book Person Band Desk bits act only n2i)
open Km493Neutral (told step)

def isChange : Km493.Call → Bool
  | .pass _ => true
  | .born => true
  | .open_ => true
  | .shut => true
  | .join _ => true
  | .joinAll => true
  | _ => false
/-- what the call's own def makes of the desk: a change isn't noted yet -/
def effD (d : Desk) (c : Km493.Call) : Desk := if isChange c = true then ⟨(act d c).1.now, d.past, d.future⟩ else (act d c).1
def eff (s : Option Desk) (c : Km493.Call) : Option Desk := match s with
  | none => (step none [code c]).1
  | some d => some (effD d c)
def ans (s : Option Desk) (c : Km493.Call) : List Int := (step s [code c]).2
theorem ans_some (d : Desk) (c : Km493.Call) : ans (some d) c = told (act d c).2 := by unfold ans; rw [step_some d c (call_code c)]
def intV (l : List Int) : List V := l.map V.int
/-- the object in a state, its footprint -/
def StR (A : Adr) (H : Hp) (a : Addr) : Option Desk → List Addr → Prop
  | none, F => (∃ dx r, H a = some (.ins A.C_Roll dx (rF_Roll r))) ∧ F = [a]
  | some d, F => ∃ x xs ys, RepX A H a d x xs ys ∧ F = a :: own x xs ys
def Post (A : Adr) (H : Hp) (a : Addr) (s : Option Desk) (F : List Addr) (l : List Int) (Q : VK) : Prop :=
  ∀ p H' F', H p = none → p ∉ F' → H' p = some (.lst (intV l)) → StR A H' a s F' → FrL F H H' → (∀ z ∈ F', z ∈ F ∨ H z = none) → Q (.ref p) H'
def spOs (A : Adr) (k : Nat) : Sp := fun vs H Q _ => ∃ a l s F c, vs = [.ref a, .ref l] ∧ num c = k ∧ H l = some (.lst (natV (args c))) ∧ StR A H a s F ∧ (s = none → k = 0) ∧ Post A H a (eff s c) F (ans s c) Q

section
variable {K : PySem.W.Frag} {mg : Str → Option Value} {A : Adr} {H H' : Hp} {a : Addr} {d d' : Desk} {x x' : Ad} {xs ys xs' ys' : List A3} {c : Km493.Call} {Q : VK} {l : List Int}
theorem RepX.dom (R : RepX A H a d x xs ys) : ∀ z ∈ a :: own x xs ys, ∃ o, H z = some o := fun z hz => by
  rcases List.mem_cons.mp hz
      with rfl | hz
  · exact ⟨_, R.now.obj⟩
  · exact (R.con z hz).some
theorem RepX.away (R : RepX A H a d x xs ys) {p : Addr} (hp : H p = none) : p ∉ a :: own x xs ys := fun hm => by
  obtain ⟨o, h⟩ := R.dom p hm
  rw [hp] at h
  cases h
/-- nothing has changed -/
theorem still (R : RepX A H a d x xs ys) (P : Post A H a (eff (some d) c) (a :: own x xs ys) (ans (some d) c) Q) (he : effD d c = d) (ha : told (act d c).2 = l) : RetL (intV l) H Q := fun p H2 hp e h2 => by
  have P' : Post A H a (some (effD d c)) (a :: own x xs ys) (ans (some d) c) Q := P
  rw [he, ans_some, ha] at P'
  exact P' p H2 _ hp (R.away hp) h2 ⟨x, xs, ys, R.ext e, rfl⟩ (FrL.of e) fun z hz => .inl hz
/-- the desk has changed, then the answer is made -/
theorem moved (R' : RepX A H' a d' x' xs' ys') (f : FrL (a :: own x xs ys) H H') (hm : ∀ z ∈ own x' xs' ys', z ∈ own x xs ys ∨ H z = none) (P : Post A H a (eff (some d) c) (a :: own x xs ys) (ans (some d) c) Q) (he : effD d c = d') (ha : told (act d c).2 = l) : RetL (intV l) H' Q := fun p H2 hp e h2 => by
  have P' : Post A H a (some (effD d c)) (a :: own x xs ys) (ans (some d) c) Q := P
  rw [he, ans_some, ha] at P'
  refine P' p H2 _ (f.fresh hp) (R'.away hp) h2 ⟨x', xs', ys', R'.ext e, rfl⟩ (f.trans (FrL.of e)) fun z hz => ?_
  rcases List.mem_cons.mp hz
      with rfl | hz
  · exact .inl (List.mem_cons_self ..)
  · rcases hm z hz with h | h
    · exact .inl (List.mem_cons_of_mem _ h)
    · exact .inr h
theorem quest (hc : isChange c = false) (h : (act d c).1 = d) : effD d c = d := by unfold effD; rw [if_neg (by rw [hc]; decide)]; exact h
theorem refused (h : (act d c).1 = d) : effD d c = d := by
  unfold effD
  rw [h]
  split <;> rfl
theorem four_own : ∀ z ∈ four a x, z ∈ a :: own x xs ys := fun z hz => by
  simp only [four, List.mem_cons, List.not_mem_nil, or_false] at hz
  rcases hz with rfl | rfl | rfl | rfl
  · exact List.mem_cons_self ..
  · exact List.mem_cons_of_mem _ (by simp [own, owned])
  · exact List.mem_cons_of_mem _ (by simp [own, owned])
  · exact List.mem_cons_of_mem _ (by simp [own, owned])
theorem FrL.of_four {H1 : Hp} (f : FrL (four a x) H H1) : FrL (a :: own x xs ys) H H1 := f.mono four_own
theorem FrL.of_one {H1 : Hp} (f : FrL [a] H H1) : FrL (a :: own x xs ys) H H1 := f.mono fun z hz => by rw [List.mem_singleton.mp hz]; exact List.mem_cons_self ..
theorem FrL.four_one {H1 : Hp} (f : FrL [a] H H1) : FrL (four a x) H H1 := f.mono fun z hz => by rw [List.mem_singleton.mp hz]; simp [four]
/-- a number behind the call -/
theorem ev_num {σ : L2.St} {ta : TE} {p : Addr} {ns : List Nat} {i n : Nat} (h : Ev ta σ H (.ref p)) (hp : H p = some (.lst (natV ns))) (hn : ns[i]? = some n) : Ev (tOp (rIxL K) ta (tC (.int (i : Int)))) σ H (.int n) :=
  ev_op h ev_c (rv_ixL (sq_of hp) (atI_nat (by rw [List.getElem?_map, hn]; rfl)))
theorem el_one {σ : L2.St} {ta : TE} {i : Int} (h : Ev ta σ H (.int i)) : EvL (tLst (tCons ta tNil)) σ H (intV [i]) := el_lst (ea_cons h ea_nil) (by show 1 ≤ 100000; omega)
theorem el_two {σ : L2.St} {ta tb : TE} {i j : Int} (h : Ev ta σ H (.int i)) (h' : Ev tb σ H (.int j)) : EvL (tLst (tCons ta (tCons tb tNil))) σ H (intV [i, j]) := el_lst (ea_cons h (ea_cons h' ea_nil)) (by show 2 ≤ 100000; omega)

/-! #### questions -/
theorem pure_os_age (T : Txt K mg A) (vs : List V) (H : Hp) (Q : VK) (E : XK) : spOs A 7 vs H Q E → t_os_age K A (spIsPerson A) (spAgeOf A) { nx := fun _ H' => Q .non H', rt := Q } (start ["roll", "numbers", "person"] vs) H := by
  rintro ⟨a, l, s, F, c, rfl, hc, hl, hst, hs0, P⟩
  cases s with
  | none => cases hs0 rfl
  | some d =>
    obtain ⟨x, xs, ys, R, rfl⟩ := hst
    cases c <;> try cases hc
    rename_i i
    refine q_asg (ev_num (i := 0) (ev_var rfl) hl rfl) fun H1 e1 => ?_
    have N1 := R.now.ext e1
    refine q_when (et_not (et_B (vm_is_person N1.obj (ev_var rfl) (ea_cons (ev_var rfl) ea_nil) (spQ_at N1 ⟨i, rfl, rfl⟩)))) (fun hb H2 e2 => ?_) (fun hb H2 e2 => ?_)
    · have hi : ¬ i < d.now.people.length := by simpa using hb
      refine s_retL (el_one ev_c) fun p H3 h3 e3 h3' => (still (l := [-2]) R P (quest rfl rfl) ?_).go (e1.trans e2) h3 e3 h3'
      show told (if d.now.no i = true then _ else _) = _
      rw [if_pos (no_iff.mpr (by omega))]
      rfl
    · have hi : i < d.now.people.length := by simpa using hb
      have N2 := N1.ext e2
      refine s_retL (el_one (vm_age_of N2.obj (ev_var rfl) (ea_cons (ev_var rfl) ea_nil) (spQ_at N2 ⟨i, rfl, hi, rfl⟩))) fun p H3 h3 e3 h3' => (still (l := [(d.now.age i : Nat)]) R P (quest rfl rfl) ?_).go (e1.trans e2) h3 e3 h3'
      show told (if d.now.no i = true then _ else _) = _
      rw [if_neg (by rw [no_false hi]; decide)]
      rfl
end
end Ag

/-! AgI: the calls that are questions. -/
namespace Ag
open PySem PySem.Spec PyProof.Rows L2 Evl
open Km493 (Book Person Band Desk bits act only n2i)
open Km493Neutral (told step)
section
variable {K : PySem.W.Frag} {mg : Str → Option Value} {A : Adr} {H H' : Hp} {a : Addr} {d d' : Desk} {x x' : Ad} {xs ys xs' ys' : List A3} {c : Km493.Call} {Q : VK} {l : List Int}

theorem el_callN {σ : L2.St} {te : TE} {sp : Sp} {zs xs : List V} (h : EvL te σ H zs) (hs : ∀ p H1, H1 p = some (.lst zs) → Ex H H1 → SpL sp [.ref p] H1 xs) : EvL (tCall sp [] E0 (tCons te tNil)) σ H xs := fun H1 e Q q =>
  h H1 e _ fun p H2 n2 e2 h2 => hs p H2 h2 (e.trans e2) H2 (Ex.refl H2) Q (fun p' H3 n3 e3 h3 => q p' H3 (fresh_back e2 n3) (e2.trans e3) h3) E0
theorem asSet_at {p : Addr} {bs : List Bool} (h : SqL K H p (bs.map V.bl)) : SpL (spAsSet K) [.ref p] H [.int (sel bs).length, .int (bits (sel bs))] := fun H1 e Q q _ => ⟨p, bs, rfl, ex_l e h, q⟩
theorem setV (n : Nat) (g : Nat → Bool) : ([.int (sel ((List.range n).map g)).length, .int (bits (sel ((List.range n).map g)))] : List V) = intV [(((List.range n).filter g).length : Int), (bits ((List.range n).filter g) : Nat)] := by rw [sel_map]; rfl
theorem natV_int (l : List Nat) : natV l = (l.map fun (i : Nat) => (i : Int)).map V.int := by rw [List.map_map]; rfl
theorem flat_zeros (k : Nat) : (List.replicate k [V.int 0]).flatten = List.replicate k (V.int 0) := by
  induction k with
  | zero => rfl
  | succ k ih => rw [List.replicate_succ, List.flatten_cons, ih, List.replicate_succ]; rfl
theorem pure_os_whose (T : Txt K mg A) (vs : List V) (H : Hp) (Q : VK) (E : XK) : spOs A 8 vs H Q E → t_os_whose K A (spIsPerson A) (spInSet A) (spNameOf A) { nx := fun _ H' => Q .non H', rt := Q } (start ["roll", "numbers", "person", "joined"] vs) H := by
  rintro ⟨a, l, s, F, c, rfl, hc, hl, hst, hs0, P⟩
  cases s with
  | none => cases hs0 rfl
  | some d =>
    obtain ⟨x, xs, ys, R, rfl⟩ := hst
    cases c <;> try cases hc
    rename_i i
    refine q_asg (ev_num (i := 0) (ev_var rfl) hl rfl) fun H1 e1 => ?_
    have N1 := R.now.ext e1
    refine q_when (et_not (et_B (vm_is_person N1.obj (ev_var rfl) (ea_cons (ev_var rfl) ea_nil) (spQ_at N1 ⟨i, rfl, rfl⟩)))) (fun hb H2 e2 => ?_) (fun hb H2 e2 => ?_)
    · have hi : ¬ i < d.now.people.length := by simpa using hb
      refine s_retL (el_one ev_c) fun p H3 h3 e3 h3' => (still (l := [-2]) R P (quest rfl rfl) ?_).go (e1.trans e2) h3 e3 h3'
      show told (if d.now.no i = true then _ else _) = _
      rw [if_pos (no_iff.mpr (by omega))]
      rfl
    · have hi : i < d.now.people.length := by simpa using hb
      have N2 := N1.ext e2
      refine q_when (et_not (et_B (vm_is_in_a_set N2.obj (ev_var rfl) (ea_cons (ev_var rfl) ea_nil) (spQ_at N2 ⟨i, rfl, hi, rfl⟩)))) (fun hj H3 e3 => ?_) (fun hj H3 e3 => ?_)
      · have hn : (d.now.p i).joined = none := by simpa using hj
        refine s_retL (el_one ev_c) fun p H4 h4 e4 h4' => (still (l := [-33]) R P (quest rfl rfl) ?_).go ((e1.trans e2).trans e3) h4 e4 h4'
        show told (if d.now.no i = true then _ else match d.now.set_ i with | none => _ | some s => _) = _
        rw [if_neg (by rw [no_false hi]; decide), show d.now.set_ i = none from by unfold Km493.Book.set_; rw [hn]; rfl]
        rfl
      · obtain ⟨j, hj'⟩ : ∃ j, (d.now.p i).joined = some j := Option.isSome_iff_exists.mp (by simpa using hj)
        have N3 := N2.ext e3
        have es : setI (d.now.p i) = (j.2 : Int) := by unfold setI; rw [hj']
        refine q_asg (ev_is (nv_set T N3 (ev_var rfl) hi (ev_var rfl)) (congrArg V.int es)) fun H4 e4 => ?_
        have N4 := N3.ext e4
        refine s_retL (el_two (ev_var rfl) (vm_name_of N4.obj (ev_var rfl) (ea_cons (ev_var rfl) ea_nil) (spQ_at N4 ⟨j.2, rfl, rfl⟩))) fun p H5 h5 e5 h5' => (still (l := [(j.2 : Int), (d.now.name j.2 : Nat)]) R P (quest rfl rfl) ?_).go (((e1.trans e2).trans e3).trans e4) h5 e5 h5'
        show told (if d.now.no i = true then _ else match d.now.set_ i with | none => _ | some s => _) = _
        rw [if_neg (by rw [no_false hi]; decide), show d.now.set_ i = some j.2 from by unfold Km493.Book.set_; rw [hj']; rfl]
        rfl

theorem pure_os_members (T : Txt K mg A) (vs : List V) (H : Hp) (Q : VK) (E : XK) : spOs A 9 vs H Q E → t_os_members K A (spIsSet A) (spAreIn A) (spAsSet K) { nx := fun _ H' => Q .non H', rt := Q } (start ["roll", "numbers", "number"] vs) H := by
  rintro ⟨a, l, s, F, c, rfl, hc, hl, hst, hs0, P⟩
  cases s with
  | none => cases hs0 rfl
  | some d =>
    obtain ⟨x, xs, ys, R, rfl⟩ := hst
    cases c <;> try cases hc
    rename_i i
    refine q_asg (ev_num (i := 0) (ev_var rfl) hl rfl) fun H1 e1 => ?_
    have N1 := R.now.ext e1
    refine q_when (et_not (et_B (vm_is_set N1.obj (ev_var rfl) (ea_cons (ev_var rfl) ea_nil) (spQ_at N1 ⟨i, rfl, rfl⟩)))) (fun hb H2 e2 => ?_) (fun hb H2 e2 => ?_)
    · have hi : ¬ i < d.now.sets.length := by simpa using hb
      refine s_retL (el_one ev_c) fun p H3 h3 e3 h3' => (still (l := [-2]) R P (quest rfl rfl) ?_).go (e1.trans e2) h3 e3 h3'
      show told (if d.now.ns i = true then _ else _) = _
      rw [if_pos (ns_iff.mpr (by omega))]
      rfl
    · have hi : i < d.now.sets.length := by simpa using hb
      have N2 := N1.ext e2
      refine s_retL (el_is (el_callN (vl_are_in N2.obj (ev_var rfl) (ea_cons (ev_var rfl) ea_nil) (spL_at N2 ⟨i, rfl, rfl⟩)) fun p H1 h1 _ => asSet_at (sq_of h1)) (setV _ _)) fun p H3 h3 e3 h3' => (still (l := [((d.now.members i).length : Int), (bits (d.now.members i) : Nat)]) R P (quest rfl rfl) ?_).go (e1.trans e2) h3 e3 (by rw [members_eq]; exact h3')
      show told (if d.now.ns i = true then _ else _) = _
      rw [if_neg (by rw [ns_false hi]; decide)]
      rfl

theorem pure_os_name (T : Txt K mg A) (vs : List V) (H : Hp) (Q : VK) (E : XK) : spOs A 10 vs H Q E → t_os_name K A (spNameOf A) { nx := fun _ H' => Q .non H', rt := Q } (start ["roll", "numbers"] vs) H := by
  rintro ⟨a, l, s, F, c, rfl, hc, hl, hst, hs0, P⟩
  cases s with
  | none => cases hs0 rfl
  | some d =>
    obtain ⟨x, xs, ys, R, rfl⟩ := hst
    cases c <;> try cases hc
    rename_i i
    refine s_retL (el_one (vm_name_of R.now.obj (ev_var rfl) (ea_cons (ev_num (i := 0) (ev_var rfl) hl rfl) ea_nil) (spQ_at R.now ⟨i, rfl, rfl⟩))) fun p H3 h3 e3 h3' => still (l := [(d.now.name i : Nat)]) R P (quest rfl rfl) rfl p H3 h3 e3 h3'

theorem pure_os_alike (T : Txt K mg A) (vs : List V) (H : Hp) (Q : VK) (E : XK) : spOs A 11 vs H Q E → t_os_alike K A (spIsSet A) (spAlike A) (spAsSet K) { nx := fun _ H' => Q .non H', rt := Q } (start ["roll", "numbers", "number"] vs) H := by
  rintro ⟨a, l, s, F, c, rfl, hc, hl, hst, hs0, P⟩
  cases s with
  | none => cases hs0 rfl
  | some d =>
    obtain ⟨x, xs, ys, R, rfl⟩ := hst
    cases c <;> try cases hc
    rename_i i
    refine q_asg (ev_num (i := 0) (ev_var rfl) hl rfl) fun H1 e1 => ?_
    have N1 := R.now.ext e1
    refine q_when (et_not (et_B (vm_is_set N1.obj (ev_var rfl) (ea_cons (ev_var rfl) ea_nil) (spQ_at N1 ⟨i, rfl, rfl⟩)))) (fun hb H2 e2 => ?_) (fun hb H2 e2 => ?_)
    · have hi : ¬ i < d.now.sets.length := by simpa using hb
      refine s_retL (el_one ev_c) fun p H3 h3 e3 h3' => (still (l := [-2]) R P (quest rfl rfl) ?_).go (e1.trans e2) h3 e3 h3'
      show told (if d.now.ns i = true then _ else _) = _
      rw [if_pos (ns_iff.mpr (by omega))]
      rfl
    · have hi : i < d.now.sets.length := by simpa using hb
      have N2 := N1.ext e2
      refine s_retL (el_is (el_callN (vl_have_the_name_of N2.obj (ev_var rfl) (ea_cons (ev_var rfl) ea_nil) (spL_at N2 ⟨i, rfl, rfl⟩)) fun p H1 h1 _ => asSet_at (sq_of h1)) (setV _ _)) fun p H3 h3 e3 h3' => (still (l := [(((List.range d.now.sets.length).filter fun t => decide (d.now.name t = d.now.name i)).length : Int), (bits ((List.range d.now.sets.length).filter fun t => decide (d.now.name t = d.now.name i)) : Nat)]) R P (quest rfl rfl) ?_).go (e1.trans e2) h3 e3 h3'
      show told (if d.now.ns i = true then _ else _) = _
      rw [if_neg (by rw [ns_false hi]; decide)]
      rfl

theorem pure_os_may (T : Txt K mg A) (vs : List V) (H : Hp) (Q : VK) (E : XK) : spOs A 12 vs H Q E → t_os_may K A (spWhoMay A) (spAsSet K) { nx := fun _ H' => Q .non H', rt := Q } (start ["roll", "numbers"] vs) H := by
  rintro ⟨a, l, s, F, c, rfl, hc, hl, hst, hs0, P⟩
  cases s with
  | none => cases hs0 rfl
  | some d =>
    obtain ⟨x, xs, ys, R, rfl⟩ := hst
    cases c <;> try cases hc
    refine s_retL (el_is (el_callN (vl_who_may_join R.now.obj (ev_var rfl) ea_nil (spL_at R.now ⟨rfl, rfl⟩)) fun p H1 h1 _ => asSet_at (sq_of h1)) (setV _ _)) fun p H3 h3 e3 h3' => still (l := [((d.now.all.filter d.now.may).length : Int), (bits (d.now.all.filter d.now.may) : Nat)]) R P (quest rfl rfl) rfl p H3 h3 e3 h3'

theorem pure_os_missed (T : Txt K mg A) (vs : List V) (H : Hp) (Q : VK) (E : XK) : spOs A 13 vs H Q E → t_os_missed K A (spWhoMissed A) (spAsSet K) { nx := fun _ H' => Q .non H', rt := Q } (start ["roll", "numbers"] vs) H := by
  rintro ⟨a, l, s, F, c, rfl, hc, hl, hst, hs0, P⟩
  cases s with
  | none => cases hs0 rfl
  | some d =>
    obtain ⟨x, xs, ys, R, rfl⟩ := hst
    cases c <;> try cases hc
    refine s_retL (el_is (el_callN (vl_who_has_missed R.now.obj (ev_var rfl) ea_nil (spL_at R.now ⟨rfl, rfl⟩)) fun p H1 h1 _ => asSet_at (sq_of h1)) (setV _ _)) fun p H3 h3 e3 h3' => still (l := [(d.now.missed.length : Int), (bits d.now.missed : Nat)]) R P (quest rfl rfl) rfl p H3 h3 e3 h3'

theorem pure_os_senior (T : Txt K mg A) (vs : List V) (H : Hp) (Q : VK) (E : XK) : spOs A 14 vs H Q E → t_os_senior K A (spIsPerson A) (spInSet A) (spSenior A) { nx := fun _ H' => Q .non H', rt := Q } (start ["roll", "numbers", "first", "second"] vs) H := by
  rintro ⟨a, l, s, F, c, rfl, hc, hl, hst, hs0, P⟩
  cases s with
  | none => cases hs0 rfl
  | some d =>
    obtain ⟨x, xs, ys, R, rfl⟩ := hst
    cases c <;> try cases hc
    rename_i i j
    refine q_asg (ev_num (i := 0) (ev_var rfl) hl rfl) fun H0 e0 => q_asg (ev_num (i := 1) (ev_var rfl) (e0 _ _ hl) rfl) fun H1' e1' => ?_
    have e1 := e0.trans e1'
    have N1 := R.now.ext e1
    refine q_when (et_or (et_not (et_B (vm_is_person N1.obj (ev_var rfl) (ea_cons (ev_var rfl) ea_nil) (spQ_at N1 ⟨i, rfl, rfl⟩)))) fun _ => et_not (et_B (vm_is_person N1.obj (ev_var rfl) (ea_cons (ev_var rfl) ea_nil) (spQ_at N1 ⟨j, rfl, rfl⟩)))) (fun hb H2 e2 => ?_) (fun hb H2 e2 => ?_)
    · have hi : ¬ i < d.now.people.length ∨ ¬ j < d.now.people.length := by simpa using hb
      refine s_retL (el_one ev_c) fun p H3 h3 e3 h3' => (still (l := [-2]) R P (quest rfl rfl) ?_).go (e1.trans e2) h3 e3 h3'
      show told (if d.now.no i = true ∨ d.now.no j = true then _ else _) = _
      rw [if_pos (by rw [no_iff, no_iff]; omega)]
      rfl
    · have hij : i < d.now.people.length ∧ j < d.now.people.length := by simpa using hb
      obtain ⟨hi, hj⟩ := hij
      have N2 := N1.ext e2
      have hnn : ¬ (d.now.no i = true ∨ d.now.no j = true) := by rw [no_iff, no_iff]; omega
      refine q_when (et_or (et_not (et_B (vm_is_in_a_set N2.obj (ev_var rfl) (ea_cons (ev_var rfl) ea_nil) (spQ_at N2 ⟨i, rfl, hi, rfl⟩)))) fun _ => et_not (et_B (vm_is_in_a_set N2.obj (ev_var rfl) (ea_cons (ev_var rfl) ea_nil) (spQ_at N2 ⟨j, rfl, hj, rfl⟩)))) (fun hc H3 e3 => ?_) (fun hc H3 e3 => ?_)
      · have hs : (d.now.p i).joined = none ∨ (d.now.p j).joined = none := by simpa using hc
        refine s_retL (el_one ev_c) fun p H4 h4 e4 h4' => (still (l := [-33]) R P (quest rfl rfl) ?_).go ((e1.trans e2).trans e3) h4 e4 h4'
        show told (if d.now.no i = true ∨ d.now.no j = true then _ else if d.now.set_ i = none ∨ d.now.set_ j = none then _ else _) = _
        rw [if_neg hnn, if_pos (by
          rcases hs with h | h
          · left; unfold Km493.Book.set_; rw [h]; rfl
          · right; unfold Km493.Book.set_; rw [h]; rfl)]
        rfl
      · have hs : (d.now.p i).joined.isSome = true ∧ (d.now.p j).joined.isSome = true := by simpa using hc
        have hss : ¬ (d.now.set_ i = none ∨ d.now.set_ j = none) := by
          obtain ⟨u, hu⟩ := Option.isSome_iff_exists.mp hs.1
          obtain ⟨v, hv⟩ := Option.isSome_iff_exists.mp hs.2
          unfold Km493.Book.set_
          rw [hu, hv]
          simp
        have s1 : d.now.senior i j = decide (setI (d.now.p i) < setI (d.now.p j)) := by rw [senior_eq, hs.1, hs.2]; rfl
        have s2 : d.now.senior j i = decide (setI (d.now.p j) < setI (d.now.p i)) := by rw [senior_eq, hs.1, hs.2]; rfl
        have N3 := N2.ext e3
        have hans : told (act d (.senior i j)).2 = [if d.now.senior i j = true then 1 else if d.now.senior j i = true then 2 else 0] := by
          show told (if d.now.no i = true ∨ d.now.no j = true then _ else if d.now.set_ i = none ∨ d.now.set_ j = none then _ else _) = _
          rw [if_neg hnn, if_neg hss]
          rfl
        refine q_when (et_B (vm_is_senior N3.obj (ev_var rfl) (ea_cons (ev_var rfl) (ea_cons (ev_var rfl) ea_nil)) (spQ_at N3 ⟨i, j, rfl, hi, hj, rfl⟩))) (fun h1 H4 e4 => ?_) (fun h1 H4 e4 => ?_)
        · refine s_retL (el_one ev_c) fun p H5 h5 e5 h5' => (still (l := [1]) R P (quest rfl rfl) ?_).go (((e1.trans e2).trans e3).trans e4) h5 e5 h5'
          rw [hans, s1, h1, if_pos rfl]
        · have N4 := N3.ext e4
          refine q_when (et_B (vm_is_senior N4.obj (ev_var rfl) (ea_cons (ev_var rfl) (ea_cons (ev_var rfl) ea_nil)) (spQ_at N4 ⟨j, i, rfl, hj, hi, rfl⟩))) (fun h2 H5 e5 => ?_) (fun h2 H5 e5 => ?_)
          · refine s_retL (el_one ev_c) fun p H6 h6 e6 h6' => (still (l := [2]) R P (quest rfl rfl) ?_).go ((((e1.trans e2).trans e3).trans e4).trans e5) h6 e6 h6'
            rw [hans, s1, h1, if_neg (by decide), s2, h2, if_pos rfl]
          · refine s_retL (el_one ev_c) fun p H6 h6 e6 h6' => (still (l := [0]) R P (quest rfl rfl) ?_).go ((((e1.trans e2).trans e3).trans e4).trans e5) h6 e6 h6'
            rw [hans, s1, h1, if_neg (by decide), s2, h2, if_neg (by decide)]

theorem pure_os_turned (T : Txt K mg A) (vs : List V) (H : Hp) (Q : VK) (E : XK) : spOs A 15 vs H Q E → t_os_turned K A (spApart A) { nx := fun _ H' => Q .non H', rt := Q } (start ["roll", "numbers", "apart"] vs) H := by
  rintro ⟨a, l, s, F, c, rfl, hc, hl, hst, hs0, P⟩
  cases s with
  | none => cases hs0 rfl
  | some d =>
    obtain ⟨x, xs, ys, R, rfl⟩ := hst
    cases c <;> try cases hc
    refine q_asgL (vl_turned_apart R.now.obj (ev_var rfl) ea_nil (spL_at R.now ⟨rfl, rfl⟩)) fun q H1 hq e1 h1 => ?_
    have hp := apart_twisted R.now.ok
    have h1' := h1
    rw [natV_int] at h1'
    refine s_retL (el_two (ev_is (ev_len (ev_var rfl) (sq_of h1)) (congrArg V.int (congrArg (Nat.cast (R := Int)) (show (natV (apartN d.now d.now.rank d.now.rank)).length = d.now.twisted.length by rw [List.length_map, hp.length_eq, List.length_map])))) (ev_maxDef (m := (((d.now.twisted.map fun p => (d.now.p p.2).born - (d.now.p p.1).born).foldl max 0 : Nat) : Int)) (ev_var rfl) (sq_of h1') ev_c (fun h0 => ?_) fun h0 => ?_)) fun p H3 h3 e3 h3' => (still (l := [(d.now.twisted.length : Int), (((d.now.twisted.map fun p => (d.now.p p.2).born - (d.now.p p.1).born).foldl max 0 : Nat) : Int)]) R P (quest rfl rfl) rfl).go e1 h3 e3 h3'
    · have z : apartN d.now d.now.rank d.now.rank = [] := List.map_eq_nil_iff.mp h0
      rw [z] at hp
      rw [List.nil_perm.mp hp]
      rfl
    · have z : (d.now.twisted.map fun p => (d.now.p p.2).born - (d.now.p p.1).born) ≠ [] := fun z => h0 (by rw [z] at hp; rw [List.perm_nil.mp hp]; rfl)
      obtain ⟨m1, m2⟩ := max0 z
      refine ⟨List.mem_map.mpr ⟨_, hp.mem_iff.mpr m1, rfl⟩, fun y hy => ?_⟩
      obtain ⟨n, hn, rfl⟩ := List.mem_map.mp hy
      exact Int.ofNat_le.mpr (m2 n (hp.mem_iff.mp hn))

theorem pure_os_rank (T : Txt K mg A) (vs : List V) (H : Hp) (Q : VK) (E : XK) : spOs A 16 vs H Q E → t_os_rank K A (spRanked A) { nx := fun _ H' => Q .non H', rt := Q } (start ["roll", "numbers", "ranked"] vs) H := by
  rintro ⟨a, l, s, F, c, rfl, hc, hl, hst, hs0, P⟩
  cases s with
  | none => cases hs0 rfl
  | some d =>
    obtain ⟨x, xs, ys, R, rfl⟩ := hst
    cases c <;> try cases hc
    have hf := rank_few R.now.ok
    refine q_asgL (vl_ranked R.now.obj (ev_var rfl) ea_nil (spL_at R.now ⟨rfl, rfl⟩)) fun q H1 hq e1 h1 => ?_
    have hlen : Ev (tCB (Evl.rLenS K) (tCons (tVar 2) tNil)) ((start ["roll", "numbers", "ranked"] [V.ref a, V.ref l]).set 2 (some (.ref q))) H1 (.int (d.now.rank.length : Nat)) := ev_is (ev_len (ev_var rfl) (sq_of h1)) (congrArg V.int (congrArg (Nat.cast (R := Int)) (List.length_map ..)))
    refine s_retL (el_is (el_cat (el_catV (el_lst (ea_cons hlen ea_nil) (by show 1 ≤ 100000; omega)) (ev_var rfl) h1 (by rw [List.length_map]; show 1 + _ ≤ _; omega)) (el_rep (k := 20 - d.now.rank.length) (el_lst (ea_cons ev_c ea_nil) (by show 1 ≤ 100000; omega)) (ev_is (ev_op ev_c hlen rv_I0) (congrArg V.int (show (20 : Int) - (d.now.rank.length : Int) = ((20 - d.now.rank.length : Nat) : Int) by omega))) (by omega) (by show 1 ≤ 100; omega)) ?_) ?_) fun p H3 h3 e3 h3' => (still (l := (d.now.rank.length : Int) :: Km493Neutral.nums (Km493.fill 20 d.now.rank)) R P (quest rfl rfl) rfl).go e1 h3 e3 h3'
    · rw [List.length_append, List.length_map, flat_zeros, List.length_replicate]
      show 1 + _ + _ ≤ _
      omega
    · rw [flat_zeros]
      unfold intV Km493Neutral.nums Km493.fill
      rw [List.take_of_length_le hf, List.map_cons, List.map_append, List.map_append, List.map_map, List.map_replicate, List.map_replicate]
      rfl

theorem pure_os_span (T : Txt K mg A) (vs : List V) (H : Hp) (Q : VK) (E : XK) : spOs A 17 vs H Q E → t_os_span K A (spIsSet A) (spBornIn A) { nx := fun _ H' => Q .non H', rt := Q } (start ["roll", "numbers", "number", "born", "first", "last"] vs) H := by
  rintro ⟨a, l, s, F, c, rfl, hc, hl, hst, hs0, P⟩
  cases s with
  | none => cases hs0 rfl
  | some d =>
    obtain ⟨x, xs, ys, R, rfl⟩ := hst
    cases c <;> try cases hc
    rename_i i
    refine q_asg (ev_num (i := 0) (ev_var rfl) hl rfl) fun H1 e1 => ?_
    have N1 := R.now.ext e1
    refine q_when (et_not (et_B (vm_is_set N1.obj (ev_var rfl) (ea_cons (ev_var rfl) ea_nil) (spQ_at N1 ⟨i, rfl, rfl⟩)))) (fun hb H2 e2 => ?_) (fun hb H2 e2 => ?_)
    · have hi : ¬ i < d.now.sets.length := by simpa using hb
      refine s_retL (el_one ev_c) fun p H3 h3 e3 h3' => (still (l := [-2]) R P (quest rfl rfl) ?_).go (e1.trans e2) h3 e3 h3'
      show told (if d.now.ns i = true then _ else _) = _
      rw [if_pos (ns_iff.mpr (by omega))]
      rfl
    · have hi : i < d.now.sets.length := by simpa using hb
      have N2 := N1.ext e2
      have hns : ¬ (d.now.ns i = true) := by rw [ns_false hi]; decide
      refine q_asgL (el_is (vl_birth_years_in N2.obj (ev_var rfl) (ea_cons (ev_var rfl) ea_nil) (spL_at N2 ⟨i, rfl, rfl⟩)) (show _ = natV ((d.now.members i).map fun i => (d.now.p i).born) by rw [members_eq]; unfold natV; rw [List.map_map]; rfl)) fun q H3 hq e3 h3 => ?_
      have hb300 : ∀ n ∈ (d.now.members i).map fun i => (d.now.p i).born, n ≤ 300 := fun n hn => by
        obtain ⟨m, hm, rfl⟩ := List.mem_map.mp hn
        have h1 := R.now.ok.born _ (p_mem (mem_members.mp hm).1)
        have h2 := R.now.ok.year
        omega
      generalize hL : ((d.now.members i).map fun i => (d.now.p i).born) = L at h3 hb300
      have hans : told (act d (.span i)).2 = told (if L = [] then only (-33) else ⟨n2i (L.foldl max 0 - L.foldl min 300), [L.foldl min 300, L.foldl max 0]⟩) := by
        show told (if d.now.ns i = true then _ else _) = _
        rw [if_neg hns, ← hL]
        rfl
      refine q_when (et_test (ev_is (ev_op (ev_len (ev_var rfl) (sq_of h3)) ev_c (rv_eq rfl)) (congrArg V.bl vint_eq))) (fun hz H4 e4 => ?_) (fun hz H4 e4 => ?_)
      · have hz' : L = [] := by
          have h0 : ((natV L).length : Int) = 0 := of_decide_eq_true hz
          rw [List.length_map] at h0
          exact List.eq_nil_of_length_eq_zero (by omega)
        refine s_retL (el_one ev_c) fun p H5 h5 e5 h5' => (still (l := [-33]) R P (quest rfl rfl) ?_).go (((e1.trans e2).trans e3).trans e4) h5 e5 h5'
        rw [hans, if_pos hz']
        rfl
      · have hz' : L ≠ [] := fun h0 => by
          rw [h0] at hz
          exact absurd hz (by decide)
        obtain ⟨m1, m2⟩ := max0 hz'
        obtain ⟨k1, k2⟩ := min300 hz' hb300
        have hle : L.foldl min 300 ≤ L.foldl max 0 := m2 _ k1
        have h4 := e4 _ _ h3
        rw [natV_int] at h4
        refine q_asg (ev_cb (ea_cons (ev_var rfl) ea_nil) (rc_min (m := ((L.foldl min 300 : Nat) : Int)) (sq_of h4) (List.mem_map.mpr ⟨_, k1, rfl⟩) fun y hy => by
          obtain ⟨n, hn, rfl⟩ := List.mem_map.mp hy
          exact Int.ofNat_le.mpr (k2 n hn))) fun H5 e5 => ?_
        have h5 := e5 _ _ h4
        refine q_asg (ev_cb (ea_cons (ev_var rfl) ea_nil) (rc_max (m := ((L.foldl max 0 : Nat) : Int)) (sq_of h5) (List.mem_map.mpr ⟨_, m1, rfl⟩) fun y hy => by
          obtain ⟨n, hn, rfl⟩ := List.mem_map.mp hy
          exact Int.ofNat_le.mpr (m2 n hn))) fun H6 e6 => ?_
        refine s_retL (el_lst (ea_cons (ev_is (ev_op (ev_var rfl) (ev_var rfl) rv_I0) (congrArg V.int (show ((L.foldl max 0 : Nat) : Int) - ((L.foldl min 300 : Nat) : Int) = ((L.foldl max 0 - L.foldl min 300 : Nat) : Int) by omega))) (ea_cons (ev_var rfl) (ea_cons (ev_var rfl) ea_nil))) (by show 3 ≤ 100000; omega)) fun p H7 h7 e7 h7' => (still (l := [((L.foldl max 0 - L.foldl min 300 : Nat) : Int), ((L.foldl min 300 : Nat) : Int), ((L.foldl max 0 : Nat) : Int)]) R P (quest rfl rfl) ?_).go (((((e1.trans e2).trans e3).trans e4).trans e5).trans e6) h7 e7 h7'
        rw [hans, if_neg hz']
        rfl

theorem pure_os_when (T : Txt K mg A) (vs : List V) (H : Hp) (Q : VK) (E : XK) : spOs A 18 vs H Q E → t_os_when K A (spIsPerson A) (spInSet A) (spAgeAt A) { nx := fun _ H' => Q .non H', rt := Q } (start ["roll", "numbers", "person"] vs) H := by
  rintro ⟨a, l, s, F, c, rfl, hc, hl, hst, hs0, P⟩
  cases s with
  | none => cases hs0 rfl
  | some d =>
    obtain ⟨x, xs, ys, R, rfl⟩ := hst
    cases c <;> try cases hc
    rename_i i
    refine q_asg (ev_num (i := 0) (ev_var rfl) hl rfl) fun H1 e1 => ?_
    have N1 := R.now.ext e1
    refine q_when (et_not (et_B (vm_is_person N1.obj (ev_var rfl) (ea_cons (ev_var rfl) ea_nil) (spQ_at N1 ⟨i, rfl, rfl⟩)))) (fun hb H2 e2 => ?_) (fun hb H2 e2 => ?_)
    · have hi : ¬ i < d.now.people.length := by simpa using hb
      refine s_retL (el_one ev_c) fun p H3 h3 e3 h3' => (still (l := [-2]) R P (quest rfl rfl) ?_).go (e1.trans e2) h3 e3 h3'
      show told (if d.now.no i = true then _ else _) = _
      rw [if_pos (no_iff.mpr (by omega))]
      rfl
    · have hi : i < d.now.people.length := by simpa using hb
      have N2 := N1.ext e2
      refine q_when (et_not (et_B (vm_is_in_a_set N2.obj (ev_var rfl) (ea_cons (ev_var rfl) ea_nil) (spQ_at N2 ⟨i, rfl, hi, rfl⟩)))) (fun hj H3 e3 => ?_) (fun hj H3 e3 => ?_)
      · have hn : (d.now.p i).joined = none := by simpa using hj
        refine s_retL (el_one ev_c) fun p H4 h4 e4 h4' => (still (l := [-33]) R P (quest rfl rfl) ?_).go ((e1.trans e2).trans e3) h4 e4 h4'
        show told (if d.now.no i = true then _ else match (d.now.p i).joined with | none => _ | some j => _) = _
        rw [if_neg (by rw [no_false hi]; decide), hn]
        rfl
      · obtain ⟨j, hj'⟩ : ∃ j, (d.now.p i).joined = some j := Option.isSome_iff_exists.mp (by simpa using hj)
        have N3 := N2.ext e3
        obtain ⟨kvs, g1, g2⟩ := N3.h3.hJ
        refine s_retL (el_two (ev_dget (k := .inl (i : Int)) (vf_join_years T N3.obj (ev_var rfl)) (ev_var rfl) g1 (g2.at_ i _ j (p_at hi) hj')) (vm_age_at_joining N3.obj (ev_var rfl) (ea_cons (ev_var rfl) ea_nil) (spQ_at N3 ⟨i, j, rfl, hi, hj', rfl⟩))) fun p H5 h5 e5 h5' => (still (l := [(j.1 : Int), ((j.1 - (d.now.p i).born : Nat) : Int)]) R P (quest rfl rfl) ?_).go ((e1.trans e2).trans e3) h5 e5 h5'
        show told (if d.now.no i = true then _ else match (d.now.p i).joined with | none => _ | some j => _) = _
        rw [if_neg (by rw [no_false hi]; decide), hj']
        rfl

theorem pure_os_state (T : Txt K mg A) (vs : List V) (H : Hp) (Q : VK) (E : XK) : spOs A 21 vs H Q E → t_os_state K A (spLast A) { nx := fun _ H' => Q .non H', rt := Q } (start ["roll", "numbers", "one_more"] vs) H := by
  rintro ⟨a, l, s, F, c, rfl, hc, hl, hst, hs0, P⟩
  cases s with
  | none => cases hs0 rfl
  | some d =>
    obtain ⟨x, xs, ys, R, rfl⟩ := hst
    cases c <;> try cases hc
    have N := R.now
    have lA := paired_len R.past
    have lB := paired_len R.future
    refine q_asg (v := .int ((if isOpen d.now = true then d.now.sets.length else 0 : Nat) : Int)) (ev_if (et_B (vf_one_is_open T N.obj (ev_var rfl))) (fun ho => ?_) (fun ho => ?_)) fun H1 e1 => ?_
    · have ho' : isOpen d.now = true := ho
      rw [if_pos ho']
      exact ev_is (ev_op (vm_last_set N.obj (ev_var rfl) ea_nil (spQ_at N ⟨rfl, rfl⟩)) ev_c rv_I0) (congrArg V.int (show (d.now.sets.length : Int) - 1 + 1 = (d.now.sets.length : Int) by omega))
    · have ho' : isOpen d.now = false := ho
      rw [if_neg (by rw [ho']; decide)]
      exact ev_c
    · have N1 := N.ext e1
      have lenA := ev_is (ev_len (K := K) (vf_stood_ahead T N1.obj (ta := tVar 0) (σ := (start ["roll", "numbers", "one_more"] [V.ref a, V.ref l]).set 2 (some (.int ((if isOpen d.now = true then d.now.sets.length else 0 : Nat) : Int)))) (ev_var rfl)) (sq_of (e1 _ _ R.sa))) (congrArg V.int (congrArg (Nat.cast (R := Int)) ((tops_len xs).trans lA)))
      have lenB := ev_is (ev_len (K := K) (vf_stood_behind T N1.obj (ta := tVar 0) (σ := (start ["roll", "numbers", "one_more"] [V.ref a, V.ref l]).set 2 (some (.int ((if isOpen d.now = true then d.now.sets.length else 0 : Nat) : Int)))) (ev_var rfl)) (sq_of (e1 _ _ R.sb))) (congrArg V.int (congrArg (Nat.cast (R := Int)) ((tops_len ys).trans lB)))
      refine s_retL (el_lst (ea_cons (vf_year T N1.obj (ev_var rfl)) (ea_cons (nv_len T N1 (ev_var rfl)) (ea_cons (vf_set_count T N1.obj (ev_var rfl)) (ea_cons (ev_var rfl) (ea_cons lenA (ea_cons lenB ea_nil)))))) (by show 6 ≤ 100000; omega)) fun p H5 h5 e5 h5' => (still (l := [(d.now.year : Int), (d.now.people.length : Int), (d.now.sets.length : Int), ((if isOpen d.now = true then d.now.sets.length else 0 : Nat) : Int), (d.past.length : Int), (d.future.length : Int)]) R P (quest rfl rfl) ?_).go e1 h5 e5 h5'
      show ((d.now.year : Nat) : Int) :: Km493Neutral.nums [d.now.people.length, d.now.sets.length, (d.now.open_.map fun s => s + 1).getD 0, d.past.length, d.future.length] = _
      have e : (d.now.open_.map fun s => s + 1).getD 0 = if isOpen d.now = true then d.now.sets.length else 0 := by
        cases ho : isOpen d.now with
        | true =>
          have := isOpen_pos ho
          rw [open_yes R.now.ok ho, if_pos rfl]
          show d.now.sets.length - 1 + 1 = _
          omega
        | false => rw [open_no R.now.ok ho, if_neg (by decide)]; rfl
      rw [e]
      rfl
end
end Ag

/-! AgJ: the calls that are changes. -/
namespace Ag
open PySem PySem.Spec PyProof.Rows L2 Evl
open Km493 (Book Person Band Desk bits act only n2i)
open Km493Neutral (told step)
section
variable {K : PySem.W.Frag} {mg : Str → Option Value} {A : Adr} {H H' : Hp} {a : Addr} {d d' : Desk} {x x' : Ad} {xs ys xs' ys' : List A3} {c : Km493.Call} {Q : VK} {l : List Int}

/-- a method that is called for what it does -/
theorem q_methN {σ : L2.St} {C a dx : Addr} {fs : List (Str × V)} {m : Str} {sp : Sp} {ta : TE} {t : TA} {vs : List V} {D : Ends} {tz : TS} (h : Ev ta σ H (.ref a)) (O : H a = some (.ins C dx fs)) (lm : fs.lookup m = none) (hA : EvA t σ H vs)
    (hs : ∀ H1, Ex H H1 → sp (.ref a :: vs) H1 (fun _ H' => tz D σ H') E0) : tSeq (tDrop (tMeth C m sp [] E0 ta t)) tz D σ H := by
  unfold tSeq tDrop tMeth
  refine h H (Ex.refl H) _ fun H1 e1 => ⟨a, dx, fs, rfl, e1 _ _ O, lm, hA H1 e1 _ fun H2 e2 => ?_⟩
  rw [List.append_nil]
  exact hs H2 (e1.trans e2)
theorem s_methN {σ : L2.St} {C a dx : Addr} {fs : List (Str × V)} {m : Str} {sp : Sp} {ta : TE} {t : TA} {vs : List V} {D : Ends} (h : Ev ta σ H (.ref a)) (O : H a = some (.ins C dx fs)) (lm : fs.lookup m = none) (hA : EvA t σ H vs)
    (hs : ∀ H1, Ex H H1 → sp (.ref a :: vs) H1 (fun _ H' => D.nx σ H') E0) : tDrop (tMeth C m sp [] E0 ta t) D σ H := by
  unfold tDrop tMeth
  refine h H (Ex.refl H) _ fun H1 e1 => ⟨a, dx, fs, rfl, e1 _ _ O, lm, hA H1 e1 _ fun H2 e2 => ?_⟩
  rw [List.append_nil]
  exact hs H2 (e1.trans e2)
theorem q_forEnum {σ : L2.St} {ta : TA} {p : Addr} {zs : List V} {j1 j2 : Nat} {tu tz : TS} {D : Ends} (h : EvA ta σ H [.ref p]) (hx : SqL K H p zs) (Pv : Nat → L2.St → Hp → Prop) (h0 : ∀ H1, Ex H H1 → Pv 0 σ H1) (hl : ∀ i σ' H', i ≤ zs.length → Pv i σ' H' → SqL K H' p zs)
    (hs : ∀ (i : Nat) y σ' H' H2, zs[i]? = some y → Pv i σ' H' → Ex H' H2 → tu { D with nx := Pv (i + 1), ct := Pv (i + 1), bk := tz D } ((σ'.set j1 (some (.int (i : Int)))).set j2 (some y)) H2) (hd : ∀ σ' H', Pv zs.length σ' H' → tz D σ' H') :
    tSeq (tFor (iEnum K ta) (gTup K 2 (gCons (gName j1) (gCons (gName j2) gNil))) tu) tz D σ H := by
  unfold tSeq tFor iEnum
  refine h H (Ex.refl H) _ fun H1 e1 => ⟨p, zs, rfl, ex_l e1 hx, for_it (walk_enum (xs := zs)) (D := { D with nx := tz D }) Pv (h0 H1 e1) hl (fun i y σ' H' H2 hi pv Y => ?_) hd⟩
  obtain ⟨T, u, w, rfl, hT, rfl, hu, hw⟩ := Y
  cases hu
  exact ⟨T, [_, w], rfl, st_of upd_same, rfl, _, [w], rfl, w, [], rfl, rfl, hs i w σ' H' _ hw pv (Ex.new hT)⟩
theorem effD_change (hc : isChange c = true) {e : Desk × Km493.Ans} (h : act d c = e) : effD d c = ⟨e.1.now, d.past, d.future⟩ := by unfold effD; rw [if_pos hc, h]
theorem pure_os_pass (T : Txt K mg A) (vs : List V) (H : Hp) (Q : VK) (E : XK) : spOs A 1 vs H Q E → t_os_pass K A { nx := fun _ H' => Q .non H', rt := Q } (start ["roll", "numbers", "years"] vs) H := by
  rintro ⟨a, l, s, F, c, rfl, hc, hl, hst, hs0, P⟩
  cases s with
  | none => cases hs0 rfl
  | some d =>
    obtain ⟨x, xs, ys, R, rfl⟩ := hst
    cases c <;> try cases hc
    rename_i n
    refine q_asg (ev_num (i := 0) (ev_var rfl) hl rfl) fun H1 e1 => ?_
    have N1 := R.now.ext e1
    
    refine q_when (et_or (et_test (ev_is (ev_op (ev_var rfl) ev_c (rv_eq rfl)) (congrArg V.bl vint_eq))) fun _ => et_test (ev_op (r := rGt) (ev_op (vf_year T N1.obj (ev_var rfl)) (ev_var rfl) rv_I0) ev_c rv_I0)) (fun hb H2 e2 => ?_) (fun hb H2 e2 => ?_)
    · have hn : n = 0 ∨ Km493.LAST < d.now.year + n := by
        rcases Bool.or_eq_true .. ▸ hb with h | h
        · left; have := of_decide_eq_true h; omega
        · right
          have h' : (300 : Int) < (d.now.year : Int) + (n : Int) := of_decide_eq_true h
          show 300 < _
          omega
      have ha : act d (.pass n) = (d, only (-22)) := by rw [act_pass, if_pos hn]
      refine s_retL (el_one ev_c) fun p H3 h3 e3 h3' => (still (l := [-22]) R P (refused ?_) ?_).go (e1.trans e2) h3 e3 h3'
      · rw [ha]
      · rw [ha]; rfl
    · have hn : ¬ (n = 0 ∨ Km493.LAST < d.now.year + n) := by
        obtain ⟨h1, h2⟩ := Bool.or_eq_false_iff.mp hb
        have h1' := of_decide_eq_false h1
        have h2' : ¬ ((300 : Int) < (d.now.year : Int) + (n : Int)) := of_decide_eq_false h2
        show ¬ (n = 0 ∨ 300 < _)
        omega
      have hn' : ¬ (n = 0 ∨ 300 < d.now.year + n) := hn
      have ha : act d (.pass n) = (d.become (passed d.now n), only (n2i (d.now.year + n))) := by rw [act_pass, if_neg hn]
      have N2 := N1.ext e2
      have R2 := (R.ext e1).ext e2
      refine st_seq (s_fldaug (i := (d.now.year : Int)) (j := (n : Int)) (ev_var rfl) N2.obj T.cl_Roll T.na_year lk_year (ev_var rfl) (rF_len _) fun H3 e3 => ?_)
      rw [pf_year]
      have f : FrL [a] H2 (upd H3 a (.ins A.C_Roll x.dx (rF_Roll { mkR d.now x with year := .int ((d.now.year : Int) + (n : Int)) }))) := FrL.write e3 (List.mem_singleton.mpr rfl)
      have N3 := N2.step (b' := passed d.now n) f upd_same rfl (ok_passed N2.ok (by omega))
      have R3 := R2.renow N3 f.four_one ⟨rfl, rfl, rfl⟩
      exact s_retL (el_one (vf_year T N3.obj (ev_var rfl))) (moved (l := [((d.now.year + n : Nat) : Int)]) R3 ((FrL.of (e1.trans e2)).trans f.of_one) (fun z hz => .inl hz) P (effD_change rfl ha) (by rw [ha]; rfl))

theorem pure_os_born (T : Txt K mg A) (vs : List V) (H : Hp) (Q : VK) (E : XK) : spOs A 2 vs H Q E → t_os_born K A (spBorn A) { nx := fun _ H' => Q .non H', rt := Q } (start ["roll", "numbers", "person"] vs) H := by
  rintro ⟨a, l, s, F, c, rfl, hc, hl, hst, hs0, P⟩
  cases s with
  | none => cases hs0 rfl
  | some d =>
    obtain ⟨x, xs, ys, R, rfl⟩ := hst
    cases c <;> try cases hc
    refine q_asg (nv_len T R.now (ev_var rfl)) fun H1 e1 => ?_
    have N1 := R.now.ext e1
    refine q_when (et_test (ev_is (ev_op (ev_var rfl) ev_c (rv_eq rfl)) (congrArg V.bl vint_eq))) (fun hb H2 e2 => ?_) (fun hb H2 e2 => ?_)
    · have hn : Km493.PEOPLE ≤ d.now.people.length := by have := of_decide_eq_true hb; show 20 ≤ _; omega
      have ha : act d .born = (d, only (-28)) := by rw [act_born, if_pos hn]
      refine s_retL (el_one ev_c) fun p H3 h3 e3 h3' => (still (l := [-28]) R P (refused ?_) ?_).go (e1.trans e2) h3 e3 h3'
      · rw [ha]
      · rw [ha]; rfl
    · have hlt : d.now.people.length < 20 := by
        have h1 := of_decide_eq_false hb
        have h2 := R.now.ok.people
        omega
      have hn : ¬ Km493.PEOPLE ≤ d.now.people.length := by show ¬ 20 ≤ _; omega
      have ha : act d .born = (d.become (bornIn d.now), only (n2i d.now.people.length)) := by rw [act_born, if_neg hn]
      have N2 := N1.ext e2
      refine q_methN (ev_var rfl) N2.obj lm_add_person ea_nil fun H3 e3 => ⟨a, x, d.now, rfl, N2.ext e3, R.bs, ok_born R.now.ok hlt, fun H4 N4 f => ?_⟩
      have e := (e1.trans e2).trans e3
      have R4 := (R.ext e).renow N4 f ⟨rfl, rfl, rfl⟩
      exact s_retL (el_one (ev_var rfl)) (moved (l := [((d.now.people.length : Nat) : Int)]) R4 ((FrL.of e).trans f.of_four) (fun z hz => .inl hz) P (effD_change rfl ha) (by rw [ha]; rfl))

theorem pure_os_open (T : Txt K mg A) (vs : List V) (H : Hp) (Q : VK) (E : XK) : spOs A 3 vs H Q E → t_os_open K A (spOpenN A) (spLast A) (spNameOf A) { nx := fun _ H' => Q .non H', rt := Q } (start ["roll", "numbers", "opened"] vs) H := by
  rintro ⟨a, l, s, F, c, rfl, hc, hl, hst, hs0, P⟩
  cases s with
  | none => cases hs0 rfl
  | some d =>
    obtain ⟨x, xs, ys, R, rfl⟩ := hst
    cases c <;> try cases hc
    have N := R.now
    refine q_when (et_B (vf_one_is_open T N.obj (ev_var rfl))) (fun hb H1 e1 => ?_) (fun hb H1 e1 => ?_)
    · have ho : isOpen d.now = true := hb
      have ha : act d .open_ = (d, only (-17)) := by rw [act_open, open_yes N.ok ho, if_pos (by rfl)]
      refine s_retL (el_one ev_c) fun p H2 h2 e2 h2' => (still (l := [-17]) R P (refused ?_) ?_).go e1 h2 e2 h2'
      · rw [ha]
      · rw [ha]; rfl
    · have ho : isOpen d.now = false := hb
      have N1 := N.ext e1
      have hne : ¬ ((d.now.open_ != none) = true) := by rw [open_no N.ok ho]; decide
      refine q_when (et_test (ev_is (ev_op (vf_set_count T N1.obj (ev_var rfl)) ev_c (rv_eq rfl)) (congrArg V.bl vint_eq))) (fun hb H2 e2 => ?_) (fun hb H2 e2 => ?_)
      · have hn : Km493.SETS ≤ d.now.sets.length := by have := of_decide_eq_true hb; show 16 ≤ _; omega
        have ha : act d .open_ = (d, only (-28)) := by rw [act_open, if_neg hne, if_pos hn]
        refine s_retL (el_one ev_c) fun p H3 h3 e3 h3' => (still (l := [-28]) R P (refused ?_) ?_).go (e1.trans e2) h3 e3 h3'
        · rw [ha]
        · rw [ha]; rfl
      · have hlt : d.now.sets.length < 16 := by
          have h1 := of_decide_eq_false hb
          have h2 := R.now.ok.sets
          omega
        have hn : ¬ Km493.SETS ≤ d.now.sets.length := by show ¬ 16 ≤ _; omega
        have ha : act d .open_ = (d.become (openedIn d.now), ⟨n2i d.now.sets.length, [d.now.name d.now.sets.length]⟩) := by rw [act_open, if_neg hne, if_neg hn]
        have N2 := N1.ext e2
        refine q_methN (ev_var rfl) N2.obj lm_open_next ea_nil fun H3 e3 => ⟨a, x, d.now, rfl, N2.ext e3, ok_opened N.ok ho hlt, fun H4 N4 f => ?_⟩
        have e := (e1.trans e2).trans e3
        have R4 := (R.ext e).renow N4 f.four_one ⟨rfl, rfl, rfl⟩
        refine q_asg (ev_is (vm_last_set N4.obj (ev_var rfl) ea_nil (spQ_at N4 ⟨rfl, rfl⟩)) (congrArg V.int (show ((openedIn d.now).sets.length : Int) - 1 = (d.now.sets.length : Int) by rw [len_opened]; omega))) fun H5 e5 => ?_
        have N5 := N4.ext e5
        have R5 := R4.ext e5
        exact s_retL (el_two (ev_var rfl) (vm_name_of N5.obj (ev_var rfl) (ea_cons (ev_var rfl) ea_nil) (spQ_at N5 ⟨d.now.sets.length, rfl, rfl⟩))) (moved (l := [((d.now.sets.length : Nat) : Int), ((d.now.name d.now.sets.length : Nat) : Int)]) R5 (((FrL.of e).trans f.of_one).trans (FrL.of e5)) (fun z hz => .inl hz) P (effD_change rfl ha) (by rw [ha]; rfl))

theorem pure_os_shut (T : Txt K mg A) (vs : List V) (H : Hp) (Q : VK) (E : XK) : spOs A 4 vs H Q E → t_os_shut K A (spLast A) { nx := fun _ H' => Q .non H', rt := Q } (start ["roll", "numbers"] vs) H := by
  rintro ⟨a, l, s, F, c, rfl, hc, hl, hst, hs0, P⟩
  cases s with
  | none => cases hs0 rfl
  | some d =>
    obtain ⟨x, xs, ys, R, rfl⟩ := hst
    cases c <;> try cases hc
    have N := R.now
    refine q_when (et_not (et_B (vf_one_is_open T N.obj (ev_var rfl)))) (fun hb H1 e1 => ?_) (fun hb H1 e1 => ?_)
    · have ho : isOpen d.now = false := by simpa using hb
      have ha : act d .shut = (d, only (-6)) := by rw [act_shut, open_no N.ok ho]
      refine s_retL (el_one ev_c) fun p H2 h2 e2 h2' => (still (l := [-6]) R P (refused ?_) ?_).go e1 h2 e2 h2'
      · rw [ha]
      · rw [ha]; rfl
    · have ho : isOpen d.now = true := by simpa using hb
      have hpos := isOpen_pos ho
      have ha : act d .shut = (d.become (shutIn d.now (d.now.sets.length - 1)), only (n2i (d.now.members (d.now.sets.length - 1)).length)) := by rw [act_shut, open_yes N.ok ho]
      have N1 := N.ext e1
      refine q_fld' ev_c (ev_var rfl) N1.obj T.cl_Roll T.na_one_is_open (rF_len _) fun G f O => ?_
      rw [pf_one_is_open] at O
      have N2 := N1.step (b' := shutIn d.now (d.now.sets.length - 1)) f (by rw [O]; unfold mkR; rw [open_shut hpos, len_shut]; rfl) rfl (ok_shut N.ok)
      have R2 := (R.ext e1).renow N2 f.four_one ⟨rfl, rfl, rfl⟩
      exact s_retL (el_one (ev_is (ev_cnt (ns := setsI d.now.people) (k := ((d.now.sets.length - 1 : Nat) : Int)) (vf_set_of T N2.obj (ev_var rfl)) (sq_of N2.h3.hS) (ev_is (vm_last_set N2.obj (ev_var rfl) ea_nil (spQ_at N2 ⟨rfl, rfl⟩)) (congrArg V.int (show ((shutIn d.now (d.now.sets.length - 1)).sets.length : Int) - 1 = ((d.now.sets.length - 1 : Nat) : Int) by rw [len_shut]; omega)))) (congrArg V.int (congrArg (Nat.cast (R := Int)) (count_members d.now _))))) (moved (l := [(((d.now.members (d.now.sets.length - 1)).length : Nat) : Int)]) R2 ((FrL.of e1).trans f.of_one) (fun z hz => .inl hz) P (effD_change rfl ha) (by rw [ha]; rfl))

theorem pure_os_join (T : Txt K mg A) (vs : List V) (H : Hp) (Q : VK) (E : XK) : spOs A 5 vs H Q E → t_os_join K A (spIsPerson A) (spInSet A) (spOfAge A) (spPut A) (spLast A) { nx := fun _ H' => Q .non H', rt := Q } (start ["roll", "numbers", "person"] vs) H := by
  rintro ⟨a, l, s, F, c, rfl, hc, hl, hst, hs0, P⟩
  cases s with
  | none => cases hs0 rfl
  | some d =>
    obtain ⟨x, xs, ys, R, rfl⟩ := hst
    cases c <;> try cases hc
    rename_i i
    refine q_asg (ev_num (i := 0) (ev_var rfl) hl rfl) fun H1 e1 => ?_
    have N1 := R.now.ext e1
    
    refine q_when (et_not (et_B (vm_is_person N1.obj (ev_var rfl) (ea_cons (ev_var rfl) ea_nil) (spQ_at N1 ⟨i, rfl, rfl⟩)))) (fun hb H2 e2 => ?_) (fun hb H2 e2 => ?_)
    · have hi : ¬ i < d.now.people.length := by simpa using hb
      have ha : act d (.join i) = (d, only (-2)) := by rw [act_join, if_pos (no_iff.mpr (by omega))]
      refine s_retL (el_one ev_c) fun p H3 h3 e3 h3' => (still (l := [-2]) R P (refused ?_) ?_).go (e1.trans e2) h3 e3 h3'
      · rw [ha]
      · rw [ha]; rfl
    · have hi : i < d.now.people.length := by simpa using hb
      have hno : ¬ (d.now.no i = true) := by rw [no_false hi]; decide
      have N2 := N1.ext e2
      refine q_when (et_B (vm_is_in_a_set N2.obj (ev_var rfl) (ea_cons (ev_var rfl) ea_nil) (spQ_at N2 ⟨i, rfl, hi, rfl⟩))) (fun hj H3 e3 => ?_) (fun hj H3 e3 => ?_)
      · have hs : ((d.now.p i).joined != none) = true := by
          obtain ⟨u, hu⟩ := Option.isSome_iff_exists.mp hj
          rw [hu]; rfl
        have ha : act d (.join i) = (d, only (-17)) := by rw [act_join, if_neg hno, if_pos hs]
        refine s_retL (el_one ev_c) fun p H4 h4 e4 h4' => (still (l := [-17]) R P (refused ?_) ?_).go ((e1.trans e2).trans e3) h4 e4 h4'
        · rw [ha]
        · rw [ha]; rfl
      · have hn : (d.now.p i).joined = none := by simpa using hj
        have hs : ¬ (((d.now.p i).joined != none) = true) := by rw [hn]; decide
        have N3 := N2.ext e3
        refine q_when (et_not (et_B (vf_one_is_open T N3.obj (ev_var rfl)))) (fun hb4 H4 e4 => ?_) (fun hb4 H4 e4 => ?_)
        · have ho : isOpen d.now = false := by simpa using hb4
          have ha : act d (.join i) = (d, only (-16)) := by rw [act_join, if_neg hno, if_neg hs, open_no R.now.ok ho]
          refine s_retL (el_one ev_c) fun p H5 h5 e5 h5' => (still (l := [-16]) R P (refused ?_) ?_).go (((e1.trans e2).trans e3).trans e4) h5 e5 h5'
          · rw [ha]
          · rw [ha]; rfl
        · have ho : isOpen d.now = true := by simpa using hb4
          have hpos := isOpen_pos ho
          have N4 := N3.ext e4
          have hmay : d.now.may i = (decide (d.now.low ≤ d.now.age i) && decide (d.now.age i ≤ d.now.high)) := by unfold Km493.Book.may; rw [hn]; rfl
          refine q_when (et_not (et_B (vm_is_of_age N4.obj (ev_var rfl) (ea_cons (ev_var rfl) ea_nil) (spQ_at N4 ⟨i, rfl, hi, rfl⟩)))) (fun hb5 H5 e5 => ?_) (fun hb5 H5 e5 => ?_)
          · have hm : d.now.may i = false := by rw [Bool.not_eq_true'] at hb5; rw [hmay]; exact hb5
            have ha : act d (.join i) = (d, only (-22)) := by
              rw [act_join, if_neg hno, if_neg hs, open_yes R.now.ok ho]
              show (if d.now.may i = false then _ else _) = _
              rw [if_pos hm]
            refine s_retL (el_one ev_c) fun p H6 h6 e6 h6' => (still (l := [-22]) R P (refused ?_) ?_).go ((((e1.trans e2).trans e3).trans e4).trans e5) h6 e6 h6'
            · rw [ha]
            · rw [ha]; rfl
          · have hm : ¬ d.now.may i = false := by rw [hmay]; simpa using hb5
            have ha : act d (.join i) = (d.become (d.now.enter (d.now.sets.length - 1) i), only (n2i (d.now.sets.length - 1))) := by
              rw [act_join, if_neg hno, if_neg hs, open_yes R.now.ok ho]
              show (if d.now.may i = false then _ else _) = _
              rw [if_neg hm]
            have N5 := N4.ext e5
            refine q_methN (ev_var rfl) N5.obj lm_put_in_open (ea_cons (ev_var rfl) ea_nil) fun H6 e6 => ⟨a, x, d.now, i, rfl, N5.ext e6, R.bs, hi, hn, hpos, fun H7 N7 f => ?_⟩
            have e := ((((e1.trans e2).trans e3).trans e4).trans e5).trans e6
            have R7 := (R.ext e).renow N7 f ⟨rfl, rfl, rfl⟩
            exact s_retL (el_one (ev_is (vm_last_set N7.obj (ev_var rfl) ea_nil (spQ_at N7 ⟨rfl, rfl⟩)) (congrArg V.int (show ((d.now.enter (d.now.sets.length - 1) i).sets.length : Int) - 1 = ((d.now.sets.length - 1 : Nat) : Int) by rw [enter_sets]; omega)))) (moved (l := [((d.now.sets.length - 1 : Nat) : Int)]) R7 ((FrL.of e).trans f.of_four) (fun z hz => .inl hz) P (effD_change rfl ha) (by rw [ha]; rfl))

theorem pure_os_back (T : Txt K mg A) (vs : List V) (H : Hp) (Q : VK) (E : XK) : spOs A 19 vs H Q E → t_os_back K A (spBack A) { nx := fun _ H' => Q .non H', rt := Q } (start ["roll", "numbers"] vs) H := by
  rintro ⟨a, l, s, F, c, rfl, hc, hl, hst, hs0, P⟩
  cases s with
  | none => cases hs0 rfl
  | some d =>
    obtain ⟨x, xs, ys, R, rfl⟩ := hst
    cases c <;> try cases hc
    have N := R.now
    have lA := paired_len R.past
    refine q_when (et_test (ev_is (ev_op (ev_len (vf_stood_ahead T N.obj (ev_var rfl)) (sq_of R.sa)) ev_c (rv_eq rfl)) (congrArg V.bl vint_eq))) (fun hb H1 e1 => ?_) (fun hb H1 e1 => ?_)
    · have hz : d.past = [] := by
        have h0 : ((tops xs).length : Int) = 0 := of_decide_eq_true hb
        rw [tops_len] at h0
        exact List.eq_nil_of_length_eq_zero (by omega)
      have ha : act d .back = (d, only (-2)) := by
        show (match d.past with
          | [] => (d, only (-2))
          | k :: r => (⟨k, r, d.now :: d.future⟩, only (n2i r.length))) = _
        rw [hz]
      refine s_retL (el_one ev_c) fun p H2 h2 e2 h2' => (still (l := [-2]) R P (refused ?_) ?_).go e1 h2 e2 h2'
      · rw [ha]
      · rw [ha]; rfl
    · cases xs with
      | nil => exact absurd hb (by decide)
      | cons q xs =>
        cases hp : d.past with
        | nil => rw [hp] at lA; cases lA
        | cons k r =>
          have N1 := N.ext e1
          refine q_methN (ev_var rfl) N1.obj lm_take_back ea_nil fun H2 e2 => ⟨a, d, x, q, xs, ys, k, r, rfl, (R.ext e1).ext e2, hp, fun H3 x3 xs3 ys3 R3 hm f => ?_⟩
          have e := e1.trans e2
          have l3 := paired_len R3.past
          have hm' : ∀ z ∈ own x3 xs3 ys3, z ∈ own x (q :: xs) ys ∨ H z = none := fun z hz => by
            rcases hm z hz with h | h
            · exact .inl h
            · exact .inr (fresh_back e h)
          have ha := act_back hp
          exact s_retL (el_one (ev_is (ev_len (vf_stood_ahead T R3.now.obj (ev_var rfl)) (sq_of R3.sa)) (congrArg V.int (congrArg (Nat.cast (R := Int)) ((tops_len xs3).trans l3))))) (moved (l := [((r.length : Nat) : Int)]) R3 ((FrL.of e).trans f) hm' P (by unfold effD; rw [if_neg (by decide), ha]) (by rw [ha]; rfl))

theorem pure_os_again (T : Txt K mg A) (vs : List V) (H : Hp) (Q : VK) (E : XK) : spOs A 20 vs H Q E → t_os_again K A (spAgain A) { nx := fun _ H' => Q .non H', rt := Q } (start ["roll", "numbers"] vs) H := by
  rintro ⟨a, l, s, F, c, rfl, hc, hl, hst, hs0, P⟩
  cases s with
  | none => cases hs0 rfl
  | some d =>
    obtain ⟨x, xs, ys, R, rfl⟩ := hst
    cases c <;> try cases hc
    have N := R.now
    have lA := paired_len R.future
    refine q_when (et_test (ev_is (ev_op (ev_len (vf_stood_behind T N.obj (ev_var rfl)) (sq_of R.sb)) ev_c (rv_eq rfl)) (congrArg V.bl vint_eq))) (fun hb H1 e1 => ?_) (fun hb H1 e1 => ?_)
    · have hz : d.future = [] := by
        have h0 : ((tops ys).length : Int) = 0 := of_decide_eq_true hb
        rw [tops_len] at h0
        exact List.eq_nil_of_length_eq_zero (by omega)
      have ha : act d .again = (d, only (-2)) := by
        show (match d.future with
          | [] => (d, only (-2))
          | k :: r => (⟨k, (d.now :: d.past).take Km493.PAST, r⟩, only (n2i r.length))) = _
        rw [hz]
      refine s_retL (el_one ev_c) fun p H2 h2 e2 h2' => (still (l := [-2]) R P (refused ?_) ?_).go e1 h2 e2 h2'
      · rw [ha]
      · rw [ha]; rfl
    · cases ys with
      | nil => exact absurd hb (by decide)
      | cons q ys =>
        cases hp : d.future with
        | nil => rw [hp] at lA; cases lA
        | cons k r =>
          have N1 := N.ext e1
          refine q_methN (ev_var rfl) N1.obj lm_do_again ea_nil fun H2 e2 => ⟨a, d, x, q, xs, ys, k, r, rfl, (R.ext e1).ext e2, hp, fun H3 x3 xs3 ys3 R3 hm f => ?_⟩
          have e := e1.trans e2
          have l3 := paired_len R3.future
          have hm' : ∀ z ∈ own x3 xs3 ys3, z ∈ own x xs (q :: ys) ∨ H z = none := fun z hz => by
            rcases hm z hz with h | h
            · exact .inl h
            · exact .inr (fresh_back e h)
          have ha := act_again hp R.ok
          exact s_retL (el_one (ev_is (ev_len (vf_stood_behind T R3.now.obj (ev_var rfl)) (sq_of R3.sb)) (congrArg V.int (congrArg (Nat.cast (R := Int)) ((tops_len ys3).trans l3))))) (moved (l := [((r.length : Nat) : Int)]) R3 ((FrL.of e).trans f) hm' P (by unfold effD; rw [if_neg (by decide), ha]) (by rw [ha]; rfl))
end
end Ag

/-! AgL: os_start, os_join_all. -/
namespace Ag
open PySem PySem.Spec PyProof.Rows L2 Evl
open Km493 (Book Person Band Desk bits act only n2i)
open Km493Neutral (told step)
section
variable {K : PySem.W.Frag} {mg : Str → Option Value} {A : Adr} {H H' : Hp} {a : Addr} {d d' : Desk} {x x' : Ad} {xs ys xs' ys' : List A3} {c : Km493.Call} {Q : VK} {l : List Int}

/-! #### all join -/
theorem enter_p_ne {b : Book} {s i j : Nat} (h : j ≠ i) : (b.enter s i).p j = b.p j := by
  unfold Km493.Book.p
  rw [enter_people, List.getD_eq_getElem?_getD, List.getD_eq_getElem?_getD, List.getElem?_set, if_neg (Ne.symm h)]
theorem fold_p {s j : Nat} : ∀ (l : List Nat) (b : Book), j ∉ l → (l.foldl (fun b i => b.enter s i) b).p j = b.p j
  | [], _, _ => rfl
  | i :: l, b, h => by
    rw [List.foldl_cons, fold_p l _ (fun m => h (List.mem_cons_of_mem _ m)), enter_p_ne (fun q => h (by rw [q]; exact List.mem_cons_self ..))]
theorem fold_same {s : Nat} : ∀ (l : List Nat) (b : Book), (l.foldl (fun b i => b.enter s i) b).names = b.names ∧ (l.foldl (fun b i => b.enter s i) b).low = b.low ∧ (l.foldl (fun b i => b.enter s i) b).high = b.high ∧ (l.foldl (fun b i => b.enter s i) b).people.length = b.people.length
  | [], _ => ⟨rfl, rfl, rfl, rfl⟩
  | i :: l, b => by
    obtain ⟨h1, h2, h3, h4⟩ := fold_same l (b.enter s i)
    exact ⟨h1, h2, h3, h4.trans (by rw [enter_people, List.length_set])⟩
def joinN (b : Book) (k : Nat) : Book := ((List.range k).filter b.may).foldl (fun c i => c.enter (b.sets.length - 1) i) b
theorem joinN_succ (b : Book) (k : Nat) : joinN b (k + 1) = if b.may k = true then (joinN b k).enter (b.sets.length - 1) k else joinN b k := by
  unfold joinN
  rw [List.range_succ, List.filter_append, List.foldl_append, List.filter_cons, List.filter_nil]
  split
  · rfl
  · rfl
theorem joinN_sets (b : Book) (k : Nat) : (joinN b k).sets = b.sets := fold_sets _ _ _
theorem joinN_same (b : Book) (k : Nat) : (joinN b k).names = b.names ∧ (joinN b k).low = b.low ∧ (joinN b k).high = b.high := let ⟨h1, h2, h3, _⟩ := fold_same (s := b.sets.length - 1) ((List.range k).filter b.may) b; ⟨h1, h2, h3⟩
theorem joinN_len (b : Book) (k : Nat) : (joinN b k).people.length = b.people.length := (fold_same (s := b.sets.length - 1) ((List.range k).filter b.may) b).2.2.2
theorem joinN_p (b : Book) (k : Nat) : (joinN b k).p k = b.p k := fold_p _ _ (fun h => by
  have := List.mem_range.mp (List.mem_filter.mp h).1
  omega)
/-! #### os_start -/
theorem deskOk_new {n l h : Nat} (c : ¬ (n < 2 ∨ 12 < n ∨ h < l ∨ 60 < h)) : DeskOk ⟨⟨n, l, h, 0, [], []⟩, [], []⟩ :=
  ⟨⟨by show 2 ≤ n ∧ n ≤ 12; omega, by show l ≤ h ∧ h ≤ 60; omega, Nat.zero_le _, Nat.zero_le _, Nat.zero_le _, fun p hp => (nomatch hp), fun p hp => (nomatch hp), fun s hs => by cases hs⟩, fun b hb => (nomatch hb), fun b hb => (nomatch hb), Nat.zero_le _, Nat.zero_le _⟩
theorem fresh_rep {n l h : Nat} (c : ¬ (n < 2 ∨ 12 < n ∨ h < l ∨ 60 < h)) (f : Fresh A H a x (.int n) (.int l) (.int h)) : RepX A H a ⟨⟨n, l, h, 0, [], []⟩, [], []⟩ x [] [] :=
  ⟨⟨f.obj, ⟨f.hB, f.hS, [], f.hJ, ⟨(fun i p j hp => by simp at hp), Nat.zero_le _⟩⟩, (deskOk_new c).now⟩, f.sa, f.sb, .nil, .nil, by
    show (owned x ++ []).Nodup
    rw [List.append_nil]
    exact f.nd, deskOk_new c, fun b hb => by rcases hb with hb | hb <;> cases hb⟩
theorem st_obj {s : Option Desk} {F : List Addr} (h : StR A H a s F) : ∃ dx r, H a = some (.ins A.C_Roll dx (rF_Roll r)) := by
  cases s with
  | none => exact h.1
  | some d => obtain ⟨x, xs, ys, R, _⟩ := h; exact ⟨_, _, R.now.obj⟩
theorem st_a {s : Option Desk} {F : List Addr} (h : StR A H a s F) : a ∈ F := by
  cases s with
  | none => rw [h.2]; exact List.mem_singleton.mpr rfl
  | some d => obtain ⟨x, xs, ys, R, rfl⟩ := h; exact List.mem_cons_self ..
theorem start_no {s : Option Desk} {F : List Addr} {n l h : Nat} (hst : StR A H a s F) (P : Post A H a (eff s (.start n l h)) F (ans s (.start n l h)) Q) (c : n < 2 ∨ 12 < n ∨ h < l ∨ 60 < h) : RetL (intV [-22]) H Q := by
  cases s with
  | none =>
    obtain ⟨⟨dx, r, O⟩, rfl⟩ := hst
    have e1 : eff none (.start n l h) = none := by show (step none [code (.start n l h)]).1 = none; rw [step_start, if_pos c]
    have e2 : ans none (.start n l h) = [-22] := by show (step none [code (.start n l h)]).2 = _; rw [step_start, if_pos c]
    rw [e1, e2] at P
    intro p H2 hp e h2
    exact P p H2 [a] hp (fun m => by rw [List.mem_singleton.mp m, O] at hp; cases hp) h2 ⟨⟨dx, r, e _ _ O⟩, rfl⟩ (FrL.of e) fun z hz => .inl hz
  | some d =>
    obtain ⟨x, xs, ys, R, rfl⟩ := hst
    exact still R P (refused (by rw [act_start_no c])) (by rw [act_start_no c]; rfl)
theorem start_yes {s : Option Desk} {F : List Addr} {n l h : Nat} (hst : StR A H a s F) (P : Post A H a (eff s (.start n l h)) F (ans s (.start n l h)) Q) (c : ¬ (n < 2 ∨ 12 < n ∨ h < l ∨ 60 < h)) (f : Fresh A H' a x (.int n) (.int l) (.int h)) (hn : ∀ z ∈ owned x, H z = none) (fr : FrL F H H') : RetL (intV [0]) H' Q := by
  have e1 : eff s (.start n l h) = some ⟨⟨n, l, h, 0, [], []⟩, [], []⟩ := by
    cases s with
    | none => show (step none [code (.start n l h)]).1 = _; rw [step_start, if_neg c]
    | some d => show some (effD d (.start n l h)) = _; unfold effD; rw [if_neg (by show ¬ (false = true); decide), act_start_yes c]
  have e2 : ans s (.start n l h) = [0] := by
    cases s with
    | none => show (step none [code (.start n l h)]).2 = _; rw [step_start, if_neg c]
    | some d => rw [ans_some, act_start_yes c]; rfl
  rw [e1, e2] at P
  have R := fresh_rep c f
  intro p H2 hp e h2
  refine P p H2 (a :: own x [] []) (fr.fresh hp) (R.away hp) h2 ⟨x, [], [], R.ext e, rfl⟩ (fr.trans (FrL.of e)) fun z hz => ?_
  rcases List.mem_cons.mp hz
      with rfl | hz
  · exact .inl (st_a hst)
  · have hz' : z ∈ owned x ++ [] := hz
    rw [List.append_nil] at hz'
    exact .inr (hn z hz')
theorem pure_os_start (T : Txt K mg A) (vs : List V) (H : Hp) (Q : VK) (E : XK) : spOs A 0 vs H Q E → t_os_start K A (spBegin A) { nx := fun _ H' => Q .non H', rt := Q } (start ["roll", "numbers", "names", "youngest", "oldest"] vs) H := by
  rintro ⟨a, p0, s, F, c, rfl, hc, hl, hst, hs0, P⟩
  cases c <;> try cases hc
  rename_i n l h
  refine q_asg (ev_num (i := 0) (ev_var rfl) hl rfl) fun H1 e1 => q_asg (ev_num (i := 1) (ev_var rfl) (e1 _ _ hl) rfl) fun H2 e2 => q_asg (ev_num (i := 2) (ev_var rfl) ((e1.trans e2) _ _ hl) rfl) fun H3 e3 => ?_
  have e := (e1.trans e2).trans e3
  refine q_when (et_or (et_test (ev_op (ev_var rfl) ev_c rv_I0)) fun _ => et_test (ev_op (r := rGt) (ev_var rfl) ev_c rv_I0)) (fun hb H4 e4 => ?_) (fun hb H4 e4 => ?_)
  · have hn : n < 2 ∨ 12 < n := by
      rcases Bool.or_eq_true .. ▸ hb with h | h
      · left; have h' : ((n : Nat) : Int) < 2 := of_decide_eq_true h; omega
      · right; have h' : (12 : Int) < ((n : Nat) : Int) := of_decide_eq_true h; omega
    exact s_retL (el_one ev_c) fun p H5 h5 e5 h5' => (start_no hst P (by omega)).go (e.trans e4) h5 e5 h5'
  · have hn : ¬ (n < 2 ∨ 12 < n) := by
      obtain ⟨h1, h2⟩ := Bool.or_eq_false_iff.mp hb
      have h1' : ¬ (((n : Nat) : Int) < 2) := of_decide_eq_false h1
      have h2' : ¬ ((12 : Int) < ((n : Nat) : Int)) := of_decide_eq_false h2
      omega
    refine q_when (et_or (et_test (ev_op (ev_var rfl) (ev_var rfl) rv_I0)) fun _ => et_test (ev_op (r := rGt) (ev_var rfl) ev_c rv_I0)) (fun hb H5 e5 => ?_) (fun hb H5 e5 => ?_)
    · have hm : h < l ∨ 60 < h := by
        rcases Bool.or_eq_true .. ▸ hb with q | q
        · left; have h' : ((h : Nat) : Int) < ((l : Nat) : Int) := of_decide_eq_true q; omega
        · right; have h' : (60 : Int) < ((h : Nat) : Int) := of_decide_eq_true q; omega
      exact s_retL (el_one ev_c) fun p H6 h6 e6 h6' => (start_no hst P (by omega)).go ((e.trans e4).trans e5) h6 e6 h6'
    · have hm : ¬ (h < l ∨ 60 < h) := by
        obtain ⟨h1, h2⟩ := Bool.or_eq_false_iff.mp hb
        have h1' : ¬ (((h : Nat) : Int) < ((l : Nat) : Int)) := of_decide_eq_false h1
        have h2' : ¬ ((60 : Int) < ((h : Nat) : Int)) := of_decide_eq_false h2
        omega
      obtain ⟨dx, r, O⟩ := st_obj hst
      have e' := (e.trans e4).trans e5
      refine q_methN (ev_var rfl) (e' _ _ O) lm_begin (ea_cons (ev_var rfl) (ea_cons (ev_var rfl) (ea_cons (ev_var rfl) ea_nil))) fun H6 e6 => ⟨a, dx, rF_Roll r, .int n, .int l, .int h, rfl, (e'.trans e6) _ _ O, .inr ⟨r, rfl⟩, fun x H7 f hnew fr => ?_⟩
      exact s_retL (el_one ev_c) (start_yes hst P (by omega) f (fun z hz => fresh_back (e'.trans e6) (hnew z hz)) ((FrL.of (e'.trans e6)).trans (fr.mono fun z hz => by rw [List.mem_singleton.mp hz]; exact st_a hst)))
theorem pure_os_join_all (T : Txt K mg A) (vs : List V) (H : Hp) (Q : VK) (E : XK) : spOs A 6 vs H Q E → t_os_join_all K A (spWhoMay A) (spPut A) (spAsSet K) { nx := fun _ H' => Q .non H', rt := Q } (start ["roll", "numbers", "joining", "person", "joins"] vs) H := by
  rintro ⟨a, l, s, F, c, rfl, hc, hl, hst, hs0, P⟩
  cases s with
  | none => cases hs0 rfl
  | some d =>
    obtain ⟨x, xs, ys, R, rfl⟩ := hst
    cases c <;> try cases hc
    have N := R.now
    refine q_when (et_not (et_B (vf_one_is_open T N.obj (ev_var rfl)))) (fun hb H1 e1 => ?_) (fun hb H1 e1 => ?_)
    · have ho : isOpen d.now = false := by simpa using hb
      have ha : act d .joinAll = (d, only (-16)) := by rw [act_joinAll, open_no N.ok ho]
      refine s_retL (el_one ev_c) fun p H2 h2 e2 h2' => (still (l := [-16]) R P (refused ?_) ?_).go e1 h2 e2 h2'
      · rw [ha]
      · rw [ha]; rfl
    · have ho : isOpen d.now = true := by simpa using hb
      have hpos := isOpen_pos ho
      have N1 := N.ext e1
      refine q_asgL (vl_who_may_join N1.obj (ev_var rfl) ea_nil (spL_at N1 ⟨rfl, rfl⟩)) fun q H2 hq e2 h2 => ?_
      have e12 := e1.trans e2
      refine q_when (et_not (et_B (ev_cb (ea_cons (ev_var rfl) ea_nil) (rc_any (sq_of h2))))) (fun hb3 H3 e3 => ?_) (fun hb3 H3 e3 => ?_)
      · have hz : d.now.all.filter d.now.may = [] := by
          rw [Bool.not_eq_true'] at hb3
          by_cases h0 : d.now.all.filter d.now.may = []
          · exact h0
          · have h1 := (any_sel d.now.people.length d.now.may).mpr h0
            have h1' : ((d.now.all.map d.now.may).any id) = true := h1
            rw [h1'] at hb3
            cases hb3
        have ha : act d .joinAll = (d, only (-6)) := by
          rw [act_joinAll, open_yes N.ok ho]
          show (if _ then _ else _) = _
          rw [if_pos hz]
        refine s_retL (el_one ev_c) fun p H4 h4 e4 h4' => (still (l := [-6]) R P (refused ?_) ?_).go (e12.trans e3) h4 e4 h4'
        · rw [ha]
        · rw [ha]; rfl
      · have hz : d.now.all.filter d.now.may ≠ [] := by
          have hb3' : ((d.now.all.map d.now.may).any id) = true := by simpa using hb3
          exact (any_sel d.now.people.length d.now.may).mp hb3'
        have ha : act d .joinAll = (d.become (joinN d.now d.now.people.length), ⟨n2i (d.now.all.filter d.now.may).length, [bits (d.now.all.filter d.now.may)]⟩) := by
          rw [act_joinAll, open_yes N.ok ho]
          show (if _ then _ else _) = _
          rw [if_neg hz]
          rfl
        have e := e12.trans e3
        have R3 := R.ext e
        have h3 := e3 _ _ h2
        have hlen : ((d.now.all.map d.now.may).map V.bl).length = d.now.people.length := by
          rw [List.length_map, List.length_map]
          unfold Km493.Book.all
          rw [List.length_range]
        have hqF : q ∉ a :: own x xs ys := R.away (fresh_back e1 hq)
        have hq4 : q ∉ four a x := fun m => hqF (four_own q m)
        refine q_forEnum (p := q) (zs := (d.now.all.map d.now.may).map V.bl) (ea_cons (ev_var rfl) ea_nil) (sq_of h3)
          (fun k σ' H' => k ≤ d.now.people.length ∧ FrL (four a x) H H' ∧ RepX A H' a ⟨joinN d.now k, d.past, d.future⟩ x xs ys ∧ H' q = some (.lst ((d.now.all.map d.now.may).map V.bl)) ∧ ∃ y3 y4, σ' = [some (.ref a), some (.ref l), some (.ref q), y3, y4])
          (fun H4 e4 => ⟨Nat.zero_le _, FrL.of (e.trans e4), R3.ext e4, e4 _ _ h3, _, _, rfl⟩) (fun k σ' H' _ pv => sq_of pv.2.2.2.1) (fun k y σ' H4 H5 hy pv e5 => ?_) (fun σ' H4 pv => ?_)
        · obtain ⟨k0, f4, R4, q4, y3, y4, rfl⟩ := pv
          have hk : k < d.now.people.length := by
            have := (List.getElem?_eq_some_iff.mp hy).1
            omega
          have hy' : y = .bl (d.now.may k) := by
            rw [List.getElem?_map, List.getElem?_map] at hy
            unfold Km493.Book.all at hy
            rw [List.getElem?_range hk] at hy
            exact (Option.some.inj hy).symm
          subst hy'
          have R5 := R4.ext e5
          have js := joinN_succ d.now k
          refine s_when (et_B (ev_var rfl)) (fun hm H6 e6 => ?_) (fun hm H6 e6 => ?_)
          · rw [if_pos hm] at js
            have R6 := R5.ext e6
            have hn : (d.now.p k).joined = none := by
              unfold Km493.Book.may at hm
              obtain ⟨h1, _⟩ := and2 hm
              exact beq_iff_eq.mp h1
            refine s_methN (ev_var rfl) R6.now.obj lm_put_in_open (ea_cons (ev_var rfl) ea_nil) fun H7 e7 => ⟨a, x, joinN d.now k, k, rfl, R6.now.ext e7, R.bs, by rw [joinN_len]; exact hk, by rw [joinN_p]; exact hn, by rw [joinN_sets]; exact hpos, fun H8 N8 f8 => ?_⟩
            have e57 := (e5.trans e6).trans e7
            rw [joinN_sets] at N8
            rw [← js] at N8
            have R8 := (R6.ext e7).renow (b' := joinN d.now (k + 1)) N8 f8 (by
              obtain ⟨a1, a2, a3⟩ := joinN_same d.now k
              obtain ⟨b1, b2, b3⟩ := joinN_same d.now (k + 1)
              exact ⟨b1.trans a1.symm, b2.trans a2.symm, b3.trans a3.symm⟩)
            exact ⟨hk, (f4.trans (FrL.of e57)).trans f8, R8, f8 _ _ hq4 (e57 _ _ q4), _, _, rfl⟩
          · rw [if_neg (by rw [hm]; decide)] at js
            have e56 := e5.trans e6
            exact ⟨hk, f4.trans (FrL.of e56), by rw [js]; exact R4.ext e56, e56 _ _ q4, _, _, rfl⟩
        · obtain ⟨k0, f4, R4, q4, y3, y4, rfl⟩ := pv
          rw [hlen] at R4
          exact s_retL (el_is (el_call (ea_cons (ev_var rfl) ea_nil) (asSet_at (sq_of q4))) (setV _ _)) (moved (l := [((d.now.all.filter d.now.may).length : Int), (bits (d.now.all.filter d.now.may) : Nat)]) R4 f4.of_four (fun z hz => .inl hz) P (effD_change rfl ha) (by rw [ha]; rfl))
end
end Ag

/-! AgP: answer_to. -/
namespace Ag
open PySem PySem.Spec PyProof.Rows L2 Evl
open Km493 (Book Person Band Desk bits act only n2i)
open Km493Neutral (told step)
def fOf (A : Adr) : Nat → Addr
  | 0 => A.f_os_start
  | 1 => A.f_os_pass
  | 2 => A.f_os_born
  | 3 => A.f_os_open
  | 4 => A.f_os_shut
  | 5 => A.f_os_join
  | 6 => A.f_os_join_all
  | 7 => A.f_os_age
  | 8 => A.f_os_whose
  | 9 => A.f_os_members
  | 10 => A.f_os_name
  | 11 => A.f_os_alike
  | 12 => A.f_os_may
  | 13 => A.f_os_missed
  | 14 => A.f_os_senior
  | 15 => A.f_os_turned
  | 16 => A.f_os_rank
  | 17 => A.f_os_span
  | 18 => A.f_os_when
  | 19 => A.f_os_back
  | 20 => A.f_os_again
  | 21 => A.f_os_state
  | _ => 0
def uOf (A : Adr) : Nat → Addr
  | 0 => A.u_CALLS_0
  | 1 => A.u_CALLS_1
  | 2 => A.u_CALLS_2
  | 3 => A.u_CALLS_3
  | 4 => A.u_CALLS_4
  | 5 => A.u_CALLS_5
  | 6 => A.u_CALLS_6
  | 7 => A.u_CALLS_7
  | 8 => A.u_CALLS_8
  | 9 => A.u_CALLS_9
  | 10 => A.u_CALLS_10
  | 11 => A.u_CALLS_11
  | 12 => A.u_CALLS_12
  | 13 => A.u_CALLS_13
  | 14 => A.u_CALLS_14
  | 15 => A.u_CALLS_15
  | 16 => A.u_CALLS_16
  | 17 => A.u_CALLS_17
  | 18 => A.u_CALLS_18
  | 19 => A.u_CALLS_19
  | 20 => A.u_CALLS_20
  | 21 => A.u_CALLS_21
  | _ => 0
def tabV (A : Adr) : List V := [.ref A.u_CALLS_0, .ref A.u_CALLS_1, .ref A.u_CALLS_2, .ref A.u_CALLS_3, .ref A.u_CALLS_4, .ref A.u_CALLS_5, .ref A.u_CALLS_6, .ref A.u_CALLS_7, .ref A.u_CALLS_8, .ref A.u_CALLS_9, .ref A.u_CALLS_10, .ref A.u_CALLS_11, .ref A.u_CALLS_12, .ref A.u_CALLS_13, .ref A.u_CALLS_14, .ref A.u_CALLS_15, .ref A.u_CALLS_16, .ref A.u_CALLS_17, .ref A.u_CALLS_18, .ref A.u_CALLS_19, .ref A.u_CALLS_20, .ref A.u_CALLS_21]
section
variable {K : PySem.W.Frag} {mg : Str → Option Value} {A : Adr} {H H' : Hp} {a : Addr} {d d' : Desk} {x x' : Ad} {xs ys xs' ys' : List A3} {c : Km493.Call} {Q : VK} {l : List Int} {s : Option Desk} {F : List Addr}
theorem row_at (T : Txt K mg A) (c : Km493.Call) (H : Hp) : SqT K H (uOf A (num c)) [.ref (fOf A (num c)), .int ((args c).length : Nat), .bl (isChange c)] := by
  cases c with
  | start n l h => exact T.u_CALLS_0 H
  | pass => exact T.u_CALLS_1 H
  | born => exact T.u_CALLS_2 H
  | open_ => exact T.u_CALLS_3 H
  | shut => exact T.u_CALLS_4 H
  | join => exact T.u_CALLS_5 H
  | joinAll => exact T.u_CALLS_6 H
  | age => exact T.u_CALLS_7 H
  | whose => exact T.u_CALLS_8 H
  | members => exact T.u_CALLS_9 H
  | name => exact T.u_CALLS_10 H
  | alike => exact T.u_CALLS_11 H
  | may => exact T.u_CALLS_12 H
  | missed => exact T.u_CALLS_13 H
  | senior i j => exact T.u_CALLS_14 H
  | twisted => exact T.u_CALLS_15 H
  | rank => exact T.u_CALLS_16 H
  | span => exact T.u_CALLS_17 H
  | when_ => exact T.u_CALLS_18 H
  | back => exact T.u_CALLS_19 H
  | again => exact T.u_CALLS_20 H
  | state => exact T.u_CALLS_21 H
theorem tab_at (c : Km493.Call) : atI (tabV A) ((num c : Nat) : Int) = some (.ref (uOf A (num c))) := by cases c <;> rfl
/-- the defs of the table -/
def S22 (A : Adr) : Addr → Sp → Prop := fun f sp => ∃ k, k < 22 ∧ f = fOf A k ∧ sp = spOs A k
def spAnsTo (A : Adr) : Sp := fun vs H Q _ => ∃ a l s F c, vs = [.ref a, .ref (uOf A (num c)), .ref l] ∧ H l = some (.lst (natV (args c))) ∧ StR A H a s F ∧ (s = none → num c = 0) ∧ Post A H a (step s [code c]).1 F (step s [code c]).2 Q
theorem StR.ext (e : Ex H H') (h : StR A H a s F) : StR A H' a s F := by
  cases s with
  | none => exact ⟨let ⟨dx, r, O⟩ := h.1; ⟨dx, r, e _ _ O⟩, h.2⟩
  | some d => obtain ⟨x, xs, ys, R, hF⟩ := h; exact ⟨x, xs, ys, R.ext e, hF⟩
theorem Post.ext (e : Ex H H') (P : Post A H a s F l Q) : Post A H' a s F l Q := fun p H2 F2 hp hpF hl hst fr hm => P p H2 F2 (fresh_back e hp) hpF hl hst ((FrL.of e).trans fr) fun z hz => by
  rcases hm z hz with h | h
  · exact .inl h
  · exact .inr (fresh_back e h)
theorem eff_quest (hc : isChange c = false) (s : Option Desk) : eff s c = (step s [code c]).1 := by
  cases s with
  | none => rfl
  | some d =>
    show some (effD d c) = _
    rw [step_some d c (call_code c)]
    unfold effD
    rw [if_neg (by rw [hc]; decide)]

theorem neg_only (n : Int) (h : n < 0) : ¬ 0 ≤ (only n).value := by show ¬ 0 ≤ n; omega
theorem pos_n2i (n : Nat) (o : List Nat) : ¬ ((⟨n2i n, o⟩ : Km493.Ans).value < 0) := by show ¬ ((n : Int) < 0); omega
/-- a change that is answered with a number not below 0 is taken, one that is refused changes nothing -/
theorem change_is (hc : isChange c = true) (ok : DeskOk d) : (0 ≤ (act d c).2.value → (act d c).1 = d.become (act d c).1.now) ∧ ((act d c).2.value < 0 → (act d c).1 = d) ∧ (act d c).1.now.names = d.now.names ∧ (act d c).1.now.low = d.now.low ∧ (act d c).1.now.high = d.now.high := by
  have rf : ∀ n : Int, n < 0 → act d c = (d, only n) → (0 ≤ (act d c).2.value → (act d c).1 = d.become (act d c).1.now) ∧ ((act d c).2.value < 0 → (act d c).1 = d) ∧ (act d c).1.now.names = d.now.names ∧ (act d c).1.now.low = d.now.low ∧ (act d c).1.now.high = d.now.high := fun n hn h => by
    rw [h]
    exact ⟨fun q => absurd q (neg_only n hn), fun _ => rfl, rfl, rfl, rfl⟩
  have tk : ∀ (b : Book) (n : Nat) (o : List Nat), act d c = (d.become b, ⟨n2i n, o⟩) → b.names = d.now.names ∧ b.low = d.now.low ∧ b.high = d.now.high → (0 ≤ (act d c).2.value → (act d c).1 = d.become (act d c).1.now) ∧ ((act d c).2.value < 0 → (act d c).1 = d) ∧ (act d c).1.now.names = d.now.names ∧ (act d c).1.now.low = d.now.low ∧ (act d c).1.now.high = d.now.high := fun b n o h hb => by
    rw [h]
    exact ⟨fun _ => rfl, fun q => absurd q (pos_n2i n o), hb⟩
  cases c <;> try cases hc
  · rename_i n
    by_cases h : n = 0 ∨ Km493.LAST < d.now.year + n
    · exact rf (-22) (by decide) (by rw [act_pass, if_pos h])
    · exact tk (passed d.now n) (d.now.year + n) [] (by rw [act_pass, if_neg h]; rfl) ⟨rfl, rfl, rfl⟩
  · by_cases h : Km493.PEOPLE ≤ d.now.people.length
    · exact rf (-28) (by decide) (by rw [act_born, if_pos h])
    · exact tk (bornIn d.now) d.now.people.length [] (by rw [act_born, if_neg h]; rfl) ⟨rfl, rfl, rfl⟩
  · by_cases h : (d.now.open_ != none) = true
    · exact rf (-17) (by decide) (by rw [act_open, if_pos h])
    · by_cases h2 : Km493.SETS ≤ d.now.sets.length
      · exact rf (-28) (by decide) (by rw [act_open, if_neg h, if_pos h2])
      · exact tk (openedIn d.now) d.now.sets.length [d.now.name d.now.sets.length] (by rw [act_open, if_neg h, if_neg h2]) ⟨rfl, rfl, rfl⟩
  · cases h : d.now.open_ with
    | none => exact rf (-6) (by decide) (by rw [act_shut, h])
    | some s => exact tk (shutIn d.now s) (d.now.members s).length [] (by rw [act_shut, h]; rfl) ⟨rfl, rfl, rfl⟩
  · rename_i i
    by_cases h1 : d.now.no i = true
    · exact rf (-2) (by decide) (by rw [act_join, if_pos h1])
    · by_cases h2 : ((d.now.p i).joined != none) = true
      · exact rf (-17) (by decide) (by rw [act_join, if_neg h1, if_pos h2])
      · cases h : d.now.open_ with
        | none => exact rf (-16) (by decide) (by rw [act_join, if_neg h1, if_neg h2, h])
        | some s =>
          by_cases h3 : d.now.may i = false
          · exact rf (-22) (by decide) (by rw [act_join, if_neg h1, if_neg h2, h]; show (if _ then _ else _) = _; rw [if_pos h3])
          · exact tk (d.now.enter s i) s [] (by rw [act_join, if_neg h1, if_neg h2, h]; show (if _ then _ else _) = _; rw [if_neg h3]; rfl) ⟨rfl, rfl, rfl⟩
  · cases h : d.now.open_ with
    | none => exact rf (-16) (by decide) (by rw [act_joinAll, h])
    | some s =>
      by_cases h3 : d.now.all.filter d.now.may = []
      · exact rf (-6) (by decide) (by rw [act_joinAll, h]; show (if _ then _ else _) = _; rw [if_pos h3])
      · refine tk _ _ _ (by rw [act_joinAll, h]; show (if _ then _ else _) = _; rw [if_neg h3]) ?_
        obtain ⟨h1, h2, h3, _⟩ := fold_same (s := s) (d.now.all.filter d.now.may) d.now
        exact ⟨h1, h2, h3⟩

/-! ### a change is noted -/
def noted (x : Ad) (SA SB : Addr) : Ad := ⟨x.dx, x.B, x.S, x.J, SA, SB⟩
theorem tops_take (n : Nat) (zs : List A3) : tops (zs.take n) = (tops zs).drop ((tops zs).length - n) := by
  rw [tops_len, tops, tops, List.reverse_take, List.map_drop]
theorem note_rep {b' : Book} {q : A3} {SA SB : Addr} (R : RepX A H a ⟨b', d.past, d.future⟩ x xs ys) (sn : Snap H q d.now) (hq : ∀ z ∈ q.own, z ∉ a :: own x xs ys) (qn : q.own.Nodup) (ok : DeskOk (d.become b')) (hs : b'.names = d.now.names ∧ b'.low = d.now.low ∧ b'.high = d.now.high)
    (O : H' a = some (.ins A.C_Roll x.dx (rF_Roll { mkR b' x with stood_ahead := .ref SA, stood_behind := .ref SB }))) (hA : H' SA = some (.lst ((tops xs ++ [V.ref q.t]).drop ((tops xs ++ [V.ref q.t]).length - 20)))) (hB : H' SB = some (.lst [])) (ab : SA ≠ SB) (nA : H SA = none) (nB : H SB = none) (f : FrL [a, x.SA] H H') :
    RepX A H' a (d.become b') (noted x SA SB) ((q :: xs).take 20) [] ∧ ∀ z ∈ own (noted x SA SB) ((q :: xs).take 20) [], z ∈ own x xs ys ∨ z ∈ q.own ∨ H z = none := by
  have cA : x.SA ≠ a := (Con.ne_ins (.inl ⟨_, R.sa⟩) R.now.obj)
  have h5 := R.nd5
  simp only [owned, List.nodup_cons, List.mem_cons, List.not_mem_nil, or_false, not_or] at h5
  obtain ⟨⟨a1, a2, a3, a4⟩, ⟨b1, b2, b3⟩, ⟨c1, c2⟩, c3, _⟩ := h5
  have kp : ∀ g b, (∀ z ∈ g.own, z ≠ a ∧ z ≠ x.SA) → Snap H g b → Snap H' g b := fun g b hg s => s.keep f (fun z hz h => by
    simp only [List.mem_cons, List.not_mem_nil, or_false] at h
    rcases h with h | h
    · exact (hg z hz).1 h
    · exact (hg z hz).2 h) (fun h => by
    simp only [List.mem_cons, List.not_mem_nil, or_false] at h
    rcases h with h | h
    · exact (ne_of s.tup R.now.obj (fun q => by cases q)) h
    · exact (Con.ne_tup (.inl ⟨_, R.sa⟩) s.tup) h)
  have hx : ∀ z ∈ rest3 xs ys, z ≠ a ∧ z ≠ x.SA := fun z hz => ⟨(R.rest z hz).ne_ins R.now.obj, fun e => R.sep z hz (by rw [e]; simp [owned])⟩
  have hqo : ∀ z ∈ q.own, z ≠ a ∧ z ≠ x.SA := fun z hz => ⟨fun e => hq z hz (by rw [e]; exact List.mem_cons_self ..), fun e => hq z hz (by rw [e]; exact List.mem_cons_of_mem _ (by simp [own, owned]))⟩
  have N' : Now A H' a (noted x SA SB) b' := by
    obtain ⟨k1, k2, k3, k4, k5⟩ := R.now.ne
    obtain ⟨kvs, hJ, hD⟩ := R.now.h3.hJ
    exact ⟨O, ⟨f x.B _ (by simp [k1, Ne.symm a2]) R.now.h3.hB, f x.S _ (by simp [k2, Ne.symm a3]) R.now.h3.hS, kvs, f x.J _ (by simp [k3, Ne.symm a4]) hJ, hD⟩, R.now.ok⟩
  have pq : Paired (Snap H') (q :: xs) (d.now :: d.past) := .cons (kp q _ hqo sn) (paired_imp R.past fun g b hg s => kp g b (fun z hz => hx z (mem_rest_l hg z hz)) s)
  have sub : List.Sublist (((q :: xs).take 20).flatMap A3.own) (q.own ++ xs.flatMap A3.own) := by
    rw [show q.own ++ xs.flatMap A3.own = (q :: xs).flatMap A3.own from rfl]
    have h : ((q :: xs).take 20 ++ (q :: xs).drop 20).flatMap A3.own = (q :: xs).flatMap A3.own := by rw [List.take_append_drop]
    rw [← h, List.flatMap_append]
    exact List.sublist_append_left _ _
  have con : ∀ z ∈ own x xs ys, ∃ o, H z = some o := fun z hz => (R.con z hz).some
  have own' : own (noted x SA SB) ((q :: xs).take 20) [] = [SA, SB] ++ ([x.B, x.S, x.J] ++ ((q :: xs).take 20).flatMap A3.own) := by
    show [SA, SB, x.B, x.S, x.J] ++ (((q :: xs).take 20).flatMap A3.own ++ []) = _
    rw [List.append_nil]
    rfl
  have qcon : ∀ z ∈ q.own, ∃ o, H z = some o := fun z hz => (sn.con z hz).some
  refine ⟨⟨N', ?_, hB, paired_take 20 pq, .nil, ?_, ok, fun b hb => ?_⟩, fun z hz => ?_⟩
  · show H' SA = some (.lst (tops ((q :: xs).take 20)))
    rw [hA, tops_take, tops_cons]
  · rw [own']
    have nd1 : ([x.B, x.S, x.J] ++ (q.own ++ xs.flatMap A3.own)).Nodup := by
      have h0 : ([x.B, x.S, x.J] ++ xs.flatMap A3.own).Nodup := R.nd.sublist (by
        show List.Sublist ([x.B, x.S, x.J] ++ xs.flatMap A3.own) ([x.SA, x.SB] ++ ([x.B, x.S, x.J] ++ (xs.flatMap A3.own ++ ys.flatMap A3.own)))
        refine List.Sublist.trans ?_ (List.sublist_append_right _ _)
        exact List.Sublist.append (List.Sublist.refl _) (List.sublist_append_left _ _))
      have h1 : (q.own ++ ([x.B, x.S, x.J] ++ xs.flatMap A3.own)).Nodup := List.nodup_append.mpr ⟨qn, h0, fun u hu v hv e => hq u hu (by
        rw [e]
        refine List.mem_cons_of_mem _ ?_
        rcases List.mem_append.mp hv with hv | hv
        · simp only [List.mem_cons, List.not_mem_nil, or_false] at hv
          rcases hv with rfl | rfl | rfl <;> simp [own, owned]
        · exact List.mem_append_right _ (List.mem_append_left _ hv))⟩
      exact (List.perm_append_comm_assoc _ _ _).nodup_iff.mp h1
    have nd2 := nd1.sublist (List.Sublist.append (List.Sublist.refl [x.B, x.S, x.J]) sub)
    have hmem : ∀ z ∈ [x.B, x.S, x.J] ++ ((q :: xs).take 20).flatMap A3.own, ∃ o, H z = some o := fun z hz => by
      rcases List.mem_append.mp hz
          with hz | hz
      · simp only [List.mem_cons, List.not_mem_nil, or_false] at hz
        rcases hz with rfl | rfl | rfl <;> exact con _ (by simp [own, owned])
      · rcases List.mem_append.mp (sub.subset hz) with hz | hz
        · exact qcon z hz
        · exact con z (List.mem_append_right _ (List.mem_append_left _ hz))
    refine List.nodup_append.mpr ⟨by simp [ab], nd2, fun u hu v hv e => ?_⟩
    obtain ⟨o, ho⟩ := hmem v hv
    rw [← e] at ho
    simp only [List.mem_cons, List.not_mem_nil, or_false] at hu
    rcases hu with rfl | rfl
    · rw [nA] at ho; cases ho
    · rw [nB] at ho; cases ho
  · rcases hb with hb | hb
    · have hb' : b ∈ d.now :: d.past := List.mem_of_mem_take hb
      rcases List.mem_cons.mp hb' with rfl | hb'
      · exact ⟨hs.1.symm, hs.2.1.symm, hs.2.2.symm⟩
      · exact R.same b (.inl hb')
    · cases hb
  · rw [own'] at hz
    rcases List.mem_append.mp hz
        with hz | hz
    · simp only [List.mem_cons, List.not_mem_nil, or_false] at hz
      rcases hz with rfl | rfl
      · exact .inr (.inr nA)
      · exact .inr (.inr nB)
    · rcases List.mem_append.mp hz with hz | hz
      · left
        simp only [List.mem_cons, List.not_mem_nil, or_false] at hz
        rcases hz with rfl | rfl | rfl <;> simp [own, owned]
      · rcases List.mem_append.mp (sub.subset hz) with hz | hz
        · exact .inr (.inl hz)
        · exact .inl (List.mem_append_right _ (List.mem_append_left _ hz))
end
end Ag

/-! AgQ: a call is answered, a change is noted. -/
namespace Ag
open PySem PySem.Spec PyProof.Rows L2 Evl
open Km493 (Book Person Band Desk bits act only n2i)
open Km493Neutral (told step)
section
variable {K : PySem.W.Frag} {mg : Str → Option Value} {A : Adr} {H H' : Hp} {a : Addr} {b : Book} {x : Ad} {σ : L2.St} {D : Ends} {tz : TS}
theorem q_asgStand {j : Nat} (N : Now A H a x b) (hv : ∀ G, Ev (tVar 0) σ G (.ref a)) (k : ∀ q H1, Ex H H1 → Snap H1 q b → H q.t = none → (∀ z ∈ q.own, H z = none) → q.own.Nodup → tz D (σ.set j (some (.ref q.t))) H1) :
    tSeq (tAsg (tMeth A.C_Roll "standing" (spStanding A) [] E0 (tVar 0) tNil) (gName j)) tz D σ H := by
  unfold tSeq tAsg tMeth tNil gName
  refine hv H H (Ex.refl H) _ fun H2 e2 => ⟨a, x.dx, _, rfl, e2 _ _ N.obj, lm_standing, a, x, b, rfl, N.ext e2, fun q H3 e3 hs n1 n2 nd => ?_⟩
  exact k q H3 (e2.trans e3) hs (fresh_back e2 n1) (fun z h => fresh_back e2 (n2 z h)) nd
theorem pure_answer_to (T : Txt K mg A) (vs : List V) (H : Hp) (Q : VK) (E : XK) : spAnsTo A vs H Q E → t_answer_to K A (spStanding A) (spNote A) (S22 A) { nx := fun _ H' => Q .non H', rt := Q } (start ["roll", "call", "numbers", "stood", "answer"] vs) H := by
  rintro ⟨a, l, s, F, c, rfl, hl, hst, hs0, P⟩
  refine q_when (et_not (et_B (ev_op (ev_var rfl) ev_c (rv_ixT (row_at T c H) rfl)))) (fun hb H1 e1 => ?_) (fun hb H1 e1 => ?_)
  · have hc : isChange c = false := by simpa using hb
    unfold tRet tCallE
    refine ev_op (ev_var rfl) ev_c (rv_ixT (row_at T c H1) rfl) H1 (Ex.refl H1) _ fun H2 e2 => ⟨fOf A (num c), spOs A (num c), rfl, ⟨num c, num_lt c, rfl, rfl⟩, ?_⟩
    refine ea_cons (ev_var rfl) (ea_cons (ev_var rfl) ea_nil) H2 (Ex.refl H2) _ fun H3 e3 => ?_
    have e := (e1.trans e2).trans e3
    refine ⟨a, l, s, F, c, rfl, rfl, e _ _ hl, hst.ext e, hs0, ?_⟩
    rw [eff_quest hc]
    exact P.ext e
  · have hc : isChange c = true := by simpa using hb
    cases s with
    | none =>
      have h0 := hs0 rfl
      cases c <;> first | exact absurd hc (by show ¬ (false = true); decide) | cases h0
    | some d =>
      obtain ⟨x, xs, ys, R, rfl⟩ := hst
      rw [step_some d c (call_code c)] at P
      obtain ⟨ci1, ci2, ci3⟩ := change_is hc R.ok
      have okn := act_ok c R.ok
      refine q_asgStand (R.now.ext e1) (fun G => ev_var rfl) fun q H2 e2 sn n1 n2 qn => ?_
      unfold tSeq tAsg tCallE gName
      refine ev_op (ev_var rfl) ev_c (rv_ixT (row_at T c H2) rfl) H2 (Ex.refl H2) _ fun H3 e3 => ⟨fOf A (num c), spOs A (num c), rfl, ⟨num c, num_lt c, rfl, rfl⟩, ?_⟩
      refine ea_cons (ev_var rfl) (ea_cons (ev_var rfl) ea_nil) H3 (Ex.refl H3) _ fun H4 e4 => ?_
      have e02 := e1.trans e2
      have e24 := e3.trans e4
      have e := e02.trans e24
      refine ⟨a, l, some d, _, c, rfl, rfl, e _ _ hl, ⟨x, xs, ys, R.ext e, rfl⟩, (fun h => nomatch h), ?_⟩
      intro p H5 F5 hp hpF hl5 hst5 fr hm
      have hst5' : StR A H5 a (some (effD d c)) F5 := hst5
      rw [effD_change hc rfl] at hst5'
      obtain ⟨x5, xs5, ys5, R5, rfl⟩ := hst5'
      rw [ans_some] at hl5
      have hval : Ev (tOp (rIxL K) (tVar 4) (tC (.int 0))) ((((start ["roll", "call", "numbers", "stood", "answer"] [V.ref a, V.ref (uOf A (num c)), V.ref l]).set 3 (some (.ref q.t)))).set 4 (some (.ref p))) H5 (.int (act d c).2.value) := ev_op (ev_var rfl) ev_c (rv_ixL (sq_of hl5) (atI_nat (j := 0) rfl))
      have sn4 := sn.ext e24
      have qF : ∀ z ∈ q.own, z ∉ a :: own x xs ys := fun z hz => R.away (fresh_back e1 (n2 z hz))
      have sn5 : Snap H5 q d.now := sn4.keep fr qF (R.away (fresh_back e1 n1))
      have hq5 : ∀ z ∈ q.own, z ∉ a :: own x5 xs5 ys5 := fun z hz hmem => by
        rcases hm z hmem with h | h
        · exact qF z hz h
        · obtain ⟨o, ho⟩ := (sn4.con z hz).some
          rw [h] at ho
          cases ho
      have hp0 := fresh_back e hp
      refine q_when (et_test (ev_op (r := rGe) hval ev_c rv_I0)) (fun hv H6 e6 => ?_) (fun hv H6 e6 => ?_)
      · have eqd := ci1 (of_decide_eq_true hv)
        rw [eqd] at okn
        have R6 := R5.ext e6
        refine s_methN (ev_var rfl) R6.now.obj lm_note_change (ea_cons (ev_var rfl) ea_nil) fun H7 e7 => ⟨a, x5.dx, mkR (act d c).1.now x5, x5.SA, tops xs5, .ref q.t, rfl, (R6.ext e7).now.obj, rfl, (R6.ext e7).sa, ?_, fun SA SB H8 O hA hB ab nA nB f8 => ?_⟩
        · have h1 := paired_len R5.past
          have h2 := R.ok.few
          rw [tops_len]
          have h1' : xs5.length = d.past.length := h1
          omega
        · have R7 := R6.ext e7
          have e57 := e6.trans e7
          obtain ⟨R8, hm8⟩ := note_rep R7 (sn5.ext e57) hq5 qn okn ci3 O hA hB ab nA nB f8
          have hp5 : H5 p = some (.lst (intV (told (act d c).2))) := hl5
          have hp7 := e57 _ _ hp5
          have pn : p ∉ [a, x5.SA] := fun h => hpF (by
            simp only [List.mem_cons, List.not_mem_nil, or_false] at h
            rcases h with h | h
            · rw [h]; exact List.mem_cons_self ..
            · rw [h]; exact List.mem_cons_of_mem _ (by simp [own, owned]))
          have frA : FrL (a :: own x xs ys) H H7 := ((FrL.of e).trans fr).trans (FrL.of e57)
          have fr8 : FrL (a :: own x xs ys) H H8 := ⟨fun z o hz h => f8 z o (fun hmz => by
            simp only [List.mem_cons, List.not_mem_nil, or_false] at hmz
            rcases hmz with h1 | h1
            · exact hz (by rw [h1]; exact List.mem_cons_self ..)
            · rcases hm z (by rw [h1]; exact List.mem_cons_of_mem _ (by simp [own, owned])) with h2 | h2
              · exact hz h2
              · rw [e _ _ h] at h2; cases h2) (frA z o hz h), fun z o h => by
            obtain ⟨o', h'⟩ := frA.dom z o h
            exact f8.dom z o' h'⟩
          show tRet (tVar 4) _ _ H8
          refine s_ret (ev_var rfl) fun H9 e9 => P p H9 (a :: own (noted x5 SA SB) ((q :: xs5).take 20) []) hp0 (fun hmp => ?_) (e9 _ _ (f8 _ _ pn hp7)) ⟨_, _, _, by rw [eqd]; exact R8.ext e9, rfl⟩ (fr8.trans (FrL.of e9)) fun z hz => ?_
          · rcases List.mem_cons.mp hmp with h | h
            · exact pn (by rw [h]; simp)
            · rcases hm8 p h with h | h | h
              · exact hpF (List.mem_cons_of_mem _ h)
              · obtain ⟨o, ho⟩ := (sn4.con p h).some
                rw [hp] at ho
                cases ho
              · rw [hp7] at h; cases h
          · rcases List.mem_cons.mp hz with h | h
            · exact .inl (by rw [h]; exact List.mem_cons_self ..)
            · rcases hm8 z h with h | h | h
              · rcases hm z (List.mem_cons_of_mem _ h) with h | h
                · exact .inl h
                · exact .inr (fresh_back e h)
              · exact .inr (fresh_back e1 (n2 z h))
              · exact .inr (frA.fresh h)
      · have eqd : (act d c).1 = d := ci2 (by have h := of_decide_eq_false hv; omega)
        rw [eqd] at R5 P
        refine s_ret (ev_var rfl) fun H7 e7 => P p H7 _ hp0 hpF (e7 _ _ (e6 _ _ hl5)) ⟨x5, xs5, ys5, (R5.ext e6).ext e7, rfl⟩ (((FrL.of e).trans fr).trans (FrL.of (e6.trans e7))) fun z hz => ?_
        rcases hm z hz with h | h
        · exact .inl h
        · exact .inr (fresh_back e h)
end
end Ag

/-! AgU: the list of calls, gone through. -/
namespace Ag
open PySem PySem.Spec PyProof.Rows L2 Evl
open Km493 (Book Person Band Desk bits act only n2i)
open Km493Neutral (told step)
theorem asked_short {l : List Int} (h : PyKm493.answers_asked l = true) : (PyKm493.answers l).length ≤ 10000000 := by
  unfold PyKm493.answers_asked at h
  cases e : PyFlat.calls PyKm493.shape l.length l with
  | none =>
      rw [e] at h; cases h
  | some raw =>
    rw [e] at h
    dsimp only at h
    obtain ⟨_, h1⟩ := and2 h
    exact of_decide_eq_true h1
/-- a list that is read, kept from the footprint -/
def Kept (K : PySem.W.Frag) (H : Hp) (p : Addr) (zs : List V) (F : List Addr) : Prop := (Rd H p (.lst zs) ∧ p ∉ F) ∨
  ∃ (o : Obj) (its : Array Value) (n : Nat), K.lookup p = some o ∧ o.cls = .type "list" ∧ o.dict = none ∧ o.data = .seq its n ∧ its.size ≤ sizeLine ∧ Vals zs its.toList
section
variable {K : PySem.W.Frag} {mg : Str → Option Value} {A : Adr} {H H' : Hp} {a p td : Addr} {zs : List V} {F F' : List Addr} {s : Option Desk} {σ : L2.St} {D : Ends} {tz : TS} {ta te : TE} {xs ys : List A3} {x : Ad} {d : Desk}
theorem Kept.sq (h : Kept K H p zs F) : SqL K H p zs := by
  rcases h with ⟨h, _⟩ | h
  · exact .inl h
  · exact .inr h
theorem Kept.step (h : Kept K H p zs F) (f : FrL F H H') (hm : ∀ z ∈ F', z ∈ F ∨ H z = none) : Kept K H' p zs F' := by
  rcases h with ⟨h, hp⟩ | h
  · left
    have hs : ∃ o, H p = some o := by
      rcases h with h | ⟨o, h⟩
      · exact ⟨_, h⟩
      · exact ⟨_, h⟩
    refine ⟨?_, fun hz => ?_⟩
    · rcases h with h | ⟨o, h⟩
      · exact .inl (f _ _ hp h)
      · exact .inr ⟨o, f _ _ hp h⟩
    · rcases hm p hz with h1 | h1
      · exact hp h1
      · obtain ⟨o, ho⟩ := hs
        rw [h1] at ho
        cases ho
  · exact .inr h
theorem RepX.keep1 {ws : List V} (R : RepX A H a d x xs ys) (ht : H td = some (.lst ws)) (htF : td ∉ a :: own x xs ys) (f : FrL [td] H H') : RepX A H' a d x xs ys := by
  have na : ∀ z ∈ a :: own x xs ys, z ∉ [td] := fun z hz h => htF (by rw [← List.mem_singleton.mp h]; exact hz)
  have no : ∀ z ∈ own x xs ys, z ∉ [td] := fun z hz => na z (List.mem_cons_of_mem _ hz)
  have hs : ∀ g b, (∀ z ∈ g.own, z ∈ rest3 xs ys) → Snap H g b → Snap H' g b := fun g b hg s => s.keep f (fun z hz => no z (List.mem_append_right _ (hg z hz))) (ni (Con.ne_tup (.inl ⟨_, ht⟩) s.tup))
  obtain ⟨kvs, hJ, hD⟩ := R.now.h3.hJ
  exact ⟨⟨f _ _ (na _ (List.mem_cons_self ..)) R.now.obj, ⟨f _ _ (no _ (by simp [own, owned])) R.now.h3.hB, f _ _ (no _ (by simp [own, owned])) R.now.h3.hS, kvs, f _ _ (no _ (by simp [own, owned])) hJ, hD⟩, R.now.ok⟩,
    f _ _ (no _ (by simp [own, owned])) R.sa, f _ _ (no _ (by simp [own, owned])) R.sb, paired_imp R.past fun g b hg s => hs g b (mem_rest_l hg) s, paired_imp R.future fun g b hg s => hs g b (mem_rest_r hg) s, R.nd, R.ok, R.same⟩
theorem StR.keep1 {ws : List V} (h : StR A H a s F) (ht : H td = some (.lst ws)) (htF : td ∉ F) (f : FrL [td] H H') : StR A H' a s F := by
  cases s with
  | none =>
    obtain ⟨⟨dx, r, O⟩, rfl⟩ := h
    exact ⟨⟨dx, r, f _ _ (fun h => htF (by rw [← List.mem_singleton.mp h]; exact List.mem_singleton.mpr rfl)) O⟩, rfl⟩
  | some d =>
    obtain ⟨x, xs, ys, R, rfl⟩ := h
    exact ⟨x, xs, ys, R.keep1 ht htF f, rfl⟩
theorem q_appZ {l : Addr} {xs : List V} {v : V} (hl : H l = some (.lst xs)) (ha : Ev ta σ H (.ref l)) (h : Ev te σ H v) (hz : xs.length < sizeLine) (k : ∀ H1, Ex H H1 → tz D σ (upd H1 l (.lst (xs ++ [v])))) :
    tSeq (tDrop (tBM K "list" rAppend ta (tCons te tNil))) tz D σ H := by
  unfold tSeq tDrop tBM tCons tNil
  refine ha H (Ex.refl H) _ fun H1 e1 => ⟨Or.inl ⟨rfl, xs, sq_of (e1 l _ hl)⟩, h H1 e1 _ fun H2 e2 => ?_⟩
  exact ⟨l, xs, v, rfl, rfl, (e1.trans e2) l _ hl, hz, k H2 (e1.trans e2)⟩
theorem q_extZ {l b : Addr} {xs ws : List V} (hl : H l = some (.lst xs)) (hb : H b = some (.lst ws)) (ha : Ev ta σ H (.ref l)) (h : Ev te σ H (.ref b)) (hz : xs.length + ws.length ≤ sizeLine) (k : ∀ H1, Ex H H1 → tz D σ (upd H1 l (.lst (xs ++ ws)))) :
    tSeq (tDrop (tBM K "list" rExtend ta (tCons te tNil))) tz D σ H := by
  unfold tSeq tDrop tBM tCons tNil
  refine ha H (Ex.refl H) _ fun H1 e1 => ⟨Or.inl ⟨rfl, xs, sq_of (e1 l _ hl)⟩, h H1 e1 _ fun H2 e2 => ?_⟩
  exact ⟨l, b, xs, ws, rfl, rfl, (e1.trans e2) l _ hl, (e1.trans e2) b _ hb, hz, k H2 (e1.trans e2)⟩
/-- the numbers behind a call -/
theorem cut_args {l l' : List Int} {c : Km493.Call} {i : Nat} (h : l.drop i = code c ++ l') : cutV (intV l) (some (((i : Int) + 1))) (some ((((i + 1 + (args c).length : Nat)) : Int))) = natV (args c) ∧ l[i]? = some (num c : Int) ∧ l.drop (i + 1 + (args c).length) = l' ∧ i + 1 + (args c).length ≤ l.length := by
  have hlen := congrArg List.length h
  rw [List.length_drop, List.length_append, code_eq, List.length_cons, List.length_map] at hlen
  have hi : i + 1 + (args c).length ≤ l.length := by omega
  have h0 : l.drop (i + 1) = (args c).map (fun (n : Nat) => (n : Int)) ++ l' := by
    have e : l.drop (i + 1) = (l.drop i).drop 1 := by rw [List.drop_drop]
    rw [e, h, code_eq]
    rfl
  refine ⟨?_, ?_, ?_, hi⟩
  · unfold cutV
    have z1 : (intV l).length = l.length := List.length_map _
    have e1 : HT.sIx (intV l).length 0 (some ((i : Int) + 1)) = i + 1 := by
      have := HT.sIx_nat (intV l).length 0 (i + 1)
      rw [z1] at this ⊢
      rw [show ((i : Int) + 1) = ((i + 1 : Nat) : Int) from rfl, this]
      omega
    have e2 : HT.sIx (intV l).length (intV l).length (some (((i + 1 + (args c).length : Nat)) : Int)) = i + 1 + (args c).length := by
      rw [HT.sIx_nat, z1]
      omega
    rw [e1, e2, intV, ← List.map_drop, h0, List.map_append, List.map_map]
    rw [List.take_left' (by rw [List.length_map]; omega)]
    rfl
  · have e : (l.drop i)[0]? = (code c ++ l')[0]? := by rw [h]
    rw [List.getElem?_drop, code_eq] at e
    exact e
  · have e : l.drop (i + 1 + (args c).length) = (l.drop (i + 1)).drop (args c).length := by rw [List.drop_drop]
    rw [e, h0, List.drop_left' (by rw [List.length_map])]
end
end Ag

/-! AgV: answers. -/
namespace Ag
open PySem PySem.Spec PyProof.Rows L2 Evl
open Km493 (Book Person Band Desk bits act only n2i)
open Km493Neutral (told step)
def spAns (K : PySem.W.Frag) : Sp := fun vs H Q _ => ∃ p l, vs = [.ref p] ∧ SqL K H p (intV l) ∧ PyKm493.answers_asked l = true ∧ ∀ H' r, H' r = some (.lst (intV (PyKm493.answers l))) → Q (.ref r) H'
/-- the loop's word -/
def LoopW (K : PySem.W.Frag) (A : Adr) (l : List Int) (p td a : Addr) (m : Nat) (σ' : L2.St) (H' : Hp) : Prop :=
  ∃ (i : Nat) (s : Option Desk) (F : List Addr) (cs : List (List (List Int))) (done : List Int) (y4 y5 y6 : Option V),
    σ' = [some (.ref p), some (.ref a), some (.ref td), some (.int (i : Int)), y4, y5, y6] ∧ Kept K H' p (intV l) (td :: F) ∧ StR A H' a s F ∧ td ∉ F ∧ H' td = some (.lst (intV done)) ∧ Rest s (l.drop i) cs ∧ i ≤ l.length ∧
    done ++ due s cs = PyKm493.answers l ∧ cs.length = m
section
variable {K : PySem.W.Frag} {mg : Str → Option Value} {A : Adr}
theorem q_asgMake {σ : L2.St} {H : Hp} {D : Ends} {tz : TS} {C : Addr} {sp : Sp} {j : Nat} (k : ∀ a dx, H a = none → H dx = none → dx ≠ a → sp [.ref a] (upd (upd H dx (.own a)) a (.ins C dx [])) (fun v H2 => v = .non ∧ tz D (σ.set j (some (.ref a))) H2) E0) :
    tSeq (tAsg (tMake C sp [] E0 tNil) (gName j)) tz D σ H := by
  unfold tSeq tAsg tMake tNil gName
  exact k
theorem q_asgCall3L {σ : L2.St} {H : Hp} {D : Ends} {tz : TS} {sp : Sp} {j : Nat} {t1 t2 t3 : TE} {v1 v2 : V} {xs : List V} (h1 : Ev t1 σ H v1) (h2 : Ev t2 σ H v2) (h3 : EvL t3 σ H xs)
    (k : ∀ p H1, H p = none → Ex H H1 → H1 p = some (.lst xs) → sp [v1, v2, .ref p] H1 (fun v H2 => tz D (σ.set j (some v)) H2) E0) : tSeq (tAsg (tCall sp [] E0 (tCons t1 (tCons t2 (tCons t3 tNil)))) (gName j)) tz D σ H := by
  unfold tSeq tAsg tCall tCons tNil gName
  refine h1 H (Ex.refl H) _ fun Ha ea => h2 Ha ea _ fun Hb eb => h3 Hb (ea.trans eb) _ fun q Hc hq ec hc => ?_
  exact k q Hc (fresh_back (ea.trans eb) hq) ((ea.trans eb).trans ec) hc
theorem code_ne (c : Km493.Call) (l : List Int) : code c ++ l ≠ [] := by rw [code_eq]; intro h; cases h
theorem pure_answers (T : Txt K mg A) (vs : List V) (H : Hp) (Q : VK) (E : XK) : spAns K vs H Q E → t_answers K A (spInit A) (spAnsTo A) { nx := fun _ H' => Q .non H', rt := Q } (start ["calls", "roll", "told", "at", "call", "behind", "answer"] vs) H := by
  rintro ⟨p, l, rfl, hp, hask, k⟩
  obtain ⟨cs, R0, _, hans⟩ := asked_rest hask
  have hsh := asked_short hask
  have hsz : sizeLine = 16777216 := by decide
  refine q_asgMake fun a dx na ndx hne => ⟨a, dx, rfl, upd_same, fun x H1 fr hnew f1 => ⟨rfl, ?_⟩⟩
  have k1 : Kept K H1 p (intV l) [a] := by
    rcases hp with hp | hp
    · left
      have hs : ∀ o, H p = some o → p ≠ a ∧ upd (upd H dx (.own a)) a (.ins A.C_Roll dx []) p = some o := fun o ho => by
        have n1 : p ≠ a := fun e => by rw [e, na] at ho; cases ho
        have n2 : p ≠ dx := fun e => by rw [e, ndx] at ho; cases ho
        exact ⟨n1, by rw [upd_ne n1, upd_ne n2]; exact ho⟩
      rcases hp with hp | ⟨o, hp⟩
      · obtain ⟨n1, h1⟩ := hs _ hp
        exact ⟨.inl (f1 _ _ (ni n1) h1), ni n1⟩
      · obtain ⟨n1, h1⟩ := hs _ hp
        exact ⟨.inr ⟨o, f1 _ _ (ni n1) h1⟩, ni n1⟩
    · exact .inr hp
  refine q_asgL (el_lst ea_nil (by decide)) fun td H2 ntd e2 htd => q_asg ev_c fun H3 e3 => ?_
  have e13 := e2.trans e3
  have tda : td ≠ a := fun e => by rw [e, fr.obj] at ntd; cases ntd
  refine q_while (LoopW K A l p td a) cs.length ⟨0, none, [a], cs, [], _, _, _, rfl, ?_, ⟨⟨x.dx, _, e13 _ _ fr.obj⟩, rfl⟩, ni tda, e3 _ _ htd, R0, Nat.zero_le _, hans.symm, rfl⟩ fun m σ' H' w => ?_
  · refine k1.step (FrL.of e13) fun z hz => ?_
    rcases List.mem_cons.mp hz
        with rfl | hz
    · exact .inr ntd
    · exact .inl hz
  · obtain ⟨i, s, F, cs, done, y4, y5, y6, rfl, hk, hst, htF, htd', hR, hi, hdone, rfl⟩ := w
    have hlen : (intV l).length = l.length := List.length_map _
    refine ⟨decide (i < l.length), et_test (ev_is (ev_op (ev_var rfl) (ev_len (ev_var rfl) hk.sq) rv_I0) (congrArg V.bl (by rw [hlen]; exact dlt))), fun hb H1 e1 => ?_, fun hb H1 e1 => ?_⟩
    · have hlt : i < l.length := of_decide_eq_true hb
      rcases hR.next with ⟨h0, _⟩ | ⟨c, l', cs', hd, hcs, _, hne', hR'⟩
      · have := congrArg List.length h0
        rw [List.length_drop] at this
        have h2 : l.length - i = 0 := this
        omega
      · subst hcs
        obtain ⟨c1, c2, c3, c4⟩ := cut_args hd
        refine ⟨LoopW K A l p td a cs'.length, fun σ2 H2 w => ⟨_, by rw [List.length_cons]; omega, w⟩, ?_⟩
        have hs0 : s = none → num c = 0 := fun h => by
          subst h
          obtain ⟨n, u, v, rfl⟩ := step_none hne'
          rfl
        have hk1 := hk.step (F' := td :: F) (FrL.of e1) fun z hz => .inl hz
        refine q_asg (v := .ref (uOf A (num c))) (ev_op ev_c (ev_op (ev_var rfl) (ev_var rfl) (rv_ixL hk1.sq (atI_nat (by rw [intV, List.getElem?_map, c2]; rfl)))) (rv_ixT (xs := tabV A) (T.u_CALLS H1) (tab_at c))) fun H2 e2 => ?_
        refine q_asg (v := .int ((i + 1 + (args c).length : Nat) : Int)) (ev_is (ev_op (ev_op (ev_var rfl) ev_c rv_I0) (ev_op (ev_var rfl) ev_c (rv_ixT (row_at T c H2) rfl)) rv_I0) rfl) fun H3 e3 => ?_
        have hk3 := hk1.step (F' := td :: F) (FrL.of (e2.trans e3)) fun z hz => .inl hz
        have e13 := (e1.trans e2).trans e3
        refine q_asgCall3L (ev_var rfl) (ev_var rfl) (el_sl (ev_var rfl) (eo_some (ev_op (ev_var rfl) ev_c rv_I0)) (eo_some (ev_var rfl)) hk3.sq) fun lp Hc hlp e3c hlc => ?_
        have ec' := e13.trans e3c
        refine ⟨a, lp, s, F, c, rfl, by rw [hlc]; exact congrArg (fun z => some (HO.lst z)) c1, hst.ext ec', hs0, ?_⟩
        intro q H5 F5 hq hqF hl5 hst5 fr5 hm5
        have htd5 := fr5 td _ htF (ec' _ _ htd')
        have htF5 : td ∉ F5 := fun h => by
          rcases hm5 td h with h1 | h1
          · exact htF h1
          · rw [ec' _ _ htd'] at h1; cases h1
        have hk5 : Kept K H5 p (intV l) (td :: F5) := (hk3.step (F' := td :: F) (FrL.of e3c) fun z hz => .inl hz).step (fr5.mono fun z hz => List.mem_cons_of_mem _ hz) fun z hz => by
          rcases List.mem_cons.mp hz
              with rfl | hz
          · exact .inl (List.mem_cons_self ..)
          · rcases hm5 z hz with h | h
            · exact .inl (List.mem_cons_of_mem _ h)
            · exact .inr h
        have hdc := due_cons s [code c] cs'
        have hfull : done ++ ((((step s [code c]).2.length : Int) :: (step s [code c]).2) ++ due (step s [code c]).1 cs') = PyKm493.answers l := by
          rw [← hdone, hdc]
        have hbound : done.length + ((step s [code c]).2.length + 1) ≤ 10000000 := by
          have h1 := congrArg List.length hfull
          rw [List.length_append, List.length_append, List.length_cons] at h1
          omega
        have hqtd : q ≠ td := fun e => by rw [e, ec' _ _ htd'] at hq; cases hq
        refine q_appZ htd5 (ev_var rfl) (ev_is (ev_len (ev_var rfl) (sq_of hl5)) (congrArg V.int (congrArg (Nat.cast (R := Int)) (List.length_map ..)))) (by rw [intV, List.length_map]; omega) fun H6 e6 => ?_
        have g6 : FrL [td] H5 (upd H6 td (.lst (intV done ++ [V.int ((step s [code c]).2.length : Int)]))) := FrL.write e6 (List.mem_singleton.mpr rfl)
        have hl6 := g6 _ _ (ni hqtd) hl5
        refine q_extZ upd_same hl6 (ev_var rfl) (ev_var rfl) (by rw [List.length_append, intV, intV, List.length_map, List.length_map]; show _ + 1 + _ ≤ _; omega) fun H7 e7 => ?_
        have g7 : FrL [td] H5 (upd H7 td (.lst (intV done ++ [V.int ((step s [code c]).2.length : Int)] ++ intV (step s [code c]).2))) := g6.trans (FrL.write e7 (List.mem_singleton.mpr rfl))
        refine s_asg (ev_var rfl) fun H8 e8 => ?_
        have g8 : FrL [td] H5 H8 := g7.trans (FrL.of e8)
        refine ⟨i + 1 + (args c).length, (step s [code c]).1, F5, cs', done ++ (((step s [code c]).2.length : Int) :: (step s [code c]).2), _, _, _, rfl, ?_, hst5.keep1 htd5 htF5 g8, htF5, ?_, by rw [c3]; exact hR', c4, by rw [List.append_assoc]; exact hfull, rfl⟩
        · exact hk5.step (g8.mono fun z hz => by rw [List.mem_singleton.mp hz]; exact List.mem_cons_self ..) fun z hz => .inl hz
        · rw [e8 _ _ upd_same]
          unfold intV
          rw [List.map_append, List.map_cons, List.append_assoc]
          rfl
    · have hge : l.length ≤ i := by have := of_decide_eq_false hb; omega
      have h0 : l.drop i = [] := List.drop_eq_nil_of_le hge
      have hcs : cs = [] := by
        rcases hR.next with ⟨_, h1⟩ | ⟨c, l', cs', hd, _⟩
        · exact h1
        · exact absurd (hd.symm.trans h0) (code_ne c l')
      subst hcs
      rw [due_nil, List.append_nil] at hdone
      subst hdone
      exact s_ret (ev_var rfl) fun H2 e2 => k H2 td (e2 _ _ (e1 _ _ htd'))
end
end Ag


namespace Ag
open L2 PySem PySem.Spec PyProof.Rows
theorem all_ok {P : Program} {w : World} {K : PySem.W.Frag} {mg : Str → Option Value} {A : Adr} (T : Txt K mg A) (base : Heap) : FnOk P w K mg base CX0 8 A.f_answers A.fd_answers ["calls"] (spAns K) := by
  have G_begin := ok_begin (P := P) (w := w) (base := base) (sp := (spBegin A)) T  (by rintro vs H Q E ⟨_, _, _, _, _, _, rfl, _⟩; rfl) (pure_begin T)
  have G_is_person := ok_is_person (P := P) (w := w) (base := base) (sp := (spIsPerson A)) T  (by rintro vs H Q E ⟨a, x, b, ws, v, rfl, _, hf, _⟩; first | (obtain ⟨rfl, _⟩ := hf; rfl) | (obtain ⟨_, rfl, _⟩ := hf; rfl) | (obtain ⟨_, _, rfl, _⟩ := hf; rfl)) (pure_is_person T)
  have G_is_set := ok_is_set (P := P) (w := w) (base := base) (sp := (spIsSet A)) T  (by rintro vs H Q E ⟨a, x, b, ws, v, rfl, _, hf, _⟩; first | (obtain ⟨rfl, _⟩ := hf; rfl) | (obtain ⟨_, rfl, _⟩ := hf; rfl) | (obtain ⟨_, _, rfl, _⟩ := hf; rfl)) (pure_is_set T)
  have G_is_in_a_set := ok_is_in_a_set (P := P) (w := w) (base := base) (sp := (spInSet A)) T  (by rintro vs H Q E ⟨a, x, b, ws, v, rfl, _, hf, _⟩; first | (obtain ⟨rfl, _⟩ := hf; rfl) | (obtain ⟨_, rfl, _⟩ := hf; rfl) | (obtain ⟨_, _, rfl, _⟩ := hf; rfl)) (pure_is_in_a_set T)
  have G_age_of := ok_age_of (P := P) (w := w) (base := base) (sp := (spAgeOf A)) T  (by rintro vs H Q E ⟨a, x, b, ws, v, rfl, _, hf, _⟩; first | (obtain ⟨rfl, _⟩ := hf; rfl) | (obtain ⟨_, rfl, _⟩ := hf; rfl) | (obtain ⟨_, _, rfl, _⟩ := hf; rfl)) (pure_age_of T)
  have G_age_at_joining := ok_age_at_joining (P := P) (w := w) (base := base) (sp := (spAgeAt A)) T  (by rintro vs H Q E ⟨a, x, b, ws, v, rfl, _, hf, _⟩; first | (obtain ⟨rfl, _⟩ := hf; rfl) | (obtain ⟨_, rfl, _⟩ := hf; rfl) | (obtain ⟨_, _, rfl, _⟩ := hf; rfl)) (pure_age_at_joining T)
  have G_name_of := ok_name_of (P := P) (w := w) (base := base) (sp := (spNameOf A)) T  (by rintro vs H Q E ⟨a, x, b, ws, v, rfl, _, hf, _⟩; first | (obtain ⟨rfl, _⟩ := hf; rfl) | (obtain ⟨_, rfl, _⟩ := hf; rfl) | (obtain ⟨_, _, rfl, _⟩ := hf; rfl)) (pure_name_of T)
  have G_last_set := ok_last_set (P := P) (w := w) (base := base) (sp := (spLast A)) T  (by rintro vs H Q E ⟨a, x, b, ws, v, rfl, _, hf, _⟩; first | (obtain ⟨rfl, _⟩ := hf; rfl) | (obtain ⟨_, rfl, _⟩ := hf; rfl) | (obtain ⟨_, _, rfl, _⟩ := hf; rfl)) (pure_last_set T)
  have G_people := ok_people (P := P) (w := w) (base := base) (sp := (spPeople A)) T  (by rintro vs H Q E ⟨a, x, b, ws, v, rfl, _, hf, _⟩; first | (obtain ⟨rfl, _⟩ := hf; rfl) | (obtain ⟨_, rfl, _⟩ := hf; rfl) | (obtain ⟨_, _, rfl, _⟩ := hf; rfl)) (pure_people T)
  have G_are_in := ok_are_in (P := P) (w := w) (base := base) (sp := (spAreIn A)) T  (by rintro vs H Q E ⟨a, x, b, ws, v, rfl, _, hf, _⟩; first | (obtain ⟨rfl, _⟩ := hf; rfl) | (obtain ⟨_, rfl, _⟩ := hf; rfl) | (obtain ⟨_, _, rfl, _⟩ := hf; rfl)) (pure_are_in T)
  have G_is_senior := ok_is_senior (P := P) (w := w) (base := base) (sp := (spSenior A)) T  (by rintro vs H Q E ⟨a, x, b, ws, v, rfl, _, hf, _⟩; first | (obtain ⟨rfl, _⟩ := hf; rfl) | (obtain ⟨_, rfl, _⟩ := hf; rfl) | (obtain ⟨_, _, rfl, _⟩ := hf; rfl)) (pure_is_senior T)
  have G_place_of := ok_place_of (P := P) (w := w) (base := base) (sp := (spPlace A)) T  (by rintro vs H Q E ⟨_, _, _, _, rfl, _⟩; rfl) (pure_place_of T)
  have G_add_person := ok_add_person (P := P) (w := w) (base := base) (sp := (spBorn A)) T  (by rintro vs H Q E ⟨_, _, _, rfl, _⟩; rfl) (pure_add_person T)
  have G_open_next := ok_open_next (P := P) (w := w) (base := base) (sp := (spOpenN A)) T  (by rintro vs H Q E ⟨_, _, _, rfl, _⟩; rfl) (pure_open_next T)
  have G_standing := ok_standing (P := P) (w := w) (base := base) (sp := (spStanding A)) T  (by rintro vs H Q E ⟨_, _, _, rfl, _⟩; rfl) (pure_standing T)
  have G_stand_as := ok_stand_as (P := P) (w := w) (base := base) (sp := (spStandAs A)) T  (by rintro vs H Q E ⟨_, _, _, _, _, _, _, _, _, _, rfl, _⟩; rfl) (pure_stand_as T)
  have G_note_change := ok_note_change (P := P) (w := w) (base := base) (sp := (spNote A)) T  (by rintro vs H Q E ⟨_, _, _, _, _, _, rfl, _⟩; rfl) (pure_note_change T)
  have G_as_a_set := ok_as_a_set (P := P) (w := w) (base := base) (sp := (spAsSet K)) T  (by rintro vs H Q E ⟨_, _, rfl, _⟩; rfl) pure_as_a_set
  have G_os_pass := ok_os_pass (P := P) (w := w) (base := base) (sp := (spOs A 1)) T  (by rintro vs H Q E ⟨_, _, _, _, _, rfl, _⟩; rfl) (pure_os_pass T)
  have G_Roll_init := ok_Roll_init (P := P) (w := w) (base := base) (sp := (spInit A)) T G_begin (by rintro vs H Q E ⟨_, _, rfl, _⟩; rfl) (pure_init T)
  have G_is_of_age := ok_is_of_age (P := P) (w := w) (base := base) (sp := (spOfAge A)) T G_age_of (by rintro vs H Q E ⟨a, x, b, ws, v, rfl, _, hf, _⟩; first | (obtain ⟨rfl, _⟩ := hf; rfl) | (obtain ⟨_, rfl, _⟩ := hf; rfl) | (obtain ⟨_, _, rfl, _⟩ := hf; rfl)) (pure_is_of_age T)
  have G_has_missed := ok_has_missed (P := P) (w := w) (base := base) (sp := (spMissed A)) T G_age_of G_is_in_a_set (by rintro vs H Q E ⟨a, x, b, ws, v, rfl, _, hf, _⟩; first | (obtain ⟨rfl, _⟩ := hf; rfl) | (obtain ⟨_, rfl, _⟩ := hf; rfl) | (obtain ⟨_, _, rfl, _⟩ := hf; rfl)) (pure_has_missed T)
  have G_birth_years_in := ok_birth_years_in (P := P) (w := w) (base := base) (sp := (spBornIn A)) T G_people (by rintro vs H Q E ⟨a, x, b, ws, v, rfl, _, hf, _⟩; first | (obtain ⟨rfl, _⟩ := hf; rfl) | (obtain ⟨_, rfl, _⟩ := hf; rfl) | (obtain ⟨_, _, rfl, _⟩ := hf; rfl)) (pure_birth_years_in T)
  have G_have_the_name_of := ok_have_the_name_of (P := P) (w := w) (base := base) (sp := (spAlike A)) T G_name_of (by rintro vs H Q E ⟨a, x, b, ws, v, rfl, _, hf, _⟩; first | (obtain ⟨rfl, _⟩ := hf; rfl) | (obtain ⟨_, rfl, _⟩ := hf; rfl) | (obtain ⟨_, _, rfl, _⟩ := hf; rfl)) (pure_have_the_name_of T)
  have G_put_in_open := ok_put_in_open (P := P) (w := w) (base := base) (sp := (spPut A)) T G_last_set (by rintro vs H Q E ⟨_, _, _, _, rfl, _⟩; rfl) (pure_put_in_open T)
  have G_take_back := ok_take_back (P := P) (w := w) (base := base) (sp := (spBack A)) T G_standing G_stand_as (by rintro vs H Q E ⟨_, _, _, _, _, _, _, _, rfl, _⟩; rfl) (pure_take_back T)
  have G_do_again := ok_do_again (P := P) (w := w) (base := base) (sp := (spAgain A)) T G_standing G_stand_as (by rintro vs H Q E ⟨_, _, _, _, _, _, _, _, rfl, _⟩; rfl) (pure_do_again T)
  have G_os_start := ok_os_start (P := P) (w := w) (base := base) (sp := (spOs A 0)) T G_begin (by rintro vs H Q E ⟨_, _, _, _, _, rfl, _⟩; rfl) (pure_os_start T)
  have G_os_born := ok_os_born (P := P) (w := w) (base := base) (sp := (spOs A 2)) T G_add_person (by rintro vs H Q E ⟨_, _, _, _, _, rfl, _⟩; rfl) (pure_os_born T)
  have G_os_open := ok_os_open (P := P) (w := w) (base := base) (sp := (spOs A 3)) T G_open_next G_last_set G_name_of (by rintro vs H Q E ⟨_, _, _, _, _, rfl, _⟩; rfl) (pure_os_open T)
  have G_os_shut := ok_os_shut (P := P) (w := w) (base := base) (sp := (spOs A 4)) T G_last_set (by rintro vs H Q E ⟨_, _, _, _, _, rfl, _⟩; rfl) (pure_os_shut T)
  have G_os_age := ok_os_age (P := P) (w := w) (base := base) (sp := (spOs A 7)) T G_is_person G_age_of (by rintro vs H Q E ⟨_, _, _, _, _, rfl, _⟩; rfl) (pure_os_age T)
  have G_os_whose := ok_os_whose (P := P) (w := w) (base := base) (sp := (spOs A 8)) T G_is_person G_is_in_a_set G_name_of (by rintro vs H Q E ⟨_, _, _, _, _, rfl, _⟩; rfl) (pure_os_whose T)
  have G_os_members := ok_os_members (P := P) (w := w) (base := base) (sp := (spOs A 9)) T G_is_set G_are_in G_as_a_set (by rintro vs H Q E ⟨_, _, _, _, _, rfl, _⟩; rfl) (pure_os_members T)
  have G_os_name := ok_os_name (P := P) (w := w) (base := base) (sp := (spOs A 10)) T G_name_of (by rintro vs H Q E ⟨_, _, _, _, _, rfl, _⟩; rfl) (pure_os_name T)
  have G_os_senior := ok_os_senior (P := P) (w := w) (base := base) (sp := (spOs A 14)) T G_is_person G_is_in_a_set G_is_senior (by rintro vs H Q E ⟨_, _, _, _, _, rfl, _⟩; rfl) (pure_os_senior T)
  have G_os_when := ok_os_when (P := P) (w := w) (base := base) (sp := (spOs A 18)) T G_is_person G_is_in_a_set G_age_at_joining (by rintro vs H Q E ⟨_, _, _, _, _, rfl, _⟩; rfl) (pure_os_when T)
  have G_os_state := ok_os_state (P := P) (w := w) (base := base) (sp := (spOs A 21)) T G_last_set (by rintro vs H Q E ⟨_, _, _, _, _, rfl, _⟩; rfl) (pure_os_state T)
  have G_may_join := ok_may_join (P := P) (w := w) (base := base) (sp := (spMay A)) T G_is_of_age G_is_in_a_set (by rintro vs H Q E ⟨a, x, b, ws, v, rfl, _, hf, _⟩; first | (obtain ⟨rfl, _⟩ := hf; rfl) | (obtain ⟨_, rfl, _⟩ := hf; rfl) | (obtain ⟨_, _, rfl, _⟩ := hf; rfl)) (pure_may_join T)
  have G_who_has_missed := ok_who_has_missed (P := P) (w := w) (base := base) (sp := (spWhoMissed A)) T G_has_missed G_people (by rintro vs H Q E ⟨a, x, b, ws, v, rfl, _, hf, _⟩; first | (obtain ⟨rfl, _⟩ := hf; rfl) | (obtain ⟨_, rfl, _⟩ := hf; rfl) | (obtain ⟨_, _, rfl, _⟩ := hf; rfl)) (pure_who_has_missed T)
  have G_os_join := ok_os_join (P := P) (w := w) (base := base) (sp := (spOs A 5)) T G_is_person G_is_in_a_set G_is_of_age G_put_in_open G_last_set (by rintro vs H Q E ⟨_, _, _, _, _, rfl, _⟩; rfl) (pure_os_join T)
  have G_os_alike := ok_os_alike (P := P) (w := w) (base := base) (sp := (spOs A 11)) T G_is_set G_have_the_name_of G_as_a_set (by rintro vs H Q E ⟨_, _, _, _, _, rfl, _⟩; rfl) (pure_os_alike T)
  have G_os_span := ok_os_span (P := P) (w := w) (base := base) (sp := (spOs A 17)) T G_is_set G_birth_years_in (by rintro vs H Q E ⟨_, _, _, _, _, rfl, _⟩; rfl) (pure_os_span T)
  have G_os_back := ok_os_back (P := P) (w := w) (base := base) (sp := (spOs A 19)) T G_take_back (by rintro vs H Q E ⟨_, _, _, _, _, rfl, _⟩; rfl) (pure_os_back T)
  have G_os_again := ok_os_again (P := P) (w := w) (base := base) (sp := (spOs A 20)) T G_do_again (by rintro vs H Q E ⟨_, _, _, _, _, rfl, _⟩; rfl) (pure_os_again T)
  have G_who_may_join := ok_who_may_join (P := P) (w := w) (base := base) (sp := (spWhoMay A)) T G_may_join G_people (by rintro vs H Q E ⟨a, x, b, ws, v, rfl, _, hf, _⟩; first | (obtain ⟨rfl, _⟩ := hf; rfl) | (obtain ⟨_, rfl, _⟩ := hf; rfl) | (obtain ⟨_, _, rfl, _⟩ := hf; rfl)) (pure_who_may_join T)
  have G_ranked := ok_ranked (P := P) (w := w) (base := base) (sp := (spRanked A)) T G_is_in_a_set G_people G_place_of (by rintro vs H Q E ⟨a, x, b, ws, v, rfl, _, hf, _⟩; first | (obtain ⟨rfl, _⟩ := hf; rfl) | (obtain ⟨_, rfl, _⟩ := hf; rfl) | (obtain ⟨_, _, rfl, _⟩ := hf; rfl)) (pure_ranked T)
  have G_os_missed := ok_os_missed (P := P) (w := w) (base := base) (sp := (spOs A 13)) T G_who_has_missed G_as_a_set (by rintro vs H Q E ⟨_, _, _, _, _, rfl, _⟩; rfl) (pure_os_missed T)
  have G_turned_apart := ok_turned_apart (P := P) (w := w) (base := base) (sp := (spApart A)) T G_ranked G_is_senior (by rintro vs H Q E ⟨a, x, b, ws, v, rfl, _, hf, _⟩; first | (obtain ⟨rfl, _⟩ := hf; rfl) | (obtain ⟨_, rfl, _⟩ := hf; rfl) | (obtain ⟨_, _, rfl, _⟩ := hf; rfl)) (pure_turned_apart T)
  have G_os_join_all := ok_os_join_all (P := P) (w := w) (base := base) (sp := (spOs A 6)) T G_who_may_join G_put_in_open G_as_a_set (by rintro vs H Q E ⟨_, _, _, _, _, rfl, _⟩; rfl) (pure_os_join_all T)
  have G_os_may := ok_os_may (P := P) (w := w) (base := base) (sp := (spOs A 12)) T G_who_may_join G_as_a_set (by rintro vs H Q E ⟨_, _, _, _, _, rfl, _⟩; rfl) (pure_os_may T)
  have G_os_rank := ok_os_rank (P := P) (w := w) (base := base) (sp := (spOs A 16)) T G_ranked (by rintro vs H Q E ⟨_, _, _, _, _, rfl, _⟩; rfl) (pure_os_rank T)
  have G_os_turned := ok_os_turned (P := P) (w := w) (base := base) (sp := (spOs A 15)) T G_turned_apart (by rintro vs H Q E ⟨_, _, _, _, _, rfl, _⟩; rfl) (pure_os_turned T)
  have hall : ∀ k, k < 22 → Held P w K mg base 6 (fOf A k) (spOs A k) := fun k hk => match k, hk with
    | 0, _ => ⟨⟨A.fd_os_start, ["roll", "numbers"], G_os_start.mono (by decide), T.F_os_start.kp, T.b_os_start⟩⟩
    | 1, _ => ⟨⟨A.fd_os_pass, ["roll", "numbers"], G_os_pass.mono (by decide), T.F_os_pass.kp, T.b_os_pass⟩⟩
    | 2, _ => ⟨⟨A.fd_os_born, ["roll", "numbers"], G_os_born.mono (by decide), T.F_os_born.kp, T.b_os_born⟩⟩
    | 3, _ => ⟨⟨A.fd_os_open, ["roll", "numbers"], G_os_open.mono (by decide), T.F_os_open.kp, T.b_os_open⟩⟩
    | 4, _ => ⟨⟨A.fd_os_shut, ["roll", "numbers"], G_os_shut.mono (by decide), T.F_os_shut.kp, T.b_os_shut⟩⟩
    | 5, _ => ⟨⟨A.fd_os_join, ["roll", "numbers"], G_os_join.mono (by decide), T.F_os_join.kp, T.b_os_join⟩⟩
    | 6, _ => ⟨⟨A.fd_os_join_all, ["roll", "numbers"], G_os_join_all.mono (by decide), T.F_os_join_all.kp, T.b_os_join_all⟩⟩
    | 7, _ => ⟨⟨A.fd_os_age, ["roll", "numbers"], G_os_age.mono (by decide), T.F_os_age.kp, T.b_os_age⟩⟩
    | 8, _ => ⟨⟨A.fd_os_whose, ["roll", "numbers"], G_os_whose.mono (by decide), T.F_os_whose.kp, T.b_os_whose⟩⟩
    | 9, _ => ⟨⟨A.fd_os_members, ["roll", "numbers"], G_os_members.mono (by decide), T.F_os_members.kp, T.b_os_members⟩⟩
    | 10, _ => ⟨⟨A.fd_os_name, ["roll", "numbers"], G_os_name.mono (by decide), T.F_os_name.kp, T.b_os_name⟩⟩
    | 11, _ => ⟨⟨A.fd_os_alike, ["roll", "numbers"], G_os_alike.mono (by decide), T.F_os_alike.kp, T.b_os_alike⟩⟩
    | 12, _ => ⟨⟨A.fd_os_may, ["roll", "numbers"], G_os_may.mono (by decide), T.F_os_may.kp, T.b_os_may⟩⟩
    | 13, _ => ⟨⟨A.fd_os_missed, ["roll", "numbers"], G_os_missed.mono (by decide), T.F_os_missed.kp, T.b_os_missed⟩⟩
    | 14, _ => ⟨⟨A.fd_os_senior, ["roll", "numbers"], G_os_senior.mono (by decide), T.F_os_senior.kp, T.b_os_senior⟩⟩
    | 15, _ => ⟨⟨A.fd_os_turned, ["roll", "numbers"], G_os_turned.mono (by decide), T.F_os_turned.kp, T.b_os_turned⟩⟩
    | 16, _ => ⟨⟨A.fd_os_rank, ["roll", "numbers"], G_os_rank.mono (by decide), T.F_os_rank.kp, T.b_os_rank⟩⟩
    | 17, _ => ⟨⟨A.fd_os_span, ["roll", "numbers"], G_os_span.mono (by decide), T.F_os_span.kp, T.b_os_span⟩⟩
    | 18, _ => ⟨⟨A.fd_os_when, ["roll", "numbers"], G_os_when.mono (by decide), T.F_os_when.kp, T.b_os_when⟩⟩
    | 19, _ => ⟨⟨A.fd_os_back, ["roll", "numbers"], G_os_back.mono (by decide), T.F_os_back.kp, T.b_os_back⟩⟩
    | 20, _ => ⟨⟨A.fd_os_again, ["roll", "numbers"], G_os_again.mono (by decide), T.F_os_again.kp, T.b_os_again⟩⟩
    | 21, _ => ⟨⟨A.fd_os_state, ["roll", "numbers"], G_os_state.mono (by decide), T.F_os_state.kp, T.b_os_state⟩⟩
    | k + 22, hk => absurd hk (by omega)
  have hheld : ∀ f sp, S22 A f sp → Held P w K mg base 6 f sp := by
    rintro f sp ⟨k, hk, rfl, rfl⟩
    exact hall k hk
  have G_answer_to := ok_answer_to (P := P) (w := w) (base := base) (sp := (spAnsTo A)) T G_standing G_note_change hheld (by rintro vs H Q E ⟨_, _, _, _, _, rfl, _⟩; rfl) (pure_answer_to T)
  have G_answers := ok_answers (P := P) (w := w) (base := base) (sp := (spAns K)) T G_Roll_init G_answer_to (by rintro vs H Q E ⟨_, _, rfl, _⟩; rfl) (pure_answers T)
  exact G_answers
theorem fin_mk {P : Program} {w : World} {K : PySem.W.Frag} {h : Heap} {mg : Str → Option Value} {fa : Addr} {A : Adr} (X : K.In h) (G : h.Ns mainGlobals mg) (hfa : mg "answers" = some (.ref fa)) (T : Txt K mg A)
    (hb : ∀ (s : Shared) (us : List Value), us.length = (["calls"] : List Str).length → BindsTo s A.fd_answers ⟨us, []⟩ ((["calls"] : List Str).zip us)) :
    ∃ fd : FuncData, (∀ (s : Shared) (us : List Value), us.length = (["calls"] : List Str).length → BindsTo s fd ⟨us, []⟩ ((["calls"] : List Str).zip us)) ∧ ∀ base : Heap, K.In base → base.Ns mainGlobals mg → FnOk P w K mg base CX0 8 fa fd ["calls"] (spAns K) := by
  have e := hfa.symm.trans T.g_answers
  cases e
  exact ⟨A.fd_answers, hb, fun base _ _ => all_ok T base⟩
end Ag

namespace Ag
open L2 PySem PySem.Spec PyProof.Rows
theorem txt_mk {K : PySem.W.Frag} {h : Heap} {mg : Str → Option Value} {C_Roll a_CALLS u_CALLS_0 u_CALLS_1 u_CALLS_2 u_CALLS_3 u_CALLS_4 u_CALLS_5 u_CALLS_6 u_CALLS_7 u_CALLS_8 u_CALLS_9 u_CALLS_10 u_CALLS_11 u_CALLS_12 u_CALLS_13 u_CALLS_14 u_CALLS_15 u_CALLS_16 u_CALLS_17 u_CALLS_18 u_CALLS_19 u_CALLS_20 u_CALLS_21 f_Roll_init f_begin f_is_person f_is_set f_is_in_a_set f_age_of f_age_at_joining f_is_of_age f_may_join f_has_missed f_name_of f_last_set f_people f_who_may_join f_who_has_missed f_are_in f_birth_years_in f_have_the_name_of f_is_senior f_place_of f_ranked f_turned_apart f_add_person f_open_next f_put_in_open f_standing f_stand_as f_note_change f_take_back f_do_again f_as_a_set f_os_start f_os_pass f_os_born f_os_open f_os_shut f_os_join f_os_join_all f_os_age f_os_whose f_os_members f_os_name f_os_alike f_os_may f_os_missed f_os_senior f_os_turned f_os_rank f_os_span f_os_when f_os_back f_os_again f_os_state f_answer_to f_answers : Addr} {uo_CALLS uo_CALLS_0 uo_CALLS_1 uo_CALLS_2 uo_CALLS_3 uo_CALLS_4 uo_CALLS_5 uo_CALLS_6 uo_CALLS_7 uo_CALLS_8 uo_CALLS_9 uo_CALLS_10 uo_CALLS_11 uo_CALLS_12 uo_CALLS_13 uo_CALLS_14 uo_CALLS_15 uo_CALLS_16 uo_CALLS_17 uo_CALLS_18 uo_CALLS_19 uo_CALLS_20 uo_CALLS_21 : Option Addr} {un_CALLS un_CALLS_0 un_CALLS_1 un_CALLS_2 un_CALLS_3 un_CALLS_4 un_CALLS_5 un_CALLS_6 un_CALLS_7 un_CALLS_8 un_CALLS_9 un_CALLS_10 un_CALLS_11 un_CALLS_12 un_CALLS_13 un_CALLS_14 un_CALLS_15 un_CALLS_16 un_CALLS_17 un_CALLS_18 un_CALLS_19 un_CALLS_20 un_CALLS_21 : Nat} {us_CALLS us_CALLS_0 us_CALLS_1 us_CALLS_2 us_CALLS_3 us_CALLS_4 us_CALLS_5 us_CALLS_6 us_CALLS_7 us_CALLS_8 us_CALLS_9 us_CALLS_10 us_CALLS_11 us_CALLS_12 us_CALLS_13 us_CALLS_14 us_CALLS_15 us_CALLS_16 us_CALLS_17 us_CALLS_18 us_CALLS_19 us_CALLS_20 us_CALLS_21 : Array (Option Value)} {ut_CALLS_0_1 ut_CALLS_1_1 ut_CALLS_2_1 ut_CALLS_3_1 ut_CALLS_4_1 ut_CALLS_5_1 ut_CALLS_6_1 ut_CALLS_7_1 ut_CALLS_8_1 ut_CALLS_9_1 ut_CALLS_10_1 ut_CALLS_11_1 ut_CALLS_12_1 ut_CALLS_13_1 ut_CALLS_14_1 ut_CALLS_15_1 ut_CALLS_16_1 ut_CALLS_17_1 ut_CALLS_18_1 ut_CALLS_19_1 ut_CALLS_20_1 ut_CALLS_21_1 : Tok} {t_NO_SET t_MOST_TAKEN_BACK t_NOT_THERE t_NOTHING_DUE t_NONE_OPEN t_ALREADY t_NOT_AS_ASKED t_FULL t_IN_NO_SET t_NOBODY_IN_IT t_NEITHER_IS_SENIOR t_FIRST_IS_SENIOR t_SECOND_IS_SENIOR t_FEWEST_NAMES t_MOST_NAMES t_HIGHEST_AGE t_LAST_YEAR t_MOST_PEOPLE t_MOST_SETS : Tok} {od_Roll_init an_Roll_init od_begin an_begin od_is_person an_is_person od_is_set an_is_set od_is_in_a_set an_is_in_a_set od_age_of an_age_of od_age_at_joining an_age_at_joining od_is_of_age an_is_of_age od_may_join an_may_join od_has_missed an_has_missed od_name_of an_name_of od_last_set an_last_set od_people an_people od_who_may_join an_who_may_join od_who_has_missed an_who_has_missed od_are_in an_are_in od_birth_years_in an_birth_years_in od_have_the_name_of an_have_the_name_of od_is_senior an_is_senior od_place_of an_place_of od_ranked an_ranked od_turned_apart an_turned_apart od_add_person an_add_person od_open_next an_open_next od_put_in_open an_put_in_open od_standing an_standing od_stand_as an_stand_as od_note_change an_note_change od_take_back an_take_back od_do_again an_do_again od_as_a_set an_as_a_set od_os_start an_os_start od_os_pass an_os_pass od_os_born an_os_born od_os_open an_os_open od_os_shut an_os_shut od_os_join an_os_join od_os_join_all an_os_join_all od_os_age an_os_age od_os_whose an_os_whose od_os_members an_os_members od_os_name an_os_name od_os_alike an_os_alike od_os_may an_os_may od_os_missed an_os_missed od_os_senior an_os_senior od_os_turned an_os_turned od_os_rank an_os_rank od_os_span an_os_span od_os_when an_os_when od_os_back an_os_back od_os_again an_os_again od_os_state an_os_state od_answer_to an_answer_to od_answers an_answers : Option Addr} {sl_Roll_init sl_begin sl_is_person sl_is_set sl_is_in_a_set sl_age_of sl_age_at_joining sl_is_of_age sl_may_join sl_has_missed sl_name_of sl_last_set sl_people sl_who_may_join sl_who_has_missed sl_are_in sl_birth_years_in sl_have_the_name_of sl_is_senior sl_place_of sl_ranked sl_turned_apart sl_add_person sl_open_next sl_put_in_open sl_standing sl_stand_as sl_note_change sl_take_back sl_do_again sl_as_a_set sl_os_start sl_os_pass sl_os_born sl_os_open sl_os_shut sl_os_join sl_os_join_all sl_os_age sl_os_whose sl_os_members sl_os_name sl_os_alike sl_os_may sl_os_missed sl_os_senior sl_os_turned sl_os_rank sl_os_span sl_os_when sl_os_back sl_os_again sl_os_state sl_answer_to sl_answers : Array (Option Value)} {oc_Roll_init kV_Roll_init dc_Roll_init pm_Roll_init cd_Roll_init ct_Roll_init oc_begin kV_begin dc_begin pm_begin cd_begin ct_begin oc_is_person kV_is_person dc_is_person pm_is_person cd_is_person ct_is_person oc_is_set kV_is_set dc_is_set pm_is_set cd_is_set ct_is_set oc_is_in_a_set kV_is_in_a_set dc_is_in_a_set pm_is_in_a_set cd_is_in_a_set ct_is_in_a_set oc_age_of kV_age_of dc_age_of pm_age_of cd_age_of ct_age_of oc_age_at_joining kV_age_at_joining dc_age_at_joining pm_age_at_joining cd_age_at_joining ct_age_at_joining oc_is_of_age kV_is_of_age dc_is_of_age pm_is_of_age cd_is_of_age ct_is_of_age oc_may_join kV_may_join dc_may_join pm_may_join cd_may_join ct_may_join oc_has_missed kV_has_missed dc_has_missed pm_has_missed cd_has_missed ct_has_missed oc_name_of kV_name_of dc_name_of pm_name_of cd_name_of ct_name_of oc_last_set kV_last_set dc_last_set pm_last_set cd_last_set ct_last_set oc_people kV_people dc_people pm_people cd_people ct_people oc_who_may_join kV_who_may_join dc_who_may_join pm_who_may_join cd_who_may_join ct_who_may_join oc_who_has_missed kV_who_has_missed dc_who_has_missed pm_who_has_missed cd_who_has_missed ct_who_has_missed oc_are_in kV_are_in dc_are_in pm_are_in cd_are_in ct_are_in oc_birth_years_in kV_birth_years_in dc_birth_years_in pm_birth_years_in cd_birth_years_in ct_birth_years_in oc_have_the_name_of kV_have_the_name_of dc_have_the_name_of pm_have_the_name_of cd_have_the_name_of ct_have_the_name_of oc_is_senior kV_is_senior dc_is_senior pm_is_senior cd_is_senior ct_is_senior oc_place_of kV_place_of dc_place_of pm_place_of cd_place_of ct_place_of oc_ranked kV_ranked dc_ranked pm_ranked cd_ranked ct_ranked oc_turned_apart kV_turned_apart dc_turned_apart pm_turned_apart cd_turned_apart ct_turned_apart oc_add_person kV_add_person dc_add_person pm_add_person cd_add_person ct_add_person oc_open_next kV_open_next dc_open_next pm_open_next cd_open_next ct_open_next oc_put_in_open kV_put_in_open dc_put_in_open pm_put_in_open cd_put_in_open ct_put_in_open oc_standing kV_standing dc_standing pm_standing cd_standing ct_standing oc_stand_as kV_stand_as dc_stand_as pm_stand_as cd_stand_as ct_stand_as oc_note_change kV_note_change dc_note_change pm_note_change cd_note_change ct_note_change oc_take_back kV_take_back dc_take_back pm_take_back cd_take_back ct_take_back oc_do_again kV_do_again dc_do_again pm_do_again cd_do_again ct_do_again oc_as_a_set kV_as_a_set dc_as_a_set pm_as_a_set cd_as_a_set ct_as_a_set oc_os_start kV_os_start dc_os_start pm_os_start cd_os_start ct_os_start oc_os_pass kV_os_pass dc_os_pass pm_os_pass cd_os_pass ct_os_pass oc_os_born kV_os_born dc_os_born pm_os_born cd_os_born ct_os_born oc_os_open kV_os_open dc_os_open pm_os_open cd_os_open ct_os_open oc_os_shut kV_os_shut dc_os_shut pm_os_shut cd_os_shut ct_os_shut oc_os_join kV_os_join dc_os_join pm_os_join cd_os_join ct_os_join oc_os_join_all kV_os_join_all dc_os_join_all pm_os_join_all cd_os_join_all ct_os_join_all oc_os_age kV_os_age dc_os_age pm_os_age cd_os_age ct_os_age oc_os_whose kV_os_whose dc_os_whose pm_os_whose cd_os_whose ct_os_whose oc_os_members kV_os_members dc_os_members pm_os_members cd_os_members ct_os_members oc_os_name kV_os_name dc_os_name pm_os_name cd_os_name ct_os_name oc_os_alike kV_os_alike dc_os_alike pm_os_alike cd_os_alike ct_os_alike oc_os_may kV_os_may dc_os_may pm_os_may cd_os_may ct_os_may oc_os_missed kV_os_missed dc_os_missed pm_os_missed cd_os_missed ct_os_missed oc_os_senior kV_os_senior dc_os_senior pm_os_senior cd_os_senior ct_os_senior oc_os_turned kV_os_turned dc_os_turned pm_os_turned cd_os_turned ct_os_turned oc_os_rank kV_os_rank dc_os_rank pm_os_rank cd_os_rank ct_os_rank oc_os_span kV_os_span dc_os_span pm_os_span cd_os_span ct_os_span oc_os_when kV_os_when dc_os_when pm_os_when cd_os_when ct_os_when oc_os_back kV_os_back dc_os_back pm_os_back cd_os_back ct_os_back oc_os_again kV_os_again dc_os_again pm_os_again cd_os_again ct_os_again oc_os_state kV_os_state dc_os_state pm_os_state cd_os_state ct_os_state oc_answer_to kV_answer_to dc_answer_to pm_answer_to cd_answer_to ct_answer_to oc_answers kV_answers dc_answers pm_answers cd_answers ct_answers : Value} (X : K.In h) (G : h.Ns mainGlobals mg)
    (aC_Roll : PySem.W.nsIn K mainGlobals "Roll" = some (some (.ref C_Roll)))
    (pg_Roll : PySem.W.plainGet K C_Roll Str.empty = true)
    (hd_Roll : PySem.W.hasDictIn K C_Roll = true)
    (po_Roll : PySem.W.plainOver K C_Roll = true)
    (sa_Roll : PySem.W.findIn K (.ref C_Roll) "__setattr__" = some (some (.builtin "object.__setattr__")))
    (mk_Roll : PySem.W.makesIn K C_Roll = true)
    (kc_Roll : PySem.W.keepIn K (.ref C_Roll) = true)
    (na_names : PySem.W.findIn K (.ref C_Roll) "names" = some none)
    (na_youngest : PySem.W.findIn K (.ref C_Roll) "youngest" = some none)
    (na_oldest : PySem.W.findIn K (.ref C_Roll) "oldest" = some none)
    (na_year : PySem.W.findIn K (.ref C_Roll) "year" = some none)
    (na_birth_years : PySem.W.findIn K (.ref C_Roll) "birth_years" = some none)
    (na_set_of : PySem.W.findIn K (.ref C_Roll) "set_of" = some none)
    (na_join_years : PySem.W.findIn K (.ref C_Roll) "join_years" = some none)
    (na_set_count : PySem.W.findIn K (.ref C_Roll) "set_count" = some none)
    (na_one_is_open : PySem.W.findIn K (.ref C_Roll) "one_is_open" = some none)
    (na_stood_ahead : PySem.W.findIn K (.ref C_Roll) "stood_ahead" = some none)
    (na_stood_behind : PySem.W.findIn K (.ref C_Roll) "stood_behind" = some none)
    (gg_NO_SET : PySem.W.nsIn K mainGlobals "NO_SET" = some (some (.int (-1) t_NO_SET)))
    (gg_MOST_TAKEN_BACK : PySem.W.nsIn K mainGlobals "MOST_TAKEN_BACK" = some (some (.int (20) t_MOST_TAKEN_BACK)))
    (gg_NOT_THERE : PySem.W.nsIn K mainGlobals "NOT_THERE" = some (some (.int (-2) t_NOT_THERE)))
    (gg_NOTHING_DUE : PySem.W.nsIn K mainGlobals "NOTHING_DUE" = some (some (.int (-6) t_NOTHING_DUE)))
    (gg_NONE_OPEN : PySem.W.nsIn K mainGlobals "NONE_OPEN" = some (some (.int (-16) t_NONE_OPEN)))
    (gg_ALREADY : PySem.W.nsIn K mainGlobals "ALREADY" = some (some (.int (-17) t_ALREADY)))
    (gg_NOT_AS_ASKED : PySem.W.nsIn K mainGlobals "NOT_AS_ASKED" = some (some (.int (-22) t_NOT_AS_ASKED)))
    (gg_FULL : PySem.W.nsIn K mainGlobals "FULL" = some (some (.int (-28) t_FULL)))
    (gg_IN_NO_SET : PySem.W.nsIn K mainGlobals "IN_NO_SET" = some (some (.int (-33) t_IN_NO_SET)))
    (gg_NOBODY_IN_IT : PySem.W.nsIn K mainGlobals "NOBODY_IN_IT" = some (some (.int (-33) t_NOBODY_IN_IT)))
    (gg_NEITHER_IS_SENIOR : PySem.W.nsIn K mainGlobals "NEITHER_IS_SENIOR" = some (some (.int (0) t_NEITHER_IS_SENIOR)))
    (gg_FIRST_IS_SENIOR : PySem.W.nsIn K mainGlobals "FIRST_IS_SENIOR" = some (some (.int (1) t_FIRST_IS_SENIOR)))
    (gg_SECOND_IS_SENIOR : PySem.W.nsIn K mainGlobals "SECOND_IS_SENIOR" = some (some (.int (2) t_SECOND_IS_SENIOR)))
    (gg_FEWEST_NAMES : PySem.W.nsIn K mainGlobals "FEWEST_NAMES" = some (some (.int (2) t_FEWEST_NAMES)))
    (gg_MOST_NAMES : PySem.W.nsIn K mainGlobals "MOST_NAMES" = some (some (.int (12) t_MOST_NAMES)))
    (gg_HIGHEST_AGE : PySem.W.nsIn K mainGlobals "HIGHEST_AGE" = some (some (.int (60) t_HIGHEST_AGE)))
    (gg_LAST_YEAR : PySem.W.nsIn K mainGlobals "LAST_YEAR" = some (some (.int (300) t_LAST_YEAR)))
    (gg_MOST_PEOPLE : PySem.W.nsIn K mainGlobals "MOST_PEOPLE" = some (some (.int (20) t_MOST_PEOPLE)))
    (gg_MOST_SETS : PySem.W.nsIn K mainGlobals "MOST_SETS" = some (some (.int (16) t_MOST_SETS)))
    (gg_CALLS : PySem.W.nsIn K mainGlobals "CALLS" = some (some (.ref a_CALLS)))
    (nn_len : PySem.W.nsIn K mainGlobals "len" = some none)
    (nn_list : PySem.W.nsIn K mainGlobals "list" = some none)
    (nn_range : PySem.W.nsIn K mainGlobals "range" = some none)
    (nn_sorted : PySem.W.nsIn K mainGlobals "sorted" = some none)
    (nn_dict : PySem.W.nsIn K mainGlobals "dict" = some none)
    (nn_enumerate : PySem.W.nsIn K mainGlobals "enumerate" = some none)
    (nn_any : PySem.W.nsIn K mainGlobals "any" = some none)
    (nn_max : PySem.W.nsIn K mainGlobals "max" = some none)
    (nn_min : PySem.W.nsIn K mainGlobals "min" = some none)
    (a_Roll_init : PySem.W.findIn K (.ref C_Roll) "__init__" = some (some (.ref f_Roll_init)))
    (i_Roll_init : PySem.W.isFn K (.ref f_Roll_init) = true)
    (l_Roll_init : K.lookup f_Roll_init = some ⟨oc_Roll_init, od_Roll_init, .func (PySem.W.fnOf "__init__" "Roll.__init__" (defArgs s_Roll_init) (defBody s_Roll_init) (defScope s_Roll_init) .none kV_Roll_init dc_Roll_init pm_Roll_init an_Roll_init cd_Roll_init ct_Roll_init), sl_Roll_init⟩)
    (c_Roll_init : PySem.W.codeIn K cd_Roll_init "Roll.__init__" = true)
    (k_Roll_init : PySem.W.keepIn K (.ref f_Roll_init) = true)
    (a_begin : PySem.W.findIn K (.ref C_Roll) "begin" = some (some (.ref f_begin)))
    (i_begin : PySem.W.isFn K (.ref f_begin) = true)
    (l_begin : K.lookup f_begin = some ⟨oc_begin, od_begin, .func (PySem.W.fnOf "begin" "Roll.begin" (defArgs s_begin) (defBody s_begin) (defScope s_begin) .none kV_begin dc_begin pm_begin an_begin cd_begin ct_begin), sl_begin⟩)
    (c_begin : PySem.W.codeIn K cd_begin "Roll.begin" = true)
    (k_begin : PySem.W.keepIn K (.ref f_begin) = true)
    (a_is_person : PySem.W.findIn K (.ref C_Roll) "is_person" = some (some (.ref f_is_person)))
    (i_is_person : PySem.W.isFn K (.ref f_is_person) = true)
    (l_is_person : K.lookup f_is_person = some ⟨oc_is_person, od_is_person, .func (PySem.W.fnOf "is_person" "Roll.is_person" (defArgs s_is_person) (defBody s_is_person) (defScope s_is_person) .none kV_is_person dc_is_person pm_is_person an_is_person cd_is_person ct_is_person), sl_is_person⟩)
    (c_is_person : PySem.W.codeIn K cd_is_person "Roll.is_person" = true)
    (k_is_person : PySem.W.keepIn K (.ref f_is_person) = true)
    (a_is_set : PySem.W.findIn K (.ref C_Roll) "is_set" = some (some (.ref f_is_set)))
    (i_is_set : PySem.W.isFn K (.ref f_is_set) = true)
    (l_is_set : K.lookup f_is_set = some ⟨oc_is_set, od_is_set, .func (PySem.W.fnOf "is_set" "Roll.is_set" (defArgs s_is_set) (defBody s_is_set) (defScope s_is_set) .none kV_is_set dc_is_set pm_is_set an_is_set cd_is_set ct_is_set), sl_is_set⟩)
    (c_is_set : PySem.W.codeIn K cd_is_set "Roll.is_set" = true)
    (k_is_set : PySem.W.keepIn K (.ref f_is_set) = true)
    (a_is_in_a_set : PySem.W.findIn K (.ref C_Roll) "is_in_a_set" = some (some (.ref f_is_in_a_set)))
    (i_is_in_a_set : PySem.W.isFn K (.ref f_is_in_a_set) = true)
    (l_is_in_a_set : K.lookup f_is_in_a_set = some ⟨oc_is_in_a_set, od_is_in_a_set, .func (PySem.W.fnOf "is_in_a_set" "Roll.is_in_a_set" (defArgs s_is_in_a_set) (defBody s_is_in_a_set) (defScope s_is_in_a_set) .none kV_is_in_a_set dc_is_in_a_set pm_is_in_a_set an_is_in_a_set cd_is_in_a_set ct_is_in_a_set), sl_is_in_a_set⟩)
    (c_is_in_a_set : PySem.W.codeIn K cd_is_in_a_set "Roll.is_in_a_set" = true)
    (k_is_in_a_set : PySem.W.keepIn K (.ref f_is_in_a_set) = true)
    (a_age_of : PySem.W.findIn K (.ref C_Roll) "age_of" = some (some (.ref f_age_of)))
    (i_age_of : PySem.W.isFn K (.ref f_age_of) = true)
    (l_age_of : K.lookup f_age_of = some ⟨oc_age_of, od_age_of, .func (PySem.W.fnOf "age_of" "Roll.age_of" (defArgs s_age_of) (defBody s_age_of) (defScope s_age_of) .none kV_age_of dc_age_of pm_age_of an_age_of cd_age_of ct_age_of), sl_age_of⟩)
    (c_age_of : PySem.W.codeIn K cd_age_of "Roll.age_of" = true)
    (k_age_of : PySem.W.keepIn K (.ref f_age_of) = true)
    (a_age_at_joining : PySem.W.findIn K (.ref C_Roll) "age_at_joining" = some (some (.ref f_age_at_joining)))
    (i_age_at_joining : PySem.W.isFn K (.ref f_age_at_joining) = true)
    (l_age_at_joining : K.lookup f_age_at_joining = some ⟨oc_age_at_joining, od_age_at_joining, .func (PySem.W.fnOf "age_at_joining" "Roll.age_at_joining" (defArgs s_age_at_joining) (defBody s_age_at_joining) (defScope s_age_at_joining) .none kV_age_at_joining dc_age_at_joining pm_age_at_joining an_age_at_joining cd_age_at_joining ct_age_at_joining), sl_age_at_joining⟩)
    (c_age_at_joining : PySem.W.codeIn K cd_age_at_joining "Roll.age_at_joining" = true)
    (k_age_at_joining : PySem.W.keepIn K (.ref f_age_at_joining) = true)
    (a_is_of_age : PySem.W.findIn K (.ref C_Roll) "is_of_age" = some (some (.ref f_is_of_age)))
    (i_is_of_age : PySem.W.isFn K (.ref f_is_of_age) = true)
    (l_is_of_age : K.lookup f_is_of_age = some ⟨oc_is_of_age, od_is_of_age, .func (PySem.W.fnOf "is_of_age" "Roll.is_of_age" (defArgs s_is_of_age) (defBody s_is_of_age) (defScope s_is_of_age) .none kV_is_of_age dc_is_of_age pm_is_of_age an_is_of_age cd_is_of_age ct_is_of_age), sl_is_of_age⟩)
    (c_is_of_age : PySem.W.codeIn K cd_is_of_age "Roll.is_of_age" = true)
    (k_is_of_age : PySem.W.keepIn K (.ref f_is_of_age) = true)
    (a_may_join : PySem.W.findIn K (.ref C_Roll) "may_join" = some (some (.ref f_may_join)))
    (i_may_join : PySem.W.isFn K (.ref f_may_join) = true)
    (l_may_join : K.lookup f_may_join = some ⟨oc_may_join, od_may_join, .func (PySem.W.fnOf "may_join" "Roll.may_join" (defArgs s_may_join) (defBody s_may_join) (defScope s_may_join) .none kV_may_join dc_may_join pm_may_join an_may_join cd_may_join ct_may_join), sl_may_join⟩)
    (c_may_join : PySem.W.codeIn K cd_may_join "Roll.may_join" = true)
    (k_may_join : PySem.W.keepIn K (.ref f_may_join) = true)
    (a_has_missed : PySem.W.findIn K (.ref C_Roll) "has_missed" = some (some (.ref f_has_missed)))
    (i_has_missed : PySem.W.isFn K (.ref f_has_missed) = true)
    (l_has_missed : K.lookup f_has_missed = some ⟨oc_has_missed, od_has_missed, .func (PySem.W.fnOf "has_missed" "Roll.has_missed" (defArgs s_has_missed) (defBody s_has_missed) (defScope s_has_missed) .none kV_has_missed dc_has_missed pm_has_missed an_has_missed cd_has_missed ct_has_missed), sl_has_missed⟩)
    (c_has_missed : PySem.W.codeIn K cd_has_missed "Roll.has_missed" = true)
    (k_has_missed : PySem.W.keepIn K (.ref f_has_missed) = true)
    (a_name_of : PySem.W.findIn K (.ref C_Roll) "name_of" = some (some (.ref f_name_of)))
    (i_name_of : PySem.W.isFn K (.ref f_name_of) = true)
    (l_name_of : K.lookup f_name_of = some ⟨oc_name_of, od_name_of, .func (PySem.W.fnOf "name_of" "Roll.name_of" (defArgs s_name_of) (defBody s_name_of) (defScope s_name_of) .none kV_name_of dc_name_of pm_name_of an_name_of cd_name_of ct_name_of), sl_name_of⟩)
    (c_name_of : PySem.W.codeIn K cd_name_of "Roll.name_of" = true)
    (k_name_of : PySem.W.keepIn K (.ref f_name_of) = true)
    (a_last_set : PySem.W.findIn K (.ref C_Roll) "last_set" = some (some (.ref f_last_set)))
    (i_last_set : PySem.W.isFn K (.ref f_last_set) = true)
    (l_last_set : K.lookup f_last_set = some ⟨oc_last_set, od_last_set, .func (PySem.W.fnOf "last_set" "Roll.last_set" (defArgs s_last_set) (defBody s_last_set) (defScope s_last_set) .none kV_last_set dc_last_set pm_last_set an_last_set cd_last_set ct_last_set), sl_last_set⟩)
    (c_last_set : PySem.W.codeIn K cd_last_set "Roll.last_set" = true)
    (k_last_set : PySem.W.keepIn K (.ref f_last_set) = true)
    (a_people : PySem.W.findIn K (.ref C_Roll) "people" = some (some (.ref f_people)))
    (i_people : PySem.W.isFn K (.ref f_people) = true)
    (l_people : K.lookup f_people = some ⟨oc_people, od_people, .func (PySem.W.fnOf "people" "Roll.people" (defArgs s_people) (defBody s_people) (defScope s_people) .none kV_people dc_people pm_people an_people cd_people ct_people), sl_people⟩)
    (c_people : PySem.W.codeIn K cd_people "Roll.people" = true)
    (k_people : PySem.W.keepIn K (.ref f_people) = true)
    (a_who_may_join : PySem.W.findIn K (.ref C_Roll) "who_may_join" = some (some (.ref f_who_may_join)))
    (i_who_may_join : PySem.W.isFn K (.ref f_who_may_join) = true)
    (l_who_may_join : K.lookup f_who_may_join = some ⟨oc_who_may_join, od_who_may_join, .func (PySem.W.fnOf "who_may_join" "Roll.who_may_join" (defArgs s_who_may_join) (defBody s_who_may_join) (defScope s_who_may_join) .none kV_who_may_join dc_who_may_join pm_who_may_join an_who_may_join cd_who_may_join ct_who_may_join), sl_who_may_join⟩)
    (c_who_may_join : PySem.W.codeIn K cd_who_may_join "Roll.who_may_join" = true)
    (k_who_may_join : PySem.W.keepIn K (.ref f_who_may_join) = true)
    (a_who_has_missed : PySem.W.findIn K (.ref C_Roll) "who_has_missed" = some (some (.ref f_who_has_missed)))
    (i_who_has_missed : PySem.W.isFn K (.ref f_who_has_missed) = true)
    (l_who_has_missed : K.lookup f_who_has_missed = some ⟨oc_who_has_missed, od_who_has_missed, .func (PySem.W.fnOf "who_has_missed" "Roll.who_has_missed" (defArgs s_who_has_missed) (defBody s_who_has_missed) (defScope s_who_has_missed) .none kV_who_has_missed dc_who_has_missed pm_who_has_missed an_who_has_missed cd_who_has_missed ct_who_has_missed), sl_who_has_missed⟩)
    (c_who_has_missed : PySem.W.codeIn K cd_who_has_missed "Roll.who_has_missed" = true)
    (k_who_has_missed : PySem.W.keepIn K (.ref f_who_has_missed) = true)
    (a_are_in : PySem.W.findIn K (.ref C_Roll) "are_in" = some (some (.ref f_are_in)))
    (i_are_in : PySem.W.isFn K (.ref f_are_in) = true)
    (l_are_in : K.lookup f_are_in = some ⟨oc_are_in, od_are_in, .func (PySem.W.fnOf "are_in" "Roll.are_in" (defArgs s_are_in) (defBody s_are_in) (defScope s_are_in) .none kV_are_in dc_are_in pm_are_in an_are_in cd_are_in ct_are_in), sl_are_in⟩)
    (c_are_in : PySem.W.codeIn K cd_are_in "Roll.are_in" = true)
    (k_are_in : PySem.W.keepIn K (.ref f_are_in) = true)
    (a_birth_years_in : PySem.W.findIn K (.ref C_Roll) "birth_years_in" = some (some (.ref f_birth_years_in)))
    (i_birth_years_in : PySem.W.isFn K (.ref f_birth_years_in) = true)
    (l_birth_years_in : K.lookup f_birth_years_in = some ⟨oc_birth_years_in, od_birth_years_in, .func (PySem.W.fnOf "birth_years_in" "Roll.birth_years_in" (defArgs s_birth_years_in) (defBody s_birth_years_in) (defScope s_birth_years_in) .none kV_birth_years_in dc_birth_years_in pm_birth_years_in an_birth_years_in cd_birth_years_in ct_birth_years_in), sl_birth_years_in⟩)
    (c_birth_years_in : PySem.W.codeIn K cd_birth_years_in "Roll.birth_years_in" = true)
    (k_birth_years_in : PySem.W.keepIn K (.ref f_birth_years_in) = true)
    (a_have_the_name_of : PySem.W.findIn K (.ref C_Roll) "have_the_name_of" = some (some (.ref f_have_the_name_of)))
    (i_have_the_name_of : PySem.W.isFn K (.ref f_have_the_name_of) = true)
    (l_have_the_name_of : K.lookup f_have_the_name_of = some ⟨oc_have_the_name_of, od_have_the_name_of, .func (PySem.W.fnOf "have_the_name_of" "Roll.have_the_name_of" (defArgs s_have_the_name_of) (defBody s_have_the_name_of) (defScope s_have_the_name_of) .none kV_have_the_name_of dc_have_the_name_of pm_have_the_name_of an_have_the_name_of cd_have_the_name_of ct_have_the_name_of), sl_have_the_name_of⟩)
    (c_have_the_name_of : PySem.W.codeIn K cd_have_the_name_of "Roll.have_the_name_of" = true)
    (k_have_the_name_of : PySem.W.keepIn K (.ref f_have_the_name_of) = true)
    (a_is_senior : PySem.W.findIn K (.ref C_Roll) "is_senior" = some (some (.ref f_is_senior)))
    (i_is_senior : PySem.W.isFn K (.ref f_is_senior) = true)
    (l_is_senior : K.lookup f_is_senior = some ⟨oc_is_senior, od_is_senior, .func (PySem.W.fnOf "is_senior" "Roll.is_senior" (defArgs s_is_senior) (defBody s_is_senior) (defScope s_is_senior) .none kV_is_senior dc_is_senior pm_is_senior an_is_senior cd_is_senior ct_is_senior), sl_is_senior⟩)
    (c_is_senior : PySem.W.codeIn K cd_is_senior "Roll.is_senior" = true)
    (k_is_senior : PySem.W.keepIn K (.ref f_is_senior) = true)
    (a_place_of : PySem.W.findIn K (.ref C_Roll) "place_of" = some (some (.ref f_place_of)))
    (i_place_of : PySem.W.isFn K (.ref f_place_of) = true)
    (l_place_of : K.lookup f_place_of = some ⟨oc_place_of, od_place_of, .func (PySem.W.fnOf "place_of" "Roll.place_of" (defArgs s_place_of) (defBody s_place_of) (defScope s_place_of) .none kV_place_of dc_place_of pm_place_of an_place_of cd_place_of ct_place_of), sl_place_of⟩)
    (c_place_of : PySem.W.codeIn K cd_place_of "Roll.place_of" = true)
    (k_place_of : PySem.W.keepIn K (.ref f_place_of) = true)
    (gf_place_of : PySem.W.specialIn K (.ref f_place_of) "__get__" = some (some (.builtin "function.__get__")))
    (tk_place_of : PySem.W.takesIn K (.ref f_place_of) = some false)
    (fi_place_of : PySem.W.fnIn K f_place_of = true)
    (a_ranked : PySem.W.findIn K (.ref C_Roll) "ranked" = some (some (.ref f_ranked)))
    (i_ranked : PySem.W.isFn K (.ref f_ranked) = true)
    (l_ranked : K.lookup f_ranked = some ⟨oc_ranked, od_ranked, .func (PySem.W.fnOf "ranked" "Roll.ranked" (defArgs s_ranked) (defBody s_ranked) (defScope s_ranked) .none kV_ranked dc_ranked pm_ranked an_ranked cd_ranked ct_ranked), sl_ranked⟩)
    (c_ranked : PySem.W.codeIn K cd_ranked "Roll.ranked" = true)
    (k_ranked : PySem.W.keepIn K (.ref f_ranked) = true)
    (a_turned_apart : PySem.W.findIn K (.ref C_Roll) "turned_apart" = some (some (.ref f_turned_apart)))
    (i_turned_apart : PySem.W.isFn K (.ref f_turned_apart) = true)
    (l_turned_apart : K.lookup f_turned_apart = some ⟨oc_turned_apart, od_turned_apart, .func (PySem.W.fnOf "turned_apart" "Roll.turned_apart" (defArgs s_turned_apart) (defBody s_turned_apart) (defScope s_turned_apart) .none kV_turned_apart dc_turned_apart pm_turned_apart an_turned_apart cd_turned_apart ct_turned_apart), sl_turned_apart⟩)
    (c_turned_apart : PySem.W.codeIn K cd_turned_apart "Roll.turned_apart" = true)
    (k_turned_apart : PySem.W.keepIn K (.ref f_turned_apart) = true)
    (a_add_person : PySem.W.findIn K (.ref C_Roll) "add_person" = some (some (.ref f_add_person)))
    (i_add_person : PySem.W.isFn K (.ref f_add_person) = true)
    (l_add_person : K.lookup f_add_person = some ⟨oc_add_person, od_add_person, .func (PySem.W.fnOf "add_person" "Roll.add_person" (defArgs s_add_person) (defBody s_add_person) (defScope s_add_person) .none kV_add_person dc_add_person pm_add_person an_add_person cd_add_person ct_add_person), sl_add_person⟩)
    (c_add_person : PySem.W.codeIn K cd_add_person "Roll.add_person" = true)
    (k_add_person : PySem.W.keepIn K (.ref f_add_person) = true)
    (a_open_next : PySem.W.findIn K (.ref C_Roll) "open_next" = some (some (.ref f_open_next)))
    (i_open_next : PySem.W.isFn K (.ref f_open_next) = true)
    (l_open_next : K.lookup f_open_next = some ⟨oc_open_next, od_open_next, .func (PySem.W.fnOf "open_next" "Roll.open_next" (defArgs s_open_next) (defBody s_open_next) (defScope s_open_next) .none kV_open_next dc_open_next pm_open_next an_open_next cd_open_next ct_open_next), sl_open_next⟩)
    (c_open_next : PySem.W.codeIn K cd_open_next "Roll.open_next" = true)
    (k_open_next : PySem.W.keepIn K (.ref f_open_next) = true)
    (a_put_in_open : PySem.W.findIn K (.ref C_Roll) "put_in_open" = some (some (.ref f_put_in_open)))
    (i_put_in_open : PySem.W.isFn K (.ref f_put_in_open) = true)
    (l_put_in_open : K.lookup f_put_in_open = some ⟨oc_put_in_open, od_put_in_open, .func (PySem.W.fnOf "put_in_open" "Roll.put_in_open" (defArgs s_put_in_open) (defBody s_put_in_open) (defScope s_put_in_open) .none kV_put_in_open dc_put_in_open pm_put_in_open an_put_in_open cd_put_in_open ct_put_in_open), sl_put_in_open⟩)
    (c_put_in_open : PySem.W.codeIn K cd_put_in_open "Roll.put_in_open" = true)
    (k_put_in_open : PySem.W.keepIn K (.ref f_put_in_open) = true)
    (a_standing : PySem.W.findIn K (.ref C_Roll) "standing" = some (some (.ref f_standing)))
    (i_standing : PySem.W.isFn K (.ref f_standing) = true)
    (l_standing : K.lookup f_standing = some ⟨oc_standing, od_standing, .func (PySem.W.fnOf "standing" "Roll.standing" (defArgs s_standing) (defBody s_standing) (defScope s_standing) .none kV_standing dc_standing pm_standing an_standing cd_standing ct_standing), sl_standing⟩)
    (c_standing : PySem.W.codeIn K cd_standing "Roll.standing" = true)
    (k_standing : PySem.W.keepIn K (.ref f_standing) = true)
    (a_stand_as : PySem.W.findIn K (.ref C_Roll) "stand_as" = some (some (.ref f_stand_as)))
    (i_stand_as : PySem.W.isFn K (.ref f_stand_as) = true)
    (l_stand_as : K.lookup f_stand_as = some ⟨oc_stand_as, od_stand_as, .func (PySem.W.fnOf "stand_as" "Roll.stand_as" (defArgs s_stand_as) (defBody s_stand_as) (defScope s_stand_as) .none kV_stand_as dc_stand_as pm_stand_as an_stand_as cd_stand_as ct_stand_as), sl_stand_as⟩)
    (c_stand_as : PySem.W.codeIn K cd_stand_as "Roll.stand_as" = true)
    (k_stand_as : PySem.W.keepIn K (.ref f_stand_as) = true)
    (a_note_change : PySem.W.findIn K (.ref C_Roll) "note_change" = some (some (.ref f_note_change)))
    (i_note_change : PySem.W.isFn K (.ref f_note_change) = true)
    (l_note_change : K.lookup f_note_change = some ⟨oc_note_change, od_note_change, .func (PySem.W.fnOf "note_change" "Roll.note_change" (defArgs s_note_change) (defBody s_note_change) (defScope s_note_change) .none kV_note_change dc_note_change pm_note_change an_note_change cd_note_change ct_note_change), sl_note_change⟩)
    (c_note_change : PySem.W.codeIn K cd_note_change "Roll.note_change" = true)
    (k_note_change : PySem.W.keepIn K (.ref f_note_change) = true)
    (a_take_back : PySem.W.findIn K (.ref C_Roll) "take_back" = some (some (.ref f_take_back)))
    (i_take_back : PySem.W.isFn K (.ref f_take_back) = true)
    (l_take_back : K.lookup f_take_back = some ⟨oc_take_back, od_take_back, .func (PySem.W.fnOf "take_back" "Roll.take_back" (defArgs s_take_back) (defBody s_take_back) (defScope s_take_back) .none kV_take_back dc_take_back pm_take_back an_take_back cd_take_back ct_take_back), sl_take_back⟩)
    (c_take_back : PySem.W.codeIn K cd_take_back "Roll.take_back" = true)
    (k_take_back : PySem.W.keepIn K (.ref f_take_back) = true)
    (a_do_again : PySem.W.findIn K (.ref C_Roll) "do_again" = some (some (.ref f_do_again)))
    (i_do_again : PySem.W.isFn K (.ref f_do_again) = true)
    (l_do_again : K.lookup f_do_again = some ⟨oc_do_again, od_do_again, .func (PySem.W.fnOf "do_again" "Roll.do_again" (defArgs s_do_again) (defBody s_do_again) (defScope s_do_again) .none kV_do_again dc_do_again pm_do_again an_do_again cd_do_again ct_do_again), sl_do_again⟩)
    (c_do_again : PySem.W.codeIn K cd_do_again "Roll.do_again" = true)
    (k_do_again : PySem.W.keepIn K (.ref f_do_again) = true)
    (a_as_a_set : PySem.W.nsIn K mainGlobals "as_a_set" = some (some (.ref f_as_a_set)))
    (l_as_a_set : K.lookup f_as_a_set = some ⟨oc_as_a_set, od_as_a_set, .func (PySem.W.fnOf "as_a_set" "as_a_set" (defArgs s_as_a_set) (defBody s_as_a_set) (defScope s_as_a_set) .none kV_as_a_set dc_as_a_set pm_as_a_set an_as_a_set cd_as_a_set ct_as_a_set), sl_as_a_set⟩)
    (c_as_a_set : PySem.W.codeIn K cd_as_a_set "as_a_set" = true)
    (k_as_a_set : PySem.W.keepIn K (.ref f_as_a_set) = true)
    (a_os_start : PySem.W.nsIn K mainGlobals "os_start" = some (some (.ref f_os_start)))
    (l_os_start : K.lookup f_os_start = some ⟨oc_os_start, od_os_start, .func (PySem.W.fnOf "os_start" "os_start" (defArgs s_os_start) (defBody s_os_start) (defScope s_os_start) .none kV_os_start dc_os_start pm_os_start an_os_start cd_os_start ct_os_start), sl_os_start⟩)
    (c_os_start : PySem.W.codeIn K cd_os_start "os_start" = true)
    (k_os_start : PySem.W.keepIn K (.ref f_os_start) = true)
    (a_os_pass : PySem.W.nsIn K mainGlobals "os_pass" = some (some (.ref f_os_pass)))
    (l_os_pass : K.lookup f_os_pass = some ⟨oc_os_pass, od_os_pass, .func (PySem.W.fnOf "os_pass" "os_pass" (defArgs s_os_pass) (defBody s_os_pass) (defScope s_os_pass) .none kV_os_pass dc_os_pass pm_os_pass an_os_pass cd_os_pass ct_os_pass), sl_os_pass⟩)
    (c_os_pass : PySem.W.codeIn K cd_os_pass "os_pass" = true)
    (k_os_pass : PySem.W.keepIn K (.ref f_os_pass) = true)
    (a_os_born : PySem.W.nsIn K mainGlobals "os_born" = some (some (.ref f_os_born)))
    (l_os_born : K.lookup f_os_born = some ⟨oc_os_born, od_os_born, .func (PySem.W.fnOf "os_born" "os_born" (defArgs s_os_born) (defBody s_os_born) (defScope s_os_born) .none kV_os_born dc_os_born pm_os_born an_os_born cd_os_born ct_os_born), sl_os_born⟩)
    (c_os_born : PySem.W.codeIn K cd_os_born "os_born" = true)
    (k_os_born : PySem.W.keepIn K (.ref f_os_born) = true)
    (a_os_open : PySem.W.nsIn K mainGlobals "os_open" = some (some (.ref f_os_open)))
    (l_os_open : K.lookup f_os_open = some ⟨oc_os_open, od_os_open, .func (PySem.W.fnOf "os_open" "os_open" (defArgs s_os_open) (defBody s_os_open) (defScope s_os_open) .none kV_os_open dc_os_open pm_os_open an_os_open cd_os_open ct_os_open), sl_os_open⟩)
    (c_os_open : PySem.W.codeIn K cd_os_open "os_open" = true)
    (k_os_open : PySem.W.keepIn K (.ref f_os_open) = true)
    (a_os_shut : PySem.W.nsIn K mainGlobals "os_shut" = some (some (.ref f_os_shut)))
    (l_os_shut : K.lookup f_os_shut = some ⟨oc_os_shut, od_os_shut, .func (PySem.W.fnOf "os_shut" "os_shut" (defArgs s_os_shut) (defBody s_os_shut) (defScope s_os_shut) .none kV_os_shut dc_os_shut pm_os_shut an_os_shut cd_os_shut ct_os_shut), sl_os_shut⟩)
    (c_os_shut : PySem.W.codeIn K cd_os_shut "os_shut" = true)
    (k_os_shut : PySem.W.keepIn K (.ref f_os_shut) = true)
    (a_os_join : PySem.W.nsIn K mainGlobals "os_join" = some (some (.ref f_os_join)))
    (l_os_join : K.lookup f_os_join = some ⟨oc_os_join, od_os_join, .func (PySem.W.fnOf "os_join" "os_join" (defArgs s_os_join) (defBody s_os_join) (defScope s_os_join) .none kV_os_join dc_os_join pm_os_join an_os_join cd_os_join ct_os_join), sl_os_join⟩)
    (c_os_join : PySem.W.codeIn K cd_os_join "os_join" = true)
    (k_os_join : PySem.W.keepIn K (.ref f_os_join) = true)
    (a_os_join_all : PySem.W.nsIn K mainGlobals "os_join_all" = some (some (.ref f_os_join_all)))
    (l_os_join_all : K.lookup f_os_join_all = some ⟨oc_os_join_all, od_os_join_all, .func (PySem.W.fnOf "os_join_all" "os_join_all" (defArgs s_os_join_all) (defBody s_os_join_all) (defScope s_os_join_all) .none kV_os_join_all dc_os_join_all pm_os_join_all an_os_join_all cd_os_join_all ct_os_join_all), sl_os_join_all⟩)
    (c_os_join_all : PySem.W.codeIn K cd_os_join_all "os_join_all" = true)
    (k_os_join_all : PySem.W.keepIn K (.ref f_os_join_all) = true)
    (a_os_age : PySem.W.nsIn K mainGlobals "os_age" = some (some (.ref f_os_age)))
    (l_os_age : K.lookup f_os_age = some ⟨oc_os_age, od_os_age, .func (PySem.W.fnOf "os_age" "os_age" (defArgs s_os_age) (defBody s_os_age) (defScope s_os_age) .none kV_os_age dc_os_age pm_os_age an_os_age cd_os_age ct_os_age), sl_os_age⟩)
    (c_os_age : PySem.W.codeIn K cd_os_age "os_age" = true)
    (k_os_age : PySem.W.keepIn K (.ref f_os_age) = true)
    (a_os_whose : PySem.W.nsIn K mainGlobals "os_whose" = some (some (.ref f_os_whose)))
    (l_os_whose : K.lookup f_os_whose = some ⟨oc_os_whose, od_os_whose, .func (PySem.W.fnOf "os_whose" "os_whose" (defArgs s_os_whose) (defBody s_os_whose) (defScope s_os_whose) .none kV_os_whose dc_os_whose pm_os_whose an_os_whose cd_os_whose ct_os_whose), sl_os_whose⟩)
    (c_os_whose : PySem.W.codeIn K cd_os_whose "os_whose" = true)
    (k_os_whose : PySem.W.keepIn K (.ref f_os_whose) = true)
    (a_os_members : PySem.W.nsIn K mainGlobals "os_members" = some (some (.ref f_os_members)))
    (l_os_members : K.lookup f_os_members = some ⟨oc_os_members, od_os_members, .func (PySem.W.fnOf "os_members" "os_members" (defArgs s_os_members) (defBody s_os_members) (defScope s_os_members) .none kV_os_members dc_os_members pm_os_members an_os_members cd_os_members ct_os_members), sl_os_members⟩)
    (c_os_members : PySem.W.codeIn K cd_os_members "os_members" = true)
    (k_os_members : PySem.W.keepIn K (.ref f_os_members) = true)
    (a_os_name : PySem.W.nsIn K mainGlobals "os_name" = some (some (.ref f_os_name)))
    (l_os_name : K.lookup f_os_name = some ⟨oc_os_name, od_os_name, .func (PySem.W.fnOf "os_name" "os_name" (defArgs s_os_name) (defBody s_os_name) (defScope s_os_name) .none kV_os_name dc_os_name pm_os_name an_os_name cd_os_name ct_os_name), sl_os_name⟩)
    (c_os_name : PySem.W.codeIn K cd_os_name "os_name" = true)
    (k_os_name : PySem.W.keepIn K (.ref f_os_name) = true)
    (a_os_alike : PySem.W.nsIn K mainGlobals "os_alike" = some (some (.ref f_os_alike)))
    (l_os_alike : K.lookup f_os_alike = some ⟨oc_os_alike, od_os_alike, .func (PySem.W.fnOf "os_alike" "os_alike" (defArgs s_os_alike) (defBody s_os_alike) (defScope s_os_alike) .none kV_os_alike dc_os_alike pm_os_alike an_os_alike cd_os_alike ct_os_alike), sl_os_alike⟩)
    (c_os_alike : PySem.W.codeIn K cd_os_alike "os_alike" = true)
    (k_os_alike : PySem.W.keepIn K (.ref f_os_alike) = true)
    (a_os_may : PySem.W.nsIn K mainGlobals "os_may" = some (some (.ref f_os_may)))
    (l_os_may : K.lookup f_os_may = some ⟨oc_os_may, od_os_may, .func (PySem.W.fnOf "os_may" "os_may" (defArgs s_os_may) (defBody s_os_may) (defScope s_os_may) .none kV_os_may dc_os_may pm_os_may an_os_may cd_os_may ct_os_may), sl_os_may⟩)
    (c_os_may : PySem.W.codeIn K cd_os_may "os_may" = true)
    (k_os_may : PySem.W.keepIn K (.ref f_os_may) = true)
    (a_os_missed : PySem.W.nsIn K mainGlobals "os_missed" = some (some (.ref f_os_missed)))
    (l_os_missed : K.lookup f_os_missed = some ⟨oc_os_missed, od_os_missed, .func (PySem.W.fnOf "os_missed" "os_missed" (defArgs s_os_missed) (defBody s_os_missed) (defScope s_os_missed) .none kV_os_missed dc_os_missed pm_os_missed an_os_missed cd_os_missed ct_os_missed), sl_os_missed⟩)
    (c_os_missed : PySem.W.codeIn K cd_os_missed "os_missed" = true)
    (k_os_missed : PySem.W.keepIn K (.ref f_os_missed) = true)
    (a_os_senior : PySem.W.nsIn K mainGlobals "os_senior" = some (some (.ref f_os_senior)))
    (l_os_senior : K.lookup f_os_senior = some ⟨oc_os_senior, od_os_senior, .func (PySem.W.fnOf "os_senior" "os_senior" (defArgs s_os_senior) (defBody s_os_senior) (defScope s_os_senior) .none kV_os_senior dc_os_senior pm_os_senior an_os_senior cd_os_senior ct_os_senior), sl_os_senior⟩)
    (c_os_senior : PySem.W.codeIn K cd_os_senior "os_senior" = true)
    (k_os_senior : PySem.W.keepIn K (.ref f_os_senior) = true)
    (a_os_turned : PySem.W.nsIn K mainGlobals "os_turned" = some (some (.ref f_os_turned)))
    (l_os_turned : K.lookup f_os_turned = some ⟨oc_os_turned, od_os_turned, .func (PySem.W.fnOf "os_turned" "os_turned" (defArgs s_os_turned) (defBody s_os_turned) (defScope s_os_turned) .none kV_os_turned dc_os_turned pm_os_turned an_os_turned cd_os_turned ct_os_turned), sl_os_turned⟩)
    (c_os_turned : PySem.W.codeIn K cd_os_turned "os_turned" = true)
    (k_os_turned : PySem.W.keepIn K (.ref f_os_turned) = true)
    (a_os_rank : PySem.W.nsIn K mainGlobals "os_rank" = some (some (.ref f_os_rank)))
    (l_os_rank : K.lookup f_os_rank = some ⟨oc_os_rank, od_os_rank, .func (PySem.W.fnOf "os_rank" "os_rank" (defArgs s_os_rank) (defBody s_os_rank) (defScope s_os_rank) .none kV_os_rank dc_os_rank pm_os_rank an_os_rank cd_os_rank ct_os_rank), sl_os_rank⟩)
    (c_os_rank : PySem.W.codeIn K cd_os_rank "os_rank" = true)
    (k_os_rank : PySem.W.keepIn K (.ref f_os_rank) = true)
    (a_os_span : PySem.W.nsIn K mainGlobals "os_span" = some (some (.ref f_os_span)))
    (l_os_span : K.lookup f_os_span = some ⟨oc_os_span, od_os_span, .func (PySem.W.fnOf "os_span" "os_span" (defArgs s_os_span) (defBody s_os_span) (defScope s_os_span) .none kV_os_span dc_os_span pm_os_span an_os_span cd_os_span ct_os_span), sl_os_span⟩)
    (c_os_span : PySem.W.codeIn K cd_os_span "os_span" = true)
    (k_os_span : PySem.W.keepIn K (.ref f_os_span) = true)
    (a_os_when : PySem.W.nsIn K mainGlobals "os_when" = some (some (.ref f_os_when)))
    (l_os_when : K.lookup f_os_when = some ⟨oc_os_when, od_os_when, .func (PySem.W.fnOf "os_when" "os_when" (defArgs s_os_when) (defBody s_os_when) (defScope s_os_when) .none kV_os_when dc_os_when pm_os_when an_os_when cd_os_when ct_os_when), sl_os_when⟩)
    (c_os_when : PySem.W.codeIn K cd_os_when "os_when" = true)
    (k_os_when : PySem.W.keepIn K (.ref f_os_when) = true)
    (a_os_back : PySem.W.nsIn K mainGlobals "os_back" = some (some (.ref f_os_back)))
    (l_os_back : K.lookup f_os_back = some ⟨oc_os_back, od_os_back, .func (PySem.W.fnOf "os_back" "os_back" (defArgs s_os_back) (defBody s_os_back) (defScope s_os_back) .none kV_os_back dc_os_back pm_os_back an_os_back cd_os_back ct_os_back), sl_os_back⟩)
    (c_os_back : PySem.W.codeIn K cd_os_back "os_back" = true)
    (k_os_back : PySem.W.keepIn K (.ref f_os_back) = true)
    (a_os_again : PySem.W.nsIn K mainGlobals "os_again" = some (some (.ref f_os_again)))
    (l_os_again : K.lookup f_os_again = some ⟨oc_os_again, od_os_again, .func (PySem.W.fnOf "os_again" "os_again" (defArgs s_os_again) (defBody s_os_again) (defScope s_os_again) .none kV_os_again dc_os_again pm_os_again an_os_again cd_os_again ct_os_again), sl_os_again⟩)
    (c_os_again : PySem.W.codeIn K cd_os_again "os_again" = true)
    (k_os_again : PySem.W.keepIn K (.ref f_os_again) = true)
    (a_os_state : PySem.W.nsIn K mainGlobals "os_state" = some (some (.ref f_os_state)))
    (l_os_state : K.lookup f_os_state = some ⟨oc_os_state, od_os_state, .func (PySem.W.fnOf "os_state" "os_state" (defArgs s_os_state) (defBody s_os_state) (defScope s_os_state) .none kV_os_state dc_os_state pm_os_state an_os_state cd_os_state ct_os_state), sl_os_state⟩)
    (c_os_state : PySem.W.codeIn K cd_os_state "os_state" = true)
    (k_os_state : PySem.W.keepIn K (.ref f_os_state) = true)
    (a_answer_to : PySem.W.nsIn K mainGlobals "answer_to" = some (some (.ref f_answer_to)))
    (l_answer_to : K.lookup f_answer_to = some ⟨oc_answer_to, od_answer_to, .func (PySem.W.fnOf "answer_to" "answer_to" (defArgs s_answer_to) (defBody s_answer_to) (defScope s_answer_to) .none kV_answer_to dc_answer_to pm_answer_to an_answer_to cd_answer_to ct_answer_to), sl_answer_to⟩)
    (c_answer_to : PySem.W.codeIn K cd_answer_to "answer_to" = true)
    (k_answer_to : PySem.W.keepIn K (.ref f_answer_to) = true)
    (a_answers : PySem.W.nsIn K mainGlobals "answers" = some (some (.ref f_answers)))
    (l_answers : K.lookup f_answers = some ⟨oc_answers, od_answers, .func (PySem.W.fnOf "answers" "answers" (defArgs s_answers) (defBody s_answers) (defScope s_answers) .none kV_answers dc_answers pm_answers an_answers cd_answers ct_answers), sl_answers⟩)
    (c_answers : PySem.W.codeIn K cd_answers "answers" = true)
    (k_answers : PySem.W.keepIn K (.ref f_answers) = true)
    (lu_CALLS : K.lookup a_CALLS = some ⟨.type "tuple", uo_CALLS, .seq #[.ref u_CALLS_0, .ref u_CALLS_1, .ref u_CALLS_2, .ref u_CALLS_3, .ref u_CALLS_4, .ref u_CALLS_5, .ref u_CALLS_6, .ref u_CALLS_7, .ref u_CALLS_8, .ref u_CALLS_9, .ref u_CALLS_10, .ref u_CALLS_11, .ref u_CALLS_12, .ref u_CALLS_13, .ref u_CALLS_14, .ref u_CALLS_15, .ref u_CALLS_16, .ref u_CALLS_17, .ref u_CALLS_18, .ref u_CALLS_19, .ref u_CALLS_20, .ref u_CALLS_21] un_CALLS, us_CALLS⟩)
    (lu_CALLS_0 : K.lookup u_CALLS_0 = some ⟨.type "tuple", uo_CALLS_0, .seq #[.ref f_os_start, .int 3 ut_CALLS_0_1, .bool false] un_CALLS_0, us_CALLS_0⟩)
    (lu_CALLS_1 : K.lookup u_CALLS_1 = some ⟨.type "tuple", uo_CALLS_1, .seq #[.ref f_os_pass, .int 1 ut_CALLS_1_1, .bool true] un_CALLS_1, us_CALLS_1⟩)
    (lu_CALLS_2 : K.lookup u_CALLS_2 = some ⟨.type "tuple", uo_CALLS_2, .seq #[.ref f_os_born, .int 0 ut_CALLS_2_1, .bool true] un_CALLS_2, us_CALLS_2⟩)
    (lu_CALLS_3 : K.lookup u_CALLS_3 = some ⟨.type "tuple", uo_CALLS_3, .seq #[.ref f_os_open, .int 0 ut_CALLS_3_1, .bool true] un_CALLS_3, us_CALLS_3⟩)
    (lu_CALLS_4 : K.lookup u_CALLS_4 = some ⟨.type "tuple", uo_CALLS_4, .seq #[.ref f_os_shut, .int 0 ut_CALLS_4_1, .bool true] un_CALLS_4, us_CALLS_4⟩)
    (lu_CALLS_5 : K.lookup u_CALLS_5 = some ⟨.type "tuple", uo_CALLS_5, .seq #[.ref f_os_join, .int 1 ut_CALLS_5_1, .bool true] un_CALLS_5, us_CALLS_5⟩)
    (lu_CALLS_6 : K.lookup u_CALLS_6 = some ⟨.type "tuple", uo_CALLS_6, .seq #[.ref f_os_join_all, .int 0 ut_CALLS_6_1, .bool true] un_CALLS_6, us_CALLS_6⟩)
    (lu_CALLS_7 : K.lookup u_CALLS_7 = some ⟨.type "tuple", uo_CALLS_7, .seq #[.ref f_os_age, .int 1 ut_CALLS_7_1, .bool false] un_CALLS_7, us_CALLS_7⟩)
    (lu_CALLS_8 : K.lookup u_CALLS_8 = some ⟨.type "tuple", uo_CALLS_8, .seq #[.ref f_os_whose, .int 1 ut_CALLS_8_1, .bool false] un_CALLS_8, us_CALLS_8⟩)
    (lu_CALLS_9 : K.lookup u_CALLS_9 = some ⟨.type "tuple", uo_CALLS_9, .seq #[.ref f_os_members, .int 1 ut_CALLS_9_1, .bool false] un_CALLS_9, us_CALLS_9⟩)
    (lu_CALLS_10 : K.lookup u_CALLS_10 = some ⟨.type "tuple", uo_CALLS_10, .seq #[.ref f_os_name, .int 1 ut_CALLS_10_1, .bool false] un_CALLS_10, us_CALLS_10⟩)
    (lu_CALLS_11 : K.lookup u_CALLS_11 = some ⟨.type "tuple", uo_CALLS_11, .seq #[.ref f_os_alike, .int 1 ut_CALLS_11_1, .bool false] un_CALLS_11, us_CALLS_11⟩)
    (lu_CALLS_12 : K.lookup u_CALLS_12 = some ⟨.type "tuple", uo_CALLS_12, .seq #[.ref f_os_may, .int 0 ut_CALLS_12_1, .bool false] un_CALLS_12, us_CALLS_12⟩)
    (lu_CALLS_13 : K.lookup u_CALLS_13 = some ⟨.type "tuple", uo_CALLS_13, .seq #[.ref f_os_missed, .int 0 ut_CALLS_13_1, .bool false] un_CALLS_13, us_CALLS_13⟩)
    (lu_CALLS_14 : K.lookup u_CALLS_14 = some ⟨.type "tuple", uo_CALLS_14, .seq #[.ref f_os_senior, .int 2 ut_CALLS_14_1, .bool false] un_CALLS_14, us_CALLS_14⟩)
    (lu_CALLS_15 : K.lookup u_CALLS_15 = some ⟨.type "tuple", uo_CALLS_15, .seq #[.ref f_os_turned, .int 0 ut_CALLS_15_1, .bool false] un_CALLS_15, us_CALLS_15⟩)
    (lu_CALLS_16 : K.lookup u_CALLS_16 = some ⟨.type "tuple", uo_CALLS_16, .seq #[.ref f_os_rank, .int 0 ut_CALLS_16_1, .bool false] un_CALLS_16, us_CALLS_16⟩)
    (lu_CALLS_17 : K.lookup u_CALLS_17 = some ⟨.type "tuple", uo_CALLS_17, .seq #[.ref f_os_span, .int 1 ut_CALLS_17_1, .bool false] un_CALLS_17, us_CALLS_17⟩)
    (lu_CALLS_18 : K.lookup u_CALLS_18 = some ⟨.type "tuple", uo_CALLS_18, .seq #[.ref f_os_when, .int 1 ut_CALLS_18_1, .bool false] un_CALLS_18, us_CALLS_18⟩)
    (lu_CALLS_19 : K.lookup u_CALLS_19 = some ⟨.type "tuple", uo_CALLS_19, .seq #[.ref f_os_back, .int 0 ut_CALLS_19_1, .bool false] un_CALLS_19, us_CALLS_19⟩)
    (lu_CALLS_20 : K.lookup u_CALLS_20 = some ⟨.type "tuple", uo_CALLS_20, .seq #[.ref f_os_again, .int 0 ut_CALLS_20_1, .bool false] un_CALLS_20, us_CALLS_20⟩)
    (lu_CALLS_21 : K.lookup u_CALLS_21 = some ⟨.type "tuple", uo_CALLS_21, .seq #[.ref f_os_state, .int 0 ut_CALLS_21_1, .bool false] un_CALLS_21, us_CALLS_21⟩)
    : Txt K mg ⟨C_Roll, t_NO_SET, t_MOST_TAKEN_BACK, t_NOT_THERE, t_NOTHING_DUE, t_NONE_OPEN, t_ALREADY, t_NOT_AS_ASKED, t_FULL, t_IN_NO_SET, t_NOBODY_IN_IT, t_NEITHER_IS_SENIOR, t_FIRST_IS_SENIOR, t_SECOND_IS_SENIOR, t_FEWEST_NAMES, t_MOST_NAMES, t_HIGHEST_AGE, t_LAST_YEAR, t_MOST_PEOPLE, t_MOST_SETS, a_CALLS, u_CALLS_0, u_CALLS_1, u_CALLS_2, u_CALLS_3, u_CALLS_4, u_CALLS_5, u_CALLS_6, u_CALLS_7, u_CALLS_8, u_CALLS_9, u_CALLS_10, u_CALLS_11, u_CALLS_12, u_CALLS_13, u_CALLS_14, u_CALLS_15, u_CALLS_16, u_CALLS_17, u_CALLS_18, u_CALLS_19, u_CALLS_20, u_CALLS_21, f_Roll_init, PySem.W.fnOf "__init__" "Roll.__init__" (defArgs s_Roll_init) (defBody s_Roll_init) (defScope s_Roll_init) .none kV_Roll_init dc_Roll_init pm_Roll_init an_Roll_init cd_Roll_init ct_Roll_init, f_begin, PySem.W.fnOf "begin" "Roll.begin" (defArgs s_begin) (defBody s_begin) (defScope s_begin) .none kV_begin dc_begin pm_begin an_begin cd_begin ct_begin, f_is_person, PySem.W.fnOf "is_person" "Roll.is_person" (defArgs s_is_person) (defBody s_is_person) (defScope s_is_person) .none kV_is_person dc_is_person pm_is_person an_is_person cd_is_person ct_is_person, f_is_set, PySem.W.fnOf "is_set" "Roll.is_set" (defArgs s_is_set) (defBody s_is_set) (defScope s_is_set) .none kV_is_set dc_is_set pm_is_set an_is_set cd_is_set ct_is_set, f_is_in_a_set, PySem.W.fnOf "is_in_a_set" "Roll.is_in_a_set" (defArgs s_is_in_a_set) (defBody s_is_in_a_set) (defScope s_is_in_a_set) .none kV_is_in_a_set dc_is_in_a_set pm_is_in_a_set an_is_in_a_set cd_is_in_a_set ct_is_in_a_set, f_age_of, PySem.W.fnOf "age_of" "Roll.age_of" (defArgs s_age_of) (defBody s_age_of) (defScope s_age_of) .none kV_age_of dc_age_of pm_age_of an_age_of cd_age_of ct_age_of, f_age_at_joining, PySem.W.fnOf "age_at_joining" "Roll.age_at_joining" (defArgs s_age_at_joining) (defBody s_age_at_joining) (defScope s_age_at_joining) .none kV_age_at_joining dc_age_at_joining pm_age_at_joining an_age_at_joining cd_age_at_joining ct_age_at_joining, f_is_of_age, PySem.W.fnOf "is_of_age" "Roll.is_of_age" (defArgs s_is_of_age) (defBody s_is_of_age) (defScope s_is_of_age) .none kV_is_of_age dc_is_of_age pm_is_of_age an_is_of_age cd_is_of_age ct_is_of_age, f_may_join, PySem.W.fnOf "may_join" "Roll.may_join" (defArgs s_may_join) (defBody s_may_join) (defScope s_may_join) .none kV_may_join dc_may_join pm_may_join an_may_join cd_may_join ct_may_join, f_has_missed, PySem.W.fnOf "has_missed" "Roll.has_missed" (defArgs s_has_missed) (defBody s_has_missed) (defScope s_has_missed) .none kV_has_missed dc_has_missed pm_has_missed an_has_missed cd_has_missed ct_has_missed, f_name_of, PySem.W.fnOf "name_of" "Roll.name_of" (defArgs s_name_of) (defBody s_name_of) (defScope s_name_of) .none kV_name_of dc_name_of pm_name_of an_name_of cd_name_of ct_name_of, f_last_set, PySem.W.fnOf "last_set" "Roll.last_set" (defArgs s_last_set) (defBody s_last_set) (defScope s_last_set) .none kV_last_set dc_last_set pm_last_set an_last_set cd_last_set ct_last_set, f_people, PySem.W.fnOf "people" "Roll.people" (defArgs s_people) (defBody s_people) (defScope s_people) .none kV_people dc_people pm_people an_people cd_people ct_people, f_who_may_join, PySem.W.fnOf "who_may_join" "Roll.who_may_join" (defArgs s_who_may_join) (defBody s_who_may_join) (defScope s_who_may_join) .none kV_who_may_join dc_who_may_join pm_who_may_join an_who_may_join cd_who_may_join ct_who_may_join, f_who_has_missed, PySem.W.fnOf "who_has_missed" "Roll.who_has_missed" (defArgs s_who_has_missed) (defBody s_who_has_missed) (defScope s_who_has_missed) .none kV_who_has_missed dc_who_has_missed pm_who_has_missed an_who_has_missed cd_who_has_missed ct_who_has_missed, f_are_in, PySem.W.fnOf "are_in" "Roll.are_in" (defArgs s_are_in) (defBody s_are_in) (defScope s_are_in) .none kV_are_in dc_are_in pm_are_in an_are_in cd_are_in ct_are_in, f_birth_years_in, PySem.W.fnOf "birth_years_in" "Roll.birth_years_in" (defArgs s_birth_years_in) (defBody s_birth_years_in) (defScope s_birth_years_in) .none kV_birth_years_in dc_birth_years_in pm_birth_years_in an_birth_years_in cd_birth_years_in ct_birth_years_in, f_have_the_name_of, PySem.W.fnOf "have_the_name_of" "Roll.have_the_name_of" (defArgs s_have_the_name_of) (defBody s_have_the_name_of) (defScope s_have_the_name_of) .none kV_have_the_name_of dc_have_the_name_of pm_have_the_name_of an_have_the_name_of cd_have_the_name_of ct_have_the_name_of, f_is_senior, PySem.W.fnOf "is_senior" "Roll.is_senior" (defArgs s_is_senior) (defBody s_is_senior) (defScope s_is_senior) .none kV_is_senior dc_is_senior pm_is_senior an_is_senior cd_is_senior ct_is_senior, f_place_of, PySem.W.fnOf "place_of" "Roll.place_of" (defArgs s_place_of) (defBody s_place_of) (defScope s_place_of) .none kV_place_of dc_place_of pm_place_of an_place_of cd_place_of ct_place_of, f_ranked, PySem.W.fnOf "ranked" "Roll.ranked" (defArgs s_ranked) (defBody s_ranked) (defScope s_ranked) .none kV_ranked dc_ranked pm_ranked an_ranked cd_ranked ct_ranked, f_turned_apart, PySem.W.fnOf "turned_apart" "Roll.turned_apart" (defArgs s_turned_apart) (defBody s_turned_apart) (defScope s_turned_apart) .none kV_turned_apart dc_turned_apart pm_turned_apart an_turned_apart cd_turned_apart ct_turned_apart, f_add_person, PySem.W.fnOf "add_person" "Roll.add_person" (defArgs s_add_person) (defBody s_add_person) (defScope s_add_person) .none kV_add_person dc_add_person pm_add_person an_add_person cd_add_person ct_add_person, f_open_next, PySem.W.fnOf "open_next" "Roll.open_next" (defArgs s_open_next) (defBody s_open_next) (defScope s_open_next) .none kV_open_next dc_open_next pm_open_next an_open_next cd_open_next ct_open_next, f_put_in_open, PySem.W.fnOf "put_in_open" "Roll.put_in_open" (defArgs s_put_in_open) (defBody s_put_in_open) (defScope s_put_in_open) .none kV_put_in_open dc_put_in_open pm_put_in_open an_put_in_open cd_put_in_open ct_put_in_open, f_standing, PySem.W.fnOf "standing" "Roll.standing" (defArgs s_standing) (defBody s_standing) (defScope s_standing) .none kV_standing dc_standing pm_standing an_standing cd_standing ct_standing, f_stand_as, PySem.W.fnOf "stand_as" "Roll.stand_as" (defArgs s_stand_as) (defBody s_stand_as) (defScope s_stand_as) .none kV_stand_as dc_stand_as pm_stand_as an_stand_as cd_stand_as ct_stand_as, f_note_change, PySem.W.fnOf "note_change" "Roll.note_change" (defArgs s_note_change) (defBody s_note_change) (defScope s_note_change) .none kV_note_change dc_note_change pm_note_change an_note_change cd_note_change ct_note_change, f_take_back, PySem.W.fnOf "take_back" "Roll.take_back" (defArgs s_take_back) (defBody s_take_back) (defScope s_take_back) .none kV_take_back dc_take_back pm_take_back an_take_back cd_take_back ct_take_back, f_do_again, PySem.W.fnOf "do_again" "Roll.do_again" (defArgs s_do_again) (defBody s_do_again) (defScope s_do_again) .none kV_do_again dc_do_again pm_do_again an_do_again cd_do_again ct_do_again, f_as_a_set, PySem.W.fnOf "as_a_set" "as_a_set" (defArgs s_as_a_set) (defBody s_as_a_set) (defScope s_as_a_set) .none kV_as_a_set dc_as_a_set pm_as_a_set an_as_a_set cd_as_a_set ct_as_a_set, f_os_start, PySem.W.fnOf "os_start" "os_start" (defArgs s_os_start) (defBody s_os_start) (defScope s_os_start) .none kV_os_start dc_os_start pm_os_start an_os_start cd_os_start ct_os_start, f_os_pass, PySem.W.fnOf "os_pass" "os_pass" (defArgs s_os_pass) (defBody s_os_pass) (defScope s_os_pass) .none kV_os_pass dc_os_pass pm_os_pass an_os_pass cd_os_pass ct_os_pass, f_os_born, PySem.W.fnOf "os_born" "os_born" (defArgs s_os_born) (defBody s_os_born) (defScope s_os_born) .none kV_os_born dc_os_born pm_os_born an_os_born cd_os_born ct_os_born, f_os_open, PySem.W.fnOf "os_open" "os_open" (defArgs s_os_open) (defBody s_os_open) (defScope s_os_open) .none kV_os_open dc_os_open pm_os_open an_os_open cd_os_open ct_os_open, f_os_shut, PySem.W.fnOf "os_shut" "os_shut" (defArgs s_os_shut) (defBody s_os_shut) (defScope s_os_shut) .none kV_os_shut dc_os_shut pm_os_shut an_os_shut cd_os_shut ct_os_shut, f_os_join, PySem.W.fnOf "os_join" "os_join" (defArgs s_os_join) (defBody s_os_join) (defScope s_os_join) .none kV_os_join dc_os_join pm_os_join an_os_join cd_os_join ct_os_join, f_os_join_all, PySem.W.fnOf "os_join_all" "os_join_all" (defArgs s_os_join_all) (defBody s_os_join_all) (defScope s_os_join_all) .none kV_os_join_all dc_os_join_all pm_os_join_all an_os_join_all cd_os_join_all ct_os_join_all, f_os_age, PySem.W.fnOf "os_age" "os_age" (defArgs s_os_age) (defBody s_os_age) (defScope s_os_age) .none kV_os_age dc_os_age pm_os_age an_os_age cd_os_age ct_os_age, f_os_whose, PySem.W.fnOf "os_whose" "os_whose" (defArgs s_os_whose) (defBody s_os_whose) (defScope s_os_whose) .none kV_os_whose dc_os_whose pm_os_whose an_os_whose cd_os_whose ct_os_whose, f_os_members, PySem.W.fnOf "os_members" "os_members" (defArgs s_os_members) (defBody s_os_members) (defScope s_os_members) .none kV_os_members dc_os_members pm_os_members an_os_members cd_os_members ct_os_members, f_os_name, PySem.W.fnOf "os_name" "os_name" (defArgs s_os_name) (defBody s_os_name) (defScope s_os_name) .none kV_os_name dc_os_name pm_os_name an_os_name cd_os_name ct_os_name, f_os_alike, PySem.W.fnOf "os_alike" "os_alike" (defArgs s_os_alike) (defBody s_os_alike) (defScope s_os_alike) .none kV_os_alike dc_os_alike pm_os_alike an_os_alike cd_os_alike ct_os_alike, f_os_may, PySem.W.fnOf "os_may" "os_may" (defArgs s_os_may) (defBody s_os_may) (defScope s_os_may) .none kV_os_may dc_os_may pm_os_may an_os_may cd_os_may ct_os_may, f_os_missed, PySem.W.fnOf "os_missed" "os_missed" (defArgs s_os_missed) (defBody s_os_missed) (defScope s_os_missed) .none kV_os_missed dc_os_missed pm_os_missed an_os_missed cd_os_missed ct_os_missed, f_os_senior, PySem.W.fnOf "os_senior" "os_senior" (defArgs s_os_senior) (defBody s_os_senior) (defScope s_os_senior) .none kV_os_senior dc_os_senior pm_os_senior an_os_senior cd_os_senior ct_os_senior, f_os_turned, PySem.W.fnOf "os_turned" "os_turned" (defArgs s_os_turned) (defBody s_os_turned) (defScope s_os_turned) .none kV_os_turned dc_os_turned pm_os_turned an_os_turned cd_os_turned ct_os_turned, f_os_rank, PySem.W.fnOf "os_rank" "os_rank" (defArgs s_os_rank) (defBody s_os_rank) (defScope s_os_rank) .none kV_os_rank dc_os_rank pm_os_rank an_os_rank cd_os_rank ct_os_rank, f_os_span, PySem.W.fnOf "os_span" "os_span" (defArgs s_os_span) (defBody s_os_span) (defScope s_os_span) .none kV_os_span dc_os_span pm_os_span an_os_span cd_os_span ct_os_span, f_os_when, PySem.W.fnOf "os_when" "os_when" (defArgs s_os_when) (defBody s_os_when) (defScope s_os_when) .none kV_os_when dc_os_when pm_os_when an_os_when cd_os_when ct_os_when, f_os_back, PySem.W.fnOf "os_back" "os_back" (defArgs s_os_back) (defBody s_os_back) (defScope s_os_back) .none kV_os_back dc_os_back pm_os_back an_os_back cd_os_back ct_os_back, f_os_again, PySem.W.fnOf "os_again" "os_again" (defArgs s_os_again) (defBody s_os_again) (defScope s_os_again) .none kV_os_again dc_os_again pm_os_again an_os_again cd_os_again ct_os_again, f_os_state, PySem.W.fnOf "os_state" "os_state" (defArgs s_os_state) (defBody s_os_state) (defScope s_os_state) .none kV_os_state dc_os_state pm_os_state an_os_state cd_os_state ct_os_state, f_answer_to, PySem.W.fnOf "answer_to" "answer_to" (defArgs s_answer_to) (defBody s_answer_to) (defScope s_answer_to) .none kV_answer_to dc_answer_to pm_answer_to an_answer_to cd_answer_to ct_answer_to, f_answers, PySem.W.fnOf "answers" "answers" (defArgs s_answers) (defBody s_answers) (defScope s_answers) .none kV_answers dc_answers pm_answers an_answers cd_answers ct_answers⟩ :=
  ⟨⟨pg_Roll, hd_Roll, po_Roll, sa_Roll⟩,
   PySem.W.mg_of X G aC_Roll,
   ⟨mk_Roll, a_Roll_init, i_Roll_init, kc_Roll⟩,
   na_names,
   na_youngest,
   na_oldest,
   na_year,
   na_birth_years,
   na_set_of,
   na_join_years,
   na_set_count,
   na_one_is_open,
   na_stood_ahead,
   na_stood_behind,
   PySem.W.mg_of X G gg_NO_SET,
   PySem.W.mg_of X G gg_MOST_TAKEN_BACK,
   PySem.W.mg_of X G gg_NOT_THERE,
   PySem.W.mg_of X G gg_NOTHING_DUE,
   PySem.W.mg_of X G gg_NONE_OPEN,
   PySem.W.mg_of X G gg_ALREADY,
   PySem.W.mg_of X G gg_NOT_AS_ASKED,
   PySem.W.mg_of X G gg_FULL,
   PySem.W.mg_of X G gg_IN_NO_SET,
   PySem.W.mg_of X G gg_NOBODY_IN_IT,
   PySem.W.mg_of X G gg_NEITHER_IS_SENIOR,
   PySem.W.mg_of X G gg_FIRST_IS_SENIOR,
   PySem.W.mg_of X G gg_SECOND_IS_SENIOR,
   PySem.W.mg_of X G gg_FEWEST_NAMES,
   PySem.W.mg_of X G gg_MOST_NAMES,
   PySem.W.mg_of X G gg_HIGHEST_AGE,
   PySem.W.mg_of X G gg_LAST_YEAR,
   PySem.W.mg_of X G gg_MOST_PEOPLE,
   PySem.W.mg_of X G gg_MOST_SETS,
   PySem.W.mg_of X G gg_CALLS,
   PySem.W.mg_none_of X G nn_len,
   PySem.W.mg_none_of X G nn_list,
   PySem.W.mg_none_of X G nn_range,
   PySem.W.mg_none_of X G nn_sorted,
   PySem.W.mg_none_of X G nn_dict,
   PySem.W.mg_none_of X G nn_enumerate,
   PySem.W.mg_none_of X G nn_any,
   PySem.W.mg_none_of X G nn_max,
   PySem.W.mg_none_of X G nn_min,
   sqT_of lu_CALLS (by show 22 ≤ sizeLine; decide) (.cons rfl (.cons rfl (.cons rfl (.cons rfl (.cons rfl (.cons rfl (.cons rfl (.cons rfl (.cons rfl (.cons rfl (.cons rfl (.cons rfl (.cons rfl (.cons rfl (.cons rfl (.cons rfl (.cons rfl (.cons rfl (.cons rfl (.cons rfl (.cons rfl (.cons rfl .nil)))))))))))))))))))))),
   sqT_of lu_CALLS_0 (by show 3 ≤ sizeLine; decide) (.cons rfl (.cons ⟨_, rfl⟩ (.cons rfl .nil))),
   sqT_of lu_CALLS_1 (by show 3 ≤ sizeLine; decide) (.cons rfl (.cons ⟨_, rfl⟩ (.cons rfl .nil))),
   sqT_of lu_CALLS_2 (by show 3 ≤ sizeLine; decide) (.cons rfl (.cons ⟨_, rfl⟩ (.cons rfl .nil))),
   sqT_of lu_CALLS_3 (by show 3 ≤ sizeLine; decide) (.cons rfl (.cons ⟨_, rfl⟩ (.cons rfl .nil))),
   sqT_of lu_CALLS_4 (by show 3 ≤ sizeLine; decide) (.cons rfl (.cons ⟨_, rfl⟩ (.cons rfl .nil))),
   sqT_of lu_CALLS_5 (by show 3 ≤ sizeLine; decide) (.cons rfl (.cons ⟨_, rfl⟩ (.cons rfl .nil))),
   sqT_of lu_CALLS_6 (by show 3 ≤ sizeLine; decide) (.cons rfl (.cons ⟨_, rfl⟩ (.cons rfl .nil))),
   sqT_of lu_CALLS_7 (by show 3 ≤ sizeLine; decide) (.cons rfl (.cons ⟨_, rfl⟩ (.cons rfl .nil))),
   sqT_of lu_CALLS_8 (by show 3 ≤ sizeLine; decide) (.cons rfl (.cons ⟨_, rfl⟩ (.cons rfl .nil))),
   sqT_of lu_CALLS_9 (by show 3 ≤ sizeLine; decide) (.cons rfl (.cons ⟨_, rfl⟩ (.cons rfl .nil))),
   sqT_of lu_CALLS_10 (by show 3 ≤ sizeLine; decide) (.cons rfl (.cons ⟨_, rfl⟩ (.cons rfl .nil))),
   sqT_of lu_CALLS_11 (by show 3 ≤ sizeLine; decide) (.cons rfl (.cons ⟨_, rfl⟩ (.cons rfl .nil))),
   sqT_of lu_CALLS_12 (by show 3 ≤ sizeLine; decide) (.cons rfl (.cons ⟨_, rfl⟩ (.cons rfl .nil))),
   sqT_of lu_CALLS_13 (by show 3 ≤ sizeLine; decide) (.cons rfl (.cons ⟨_, rfl⟩ (.cons rfl .nil))),
   sqT_of lu_CALLS_14 (by show 3 ≤ sizeLine; decide) (.cons rfl (.cons ⟨_, rfl⟩ (.cons rfl .nil))),
   sqT_of lu_CALLS_15 (by show 3 ≤ sizeLine; decide) (.cons rfl (.cons ⟨_, rfl⟩ (.cons rfl .nil))),
   sqT_of lu_CALLS_16 (by show 3 ≤ sizeLine; decide) (.cons rfl (.cons ⟨_, rfl⟩ (.cons rfl .nil))),
   sqT_of lu_CALLS_17 (by show 3 ≤ sizeLine; decide) (.cons rfl (.cons ⟨_, rfl⟩ (.cons rfl .nil))),
   sqT_of lu_CALLS_18 (by show 3 ≤ sizeLine; decide) (.cons rfl (.cons ⟨_, rfl⟩ (.cons rfl .nil))),
   sqT_of lu_CALLS_19 (by show 3 ≤ sizeLine; decide) (.cons rfl (.cons ⟨_, rfl⟩ (.cons rfl .nil))),
   sqT_of lu_CALLS_20 (by show 3 ≤ sizeLine; decide) (.cons rfl (.cons ⟨_, rfl⟩ (.cons rfl .nil))),
   sqT_of lu_CALLS_21 (by show 3 ≤ sizeLine; decide) (.cons rfl (.cons ⟨_, rfl⟩ (.cons rfl .nil))),
   fun_mk (st := s_Roll_init) l_Roll_init c_Roll_init k_Roll_init,
   (fun_mk (st := s_Roll_init) l_Roll_init c_Roll_init k_Roll_init).binds (ps := ["self"]) fun _ _ _ _ _ _ us hl => match us, hl with | [_], _ => rfl,
   fun_mk (st := s_begin) l_begin c_begin k_begin,
   (fun_mk (st := s_begin) l_begin c_begin k_begin).binds (ps := ["self", "names", "youngest", "oldest"]) fun _ _ _ _ _ _ us hl => match us, hl with | [_, _, _, _], _ => rfl,
   ⟨a_begin, i_begin, k_begin⟩,
   fun_mk (st := s_is_person) l_is_person c_is_person k_is_person,
   (fun_mk (st := s_is_person) l_is_person c_is_person k_is_person).binds (ps := ["self", "person"]) fun _ _ _ _ _ _ us hl => match us, hl with | [_, _], _ => rfl,
   ⟨a_is_person, i_is_person, k_is_person⟩,
   fun_mk (st := s_is_set) l_is_set c_is_set k_is_set,
   (fun_mk (st := s_is_set) l_is_set c_is_set k_is_set).binds (ps := ["self", "number"]) fun _ _ _ _ _ _ us hl => match us, hl with | [_, _], _ => rfl,
   ⟨a_is_set, i_is_set, k_is_set⟩,
   fun_mk (st := s_is_in_a_set) l_is_in_a_set c_is_in_a_set k_is_in_a_set,
   (fun_mk (st := s_is_in_a_set) l_is_in_a_set c_is_in_a_set k_is_in_a_set).binds (ps := ["self", "person"]) fun _ _ _ _ _ _ us hl => match us, hl with | [_, _], _ => rfl,
   ⟨a_is_in_a_set, i_is_in_a_set, k_is_in_a_set⟩,
   fun_mk (st := s_age_of) l_age_of c_age_of k_age_of,
   (fun_mk (st := s_age_of) l_age_of c_age_of k_age_of).binds (ps := ["self", "person"]) fun _ _ _ _ _ _ us hl => match us, hl with | [_, _], _ => rfl,
   ⟨a_age_of, i_age_of, k_age_of⟩,
   fun_mk (st := s_age_at_joining) l_age_at_joining c_age_at_joining k_age_at_joining,
   (fun_mk (st := s_age_at_joining) l_age_at_joining c_age_at_joining k_age_at_joining).binds (ps := ["self", "person"]) fun _ _ _ _ _ _ us hl => match us, hl with | [_, _], _ => rfl,
   ⟨a_age_at_joining, i_age_at_joining, k_age_at_joining⟩,
   fun_mk (st := s_is_of_age) l_is_of_age c_is_of_age k_is_of_age,
   (fun_mk (st := s_is_of_age) l_is_of_age c_is_of_age k_is_of_age).binds (ps := ["self", "person"]) fun _ _ _ _ _ _ us hl => match us, hl with | [_, _], _ => rfl,
   ⟨a_is_of_age, i_is_of_age, k_is_of_age⟩,
   fun_mk (st := s_may_join) l_may_join c_may_join k_may_join,
   (fun_mk (st := s_may_join) l_may_join c_may_join k_may_join).binds (ps := ["self", "person"]) fun _ _ _ _ _ _ us hl => match us, hl with | [_, _], _ => rfl,
   ⟨a_may_join, i_may_join, k_may_join⟩,
   fun_mk (st := s_has_missed) l_has_missed c_has_missed k_has_missed,
   (fun_mk (st := s_has_missed) l_has_missed c_has_missed k_has_missed).binds (ps := ["self", "person"]) fun _ _ _ _ _ _ us hl => match us, hl with | [_, _], _ => rfl,
   ⟨a_has_missed, i_has_missed, k_has_missed⟩,
   fun_mk (st := s_name_of) l_name_of c_name_of k_name_of,
   (fun_mk (st := s_name_of) l_name_of c_name_of k_name_of).binds (ps := ["self", "number"]) fun _ _ _ _ _ _ us hl => match us, hl with | [_, _], _ => rfl,
   ⟨a_name_of, i_name_of, k_name_of⟩,
   fun_mk (st := s_last_set) l_last_set c_last_set k_last_set,
   (fun_mk (st := s_last_set) l_last_set c_last_set k_last_set).binds (ps := ["self"]) fun _ _ _ _ _ _ us hl => match us, hl with | [_], _ => rfl,
   ⟨a_last_set, i_last_set, k_last_set⟩,
   fun_mk (st := s_people) l_people c_people k_people,
   (fun_mk (st := s_people) l_people c_people k_people).binds (ps := ["self"]) fun _ _ _ _ _ _ us hl => match us, hl with | [_], _ => rfl,
   ⟨a_people, i_people, k_people⟩,
   fun_mk (st := s_who_may_join) l_who_may_join c_who_may_join k_who_may_join,
   (fun_mk (st := s_who_may_join) l_who_may_join c_who_may_join k_who_may_join).binds (ps := ["self"]) fun _ _ _ _ _ _ us hl => match us, hl with | [_], _ => rfl,
   ⟨a_who_may_join, i_who_may_join, k_who_may_join⟩,
   fun_mk (st := s_who_has_missed) l_who_has_missed c_who_has_missed k_who_has_missed,
   (fun_mk (st := s_who_has_missed) l_who_has_missed c_who_has_missed k_who_has_missed).binds (ps := ["self"]) fun _ _ _ _ _ _ us hl => match us, hl with | [_], _ => rfl,
   ⟨a_who_has_missed, i_who_has_missed, k_who_has_missed⟩,
   fun_mk (st := s_are_in) l_are_in c_are_in k_are_in,
   (fun_mk (st := s_are_in) l_are_in c_are_in k_are_in).binds (ps := ["self", "number"]) fun _ _ _ _ _ _ us hl => match us, hl with | [_, _], _ => rfl,
   ⟨a_are_in, i_are_in, k_are_in⟩,
   fun_mk (st := s_birth_years_in) l_birth_years_in c_birth_years_in k_birth_years_in,
   (fun_mk (st := s_birth_years_in) l_birth_years_in c_birth_years_in k_birth_years_in).binds (ps := ["self", "number"]) fun _ _ _ _ _ _ us hl => match us, hl with | [_, _], _ => rfl,
   ⟨a_birth_years_in, i_birth_years_in, k_birth_years_in⟩,
   fun_mk (st := s_have_the_name_of) l_have_the_name_of c_have_the_name_of k_have_the_name_of,
   (fun_mk (st := s_have_the_name_of) l_have_the_name_of c_have_the_name_of k_have_the_name_of).binds (ps := ["self", "number"]) fun _ _ _ _ _ _ us hl => match us, hl with | [_, _], _ => rfl,
   ⟨a_have_the_name_of, i_have_the_name_of, k_have_the_name_of⟩,
   fun_mk (st := s_is_senior) l_is_senior c_is_senior k_is_senior,
   (fun_mk (st := s_is_senior) l_is_senior c_is_senior k_is_senior).binds (ps := ["self", "person", "other"]) fun _ _ _ _ _ _ us hl => match us, hl with | [_, _, _], _ => rfl,
   ⟨a_is_senior, i_is_senior, k_is_senior⟩,
   fun_mk (st := s_place_of) l_place_of c_place_of k_place_of,
   (fun_mk (st := s_place_of) l_place_of c_place_of k_place_of).binds (ps := ["self", "person"]) fun _ _ _ _ _ _ us hl => match us, hl with | [_, _], _ => rfl,
   ⟨a_place_of, i_place_of, k_place_of⟩,
   ⟨⟨a_place_of, i_place_of, k_place_of⟩, gf_place_of, tk_place_of, by decide +kernel, fi_place_of⟩,
   fun_mk (st := s_ranked) l_ranked c_ranked k_ranked,
   (fun_mk (st := s_ranked) l_ranked c_ranked k_ranked).binds (ps := ["self"]) fun _ _ _ _ _ _ us hl => match us, hl with | [_], _ => rfl,
   ⟨a_ranked, i_ranked, k_ranked⟩,
   fun_mk (st := s_turned_apart) l_turned_apart c_turned_apart k_turned_apart,
   (fun_mk (st := s_turned_apart) l_turned_apart c_turned_apart k_turned_apart).binds (ps := ["self"]) fun _ _ _ _ _ _ us hl => match us, hl with | [_], _ => rfl,
   ⟨a_turned_apart, i_turned_apart, k_turned_apart⟩,
   fun_mk (st := s_add_person) l_add_person c_add_person k_add_person,
   (fun_mk (st := s_add_person) l_add_person c_add_person k_add_person).binds (ps := ["self"]) fun _ _ _ _ _ _ us hl => match us, hl with | [_], _ => rfl,
   ⟨a_add_person, i_add_person, k_add_person⟩,
   fun_mk (st := s_open_next) l_open_next c_open_next k_open_next,
   (fun_mk (st := s_open_next) l_open_next c_open_next k_open_next).binds (ps := ["self"]) fun _ _ _ _ _ _ us hl => match us, hl with | [_], _ => rfl,
   ⟨a_open_next, i_open_next, k_open_next⟩,
   fun_mk (st := s_put_in_open) l_put_in_open c_put_in_open k_put_in_open,
   (fun_mk (st := s_put_in_open) l_put_in_open c_put_in_open k_put_in_open).binds (ps := ["self", "person"]) fun _ _ _ _ _ _ us hl => match us, hl with | [_, _], _ => rfl,
   ⟨a_put_in_open, i_put_in_open, k_put_in_open⟩,
   fun_mk (st := s_standing) l_standing c_standing k_standing,
   (fun_mk (st := s_standing) l_standing c_standing k_standing).binds (ps := ["self"]) fun _ _ _ _ _ _ us hl => match us, hl with | [_], _ => rfl,
   ⟨a_standing, i_standing, k_standing⟩,
   fun_mk (st := s_stand_as) l_stand_as c_stand_as k_stand_as,
   (fun_mk (st := s_stand_as) l_stand_as c_stand_as k_stand_as).binds (ps := ["self", "stood"]) fun _ _ _ _ _ _ us hl => match us, hl with | [_, _], _ => rfl,
   ⟨a_stand_as, i_stand_as, k_stand_as⟩,
   fun_mk (st := s_note_change) l_note_change c_note_change k_note_change,
   (fun_mk (st := s_note_change) l_note_change c_note_change k_note_change).binds (ps := ["self", "stood"]) fun _ _ _ _ _ _ us hl => match us, hl with | [_, _], _ => rfl,
   ⟨a_note_change, i_note_change, k_note_change⟩,
   fun_mk (st := s_take_back) l_take_back c_take_back k_take_back,
   (fun_mk (st := s_take_back) l_take_back c_take_back k_take_back).binds (ps := ["self"]) fun _ _ _ _ _ _ us hl => match us, hl with | [_], _ => rfl,
   ⟨a_take_back, i_take_back, k_take_back⟩,
   fun_mk (st := s_do_again) l_do_again c_do_again k_do_again,
   (fun_mk (st := s_do_again) l_do_again c_do_again k_do_again).binds (ps := ["self"]) fun _ _ _ _ _ _ us hl => match us, hl with | [_], _ => rfl,
   ⟨a_do_again, i_do_again, k_do_again⟩,
   fun_mk (st := s_as_a_set) l_as_a_set c_as_a_set k_as_a_set,
   (fun_mk (st := s_as_a_set) l_as_a_set c_as_a_set k_as_a_set).binds (ps := ["chosen"]) fun _ _ _ _ _ _ us hl => match us, hl with | [_], _ => rfl,
   PySem.W.mg_of X G a_as_a_set,
   fun_mk (st := s_os_start) l_os_start c_os_start k_os_start,
   (fun_mk (st := s_os_start) l_os_start c_os_start k_os_start).binds (ps := ["roll", "numbers"]) fun _ _ _ _ _ _ us hl => match us, hl with | [_, _], _ => rfl,
   PySem.W.mg_of X G a_os_start,
   fun_mk (st := s_os_pass) l_os_pass c_os_pass k_os_pass,
   (fun_mk (st := s_os_pass) l_os_pass c_os_pass k_os_pass).binds (ps := ["roll", "numbers"]) fun _ _ _ _ _ _ us hl => match us, hl with | [_, _], _ => rfl,
   PySem.W.mg_of X G a_os_pass,
   fun_mk (st := s_os_born) l_os_born c_os_born k_os_born,
   (fun_mk (st := s_os_born) l_os_born c_os_born k_os_born).binds (ps := ["roll", "numbers"]) fun _ _ _ _ _ _ us hl => match us, hl with | [_, _], _ => rfl,
   PySem.W.mg_of X G a_os_born,
   fun_mk (st := s_os_open) l_os_open c_os_open k_os_open,
   (fun_mk (st := s_os_open) l_os_open c_os_open k_os_open).binds (ps := ["roll", "numbers"]) fun _ _ _ _ _ _ us hl => match us, hl with | [_, _], _ => rfl,
   PySem.W.mg_of X G a_os_open,
   fun_mk (st := s_os_shut) l_os_shut c_os_shut k_os_shut,
   (fun_mk (st := s_os_shut) l_os_shut c_os_shut k_os_shut).binds (ps := ["roll", "numbers"]) fun _ _ _ _ _ _ us hl => match us, hl with | [_, _], _ => rfl,
   PySem.W.mg_of X G a_os_shut,
   fun_mk (st := s_os_join) l_os_join c_os_join k_os_join,
   (fun_mk (st := s_os_join) l_os_join c_os_join k_os_join).binds (ps := ["roll", "numbers"]) fun _ _ _ _ _ _ us hl => match us, hl with | [_, _], _ => rfl,
   PySem.W.mg_of X G a_os_join,
   fun_mk (st := s_os_join_all) l_os_join_all c_os_join_all k_os_join_all,
   (fun_mk (st := s_os_join_all) l_os_join_all c_os_join_all k_os_join_all).binds (ps := ["roll", "numbers"]) fun _ _ _ _ _ _ us hl => match us, hl with | [_, _], _ => rfl,
   PySem.W.mg_of X G a_os_join_all,
   fun_mk (st := s_os_age) l_os_age c_os_age k_os_age,
   (fun_mk (st := s_os_age) l_os_age c_os_age k_os_age).binds (ps := ["roll", "numbers"]) fun _ _ _ _ _ _ us hl => match us, hl with | [_, _], _ => rfl,
   PySem.W.mg_of X G a_os_age,
   fun_mk (st := s_os_whose) l_os_whose c_os_whose k_os_whose,
   (fun_mk (st := s_os_whose) l_os_whose c_os_whose k_os_whose).binds (ps := ["roll", "numbers"]) fun _ _ _ _ _ _ us hl => match us, hl with | [_, _], _ => rfl,
   PySem.W.mg_of X G a_os_whose,
   fun_mk (st := s_os_members) l_os_members c_os_members k_os_members,
   (fun_mk (st := s_os_members) l_os_members c_os_members k_os_members).binds (ps := ["roll", "numbers"]) fun _ _ _ _ _ _ us hl => match us, hl with | [_, _], _ => rfl,
   PySem.W.mg_of X G a_os_members,
   fun_mk (st := s_os_name) l_os_name c_os_name k_os_name,
   (fun_mk (st := s_os_name) l_os_name c_os_name k_os_name).binds (ps := ["roll", "numbers"]) fun _ _ _ _ _ _ us hl => match us, hl with | [_, _], _ => rfl,
   PySem.W.mg_of X G a_os_name,
   fun_mk (st := s_os_alike) l_os_alike c_os_alike k_os_alike,
   (fun_mk (st := s_os_alike) l_os_alike c_os_alike k_os_alike).binds (ps := ["roll", "numbers"]) fun _ _ _ _ _ _ us hl => match us, hl with | [_, _], _ => rfl,
   PySem.W.mg_of X G a_os_alike,
   fun_mk (st := s_os_may) l_os_may c_os_may k_os_may,
   (fun_mk (st := s_os_may) l_os_may c_os_may k_os_may).binds (ps := ["roll", "numbers"]) fun _ _ _ _ _ _ us hl => match us, hl with | [_, _], _ => rfl,
   PySem.W.mg_of X G a_os_may,
   fun_mk (st := s_os_missed) l_os_missed c_os_missed k_os_missed,
   (fun_mk (st := s_os_missed) l_os_missed c_os_missed k_os_missed).binds (ps := ["roll", "numbers"]) fun _ _ _ _ _ _ us hl => match us, hl with | [_, _], _ => rfl,
   PySem.W.mg_of X G a_os_missed,
   fun_mk (st := s_os_senior) l_os_senior c_os_senior k_os_senior,
   (fun_mk (st := s_os_senior) l_os_senior c_os_senior k_os_senior).binds (ps := ["roll", "numbers"]) fun _ _ _ _ _ _ us hl => match us, hl with | [_, _], _ => rfl,
   PySem.W.mg_of X G a_os_senior,
   fun_mk (st := s_os_turned) l_os_turned c_os_turned k_os_turned,
   (fun_mk (st := s_os_turned) l_os_turned c_os_turned k_os_turned).binds (ps := ["roll", "numbers"]) fun _ _ _ _ _ _ us hl => match us, hl with | [_, _], _ => rfl,
   PySem.W.mg_of X G a_os_turned,
   fun_mk (st := s_os_rank) l_os_rank c_os_rank k_os_rank,
   (fun_mk (st := s_os_rank) l_os_rank c_os_rank k_os_rank).binds (ps := ["roll", "numbers"]) fun _ _ _ _ _ _ us hl => match us, hl with | [_, _], _ => rfl,
   PySem.W.mg_of X G a_os_rank,
   fun_mk (st := s_os_span) l_os_span c_os_span k_os_span,
   (fun_mk (st := s_os_span) l_os_span c_os_span k_os_span).binds (ps := ["roll", "numbers"]) fun _ _ _ _ _ _ us hl => match us, hl with | [_, _], _ => rfl,
   PySem.W.mg_of X G a_os_span,
   fun_mk (st := s_os_when) l_os_when c_os_when k_os_when,
   (fun_mk (st := s_os_when) l_os_when c_os_when k_os_when).binds (ps := ["roll", "numbers"]) fun _ _ _ _ _ _ us hl => match us, hl with | [_, _], _ => rfl,
   PySem.W.mg_of X G a_os_when,
   fun_mk (st := s_os_back) l_os_back c_os_back k_os_back,
   (fun_mk (st := s_os_back) l_os_back c_os_back k_os_back).binds (ps := ["roll", "numbers"]) fun _ _ _ _ _ _ us hl => match us, hl with | [_, _], _ => rfl,
   PySem.W.mg_of X G a_os_back,
   fun_mk (st := s_os_again) l_os_again c_os_again k_os_again,
   (fun_mk (st := s_os_again) l_os_again c_os_again k_os_again).binds (ps := ["roll", "numbers"]) fun _ _ _ _ _ _ us hl => match us, hl with | [_, _], _ => rfl,
   PySem.W.mg_of X G a_os_again,
   fun_mk (st := s_os_state) l_os_state c_os_state k_os_state,
   (fun_mk (st := s_os_state) l_os_state c_os_state k_os_state).binds (ps := ["roll", "numbers"]) fun _ _ _ _ _ _ us hl => match us, hl with | [_, _], _ => rfl,
   PySem.W.mg_of X G a_os_state,
   fun_mk (st := s_answer_to) l_answer_to c_answer_to k_answer_to,
   (fun_mk (st := s_answer_to) l_answer_to c_answer_to k_answer_to).binds (ps := ["roll", "call", "numbers"]) fun _ _ _ _ _ _ us hl => match us, hl with | [_, _, _], _ => rfl,
   PySem.W.mg_of X G a_answer_to,
   fun_mk (st := s_answers) l_answers c_answers k_answers,
   (fun_mk (st := s_answers) l_answers c_answers k_answers).binds (ps := ["calls"]) fun _ _ _ _ _ _ us hl => match us, hl with | [_], _ => rfl,
   PySem.W.mg_of X G a_answers⟩
end Ag

open PySem PySem.W PyProof.Rows
set_option maxRecDepth 100000 in
set_option maxHeartbeats 8000000 in
theorem PySem.Challenge.cw_agesets_s01_answers_holds : PySem.Challenge.rw_agesets_s01_answers.Holds := by
  w_on; k_headS; (case hw => exact ⟨[.list [.int 0, .int 2, .int 0, .int 0]], by decide +kernel, by decide +kernel⟩)
  k_fillS
  refine L2.walk_specK (r := PySem.Challenge.rw_agesets_s01_answers) (k := 8) (CX := L2.CX0) (ps := ["calls"]) (sp := Ag.spAns) (by decide +kernel) rfl rfl ⟨rfl, by decide, by decide⟩ (fun w h Y => PySem.W.kIn_of Y) ?F ?S (fun _ _ _ _ z => z)
  case F =>
    intro w mg fa h Y KX G hmg
    refine' Ag.fin_mk KX G hmg (Ag.txt_mk KX G ?aC_Roll ?pg_Roll ?hd_Roll ?po_Roll ?sa_Roll ?mk_Roll ?kc_Roll ?na_names ?na_youngest ?na_oldest ?na_year ?na_birth_years ?na_set_of ?na_join_years ?na_set_count ?na_one_is_open ?na_stood_ahead ?na_stood_behind ?gg_NO_SET ?gg_MOST_TAKEN_BACK ?gg_NOT_THERE ?gg_NOTHING_DUE ?gg_NONE_OPEN ?gg_ALREADY ?gg_NOT_AS_ASKED ?gg_FULL ?gg_IN_NO_SET ?gg_NOBODY_IN_IT ?gg_NEITHER_IS_SENIOR ?gg_FIRST_IS_SENIOR ?gg_SECOND_IS_SENIOR ?gg_FEWEST_NAMES ?gg_MOST_NAMES ?gg_HIGHEST_AGE ?gg_LAST_YEAR ?gg_MOST_PEOPLE ?gg_MOST_SETS ?gg_CALLS ?nn_len ?nn_list ?nn_range ?nn_sorted ?nn_dict ?nn_enumerate ?nn_any ?nn_max ?nn_min ?a_Roll_init ?i_Roll_init ?l_Roll_init ?c_Roll_init ?k_Roll_init ?a_begin ?i_begin ?l_begin ?c_begin ?k_begin ?a_is_person ?i_is_person ?l_is_person ?c_is_person ?k_is_person ?a_is_set ?i_is_set ?l_is_set ?c_is_set ?k_is_set ?a_is_in_a_set ?i_is_in_a_set ?l_is_in_a_set ?c_is_in_a_set ?k_is_in_a_set ?a_age_of ?i_age_of ?l_age_of ?c_age_of ?k_age_of ?a_age_at_joining ?i_age_at_joining ?l_age_at_joining ?c_age_at_joining ?k_age_at_joining ?a_is_of_age ?i_is_of_age ?l_is_of_age ?c_is_of_age ?k_is_of_age ?a_may_join ?i_may_join ?l_may_join ?c_may_join ?k_may_join ?a_has_missed ?i_has_missed ?l_has_missed ?c_has_missed ?k_has_missed ?a_name_of ?i_name_of ?l_name_of ?c_name_of ?k_name_of ?a_last_set ?i_last_set ?l_last_set ?c_last_set ?k_last_set ?a_people ?i_people ?l_people ?c_people ?k_people ?a_who_may_join ?i_who_may_join ?l_who_may_join ?c_who_may_join ?k_who_may_join ?a_who_has_missed ?i_who_has_missed ?l_who_has_missed ?c_who_has_missed ?k_who_has_missed ?a_are_in ?i_are_in ?l_are_in ?c_are_in ?k_are_in ?a_birth_years_in ?i_birth_years_in ?l_birth_years_in ?c_birth_years_in ?k_birth_years_in ?a_have_the_name_of ?i_have_the_name_of ?l_have_the_name_of ?c_have_the_name_of ?k_have_the_name_of ?a_is_senior ?i_is_senior ?l_is_senior ?c_is_senior ?k_is_senior ?a_place_of ?i_place_of ?l_place_of ?c_place_of ?k_place_of ?gf_place_of ?tk_place_of ?fi_place_of ?a_ranked ?i_ranked ?l_ranked ?c_ranked ?k_ranked ?a_turned_apart ?i_turned_apart ?l_turned_apart ?c_turned_apart ?k_turned_apart ?a_add_person ?i_add_person ?l_add_person ?c_add_person ?k_add_person ?a_open_next ?i_open_next ?l_open_next ?c_open_next ?k_open_next ?a_put_in_open ?i_put_in_open ?l_put_in_open ?c_put_in_open ?k_put_in_open ?a_standing ?i_standing ?l_standing ?c_standing ?k_standing ?a_stand_as ?i_stand_as ?l_stand_as ?c_stand_as ?k_stand_as ?a_note_change ?i_note_change ?l_note_change ?c_note_change ?k_note_change ?a_take_back ?i_take_back ?l_take_back ?c_take_back ?k_take_back ?a_do_again ?i_do_again ?l_do_again ?c_do_again ?k_do_again ?a_as_a_set ?l_as_a_set ?c_as_a_set ?k_as_a_set ?a_os_start ?l_os_start ?c_os_start ?k_os_start ?a_os_pass ?l_os_pass ?c_os_pass ?k_os_pass ?a_os_born ?l_os_born ?c_os_born ?k_os_born ?a_os_open ?l_os_open ?c_os_open ?k_os_open ?a_os_shut ?l_os_shut ?c_os_shut ?k_os_shut ?a_os_join ?l_os_join ?c_os_join ?k_os_join ?a_os_join_all ?l_os_join_all ?c_os_join_all ?k_os_join_all ?a_os_age ?l_os_age ?c_os_age ?k_os_age ?a_os_whose ?l_os_whose ?c_os_whose ?k_os_whose ?a_os_members ?l_os_members ?c_os_members ?k_os_members ?a_os_name ?l_os_name ?c_os_name ?k_os_name ?a_os_alike ?l_os_alike ?c_os_alike ?k_os_alike ?a_os_may ?l_os_may ?c_os_may ?k_os_may ?a_os_missed ?l_os_missed ?c_os_missed ?k_os_missed ?a_os_senior ?l_os_senior ?c_os_senior ?k_os_senior ?a_os_turned ?l_os_turned ?c_os_turned ?k_os_turned ?a_os_rank ?l_os_rank ?c_os_rank ?k_os_rank ?a_os_span ?l_os_span ?c_os_span ?k_os_span ?a_os_when ?l_os_when ?c_os_when ?k_os_when ?a_os_back ?l_os_back ?c_os_back ?k_os_back ?a_os_again ?l_os_again ?c_os_again ?k_os_again ?a_os_state ?l_os_state ?c_os_state ?k_os_state ?a_answer_to ?l_answer_to ?c_answer_to ?k_answer_to ?a_answers ?l_answers ?c_answers ?k_answers ?lu_CALLS ?lu_CALLS_0 ?lu_CALLS_1 ?lu_CALLS_2 ?lu_CALLS_3 ?lu_CALLS_4 ?lu_CALLS_5 ?lu_CALLS_6 ?lu_CALLS_7 ?lu_CALLS_8 ?lu_CALLS_9 ?lu_CALLS_10 ?lu_CALLS_11 ?lu_CALLS_12 ?lu_CALLS_13 ?lu_CALLS_14 ?lu_CALLS_15 ?lu_CALLS_16 ?lu_CALLS_17 ?lu_CALLS_18 ?lu_CALLS_19 ?lu_CALLS_20 ?lu_CALLS_21) ?hb
    (case aC_Roll => k_is)
    (case pg_Roll => k_is)
    (case hd_Roll => k_is)
    (case po_Roll => k_is)
    (case sa_Roll => k_is)
    (case mk_Roll => k_is)
    (case kc_Roll => k_is)
    (case na_names => k_is)
    (case na_youngest => k_is)
    (case na_oldest => k_is)
    (case na_year => k_is)
    (case na_birth_years => k_is)
    (case na_set_of => k_is)
    (case na_join_years => k_is)
    (case na_set_count => k_is)
    (case na_one_is_open => k_is)
    (case na_stood_ahead => k_is)
    (case na_stood_behind => k_is)
    (case gg_NO_SET => k_is)
    (case gg_MOST_TAKEN_BACK => k_is)
    (case gg_NOT_THERE => k_is)
    (case gg_NOTHING_DUE => k_is)
    (case gg_NONE_OPEN => k_is)
    (case gg_ALREADY => k_is)
    (case gg_NOT_AS_ASKED => k_is)
    (case gg_FULL => k_is)
    (case gg_IN_NO_SET => k_is)
    (case gg_NOBODY_IN_IT => k_is)
    (case gg_NEITHER_IS_SENIOR => k_is)
    (case gg_FIRST_IS_SENIOR => k_is)
    (case gg_SECOND_IS_SENIOR => k_is)
    (case gg_FEWEST_NAMES => k_is)
    (case gg_MOST_NAMES => k_is)
    (case gg_HIGHEST_AGE => k_is)
    (case gg_LAST_YEAR => k_is)
    (case gg_MOST_PEOPLE => k_is)
    (case gg_MOST_SETS => k_is)
    (case gg_CALLS => k_is)
    (case nn_len => k_is)
    (case nn_list => k_is)
    (case nn_range => k_is)
    (case nn_sorted => k_is)
    (case nn_dict => k_is)
    (case nn_enumerate => k_is)
    (case nn_any => k_is)
    (case nn_max => k_is)
    (case nn_min => k_is)
    (case a_Roll_init => k_is)
    (case i_Roll_init => k_is)
    (case l_Roll_init => k_is)
    (case c_Roll_init => k_is)
    (case k_Roll_init => k_is)
    (case a_begin => k_is)
    (case i_begin => k_is)
    (case l_begin => k_is)
    (case c_begin => k_is)
    (case k_begin => k_is)
    (case a_is_person => k_is)
    (case i_is_person => k_is)
    (case l_is_person => k_is)
    (case c_is_person => k_is)
    (case k_is_person => k_is)
    (case a_is_set => k_is)
    (case i_is_set => k_is)
    (case l_is_set => k_is)
    (case c_is_set => k_is)
    (case k_is_set => k_is)
    (case a_is_in_a_set => k_is)
    (case i_is_in_a_set => k_is)
    (case l_is_in_a_set => k_is)
    (case c_is_in_a_set => k_is)
    (case k_is_in_a_set => k_is)
    (case a_age_of => k_is)
    (case i_age_of => k_is)
    (case l_age_of => k_is)
    (case c_age_of => k_is)
    (case k_age_of => k_is)
    (case a_age_at_joining => k_is)
    (case i_age_at_joining => k_is)
    (case l_age_at_joining => k_is)
    (case c_age_at_joining => k_is)
    (case k_age_at_joining => k_is)
    (case a_is_of_age => k_is)
    (case i_is_of_age => k_is)
    (case l_is_of_age => k_is)
    (case c_is_of_age => k_is)
    (case k_is_of_age => k_is)
    (case a_may_join => k_is)
    (case i_may_join => k_is)
    (case l_may_join => k_is)
    (case c_may_join => k_is)
    (case k_may_join => k_is)
    (case a_has_missed => k_is)
    (case i_has_missed => k_is)
    (case l_has_missed => k_is)
    (case c_has_missed => k_is)
    (case k_has_missed => k_is)
    (case a_name_of => k_is)
    (case i_name_of => k_is)
    (case l_name_of => k_is)
    (case c_name_of => k_is)
    (case k_name_of => k_is)
    (case a_last_set => k_is)
    (case i_last_set => k_is)
    (case l_last_set => k_is)
    (case c_last_set => k_is)
    (case k_last_set => k_is)
    (case a_people => k_is)
    (case i_people => k_is)
    (case l_people => k_is)
    (case c_people => k_is)
    (case k_people => k_is)
    (case a_who_may_join => k_is)
    (case i_who_may_join => k_is)
    (case l_who_may_join => k_is)
    (case c_who_may_join => k_is)
    (case k_who_may_join => k_is)
    (case a_who_has_missed => k_is)
    (case i_who_has_missed => k_is)
    (case l_who_has_missed => k_is)
    (case c_who_has_missed => k_is)
    (case k_who_has_missed => k_is)
    (case a_are_in => k_is)
    (case i_are_in => k_is)
    (case l_are_in => k_is)
    (case c_are_in => k_is)
    (case k_are_in => k_is)
    (case a_birth_years_in => k_is)
    (case i_birth_years_in => k_is)
    (case l_birth_years_in => k_is)
    (case c_birth_years_in => k_is)
    (case k_birth_years_in => k_is)
    (case a_have_the_name_of => k_is)
    (case i_have_the_name_of => k_is)
    (case l_have_the_name_of => k_is)
    (case c_have_the_name_of => k_is)
    (case k_have_the_name_of => k_is)
    (case a_is_senior => k_is)
    (case i_is_senior => k_is)
    (case l_is_senior => k_is)
    (case c_is_senior => k_is)
    (case k_is_senior => k_is)
    (case a_place_of => k_is)
    (case i_place_of => k_is)
    (case l_place_of => k_is)
    (case c_place_of => k_is)
    (case k_place_of => k_is)
    (case gf_place_of => k_is)
    (case tk_place_of => k_is)
    (case fi_place_of => k_is)
    (case a_ranked => k_is)
    (case i_ranked => k_is)
    (case l_ranked => k_is)
    (case c_ranked => k_is)
    (case k_ranked => k_is)
    (case a_turned_apart => k_is)
    (case i_turned_apart => k_is)
    (case l_turned_apart => k_is)
    (case c_turned_apart => k_is)
    (case k_turned_apart => k_is)
    (case a_add_person => k_is)
    (case i_add_person => k_is)
    (case l_add_person => k_is)
    (case c_add_person => k_is)
    (case k_add_person => k_is)
    (case a_open_next => k_is)
    (case i_open_next => k_is)
    (case l_open_next => k_is)
    (case c_open_next => k_is)
    (case k_open_next => k_is)
    (case a_put_in_open => k_is)
    (case i_put_in_open => k_is)
    (case l_put_in_open => k_is)
    (case c_put_in_open => k_is)
    (case k_put_in_open => k_is)
    (case a_standing => k_is)
    (case i_standing => k_is)
    (case l_standing => k_is)
    (case c_standing => k_is)
    (case k_standing => k_is)
    (case a_stand_as => k_is)
    (case i_stand_as => k_is)
    (case l_stand_as => k_is)
    (case c_stand_as => k_is)
    (case k_stand_as => k_is)
    (case a_note_change => k_is)
    (case i_note_change => k_is)
    (case l_note_change => k_is)
    (case c_note_change => k_is)
    (case k_note_change => k_is)
    (case a_take_back => k_is)
    (case i_take_back => k_is)
    (case l_take_back => k_is)
    (case c_take_back => k_is)
    (case k_take_back => k_is)
    (case a_do_again => k_is)
    (case i_do_again => k_is)
    (case l_do_again => k_is)
    (case c_do_again => k_is)
    (case k_do_again => k_is)
    (case a_as_a_set => k_is)
    (case l_as_a_set => k_is)
    (case c_as_a_set => k_is)
    (case k_as_a_set => k_is)
    (case a_os_start => k_is)
    (case l_os_start => k_is)
    (case c_os_start => k_is)
    (case k_os_start => k_is)
    (case a_os_pass => k_is)
    (case l_os_pass => k_is)
    (case c_os_pass => k_is)
    (case k_os_pass => k_is)
    (case a_os_born => k_is)
    (case l_os_born => k_is)
    (case c_os_born => k_is)
    (case k_os_born => k_is)
    (case a_os_open => k_is)
    (case l_os_open => k_is)
    (case c_os_open => k_is)
    (case k_os_open => k_is)
    (case a_os_shut => k_is)
    (case l_os_shut => k_is)
    (case c_os_shut => k_is)
    (case k_os_shut => k_is)
    (case a_os_join => k_is)
    (case l_os_join => k_is)
    (case c_os_join => k_is)
    (case k_os_join => k_is)
    (case a_os_join_all => k_is)
    (case l_os_join_all => k_is)
    (case c_os_join_all => k_is)
    (case k_os_join_all => k_is)
    (case a_os_age => k_is)
    (case l_os_age => k_is)
    (case c_os_age => k_is)
    (case k_os_age => k_is)
    (case a_os_whose => k_is)
    (case l_os_whose => k_is)
    (case c_os_whose => k_is)
    (case k_os_whose => k_is)
    (case a_os_members => k_is)
    (case l_os_members => k_is)
    (case c_os_members => k_is)
    (case k_os_members => k_is)
    (case a_os_name => k_is)
    (case l_os_name => k_is)
    (case c_os_name => k_is)
    (case k_os_name => k_is)
    (case a_os_alike => k_is)
    (case l_os_alike => k_is)
    (case c_os_alike => k_is)
    (case k_os_alike => k_is)
    (case a_os_may => k_is)
    (case l_os_may => k_is)
    (case c_os_may => k_is)
    (case k_os_may => k_is)
    (case a_os_missed => k_is)
    (case l_os_missed => k_is)
    (case c_os_missed => k_is)
    (case k_os_missed => k_is)
    (case a_os_senior => k_is)
    (case l_os_senior => k_is)
    (case c_os_senior => k_is)
    (case k_os_senior => k_is)
    (case a_os_turned => k_is)
    (case l_os_turned => k_is)
    (case c_os_turned => k_is)
    (case k_os_turned => k_is)
    (case a_os_rank => k_is)
    (case l_os_rank => k_is)
    (case c_os_rank => k_is)
    (case k_os_rank => k_is)
    (case a_os_span => k_is)
    (case l_os_span => k_is)
    (case c_os_span => k_is)
    (case k_os_span => k_is)
    (case a_os_when => k_is)
    (case l_os_when => k_is)
    (case c_os_when => k_is)
    (case k_os_when => k_is)
    (case a_os_back => k_is)
    (case l_os_back => k_is)
    (case c_os_back => k_is)
    (case k_os_back => k_is)
    (case a_os_again => k_is)
    (case l_os_again => k_is)
    (case c_os_again => k_is)
    (case k_os_again => k_is)
    (case a_os_state => k_is)
    (case l_os_state => k_is)
    (case c_os_state => k_is)
    (case k_os_state => k_is)
    (case a_answer_to => k_is)
    (case l_answer_to => k_is)
    (case c_answer_to => k_is)
    (case k_answer_to => k_is)
    (case a_answers => k_is)
    (case l_answers => k_is)
    (case c_answers => k_is)
    (case k_answers => k_is)
    (case lu_CALLS => k_is)
    (case lu_CALLS_0 => k_is)
    (case lu_CALLS_1 => k_is)
    (case lu_CALLS_2 => k_is)
    (case lu_CALLS_3 => k_is)
    (case lu_CALLS_4 => k_is)
    (case lu_CALLS_5 => k_is)
    (case lu_CALLS_6 => k_is)
    (case lu_CALLS_7 => k_is)
    (case lu_CALLS_8 => k_is)
    (case lu_CALLS_9 => k_is)
    (case lu_CALLS_10 => k_is)
    (case lu_CALLS_11 => k_is)
    (case lu_CALLS_12 => k_is)
    (case lu_CALLS_13 => k_is)
    (case lu_CALLS_14 => k_is)
    (case lu_CALLS_15 => k_is)
    (case lu_CALLS_16 => k_is)
    (case lu_CALLS_17 => k_is)
    (case lu_CALLS_18 => k_is)
    (case lu_CALLS_19 => k_is)
    (case lu_CALLS_20 => k_is)
    (case lu_CALLS_21 => k_is)
    (case hb => intro s us hu; match us, hu with | [_], _ => exact .of_eq rfl)
  case S =>
    intro K H xs a hO hwi hask hx
    cases hx with
    | cons h1 h2 =>
      cases h2
      cases h1 with
      | lst hs ha =>
        have e := L2.ints_dw a.1 _ ha
        subst e
        exact ⟨_, a.1, rfl, hs, hask, fun H' p hp => .lst (L2.SqL.of hp) (L2.dw_ints _)⟩

