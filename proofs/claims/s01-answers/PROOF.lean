import PyProof.Rows.All
import Wide.All
import OpenK.AllK
import Wide.FinOn
import Open.SpecLaws
import KE.OsGo
import HandS.ForSpec
import HandS.SetFor
import HandS.Dict
import HandS.Lambda
import HandS.SortKw
import HandS.Nested
import HandS.Comp
import KE.SortKeyHeap
import KE.KNestM
import HandS.NoneIn
import HandS.Iter
import HandS.WideBits
import KE.OsArith
import PySem.Challenge.RW_dutyrules_s01_answers
set_option Elab.async false
set_option maxRecDepth 100000
set_option maxHeartbeats 4000000
set_option linter.unusedVariables false
/-! # Reading a line of calls: what PySw82.answers says of a list that is asked, call by call -/
namespace Du
open Sw82 (Call St)

/-- a call as it stands in the flat list -/
def enc : Call → List Int
  | .begins r => [0, (r.long : Nat), (r.work : Nat), (r.drive : Nat), (r.rest : Nat), (r.on : Nat), (r.off : Nat), (r.change : Nat), (r.least : Nat), (r.twice : Nat)]
  | .place i b h => [1, (i : Nat), if b = true then 1 else 0, if h = true then 1 else 0]
  | .way a b n => [2, (a : Nat), (b : Nat), (n : Nat)]
  | .work w => [3, (w.from_ : Nat), (w.to : Nat), (w.start : Nat), (w.halt_ : Nat)]
  | .drop k => [4, (k : Nat)]
  | .check l => 5 :: (l.length : Int) :: l.map fun (n : Nat) => (n : Int)
  | .best => [6]
  | .never => [7]

/-- what a call asks of its own numbers -/
def Fit : Call → Prop
  | .check l => l.length ≤ 20
  | _ => True

/-- the answers of a line from a state, each behind its length -/
def play : St → List Call → List Int
  | _, [] => []
  | s, x :: cs => ((Sw82Neutral.out (Sw82.step s x).2).length : Int) :: (Sw82Neutral.out (Sw82.step s x).2 ++ play (Sw82.step s x).1 cs)

theorem map_toNat_cast : ∀ {l : List Int}, l.all Sw82Neutral.nat = true → (l.map Int.toNat).map (fun (n : Nat) => (n : Int)) = l
  | [], _ => rfl
  | a :: l, h => by
    rw [List.all_cons, Bool.and_eq_true] at h
    have h1 := h.1
    unfold Sw82Neutral.nat at h1
    rw [Bool.and_eq_true, decide_eq_true_iff, decide_eq_true_iff] at h1
    rw [List.map_cons, List.map_cons, map_toNat_cast h.2, Int.toNat_of_nonneg h1.1]

theorem listIn_inv {l m : List Nat} (h : Sw82Neutral.listIn l = some m) : l = m.length :: m ∧ m.length ≤ 20 := by
  cases l with
  | nil => cases h
  | cons n l =>
    have h' : (if n ≤ 20 ∧ l.length = n then some l else none) = some m := h
    by_cases k : n ≤ 20 ∧ l.length = n
    · rw [if_pos k] at h'
      cases h'
      exact ⟨by rw [k.2], by rw [k.2]; exact k.1⟩
    · rw [if_neg k] at h'
      cases h'

/-- a call that is read is just what enc writes -/
theorem callIn_inv {m : List Nat} {x : Call} (h : Sw82Neutral.callIn m = some x) : m.map (fun (n : Nat) => (n : Int)) = enc x ∧ Fit x := by
  unfold Sw82Neutral.callIn at h
  split at h
  · cases h; exact ⟨rfl, trivial⟩
  · rename_i i b hh
    split at h
    · rename_i k
      cases h
      refine ⟨?_, trivial⟩
      have kb : b = 0 ∨ b = 1 := by omega
      have kh : hh = 0 ∨ hh = 1 := by omega
      rcases kb with rfl | rfl <;> rcases kh with rfl | rfl <;> rfl
    · cases h
  · cases h; exact ⟨rfl, trivial⟩
  · cases h; exact ⟨rfl, trivial⟩
  · cases h; exact ⟨rfl, trivial⟩
  · rename_i l
    cases e : Sw82Neutral.listIn l with
    | none => rw [e] at h; cases h
    | some q =>
      rw [e] at h
      cases h
      obtain ⟨e1, e2⟩ := listIn_inv e
      subst e1
      exact ⟨rfl, e2⟩
  · cases h; exact ⟨rfl, trivial⟩
  · cases h; exact ⟨rfl, trivial⟩
  · cases h

theorem callOf_inv {w : List Int} (h : (Sw82Neutral.callOf w).isSome = true) : ∃ x, Sw82Neutral.callOf w = some x ∧ w = enc x ∧ Fit x := by
  unfold Sw82Neutral.callOf at h ⊢
  by_cases k : w.all Sw82Neutral.nat = false
  · rw [if_pos k] at h; cases h
  · rw [if_neg k] at h ⊢
    have k' : w.all Sw82Neutral.nat = true := by
      cases e : w.all Sw82Neutral.nat with
      | true => rfl
      | false => exact (k e).elim
    cases e : Sw82Neutral.callIn (w.map Int.toNat) with
    | none => rw [e] at h; cases h
    | some x =>
      obtain ⟨e1, e2⟩ := callIn_inv e
      exact ⟨x, rfl, by rw [← e1, map_toNat_cast k'], e2⟩

theorem row_inv {l x s : List Int} (h : PyFlat.row l = some (x, s)) : l = ((x.length : Int) :: x) ++ s := by
  cases l with
  | nil => cases h
  | cons n r =>
    have hq : (if 0 ≤ n ∧ n.toNat ≤ r.length then some (r.take n.toNat, r.drop n.toNat) else none) = some (x, s) := h
    by_cases fits : 0 ≤ n ∧ n.toNat ≤ r.length
    · rw [if_pos fits] at hq
      cases hq
      have e : ((r.take n.toNat).length : Int) = n := by
        rw [List.length_take]; omega
      rw [e, List.cons_append, List.take_append_drop]
    · rw [if_neg fits] at hq
      cases hq

/-- the i-th of a list long enough -/
theorem split_n : ∀ (n : Nat) (r : List Int), n ≤ r.length → ∃ a, a.length = n ∧ r.take n = a ∧ r = a ++ r.drop n := fun n r h =>
  ⟨r.take n, by rw [List.length_take]; omega, rfl, (List.take_append_drop n r).symm⟩

theorem len0 {a : List Int} (h : a.length = 0) : a = [] := List.length_eq_zero_iff.mp h
theorem lenS {a : List Int} {n : Nat} (h : a.length = n + 1) : ∃ x b, a = x :: b ∧ b.length = n := by
  cases a with
  | nil => cases h
  | cons x b => exact ⟨x, b, rfl, Nat.succ.inj h⟩

theorem read_nums {p : Int} {r : List Int} {c : List (List Int)} {t : List Int} {n : Nat} (hs : PySw82.shape p = some (n, 0)) (h : PyFlat.call PySw82.shape (p :: r) = some (c, t)) : ∃ a, a.length = n ∧ c = [p :: a] ∧ r = a ++ t := by
  unfold PyFlat.call at h
  dsimp only at h
  rw [hs] at h
  simp only [PyFlat.rows] at h
  split at h
  · cases h
  · rename_i k
    obtain ⟨a, e1, e2, e3⟩ := split_n n r (by omega)
    cases h
    exact ⟨a, e1, by rw [e2], e3⟩
theorem read_row {p : Int} {r : List Int} {c : List (List Int)} {t : List Int} (hs : PySw82.shape p = some (0, 1)) (h : PyFlat.call PySw82.shape (p :: r) = some (c, t)) : ∃ a, c = [[p], a] ∧ r = ((a.length : Int) :: a) ++ t := by
  unfold PyFlat.call at h
  dsimp only at h
  rw [hs] at h
  simp only [PyFlat.rows] at h
  split at h
  · cases h
  · rw [List.drop_zero] at h
    cases e : PyFlat.row r with
    | none => rw [e] at h; cases h
    | some q =>
      obtain ⟨x, s⟩ := q
      rw [e] at h
      cases h
      exact ⟨x, rfl, row_inv e⟩

/-- a call that is read from the flat list: its own numbers stand there, counts and all -/
theorem call_inv {l : List Int} {c : List (List Int)} {t : List Int} (h : PyFlat.call PySw82.shape l = some (c, t)) : l = (PySw82.whole c).headD [] ++ t ∧ 1 ≤ ((PySw82.whole c).headD []).length := by
  cases l with
  | nil => cases h
  | cons p r =>
    by_cases h0 : p = 0
    · subst h0
      obtain ⟨a, e1, rfl, rfl⟩ := read_nums (n := 9) rfl h
      obtain ⟨x0, a, rfl, f0⟩ := lenS e1
      obtain ⟨x1, a, rfl, f1⟩ := lenS f0
      obtain ⟨x2, a, rfl, f2⟩ := lenS f1
      obtain ⟨x3, a, rfl, f3⟩ := lenS f2
      obtain ⟨x4, a, rfl, f4⟩ := lenS f3
      obtain ⟨x5, a, rfl, f5⟩ := lenS f4
      obtain ⟨x6, a, rfl, f6⟩ := lenS f5
      obtain ⟨x7, a, rfl, f7⟩ := lenS f6
      obtain ⟨x8, a, rfl, f8⟩ := lenS f7
      cases len0 f8
      exact ⟨rfl, by show 1 ≤ 10; decide⟩
    by_cases h1 : p = 1
    · subst h1
      obtain ⟨a, e1, rfl, rfl⟩ := read_nums (n := 3) rfl h
      obtain ⟨x0, a, rfl, f0⟩ := lenS e1
      obtain ⟨x1, a, rfl, f1⟩ := lenS f0
      obtain ⟨x2, a, rfl, f2⟩ := lenS f1
      cases len0 f2
      exact ⟨rfl, by show 1 ≤ 4; decide⟩
    by_cases h2 : p = 2
    · subst h2
      obtain ⟨a, e1, rfl, rfl⟩ := read_nums (n := 3) rfl h
      obtain ⟨x0, a, rfl, f0⟩ := lenS e1
      obtain ⟨x1, a, rfl, f1⟩ := lenS f0
      obtain ⟨x2, a, rfl, f2⟩ := lenS f1
      cases len0 f2
      exact ⟨rfl, by show 1 ≤ 4; decide⟩
    by_cases h3 : p = 3
    · subst h3
      obtain ⟨a, e1, rfl, rfl⟩ := read_nums (n := 4) rfl h
      obtain ⟨x0, a, rfl, f0⟩ := lenS e1
      obtain ⟨x1, a, rfl, f1⟩ := lenS f0
      obtain ⟨x2, a, rfl, f2⟩ := lenS f1
      obtain ⟨x3, a, rfl, f3⟩ := lenS f2
      cases len0 f3
      exact ⟨rfl, by show 1 ≤ 5; decide⟩
    by_cases h4 : p = 4
    · subst h4
      obtain ⟨a, e1, rfl, rfl⟩ := read_nums (n := 1) rfl h
      obtain ⟨x0, a, rfl, f0⟩ := lenS e1
      cases len0 f0
      exact ⟨rfl, by show 1 ≤ 2; decide⟩
    by_cases h5 : p = 5
    · subst h5
      obtain ⟨a, rfl, rfl⟩ := read_row rfl h
      exact ⟨rfl, Nat.succ_le_succ (Nat.zero_le _)⟩
    by_cases h6 : p = 6
    · subst h6
      obtain ⟨a, e1, rfl, rfl⟩ := read_nums (n := 0) rfl h
      cases len0 e1
      exact ⟨rfl, by show 1 ≤ 1; decide⟩
    by_cases h7 : p = 7
    · subst h7
      obtain ⟨a, e1, rfl, rfl⟩ := read_nums (n := 0) rfl h
      cases len0 e1
      exact ⟨rfl, by show 1 ≤ 1; decide⟩
    · have hs : PySw82.shape p = none := by
        unfold PySw82.shape
        simp only [h0, h1, h2, h3, h4, h5, h6, h7, if_false]
      unfold PyFlat.call at h
      dsimp only at h
      rw [hs] at h
      cases h

theorem calls_inv : ∀ (f : Nat) (l : List Int) (raw : List (List (List Int))), PyFlat.calls PySw82.shape f l = some raw →
    l = ((raw.map PySw82.whole).map fun c => c.headD []).flatten
  | f, [], raw, h => by
    have e : raw = [] := by
      cases f <;> exact (Option.some.inj h).symm
    subst e
    rfl
  | 0, _ :: _, raw, h => by cases h
  | f + 1, p :: r, raw, h => by
    have h' : (match PyFlat.call PySw82.shape (p :: r) with
      | none => none
      | some (c, t) => match PyFlat.calls PySw82.shape f t with
        | none => none
        | some cs => some (c :: cs)) = some raw := h
    cases e : PyFlat.call PySw82.shape (p :: r) with
    | none => rw [e] at h'; cases h'
    | some q =>
      obtain ⟨c, t⟩ := q
      rw [e] at h'
      have h2 : (match PyFlat.calls PySw82.shape f t with
        | none => none
        | some cs => some (c :: cs)) = some raw := h'
      cases e2 : PyFlat.calls PySw82.shape f t with
      | none => rw [e2] at h2; cases h2
      | some cs =>
        rw [e2] at h2
        cases h2
        have a1 := (call_inv e).1
        have a2 := calls_inv f t cs e2
        rw [List.map_cons, List.map_cons, List.flatten_cons, ← a2]
        exact a1

/-- the words of a line that is asked, as calls -/
theorem words_inv : ∀ (ws : List (List Int)), ws.all Sw82Neutral.asked1 = true → ∃ cs : List Call, ws = cs.map enc ∧ (∀ x ∈ cs, Fit x ∧ Sw82Neutral.callOf (enc x) = some x)
  | [], _ => ⟨[], rfl, fun _ h => by cases h⟩
  | w :: ws, h => by
    rw [List.all_cons, Bool.and_eq_true] at h
    obtain ⟨x, e1, e2, e3⟩ := callOf_inv h.1
    obtain ⟨cs, e4, e5⟩ := words_inv ws h.2
    subst e2
    refine ⟨x :: cs, by rw [e4]; rfl, fun y hy => ?_⟩
    cases hy with
    | head => exact ⟨e3, e1⟩
    | tail _ hy => exact e5 y hy

theorem played_play : ∀ (cs : List Call) (raw : List (List (List Int))) (s : St), (raw.map PySw82.whole).map (fun c => c.headD []) = cs.map enc → (∀ x ∈ cs, Sw82Neutral.callOf (enc x) = some x) →
    PyFlat.told (PyFlat.played (fun s c => Sw82Neutral.step s (c.headD [])) s (raw.map PySw82.whole)) = play s cs
  | [], [], s, _, _ => rfl
  | [], _ :: _, s, h, _ => by cases h
  | _ :: _, [], s, h, _ => by cases h
  | x :: cs, c :: raw, s, h, hc => by
    rw [List.map_cons, List.map_cons, List.map_cons] at h
    obtain ⟨h1, h2⟩ := List.cons.inj h
    have st : Sw82Neutral.step s ((PySw82.whole c).headD []) = ((Sw82.step s x).1, Sw82Neutral.out (Sw82.step s x).2) := by
      rw [h1]
      unfold Sw82Neutral.step
      rw [hc x (List.Mem.head _)]
    have ih := played_play cs raw (Sw82.step s x).1 h2 fun y hy => hc y (List.Mem.tail _ hy)
    rw [List.map_cons]
    unfold PyFlat.played
    simp only [st]
    unfold PyFlat.told
    rw [List.flatMap_cons]
    have e : PyFlat.told (PyFlat.played (fun s c => Sw82Neutral.step s (c.headD [])) (Sw82.step s x).1 (raw.map PySw82.whole)) = _ := ih
    unfold PyFlat.told at e
    rw [e]
    rfl

/-- **What is asked, call by call.** -/
theorem read_all {l : List Int} (h : PySw82.answers_asked l = true) :
    ∃ cs : List Call, l = (cs.map enc).flatten ∧ PySw82.answers l = play Sw82.init cs ∧ cs.length ≤ 60 ∧ (∀ x ∈ cs, Fit x) ∧ (play Sw82.init cs).length ≤ 10000000 := by
  unfold PySw82.answers_asked at h
  cases e : PyFlat.calls PySw82.shape l.length l with
  | none => rw [e] at h; cases h
  | some raw =>
    rw [e] at h
    simp only [Bool.and_eq_true] at h
    obtain ⟨⟨⟨⟨_, h2⟩, _⟩, h4⟩, h5⟩ := h
    unfold Sw82Neutral.asked at h4
    rw [Bool.and_eq_true] at h4
    obtain ⟨cs, e1, e2⟩ := words_inv _ h4.1
    have hp := played_play cs raw Sw82.init e1 fun x hx => (e2 x hx).2
    have ha : PySw82.answers l = play Sw82.init cs := by
      unfold PySw82.answers PySw82.calls
      rw [e]
      exact hp
    have hn : cs.length = raw.length := by
      have := congrArg List.length e1
      rw [List.length_map, List.length_map, List.length_map] at this
      exact this.symm
    refine ⟨cs, ?_, ha, ?_, fun x hx => (e2 x hx).1, ?_⟩
    · rw [← e1]
      exact calls_inv _ _ _ e
    · rw [hn]
      exact of_decide_eq_true h2
    · rw [← ha]
      exact of_decide_eq_true h5
end Du

/-! # The plan's own mathematics: what each of begins, place, way, work, drop keeps -/
namespace Du
open Sw82 (Call Plan Work Rules)

def rulesN (r : Rules) : List Nat := [r.long, r.work, r.drive, r.rest, r.on, r.off, r.change, r.least, r.twice]
def bit (b : Bool) : Nat := if b = true then 1 else 0
def brkN (l : List Nat) : List Nat := (List.range 20).map fun j => if j ∈ l then 1 else 0

/-- what holds of every plan that is reached -/
structure Wf (p : Plan) : Prop where
  rules : ∀ n ∈ rulesN p.rules, n ≤ 100000
  homesNd : p.homes.Nodup
  homes : ∀ h ∈ p.homes, h < 20
  breaks : ∀ h ∈ p.breaks, h < 20
  ways : ∀ w ∈ p.ways, w.1 < 20 ∧ w.2.1 < 20 ∧ w.1 ≠ w.2.1 ∧ w.2.2 ≤ 100000
  waysLen : p.ways.length ≤ 40
  works : ∀ w ∈ p.works, w.from_ < 20 ∧ w.to < 20 ∧ w.start < w.halt_ ∧ w.halt_ ≤ 100000
  worksLen : p.works.length ≤ 7

theorem wf_init : Wf Sw82.init := by
  refine ⟨?_, List.nodup_nil, ?_, ?_, ?_, by decide, ?_, by decide⟩
  · decide
  all_goals (intro h hh; cases hh)

theorem brk_len (l : List Nat) : (brkN l).length = 20 := by
  unfold brkN
  rw [List.length_map, List.length_range]

theorem brk_set {l : List Nat} {i : Nat} (b : Bool) : (brkN l).set i (bit b) = brkN (if b = true then l.filter (fun x => x != i) ++ [i] else l.filter fun x => x != i) := by
  apply List.ext_getElem?
  intro j
  by_cases hj : j < 20
  · have hg : ∀ m : List Nat, (brkN m)[j]? = some (if j ∈ m then 1 else 0) := fun m => by
      unfold brkN
      rw [List.getElem?_map, List.getElem?_range hj] <;> rfl
    rw [List.getElem?_set, hg, hg, brk_len]
    by_cases e : i = j
    · subst e
      rw [if_pos rfl, if_pos hj]
      cases b <;> simp [bit]
    · rw [if_neg e]
      cases b <;> simp [List.mem_filter, Ne.symm e]
  · rw [List.getElem?_eq_none (by rw [List.length_set, brk_len]; omega), List.getElem?_eq_none (by rw [brk_len]; omega)]

theorem erase_filter : ∀ {l : List Nat} {j i : Nat}, l.Nodup → l[j]? = some i → l.eraseIdx j = l.filter fun x => x != i
  | [], _, _, _, h => by simp at h
  | a :: l, 0, i, hn, h => by
    have e : a = i := Option.some.inj h
    subst e
    have hn' := List.nodup_cons.mp hn
    have e2 : l.filter (fun x => x != a) = l := List.filter_eq_self.mpr fun x hx => by
      have : x ≠ a := fun e => hn'.1 (e ▸ hx)
      simp [this]
    rw [List.filter_cons, e2]
    simp
  | a :: l, j + 1, i, hn, h => by
    have hn' := List.nodup_cons.mp hn
    have h' : l[j]? = some i := h
    have hne : a ≠ i := fun e => hn'.1 (e ▸ List.mem_of_getElem? h')
    rw [List.eraseIdx_cons_succ, erase_filter hn'.2 h', List.filter_cons]
    simp [hne]

theorem filter_out {l : List Nat} {i : Nat} (h : i ∉ l) : (l.filter fun x => x != i) = l := List.filter_eq_self.mpr fun x hx => by
  have : x ≠ i := fun e => h (e ▸ hx)
  simp [this]

theorem nodup_place {l : List Nat} {i : Nat} (h : l.Nodup) : (l.filter (fun x => x != i) ++ [i]).Nodup := by
  rw [List.nodup_append]
  refine ⟨h.filter _, by simp, ?_⟩
  intro a ha b hb
  rw [List.mem_singleton] at hb
  subst hb
  intro e
  subst e
  rw [List.mem_filter] at ha
  simp at ha

theorem mem_works_erase {l : List Work} {k : Nat} {w : Work} (h : w ∈ l.eraseIdx k) : w ∈ l := List.mem_of_mem_eraseIdx h

theorem step_wf {p : Plan} (W : Wf p) (x : Call) : Wf (Sw82.step p x).1 := by
  cases x with
  | begins r =>
    unfold Sw82.step
    dsimp only
    split
    · exact W
    · rename_i h
      have h' : Sw82.rulesOk r = true := by
        cases e : Sw82.rulesOk r with
        | true => rfl
        | false => exact (h e).elim
      refine ⟨?_, List.nodup_nil, ?_, ?_, ?_, by show (0 : Nat) ≤ 40; decide, ?_, by show (0 : Nat) ≤ 7; decide⟩
      · intro n hn
        unfold Sw82.rulesOk at h'
        exact of_decide_eq_true (List.all_eq_true.mp h' n hn)
      all_goals (intro h hh; cases hh)
  | place i b h =>
    unfold Sw82.step
    dsimp only
    split
    · exact W
    · rename_i hi
      have hi' : i < 20 := by
        unfold Sw82.PLACES at hi
        omega
      refine ⟨W.rules, ?_, ?_, ?_, W.ways, W.waysLen, W.works, W.worksLen⟩
      · show (if h = true then _ else _ : List Nat).Nodup
        split
        · exact nodup_place W.homesNd
        · exact W.homesNd.filter _
      · show ∀ y ∈ (if h = true then _ else _ : List Nat), y < 20
        split
        · intro y hy
          rw [List.mem_append, List.mem_filter, List.mem_singleton] at hy
          rcases hy with hy | hy
          · exact W.homes y hy.1
          · subst hy; exact hi'
        · intro y hy
          rw [List.mem_filter] at hy
          exact W.homes y hy.1
      · show ∀ y ∈ (if b = true then _ else _ : List Nat), y < 20
        split
        · intro y hy
          rw [List.mem_append, List.mem_filter, List.mem_singleton] at hy
          rcases hy with hy | hy
          · exact W.breaks y hy.1
          · subst hy; exact hi'
        · intro y hy
          rw [List.mem_filter] at hy
          exact W.breaks y hy.1
  | way a b n =>
    unfold Sw82.step
    dsimp only
    split
    · exact W
    · rename_i h
      split
      · exact W
      · rename_i h2
        unfold Sw82.PLACES Sw82.TIME at h
        unfold Sw82.WAYS at h2
        refine ⟨W.rules, W.homesNd, W.homes, W.breaks, ?_, ?_, W.works, W.worksLen⟩
        · intro y hy
          have hy' : y ∈ p.ways ++ [(a, b, n)] := hy
          rw [List.mem_append, List.mem_singleton] at hy'
          rcases hy' with hy' | hy'
          · exact W.ways y hy'
          · subst hy'
            show a < 20 ∧ b < 20 ∧ a ≠ b ∧ n ≤ 100000
            omega
        · show (p.ways ++ [(a, b, n)]).length ≤ 40
          rw [List.length_append]
          show p.ways.length + 1 ≤ 40
          omega
  | work v =>
    unfold Sw82.step
    dsimp only
    split
    · exact W
    · rename_i h
      split
      · exact W
      · rename_i h2
        unfold Sw82.PLACES Sw82.TIME at h
        unfold Sw82.WORKS at h2
        refine ⟨W.rules, W.homesNd, W.homes, W.breaks, W.ways, W.waysLen, ?_, ?_⟩
        · intro y hy
          have hy' : y ∈ p.works ++ [v] := hy
          rw [List.mem_append, List.mem_singleton] at hy'
          rcases hy' with hy' | hy'
          · exact W.works y hy'
          · subst hy'
            omega
        · show (p.works ++ [v]).length ≤ 7
          rw [List.length_append]
          show p.works.length + 1 ≤ 7
          omega
  | drop k =>
    unfold Sw82.step
    dsimp only
    split
    · exact W
    · refine ⟨W.rules, W.homesNd, W.homes, W.breaks, W.ways, W.waysLen, ?_, ?_⟩
      · intro y hy
        exact W.works y (mem_works_erase hy)
      · show (p.works.eraseIdx k).length ≤ 7
        have := List.length_eraseIdx_le p.works k
        have := W.worksLen
        omega
  | check l =>
    unfold Sw82.step
    dsimp only
    split <;> exact W
  | best => exact W
  | never => exact W
end Du

/-! # The specification's table of sets as one recursion; pieces in order -/
namespace Du
open Sw82 (Call Plan Work Rules Best Bits)

/-- what a set is paid as one duty; none: something is wrong with it, or it is empty -/
def pay1 (p : Plan) (g : Nat) : Option Nat := if g = 0 then none else if p.wrong (p.works_ g) = 0 then some (p.pay (p.works_ g)) else none
def pays (p : Plan) : Array (Option Nat) := ((List.range (2 ^ p.works.length)).map fun g => if g = 0 then none else let l := p.works_ g
    if p.wrong l = 0 then some (p.pay l) else none).toArray
def table (p : Plan) (k : Nat) : Array (Option Best) := (List.range k).foldl (fun (had : Array (Option Best)) m => had.push (p.cell (pays p) had m)) #[]
/-- the best of a set -/
def bestOf (p : Plan) (m : Nat) : Option Best := (table p (2 ^ p.works.length)).getD m none

theorem pays_at (p : Plan) {g : Nat} (h : g < 2 ^ p.works.length) : (pays p).getD g none = pay1 p g := by
  unfold pays
  rw [Array.getD_eq_getD_getElem?, List.getElem?_toArray, List.getElem?_map, List.getElem?_range h]
  rfl
theorem table_succ (p : Plan) (k : Nat) : table p (k + 1) = (table p k).push (p.cell (pays p) (table p k) k) := by
  unfold table
  rw [List.range_succ, List.foldl_append] <;> rfl
theorem table_size (p : Plan) : ∀ k, (table p k).size = k
  | 0 => rfl
  | k + 1 => by rw [table_succ, Array.size_push, table_size p k]
theorem table_at (p : Plan) {m : Nat} : ∀ {k : Nat}, m < k → (table p k).getD m none = p.cell (pays p) (table p m) m
  | 0, h => by omega
  | k + 1, h => by
    rw [table_succ, Array.getD_eq_getD_getElem?, Array.getElem?_push, table_size]
    by_cases e : m = k
    · subst e
      rw [if_pos rfl] <;> rfl
    · rw [if_neg e, ← Array.getD_eq_getD_getElem?]
      exact table_at p (by omega)
theorem table_same (p : Plan) {m k l : Nat} (h1 : m < k) (h2 : m < l) : (table p k).getD m none = (table p l).getD m none := (table_at p h1).trans (table_at p h2).symm

/-- the lowest piece of a set -/
def lowest (n m : Nat) : Nat := (Sw82.members n m).headD 0
theorem best_is (p : Plan) : p.best = bestOf p (2 ^ p.works.length - 1) := rfl
theorem bestOf_zero (p : Plan) : bestOf p 0 = some ⟨0, 1, []⟩ := by
  unfold bestOf
  rw [table_at p (Nat.two_pow_pos _)]
  rfl
/-- **One set, by lesser ones.** -/
theorem bestOf_pos (p : Plan) {m : Nat} (h0 : m ≠ 0) (h : m < 2 ^ p.works.length) : bestOf p m =
    ((List.range (m + 1)).map fun g => if (g.testBit (lowest p.works.length m) && Sw82.inside p.works.length g m) = false then none else (pay1 p g).bind fun c => (bestOf p (m - g)).map fun b => (⟨c + b.cost, b.many, g :: b.duties⟩ : Best)).foldl Sw82.cheaper none := by
  show (table p (2 ^ p.works.length)).getD m none = _
  rw [table_at p h]
  unfold Plan.cell
  rw [if_neg h0]
  dsimp only
  congr 1
  apply List.map_congr_left
  intro (g : Nat) hg
  rw [List.mem_range] at hg
  show (if (g.testBit (lowest p.works.length m) && Sw82.inside p.works.length g m) = false then none else _) = _
  by_cases c : (g.testBit (lowest p.works.length m) && Sw82.inside p.works.length g m) = false
  · rw [if_pos c, if_pos c]
  · rw [if_neg c, if_neg c, pays_at p (by omega)]
    have hg0 : g ≠ 0 := fun e => by
      subst e
      apply c
      rw [Nat.zero_testBit, Bool.false_and]
    have e : (table p m).getD (m - g) none = bestOf p (m - g) := table_same p (Nat.sub_lt (Nat.pos_of_ne_zero h0) (Nat.pos_of_ne_zero hg0)) (Nat.lt_of_le_of_lt (Nat.sub_le _ _) h)
    rw [e]
end Du
namespace Du
open Sw82 (Call Plan Work Rules Best Bits)
/-- i is told ahead of j -/
def ahead (p : Plan) (i j : Nat) : Prop := (p.work i).start < (p.work j).start ∨ ((p.work i).start = (p.work j).start ∧ i < j)
theorem ahead_trans {p : Plan} {i j k : Nat} (h : ahead p i j) (h2 : ahead p j k) : ahead p i k := by
  unfold ahead at *
  omega
theorem ahead_asymm {p : Plan} {i j : Nat} (h : ahead p i j) (h2 : ahead p j i) : False := by
  unfold ahead at *
  omega
theorem ahead_total {p : Plan} {i j : Nat} (h : i ≠ j) : ahead p i j ∨ ahead p j i := by
  unfold ahead
  omega
theorem putIn_cons (p : Plan) (i j : Nat) (l : List Nat) : Sw82.putIn p i (j :: l) = if (p.work i).start < (p.work j).start ∨ ((p.work i).start = (p.work j).start ∧ i < j) then i :: j :: l else j :: Sw82.putIn p i l := rfl
theorem putIn_perm (p : Plan) (i : Nat) : ∀ l, (Sw82.putIn p i l).Perm (i :: l)
  | [] => .refl _
  | j :: l => by
    rw [putIn_cons]
    split
    · exact .refl _
    · exact ((putIn_perm p i l).cons j).trans (.swap i j l)
theorem putIn_sorted (p : Plan) (i : Nat) : ∀ l : List Nat, i ∉ l → l.Pairwise (ahead p) → (Sw82.putIn p i l).Pairwise (ahead p)
  | [], _, _ => by
    show [i].Pairwise (ahead p)
    simp
  | j :: l, hn, h => by
    obtain ⟨h1, h2⟩ := List.pairwise_cons.mp h
    have hij : i ≠ j := fun e => hn (e ▸ .head _)
    rw [putIn_cons]
    split
    · rename_i c
      refine List.pairwise_cons.mpr ⟨fun x hx => ?_, h⟩
      rcases List.mem_cons.mp hx with rfl | hx
      · exact c
      · exact ahead_trans c (h1 x hx)
    · rename_i c
      refine List.pairwise_cons.mpr ⟨fun x hx => ?_, putIn_sorted p i l (fun e => hn (.tail _ e)) h2⟩
      rcases List.mem_cons.mp ((putIn_perm p i l).mem_iff.mp hx) with rfl | hx
      · rcases ahead_total (p := p) hij with z | z
        · exact (c z).elim
        · exact z
      · exact h1 x hx
theorem order_go (p : Plan) : ∀ (l m : List Nat), (l.foldl (fun m i => Sw82.putIn p i m) m).Perm (l ++ m) ∧ ((l ++ m).Nodup → m.Pairwise (ahead p) → (l.foldl (fun m i => Sw82.putIn p i m) m).Pairwise (ahead p))
  | [], m => ⟨.refl _, fun _ h => h⟩
  | i :: l, m => by
    obtain ⟨a, b⟩ := order_go p l (Sw82.putIn p i m)
    have e : (l ++ Sw82.putIn p i m).Perm (i :: l ++ m) := ((putIn_perm p i m).append_left l).trans List.perm_middle
    refine ⟨a.trans e, fun hn hm => b (e.nodup_iff.mpr hn) (putIn_sorted p i m (fun z => ?_) hm)⟩
    rw [List.cons_append] at hn
    exact (List.nodup_cons.mp hn).1 (List.mem_append_right _ z)
theorem order_perm (p : Plan) (l : List Nat) : (p.inOrder l).Perm l := by
  have := (order_go p l []).1
  rwa [List.append_nil] at this
theorem order_sorted (p : Plan) {l : List Nat} (h : l.Nodup) : (p.inOrder l).Pairwise (ahead p) := (order_go p l []).2 (by rwa [List.append_nil]) List.Pairwise.nil
/-- **An order that is a rearrangement and in order is the one that is meant.** -/
theorem order_one (p : Plan) {l m : List Nat} (h : l.Nodup) (hp : m.Perm l) (hs : m.Pairwise (ahead p)) : m = p.inOrder l :=
  List.Perm.eq_of_pairwise (fun a b _ _ h1 h2 => (ahead_asymm h1 h2).elim) hs (order_sorted p h) (hp.trans (order_perm p l).symm)
end Du

/-! # What the program's parts of a duty come to, in the specification's words -/
namespace Du
open Sw82 (Call Plan Work Rules Best Bits)

/-! ### ways -/
def lessO (x : Option Nat) (n : Nat) : Option Nat := match x with
  | none => some n
  | some m => some (min m n)
def wayF (ws : List (Nat × Nat × Nat)) (a b : Nat) : Option Nat := (ws.filterMap fun w => if w.1 = a ∧ w.2.1 = b then some w.2.2 else none).foldl lessO none
theorem way_is (p : Plan) (a b : Nat) : p.way a b = if a = b then some 0 else wayF p.ways a b := by
  unfold Plan.way wayF
  congr 2
theorem wayF_nil (a b : Nat) : wayF [] a b = none := rfl
theorem wayF_snoc (ws : List (Nat × Nat × Nat)) (c d n a b : Nat) : wayF (ws ++ [(c, d, n)]) a b = if c = a ∧ d = b then lessO (wayF ws a b) n else wayF ws a b := by
  unfold wayF
  rw [List.filterMap_append, List.foldl_append]
  by_cases h : c = a ∧ d = b
  · simp [List.filterMap_cons, h]
  · simp [List.filterMap_cons, h]
/-- what the program stores: the least of the new way and of what was there -/
theorem lessO_get (x : Option Nat) (n : Nat) : lessO x n = some (min n (x.getD n)) := by
  cases x with
  | none => simp [lessO]
  | some m => simp [lessO, Nat.min_comm]

/-! ### gaps -/
def wd : Work := ⟨0, 0, 0, 0⟩
theorem gap_is (p : Plan) (x y : Work) : p.gap x y = match p.way x.to y.from_ with
  | none => none
  | some n => if x.halt_ + n + p.rules.change ≤ y.start then some (y.start - x.halt_ - n) else none := by
  unfold Plan.gap
  cases p.way x.to y.from_ <;> rfl
def gapsOf (p : Plan) (l : List Work) : List (Option Nat) := (List.range (l.length - 1)).map fun i => p.gap (l.getD i wd) (l.getD (i + 1) wd)
theorem gaps_len (p : Plan) (l : List Work) : (gapsOf p l).length = l.length - 1 := by
  unfold gapsOf
  rw [List.length_map, List.length_range]
theorem gaps_at (p : Plan) {l : List Work} {i : Nat} (h : i + 1 < l.length) : (gapsOf p l)[i]? = some (p.gap (l.getD i wd) (l.getD (i + 1) wd)) := by
  unfold gapsOf
  rw [List.getElem?_map, List.getElem?_range (by omega)] <;> rfl
theorem gaps_cons (p : Plan) (x y : Work) (l : List Work) : gapsOf p (x :: y :: l) = p.gap x y :: gapsOf p (y :: l) := by
  unfold gapsOf
  have e : (x :: y :: l).length - 1 = (y :: l).length - 1 + 1 := by simp
  rw [e, List.range_succ_eq_map, List.map_cons, List.map_map] <;> rfl
theorem linked_iff (p : Plan) : ∀ l : List Work, p.linked l = false ↔ none ∈ gapsOf p l
  | [] => by simp [Plan.linked, gapsOf]
  | [x] => by simp [Plan.linked, gapsOf]
  | x :: y :: l => by
    rw [gaps_cons, List.mem_cons, ← linked_iff p (y :: l)]
    show ((p.gap x y).isSome && p.linked (y :: l)) = false ↔ _
    cases p.gap x y with
    | none => simp
    | some n => simp

/-! ### the most without a break -/
def len (w : Work) : Nat := w.halt_ - w.start
/-- the program's loop: together, most, the last piece, what is to come -/
def unb (p : Plan) : Nat → Nat → Work → List Work → Nat
  | t, m, x, y :: l => unb p ((if p.breaks_ x y = true then 0 else t) + len y) (max m ((if p.breaks_ x y = true then 0 else t) + len y)) y l
  | _, m, _, [] => m
theorem drive_ge (p : Plan) (n : Nat) (x : Work) (l : List Work) : n + len x ≤ p.driveFrom n (x :: l) := by
  cases l with
  | nil => exact Nat.le_refl _
  | cons y l => exact Nat.le_max_left _ _
theorem unb_is (p : Plan) : ∀ (l : List Work) (x : Work) (n m : Nat), n + len x ≤ m → unb p (n + len x) m x l = max m (p.driveFrom n (x :: l))
  | [], x, n, m, h => by
    show m = max m (n + len x)
    omega
  | y :: l, x, n, m, h => by
    have e : p.driveFrom n (x :: y :: l) = max (n + len x) (p.driveFrom (if p.breaks_ x y = true then 0 else n + len x) (y :: l)) := rfl
    have ih := unb_is p l y (if p.breaks_ x y = true then 0 else n + len x) (max m ((if p.breaks_ x y = true then 0 else n + len x) + len y)) (Nat.le_max_right _ _)
    have g := drive_ge p (if p.breaks_ x y = true then 0 else n + len x) y l
    unfold unb
    rw [ih, e]
    omega
theorem unb_start (p : Plan) (x : Work) (l : List Work) : unb p (len x) (len x) x l = p.driveFrom 0 (x :: l) := by
  have h := unb_is p l x 0 (len x) (by omega)
  have g := drive_ge p 0 x l
  rw [Nat.zero_add] at h
  rw [h]
  omega

/-! ### homes -/
def homeS (p : Plan) (a b : Nat) (x : Option (Nat × Nat × Nat)) (h : Nat) : Option (Nat × Nat × Nat) := match p.way h a, p.way b h with
  | some m, some n => (match x with
    | none => some (h, m, n)
    | some y => if m + n < y.2.1 + y.2.2 then some (h, m, n) else some y)
  | _, _ => x
theorem home_is (p : Plan) (a b : Nat) : p.home a b = p.homes.foldl (homeS p a b) none := rfl
theorem home_ways (p : Plan) (a b : Nat) : ∀ (l : List Nat) (x : Option (Nat × Nat × Nat)), (∀ h m n, x = some (h, m, n) → p.way h a = some m ∧ p.way b h = some n) → ∀ h m n, l.foldl (homeS p a b) x = some (h, m, n) → p.way h a = some m ∧ p.way b h = some n
  | [], x, k, h, m, n, e => k h m n e
  | i :: l, x, k, h, m, n, e => by
    refine home_ways p a b l (homeS p a b x i) (fun h m n e => ?_) h m n e
    unfold homeS at e
    cases e1 : p.way i a with
    | none => rw [e1] at e; exact k h m n e
    | some m1 =>
      cases e2 : p.way b i with
      | none => rw [e1, e2] at e; exact k h m n e
      | some n1 =>
        rw [e1, e2] at e
        cases x with
        | none =>
          have e' : some (i, m1, n1) = some (h, m, n) := e
          cases e'
          exact ⟨e1, e2⟩
        | some y =>
          have e' : (if m1 + n1 < y.2.1 + y.2.2 then some (i, m1, n1) else some y) = some (h, m, n) := e
          split at e'
          · cases e'
            exact ⟨e1, e2⟩
          · exact k h m n e'
theorem home_found {p : Plan} {a b h m n : Nat} (e : p.home a b = some (h, m, n)) : p.way h a = some m ∧ p.way b h = some n :=
  home_ways p a b p.homes none (fun _ _ _ e => by cases e) h m n e

/-! ### a duty's numbers -/
theorem duty_is (p : Plan) {l : List Work} {x y : Work} (h1 : l.head? = some x) (h2 : l.getLast? = some y) : p.duty l = (p.home x.from_ y.to).map fun h => ⟨h.1, (x.start : Int) - h.2.1 - p.rules.on, (y.halt_ : Int) + h.2.2 + p.rules.off⟩ := by
  unfold Plan.duty
  rw [h1, h2]
theorem pay_is (p : Plan) {l : List Work} {d : Sw82.Duty} (e : p.duty l = some d) : p.pay l = max p.rules.least ((d.halt_ - d.start).toNat + ((d.halt_ - d.start).toNat - p.rules.twice)) := by
  unfold Plan.pay
  rw [e]
theorem pay_int (least twice : Nat) (D : Int) : (max (least : Int) (D + max 0 (D - (twice : Int)))) = ((max least (D.toNat + (D.toNat - twice)) : Nat) : Int) := by
  omega
theorem total_go : ∀ (l : List Nat) (n : Nat), l.foldl (fun a b => a + b) n = n + l.foldl (fun a b => a + b) 0
  | [], n => rfl
  | a :: l, n => by
    rw [List.foldl_cons, List.foldl_cons, total_go l (n + a), total_go l (0 + a)]
    omega
theorem worked_sum : ∀ l : List Work, (∀ w ∈ l, w.start ≤ w.halt_) → (l.map fun w => (w.halt_ : Int) - (w.start : Int)).sum = ((Plan.worked l : Nat) : Int)
  | [], _ => rfl
  | w :: l, h => by
    have ih := worked_sum l fun v hv => h v (.tail _ hv)
    have hw := h w (.head _)
    rw [List.map_cons, List.sum_cons, ih]
    have e : Plan.worked (w :: l) = (w.halt_ - w.start) + Plan.worked l := by
      unfold Plan.worked Sw82.total
      rw [List.map_cons, List.foldl_cons, total_go]
      omega
    rw [e]
    omega
theorem wrong_is (p : Plan) (l : List Work) : p.wrong l = if p.linked l = false then 1 else match p.duty l with
  | none => 2
  | some d => if d.halt_ - d.start > (p.rules.long : Int) then 3 else if p.rules.work < Plan.worked l then 4 else if p.rules.drive < p.driveFrom 0 l then 5 else 0 := rfl
end Du

/-! # Sets of pieces: the least paid ways by the program's loop, the pieces that fit nowhere -/
namespace Du
open Sw82 (Call Plan Work Rules Best Bits)

theorem members_mem {n s i : Nat} : i ∈ Sw82.members n s ↔ i < n ∧ s.testBit i = true := by
  unfold Sw82.members
  rw [List.mem_filter, List.mem_range]
theorem members_nodup (n s : Nat) : (Sw82.members n s).Nodup := List.nodup_range.filter _
theorem members_ne {n s : Nat} (h0 : s ≠ 0) (h : s < 2 ^ n) : Sw82.members n s ≠ [] := fun e => by
  apply h0
  apply Nat.eq_of_testBit_eq
  intro i
  rw [Nat.zero_testBit]
  by_cases hi : i < n
  · cases q : s.testBit i with
    | false => rfl
    | true =>
      have : i ∈ Sw82.members n s := members_mem.mpr ⟨hi, q⟩
      rw [e] at this
      cases this
  · exact Nat.testBit_lt_two_pow (Nat.lt_of_lt_of_le h (Nat.pow_le_pow_right (by omega) (by omega)))
/-- the members told by as many bits as the set has -/
theorem members_short {n k s : Nat} (hk : s < 2 ^ k) (hn : s < 2 ^ n) : Sw82.members k s = Sw82.members n s := by
  have go : ∀ a b : Nat, s < 2 ^ a → Sw82.members (a + b) s = Sw82.members a s := fun a b h => by
    induction b with
    | zero => rfl
    | succ b ih =>
      have e : s.testBit (a + b) = false := Nat.testBit_lt_two_pow (Nat.lt_of_lt_of_le h (Nat.pow_le_pow_right (by omega) (by omega)))
      rw [← ih]
      show Sw82.members (a + b + 1) s = _
      unfold Sw82.members
      rw [List.range_succ, List.filter_append, List.filter_cons, e] <;> simp
  by_cases h : k ≤ n
  · have := go k (n - k) hk
    rw [← this]
    congr 1
    omega
  · have := go n (k - n) hn
    rw [← this]
    congr 1
    omega
theorem lowest_bit {n m : Nat} (h0 : m ≠ 0) (h : m < 2 ^ n) : m.testBit (lowest n m) = true ∧ lowest n m < n := by
  unfold lowest
  have hm := members_ne h0 h
  cases e : Sw82.members n m with
  | nil => exact (hm e).elim
  | cons a l =>
    have : a ∈ Sw82.members n m := by rw [e]; exact .head _
    have := members_mem.mp this
    exact ⟨this.2, this.1⟩
theorem low_le {n m : Nat} (h0 : m ≠ 0) (h : m < 2 ^ n) : 2 ^ lowest n m ≤ m := Nat.ge_two_pow_of_testBit (lowest_bit h0 h).1
theorem and_low {g i : Nat} : (g &&& 2 ^ i = 0) ↔ g.testBit i = false := by
  constructor
  · intro e
    have := congrArg (fun x => Nat.testBit x i) e
    simpa [Nat.testBit_and, Nat.testBit_two_pow_self] using this
  · intro e
    apply Nat.eq_of_testBit_eq
    intro j
    rw [Nat.testBit_and, Nat.zero_testBit]
    by_cases h : i = j
    · subst h
      rw [e, Bool.false_and]
    · rw [Nat.testBit_two_pow_of_ne h, Bool.and_false]
theorem and_inside {n g m : Nat} (hg : g < 2 ^ n) : (g &&& m = g) ↔ Sw82.inside n g m = true := by
  unfold Sw82.inside
  rw [List.all_eq_true]
  constructor
  · intro e i hi
    have := congrArg (fun x => Nat.testBit x i) e
    rw [Nat.testBit_and] at this
    cases a : g.testBit i <;> cases b : m.testBit i <;> simp [a, b] at this ⊢
  · intro e
    apply Nat.eq_of_testBit_eq
    intro i
    rw [Nat.testBit_and]
    by_cases hi : i < n
    · have := e i (List.mem_range.mpr hi)
      cases a : g.testBit i <;> cases b : m.testBit i <;> simp [a, b] at this ⊢
    · have : g.testBit i = false := Nat.testBit_lt_two_pow (Nat.lt_of_lt_of_le hg (Nat.pow_le_pow_right (by omega) (by omega)))
      rw [this, Bool.false_and]

/-! ### the program's loop over sets -/
def cand (p : Plan) (m g : Nat) : Option Best := if (g.testBit (lowest p.works.length m) && Sw82.inside p.works.length g m) = false then none else (pay1 p g).bind fun c => (bestOf p (m - g)).map fun b => ⟨c + b.cost, b.many, g :: b.duties⟩
def upTo (p : Plan) (m k : Nat) : Option Best := ((List.range k).map (cand p m)).foldl Sw82.cheaper none
theorem upTo_succ (p : Plan) (m k : Nat) : upTo p m (k + 1) = Sw82.cheaper (upTo p m k) (cand p m k) := by
  unfold upTo
  rw [List.range_succ, List.map_append, List.foldl_append] <;> rfl
theorem upTo_low (p : Plan) (m : Nat) : ∀ k, k ≤ 2 ^ lowest p.works.length m → upTo p m k = none
  | 0, _ => rfl
  | k + 1, h => by
    rw [upTo_succ, upTo_low p m k (by omega)]
    have e : k.testBit (lowest p.works.length m) = false := Nat.testBit_lt_two_pow (by omega)
    unfold cand
    rw [e, Bool.false_and, if_pos rfl] <;> rfl
theorem upTo_all (p : Plan) {m : Nat} (h0 : m ≠ 0) (h : m < 2 ^ p.works.length) : upTo p m (m + 1) = bestOf p m := (bestOf_pos p h0 h).symm
theorem cheaper_none (a : Option Best) : Sw82.cheaper a none = a := by
  cases a <;> rfl
theorem none_cheaper (b : Option Best) : Sw82.cheaper none b = b := rfl
theorem cheaper_some (x y : Best) : Sw82.cheaper (some x) (some y) = if y.cost < x.cost then some y else if x.cost < y.cost then some x else some ⟨x.cost, x.many + y.many, x.duties⟩ := rfl
/-- a duty with which nothing is wrong -/
def right (p : Plan) (g : Nat) : Bool := decide (g ≠ 0 ∧ p.wrong (p.works_ g) = 0)
theorem pay1_right (p : Plan) (g : Nat) : pay1 p g = if right p g = true then some (p.pay (p.works_ g)) else none := by
  unfold pay1 right
  by_cases h : g = 0
  · simp [h]
  · by_cases k : p.wrong (p.works_ g) = 0 <;> simp [h, k]
/-- the duties of a best way have nothing wrong with them -/
theorem best_right (p : Plan) : ∀ m, m < 2 ^ p.works.length → ∀ b, bestOf p m = some b → ∀ g ∈ b.duties, right p g = true ∧ g ≤ m := by
  intro m
  induction m using Nat.strongRecOn with
  | _ m ih =>
    intro h b e
    by_cases h0 : m = 0
    · subst h0
      rw [bestOf_zero] at e
      cases e
      intro g hg
      cases hg
    · have key : ∀ k, k ≤ m + 1 → ∀ b, upTo p m k = some b → ∀ g ∈ b.duties, right p g = true ∧ g ≤ m := by
        intro k
        induction k with
        | zero => intro _ b e; cases e
        | succ k ihk =>
          intro hk b e
          rw [upTo_succ] at e
          have candOk : ∀ b, cand p m k = some b → ∀ g ∈ b.duties, right p g = true ∧ g ≤ m := by
            intro b e
            unfold cand at e
            split at e
            · cases e
            · rename_i c
              cases e1 : pay1 p k with
              | none => rw [e1] at e; cases e
              | some v =>
                cases e2 : bestOf p (m - k) with
                | none => rw [e1, e2] at e; cases e
                | some b2 =>
                  rw [e1, e2] at e
                  cases e
                  have hr : right p k = true := by
                    rw [pay1_right] at e1
                    split at e1
                    · rename_i z
                      exact z
                    · cases e1
                  have hk0 : k ≠ 0 := by
                    intro z
                    subst z
                    unfold right at hr
                    simp at hr
                  intro g hg
                  rcases List.mem_cons.mp hg with e9 | hg
                  · rw [e9]
                    exact ⟨hr, Nat.le_of_succ_le_succ hk⟩
                  · have := ih (m - k) (Nat.sub_lt (Nat.pos_of_ne_zero h0) (Nat.pos_of_ne_zero hk0)) (Nat.lt_of_le_of_lt (Nat.sub_le _ _) h) b2 e2 g hg
                    exact ⟨this.1, Nat.le_trans this.2 (Nat.sub_le _ _)⟩
          cases e1 : upTo p m k with
          | none =>
            rw [e1, none_cheaper] at e
            exact candOk b e
          | some x =>
            cases e2 : cand p m k with
            | none =>
              rw [e1, e2, cheaper_none] at e
              cases e
              exact ihk (by omega) _ e1
            | some y =>
              rw [e1, e2, cheaper_some] at e
              split at e
              · cases e
                exact candOk _ e2
              · split at e
                · cases e
                  exact ihk (by omega) _ e1
                · cases e
                  exact ihk (by omega) x e1
      exact key (m + 1) (Nat.le_refl _) b (by rw [upTo_all p h0 h]; exact e)

/-! ### the pieces that fit nowhere -/
theorem never_is (p : Plan) : p.never = (List.range p.works.length).filter fun i => !decide (∃ g, g < 2 ^ p.works.length ∧ right p g = true ∧ g.testBit i = true) := by
  unfold Plan.never
  apply List.filter_congr
  intro i hi
  rw [List.mem_range] at hi
  by_cases h : ∃ g, g < 2 ^ p.works.length ∧ right p g = true ∧ g.testBit i = true
  · rw [decide_eq_true h]
    obtain ⟨g, h1, h2, h3⟩ := h
    unfold right at h2
    have h2' := of_decide_eq_true h2
    show _ = false
    rw [List.all_eq_false]
    refine ⟨g, List.mem_range.mpr h1, ?_⟩
    simp [h3, h2'.2]
  · rw [decide_eq_false h]
    show _ = true
    rw [List.all_eq_true]
    intro g hg
    rw [List.mem_range] at hg
    cases a : g.testBit i with
    | false => rfl
    | true =>
      by_cases k : p.wrong (p.works_ g) = 0
      · exfalso
        apply h
        refine ⟨g, hg, decide_eq_true ⟨fun z => ?_, k⟩, a⟩
        subst z
        rw [Nat.zero_testBit] at a
        cases a
      · simp [k]

/-! ### check's pieces -/
theorem rising_pairwise : ∀ l : List Nat, Sw82.rising l = true ↔ l.Pairwise (· < ·)
  | [] => by simp [Sw82.rising]
  | [a] => by simp [Sw82.rising]
  | a :: b :: l => by
    have ih := rising_pairwise (b :: l)
    show (decide (a < b) && Sw82.rising (b :: l)) = true ↔ _
    rw [Bool.and_eq_true, ih, decide_eq_true_iff]
    constructor
    · rintro ⟨h1, h2⟩
      refine List.pairwise_cons.mpr ⟨fun x hx => ?_, h2⟩
      rcases List.mem_cons.mp hx with rfl | hx
      · exact h1
      · exact Nat.lt_trans h1 ((List.pairwise_cons.mp h2).1 x hx)
    · intro h
      obtain ⟨h1, h2⟩ := List.pairwise_cons.mp h
      exact ⟨h1 b (.head _), h2⟩
theorem rising_at : ∀ {l : List Nat}, Sw82.rising l = true ↔ ∀ i, i + 1 < l.length → l.getD i 0 < l.getD (i + 1) 0
  | [] => by simp [Sw82.rising]
  | [a] => by simp [Sw82.rising]
  | a :: b :: l => by
    have ih := rising_at (l := b :: l)
    show (decide (a < b) && Sw82.rising (b :: l)) = true ↔ _
    rw [Bool.and_eq_true, ih, decide_eq_true_iff]
    constructor
    · rintro ⟨h1, h2⟩ i hi
      cases i with
      | zero => exact h1
      | succ i => exact h2 i (by simp at hi ⊢; omega)
    · intro h
      refine ⟨h 0 (by simp), fun i hi => ?_⟩
      exact h (i + 1) (by simp at hi ⊢; omega)
theorem last_all {l : List Nat} {n : Nat} (h : Sw82.rising l = true) (hne : l ≠ []) : (l.all fun i => decide (i < n)) = decide (l.getLast hne < n) := by
  have hp := (rising_pairwise l).mp h
  by_cases k : l.getLast hne < n
  · rw [decide_eq_true k, List.all_eq_true]
    intro x hx
    apply decide_eq_true
    obtain ⟨i, hi, rfl⟩ := List.mem_iff_getElem.mp hx
    rw [List.getLast_eq_getElem] at k
    by_cases e : i = l.length - 1
    · subst e; exact k
    · exact Nat.lt_trans (List.pairwise_iff_getElem.mp hp i (l.length - 1) hi (by omega) (by omega)) k
  · rw [decide_eq_false k, List.all_eq_false]
    exact ⟨l.getLast hne, List.getLast_mem hne, by simpa using k⟩
def checkOk (p : Plan) (l : List Nat) : Bool := Sw82.rising l && (!l.isEmpty && l.all fun i => decide (i < p.works.length))
end Du

/-! # How a plan lies in the heap -/
namespace Du
open PySem PySem.Spec PyProof.Rows L2
open Sw82 (Call Plan Work Rules)
abbrev vN (n : Nat) : V := .int (n : Int)
/-- where the five lists and the dict of ways of a depot stand, and its own dict -/
structure Own where
  dx : Addr
  lr : Addr
  lb : Addr
  lh : Addr
  lw : Addr
  ls : Addr
  lp : Addr
def Own.five (D : Own) : List Addr := [D.lr, D.lb, D.lh, D.lw, D.ls, D.lp]
def dF (D : Own) : List (Str × V) := [("rules", .ref D.lr), ("can_break", .ref D.lb), ("homes", .ref D.lh), ("ways", .ref D.lw), ("shortest", .ref D.ls), ("pieces", .ref D.lp)]
def wayV (x : Nat × Nat × Nat) : List V := [vN x.1, vN x.2.1, vN x.2.2]
def workV (x : Work) : List V := [vN x.from_, vN x.to, vN x.start, vN x.halt_]
/-- tuples at these places -/
def Tups (H : Hp) : List Addr → List (List V) → Prop
  | [], [] => True
  | t :: ts, l :: ls => H t = some (.tup l) ∧ Tups H ts ls
  | _, _ => False
structure Dep (C : Addr) (H : Hp) (a : Addr) (D : Own) (p : Plan) : Prop where
  ins : H a = some (.ins C D.dx (dF D))
  r : H D.lr = some (.lst ((rulesN p.rules).map vN))
  b : H D.lb = some (.lst ((brkN p.breaks).map vN))
  h : H D.lh = some (.lst (p.homes.map vN))
  w : ∃ ts : List Addr, H D.lw = some (.lst (ts.map V.ref)) ∧ Tups H ts (p.ways.map wayV)
  s : ∃ kvs : List (List Key × V), H D.ls = some (.dT kvs) ∧ kvs.length ≤ p.ways.length ∧ ∀ a b : Nat, valV kvs [.inl (a : Int), .inl (b : Int)] = (wayF p.ways a b).map vN
  p : ∃ ts : List Addr, H D.lp = some (.lst (ts.map V.ref)) ∧ Tups H ts (p.works.map workV)
  nd : D.five.Nodup
/-- what a call on a depot may change: its own lists, its own fields; what is new may be its own -/
structure Moves (H H' : Hp) (a : Addr) (D D' : Own) : Prop where
  keep : ∀ b o, H b = some o → b ≠ a → b ∉ D.five → H' b = some o
  five : ∀ b, b ∈ D'.five → b ∈ D.five ∨ H b = none

theorem Tups.len {H : Hp} : ∀ {ts : List Addr} {ls : List (List V)}, Tups H ts ls → ts.length = ls.length
  | [], [], _ => rfl
  | _ :: _, _ :: _, h => congrArg (· + 1) (Tups.len h.2)
  | [], _ :: _, h => h.elim
  | _ :: _, [], h => h.elim
theorem Tups.mono {H H' : Hp} : ∀ {ts : List Addr} {ls : List (List V)}, Tups H ts ls → (∀ t l, H t = some (.tup l) → H' t = some (.tup l)) → Tups H' ts ls
  | [], [], _, _ => trivial
  | _ :: _, _ :: _, h, k => ⟨k _ _ h.1, Tups.mono h.2 k⟩
  | [], _ :: _, h, _ => h.elim
  | _ :: _, [], h, _ => h.elim
theorem Tups.snoc {H : Hp} {t : Addr} {l : List V} (ht : H t = some (.tup l)) : ∀ {ts : List Addr} {ls : List (List V)}, Tups H ts ls → Tups H (ts ++ [t]) (ls ++ [l])
  | [], [], _ => ⟨ht, trivial⟩
  | _ :: _, _ :: _, h => ⟨h.1, Tups.snoc ht h.2⟩
  | [], _ :: _, h => h.elim
  | _ :: _, [], h => h.elim
/-- a list that changes, a new object: no tuple that stands is another -/
theorem tup_keep {H : Hp} {a : Addr} {o u : HO} (h : H a = some u) (hu : ∀ l, u ≠ .tup l) : ∀ t l, H t = some (.tup l) → upd H a o t = some (.tup l) := fun t l e => by
  rw [upd_ne (ne_of e h fun z => hu l z.symm)]
  exact e
theorem tup_new {H : Hp} {a : Addr} {o : HO} (h : H a = none) : ∀ t l, H t = some (.tup l) → upd H a o t = some (.tup l) := fun t l e => by
  rw [upd_ne (ne_of_none e h)]
  exact e
/-- all but tables of code objects stays -/
abbrev Ext := LamX.ExtN
theorem Same.ext {H H' : Hp} (s : Same H H') : Ext H H' := fun b o h _ => s b o h
theorem Tups.ext {H H' : Hp} {ts : List Addr} {ls : List (List V)} (h : Tups H ts ls) (s : Ext H H') : Tups H' ts ls := h.mono fun _ _ e => s _ _ e (by intro ps z; cases z)
theorem Dep.ext {C : Addr} {H H' : Hp} {a : Addr} {D : Own} {p : Plan} (d : Dep C H a D p) (s : Ext H H') : Dep C H' a D p := by
  obtain ⟨ts, e1, e2⟩ := d.w
  obtain ⟨us, e3, e4⟩ := d.p
  obtain ⟨kvs, e5, e6⟩ := d.s
  have k : ∀ {b : Addr} {o : HO}, H b = some o → (∀ ps, o ≠ .tbl ps) → H' b = some o := fun h n => s _ _ h n
  exact ⟨k d.ins (by intro ps z; cases z), k d.r (by intro ps z; cases z), k d.b (by intro ps z; cases z), k d.h (by intro ps z; cases z), ⟨ts, k e1 (by intro ps z; cases z), e2.ext s⟩, ⟨kvs, k e5 (by intro ps z; cases z), e6⟩, ⟨us, k e3 (by intro ps z; cases z), e4.ext s⟩, d.nd⟩
/-- all that a depot needs stands as it was -/
theorem Dep.same {C : Addr} {H H' : Hp} {a : Addr} {D : Own} {p : Plan} (d : Dep C H a D p) (s : Same H H') : Dep C H' a D p := d.ext (Same.ext s)
theorem Moves.same {H H' : Hp} {a : Addr} {D : Own} (s : Same H H') : Moves H H' a D D := ⟨fun b o h _ _ => s b o h, fun _ h => .inl h⟩
theorem same_new {H : Hp} {a : Addr} {o : HO} (h : H a = none) : Same H (upd H a o) := fun b u e => by
  rw [upd_ne (ne_of_none e h)]
  exact e

theorem lk_here {k : Str} {v : V} {r : List (Str × V)} : List.lookup k ((k, v) :: r) = some v := by
  have e : (k == k) = true := beq_self_eq_true k
  simp only [List.lookup, e]
theorem lk_past {k g : Str} {v : V} {r : List (Str × V)} (h : (k == g) = false) : List.lookup k ((g, v) :: r) = List.lookup k r := by
  simp only [List.lookup, h]
theorem dF_rules (D : Own) : (dF D).lookup ("rules" : Str) = some (.ref D.lr) := lk_here
theorem dF_brk (D : Own) : (dF D).lookup ("can_break" : Str) = some (.ref D.lb) := (lk_past (by decide +kernel)).trans lk_here
theorem dF_homes (D : Own) : (dF D).lookup ("homes" : Str) = some (.ref D.lh) := (lk_past (by decide +kernel)).trans ((lk_past (by decide +kernel)).trans lk_here)
theorem dF_ways (D : Own) : (dF D).lookup ("ways" : Str) = some (.ref D.lw) := (lk_past (by decide +kernel)).trans ((lk_past (by decide +kernel)).trans ((lk_past (by decide +kernel)).trans lk_here))
theorem dF_short (D : Own) : (dF D).lookup ("shortest" : Str) = some (.ref D.ls) := (lk_past (by decide +kernel)).trans ((lk_past (by decide +kernel)).trans ((lk_past (by decide +kernel)).trans ((lk_past (by decide +kernel)).trans lk_here)))
theorem dF_pieces (D : Own) : (dF D).lookup ("pieces" : Str) = some (.ref D.lp) := (lk_past (by decide +kernel)).trans ((lk_past (by decide +kernel)).trans ((lk_past (by decide +kernel)).trans ((lk_past (by decide +kernel)).trans ((lk_past (by decide +kernel)).trans lk_here))))
theorem dF_none {m : Str} (D : Own) (h1 : (m == ("rules" : Str)) = false) (h2 : (m == ("can_break" : Str)) = false) (h3 : (m == ("homes" : Str)) = false) (h4 : (m == ("ways" : Str)) = false) (h6 : (m == ("shortest" : Str)) = false) (h5 : (m == ("pieces" : Str)) = false) : (dF D).lookup m = none :=
  (lk_past h1).trans ((lk_past h2).trans ((lk_past h3).trans ((lk_past h4).trans ((lk_past h6).trans ((lk_past h5).trans rfl)))))

/-! ### numbers in a list -/
theorem map_vN (l : List Nat) : l.map vN = (l.map fun (n : Nat) => (n : Int)).map V.int := by
  rw [List.map_map]
  rfl
theorem eqV_int (i j : Int) : eqV (.int i) (.int j) = decide (i = j) := by
  show (i == j) = _
  rfl
theorem inV_nat (i : Nat) (l : List Nat) : inV (vN i) (l.map vN) = decide (i ∈ l) := by
  unfold inV
  induction l with
  | nil => rfl
  | cons a l ih =>
    rw [List.map_cons, List.any_cons, ih]
    rw [eqV_int]
    by_cases e : a = i
    · subst e
      simp
    · have e' : ¬ ((a : Int) = (i : Int)) := fun z => e (Int.ofNat.inj z)
      have e'' : ¬ i = a := fun z => e z.symm
      simp [e', e'']
theorem flat_nat (l : List Nat) : (l.map vN).all flatV = true := by
  rw [List.all_eq_true]
  intro x hx
  obtain ⟨n, _, rfl⟩ := List.mem_map.mp hx
  rfl
end Du

/-! # sorted(xs, key=lambda n: (rows[n][K], n)) -/
namespace Du
open PySem PySem.Spec PyProof.Rows L2
/-- the words of such a lambda -/
structure KeyLam (params : Arguments) (body : Expr) (scope : Scope) (nn np nf : Str) : Prop where
  bd : ∃ p1 p2 p3 p4 p5 p6 k p7, body = .Tuple [.Subscript (.Subscript (.Name np p1) (.Name nn p2) p3) (.Name nf p4) p5, .Name nn p6] k p7
  kind : scope.kind = .function
  co : scope.isCoroutine = false
  gen : scope.isGenerator = false
  nocell : ∀ y ∈ scope.names, y.2 ≠ .cell
  hn : scope.names.lookup nn = some .local
  hp : scope.names.lookup np = some .free
  hf : scope.names.lookup nf = some .globalImplicit
  dn : (nn == ("__debug__" : Str)) = false
  dp : (np == ("__debug__" : Str)) = false
  dc : (np == ("__classdict__" : Str)) = false
  df : (nf == ("__debug__" : Str)) = false
  bind : ∀ (q : Str) (cl : List (Str × Addr)) (pm cv ctv v : Value), bindArgs (PySem.W.kla_fn "<lambda>" q params body scope cl pm cv ctv) ⟨[v], []⟩ = pure [(nn, v)]
theorem lam_turn {prog : Program} {w : World} {A : Around} {s : Shared} {f c' c lp tp : Addr} {params : Arguments} {body : Expr} {scope : Scope} {nn np nf : Str} {qual : Str} {cl : List (Str × Addr)} {pm ctv : Value} {mg : Str → Option Value} {n j : Nat} {t tf : Tok} {a : Int} {ta : Tok}
    {its ws : Array Value} (L : KeyLam params body scope nn np nf) (hd : A.depth < recursionLimit) (hl : s.heap.NoLimit)
    (hf : s.heap.get? f = some (PySem.W.kla_obj "<lambda>" qual params body scope cl pm c' ctv)) (hc : s.heap.CodeRec (.ref c') qual)
    (h1 : cl.lookup np = some c) (h2 : s.heap.IsCell c (some (.ref lp))) (h3 : s.heap.IsList lp its) (h4 : its[n]? = some (.ref tp)) (h5 : IsTup s.heap tp ws) (h6 : ws[j]? = some (.int a ta)) (h7 : s.heap.Ns mainGlobals mg) (h8 : mg nf = some (.int (j : Nat) tf)) (hn : n < 2 ^ 62) (hj : j < 2 ^ 62) (hw : j < ws.size) :
    wpAny (model prog w) A (call (.ref f) [.int (n : Nat) t]) (PySem.W.KeyPure (.tuple [.int a, .int (n : Nat)]) s) (fun _ _ => False) s := by
  obtain ⟨p1, p2, p3, p4, p5, p6, k, p7, rfl⟩ := L.bd
  obtain ⟨c2, oc, vs, tq, e2, hoc, hdc, hq⟩ := hc
  cases e2
  refine wpAny_call (PySem.W.kla_callFunE hd hf rfl L.co L.gen rfl ⟨c', oc, vs, tq, rfl, hoc, hdc, hq⟩ ?_)
  rw [L.bind]
  refine wpAny_pure (wpAny_newFunctionEnv L.nocell (fun x hx => ?_) (fun h₁ hns hsb => ⟨hl.fresh _ hsb, ?_⟩) L.kind)
  · rw [List.mem_singleton] at hx
    subst hx
    exact L.hn
  have kp : ∀ b o, s.heap.get? b = some o → h₁.get? b = some o := fun b o e => hsb.extBut b o (Nat.ne_of_lt (Heap.lt_size e)) (Heap.get?_push_of_some _ e)
  refine PySem.W.kla_codeExpr ?_
  have hcell : h₁.IsCell c (some (.ref lp)) := by
    obtain ⟨o, ho, hd⟩ := h2
    exact ⟨o, kp _ _ ho, hd⟩
  have hlist : h₁.IsList lp its := by
    obtain ⟨o, ho, r⟩ := h3
    exact ⟨o, kp _ _ ho, r⟩
  have htup : IsTup h₁ tp ws := by
    obtain ⟨o, ho, r⟩ := h5
    exact ⟨o, kp _ _ ho, r⟩
  have hglob : h₁.Ns mainGlobals mg := by
    obtain ⟨o, es, ep, ho, r⟩ := h7
    exact ⟨o, es, ep, kp _ _ ho, r⟩
  have hlk : ([(nn, Value.int (n : Nat) t)] : List (Str × Value)).reverse.lookup nn = some (Value.int (n : Nat) t) := by
    simp [List.lookup]
  refine wpAny_Tuple_spliced (Calls.spliced_cons (Subscript_ (Subscript_ ?_)))
  refine wpAny_Name (wpAny_loadName_free L.kind L.hp h1 hcell ?_ L.dc) L.dp
  refine wpAny_Name (wpAny_loadName_local L.kind L.hn hns hlk ?_) L.dn
  refine item_listR hlist (by omega) (by omega) (x := .ref tp) (by simpa using h4) ?_
  refine Calls.Name_function_global L.kind L.hf (Calls.loadGlobal_global hglob h8 ?_) L.df
  have hix : seqIndex? ((j : Nat) : Int) ws.size = some j := by
    rw [seqIndex_of (by omega) (by omega)]
    rfl
  refine subscriptTail_builtinR (x := .int a ta) htup.typeIs slot_tuple_getitem.lookup (getItem_tuple (j := j) htup (by omega) (by omega) hix h6 ⟨rfl, ?_⟩)
  refine Calls.spliced_cons (wpAny_Name (wpAny_loadName_local L.kind L.hn hns hlk ?_) L.dn)
  refine Calls.spliced_nil ⟨by show 2 ≤ sizeLine; decide, ?_⟩
  refine ⟨_, _, rfl, fun b o e => Heap.get?_push_of_some _ (kp b o e), ?_⟩
  exact .tuple (Heap.get?_push_size _ rfl) rfl rfl (.cons (.int a ta) (.cons (.int _ t) .nil))
/-- how the sorted list is told -/
def keyLe (key : Nat → Int) (p q : Nat) : Bool := decide (key p < key q ∨ (key p = key q ∧ p ≤ q))
def rSortLam (K : PySem.W.Frag) (T : List (Addr × Str)) (ip j : Nat) (σ : L2.St) (x : V) (H1 : Hp) (Q : VK) : Prop := ∃ (l lp : Addr) (ns : List Nat) (rows : List (List V)) (ts : List Addr) (key : Nat → Int),
  x = .ref l ∧ SqL K H1 l (ns.map vN) ∧ σ[ip]? = some (some (.ref lp)) ∧ H1 lp = some (.lst (ts.map V.ref)) ∧ Tups H1 ts rows ∧ (∀ n ∈ ns, ∃ r, rows[n]? = some r ∧ r[j]? = some (.int (key n))) ∧ ns.length ≤ 1000 ∧ rows.length ≤ 1000 ∧ LamX.Tabs T H1 ∧
  ∀ H2 r, LamX.ExtN H1 H2 → LamX.Tabs T H2 → H2 r = none → Q (.ref r) (upd H2 r (.lst ((ns.mergeSort (keyLe key)).map vN)))
def tSortLam (K : PySem.W.Frag) (T : List (Addr × Str)) (ip j : Nat) (ta : TE) : TE := fun σ H Q => ta σ H fun x H1 => rSortLam K T ip j σ x H1 Q
theorem Tups.at {H : Hp} : ∀ {ts : List Addr} {ls : List (List V)} {n : Nat} {r : List V}, Tups H ts ls → ls[n]? = some r → ∃ t, ts[n]? = some t ∧ H t = some (.tup r)
  | [], [], _, _, _, e => by simp at e
  | t :: _, _ :: _, 0, r, h, e => by
    simp at e
    subst e
    exact ⟨t, rfl, h.1⟩
  | _ :: _, _ :: _, n + 1, r, h, e => by
    obtain ⟨t, h1, h2⟩ := Tups.at (n := n) h.2 (by simpa using e)
    exact ⟨t, by simpa using h1, h2⟩
  | [], _ :: _, _, _, h, _ => h.elim
  | _ :: _, [], _, _, h, _ => h.elim
theorem each_vN : ∀ {ns : List Nat} {us : List Value}, Vals (ns.map vN) us → PySem.W.EachIs (fun (v : Value) (n : Nat) => ∃ t, v = .int (n : Nat) t) us ns
  | [], _, r => by
    cases r
    exact .nil
  | n :: ns, _, r => by
    cases r with
    | cons h t => exact .cons h (each_vN t)
theorem vN_each : ∀ {ns : List Nat} {us : List Value}, PySem.W.EachIs (fun (v : Value) (n : Nat) => ∃ t, v = .int (n : Nat) t) us ns → Vals (ns.map vN) us
  | [], _, r => by
    cases r
    exact .nil
  | n :: ns, _, r => by
    cases r with
    | cons h t => exact .cons h (vN_each t)
section
variable {X : Cx}
theorem pe_sortLam {T : List (Addr × Str)} {c P : Addr} {params : Arguments} {body : Expr} {scope : Scope} {nn np nf : Str} {xs : Expr} {ta : TE} {ip j k : Nat} {tf : Tok} {p lpos kpos pos : Pos}
    (L : KeyLam params body scope nn np nf) (hg : Gl X "sorted") (hm : X.mg "sorted" = none) (hxs : PE X xs ta) (TB : LamX.TabB X.base X.mg c P) (hcode : X.env.code = .ref c) (hmT : (P, X.env.qual ++ "<lambda>") ∈ T) (hu : ∀ p ∈ T, p.1 = P → p.2 = X.env.qual ++ "<lambda>")
    (hdef : defaultsOf params X.env = ([], [])) (hfree : ∀ y ∈ scope.names, y.2 = .free → X.env.scope.names.lookup y.1 = some .cell) (hfr : (np, NameKind.free) ∈ scope.names) (hmg : X.mg nf = some (.int (j : Nat) tf)) (hN : X.N[ip]? = some np) (hv : X.env.scope.names.lookup np = some .cell) (hr : Room k X.A) (hj : j < 2 ^ 62)
    (he : starEach [xs] X.env = (false, eval xs X.env) :: starEach [] X.env := by rfl) :
    PE X (.Call (.Name "sorted" p) [xs] [⟨some "key", .Lambda params body scope lpos, kpos⟩] pos) (tSortLam X.K T ip j ta) := by
  refine ⟨fun pins s σ H Q I h => ?_⟩
  have hfr2 : ∀ y ∈ scope.names, y.2 = .free → ∃ c, X.env.cells.lookup y.1 = some c := fun y hy e => I.ok.has _ (.inl (hfree y hy e))
  refine wpAny_Call_Name_kw (ld_blt I hg hm (u := .builtin "sorted") (by decide +kernel) ?_)
  refine PyProof.Rows.callWith_kw (thn ((pa_cons hxs pa_nil he).run pos pins s σ H (fun vs H1 => match vs with | [x] => rSortLam X.K T ip j σ x H1 Q | _ => False) I h) fun us s1 ⟨vs, H1, I1, r1, q1⟩ => ?_) (by rw [he] <;> rfl) (by rw [he] <;> rfl)
  · obtain ⟨x, rfl⟩ : ∃ x, vs = [x] := by
      match vs, q1 with
      | [x], _ => exact ⟨x, rfl⟩
    obtain ⟨l, lp, ns, rows, ts, key, rfl, hl, hp, hlp, htp, hkey, hn1, hn2, hT, q⟩ := q1
    obtain rfl := Vals.ref1 r1
    refine wpAny_evalAll_cons (wpAny_bind (LamX.lam_make2 I1 TB hcode hmT hu hT hdef hfr2 fun f c' pm ctv H2 s2 I2 e2 T2 hf hfn hff hco => wpAny_bind (wpAny_standAt (wpAny_pure (wpAny_evalAll_nil ?_)))))
    have hlp2 : H2 lp = some (.lst (ts.map V.ref)) := e2 _ _ hlp (by intro ps z; cases z)
    have htp2 : Tups H2 ts rows := htp.mono fun t l h => e2 _ _ h (by intro ps z; cases z)
    have hl2 : SqL X.K H2 l (ns.map vN) := by
      rcases hl with (z | z) | z
      · exact .inl (.inl (e2 _ _ z (by intro ps z; cases z)))
      · obtain ⟨o, z⟩ := z
        exact .inl (.inr ⟨o, e2 _ _ z (by intro ps z; cases z)⟩)
      · exact .inr z
    obtain ⟨its, rv, pl, hz⟩ := I2.list hl2
    obtain ⟨lts, rv2, pl2, hz2⟩ := I2.list (.inl (.inl hlp2))
    obtain ⟨m, _, hlk⟩ := I2.loc
    obtain ⟨u, ru, lk⟩ := hlk ip np (.ref lp) hN hp (.inr (.inl hv))
    obtain rfl : u = Value.ref lp := ru
    have hkd : X.env.kindOf np = some .cell := hv
    obtain ⟨cc, hcc, hcell⟩ : ∃ cc, X.env.cells.lookup np = some cc ∧ s2.heap.IsCell cc (some (.ref lp)) := by
      rcases lk with ⟨z, _⟩ | ⟨_, z⟩
      · rw [hkd] at z
        cases z
      · exact z
    have hcl : (cloFrom X.env.cells scope.names []).lookup np = some cc := NdefX.clo_has hfr2 hfr hcc
    have hcode2 : s2.heap.CodeRec (.ref c') (X.env.qual ++ "<lambda>") := NdefX.codeO_at I2.hok hco
    refine PySem.W.sorted_key_data (β := Nat) (b := false) (vs := its) (bs := ns) (R := fun (v : Value) (n : Nat) => ∃ t, v = .int (n : Nat) t) (fun n => .tuple [.int (key n), .int (n : Nat)]) pl.isList (each_vN rv) (PySem.W.AllAlike.of fun b b' => ?_) (PySem.W.Sortable.tuples fun b => ⟨_, _, rfl⟩)
      (Nat.le_trans hn1 (by decide)) (fun n hn => ?_) (PyProof.Rows.ksk_s1 _ _) (fun x => PyProof.Rows.ksk_l1 _ _) (fun x => PyProof.Rows.ksk_t1 _ _) (fun v n hR hn h tk kp => ?_) fun out cc' h' tk kp hfresh ho hlen hout => ?_
    · simp [PySem.W.alike, PySem.W.alikeAll]
    · have := hr.units
      simp only [PyData.depth, PyData.depthAll]
      omega
    · obtain ⟨t, rfl⟩ := hR
      obtain ⟨r, hr1, hr2⟩ := hkey n hn
      obtain ⟨tp, ht1, ht2⟩ := Tups.at htp2 hr1
      have hnl : n < rows.length := (List.getElem?_eq_some_iff.mp hr1).1
      obtain ⟨u1, hu1, ru1⟩ := rv2.get (i := n) (x := .ref tp) (by rw [List.getElem?_map, ht1] <;> rfl)
      obtain rfl : u1 = Value.ref tp := ru1
      obtain ⟨its3, rv3, pt3, _⟩ := I2.tuple (.inl (.inl ht2))
      obtain ⟨u2, hu2, ru2⟩ := rv3.get hr2
      obtain ⟨t2, rfl⟩ := ru2
      have hjl : j < its3.length := (List.getElem?_eq_some_iff.mp hu2).1
      obtain ⟨c9, oc, vs9, tq, e9, hoc, hdc, hq9⟩ := hcode2
      refine lam_turn (s := { s2 with heap := h, toks := tk }) (A := X.A.in1.in1) L hr.depth (I2.nolimit.keeps kp) (kp _ _ hf) ⟨c9, oc, vs9, tq, e9, kp _ _ hoc, hdc, hq9⟩ hcl ?_ (pl2.keeps kp).isList (its := lts.toArray) (by simpa using hu1) (ws := its3.toArray) ?_ (by simpa using hu2) ((I2.mod.glob.keeps I2.bk).keeps kp) hmg (by omega) hj (by simpa using hjl)
      · obtain ⟨o, ho, hd⟩ := hcell
        exact ⟨o, kp _ _ ho, hd⟩
      · obtain ⟨o, ho, r⟩ := pt3
        exact ⟨o, kp _ _ ho, r⟩
    · have hle : PySem.W.dataLe false (fun n : Nat => PyData.tuple [.int (key n), .int (n : Nat)]) = keyLe key := by
        refine (PySem.W.dataLe_ii key fun n => ((n : Nat) : Int)).trans ?_
        funext p q
        unfold keyLe
        simp
      rw [hle] at hout
      have rvo := vN_each hout
      have hlen2 : ((ns.mergeSort (keyLe key)).map vN).length ≤ sizeLine := by
        rw [List.length_map, List.length_mergeSort]
        exact Nat.le_trans hn1 (by decide)
      exact ⟨.ref (s2.heap.objs.size + 1), upd H2 (s2.heap.objs.size + 1) (.lst ((ns.mergeSort (keyLe key)).map vN)), I2.laid (t' := tk) kp (Nat.le_succ _) ⟨hlen2, out, cc', rvo, ho⟩, rfl, q _ _ e2 T2 (I2.hok.fresh (Nat.le_succ _))⟩
end
end Du

/-! # The end of a Spec row where a def makes a lambda: one table of code objects is told -/
namespace Du
open PySem PySem.Spec PyProof.Rows L2
open PySem.W (WData Codec OpenSpec WellAll ReadsAllW ReadsW)
/-- what an argument's heap says stays said where it grows by a table -/
theorem seqL_more {K : PySem.W.Frag} {H H' : Hp} {a : Addr} {xs : List V} (k : ∀ b o, H b = some o → H' b = some o) (h : SqL K H a xs) : SqL K H' a xs := by
  rcases h with (z | ⟨o, z⟩) | z
  · exact .inl (.inl (k _ _ z))
  · exact .inl (.inr ⟨o, k _ _ z⟩)
  · exact .inr z
theorem seqT_more {K : PySem.W.Frag} {H H' : Hp} {a : Addr} {xs : List V} (k : ∀ b o, H b = some o → H' b = some o) (h : SqT K H a xs) : SqT K H' a xs := by
  rcases h with (z | ⟨o, z⟩) | z
  · exact .inl (.inl (k _ _ z))
  · exact .inl (.inr ⟨o, k _ _ z⟩)
  · exact .inr z
mutual
theorem dw_more {K : PySem.W.Frag} {H H' : Hp} (k : ∀ b o, H b = some o → H' b = some o) : ∀ {v : V} {d : WData}, Dw K H v d → Dw K H' v d
  | _, _, .non => .non
  | _, _, .bl b => .bl b
  | _, _, .int i => .int i
  | _, _, .str x => .str x
  | _, _, .byt b => .byt b
  | _, _, .lst h t => .lst (seqL_more k h) (dws_more k t)
  | _, _, .tup h t => .tup (seqT_more k h) (dws_more k t)
theorem dws_more {K : PySem.W.Frag} {H H' : Hp} (k : ∀ b o, H b = some o → H' b = some o) : ∀ {vs : List V} {ds : List WData}, DwAll K H vs ds → DwAll K H' vs ds
  | _, _, .nil => .nil
  | _, _, .cons h t => .cons (dw_more k h) (dws_more k t)
end
/-- the call, from a heap that tells the arguments and the table at P of the code object at c -/
theorem callT {P : Program} {w : World} {K : PySem.W.Frag} {mg mb : Str → Option Value} {k : Nat} {fa c Tb : Addr} {fd : FuncData} {ps : List Str} {sp : Sp} {s₁ : Shared} {us : List Value} {ds : List WData} {d0 : WData} {R : PySem.W.WRecords} {cl : Str → Option Addr}
    (hK : K.In s₁.heap) (hG : s₁.heap.Ns mainGlobals mg) (hB : s₁.heap.Ns builtinsNs mb) (hBB : ∀ x : Str, x ≠ "__name__" → mb x = bootBuiltins x) (hLim : s₁.heap.NoLimit) (hGen : s₁.gens = #[])
    (hBm : ∃ (bm : Addr) (ob : Obj), mg "__builtins__" = some (.ref bm) ∧ bm ≠ builtinsNs ∧ s₁.heap.get? bm = some ob ∧ ob.cls = .type "module" ∧ ob.dict = some builtinsNs ∧ ob.data = .plain)
    (hC : PySem.W.CodeHd s₁.heap c Tb) (hT : s₁.heap.get? Tb = some (PySem.W.tabObj #[])) (nT : K.lookup Tb = none)
    (hW : WellAll w.params s₁.heap us ds) (hP : plWs ds = true) (hZ : ∀ d ∈ ds, d.weight ≤ 1048576) (hR : Room k callerA)
    (F : ∀ base : Heap, K.In base → base.Ns mainGlobals mg → LamX.TabB base mg c Tb → FnOk P w K mg base CX0 k fa fd ps sp) (hBi : ∀ (s : Shared) (us : List Value), us.length = ps.length → BindsTo s fd ⟨us, []⟩ (ps.zip us)) (hN : ds.length = ps.length)
    (hS : ∀ (H : Hp) (xs : List V), H Tb = some (.tbl #[]) → DwAll K H xs ds → sp xs H (fun v H' => Dw K H' v d0) fun _ _ _ => False) :
    codeAny (model P w) callerA (.call (.ref fa) ⟨us, []⟩) (fun r s' => ∃ u as, r = .ok (.ret u) ∧ ReadsW R cl s'.heap u d0 as ∧ OldK s₁.heap s'.heap ∧ s'.os = s₁.os ∧ AllBare s'.gens) s₁ := by
  obtain ⟨A, hu, har⟩ := area_all ds us hW hP hZ
  have tA : Tb ∉ A := fun z => by
    obtain ⟨vs, _, _, q⟩ := har Tb z
    rcases q with q | q <;> (rw [hT] at q; injection q with q; exact absurd (congrArg Obj.cls q) (by intro z; cases z))
  have ha0 : argH K s₁.heap A Tb = none := by
    unfold argH
    rw [if_neg tA]
  have grow : ∀ b o, argH K s₁.heap A b = some o → upd (argH K s₁.heap A) Tb (.tbl #[]) b = some o := fun b o e => (upd_ne (ne_of_none e ha0)).trans e
  have hData := dws_more grow (dw_all hK har ds us hW hP hu)
  have hVals := vals_toV hu
  have hOk : HOk P w (upd (argH K s₁.heap A) Tb (.tbl #[])) s₁.heap := fun b o e => by
    by_cases hb : b = Tb
    · subst hb
      rw [upd_same] at e
      cases e
      exact hT
    · rw [upd_ne hb] at e
      exact (argH_ok har b o e).stay (fun _ _ _ q => q) (fun _ q => grow _ _ q) fun _ _ q => grow _ _ q
  have hTold : ∀ b o, upd (argH K s₁.heap A) Tb (.tbl #[]) b = some o → b = Tb ∨ (K.lookup b = none ∧ ∃ ob u, o = .frz ob u ∧ s₁.heap.get? b = some ob ∧ ∃ vs : List Value, ob.data = .seq vs.toArray ∧ (ob.cls = .type "list" ∨ ob.cls = .type "tuple")) := fun b o e => by
    by_cases hb : b = Tb
    · exact .inl hb
    · rw [upd_ne hb] at e
      obtain ⟨h1, vs, _, _, ⟨h2, h3⟩ | ⟨h2, h3⟩⟩ := argH_is har e
      · exact .inr ⟨h1, _, _, h3, h2, vs, rfl, .inl rfl⟩
      · exact .inr ⟨h1, _, _, h3, h2, vs, rfl, .inr rfl⟩
  have hTb : upd (argH K s₁.heap A) Tb (.tbl #[]) Tb = some (.tbl #[]) := upd_same
  generalize upd (argH K s₁.heap A) Tb (.tbl #[]) = H at hData hOk hTold hTb
  have free : ∀ {b : Addr} {o : Obj}, s₁.heap.get? b = some o → o.cls ≠ .type "list" → o.cls ≠ .type "tuple" → b ≠ Tb → H b = none := fun {b o} e n1 n2 n3 => by
    cases q : H b with
    | none => rfl
    | some u =>
      rcases hTold b u q with z | ⟨_, ob, _, _, h2, _, _, h4⟩
      · exact (n3 z).elim
      · rw [e] at h2
        cases h2
        rcases h4 with h4 | h4
        · exact (n1 h4).elim
        · exact (n2 h4).elim
  have freeD : ∀ {b : Addr} {o : Obj} {es : Array DictEntry} {ep : Nat}, s₁.heap.get? b = some o → o.data = .dict es ep → H b = none := fun {b o es ep} e d => by
    cases q : H b with
    | none => rfl
    | some u =>
      rcases hTold b u q with z | ⟨_, ob, _, _, h2, vs, h3, _⟩
      · subst z
        rw [hT] at e
        cases e
        cases d
      · rw [e] at h2
        cases h2
        rw [d] at h3
        cases h3
  have toB : ∀ {b : Addr} {o : Obj}, s₁.heap.get? b = some o → H b = none → (hidT s₁.heap H).get? b = some o := fun e n => hidT_get e n
  have nsB : ∀ {b : Addr} {m : Str → Option Value}, s₁.heap.Ns b m → (hidT s₁.heap H).Ns b m := fun {b m} x => by
    obtain ⟨o, es, ep, e, d, r⟩ := x
    exact ⟨o, es, ep, toB e (freeD e d), d, r⟩
  have kB : K.In (hidT s₁.heap H) := fun b o e => toB (hK b o e) (by
    cases q : H b with
    | none => rfl
    | some u =>
      rcases hTold b u q with z | ⟨z, _⟩
      · rw [z, nT] at e
        cases e
      · rw [z] at e
        cases e)
  have hMod : Mod K mg (hidT s₁.heap H) := by
    obtain ⟨mc, l1, l2⟩ := hLim
    exact ⟨kB, nsB hG, ⟨mb, nsB hB, hBB⟩, mc, nsB l1, l2⟩
  have hTB : LamX.TabB (hidT s₁.heap H) mg c Tb := by
    obtain ⟨o, vs, file, tf, flags, tg, inF, text, tt, e1, r1, r2, r3, r4, r5, r6, r7, r8, hne⟩ := hC
    obtain ⟨bm, ob, b1, b2, b3, b4, b5, b6⟩ := hBm
    have nP : bm ≠ Tb := fun z => by
      rw [z, hT] at b3
      cases b3
      cases b4
    have nG : bm ≠ mainGlobals := fun z => by
      obtain ⟨og, es, ep, e, hd, _⟩ := hG
      rw [z, e] at b3
      cases b3
      rw [hd] at b6
      cases b6
    refine ⟨⟨o, vs, file, tf, flags, tg, inF, text, tt, toB e1 (free e1 (fun z => ?_) (fun z => ?_) hne), r1, r2, r3, r4, r5, r6, r7, r8, hne⟩, ⟨bm, ob, b1, b2, nG, nP, toB b3 (free b3 (fun z => ?_) (fun z => ?_) nP), b4, b5, b6⟩, fun z => ?_⟩
    · rw [r1] at z
      exact absurd (Value.type.inj z) (by decide)
    · rw [r1] at z
      exact absurd (Value.type.inj z) (by decide)
    · rw [b4] at z
      exact absurd (Value.type.inj z) (by decide)
    · rw [b4] at z
      exact absurd (Value.type.inj z) (by decide)
    · obtain ⟨og, es, ep, e, hd, _⟩ := hG
      rw [z, hT] at e
      cases e
      cases hd
  have hE : Env0 P w K mg (hidT s₁.heap H) callerA [] s₁ H := by
    refine ⟨rfl, hMod, fun b o e => of_hidT e, Nat.le_of_eq (hidT_size _ _), trivial, ?_, hOk, .of_eq hGen⟩
    intro b hb
    cases (show b ∈ ([] : List Addr) from hb)
  have hlen : us.length = ps.length := (wellAll_len hW).trans hN
  refine codeAny_mono ((F _ kB (nsB hG) hTB).run callerA [] s₁ H ⟨us, []⟩ us (us.map toV) _ _ hR hE (hBi s₁ us hlen) hVals (hS H _ hTb hData)) fun r s' x => ?_
  match r, x with
  | .error e, x => exact (show False from x).elim
  | .ok (.ret u), x =>
    obtain ⟨v, H', os, bare, un, hOk', ru, q⟩ := x
    have stay : ∀ b o, b ≠ Tb → s₁.heap.get? b = some o → s'.heap.get? b = some o := fun b o nb e => by
      cases q2 : H b with
      | none => exact un.keep b o e q2 (by intro z; cases (show b ∈ ([] : List Addr) from z)) (by simp)
      | some u2 =>
        rcases hTold b u2 q2 with z | ⟨_, ob, u3, rfl, _, _⟩
        · exact (nb z).elim
        · have z1 := (hOk b _ q2).1
          have z2 := (hOk' b _ (un.frzs b ob _ q2)).1
          rw [e] at z1
          cases z1
          exact z2
    obtain ⟨more, hmore⟩ := un.tbls Tb #[] hTb
    have hTb' : s'.heap.get? Tb = some { cls := .none, data := .fields (#[] ++ more) } := hOk' Tb _ hmore
    have hK' : K.In s'.heap := fun b o e => stay b o (fun z => by rw [z, nT] at e; cases e) (hK b o e)
    obtain ⟨as, hrd⟩ := Dw.reads (R := R) (cl := cl) hOk' hK' d0 v u q ru
    refine ⟨u, as, rfl, hrd, ⟨fun b o e => ?_, fun b o e => ?_⟩, os, bare⟩
    · by_cases hb : b = Tb
      · subst hb
        rw [hT] at e
        cases e
        exact .inr (.inl ⟨(hC.tab hT).isCodeTable, rfl, #[], more, rfl, hTb'⟩)
      · exact .inl (stay b o hb e)
    · by_cases hb : b = Tb
      · subst hb
        exact ⟨_, hTb'⟩
      · exact ⟨o, stay b o hb e⟩
/-- the row, where the def tx makes a lambda -/
theorem walkT {r : OpenSpec} {k : Nat} {q : Program} {loose : List Str} {XP : (Str → Option Value) → Heap → Prop} {YP : World → Heap → Prop} {d : DefRec} {K : Params → PySem.W.Frag} {ps : List Str} {tx : Str} {sp : PySem.W.Frag → Addr → Sp}
    (hw : r.wellSaid = true) (hdf : d.params.defaults = []) (hl : r.args.length = ps.length) (hr : Room k callerA) (hY : ∀ (w : World) (h : Heap), YP w h → (K w.params).In h) (hrec : (recsOf q).any (fun e => e.name == tx) = true)
    (F : ∀ (w : World) (mg : Str → Option Value) (fa : Addr) (h : Heap), YP w h → (K w.params).In h → h.Ns mainGlobals mg → mg d.name = some (.ref fa) →
      ∃ (fd : FuncData) (c Tb : Addr), PySem.W.tabIn (K w.params) tx = some (c, Tb) ∧ (K w.params).lookup Tb = none ∧ (∀ (s : Shared) (us : List Value), us.length = ps.length → BindsTo s fd ⟨us, []⟩ (ps.zip us)) ∧
        ∀ base : Heap, (K w.params).In base → base.Ns mainGlobals mg → LamX.TabB base mg c Tb → FnOk r.prog w (K w.params) mg base CX0 k fa fd ps (sp (K w.params) Tb))
    (hsp : ∀ (K : PySem.W.Frag) (Tb : Addr) (H : Hp) (xs : List V) (a : Codec.denoteAll r.args), H Tb = some (.tbl #[]) → Codec.withinAll r.args a = true → Codec.app r.args r.asked a = true → DwAll K H xs (Codec.encAll r.args a) →
      sp K Tb xs H (fun v H' => Dw K H' v (r.ret.enc (Codec.app r.args r.f a))) fun _ _ _ => False) :
    PySem.W.WalkOS q loose XP YP r d [] (fun f vs => PySem.call f vs) := by
  intro w s₀ s₁ mg mb G Y fa o pm cd doc dV kV ho hd hcd hD hmg hgen args us as hpre hlay hrd hwl hlo
  obtain ⟨a, e1, e2⟩ := PySem.W.os_pre_some hpre
  obtain ⟨e3, hwi⟩ := Codec.encAll_of_decAll r.args args a e1
  subst e3
  have hK := hY w _ Y
  obtain ⟨fd, c, Tb, ht, nT, hb, hF⟩ := F w mg fa _ Y hK G.T.g hmg
  obtain ⟨dr, hdr⟩ : ∃ dr, (recsOf q).find? (fun e => e.name == tx) = some dr := by
    cases z : (recsOf q).find? (fun e => e.name == tx) with
    | some dr => exact ⟨dr, rfl⟩
    | none =>
      rw [List.find?_eq_none] at z
      obtain ⟨e, he1, he2⟩ := List.any_eq_true.mp hrec
      exact (z e he1 he2).elim
  obtain ⟨hC, hT⟩ := PySem.W.tab_of G.T hK hdr ht
  refine PySem.W.enter_call (codeAny_mono (callT (R := []) (cl := classAt s₀.heap) (d0 := r.ret.enc (Codec.app r.args r.f a)) hK G.T.g G.T.b G.T.builtins G.T.nolimit hgen G.T.bmain hC hT nT hwl (pl_encAll _ _) (layable_weight hlay) hr hF hb ((encAll_len _ _).trans hl)
    (fun H xs hH hX => hsp _ Tb H xs a hH hwi e2 hX)) fun r' s' z => ?_)
  obtain ⟨u, as', rfl, z1, z2, z3, z4⟩ := z
  refine ⟨.inl ⟨u, _, as', rfl, fun _ => rfl, z1, (OpenSpec.post_iff hw hwi _ _).mpr rfl, fun z => ?_⟩, z2, z3, z4⟩
  exact Bool.noConfusion (show false = true from z)
/-- the head's written part tells its own addresses -/
theorem keys_none {K : PySem.W.Frag} {b : Addr} : ∀ {as : List Addr}, as = K.map (·.1) → as.contains b = false → K.lookup b = none := by
  intro as e h
  subst e
  induction K with
  | nil => rfl
  | cons p r ih =>
    rw [List.map_cons, List.contains_cons, Bool.or_eq_false_iff] at h
    obtain ⟨x, y⟩ := p
    have h1 : (b == x) = false := h.1
    rw [List.lookup_cons, h1]
    exact ih h.2
/-- the same over the head's own written part, whose addresses are told -/
theorem walkTk {r : OpenSpec} {k : Nat} {q : Program} {loose : List Str} {XP : (Str → Option Value) → Heap → Prop} {d : DefRec} {K : Params → PySem.W.Frag} {as : List Addr} {eas : ∀ P, as = (K P).map (·.1)} {ps : List Str} {tx : Str} {sp : PySem.W.Frag → Addr → Sp}
    (hw : r.wellSaid = true) (hdf : d.params.defaults = []) (hl : r.args.length = ps.length) (hr : Room k callerA) (hrec : (recsOf q).any (fun e => e.name == tx) = true)
    (F : ∀ (w : World) (mg : Str → Option Value) (fa : Addr) (h : Heap), (K w.params).In h → h.Ns mainGlobals mg → mg d.name = some (.ref fa) →
      ∃ (fd : FuncData) (c Tb : Addr), PySem.W.tabIn (K w.params) tx = some (c, Tb) ∧ as.contains Tb = false ∧ (∀ (s : Shared) (us : List Value), us.length = ps.length → BindsTo s fd ⟨us, []⟩ (ps.zip us)) ∧
        ∀ base : Heap, (K w.params).In base → base.Ns mainGlobals mg → LamX.TabB base mg c Tb → FnOk r.prog w (K w.params) mg base CX0 k fa fd ps (sp (K w.params) Tb))
    (hsp : ∀ (K : PySem.W.Frag) (Tb : Addr) (H : Hp) (xs : List V) (a : Codec.denoteAll r.args), H Tb = some (.tbl #[]) → Codec.withinAll r.args a = true → Codec.app r.args r.asked a = true → DwAll K H xs (Codec.encAll r.args a) →
      sp K Tb xs H (fun v H' => Dw K H' v (r.ret.enc (Codec.app r.args r.f a))) fun _ _ _ => False) :
    PySem.W.WalkOS q loose XP (PySem.W.kHook K as eas).says r d [] (fun f vs => PySem.call f vs) :=
  walkT (K := K) hw hdf hl hr (fun w h Y => PySem.W.kIn_of Y) hrec (fun w mg fa h Y hK hN hmg => by
    obtain ⟨fd, c, Tb, h1, h2, h3, h4⟩ := F w mg fa h hK hN hmg
    exact ⟨fd, c, Tb, h1, keys_none (eas _) h2, h3, h4⟩) hsp
end Du

namespace Du
open PySem PySem.Spec PyProof.Rows L2
open Sw82 (Call Plan Work Rules)
def top (i : Nat) : Stmt := PySem.Challenge.pw_dutyrules_s01_answers.main.body.getD i (.Pass ⟨0, 0, 0, 0⟩)
abbrev sIsPlace : Stmt := top 19
abbrev sIsWay : Stmt := top 20
abbrev sIsPiece : Stmt := top 21
abbrev sInit : Stmt := inClass (top 22) 0
abbrev sAnew : Stmt := inClass (top 22) 1
abbrev sBegins : Stmt := inClass (top 22) 2
abbrev sPlace : Stmt := inClass (top 22) 3
abbrev sWay : Stmt := inClass (top 22) 4
abbrev sGet : Stmt := inClass (top 22) 5
abbrev sWork : Stmt := inClass (top 22) 6
abbrev sDrop : Stmt := inClass (top 22) 7
structure Txt (K : PySem.W.Frag) (mg : Str → Option Value) (C : Addr) : Prop where
  cl : Cls K C
  nR : NoAttr K C "rules"
  nB : NoAttr K C "can_break"
  nH : NoAttr K C "homes"
  nW : NoAttr K C "ways"
  nS : NoAttr K C "shortest"
  nP : NoAttr K C "pieces"
  gC : mg "Depot" = some (.ref C)
  gPl : ∃ t, mg "PLACES" = some (.int 20 t)
  gMW : ∃ t, mg "MOST_WAYS" = some (.int 40 t)
  gMP : ∃ t, mg "MOST_PIECES" = some (.int 7 t)
  gM : ∃ t, mg "MOST" = some (.int 100000 t)
  gF : ∃ a, mg "FIRST_RULES" = some (.ref a) ∧ ∀ H : Hp, SqT K H a ((rulesN Sw82.init.rules).map vN)
  len : mg "len" = none
  max : mg "max" = none
  min : mg "min" = none
  list : mg "list" = none
def spIsPlace : Sp := fun vs H Q _ => ∃ i : Int, vs = [.int i] ∧ Q (.bl (decide (i < 20))) H
def spIsWay : Sp := fun vs H Q _ => ∃ i j m : Int, vs = [.int i, .int j, .int m] ∧ Q (.bl (decide (i < 20 ∧ j < 20 ∧ i ≠ j ∧ m ≤ 100000))) H
def spIsPiece : Sp := fun vs H Q _ => ∃ i j m n : Int, vs = [.int i, .int j, .int m, .int n] ∧ Q (.bl (decide (i < 20 ∧ j < 20 ∧ m < n ∧ n ≤ 100000))) H
/-- a call on a depot: its arguments, then the plan steps -/
def spStep (C : Addr) (args : Call → List V) (ok : Call → Prop) : Sp := fun vs H Q _ => ∃ (a : Addr) (D : Own) (p : Plan) (x : Call), ok x ∧ vs = .ref a :: args x ∧ Dep C H a D p ∧ Wf p ∧
  ∀ (H' : Hp) (D' : Own), Dep C H' a D' (Sw82.step p x).1 → Moves H H' a D D' → Q (.int (Sw82.step p x).2.v) H'
def isPlace : Call → Prop
  | .place _ _ _ => True
  | _ => False
def isWay : Call → Prop
  | .way _ _ _ => True
  | _ => False
def isWork : Call → Prop
  | .work _ => True
  | _ => False
def isDrop : Call → Prop
  | .drop _ => True
  | _ => False
def argsOf : Call → List V
  | .place i b h => [vN i, vN (bit b), vN (bit h)]
  | .way a b n => [vN a, vN b, vN n]
  | .work w => [vN w.from_, vN w.to, vN w.start, vN w.halt_]
  | .drop k => [vN k]
  | _ => []
section
variable {P : Program} {w : World} {K : PySem.W.Frag} {mg : Str → Option Value} {base : Heap} {C : Addr}
theorem scIsPlace : FnScope ["place"] ["place"] (defScope sIsPlace) := ⟨rfl, rfl, rfl, by decide +kernel, rfl, by decide +kernel, by decide +kernel⟩
theorem ok_isPlace {f : Addr} {fd : FuncData} (F : Fun K "is_place" "is_place" sIsPlace f fd) (T : Txt K mg C) : FnOk P w K mg base CX0 1 f fd ["place"] spIsPlace := by
  obtain ⟨t20, gP⟩ := T.gPl
  refine F.ok scIsPlace (fun vs H Q E h => ?_) (fun cdv A outer s H vs Q E hr h => ⟨_, pss_one (ps_ret (pe_cmp (pc_lt (pv 0) (pe_glob (v := .int 20) rfl gP ⟨_, rfl⟩)) rfl)), ?_⟩)
  · obtain ⟨i, rfl, _⟩ := h
    rfl
  · obtain ⟨i, rfl, q⟩ := h
    exact ⟨_, rfl, _, _, rfl, rfl, q⟩
theorem scIsWay : FnScope ["from_place", "to_place", "minutes"] ["from_place", "to_place", "minutes"] (defScope sIsWay) := ⟨rfl, rfl, rfl, by decide +kernel, rfl, by decide +kernel, by decide +kernel⟩
theorem ok_isWay {f f1 : Addr} {fd fd1 : FuncData} (F : Fun K "is_way" "is_way" sIsWay f fd) (T : Txt K mg C) (F1 : Fun K "is_place" "is_place" sIsPlace f1 fd1) (b1 : Binds K fd1 ["place"] []) (g1 : mg "is_place" = some (.ref f1)) :
    FnOk P w K mg base CX0 2 f fd ["from_place", "to_place", "minutes"] spIsWay := by
  have G1 : FnOk P w K mg base CX0 1 f1 fd1 ["place"] spIsPlace := ok_isPlace F1 T
  obtain ⟨tm, gM⟩ := T.gM
  refine F.ok scIsWay (fun vs H Q E h => ?_) (fun cdv A outer s H vs Q E hr h => ⟨_, pss_one (ps_ret (pe_and (pe_call G1 hr rfl g1 F1.kp b1 .nil pass0 (pa_cons (pv 0) pa_nil)) (pe_and (pe_call G1 hr rfl g1 F1.kp b1 .nil pass0 (pa_cons (pv 1) pa_nil)) (pe_and (pe_cmp (pc_neI (pv 0) (pv 1)) rfl) (pe_one (pe_cmp (pc_le (pv 2) (pe_glob (v := .int 100000) rfl gM ⟨_, rfl⟩)) rfl)))))), ?_⟩)
  · obtain ⟨i, j, m, rfl, _⟩ := h
    rfl
  · obtain ⟨i, j, m, rfl, q⟩ := h
    refine ⟨_, rfl, i, rfl, _, rfl, ite2 (fun h1 => ?_) (fun h1 => ?_)⟩
    · refine ⟨_, rfl, j, rfl, _, rfl, ite2 (fun h2 => ?_) (fun h2 => ?_)⟩
      · refine ⟨_, rfl, _, rfl, _, _, rfl, rfl, _, rfl, ite2 (fun h3 => ?_) (fun h3 => ?_)⟩
        · refine ⟨_, rfl, _, _, rfl, rfl, ?_⟩
          simp at h1 h2 h3
          simpa [h1, h2, h3] using q
        · simp at h1 h2 h3
          simpa [h1, h2, h3] using q
      · simp at h1 h2
        have : ¬ j < 20 := by omega
        simpa [h1, this] using q
    · simp at h1
      have : ¬ i < 20 := by omega
      simpa [this] using q
end
end Du

namespace Du
open PySem PySem.Spec PyProof.Rows L2
open Sw82 (Call Plan Work Rules)
section
variable {P : Program} {w : World} {K : PySem.W.Frag} {mg : Str → Option Value} {base : Heap} {C : Addr}
theorem scIsPiece : FnScope ["from_place", "to_place", "first", "last"] ["from_place", "to_place", "first", "last"] (defScope sIsPiece) := ⟨rfl, rfl, rfl, by decide +kernel, rfl, by decide +kernel, by decide +kernel⟩
theorem ok_isPiece {f f1 : Addr} {fd fd1 : FuncData} (F : Fun K "is_piece" "is_piece" sIsPiece f fd) (T : Txt K mg C) (F1 : Fun K "is_place" "is_place" sIsPlace f1 fd1) (b1 : Binds K fd1 ["place"] []) (g1 : mg "is_place" = some (.ref f1)) :
    FnOk P w K mg base CX0 2 f fd ["from_place", "to_place", "first", "last"] spIsPiece := by
  have G1 : FnOk P w K mg base CX0 1 f1 fd1 ["place"] spIsPlace := ok_isPlace F1 T
  obtain ⟨tm, gM⟩ := T.gM
  refine F.ok scIsPiece (fun vs H Q E h => ?_) (fun cdv A outer s H vs Q E hr h => ⟨_, pss_one (ps_ret (pe_and (pe_call G1 hr rfl g1 F1.kp b1 .nil pass0 (pa_cons (pv 0) pa_nil)) (pe_and (pe_call G1 hr rfl g1 F1.kp b1 .nil pass0 (pa_cons (pv 1) pa_nil)) (pe_and (pe_cmp (pc_lt (pv 2) (pv 3)) rfl) (pe_one (pe_cmp (pc_le (pv 3) (pe_glob (v := .int 100000) rfl gM ⟨_, rfl⟩)) rfl)))))), ?_⟩)
  · obtain ⟨i, j, m, n, rfl, _⟩ := h
    rfl
  · obtain ⟨i, j, m, n, rfl, q⟩ := h
    refine ⟨_, rfl, i, rfl, _, rfl, ite2 (fun h1 => ?_) (fun h1 => ?_)⟩
    · refine ⟨_, rfl, j, rfl, _, rfl, ite2 (fun h2 => ?_) (fun h2 => ?_)⟩
      · refine ⟨_, rfl, _, rfl, _, _, rfl, rfl, _, rfl, ite2 (fun h3 => ?_) (fun h3 => ?_)⟩
        · refine ⟨_, rfl, _, _, rfl, rfl, ?_⟩
          simp at h1 h2 h3
          simpa [h1, h2, h3] using q
        · simp at h1 h2 h3
          have : ¬ m < n := by omega
          simpa [h1, h2, this] using q
      · simp at h1 h2
        have : ¬ j < 20 := by omega
        simpa [h1, this] using q
    · simp at h1
      have : ¬ i < 20 := by omega
      simpa [this] using q

/-! ### place -/
theorem two_of (b : Bool) : decide (V.int ((bit b : Nat) : Int) = V.int 1) = b := by
  cases b <;> rfl
theorem scPlace : FnScope ["self", "place", "can_break", "home"] ["self", "place", "can_break", "home"] (defScope sPlace) := ⟨rfl, rfl, rfl, by decide +kernel, rfl, by decide +kernel, by decide +kernel⟩
theorem nd_of {D : Own} (h : D.five.Nodup) : (D.lr ≠ D.lb ∧ D.lr ≠ D.lh ∧ D.lr ≠ D.lw ∧ D.lr ≠ D.ls ∧ D.lr ≠ D.lp) ∧ (D.lb ≠ D.lh ∧ D.lb ≠ D.lw ∧ D.lb ≠ D.ls ∧ D.lb ≠ D.lp) ∧ (D.lh ≠ D.lw ∧ D.lh ≠ D.ls ∧ D.lh ≠ D.lp) ∧ (D.lw ≠ D.ls ∧ D.lw ≠ D.lp) ∧ D.ls ≠ D.lp := by
  unfold Own.five at h
  simp only [List.nodup_cons, List.mem_cons, List.not_mem_nil, or_false, not_or] at h
  obtain ⟨⟨a1, a2, a3, a4, a5⟩, ⟨b1, b2, b3, b4⟩, ⟨c1, c2, c3⟩, ⟨d1, d2⟩, e1, _⟩ := h
  exact ⟨⟨a1, a2, a3, a4, a5⟩, ⟨b1, b2, b3, b4⟩, ⟨c1, c2, c3⟩, ⟨d1, d2⟩, e1⟩
/-- the breaks' list changes -/
theorem Dep.putB {C : Addr} {H : Hp} {a : Addr} {D : Own} {p : Plan} (d : Dep C H a D p) {l : List Nat} {xs : List V} (e : xs = (brkN l).map vN) : Dep C (upd H D.lb (.lst xs)) a D { p with breaks := l } := by
  obtain ⟨⟨a1, a2, a3, a4, a5⟩, ⟨b1, b2, b3, b4⟩, ⟨c1, c2, c3⟩, ⟨d1, d2⟩, f1⟩ := nd_of d.nd
  obtain ⟨ts, e1, e2⟩ := d.w
  obtain ⟨us, e3, e4⟩ := d.p
  obtain ⟨kvs, e5, e6⟩ := d.s
  subst e
  have kt := tup_keep (o := .lst ((brkN l).map vN)) d.b (by intro l z; cases z)
  refine ⟨?_, ?_, upd_same, ?_, ⟨ts, ?_, e2.mono kt⟩, ⟨kvs, ?_, e6⟩, ⟨us, ?_, e4.mono kt⟩, d.nd⟩
  · rw [upd_ne (ne_of d.ins d.b (by intro z; cases z))]; exact d.ins
  · rw [upd_ne a1]; exact d.r
  · rw [upd_ne b1.symm]; exact d.h
  · rw [upd_ne b2.symm]; exact e1
  · rw [upd_ne b3.symm]; exact e5
  · rw [upd_ne b4.symm]; exact e3
theorem Dep.putH {C : Addr} {H : Hp} {a : Addr} {D : Own} {p : Plan} (d : Dep C H a D p) {l : List Nat} {xs : List V} (e : xs = l.map vN) : Dep C (upd H D.lh (.lst xs)) a D { p with homes := l } := by
  obtain ⟨⟨a1, a2, a3, a4, a5⟩, ⟨b1, b2, b3, b4⟩, ⟨c1, c2, c3⟩, ⟨d1, d2⟩, f1⟩ := nd_of d.nd
  obtain ⟨ts, e1, e2⟩ := d.w
  obtain ⟨us, e3, e4⟩ := d.p
  obtain ⟨kvs, e5, e6⟩ := d.s
  subst e
  have kt := tup_keep (o := .lst (l.map vN)) d.h (by intro l z; cases z)
  refine ⟨?_, ?_, ?_, upd_same, ⟨ts, ?_, e2.mono kt⟩, ⟨kvs, ?_, e6⟩, ⟨us, ?_, e4.mono kt⟩, d.nd⟩
  · rw [upd_ne (ne_of d.ins d.h (by intro z; cases z))]; exact d.ins
  · rw [upd_ne a2]; exact d.r
  · rw [upd_ne b1]; exact d.b
  · rw [upd_ne c1.symm]; exact e1
  · rw [upd_ne c2.symm]; exact e5
  · rw [upd_ne c3.symm]; exact e3
/-- a way more: its list and the dict of the least -/
theorem Dep.putW {C : Addr} {H : Hp} {a : Addr} {D : Own} {p : Plan} (d : Dep C H a D p) {l : List (Nat × Nat × Nat)} {ts : List Addr} {kvs' : List (List Key × V)} (e : Tups H ts (l.map wayV)) (hl : kvs'.length ≤ l.length) (hk : ∀ a b : Nat, valV kvs' [.inl (a : Int), .inl (b : Int)] = (wayF l a b).map vN) :
    Dep C (upd (upd H D.lw (.lst (ts.map V.ref))) D.ls (.dT kvs')) a D { p with ways := l } := by
  obtain ⟨⟨a1, a2, a3, a4, a5⟩, ⟨b1, b2, b3, b4⟩, ⟨c1, c2, c3⟩, ⟨d1, d2⟩, f1⟩ := nd_of d.nd
  obtain ⟨us0, e1, e2⟩ := d.w
  obtain ⟨us, e3, e4⟩ := d.p
  obtain ⟨kvs, e5, e6⟩ := d.s
  have k1 := tup_keep (o := .lst (ts.map V.ref)) e1 (by intro l z; cases z)
  have e5' : upd H D.lw (.lst (ts.map V.ref)) D.ls = some (.dT kvs) := by rw [upd_ne d1.symm]; exact e5
  have k2 := tup_keep (o := .dT kvs') e5' (by intro l z; cases z)
  have kt : ∀ t l, H t = some (.tup l) → upd (upd H D.lw (.lst (ts.map V.ref))) D.ls (.dT kvs') t = some (.tup l) := fun t l h => k2 t l (k1 t l h)
  refine ⟨?_, ?_, ?_, ?_, ⟨ts, ?_, e.mono kt⟩, ⟨kvs', upd_same, hl, hk⟩, ⟨us, ?_, e4.mono kt⟩, d.nd⟩
  · rw [upd_ne (ne_of d.ins e5 (by intro z; cases z)), upd_ne (ne_of d.ins e1 (by intro z; cases z))]; exact d.ins
  · rw [upd_ne a4, upd_ne a3]; exact d.r
  · rw [upd_ne b3, upd_ne b2]; exact d.b
  · rw [upd_ne c2, upd_ne c1]; exact d.h
  · rw [upd_ne d1, upd_same]
  · rw [upd_ne f1.symm, upd_ne d2.symm]; exact e3
theorem Dep.putP {C : Addr} {H : Hp} {a : Addr} {D : Own} {p : Plan} (d : Dep C H a D p) {l : List Work} {ts : List Addr} (e : Tups H ts (l.map workV)) : Dep C (upd H D.lp (.lst (ts.map V.ref))) a D { p with works := l } := by
  obtain ⟨⟨a1, a2, a3, a4, a5⟩, ⟨b1, b2, b3, b4⟩, ⟨c1, c2, c3⟩, ⟨d1, d2⟩, f1⟩ := nd_of d.nd
  obtain ⟨us0, e1, e2⟩ := d.w
  obtain ⟨us, e3, e4⟩ := d.p
  obtain ⟨kvs, e5, e6⟩ := d.s
  have kt := tup_keep (o := .lst (ts.map V.ref)) e3 (by intro l z; cases z)
  refine ⟨?_, ?_, ?_, ?_, ⟨us0, ?_, e2.mono kt⟩, ⟨kvs, ?_, e6⟩, ⟨ts, upd_same, e.mono kt⟩, d.nd⟩
  · rw [upd_ne (ne_of d.ins e3 (by intro z; cases z))]; exact d.ins
  · rw [upd_ne a5]; exact d.r
  · rw [upd_ne b4]; exact d.b
  · rw [upd_ne c3]; exact d.h
  · rw [upd_ne d2]; exact e1
  · rw [upd_ne f1]; exact e5
theorem Moves.refl (H : Hp) (a : Addr) (D : Own) : Moves H H a D D := ⟨fun _ _ h _ _ => h, fun _ h => .inl h⟩
theorem Moves.upd {H H1 : Hp} {a : Addr} {D : Own} (m : Moves H H1 a D D) {l : Addr} (hl : l ∈ D.five) (o : HO) : Moves H (upd H1 l o) a D D := ⟨fun b u h h1 h2 => by
  have hne : b ≠ l := fun e => h2 (by rw [e]; exact hl)
  rw [upd_ne hne]
  exact m.keep b u h h1 h2, fun _ h => .inl h⟩
theorem Moves.newo {H H1 : Hp} {a : Addr} {D D' : Own} (m : Moves H H1 a D D') {l : Addr} (hl : H1 l = none) (o : HO) : Moves H (L2.upd H1 l o) a D D' := ⟨fun b u h h1 h2 => by
  have := m.keep b u h h1 h2
  rw [upd_ne (ne_of_none this hl)]
  exact this, m.five⟩
theorem five_r (D : Own) : D.lr ∈ D.five := .head _
theorem five_b (D : Own) : D.lb ∈ D.five := .tail _ (.head _)
theorem five_h (D : Own) : D.lh ∈ D.five := .tail _ (.tail _ (.head _))
theorem five_w (D : Own) : D.lw ∈ D.five := .tail _ (.tail _ (.tail _ (.head _)))
theorem five_s (D : Own) : D.ls ∈ D.five := .tail _ (.tail _ (.tail _ (.tail _ (.head _))))
theorem five_p (D : Own) : D.lp ∈ D.five := .tail _ (.tail _ (.tail _ (.tail _ (.tail _ (.head _)))))
theorem set_map {α β : Type} (f : α → β) : ∀ (l : List α) (i : Nat) (x : α), (l.map f).set i (f x) = (l.set i x).map f
  | [], _, _ => rfl
  | _ :: _, 0, _ => rfl
  | a :: l, i + 1, x => congrArg (f a :: ·) (set_map f l i x)
theorem ixN_nat {n i : Nat} (h : i < n) : ixN n (i : Int) = some i := by
  unfold ixN
  rw [if_pos (by omega), if_pos (by omega)]
  rfl
theorem first_at {l : List Nat} {i : Nat} (h : i ∈ l) : ∃ j : Nat, l[j]? = some i ∧ ∀ m : Nat, m < j → l[m]? ≠ some i := by
  induction l with
  | nil => cases h
  | cons a l ih =>
    by_cases e : a = i
    · exact ⟨0, by rw [e]; rfl, fun m hm => by omega⟩
    · have h' : i ∈ l := by
        cases h with
        | head => exact (e rfl).elim
        | tail _ h => exact h
      obtain ⟨j, h1, h2⟩ := ih h'
      refine ⟨j + 1, h1, fun m hm => ?_⟩
      cases m with
      | zero => intro z; exact e (Option.some.inj z)
      | succ m => exact h2 m (by omega)
theorem cast_at {l : List Nat} {j i : Nat} : (l.map fun (n : Nat) => (n : Int))[j]? = some (i : Int) ↔ l[j]? = some i := by
  rw [List.getElem?_map]
  cases l[j]? with
  | none => simp
  | some k =>
    show (some (k : Int) = some (i : Int)) ↔ (some k = some i)
    constructor
    · intro h
      have := Option.some.inj h
      rw [Int.ofNat.inj this]
    · intro h
      rw [Option.some.inj h]
theorem erase_map {α β : Type} (f : α → β) : ∀ (l : List α) (j : Nat), (l.map f).eraseIdx j = (l.eraseIdx j).map f
  | [], _ => rfl
  | _ :: _, 0 => rfl
  | a :: l, j + 1 => congrArg (f a :: ·) (erase_map f l j)
theorem erase_cast (l : List Nat) (j : Nat) : ((l.map fun (n : Nat) => (n : Int)).eraseIdx j).map V.int = (l.eraseIdx j).map vN := by
  rw [erase_map, ← map_vN]
theorem ifT {c : Bool} {A B : Prop} (hc : c = true) (h : A) : if c = true then A else B := by
  rw [if_pos hc]
  exact h
theorem ifF {c : Bool} {A B : Prop} (hc : c = false) (h : B) : if c = true then A else B := by
  rw [hc, if_neg Bool.false_ne_true]
  exact h
theorem lt_nat {i n : Nat} (h : i < n) : decide ((i : Int) < (n : Int)) = true := decide_eq_true (by omega)
theorem not_lt_nat {i n : Nat} (h : ¬ i < n) : decide ((i : Int) < (n : Int)) = false := decide_eq_false (by omega)
theorem not_of {b c : Bool} (h : b = c) : (!b) = !c := congrArg _ h
theorem tail_place (T : Txt K mg C) {H2 : Hp} {a : Addr} {D : Own} {p : Plan} {i b : Nat} {hm : Bool} {E : Ends} (d : Dep C H2 a D p) (len : p.homes.length ≤ 1000)
    (q : ∀ H', Dep C H' a D { p with homes := if hm = true then p.homes ++ [i] else p.homes } → Moves H2 H' a D D → E.rt (.int 0) H') :
    tSeq (tIfS (tTest (tOp rEq (tVar 3) (tC (.int 1)))) (tDrop (tBM K "list" rAppend (tFld K (tVar 0) "homes") (tCons (tVar 1) tNil))) tNext) (tRet (tC (.int 0))) E [some (.ref a), some (vN i), some (vN b), some (vN (bit hm))] H2 := by
  refine ⟨_, rfl, rfl, _, rfl, ?_⟩
  cases hm with
  | true =>
    refine ifT (two_of true) ?_
    refine ⟨_, rfl, a, C, D.dx, _, _, rfl, d.ins, T.cl, T.nH, dF_homes D, .inl ⟨rfl, _, .inl (.inl d.h)⟩, _, rfl, D.lh, _, _, rfl, rfl, d.h, ?_, ?_⟩
    · rw [List.length_map]
      exact small1000 len
    · exact q _ (d.putH (l := if true = true then p.homes ++ [i] else p.homes) (by rw [if_pos rfl, List.map_append] <;> rfl)) ((Moves.refl _ _ _).upd (five_h D) _)
  | false =>
    refine ifF (two_of false) ?_
    exact q _ d (Moves.refl _ _ _)
theorem Moves.trans {H H1 H2 : Hp} {a : Addr} {D : Own} (m : Moves H H1 a D D) (n : Moves H1 H2 a D D) : Moves H H2 a D D := ⟨fun b o h h1 h2 => n.keep b o (m.keep b o h h1 h2) h1 h2, fun _ h => .inl h⟩
theorem nodup_len : ∀ {n : Nat} {l : List Nat}, l.Nodup → (∀ x ∈ l, x < n) → l.length ≤ n
  | 0, [], _, _ => Nat.le_refl _
  | 0, a :: l, _, h => (Nat.not_lt_zero _ (h a (.head _))).elim
  | n + 1, l, hn, h => by
    have h1 : (l.filter fun x => x != n).length ≤ n := nodup_len (hn.filter _) fun x hx => by
      rw [List.mem_filter] at hx
      have := h x hx.1
      have h2 : x ≠ n := by simpa using hx.2
      omega
    by_cases e : n ∈ l
    · obtain ⟨j, hj, _⟩ := first_at e
      have := erase_filter hn hj
      have h3 := congrArg List.length this
      rw [List.length_eraseIdx] at h3
      have hlt : j < l.length := (List.getElem?_eq_some_iff.mp hj).1
      rw [if_pos hlt] at h3
      omega
    · rw [filter_out e] at h1
      omega
theorem ok_place {f f1 : Addr} {fd fd1 : FuncData} (F : Fun K "place" "Depot.place" sPlace f fd) (T : Txt K mg C) (F1 : Fun K "is_place" "is_place" sIsPlace f1 fd1) (b1 : Binds K fd1 ["place"] []) (g1 : mg "is_place" = some (.ref f1)) :
    FnOk P w K mg base CX0 2 f fd ["self", "place", "can_break", "home"] (spStep C argsOf isPlace) := by
  have G1 : FnOk P w K mg base CX0 1 f1 fd1 ["place"] spIsPlace := ok_isPlace F1 T
  refine F.ok scPlace (fun vs H Q E h => ?_) (fun cdv A outer s H vs Q E hr h => ⟨_, pss_cons (ps_if (pt_not (pt_val (pe_call G1 hr rfl g1 F1.kp b1 .nil pass0 (pa_cons (pv 1) pa_nil)))) (pss_one (ps_ret (pe_un un_neg pe_int))) pss_nil)
      (pss_cons (ps_asg (pv 2) (pg_sub (pe_fld (pv 0) rfl) (pv 1) set_list))
      (pss_cons (ps_if (pt_cmpR op_in_seq (pv 1) (pe_fld (pv 0) rfl) rfl) (pss_one (ps_expr (pe_bm PySem.F.plainAttrs_list PySem.F.slot_list_remove PySem.F.type_list_remove mt_remove (pe_fld (pv 0) rfl) (pa_cons (pv 1) pa_nil)))) pss_nil)
      (pss_cons (ps_if (pt_cmpR op_eq (pv 3) pe_int (nomark _)) (pss_one (ps_expr (pe_bm PySem.F.plainAttrs_list PySem.F.slot_list_append PySem.F.type_list_append mt_append (pe_fld (pv 0) rfl) (pa_cons (pv 1) pa_nil)))) pss_nil)
      (pss_one (ps_ret pe_int))))), ?_⟩)
  · obtain ⟨a, D, p, x, hx, rfl, _⟩ := h
    cases x <;> first | exact hx.elim | rfl
  · obtain ⟨a, D, p, x, hx, rfl, d, W, q⟩ := h
    cases x with
    | place i b hm =>
      refine ⟨_, rfl, (i : Int), rfl, _, rfl, ?_⟩
      by_cases hi : i < 20
      · refine ifF (not_of (lt_nat (n := 20) hi)) ?_
        have st : Sw82.step p (.place i b hm) = ({ p with breaks := if b = true then p.breaks.filter (fun x => x != i) ++ [i] else p.breaks.filter fun x => x != i, homes := if hm = true then p.homes.filter (fun x => x != i) ++ [i] else p.homes.filter fun x => x != i }, Sw82.ok 0) := by
          unfold Sw82.step
          dsimp only
          rw [if_neg (by unfold Sw82.PLACES; omega)]
        rw [st] at q
        refine ⟨_, rfl, _, rfl, a, C, D.dx, _, _, rfl, d.ins, T.cl, T.nB, dF_brk D, _, rfl, D.lb, _, (i : Int), i, rfl, rfl, d.b, ?_, ?_⟩
        · rw [List.length_map, brk_len]
          exact ixN_nat hi
        have d2 := d.putB (l := if b = true then p.breaks.filter (fun x => x != i) ++ [i] else p.breaks.filter fun x => x != i) (xs := ((brkN p.breaks).map vN).set i (vN (bit b))) (by rw [set_map, brk_set])
        have m2 : Moves H _ a D D := (Moves.refl H a D).upd (five_b D) (.lst (((brkN p.breaks).map vN).set i (vN (bit b))))
        refine ⟨_, rfl, _, rfl, a, C, D.dx, _, _, rfl, d2.ins, T.cl, T.nH, dF_homes D, D.lh, _, rfl, .inl (.of d2.h), rfl, flat_nat _, _, rfl, ?_⟩
        have hl : (p.homes.filter fun x => x != i).length ≤ 1000 := Nat.le_trans (List.length_filter_le _ _) (Nat.le_trans (nodup_len W.homesNd W.homes) (by decide))
        have fin : ∀ H2, Dep C H2 a D { p with breaks := if b = true then p.breaks.filter (fun x => x != i) ++ [i] else p.breaks.filter fun x => x != i, homes := p.homes.filter fun x => x != i } → Moves H H2 a D D → ∀ H', Dep C H' a D { p with breaks := if b = true then p.breaks.filter (fun x => x != i) ++ [i] else p.breaks.filter fun x => x != i, homes := if hm = true then p.homes.filter (fun x => x != i) ++ [i] else p.homes.filter fun x => x != i } → Moves H2 H' a D D → Q (.int 0) H' := fun H2 _ m H' d' m' => q H' D d' (m.trans m')
        by_cases hin : i ∈ p.homes
        · refine ifT (c := inV (vN i) (p.homes.map vN)) ((inV_nat i p.homes).trans (decide_eq_true hin)) ?_
          obtain ⟨j, hj1, hj2⟩ := first_at hin
          refine ⟨_, rfl, a, C, D.dx, _, _, rfl, d2.ins, T.cl, T.nH, dF_homes D, .inl ⟨rfl, _, .inl (.inl d2.h)⟩, _, rfl, D.lh, p.homes.map (fun (n : Nat) => (n : Int)), (i : Int), j, rfl, rfl, ?_, cast_at.mpr hj1, fun m hm z => hj2 m hm (cast_at.mp z), ?_⟩
          · rw [← map_vN]
            exact d2.h
          · have d3 := d2.putH (l := p.homes.filter fun x => x != i) (xs := ((p.homes.map fun (n : Nat) => (n : Int)).eraseIdx j).map V.int) (by rw [erase_cast, erase_filter W.homesNd hj1])
            exact tail_place T d3 hl (fin _ d3 (m2.upd (five_h D) _))
        · refine ifF (c := inV (vN i) (p.homes.map vN)) ((inV_nat i p.homes).trans (decide_eq_false hin)) ?_
          have e : p.homes = p.homes.filter fun x => x != i := (filter_out hin).symm
          have d3 : Dep C (upd H D.lb (.lst (((brkN p.breaks).map vN).set i (vN (bit b))))) a D { p with breaks := if b = true then p.breaks.filter (fun x => x != i) ++ [i] else p.breaks.filter fun x => x != i, homes := p.homes.filter fun x => x != i } := by
            rw [← e]
            exact d2
          exact tail_place T d3 hl (fin _ d3 m2)
      · refine ifT (not_of (not_lt_nat (n := 20) hi)) ?_
        have st : Sw82.step p (.place i b hm) = (p, Sw82.ok (-1)) := by
          unfold Sw82.step
          dsimp only
          rw [if_pos (by unfold Sw82.PLACES; omega)]
        rw [st] at q
        exact ⟨_, rfl, q _ D d (Moves.refl H a D)⟩
    | _ => exact hx.elim
end
end Du

namespace Du
open PySem PySem.Spec PyProof.Rows L2
open Sw82 (Call Plan Work Rules)
section
variable {P : Program} {w : World} {K : PySem.W.Frag} {mg : Str → Option Value} {base : Heap} {C : Addr}
theorem scWay : FnScope ["self", "from_place", "to_place", "minutes", "both"] ["self", "from_place", "to_place", "minutes"] (defScope sWay) := ⟨rfl, rfl, rfl, by decide +kernel, rfl, by decide +kernel, by decide +kernel⟩
theorem eq_nat (i n : Nat) : decide (V.int (i : Int) = V.int (n : Int)) = decide (i = n) := by
  by_cases e : i = n
  · subst e
    rw [decide_eq_true rfl, decide_eq_true rfl]
  · have h : ¬ (V.int (i : Int) = V.int (n : Int)) := fun z => by
      have := V.int.inj z
      omega
    exact (decide_eq_false h).trans (decide_eq_false e).symm
theorem up_a {H : Hp} {a b : Addr} {o u : HO} (h : H b = some o) (n : b ≠ a) : upd H a u b = some o := by
  rw [upd_ne n]
  exact h
theorem up_n {H : Hp} {b l : Addr} {o u : HO} (h : H b = some o) (hl : H l = none) : upd H l u b = some o := by
  rw [upd_ne (ne_of_none h hl)]
  exact h
theorem upd_swap {H : Hp} {a b : Addr} {o u : HO} (h : a ≠ b) : upd (upd H a o) b u = upd (upd H b u) a o := by
  funext c
  by_cases h1 : c = a
  · subst h1
    rw [upd_ne h, upd_same, upd_same]
  · by_cases h2 : c = b
    · subst h2
      rw [upd_same, upd_ne h1, upd_same]
    · rw [upd_ne h2, upd_ne h1, upd_ne h1, upd_ne h2]
theorem upd_free {H : Hp} {a b : Addr} {o : HO} (h : upd H a o b = none) : b ≠ a ∧ H b = none := by
  by_cases e : b = a
  · subst e
    rw [upd_same] at h
    cases h
  · rw [upd_ne e] at h
    exact ⟨e, h⟩
theorem key_eq (i j a b : Nat) : (([.inl (a : Int), .inl (b : Int)] : List Key) = [.inl (i : Int), .inl (j : Int)]) ↔ (a = i ∧ b = j) := by
  constructor
  · intro h
    injection h with h1 h2
    injection h2 with h2 _
    injection h1 with h1
    injection h2 with h2
    exact ⟨Int.ofNat.inj h1, Int.ofNat.inj h2⟩
  · rintro ⟨rfl, rfl⟩
    rfl
theorem min_nat (n m : Nat) : (if ((m : Nat) : Int) < (n : Int) then ((m : Nat) : Int) else (n : Int)) = ((min n m : Nat) : Int) := by
  split <;> omega
theorem ok_way {f f1 f2 : Addr} {fd fd1 fd2 : FuncData} (F : Fun K "way" "Depot.way" sWay f fd) (T : Txt K mg C) (F1 : Fun K "is_place" "is_place" sIsPlace f1 fd1) (b1 : Binds K fd1 ["place"] []) (g1 : mg "is_place" = some (.ref f1))
    (F2 : Fun K "is_way" "is_way" sIsWay f2 fd2) (b2 : Binds K fd2 ["from_place", "to_place", "minutes"] []) (g2 : mg "is_way" = some (.ref f2)) :
    FnOk P w K mg base CX0 3 f fd ["self", "from_place", "to_place", "minutes"] (spStep C argsOf isWay) := by
  have G2 : FnOk P w K mg base CX0 2 f2 fd2 ["from_place", "to_place", "minutes"] spIsWay := ok_isWay F2 T F1 b1 g1
  obtain ⟨tm, gMW⟩ := T.gMW
  refine F.ok scWay (fun vs H Q E h => ?_) (fun cdv A outer s H vs Q E hr h => ⟨_, pss_cons (ps_if (pt_not (pt_val (pe_call G2 hr rfl g2 F2.kp b2 .nil pass0 (pa_cons (pv 1) (pa_cons (pv 2) (pa_cons (pv 3) pa_nil)))))) (pss_one (ps_ret (pe_un un_neg pe_int))) pss_nil)
      (pss_cons (ps_if (pt_cmpR op_eq (pe_callB call_len_seq (by rfl) T.len PySem.boot_len (pa_cons (pe_fld (pv 0) rfl) pa_nil)) (pe_glob (v := .int 40) rfl gMW ⟨_, rfl⟩) (nomark _)) (pss_one (ps_ret (pe_un un_neg pe_int))) pss_nil)
      (pss_cons (ps_expr (pe_bm PySem.F.plainAttrs_list PySem.F.slot_list_append PySem.F.type_list_append mt_append (pe_fld (pv 0) rfl) (pa_cons (pe_tup (pa_cons (pv 1) (pa_cons (pv 2) (pa_cons (pv 3) pa_nil)))) pa_nil)))
      (pss_cons (ps_set (i := 4) scWay.nd rfl (Or.inl rfl) (pe_tup (pa_cons (pv 1) (pa_cons (pv 2) pa_nil))))
      (pss_cons (ps_dput (hu_of hr) (pe_fld (pv 0) rfl) (pv 4) (pe_callB (call_min2 rfl) (by rfl) T.min (by decide +kernel) (pa_cons (pv 3) (pa_cons (pe_dget2 (hu_of hr) (pe_fld (pv 0) rfl) (pv 4) (pv 3) ⟨rfl, rfl, rfl, rfl⟩) pa_nil))) rfl)
      (pss_one (ps_ret (pe_op op_sub (pe_callB call_len_seq (by rfl) T.len PySem.boot_len (pa_cons (pe_fld (pv 0) rfl) pa_nil)) pe_int))))))), ?_⟩)
  · obtain ⟨a, D, p, x, hx, rfl, _⟩ := h
    cases x <;> first | exact hx.elim | rfl
  · obtain ⟨a, D, p, x, hx, rfl, d, W, q⟩ := h
    cases x with
    | way i j m =>
      refine ⟨_, rfl, _, rfl, _, rfl, (i : Int), (j : Int), (m : Int), rfl, _, rfl, ?_⟩
      by_cases hi : i < 20 ∧ j < 20 ∧ i ≠ j ∧ m ≤ 100000
      · refine ifF (not_of (c := true) (decide_eq_true ?_)) ?_
        · omega
        obtain ⟨ts, e1, e2⟩ := d.w
        obtain ⟨kvs, e3, e4, e5⟩ := d.s
        refine ⟨_, rfl, a, C, D.dx, _, _, rfl, d.ins, T.cl, T.nW, dF_ways D, D.lw, _, rfl, .inl (.of e1), rfl, _, rfl, ?_⟩
        have el : (ts.map V.ref).length = p.ways.length := by
          rw [List.length_map, e2.len, List.length_map]
        rw [el]
        by_cases h40 : p.ways.length = 40
        · refine ifT ((eq_nat p.ways.length 40).trans (decide_eq_true h40)) ?_
          have st : Sw82.step p (.way i j m) = (p, Sw82.ok (-5)) := by
            unfold Sw82.step
            dsimp only
            rw [if_neg (by unfold Sw82.PLACES Sw82.TIME; omega), if_pos (by unfold Sw82.WAYS; omega)]
          rw [st] at q
          exact ⟨_, rfl, q _ D d (Moves.refl H a D)⟩
        · refine ifF ((eq_nat p.ways.length 40).trans (decide_eq_false h40)) ?_
          have hlen := W.waysLen
          have st : Sw82.step p (.way i j m) = ({ p with ways := p.ways ++ [(i, j, m)] }, Sw82.ok (p.ways.length : Nat)) := by
            unfold Sw82.step
            dsimp only
            rw [if_neg (by unfold Sw82.PLACES Sw82.TIME; omega), if_neg (by unfold Sw82.WAYS; omega)]
          rw [st] at q
          refine ⟨_, rfl, a, C, D.dx, _, _, rfl, d.ins, T.cl, T.nW, dF_ways D, .inl ⟨rfl, _, .inl (.inl e1)⟩, _, rfl, _, rfl, _, rfl, (by show 3 ≤ sizeLine; decide), fun t ht => ?_⟩
          have d2 : Dep C (upd H t (.tup [vN i, vN j, vN m])) a D p := d.same (same_new ht)
          have e1' : upd H t (.tup [vN i, vN j, vN m]) D.lw = some (.lst (ts.map V.ref)) := same_new ht _ _ e1
          refine ⟨D.lw, _, _, rfl, rfl, e1', ?_, ?_⟩
          · rw [el]
            exact small1000 (by omega)
          have ex : ts.map V.ref ++ [V.ref t] = (ts ++ [t]).map V.ref := by
            rw [List.map_append] <;> rfl
          rw [ex]
          refine ⟨_, rfl, _, rfl, (by show 2 ≤ sizeLine; decide), fun t2 ht2 => ?_⟩
          obtain ⟨n2, ht2'⟩ := upd_free ht2
          rw [upd_swap n2.symm]
          have d3 : Dep C (upd (upd H t (.tup [vN i, vN j, vN m])) t2 (.tup [vN i, vN j])) a D p := d2.same (same_new ht2')
          have eT : Tups (upd (upd H t (.tup [vN i, vN j, vN m])) t2 (.tup [vN i, vN j])) (ts ++ [t]) ((p.ways ++ [(i, j, m)]).map wayV) := by
            rw [List.map_append]
            exact Tups.snoc (up_n upd_same ht2') ((e2.mono (tup_new ht)).mono (tup_new ht2'))
          have m3 : Moves H (upd (upd (upd H t (.tup [vN i, vN j, vN m])) t2 (.tup [vN i, vN j])) D.lw (.lst ((ts ++ [t]).map V.ref))) a D D := (((Moves.refl H a D).newo ht _).newo ht2' _).upd (five_w D) _
          have b3 : upd (upd (upd H t (.tup [vN i, vN j, vN m])) t2 (.tup [vN i, vN j])) D.lw (.lst ((ts ++ [t]).map V.ref)) t2 = some (.tup (([.inl (i : Int), .inl (j : Int)] : List Key).map kV)) := by
            rw [upd_ne n2, upd_same] <;> rfl
          generalize eH3 : upd (upd H t (.tup [vN i, vN j, vN m])) t2 (.tup [vN i, vN j]) = H3 at d3 eT m3 b3
          obtain ⟨ts0, f1, _⟩ := d3.w
          obtain ⟨kvs3, f3, f4, f5⟩ := d3.s
          have i4 : upd H3 D.lw (.lst ((ts ++ [t]).map V.ref)) a = some (.ins C D.dx (dF D)) := up_a d3.ins (ne_of d3.ins f1 (by intro z; cases z))
          have s4 : upd H3 D.lw (.lst ((ts ++ [t]).map V.ref)) D.ls = some (.dT kvs3) := up_a f3 (ne_of f3 f1 (by intro z; cases z))
          refine ⟨_, rfl, _, rfl, a, C, D.dx, _, _, rfl, i4, T.cl, T.nS, dF_short D, D.ls, rfl, .inr ⟨_, .inl s4⟩, _, rfl, _, rfl, _, DGet.t s4 b3, (m : Int), (((wayF p.ways i j).getD m : Nat) : Int), ?_, ?_⟩
          · rw [f5]
            cases wayF p.ways i j <;> rfl
          rw [min_nat]
          refine ⟨_, rfl, a, C, D.dx, _, _, rfl, i4, T.cl, T.nS, dF_short D, _, rfl, D.ls, _, rfl, DPut.t s4 b3 (small1000 (by omega)), ?_⟩
          have hk : ∀ a b : Nat, valV (putK kvs3 [.inl (i : Int), .inl (j : Int)] (.int ((min m ((wayF p.ways i j).getD m) : Nat) : Int))) [.inl (a : Int), .inl (b : Int)] = (wayF (p.ways ++ [(i, j, m)]) a b).map vN := fun a b => by
            rw [valV_put, f5, wayF_snoc]
            by_cases z : a = i ∧ b = j
            · rw [if_pos ((key_eq i j a b).mpr z), if_pos ⟨z.1.symm, z.2.symm⟩, lessO_get, z.1, z.2] <;> rfl
            · rw [if_neg (fun y => z ((key_eq i j a b).mp y)), if_neg (fun y => z ⟨y.1.symm, y.2.symm⟩)]
          have hl4 : (putK kvs3 [.inl (i : Int), .inl (j : Int)] (.int ((min m ((wayF p.ways i j).getD m) : Nat) : Int))).length ≤ (p.ways ++ [(i, j, m)]).length := by
            refine Nat.le_trans (length_putK _ _ _) ?_
            rw [List.length_append]
            show _ ≤ p.ways.length + 1
            omega
          have d5 := d3.putW (l := p.ways ++ [(i, j, m)]) (ts := ts ++ [t]) eT hl4 hk
          have m5 := m3.upd (five_s D) (.dT (putK kvs3 [.inl (i : Int), .inl (j : Int)] (.int ((min m ((wayF p.ways i j).getD m) : Nat) : Int))))
          obtain ⟨us, e7, e6⟩ := d5.w
          refine ⟨_, rfl, a, C, D.dx, _, _, rfl, d5.ins, T.cl, T.nW, dF_ways D, D.lw, _, rfl, .inl (.of e7), _, _, rfl, rfl, ?_⟩
          have el2 : (us.map V.ref).length = p.ways.length + 1 := by
            rw [List.length_map, e6.len, List.length_map, List.length_append] <;> rfl
          have en : (((us.map V.ref).length : Nat) : Int) - 1 = ((p.ways.length : Nat) : Int) := by
            rw [el2]
            omega
          show Q (.int ((((us.map V.ref).length : Nat) : Int) - 1)) _
          rw [en]
          exact q _ D d5 m5
      · refine ifT (not_of (c := false) (decide_eq_false ?_)) ?_
        · omega
        have st : Sw82.step p (.way i j m) = (p, Sw82.ok (-1)) := by
          unfold Sw82.step
          dsimp only
          rw [if_pos (by unfold Sw82.PLACES Sw82.TIME; omega)]
        rw [st] at q
        exact ⟨_, rfl, q _ D d (Moves.refl H a D)⟩
    | _ => exact hx.elim
theorem scWork : FnScope ["self", "from_place", "to_place", "first", "last"] ["self", "from_place", "to_place", "first", "last"] (defScope sWork) := ⟨rfl, rfl, rfl, by decide +kernel, rfl, by decide +kernel, by decide +kernel⟩
theorem ok_work {f f1 f2 : Addr} {fd fd1 fd2 : FuncData} (F : Fun K "work" "Depot.work" sWork f fd) (T : Txt K mg C) (F1 : Fun K "is_place" "is_place" sIsPlace f1 fd1) (b1 : Binds K fd1 ["place"] []) (g1 : mg "is_place" = some (.ref f1))
    (F2 : Fun K "is_piece" "is_piece" sIsPiece f2 fd2) (b2 : Binds K fd2 ["from_place", "to_place", "first", "last"] []) (g2 : mg "is_piece" = some (.ref f2)) :
    FnOk P w K mg base CX0 3 f fd ["self", "from_place", "to_place", "first", "last"] (spStep C argsOf isWork) := by
  have G2 : FnOk P w K mg base CX0 2 f2 fd2 ["from_place", "to_place", "first", "last"] spIsPiece := ok_isPiece F2 T F1 b1 g1
  obtain ⟨tm, gMP⟩ := T.gMP
  refine F.ok scWork (fun vs H Q E h => ?_) (fun cdv A outer s H vs Q E hr h => ⟨_, pss_cons (ps_if (pt_not (pt_val (pe_call G2 hr rfl g2 F2.kp b2 .nil pass0 (pa_cons (pv 1) (pa_cons (pv 2) (pa_cons (pv 3) (pa_cons (pv 4) pa_nil))))))) (pss_one (ps_ret (pe_un un_neg pe_int))) pss_nil)
      (pss_cons (ps_if (pt_cmpR op_eq (pe_callB call_len_seq (by rfl) T.len PySem.boot_len (pa_cons (pe_fld (pv 0) rfl) pa_nil)) (pe_glob (v := .int 7) rfl gMP ⟨_, rfl⟩) (nomark _)) (pss_one (ps_ret (pe_un un_neg pe_int))) pss_nil)
      (pss_cons (ps_expr (pe_bm PySem.F.plainAttrs_list PySem.F.slot_list_append PySem.F.type_list_append mt_append (pe_fld (pv 0) rfl) (pa_cons (pe_tup (pa_cons (pv 1) (pa_cons (pv 2) (pa_cons (pv 3) (pa_cons (pv 4) pa_nil))))) pa_nil)))
      (pss_one (ps_ret (pe_op op_sub (pe_callB call_len_seq (by rfl) T.len PySem.boot_len (pa_cons (pe_fld (pv 0) rfl) pa_nil)) pe_int))))), ?_⟩)
  · obtain ⟨a, D, p, x, hx, rfl, _⟩ := h
    cases x <;> first | exact hx.elim | rfl
  · obtain ⟨a, D, p, x, hx, rfl, d, W, q⟩ := h
    cases x with
    | work v =>
      refine ⟨_, rfl, _, rfl, _, rfl, _, rfl, (v.from_ : Int), (v.to : Int), (v.start : Int), (v.halt_ : Int), rfl, _, rfl, ?_⟩
      by_cases hi : v.from_ < 20 ∧ v.to < 20 ∧ v.start < v.halt_ ∧ v.halt_ ≤ 100000
      · refine ifF (not_of (c := true) (decide_eq_true ?_)) ?_
        · omega
        obtain ⟨ts, e1, e2⟩ := d.p
        refine ⟨_, rfl, a, C, D.dx, _, _, rfl, d.ins, T.cl, T.nP, dF_pieces D, D.lp, _, rfl, .inl (.of e1), rfl, _, rfl, ?_⟩
        have el : (ts.map V.ref).length = p.works.length := by
          rw [List.length_map, e2.len, List.length_map]
        rw [el]
        by_cases h7 : p.works.length = 7
        · refine ifT ((eq_nat p.works.length 7).trans (decide_eq_true h7)) ?_
          have st : Sw82.step p (.work v) = (p, Sw82.ok (-5)) := by
            unfold Sw82.step
            dsimp only
            rw [if_neg (by unfold Sw82.PLACES Sw82.TIME; omega), if_pos (by unfold Sw82.WORKS; omega)]
          rw [st] at q
          exact ⟨_, rfl, q _ D d (Moves.refl H a D)⟩
        · refine ifF ((eq_nat p.works.length 7).trans (decide_eq_false h7)) ?_
          have hlen := W.worksLen
          have st : Sw82.step p (.work v) = ({ p with works := p.works ++ [v] }, Sw82.ok (p.works.length : Nat)) := by
            unfold Sw82.step
            dsimp only
            rw [if_neg (by unfold Sw82.PLACES Sw82.TIME; omega), if_neg (by unfold Sw82.WORKS; omega)]
          rw [st] at q
          refine ⟨_, rfl, a, C, D.dx, _, _, rfl, d.ins, T.cl, T.nP, dF_pieces D, .inl ⟨rfl, _, .inl (.inl e1)⟩, _, rfl, _, rfl, _, rfl, _, rfl, (by show 4 ≤ sizeLine; decide), fun t ht => ?_⟩
          have d2 : Dep C (upd H t (.tup (workV v))) a D p := d.same (same_new ht)
          have e1' : upd H t (.tup (workV v)) D.lp = some (.lst (ts.map V.ref)) := same_new ht _ _ e1
          have e2' : Tups (upd H t (.tup (workV v))) (ts ++ [t]) ((p.works ++ [v]).map workV) := by
            rw [List.map_append]
            exact Tups.snoc upd_same (e2.mono (tup_new ht))
          have d3 := d2.putP (l := p.works ++ [v]) (ts := ts ++ [t]) e2'
          have m3 : Moves H (upd (upd H t (.tup (workV v))) D.lp (.lst ((ts ++ [t]).map V.ref))) a D D := ((Moves.refl H a D).newo ht _).upd (five_p D) _
          refine ⟨D.lp, _, _, rfl, rfl, e1', ?_, ?_⟩
          · rw [el]
            exact small1000 (by omega)
          · have ex : ts.map V.ref ++ [V.ref t] = (ts ++ [t]).map V.ref := by
              rw [List.map_append] <;> rfl
            rw [ex]
            obtain ⟨us, e5, e6⟩ := d3.p
            refine ⟨_, rfl, a, C, D.dx, _, _, rfl, d3.ins, T.cl, T.nP, dF_pieces D, D.lp, _, rfl, .inl (.of e5), _, _, rfl, rfl, ?_⟩
            have el2 : (us.map V.ref).length = p.works.length + 1 := by
              rw [List.length_map, e6.len, List.length_map, List.length_append] <;> rfl
            have en : (((us.map V.ref).length : Nat) : Int) - 1 = ((p.works.length : Nat) : Int) := by
              rw [el2]
              omega
            show Q (.int ((((us.map V.ref).length : Nat) : Int) - 1)) _
            rw [en]
            exact q _ D d3 m3
      · refine ifT (not_of (c := false) (decide_eq_false ?_)) ?_
        · omega
        have st : Sw82.step p (.work v) = (p, Sw82.ok (-1)) := by
          unfold Sw82.step
          dsimp only
          rw [if_pos (by unfold Sw82.PLACES Sw82.TIME; omega)]
        rw [st] at q
        exact ⟨_, rfl, q _ D d (Moves.refl H a D)⟩
    | _ => exact hx.elim
end
end Du

namespace Du
open PySem PySem.Spec PyProof.Rows L2
open Sw82 (Call Plan Work Rules)
def optV : Option Nat → V
  | none => .non
  | some n => vN n
def spGet (C : Addr) : Sp := fun vs H Q _ => ∃ (a : Addr) (D : Own) (p : Plan) (i j : Nat), vs = [.ref a, vN i, vN j] ∧ Dep C H a D p ∧ ∀ H' : Hp, Same H H' → Q (optV (p.way i j)) H'
section
variable {P : Program} {w : World} {K : PySem.W.Frag} {mg : Str → Option Value} {base : Heap} {C : Addr}
theorem scGet : FnScope ["self", "from_place", "to_place"] ["self", "from_place", "to_place"] (defScope sGet) := ⟨rfl, rfl, rfl, by decide +kernel, rfl, by decide +kernel, by decide +kernel⟩
theorem ok_get {f : Addr} {fd : FuncData} (F : Fun K "minutes_to_get" "Depot.minutes_to_get" sGet f fd) (T : Txt K mg C) : FnOk P w K mg base CX0 1 f fd ["self", "from_place", "to_place"] (spGet C) := by
  refine F.ok scGet (fun vs H Q E h => ?_) (fun cdv A outer s H vs Q E hr h => ⟨_, pss_cons (ps_if (pt_cmpR op_eq (pv 1) (pv 2) (nomark _)) (pss_one (ps_ret pe_int)) pss_nil)
      (pss_one (ps_ret (pe_dget1 (hu_of hr) (pe_fld (pv 0) rfl) (pe_tup (pa_cons (pv 1) (pa_cons (pv 2) pa_nil))) ⟨rfl, rfl, rfl, rfl⟩))), ?_⟩)
  · obtain ⟨a, D, p, i, j, rfl, _⟩ := h
    rfl
  · obtain ⟨a, D, p, i, j, rfl, d, q⟩ := h
    refine ⟨_, rfl, _, rfl, rfl, _, rfl, ?_⟩
    by_cases e : i = j
    · refine ifT ((eq_nat i j).trans (decide_eq_true e)) ?_
      have z := q H (Same.refl H)
      rw [way_is, if_pos e] at z
      exact z
    · refine ifF ((eq_nat i j).trans (decide_eq_false e)) ?_
      obtain ⟨kvs, e3, e4, e5⟩ := d.s
      refine ⟨_, rfl, a, C, D.dx, _, _, rfl, d.ins, T.cl, T.nS, dF_short D, D.ls, rfl, .inr ⟨_, .inl e3⟩, _, rfl, _, rfl, (by show 2 ≤ sizeLine; decide), fun t ht => ?_⟩
      have hk : upd H t (.tup [vN i, vN j]) t = some (.tup (([.inl (i : Int), .inl (j : Int)] : List Key).map kV)) := upd_same
      refine ⟨_, DGet.t (same_new ht _ _ e3) hk, ?_⟩
      have z := q _ (same_new (o := .tup [vN i, vN j]) ht)
      rw [way_is, if_neg e] at z
      rw [e5]
      cases hw : wayF p.ways i j with
      | none =>
        rw [hw] at z
        exact z
      | some n =>
        rw [hw] at z
        exact z
/-! ### drop -/
theorem scDrop : FnScope ["self", "number"] ["self", "number"] (defScope sDrop) := ⟨rfl, rfl, rfl, by decide +kernel, rfl, by decide +kernel, by decide +kernel⟩
theorem Tups.erase {H : Hp} : ∀ {ts : List Addr} {ls : List (List V)} (k : Nat), Tups H ts ls → Tups H (ts.eraseIdx k) (ls.eraseIdx k)
  | [], [], _, _ => trivial
  | _ :: _, _ :: _, 0, h => h.2
  | _ :: _, _ :: _, k + 1, h => ⟨h.1, Tups.erase k h.2⟩
  | [], _ :: _, _, h => h.elim
  | _ :: _, [], _, h => h.elim
theorem map_eraseIdx {α β : Type} (f : α → β) : ∀ (l : List α) (k : Nat), (l.map f).eraseIdx k = (l.eraseIdx k).map f
  | [], _ => rfl
  | _ :: _, 0 => rfl
  | a :: l, k + 1 => congrArg (f a :: ·) (map_eraseIdx f l k)
theorem ok_drop {f : Addr} {fd : FuncData} (F : Fun K "drop" "Depot.drop" sDrop f fd) (T : Txt K mg C) : FnOk P w K mg base CX0 1 f fd ["self", "number"] (spStep C argsOf isDrop) := by
  refine F.ok scDrop (fun vs H Q E h => ?_) (fun cdv A outer s H vs Q E hr h => ⟨_, pss_cons (ps_if (pt_cmpR op_ge (pv 1) (pe_callB call_len_seq (by rfl) T.len PySem.boot_len (pa_cons (pe_fld (pv 0) rfl) pa_nil)) (nomark _)) (pss_one (ps_ret (pe_un un_neg pe_int))) pss_nil)
      (pss_cons (ps_expr (pe_bm PySem.F.plainAttrs_list PySem.F.slot_list_pop PySem.F.type_list_pop mt_popAt (pe_fld (pv 0) rfl) (pa_cons (pv 1) pa_nil)))
      (pss_one (ps_ret pe_int))), ?_⟩)
  · obtain ⟨a, D, p, x, hx, rfl, _⟩ := h
    cases x <;> first | exact hx.elim | rfl
  · obtain ⟨a, D, p, x, hx, rfl, d, W, q⟩ := h
    cases x with
    | drop k =>
      obtain ⟨ts, e1, e2⟩ := d.p
      have el : (ts.map V.ref).length = p.works.length := by
        rw [List.length_map, e2.len, List.length_map]
      refine ⟨_, rfl, _, rfl, a, C, D.dx, _, _, rfl, d.ins, T.cl, T.nP, dF_pieces D, D.lp, _, rfl, .inl (.of e1), _, _, rfl, rfl, _, rfl, ?_⟩
      rw [el]
      by_cases hk : p.works.length ≤ k
      · refine ifT (decide_eq_true (by omega)) ?_
        have st : Sw82.step p (.drop k) = (p, Sw82.ok (-2)) := by
          unfold Sw82.step
          dsimp only
          rw [if_pos hk]
        rw [st] at q
        exact ⟨_, rfl, q _ D d (Moves.refl H a D)⟩
      · refine ifF (decide_eq_false (by omega)) ?_
        have st : Sw82.step p (.drop k) = ({ p with works := p.works.eraseIdx k }, Sw82.ok 0) := by
          unfold Sw82.step
          dsimp only
          rw [if_neg hk]
        rw [st] at q
        have h7 := W.worksLen
        have hkl : k < (ts.map V.ref).length := by omega
        refine ⟨_, rfl, a, C, D.dx, _, _, rfl, d.ins, T.cl, T.nP, dF_pieces D, .inl ⟨rfl, _, .inl (.inl e1)⟩, _, rfl, D.lp, _, (k : Int), k, (ts.map V.ref)[k], rfl, rfl, e1, by omega, by omega, ?_, List.getElem?_eq_getElem hkl, ?_⟩
        · rw [seqIndex_of (by omega) (by omega)] <;> rfl
        rw [map_eraseIdx]
        have d2 := d.putP (l := p.works.eraseIdx k) (ts := ts.eraseIdx k) (by rw [← map_eraseIdx]; exact e2.erase k)
        exact q _ D d2 ((Moves.refl H a D).upd (five_p D) _)
    | _ => exact hx.elim
end
end Du

namespace Du
open PySem PySem.Spec PyProof.Rows L2
open Sw82 (Call Plan Work Rules)
/-- begin_anew: from a fresh object or a depot; rules is a list that is handed over -/
def spAnew (C : Addr) : Sp := fun vs H Q _ => ∃ (a dx lr : Addr) (fs : List (Str × V)) (r : Rules), vs = [.ref a, .ref lr] ∧ H a = some (.ins C dx fs) ∧ (fs = [] ∨ ∃ D0 : Own, fs = dF D0) ∧ H lr = some (.lst ((rulesN r).map vN)) ∧
  ∀ (H' : Hp) (D' : Own), Dep C H' a D' ⟨r, [], [], [], []⟩ → D'.lr = lr → (∀ b o, H b = some o → b ≠ a → H' b = some o) → (∀ b, b ∈ D'.five → b = lr ∨ H b = none) → Q .non H'
def spInit (C : Addr) : Sp := fun vs H Q _ => ∃ (a dx : Addr), vs = [.ref a] ∧ H a = some (.ins C dx []) ∧
  ∀ (H' : Hp) (D' : Own), Dep C H' a D' Sw82.init → (∀ b o, H b = some o → b ≠ a → H' b = some o) → (∀ b, b ∈ D'.five → H b = none) → Q .non H'
def spBegins (C : Addr) : Sp := fun vs H Q _ => ∃ (a lr : Addr) (D : Own) (p : Plan) (r : Rules), vs = [.ref a, .ref lr] ∧ Dep C H a D p ∧ H lr = some (.lst ((rulesN r).map vN)) ∧
  ∀ (H' : Hp) (D' : Own), Dep C H' a D' (Sw82.step p (.begins r)).1 → Moves H H' a D D' → Q (.int (Sw82.step p (.begins r)).2.v) H'
section
variable {P : Program} {w : World} {K : PySem.W.Frag} {mg : Str → Option Value} {base : Heap} {C : Addr}
theorem scAnew : FnScope ["self", "rules"] ["self", "rules"] (defScope sAnew) := ⟨rfl, rfl, rfl, by decide +kernel, rfl, by decide +kernel, by decide +kernel⟩
theorem put_here {f : Str} {v x : V} {r : List (Str × V)} : putF f v ((f, x) :: r) = (f, v) :: r := if_pos rfl
theorem put_past {f g : Str} {v x : V} {r : List (Str × V)} (h : ¬ g = f) : putF f v ((g, x) :: r) = (g, x) :: putF f v r := if_neg h
theorem put_nil {f : Str} {v : V} : putF f v [] = [(f, v)] := rfl
def puts (lr lb lh lw ls lp : Addr) (fs : List (Str × V)) : List (Str × V) := putF "pieces" (.ref lp) (putF "shortest" (.ref ls) (putF "ways" (.ref lw) (putF "homes" (.ref lh) (putF "can_break" (.ref lb) (putF "rules" (.ref lr) fs)))))
theorem puts_eq {lr lb lh lw ls lp dx : Addr} {fs : List (Str × V)} (h : fs = [] ∨ ∃ D0 : Own, fs = dF D0) : puts lr lb lh lw ls lp fs = dF ⟨dx, lr, lb, lh, lw, ls, lp⟩ := by
  have n1 : ¬ ("rules" : Str) = "can_break" := by decide +kernel
  have n2 : ¬ ("rules" : Str) = "homes" := by decide +kernel
  have n3 : ¬ ("rules" : Str) = "ways" := by decide +kernel
  have n4 : ¬ ("rules" : Str) = "pieces" := by decide +kernel
  have n5 : ¬ ("can_break" : Str) = "homes" := by decide +kernel
  have n6 : ¬ ("can_break" : Str) = "ways" := by decide +kernel
  have n7 : ¬ ("can_break" : Str) = "pieces" := by decide +kernel
  have n8 : ¬ ("homes" : Str) = "ways" := by decide +kernel
  have n9 : ¬ ("homes" : Str) = "pieces" := by decide +kernel
  have n10 : ¬ ("ways" : Str) = "pieces" := by decide +kernel
  have s1 : ¬ ("rules" : Str) = "shortest" := by decide +kernel
  have s2 : ¬ ("can_break" : Str) = "shortest" := by decide +kernel
  have s3 : ¬ ("homes" : Str) = "shortest" := by decide +kernel
  have s4 : ¬ ("ways" : Str) = "shortest" := by decide +kernel
  have s5 : ¬ ("shortest" : Str) = "pieces" := by decide +kernel
  unfold puts
  rcases h with rfl | ⟨D0, rfl⟩
  · rw [put_nil, put_past n1, put_nil, put_past n2, put_past n5, put_nil, put_past n3, put_past n6, put_past n8, put_nil, put_past s1, put_past s2, put_past s3, put_past s4, put_nil, put_past n4, put_past n7, put_past n9, put_past n10, put_past s5, put_nil] <;> rfl
  · unfold dF
    rw [put_here, put_past n1, put_here, put_past n2, put_past n5, put_here, put_past n3, put_past n6, put_past n8, put_here, put_past s1, put_past s2, put_past s3, put_past s4, put_here, put_past n4, put_past n7, put_past n9, put_past n10, put_past s5, put_here]
theorem putF_len (f : Str) (v : V) : ∀ fs : List (Str × V), (putF f v fs).length ≤ fs.length + 1
  | [] => Nat.le_refl _
  | (g, x) :: r => by
    by_cases h : g = f
    · subst h
      rw [put_here]
      exact Nat.le_succ _
    · rw [put_past h]
      exact Nat.succ_le_succ (putF_len f v r)
theorem rep_flat (n : Nat) : (List.replicate n [V.int 0]).flatten = List.replicate n (V.int 0) := by
  induction n with
  | zero => rfl
  | succ n ih => rw [List.replicate_succ, List.flatten_cons, ih, List.replicate_succ] <;> rfl
theorem brk_nil : (brkN []).map vN = List.replicate 20 (V.int 0) := by decide +kernel
theorem ok_anew {f : Addr} {fd : FuncData} (F : Fun K "begin_anew" "Depot.begin_anew" sAnew f fd) (T : Txt K mg C) : FnOk P w K mg base CX0 1 f fd ["self", "rules"] (spAnew C) := by
  obtain ⟨t20, gP⟩ := T.gPl
  refine F.ok scAnew (fun vs H Q E h => ?_) (fun cdv A outer s H vs Q E hr h => ⟨_, pss_cons (ps_fld (pv 0) (pv 1) rfl)
      (pss_cons (ps_fld (pv 0) (pe_op op_rep (pe_lst (pa_cons pe_int pa_nil)) (pe_glob (v := .int 20) rfl gP ⟨_, rfl⟩)) rfl)
      (pss_cons (ps_fld (pv 0) (pe_lst pa_nil) rfl) (pss_cons (ps_fld (pv 0) (pe_lst pa_nil) rfl) (pss_cons (ps_fld (pv 0) pe_dnewT rfl) (pss_one (ps_fld (pv 0) (pe_lst pa_nil) rfl)))))), ?_⟩)
  · obtain ⟨a, dx, lr, fs, r, rfl, _⟩ := h
    rfl
  · obtain ⟨a, dx, lr, fs, r, rfl, ha, hfs, hlr, q⟩ := h
    have hl0 : fs.length ≤ 6 := by
      rcases hfs with rfl | ⟨D0, rfl⟩
      · exact Nat.zero_le _
      · exact Nat.le_refl 6
    have l1 := putF_len "rules" (.ref lr) fs
    refine ⟨_, rfl, _, rfl, a, C, dx, fs, rfl, ha, T.cl, T.nR, by omega, ?_⟩
    refine ⟨by show 1 ≤ sizeLine; decide, fun l0 hl0' => ⟨l0, 20, _, rfl, rfl, upd_same, by decide, by decide, by show 1 * 20 ≤ sizeLine; decide, fun lb hlb => ?_⟩⟩
    have na : ∀ {b : Addr} {o : HO}, H b = some o → (∀ z, o ≠ .ins C dx z) → b ≠ a := fun h z => ne_of h ha (z _)
    have hlra : lr ≠ a := ne_of hlr ha (by intro z; cases z)
    let f1 := putF "rules" (.ref lr) fs
    let f2 := putF "can_break" (.ref lb) f1
    have k1 : ∀ b o, H b = some o → b ≠ a → upd H a (.ins C dx f1) b = some o := fun b o h n => up_a h n
    generalize eH1 : upd H a (.ins C dx f1) = H1 at *
    have a1 : H1 a = some (.ins C dx f1) := by rw [← eH1]; exact upd_same
    have k2 : ∀ b o, H b = some o → b ≠ a → upd H1 l0 (.lst [V.int 0]) b = some o := fun b o h n => up_n (k1 b o h n) hl0'
    have a2 : upd H1 l0 (.lst [V.int 0]) a = some (.ins C dx f1) := up_n a1 hl0'
    generalize eH2 : upd H1 l0 (.lst [V.int 0]) = H2 at *
    have e20 : (List.replicate (20 : Int).toNat [V.int 0]).flatten = (brkN []).map vN := (rep_flat 20).trans brk_nil.symm
    rw [e20]
    have k3 : ∀ b o, H b = some o → b ≠ a → upd H2 lb (.lst ((brkN []).map vN)) b = some o := fun b o h n => up_n (k2 b o h n) hlb
    have a3 : upd H2 lb (.lst ((brkN []).map vN)) a = some (.ins C dx f1) := up_n a2 hlb
    have b3 : upd H2 lb (.lst ((brkN []).map vN)) lb = some (.lst ((brkN []).map vN)) := upd_same
    have hlb0 : H lb = none := by
      cases e : H lb with
      | none => rfl
      | some o =>
        by_cases n : lb = a
        · rw [n, a2] at hlb
          cases hlb
        · rw [k2 lb o e n] at hlb
          cases hlb
    have nlb : lb ≠ a := fun n => by
      rw [n, a2] at hlb
      cases hlb
    generalize eH3 : upd H2 lb (.lst ((brkN []).map vN)) = H3 at *
    have l1' : f1.length ≤ fs.length + 1 := l1
    have l2 := putF_len "can_break" (.ref lb) f1
    refine ⟨_, rfl, a, C, dx, _, rfl, a3, T.cl, T.nB, by omega, ?_⟩
    have a4 : upd H3 a (.ins C dx f2) a = some (.ins C dx f2) := upd_same
    have k4 : ∀ b o, H b = some o → b ≠ a → upd H3 a (.ins C dx f2) b = some o := fun b o h n => up_a (k3 b o h n) n
    have b4 : upd H3 a (.ins C dx f2) lb = some (.lst ((brkN []).map vN)) := up_a b3 nlb
    have goal4 : ∀ H4 : Hp, H4 a = some (.ins C dx f2) → (∀ b o, H b = some o → b ≠ a → H4 b = some o) → H4 lb = some (.lst ((brkN []).map vN)) →
        tSeq (sFld K (tVar 0) (tLst tNil) "homes") (tSeq (sFld K (tVar 0) (tLst tNil) "ways") (tSeq (sFld K (tVar 0) tDNewT "shortest") (sFld K (tVar 0) (tLst tNil) "pieces"))) { nx := fun _ H' => Q .non H', rt := Q } [some (.ref a), some (.ref lr)] H4 := by
      intro H4 a4 k4 b4
      refine ⟨by show 0 ≤ sizeLine; decide, fun lh hlh => ?_⟩
      have f3 := putF "homes" (.ref lh) f2
      have l3 := putF_len "homes" (.ref lh) f2
      have a5 : upd H4 lh (.lst []) a = some (.ins C dx f2) := up_n a4 hlh
      have nlh : lh ≠ a := (ne_of_none a4 hlh).symm
      have l2' : f2.length ≤ f1.length + 1 := l2
      refine ⟨_, rfl, a, C, dx, _, rfl, a5, T.cl, T.nH, by omega, ?_⟩
      refine ⟨by show 0 ≤ sizeLine; decide, fun lw hlw => ?_⟩
      have a6 : upd (upd H4 lh (.lst [])) a (.ins C dx (putF "homes" (.ref lh) f2)) a = _ := upd_same
      have nlw : lw ≠ a := (ne_of_none a6 hlw).symm
      have k6 : ∀ b o, H b = some o → b ≠ a → upd (upd H4 lh (.lst [])) a (.ins C dx (putF "homes" (.ref lh) f2)) b = some o := fun b o h n => up_a (up_n (k4 b o h n) hlh) n
      have b6 : upd (upd H4 lh (.lst [])) a (.ins C dx (putF "homes" (.ref lh) f2)) lb = some (.lst ((brkN []).map vN)) := up_a (up_n b4 hlh) nlb
      have h6 : upd (upd H4 lh (.lst [])) a (.ins C dx (putF "homes" (.ref lh) f2)) lh = some (.lst []) := up_a upd_same nlh
      generalize eH6 : upd (upd H4 lh (.lst [])) a (.ins C dx (putF "homes" (.ref lh) f2)) = H6 at *
      have l4 := putF_len "ways" (.ref lw) (putF "homes" (.ref lh) f2)
      refine ⟨_, rfl, a, C, dx, _, rfl, up_n a6 hlw, T.cl, T.nW, by omega, ?_⟩
      have a7 : upd (upd H6 lw (.lst [])) a (.ins C dx (putF "ways" (.ref lw) (putF "homes" (.ref lh) f2))) a = _ := upd_same
      have k7 : ∀ b o, H b = some o → b ≠ a → upd (upd H6 lw (.lst [])) a (.ins C dx (putF "ways" (.ref lw) (putF "homes" (.ref lh) f2))) b = some o := fun b o h n => up_a (up_n (k6 b o h n) hlw) n
      have b7 : upd (upd H6 lw (.lst [])) a (.ins C dx (putF "ways" (.ref lw) (putF "homes" (.ref lh) f2))) lb = some (.lst ((brkN []).map vN)) := up_a (up_n b6 hlw) nlb
      have h7 : upd (upd H6 lw (.lst [])) a (.ins C dx (putF "ways" (.ref lw) (putF "homes" (.ref lh) f2))) lh = some (.lst []) := up_a (up_n h6 hlw) nlh
      have w7 : upd (upd H6 lw (.lst [])) a (.ins C dx (putF "ways" (.ref lw) (putF "homes" (.ref lh) f2))) lw = some (.lst []) := up_a upd_same nlw
      generalize eH7 : upd (upd H6 lw (.lst [])) a (.ins C dx (putF "ways" (.ref lw) (putF "homes" (.ref lh) f2))) = H7 at *
      intro ls hls
      have l5 := putF_len "shortest" (.ref ls) (putF "ways" (.ref lw) (putF "homes" (.ref lh) f2))
      have nls : ls ≠ a := (ne_of_none a7 hls).symm
      refine ⟨_, rfl, a, C, dx, _, rfl, up_n a7 hls, T.cl, T.nS, by omega, ?_⟩
      refine ⟨by show 0 ≤ sizeLine; decide, fun lp hlp => ?_⟩
      have a8 : upd (upd H7 ls (.dT [])) a (.ins C dx (putF "shortest" (.ref ls) (putF "ways" (.ref lw) (putF "homes" (.ref lh) f2)))) a = _ := upd_same
      have nlp : lp ≠ a := (ne_of_none a8 hlp).symm
      have k8 : ∀ b o, H b = some o → b ≠ a → upd (upd H7 ls (.dT [])) a (.ins C dx (putF "shortest" (.ref ls) (putF "ways" (.ref lw) (putF "homes" (.ref lh) f2)))) b = some o := fun b o h n => up_a (up_n (k7 b o h n) hls) n
      have b8 : upd (upd H7 ls (.dT [])) a (.ins C dx (putF "shortest" (.ref ls) (putF "ways" (.ref lw) (putF "homes" (.ref lh) f2)))) lb = some (.lst ((brkN []).map vN)) := up_a (up_n b7 hls) nlb
      have h8 : upd (upd H7 ls (.dT [])) a (.ins C dx (putF "shortest" (.ref ls) (putF "ways" (.ref lw) (putF "homes" (.ref lh) f2)))) lh = some (.lst []) := up_a (up_n h7 hls) nlh
      have w8 : upd (upd H7 ls (.dT [])) a (.ins C dx (putF "shortest" (.ref ls) (putF "ways" (.ref lw) (putF "homes" (.ref lh) f2)))) lw = some (.lst []) := up_a (up_n w7 hls) nlw
      have s8 : upd (upd H7 ls (.dT [])) a (.ins C dx (putF "shortest" (.ref ls) (putF "ways" (.ref lw) (putF "homes" (.ref lh) f2)))) ls = some (.dT []) := up_a upd_same nls
      generalize eH8 : upd (upd H7 ls (.dT [])) a (.ins C dx (putF "shortest" (.ref ls) (putF "ways" (.ref lw) (putF "homes" (.ref lh) f2)))) = H8 at *
      refine ⟨_, rfl, a, C, dx, _, rfl, up_n a8 hlp, T.cl, T.nP, by omega, ?_⟩
      have fe : putF "pieces" (.ref lp) (putF "shortest" (.ref ls) (putF "ways" (.ref lw) (putF "homes" (.ref lh) f2))) = dF ⟨dx, lr, lb, lh, lw, ls, lp⟩ := puts_eq hfs
      rw [fe]
      have free : ∀ {H' : Hp} {l : Addr}, (∀ b o, H b = some o → b ≠ a → H' b = some o) → H' l = none → l ≠ a → H l = none := fun {H' l} k hl n => by
        cases e : H l with
        | none => rfl
        | some o =>
          rw [k l o e n] at hl
          cases hl
      refine q _ ⟨dx, lr, lb, lh, lw, ls, lp⟩ ⟨upd_same, ?_, ?_, ?_, ⟨[], ?_, trivial⟩, ⟨[], ?_, Nat.le_refl _, fun _ _ => rfl⟩, ⟨[], ?_, trivial⟩, ?_⟩ rfl ?_ ?_
      · exact up_a (up_n (k8 _ _ hlr hlra) hlp) hlra
      · exact up_a (up_n b8 hlp) nlb
      · exact up_a (up_n h8 hlp) nlh
      · exact up_a (up_n w8 hlp) nlw
      · exact up_a (up_n s8 hlp) nls
      · exact up_a upd_same nlp
      · have r4 := k4 _ _ hlr hlra
        have r6 := k6 _ _ hlr hlra
        have r7 := k7 _ _ hlr hlra
        have r8 := k8 _ _ hlr hlra
        have m1 : lr ≠ lb := ne_of_none hlr hlb0
        have m2 : lr ≠ lh := ne_of_none r4 hlh
        have m3 : lr ≠ lw := ne_of_none r6 hlw
        have m4 : lr ≠ lp := ne_of_none r8 hlp
        have m5 : lb ≠ lh := ne_of_none b4 hlh
        have m6 : lb ≠ lw := ne_of_none b6 hlw
        have m7 : lb ≠ lp := ne_of_none b8 hlp
        have m8 : lh ≠ lw := ne_of_none h6 hlw
        have m9 : lh ≠ lp := ne_of_none h8 hlp
        have m10 : lw ≠ lp := ne_of_none w8 hlp
        have t1 : lr ≠ ls := ne_of_none r7 hls
        have t2 : lb ≠ ls := ne_of_none b7 hls
        have t3 : lh ≠ ls := ne_of_none h7 hls
        have t4 : lw ≠ ls := ne_of_none w7 hls
        have t5 : ls ≠ lp := ne_of_none s8 hlp
        show [lr, lb, lh, lw, ls, lp].Nodup
        simp [m1, m2, m3, m4, m5, m6, m7, m8, m9, m10, t1, t2, t3, t4, t5]
      · intro b o h n
        exact up_a (up_n (k8 _ _ h n) hlp) n
      · intro b hb
        have hb' : b ∈ [lr, lb, lh, lw, ls, lp] := hb
        simp only [List.mem_cons, List.not_mem_nil, or_false] at hb'
        rcases hb' with e | e | e | e | e | e
        · exact .inl e
        · rw [e]; exact .inr hlb0
        · rw [e]; exact .inr (free k4 hlh nlh)
        · rw [e]; exact .inr (free k6 hlw nlw)
        · rw [e]; exact .inr (free k7 hls nls)
        · rw [e]; exact .inr (free k8 hlp nlp)
    exact goal4 _ a4 k4 b4
end
end Du

namespace Du
open PySem PySem.Spec PyProof.Rows L2
open Sw82 (Call Plan Work Rules)
section
variable {P : Program} {w : World} {K : PySem.W.Frag} {mg : Str → Option Value} {base : Heap} {C : Addr}
theorem scInit : FnScope ["self"] ["self"] (defScope sInit) := ⟨rfl, rfl, rfl, by decide +kernel, rfl, by decide +kernel, by decide +kernel⟩
theorem ok_init {f f1 : Addr} {fd fd1 : FuncData} (F : Fun K "__init__" "Depot.__init__" sInit f fd) (T : Txt K mg C) (F1 : Fun K "begin_anew" "Depot.begin_anew" sAnew f1 fd1) (b1 : Binds K fd1 ["self", "rules"] []) (m1 : Meth K C "begin_anew" f1) :
    FnOk P w K mg base CX0 2 f fd ["self"] (spInit C) := by
  have G1 : FnOk P w K mg base CX0 1 f1 fd1 ["self", "rules"] (spAnew C) := ok_anew F1 T
  obtain ⟨af, gF, hF⟩ := T.gF
  refine F.ok scInit (fun vs H Q E h => ?_) (fun cdv A outer s H vs Q E hr h => ⟨_, pss_one (ps_expr (pe_meth (pv 0) T.cl m1 G1 hr b1 .nil pass0 (pa_cons (pe_callTy call_list_of (by rfl) T.list (by decide +kernel) (pa_cons (pe_glob (v := .ref af) rfl gF rfl) pa_nil)) pa_nil))), ?_⟩)
  · obtain ⟨a, dx, rfl, _⟩ := h
    rfl
  · obtain ⟨a, dx, rfl, ha, q⟩ := h
    refine ⟨_, rfl, a, dx, [], rfl, ha, rfl, af, _, rfl, .inr (hF _), fun l hl => ?_⟩
    refine ⟨a, dx, l, [], Sw82.init.rules, rfl, up_n ha hl, .inl rfl, upd_same, fun H' D' d e k fv => ?_⟩
    refine q H' D' d (fun b o h n => k b o (up_n h hl) n) fun b hb => ?_
    rcases fv b hb with rfl | h
    · exact hl
    · exact (same_new hl).free h
theorem scBegins : FnScope ["self", "rules"] ["self", "rules"] (defScope sBegins) := ⟨rfl, rfl, rfl, by decide +kernel, rfl, by decide +kernel, by decide +kernel⟩
theorem rulesOk_iff (r : Rules) : Sw82.rulesOk r = true ↔ ∀ n ∈ rulesN r, n ≤ 100000 := by
  unfold Sw82.rulesOk
  rw [List.all_eq_true]
  exact ⟨fun h n hn => of_decide_eq_true (h n hn), fun h n hn => decide_eq_true (h n hn)⟩
theorem ok_begins {f f1 : Addr} {fd fd1 : FuncData} (F : Fun K "begins" "Depot.begins" sBegins f fd) (T : Txt K mg C) (F1 : Fun K "begin_anew" "Depot.begin_anew" sAnew f1 fd1) (b1 : Binds K fd1 ["self", "rules"] []) (m1 : Meth K C "begin_anew" f1) :
    FnOk P w K mg base CX0 2 f fd ["self", "rules"] (spBegins C) := by
  have G1 : FnOk P w K mg base CX0 1 f1 fd1 ["self", "rules"] (spAnew C) := ok_anew F1 T
  obtain ⟨tm, gM⟩ := T.gM
  refine F.ok scBegins (fun vs H Q E h => ?_) (fun cdv A outer s H vs Q E hr h => ⟨_, pss_cons (ps_if (pt_cmpR op_gt (pe_callB (cr_max rfl) (by rfl) T.max (by decide +kernel) (pa_cons (pv 1) pa_nil)) (pe_glob (v := .int 100000) rfl gM ⟨_, rfl⟩) (nomark _)) (pss_one (ps_ret (pe_un un_neg pe_int))) pss_nil)
      (pss_cons (ps_expr (pe_meth (pv 0) T.cl m1 G1 hr b1 .nil pass0 (pa_cons (pe_callTy call_list_of (by rfl) T.list (by decide +kernel) (pa_cons (pv 1) pa_nil)) pa_nil)))
      (pss_one (ps_ret pe_int))), ?_⟩)
  · obtain ⟨a, lr, D, p, r, rfl, _⟩ := h
    rfl
  · obtain ⟨a, lr, D, p, r, rfl, d, hlr, q⟩ := h
    refine ⟨_, rfl, lr, (rulesN r).map (fun (n : Nat) => (n : Int)), rfl, .of (by rw [← map_vN]; exact hlr), by rw [List.length_map]; show 0 < 9; decide, fun m hm hle => ?_⟩
    refine ⟨_, _, rfl, rfl, _, rfl, ?_⟩
    by_cases h : Sw82.rulesOk r = true
    · have hb := (rulesOk_iff r).mp h
      refine ifF (decide_eq_false ?_) ?_
      · obtain ⟨n, hn, e⟩ := List.mem_map.mp hm
        have := hb n hn
        omega
      have st : Sw82.step p (.begins r) = (⟨r, [], [], [], []⟩, Sw82.ok 0) := by
        unfold Sw82.step
        dsimp only
        rw [if_neg (by rw [h]; exact fun z => Bool.noConfusion z)]
      rw [st] at q
      refine ⟨_, rfl, a, D.dx, _, rfl, d.ins, dF_none D (by decide +kernel) (by decide +kernel) (by decide +kernel) (by decide +kernel) (by decide +kernel) (by decide +kernel), _, rfl, lr, _, rfl, .inl (.of hlr), fun l hl => ?_⟩
      refine ⟨a, D.dx, l, _, r, rfl, up_n d.ins hl, .inr ⟨D, rfl⟩, upd_same, fun H' D' d' e k fv => ?_⟩
      refine q H' D' d' ⟨fun b o hb n _ => k b o (up_n hb hl) n, fun b hb => ?_⟩
      rcases fv b hb with rfl | h2
      · exact .inr hl
      · exact .inr ((same_new hl).free h2)
    · have hb : ∃ n ∈ rulesN r, 100000 < n := by
        apply Classical.byContradiction
        intro hn
        exact h ((rulesOk_iff r).mpr fun n hn' => Nat.le_of_not_lt fun z => hn ⟨n, hn', z⟩)
      refine ifT (decide_eq_true ?_) ?_
      · obtain ⟨n, hn, e⟩ := hb
        have := hle (n : Int) (List.mem_map.mpr ⟨n, hn, rfl⟩)
        omega
      have st : Sw82.step p (.begins r) = (p, Sw82.ok (-1)) := by
        unfold Sw82.step
        dsimp only
        rw [if_pos (by cases e : Sw82.rulesOk r with | true => exact (h e).elim | false => rfl)]
      rw [st] at q
      exact ⟨_, rfl, q _ D d (Moves.refl H a D)⟩
end
end Du

/-! # duty.py: lengths, gaps, breaks, homes, pay -/
namespace Du
open PySem PySem.Spec PyProof.Rows L2
open Sw82 (Call Plan Work Rules)
abbrev sLen : Stmt := top 31
abbrev sGap : Stmt := top 32
abbrev sGaps : Stmt := top 33
abbrev sBreak : Stmt := top 34
abbrev sUnb : Stmt := top 35
abbrev sHome : Stmt := top 36
abbrev sPay : Stmt := top 37
/-- the constants of the modules -/
def kons : List (Str × Int) := [("FROM_PLACE", 0), ("TO_PLACE", 1), ("FIRST", 2), ("LAST", 3), ("LONG", 0), ("WORK_state", 1), ("DRIVE", 2), ("REST", 3), ("ON", 4), ("OFF", 5), ("CHANGE", 6), ("LEAST", 7), ("TWICE", 8),
  ("RIGHT", 0), ("NO_GAP", 1), ("NO_HOME", 2), ("TOO_LONG", 3), ("TOO_MUCH_WORK", 4), ("TOO_LONG_UNBROKEN", 5), ("BEGINS", 0), ("PLACE", 1), ("WAY", 2), ("WORK_depot", 3), ("DROP", 4), ("CHECK", 5), ("BEST", 6)]
structure Txk (mg : Str → Option Value) : Prop where
  k : ∀ q ∈ kons, ∃ t, mg q.1 = some (.int q.2 t)
  len : mg "len" = none
  max : mg "max" = none
  range : mg "range" = none
  sum : mg "sum" = none
  sorted : mg "sorted" = none
theorem Txk.g {mg : Str → Option Value} (T : Txk mg) (x : Str) (n : Int) (h : (x, n) ∈ kons) : ∃ t, mg x = some (.int n t) := T.k (x, n) h
/-- a piece of work: a tuple -/
abbrev PieceAt (H : Hp) (t : Addr) (w : Work) : Prop := H t = some (.tup (workV w))
def spLen : Sp := fun vs H Q _ => ∃ (t : Addr) (w : Work), vs = [.ref t] ∧ PieceAt H t w ∧ Q (.int ((w.halt_ : Int) - (w.start : Int))) H
def spGap (C : Addr) : Sp := fun vs H Q _ => ∃ (a : Addr) (D : Own) (p : Plan) (tx ty : Addr) (x y : Work), vs = [.ref a, .ref tx, .ref ty] ∧ Dep C H a D p ∧ PieceAt H tx x ∧ PieceAt H ty y ∧ ∀ H' : Hp, Same H H' → Q (optV (p.gap x y)) H'
section
variable {P : Program} {w : World} {K : PySem.W.Frag} {mg : Str → Option Value} {base : Heap} {C : Addr}
theorem scLen : FnScope ["piece"] ["piece"] (defScope sLen) := ⟨rfl, rfl, rfl, by decide +kernel, rfl, by decide +kernel, by decide +kernel⟩
theorem ok_len {f : Addr} {fd : FuncData} (F : Fun K "length_of" "length_of" sLen f fd) (U : Txk mg) : FnOk P w K mg base CX0 1 f fd ["piece"] spLen := by
  obtain ⟨t2, g2⟩ := U.g "FIRST" 2 (by decide +kernel)
  obtain ⟨t3, g3⟩ := U.g "LAST" 3 (by decide +kernel)
  refine F.ok scLen (fun vs H Q E h => ?_) (fun cdv A outer s H vs Q E hr h => ⟨_, pss_one (ps_ret (pe_op op_sub (pe_ix ix_tup (pv 0) (pe_glob (v := .int 3) rfl g3 ⟨_, rfl⟩) (fun _ _ => rfl)) (pe_ix ix_tup (pv 0) (pe_glob (v := .int 2) rfl g2 ⟨_, rfl⟩) (fun _ _ => rfl)))), ?_⟩)
  · obtain ⟨t, w, rfl, _⟩ := h
    rfl
  · obtain ⟨t, w, rfl, ht, q⟩ := h
    exact ⟨_, rfl, t, _, _, _, rfl, rfl, .of ht, atI_nat (j := 3) rfl, _, rfl, t, _, _, _, rfl, rfl, .of ht, atI_nat (j := 2) rfl, _, _, rfl, rfl, q⟩
theorem scGap : FnScope ["depot", "piece", "behind", "minutes"] ["depot", "piece", "behind"] (defScope sGap) := ⟨rfl, rfl, rfl, by decide +kernel, rfl, by decide +kernel, by decide +kernel⟩
theorem ok_gap {f fg : Addr} {fd fdg : FuncData} (F : Fun K "gap_between" "gap_between" sGap f fd) (T : Txt K mg C) (U : Txk mg) (Fg : Fun K "minutes_to_get" "Depot.minutes_to_get" sGet fg fdg) (bg : Binds K fdg ["self", "from_place", "to_place"] []) (mg1 : Meth K C "minutes_to_get" fg) :
    FnOk P w K mg base CX0 2 f fd ["depot", "piece", "behind"] (spGap C) := by
  have G : FnOk P w K mg base CX0 1 fg fdg ["self", "from_place", "to_place"] (spGet C) := ok_get Fg T
  obtain ⟨t0, g0⟩ := U.g "FROM_PLACE" 0 (by decide +kernel)
  obtain ⟨t1, g1⟩ := U.g "TO_PLACE" 1 (by decide +kernel)
  obtain ⟨t2, g2⟩ := U.g "FIRST" 2 (by decide +kernel)
  obtain ⟨t3, g3⟩ := U.g "LAST" 3 (by decide +kernel)
  obtain ⟨t6, g6⟩ := U.g "CHANGE" 6 (by decide +kernel)
  refine F.ok scGap (fun vs H Q E h => ?_) (fun cdv A outer s H vs Q E hr h => ⟨_, pss_cons (ps_set (i := 3) scGap.nd rfl (Or.inl rfl) (pe_meth (pv 0) T.cl mg1 G hr bg .nil pass0 (pa_cons (pe_ix ix_tup (pv 1) (pe_glob (v := .int 1) rfl g1 ⟨_, rfl⟩) (fun _ _ => rfl)) (pa_cons (pe_ix ix_tup (pv 2) (pe_glob (v := .int 0) rfl g0 ⟨_, rfl⟩) (fun _ _ => rfl)) pa_nil))))
    (pss_cons (ps_if (PW.pt (pw_or (pt_cmpR op_isN (pv 3) pe_non (nomark _)) (pw_or1 (pt_cmpR op_gt (pe_op op_add (pe_op op_add (pe_ix ix_tup (pv 1) (pe_glob (v := .int 3) rfl g3 ⟨_, rfl⟩) (fun _ _ => rfl)) (pv 3)) (pe_ix ix_list (pe_fld (pv 0) rfl) (pe_glob (v := .int 6) rfl g6 ⟨_, rfl⟩) (fun _ _ => rfl))) (pe_ix ix_tup (pv 2) (pe_glob (v := .int 2) rfl g2 ⟨_, rfl⟩) (fun _ _ => rfl)) (nomark _))))) (pss_one (ps_ret pe_non)) pss_nil)
    (pss_one (ps_ret (pe_op op_sub (pe_op op_sub (pe_ix ix_tup (pv 2) (pe_glob (v := .int 2) rfl g2 ⟨_, rfl⟩) (fun _ _ => rfl)) (pe_ix ix_tup (pv 1) (pe_glob (v := .int 3) rfl g3 ⟨_, rfl⟩) (fun _ _ => rfl))) (pv 3))))), ?_⟩)
  · obtain ⟨a, D, p, tx, ty, x, y, rfl, _⟩ := h
    rfl
  · obtain ⟨a, D, p, tx, ty, x, y, rfl, d, hx, hy, q⟩ := h
    refine ⟨_, rfl, a, D.dx, _, rfl, d.ins, dF_none D (by decide +kernel) (by decide +kernel) (by decide +kernel) (by decide +kernel) (by decide +kernel) (by decide +kernel), _, rfl, tx, _, _, _, rfl, rfl, .of hx, atI_nat (j := 1) rfl, _, rfl, ty, _, _, _, rfl, rfl, .of hy, atI_nat (j := 0) rfl, ?_⟩
    refine ⟨a, D, p, x.to, y.from_, rfl, d, fun H1 s1 => ?_⟩
    have d1 := d.same s1
    have hx1 : PieceAt H1 tx x := s1 _ _ hx
    have hy1 : PieceAt H1 ty y := s1 _ _ hy
    have q1 := q H1 s1
    rw [gap_is] at q1
    cases hw : p.way x.to y.from_ with
    | none =>
      rw [hw] at q1
      refine ⟨_, rfl, rfl, _, rfl, ?_⟩
      refine ifT (decide_eq_true rfl) ?_
      exact ifT rfl q1
    | some n =>
      rw [hw] at q1
      refine ⟨_, rfl, rfl, _, rfl, ?_⟩
      refine ifF (decide_eq_false (by intro z; cases z)) ?_
      refine ⟨_, rfl, tx, _, _, _, rfl, rfl, .of hx1, atI_nat (j := 3) rfl, _, rfl, _, _, rfl, rfl, _, rfl, a, C, D.dx, _, _, rfl, d1.ins, T.cl, T.nR, dF_rules D, D.lr, _, _, _, rfl, rfl, .of d1.r, atI_nat (j := 6) rfl, _, _, rfl, rfl, _, rfl, ty, _, _, _, rfl, rfl, .of hy1, atI_nat (j := 2) rfl, _, _, rfl, rfl, _, rfl, ?_⟩
      by_cases hc : x.halt_ + n + p.rules.change ≤ y.start
      · refine ifF (decide_eq_false (by omega)) ?_
        have q2 : Q (.int ((y.start - x.halt_ - n : Nat) : Int)) H1 := by
          have z := q1
          simp only [hc, if_true] at z
          exact z
        have e : ((y.start - x.halt_ - n : Nat) : Int) = (y.start : Int) - (x.halt_ : Int) - (n : Int) := by omega
        rw [e] at q2
        exact ⟨_, rfl, ty, _, _, _, rfl, rfl, .of hy1, atI_nat (j := 2) rfl, _, rfl, tx, _, _, _, rfl, rfl, .of hx1, atI_nat (j := 3) rfl, _, _, rfl, rfl, _, rfl, _, _, rfl, rfl, q2⟩
      · refine ifT (decide_eq_true (by omega)) ?_
        have z := q1
        simp only [hc, if_false] at z
        exact z
end
end Du

namespace Du
open PySem PySem.Spec PyProof.Rows L2
open Sw82 (Call Plan Work Rules)
/-- the rules by a written part that is named (within a comprehension) -/
theorem ixL {X : Cx} (K : PySem.W.Frag) (e : X.K = K := by rfl) : IxR X (rIxL K) := by
  subst e
  exact ix_list
theorem ixT {X : Cx} (K : PySem.W.Frag) (e : X.K = K := by rfl) : IxR X (rIxT K) := by
  subst e
  exact ix_tup
theorem fldK {X : Cx} {o : Expr} {g : Str} {pos : Pos} {ta : TE} (K : PySem.W.Frag) (he : PE X o ta) (hb : attributeBase o g X.env (eval o X.env) = eval o X.env) (e : X.K = K := by rfl) : PE X (.Attribute o g pos) (tFld K ta g) := by
  subst e
  exact pe_fld he hb
theorem yes_ite {A B : Hp → Prop} {σ : L2.St} {H : Hp} (h : A H) : tYes σ H (fun b H3 => if b = true then A H3 else B H3) := by
  show if true = true then A H else B H
  rw [if_pos rfl]
  exact h
/-- a list of pieces of work -/
def PList (H : Hp) (lp : Addr) (l : List Work) : Prop := ∃ ts : List Addr, H lp = some (.lst (ts.map V.ref)) ∧ Tups H ts (l.map workV)
theorem PList.ext {H H' : Hp} {lp : Addr} {l : List Work} (h : PList H lp l) (s : Ext H H') : PList H' lp l := by
  obtain ⟨ts, e1, e2⟩ := h
  exact ⟨ts, s _ _ e1 (by intro ps z; cases z), e2.ext s⟩
theorem PList.same {H H' : Hp} {lp : Addr} {l : List Work} (h : PList H lp l) (s : Same H H') : PList H' lp l := h.ext (Same.ext s)
/-- the i-th piece of a list of them -/
theorem PList.at {H : Hp} {lp : Addr} {l : List Work} (h : PList H lp l) {i : Nat} (hi : i < l.length) : ∃ (ts : List Addr) (t : Addr), H lp = some (.lst (ts.map V.ref)) ∧ ts.length = l.length ∧ (ts.map V.ref)[i]? = some (.ref t) ∧ PieceAt H t (l.getD i wd) := by
  obtain ⟨ts, e1, e2⟩ := h
  have hl : ts.length = l.length := by rw [e2.len, List.length_map]
  obtain ⟨t, h1, h2⟩ := Tups.at (n := i) (r := workV (l.getD i wd)) e2 (by
    rw [List.getElem?_map, List.getD_eq_getElem?_getD, List.getElem?_eq_getElem hi] <;> rfl)
  exact ⟨ts, t, e1, hl, by rw [List.getElem?_map, h1] <;> rfl, h2⟩
theorem PList.len {H : Hp} {lp : Addr} {l : List Work} (h : PList H lp l) : ∃ ts : List Addr, H lp = some (.lst (ts.map V.ref)) ∧ (ts.map V.ref).length = l.length := by
  obtain ⟨ts, e1, e2⟩ := h
  exact ⟨ts, e1, by rw [List.length_map, e2.len, List.length_map]⟩
def spGaps (C : Addr) : Sp := fun vs H Q _ => ∃ (a lp : Addr) (D : Own) (p : Plan) (l : List Work), vs = [.ref a, .ref lp] ∧ Dep C H a D p ∧ PList H lp l ∧ 1 ≤ l.length ∧ l.length ≤ 1000 ∧ ∀ (H' : Hp) (r : Addr), Same H H' → H r = none → H' r = some (.lst ((gapsOf p l).map optV)) → Q (.ref r) H'
section
variable {P : Program} {w : World} {K : PySem.W.Frag} {mg : Str → Option Value} {base : Heap} {C : Addr}
theorem scGaps : FnScope ["depot", "pieces", "at"] ["depot", "pieces"] (defScope sGaps) := ⟨rfl, rfl, rfl, by decide +kernel, rfl, by decide +kernel, by decide +kernel⟩
theorem ok_gaps {f fa fg : Addr} {fd fda fdg : FuncData} (F : Fun K "gaps_between" "gaps_between" sGaps f fd) (T : Txt K mg C) (U : Txk mg) (Fa : Fun K "gap_between" "gap_between" sGap fa fda) (ba : Binds K fda ["depot", "piece", "behind"] []) (ga : mg "gap_between" = some (.ref fa))
    (Fg : Fun K "minutes_to_get" "Depot.minutes_to_get" sGet fg fdg) (bg : Binds K fdg ["self", "from_place", "to_place"] []) (mg1 : Meth K C "minutes_to_get" fg) :
    FnOk P w K mg base CX0 3 f fd ["depot", "pieces"] (spGaps C) := by
  have G : FnOk P w K mg base CX0 2 fa fda ["depot", "piece", "behind"] (spGap C) := ok_gap Fa T U Fg bg mg1
  refine F.ok scGaps (fun vs H Q E h => ?_) (fun cdv A outer s H vs Q E hr h => ⟨_, pss_one (ps_ret (pe_lc (own := [("at", 2)]) (g := gName 2) (tt := tYes) rfl scGaps.nd (pi_range2 (by rfl) U.range (pa_cons pe_int (pa_cons (pe_callB call_len_seq (by rfl) U.len PySem.boot_len (pa_cons (pv 1) pa_nil)) pa_nil)))
      (blkOk_by (N := ["depot", "pieces", "at"]) (sc := defScope sGaps) (by decide +kernel)) (fun _ _ _ _ _ => pg_name (i := 2) scGaps.nd rfl (Or.inl rfl)) (fun _ _ _ _ _ => pts_nil)
      (fun _ _ _ _ _ => pe_call G hr rfl ga Fa.kp ba .nil pass0 (pa_cons (pv 0) (pa_cons (pe_ix (ixL K) (pv 1) (pe_op op_sub (pv 2) pe_int) (fun _ _ => rfl)) (pa_cons (pe_ix (ixL K) (pv 1) (pv 2) (fun _ _ => rfl)) pa_nil)))))), ?_⟩)
  · obtain ⟨a, lp, D, p, l, rfl, _⟩ := h
    rfl
  · obtain ⟨a, lp, D, p, l, rfl, d, hl, h1, h2, q⟩ := h
    obtain ⟨ts0, e0, el⟩ := hl.len
    refine ⟨_, rfl, lp, _, rfl, .inl (.of e0), (1 : Int), ((l.length : Nat) : Int), ?_, ⟨by decide, by decide, by omega, by omega⟩, fun D' hD => ?_⟩
    · rw [el]
    have hn : (((l.length : Nat) : Int) - 1).toNat = l.length - 1 := by omega
    rw [hn]
    refine lc_range (lo := 1) (n := l.length - 1) (fun i H' => ∃ acc, H' D' = some (.lst acc) ∧ acc = ((gapsOf p l).take i).map optV ∧ Same H H') ⟨[], upd_same, rfl, same_new hD⟩ (fun i H' hi hp => ?_) fun H' hp => ?_
    · obtain ⟨acc, ea, eb, sm⟩ := hp
      refine ⟨rfl, ?_⟩
      have hl1 := hl.same sm
      obtain ⟨ts1, t1, a1, a2, a3, a4⟩ := hl1.at (i := i) (by omega)
      obtain ⟨ts2, t2, c1, c2, c3, c4⟩ := hl1.at (i := i + 1) (by omega)
      have x1 : (1 : Int) + (i : Int) - 1 = ((i : Nat) : Int) := by omega
      have x2 : (1 : Int) + (i : Int) = ((i + 1 : Nat) : Int) := by omega
      refine yes_ite ?_
      refine ⟨_, rfl, _, rfl, _, rfl, _, _, rfl, rfl, lp, _, _, .ref t1, rfl, rfl, .of a1, ?_, _, rfl, _, rfl, lp, _, _, .ref t2, rfl, rfl, .of c1, ?_, ?_⟩
      · rw [x1]
        exact atI_nat a3
      · rw [x2]
        exact atI_nat c3
      refine ⟨a, D, p, t1, t2, _, _, rfl, d.same sm, a4, c4, fun H2 s2 => ⟨acc, s2 _ _ ea, ?_, _, upd_same, ?_, ?_⟩⟩
      · rw [eb, List.length_map, List.length_take, gaps_len]
        exact small1000 (by omega)
      · rw [eb, List.take_add_one, gaps_at p (by omega), List.map_append] <;> rfl
      · intro b o hb
        have n1 : b ≠ D' := fun z => by
          rw [z, hD] at hb
          cases hb
        rw [upd_ne n1]
        exact s2 _ _ (sm _ _ hb)
    · obtain ⟨acc, ea, eb, sm⟩ := hp
      refine q H' D' sm hD ?_
      rw [ea, eb, List.take_of_length_le (by rw [gaps_len] <;> omega)]
end
end Du

namespace Du
open PySem PySem.Spec PyProof.Rows L2
open Sw82 (Call Plan Work Rules)
def spBreak (C : Addr) : Sp := fun vs H Q _ => ∃ (a : Addr) (D : Own) (p : Plan) (tx ty : Addr) (x y : Work) (n : Nat), vs = [.ref a, .ref tx, .ref ty, vN n] ∧ Dep C H a D p ∧ PieceAt H tx x ∧ PieceAt H ty y ∧ x.to < 20 ∧ y.from_ < 20 ∧ p.gap x y = some n ∧ Q (.bl (p.breaks_ x y)) H
theorem brk_at (l : List Nat) {i : Nat} (h : i < 20) : ((brkN l).map vN)[i]? = some (vN (if i ∈ l then 1 else 0)) := by
  unfold brkN
  rw [List.getElem?_map, List.getElem?_map, List.getElem?_range h] <;> rfl
theorem brk_is (l : List Nat) (i : Nat) : decide (vN (if i ∈ l then 1 else 0) = V.int 1) = l.contains i := by
  refine (eq_nat _ 1).trans ?_
  by_cases h : i ∈ l
  · rw [if_pos h]
    simp [h]
  · rw [if_neg h]
    simp [h]
theorem breaks_is (p : Plan) {x y : Work} {n : Nat} (h : p.gap x y = some n) : p.breaks_ x y = (decide (p.rules.rest ≤ n) && (p.breaks.contains x.to || p.breaks.contains y.from_)) := by
  unfold Plan.breaks_
  rw [h, Bool.and_comm]
def spUnb (C : Addr) : Sp := fun vs H Q _ => ∃ (a lp lg : Addr) (D : Own) (p : Plan) (l : List Work), vs = [.ref a, .ref lp, .ref lg] ∧ Dep C H a D p ∧ PList H lp l ∧ H lg = some (.lst ((gapsOf p l).map optV)) ∧ none ∉ gapsOf p l ∧ (∀ w ∈ l, w.from_ < 20 ∧ w.to < 20 ∧ w.start < w.halt_) ∧ 1 ≤ l.length ∧ l.length ≤ 1000 ∧
  Q (vN (p.driveFrom 0 l)) H
theorem len_int {w : Work} (h : w.start < w.halt_) : (w.halt_ : Int) - (w.start : Int) = ((len w : Nat) : Int) := by
  unfold len
  omega
theorem getD_mem {l : List Work} {i : Nat} (h : i < l.length) : l.getD i wd ∈ l := by
  rw [List.getD_eq_getElem?_getD, List.getElem?_eq_getElem h]
  exact List.getElem_mem h
theorem drop_getD {l : List Work} {i : Nat} (h : i < l.length) : l.drop i = l.getD i wd :: l.drop (i + 1) := by
  rw [List.getD_eq_getElem?_getD, List.getElem?_eq_getElem h]
  exact List.drop_eq_getElem_cons h
theorem max_nat (m t : Nat) : (if ((t : Nat) : Int) > (m : Int) then ((t : Nat) : Int) else (m : Int)) = ((max m t : Nat) : Int) := by
  split <;> omega
section
variable {P : Program} {w : World} {K : PySem.W.Frag} {mg : Str → Option Value} {base : Heap} {C : Addr}
theorem scBreak : FnScope ["depot", "piece", "behind", "gap", "at_end", "at_beginning"] ["depot", "piece", "behind", "gap"] (defScope sBreak) := ⟨rfl, rfl, rfl, by decide +kernel, rfl, by decide +kernel, by decide +kernel⟩
theorem ok_break {f : Addr} {fd : FuncData} (F : Fun K "is_break" "is_break" sBreak f fd) (T : Txt K mg C) (U : Txk mg) : FnOk P w K mg base CX0 1 f fd ["depot", "piece", "behind", "gap"] (spBreak C) := by
  obtain ⟨t0, g0⟩ := U.g "FROM_PLACE" 0 (by decide +kernel)
  obtain ⟨t1, g1⟩ := U.g "TO_PLACE" 1 (by decide +kernel)
  obtain ⟨t3, g3⟩ := U.g "REST" 3 (by decide +kernel)
  refine F.ok scBreak (fun vs H Q E h => ?_) (fun cdv A outer s H vs Q E hr h => ⟨_, pss_cons (ps_set (i := 4) scBreak.nd rfl (Or.inl rfl) (pe_cmpR op_eq (pe_ix ix_list (pe_fld (pv 0) rfl) (pe_ix ix_tup (pv 1) (pe_glob (v := .int 1) rfl g1 ⟨_, rfl⟩) (fun _ _ => rfl)) (fun _ _ => rfl)) pe_int (nomark _)))
    (pss_cons (ps_set (i := 5) scBreak.nd rfl (Or.inl rfl) (pe_cmpR op_eq (pe_ix ix_list (pe_fld (pv 0) rfl) (pe_ix ix_tup (pv 2) (pe_glob (v := .int 0) rfl g0 ⟨_, rfl⟩) (fun _ _ => rfl)) (fun _ _ => rfl)) pe_int (nomark _)))
    (pss_one (ps_ret (pe_and (pe_cmpR op_ge (pv 3) (pe_ix ix_list (pe_fld (pv 0) rfl) (pe_glob (v := .int 3) rfl g3 ⟨_, rfl⟩) (fun _ _ => rfl)) (nomark _)) (pe_one (pe_or (pv 4) (pe_one (pv 5)))))))), ?_⟩)
  · obtain ⟨a, D, p, tx, ty, x, y, n, rfl, _⟩ := h
    rfl
  · obtain ⟨a, D, p, tx, ty, x, y, n, rfl, d, hx, hy, lx, ly, hg, q⟩ := h
    rw [breaks_is p hg] at q
    refine ⟨_, rfl, a, C, D.dx, _, _, rfl, d.ins, T.cl, T.nB, dF_brk D, _, rfl, tx, _, _, _, rfl, rfl, .of hx, atI_nat (j := 1) rfl, D.lb, _, _, _, rfl, rfl, .of d.b, atI_nat (brk_at _ lx), rfl, ?_⟩
    rw [brk_is]
    refine ⟨_, rfl, a, C, D.dx, _, _, rfl, d.ins, T.cl, T.nB, dF_brk D, _, rfl, ty, _, _, _, rfl, rfl, .of hy, atI_nat (j := 0) rfl, D.lb, _, _, _, rfl, rfl, .of d.b, atI_nat (brk_at _ ly), rfl, ?_⟩
    rw [brk_is]
    refine ⟨_, rfl, _, rfl, a, C, D.dx, _, _, rfl, d.ins, T.cl, T.nR, dF_rules D, D.lr, _, _, _, rfl, rfl, .of d.r, atI_nat (j := 3) rfl, _, _, rfl, rfl, _, rfl, ?_⟩
    by_cases h1 : p.rules.rest ≤ n
    · refine ifT (decide_eq_true (by omega)) ?_
      rw [decide_eq_true h1, Bool.true_and] at q
      refine ⟨_, rfl, _, rfl, ?_⟩
      cases h2 : p.breaks.contains x.to with
      | true =>
        rw [h2, Bool.true_or] at q
        exact ifT rfl q
      | false =>
        rw [h2, Bool.false_or] at q
        exact ifF rfl ⟨_, rfl, q⟩
    · refine ifF (decide_eq_false (by omega)) ?_
      rw [decide_eq_false h1, Bool.false_and] at q
      exact q
theorem scUnb : FnScope ["depot", "pieces", "gaps", "together", "most", "at"] ["depot", "pieces", "gaps"] (defScope sUnb) := ⟨rfl, rfl, rfl, by decide +kernel, rfl, by decide +kernel, by decide +kernel⟩
theorem ok_unb {f fb fl : Addr} {fd fdb fdl : FuncData} (F : Fun K "most_unbroken" "most_unbroken" sUnb f fd) (T : Txt K mg C) (U : Txk mg) (Fb : Fun K "is_break" "is_break" sBreak fb fdb) (bb : Binds K fdb ["depot", "piece", "behind", "gap"] []) (gb : mg "is_break" = some (.ref fb))
    (Fl : Fun K "length_of" "length_of" sLen fl fdl) (bl : Binds K fdl ["piece"] []) (gl : mg "length_of" = some (.ref fl)) :
    FnOk P w K mg base CX0 2 f fd ["depot", "pieces", "gaps"] (spUnb C) := by
  have Gb : FnOk P w K mg base CX0 1 fb fdb ["depot", "piece", "behind", "gap"] (spBreak C) := ok_break Fb T U
  have Gl : FnOk P w K mg base CX0 1 fl fdl ["piece"] spLen := ok_len Fl U
  refine F.ok scUnb (fun vs H Q E h => ?_) (fun cdv A outer s H vs Q E hr h => ⟨_, pss_cons (ps_set (i := 3) scUnb.nd rfl (Or.inl rfl) (pe_call Gl hr rfl gl Fl.kp bl .nil pass0 (pa_cons (pe_ix ix_list (pv 1) pe_int (fun _ _ => rfl)) pa_nil)))
    (pss_cons (ps_set (i := 4) scUnb.nd rfl (Or.inl rfl) (pv 3))
    (pss_cons (ps_for PassesOwn.never rfl (pi_range2 (by rfl) U.range (pa_cons pe_int (pa_cons (pe_callB call_len_seq (by rfl) U.len PySem.boot_len (pa_cons (pv 1) pa_nil)) pa_nil))) (pg_name (i := 5) scUnb.nd rfl (Or.inl rfl))
      (pss_cons (ps_if (pt_val (pe_call Gb hr rfl gb Fb.kp bb .nil pass0 (pa_cons (pv 0) (pa_cons (pe_ix ix_list (pv 1) (pe_op op_sub (pv 5) pe_int) (fun _ _ => rfl)) (pa_cons (pe_ix ix_list (pv 1) (pv 5) (fun _ _ => rfl)) (pa_cons (pe_ix ix_list (pv 2) (pe_op op_sub (pv 5) pe_int) (fun _ _ => rfl)) pa_nil)))))) (pss_one (ps_set (i := 3) scUnb.nd rfl (Or.inl rfl) pe_int)) pss_nil)
      (pss_cons (ps_set (i := 3) scUnb.nd rfl (Or.inl rfl) (pe_op op_add (pv 3) (pe_call Gl hr rfl gl Fl.kp bl .nil pass0 (pa_cons (pe_ix ix_list (pv 1) (pv 5) (fun _ _ => rfl)) pa_nil))))
      (pss_one (ps_set (i := 4) scUnb.nd rfl (Or.inl rfl) (pe_callB (call_max2 rfl) (by rfl) U.max (by decide +kernel) (pa_cons (pv 4) (pa_cons (pv 3) pa_nil))))))))
    (pss_one (ps_ret (pv 4))))), ?_⟩)
  · obtain ⟨a, lp, lg, D, p, l, rfl, _⟩ := h
    rfl
  · obtain ⟨a, lp, lg, D, p, l, rfl, d, hl, hg, hno, hw, h1, h2, q⟩ := h
    obtain ⟨ts0, t0, a1, a2, a3, a4⟩ := hl.at (i := 0) (by omega)
    obtain ⟨ts9, e9, el⟩ := hl.len
    refine ⟨_, rfl, lp, _, _, .ref t0, rfl, rfl, .of a1, atI_nat (j := 0) a3, t0, _, rfl, a4, ?_⟩
    rw [len_int (hw _ (getD_mem (by omega))).2.2]
    refine ⟨_, rfl, _, rfl, lp, _, rfl, .inl (.of e9), (1 : Int), ((l.length : Nat) : Int), ?_, ⟨by decide, by decide, by omega, by omega⟩, ?_⟩
    · rw [el]
    have hn : (((l.length : Nat) : Int) - 1).toNat = l.length - 1 := by omega
    rw [hn]
    refine for_range (lo := 1) (n := l.length - 1) (fun i σ H' => H' = H ∧ ∃ (t m : Nat) (v5 : Option V), σ = [some (.ref a), some (.ref lp), some (.ref lg), some (vN t), some (vN m), v5] ∧ unb p t m (l.getD i wd) (l.drop (i + 1)) = p.driveFrom 0 l) ⟨rfl, _, _, none, rfl, ?_⟩ (fun i σ H' hi hp => ?_) fun σ H' hp => ?_
    · have e : l = l.getD 0 wd :: l.drop 1 := by
        have := drop_getD (l := l) (i := 0) (by omega)
        rwa [List.drop_zero] at this
      rw [unb_start, ← e]
    · obtain ⟨rfl, t, m, v5, rfl, hu⟩ := hp
      obtain ⟨ts1, t1, b1, b2, b3, b4⟩ := hl.at (i := i) (by omega)
      obtain ⟨ts2, t2, c1, c2, c3, c4⟩ := hl.at (i := i + 1) (by omega)
      have x1 : (1 : Int) + (i : Int) - 1 = ((i : Nat) : Int) := by omega
      have x2 : (1 : Int) + (i : Int) = ((i + 1 : Nat) : Int) := by omega
      have hgi := gaps_at p (l := l) (i := i) (by omega)
      obtain ⟨n, hn2⟩ : ∃ n, p.gap (l.getD i wd) (l.getD (i + 1) wd) = some n := by
        cases z : p.gap (l.getD i wd) (l.getD (i + 1) wd) with
        | none =>
          rw [z] at hgi
          exact (hno (List.mem_of_getElem? hgi)).elim
        | some n => exact ⟨n, rfl⟩
      have hgV : ((gapsOf p l).map optV)[i]? = some (vN n) := by
        rw [List.getElem?_map, hgi, hn2] <;> rfl
      refine ⟨_, rfl, _, rfl, _, rfl, _, _, rfl, rfl, lp, _, _, .ref t1, rfl, rfl, .of b1, ?_, _, rfl, _, rfl, lp, _, _, .ref t2, rfl, rfl, .of c1, ?_, _, rfl, _, rfl, _, _, rfl, rfl, lg, _, _, vN n, rfl, rfl, .of hg, ?_, ?_⟩
      · rw [x1]
        exact atI_nat b3
      · rw [x2]
        exact atI_nat c3
      · rw [x1]
        exact atI_nat hgV
      refine ⟨a, D, p, t1, t2, _, _, n, rfl, d, b4, c4, (hw _ (getD_mem (by omega))).2.1, (hw _ (getD_mem (by omega))).1, hn2, _, rfl, ?_⟩
      have hd : l.drop (i + 1) = l.getD (i + 1) wd :: l.drop (i + 2) := drop_getD (by omega)
      rw [hd] at hu
      have el2 := len_int (hw _ (getD_mem (l := l) (i := i + 1) (by omega))).2.2
      have fin : ∀ t' : Nat, t' = (if p.breaks_ (l.getD i wd) (l.getD (i + 1) wd) = true then 0 else t) → ((t' : Nat) : Int) + (((l.getD (i + 1) wd).halt_ : Int) - ((l.getD (i + 1) wd).start : Int)) = ((t' + len (l.getD (i + 1) wd) : Nat) : Int) := fun t' _ => by
        rw [el2]
        omega
      cases hb : p.breaks_ (l.getD i wd) (l.getD (i + 1) wd) with
      | true =>
        have hu2 : unb p (0 + len (l.getD (i + 1) wd)) (max m (0 + len (l.getD (i + 1) wd))) (l.getD (i + 1) wd) (l.drop (i + 2)) = p.driveFrom 0 l := by
          have z := hu
          unfold unb at z
          rw [hb, if_pos rfl] at z
          exact z
        refine ifT rfl ?_
        refine ⟨_, rfl, _, rfl, _, rfl, lp, _, _, .ref t2, rfl, rfl, .of c1, ?_, t2, _, rfl, c4, _, _, rfl, rfl, ?_⟩
        · rw [x2]
          exact atI_nat c3
        refine ⟨_, rfl, _, rfl, _, _, rfl, rfl, 0 + len (l.getD (i + 1) wd), max m (0 + len (l.getD (i + 1) wd)), some (.int (1 + (i : Int))), ?_, hu2⟩
        have e1 : (0 : Int) + (((l.getD (i + 1) wd).halt_ : Int) - ((l.getD (i + 1) wd).start : Int)) = ((0 + len (l.getD (i + 1) wd) : Nat) : Int) := fin 0 (by rw [hb, if_pos rfl])
        show [_, _, _, some (V.int (0 + (((l.getD (i + 1) wd).halt_ : Int) - ((l.getD (i + 1) wd).start : Int)))), some (V.int (if 0 + (((l.getD (i + 1) wd).halt_ : Int) - ((l.getD (i + 1) wd).start : Int)) > (m : Int) then 0 + (((l.getD (i + 1) wd).halt_ : Int) - ((l.getD (i + 1) wd).start : Int)) else (m : Int))), _] = _
        rw [e1, max_nat]
      | false =>
        have hu2 : unb p (t + len (l.getD (i + 1) wd)) (max m (t + len (l.getD (i + 1) wd))) (l.getD (i + 1) wd) (l.drop (i + 2)) = p.driveFrom 0 l := by
          have z := hu
          unfold unb at z
          rw [hb, if_neg (by decide)] at z
          exact z
        refine ifF rfl ?_
        refine ⟨_, rfl, _, rfl, _, rfl, lp, _, _, .ref t2, rfl, rfl, .of c1, ?_, t2, _, rfl, c4, _, _, rfl, rfl, ?_⟩
        · rw [x2]
          exact atI_nat c3
        refine ⟨_, rfl, _, rfl, _, _, rfl, rfl, t + len (l.getD (i + 1) wd), max m (t + len (l.getD (i + 1) wd)), some (.int (1 + (i : Int))), ?_, hu2⟩
        have e1 : (t : Int) + (((l.getD (i + 1) wd).halt_ : Int) - ((l.getD (i + 1) wd).start : Int)) = ((t + len (l.getD (i + 1) wd) : Nat) : Int) := fin t (by rw [hb, if_neg (by decide)])
        show [_, _, _, some (V.int ((t : Int) + (((l.getD (i + 1) wd).halt_ : Int) - ((l.getD (i + 1) wd).start : Int)))), some (V.int (if (t : Int) + (((l.getD (i + 1) wd).halt_ : Int) - ((l.getD (i + 1) wd).start : Int)) > (m : Int) then (t : Int) + (((l.getD (i + 1) wd).halt_ : Int) - ((l.getD (i + 1) wd).start : Int)) else (m : Int))), _] = _
        rw [e1, max_nat]
    · obtain ⟨rfl, t, m, v5, rfl, hu⟩ := hp
      have hd : l.drop (l.length - 1 + 1) = [] := List.drop_eq_nil_of_le (by omega)
      rw [hd] at hu
      have hm : m = p.driveFrom 0 l := hu
      rw [← hm] at q
      exact ⟨_, rfl, q⟩
end
end Du

namespace Du
open PySem PySem.Spec PyProof.Rows L2
open Sw82 (Call Plan Work Rules)
def spHome (C : Addr) : Sp := fun vs H Q _ => ∃ (a : Addr) (D : Own) (p : Plan) (tx ty : Addr) (x y : Work), vs = [.ref a, .ref tx, .ref ty] ∧ Dep C H a D p ∧ PieceAt H tx x ∧ PieceAt H ty y ∧ ∀ H' : Hp, Same H H' → Q (optV ((p.home x.from_ y.to).map (·.1))) H'
def both (st : Option (Nat × Nat × Nat)) : Nat := match st with
  | none => 0
  | some y => y.2.1 + y.2.2
section
variable {P : Program} {w : World} {K : PySem.W.Frag} {mg : Str → Option Value} {base : Heap} {C : Addr}
theorem scHome : FnScope ["depot", "first_piece", "last_piece", "found", "fewest", "home", "there", "back"] ["depot", "first_piece", "last_piece"] (defScope sHome) := ⟨rfl, rfl, rfl, by decide +kernel, rfl, by decide +kernel, by decide +kernel⟩
theorem ok_home {f fg : Addr} {fd fdg : FuncData} (F : Fun K "home_of" "home_of" sHome f fd) (T : Txt K mg C) (U : Txk mg) (Fg : Fun K "minutes_to_get" "Depot.minutes_to_get" sGet fg fdg) (bg : Binds K fdg ["self", "from_place", "to_place"] []) (mg1 : Meth K C "minutes_to_get" fg) :
    FnOk P w K mg base CX0 2 f fd ["depot", "first_piece", "last_piece"] (spHome C) := by
  have G : FnOk P w K mg base CX0 1 fg fdg ["self", "from_place", "to_place"] (spGet C) := ok_get Fg T
  obtain ⟨t0, g0⟩ := U.g "FROM_PLACE" 0 (by decide +kernel)
  obtain ⟨t1, g1⟩ := U.g "TO_PLACE" 1 (by decide +kernel)
  refine F.ok scHome (fun vs H Q E h => ?_) (fun cdv A outer s H vs Q E hr h => ⟨_, pss_cons (ps_set (i := 3) scHome.nd rfl (Or.inl rfl) pe_non)
    (pss_cons (ps_set (i := 4) scHome.nd rfl (Or.inl rfl) pe_int)
    (pss_cons (ps_for PassesOwn.never rfl (pi_list (pe_fld (pv 0) rfl)) (pg_name (i := 5) scHome.nd rfl (Or.inl rfl))
      (pss_cons (ps_set (i := 6) scHome.nd rfl (Or.inl rfl) (pe_meth (pv 0) T.cl mg1 G hr bg .nil pass0 (pa_cons (pv 5) (pa_cons (pe_ix ix_tup (pv 1) (pe_glob (v := .int 0) rfl g0 ⟨_, rfl⟩) (fun _ _ => rfl)) pa_nil))))
      (pss_cons (ps_set (i := 7) scHome.nd rfl (Or.inl rfl) (pe_meth (pv 0) T.cl mg1 G hr bg .nil pass0 (pa_cons (pe_ix ix_tup (pv 2) (pe_glob (v := .int 1) rfl g1 ⟨_, rfl⟩) (fun _ _ => rfl)) (pa_cons (pv 5) pa_nil))))
      (pss_cons (ps_if (PW.pt (pw_or (pt_cmpR op_isN (pv 6) pe_non (nomark _)) (pw_or1 (pt_cmpR op_isN (pv 7) pe_non (nomark _))))) (pss_one ps_continue) pss_nil)
      (pss_one (ps_if (PW.pt (pw_or (pt_cmpR op_isN (pv 3) pe_non (nomark _)) (pw_or1 (pt_cmpR op_lt (pe_op op_add (pv 6) (pv 7)) (pv 4) (nomark _)))))
        (pss_cons (ps_set (i := 3) scHome.nd rfl (Or.inl rfl) (pv 5)) (pss_one (ps_set (i := 4) scHome.nd rfl (Or.inl rfl) (pe_op op_add (pv 6) (pv 7))))) pss_nil))))))
    (pss_one (ps_ret (pv 3))))), ?_⟩)
  · obtain ⟨a, D, p, tx, ty, x, y, rfl, _⟩ := h
    rfl
  · obtain ⟨a, D, p, tx, ty, x, y, rfl, d, hx, hy, q⟩ := h
    refine ⟨_, rfl, a, C, D.dx, _, _, rfl, d.ins, T.cl, T.nH, dF_homes D, D.lh, rfl, ⟨_, .of d.h⟩, ?_⟩
    refine for_list (xs := p.homes.map vN) (fun i σ H' => Same H H' ∧ ∃ (st : Option (Nat × Nat × Nat)) (v5 v6 v7 : Option V), σ = [some (.ref a), some (.ref tx), some (.ref ty), some (optV (st.map (·.1))), some (vN (both st)), v5, v6, v7] ∧ (p.homes.drop i).foldl (homeS p x.from_ y.to) st = p.home x.from_ y.to) ⟨Same.refl H, none, none, none, none, rfl, ?_⟩ (fun i σ H' hi hp => ?_) (fun i v σ H' hi hp => ?_) fun σ H' hp => ?_
    · rw [List.drop_zero, home_is]
    · exact .of (hp.1 _ _ d.h)
    · obtain ⟨sm, st, v5, v6, v7, rfl, hf⟩ := hp
      rw [List.getElem?_map] at hi
      obtain ⟨h, hh, rfl⟩ : ∃ h, p.homes[i]? = some h ∧ v = vN h := by
        cases z : p.homes[i]? with
        | none =>
          rw [z] at hi
          cases hi
        | some h =>
          rw [z] at hi
          exact ⟨h, rfl, (Option.some.inj hi).symm⟩
      have hlt : i < p.homes.length := (List.getElem?_eq_some_iff.mp hh).1
      have hd : p.homes.drop i = h :: p.homes.drop (i + 1) := by
        rw [List.drop_eq_getElem_cons hlt, (List.getElem?_eq_some_iff.mp hh).2]
      rw [hd, List.foldl_cons] at hf
      have nm := fun D : Own => dF_none (m := "minutes_to_get") D (by decide +kernel) (by decide +kernel) (by decide +kernel) (by decide +kernel) (by decide +kernel) (by decide +kernel)
      have d1 := d.same sm
      refine ⟨_, rfl, a, D.dx, _, rfl, d1.ins, nm D, _, rfl, _, rfl, tx, _, _, _, rfl, rfl, .of (sm _ _ hx), atI_nat (j := 0) rfl, a, D, p, h, x.from_, rfl, d1, fun H1 s1 => ?_⟩
      have d2 := d1.same s1
      refine ⟨_, rfl, a, D.dx, _, rfl, d2.ins, nm D, _, rfl, ty, _, _, _, rfl, rfl, .of (s1 _ _ (sm _ _ hy)), atI_nat (j := 1) rfl, _, rfl, a, D, p, y.to, h, rfl, d2, fun H2 s2 => ?_⟩
      have sm2 : Same H H2 := (sm.trans s1).trans s2
      cases e1 : p.way h x.from_ with
      | none =>
        have e3 : homeS p x.from_ y.to st h = st := by
          unfold homeS
          rw [e1]
        rw [e3] at hf
        refine ⟨_, rfl, rfl, _, rfl, ?_⟩
        refine ifT (decide_eq_true rfl) ?_
        exact ifT rfl ⟨sm2, st, _, _, _, rfl, hf⟩
      | some m =>
        refine ⟨_, rfl, rfl, _, rfl, ?_⟩
        refine ifF (decide_eq_false (by intro z; cases z)) ?_
        cases e2 : p.way y.to h with
        | none =>
          have e3 : homeS p x.from_ y.to st h = st := by
            unfold homeS
            rw [e1, e2]
          rw [e3] at hf
          refine ⟨_, rfl, rfl, _, rfl, ?_⟩
          exact ifT (decide_eq_true rfl) ⟨sm2, st, _, _, _, rfl, hf⟩
        | some n =>
          refine ⟨_, rfl, rfl, _, rfl, ?_⟩
          refine ifF (decide_eq_false (by intro z; cases z)) ?_
          have take : homeS p x.from_ y.to st h = some (h, m, n) → ∀ H3, H3 = H2 → Same H H3 ∧ ∃ (st : Option (Nat × Nat × Nat)) (v5 v6 v7 : Option V), ([some (.ref a), some (.ref tx), some (.ref ty), some (vN h), some (V.int ((m : Int) + (n : Int))), some (vN h), some (vN m), some (vN n)] : L2.St) = [some (.ref a), some (.ref tx), some (.ref ty), some (optV (st.map (·.1))), some (vN (both st)), v5, v6, v7] ∧ (p.homes.drop (i + 1)).foldl (homeS p x.from_ y.to) st = p.home x.from_ y.to := fun e H3 e3 => by
            subst e3
            rw [e] at hf
            exact ⟨sm2, some (h, m, n), _, _, _, rfl, hf⟩
          cases st with
          | none =>
            have e3 : homeS p x.from_ y.to none h = some (h, m, n) := by
              unfold homeS
              rw [e1, e2]
            refine ⟨_, rfl, rfl, _, rfl, ?_⟩
            refine ifT (decide_eq_true rfl) ?_
            refine ifT rfl ?_
            exact ⟨_, rfl, _, rfl, _, rfl, _, _, rfl, rfl, take e3 _ rfl⟩
          | some z =>
            refine ⟨_, rfl, rfl, _, rfl, ?_⟩
            refine ifF (decide_eq_false (by intro z; cases z)) ?_
            have e3 : homeS p x.from_ y.to (some z) h = if m + n < z.2.1 + z.2.2 then some (h, m, n) else some z := by
              unfold homeS
              rw [e1, e2]
            refine ⟨_, rfl, _, rfl, _, _, rfl, rfl, _, rfl, _, _, rfl, rfl, _, rfl, ?_⟩
            by_cases hc : m + n < z.2.1 + z.2.2
            · rw [if_pos hc] at e3
              refine ifT (decide_eq_true (by show (m : Int) + (n : Int) < ((z.2.1 + z.2.2 : Nat) : Int); omega)) ?_
              exact ⟨_, rfl, _, rfl, _, rfl, _, _, rfl, rfl, take e3 _ rfl⟩
            · rw [if_neg hc] at e3
              rw [e3] at hf
              exact ifF (decide_eq_false (by show ¬ ((m : Int) + (n : Int) < ((z.2.1 + z.2.2 : Nat) : Int)); omega)) ⟨sm2, some z, _, _, _, rfl, hf⟩
    · obtain ⟨sm, st, v5, v6, v7, rfl, hf⟩ := hp
      rw [List.drop_eq_nil_of_le (by rw [List.length_map]; exact Nat.le_refl _)] at hf
      have hq := q H' sm
      rw [← hf] at hq
      exact ⟨_, rfl, hq⟩
end
end Du

/-! # duty.py: pay, the order of pieces -/
namespace Du
open PySem PySem.Spec PyProof.Rows L2
open Sw82 (Call Plan Work Rules)
abbrev sOrder : Stmt := top 30
def spPay : Sp := fun vs H Q _ => ∃ (lr : Addr) (r : Rules) (m : Int), vs = [.ref lr, .int m] ∧ H lr = some (.lst ((rulesN r).map vN)) ∧ Q (.int (max (r.least : Int) (m + max 0 (m - (r.twice : Int))))) H
theorem max_int (i j : Int) : (if j > i then j else i) = max i j := by
  split <;> omega
/-- the table of in_order's code: its lambda -/
def tabT (Tb : Addr) : List (Addr × Str) := [(Tb, ("in_order" : Str) ++ ".<locals>." ++ "<lambda>")]
abbrev TabH (Tb : Addr) (H : Hp) : Prop := LamX.Tabs (tabT Tb) H
def sortedBy (l : List Work) (ns : List Nat) : List Nat := ns.mergeSort (keyLe fun n => ((l.getD n wd).start : Int))
def spOrder (Tb : Addr) : Sp := fun vs H Q _ => ∃ (lp lc : Addr) (l : List Work) (ns : List Nat), vs = [.ref lp, .ref lc] ∧ PList H lp l ∧ H lc = some (.lst (ns.map vN)) ∧ (∀ n ∈ ns, n < l.length) ∧ ns.length ≤ 1000 ∧ l.length ≤ 1000 ∧ TabH Tb H ∧
  ∀ (H1 : Hp) (r : Addr), Ext H H1 → TabH Tb H1 → H1 r = none → Q (.ref r) (upd H1 r (.lst ((sortedBy l ns).map vN)))
theorem order_sort (p : Plan) {ns : List Nat} (h : ns.Nodup) : sortedBy p.works ns = p.inOrder ns := by
  unfold sortedBy
  refine order_one p h (List.mergeSort_perm _ _) ?_
  have hs : (ns.mergeSort (keyLe fun n => ((p.works.getD n wd).start : Int))).Pairwise fun a b => keyLe (fun n => ((p.works.getD n wd).start : Int)) a b = true := by
    refine List.pairwise_mergeSort (fun a b c h1 h2 => ?_) (fun a b => ?_) ns
    · unfold keyLe at h1 h2 ⊢
      rw [decide_eq_true_iff] at h1 h2 ⊢
      omega
    · unfold keyLe
      rw [Bool.or_eq_true, decide_eq_true_iff, decide_eq_true_iff]
      omega
  have hn : (ns.mergeSort (keyLe fun n => ((p.works.getD n wd).start : Int))).Pairwise (· ≠ ·) := (List.mergeSort_perm ns _).nodup_iff.mpr h
  refine (hs.and hn).imp fun {a b} h => ?_
  obtain ⟨h1, h2⟩ := h
  unfold keyLe at h1
  rw [decide_eq_true_iff] at h1
  dsimp only at h1
  show (p.works.getD a wd).start < (p.works.getD b wd).start ∨ ((p.works.getD a wd).start = (p.works.getD b wd).start ∧ a < b)
  omega
section
variable {P : Program} {w : World} {K : PySem.W.Frag} {mg : Str → Option Value} {base : Heap} {C : Addr}
theorem scPay : FnScope ["rules", "minutes"] ["rules", "minutes"] (defScope sPay) := ⟨rfl, rfl, rfl, by decide +kernel, rfl, by decide +kernel, by decide +kernel⟩
theorem ok_pay {f : Addr} {fd : FuncData} (F : Fun K "pay_for" "pay_for" sPay f fd) (U : Txk mg) : FnOk P w K mg base CX0 1 f fd ["rules", "minutes"] spPay := by
  obtain ⟨t7, g7⟩ := U.g "LEAST" 7 (by decide +kernel)
  obtain ⟨t8, g8⟩ := U.g "TWICE" 8 (by decide +kernel)
  refine F.ok scPay (fun vs H Q E h => ?_) (fun cdv A outer s H vs Q E hr h => ⟨_, pss_one (ps_ret (pe_callB (call_max2 rfl) (by rfl) U.max (by decide +kernel) (pa_cons (pe_ix ix_list (pv 0) (pe_glob (v := .int 7) rfl g7 ⟨_, rfl⟩) (fun _ _ => rfl))
    (pa_cons (pe_op op_add (pv 1) (pe_callB (call_max2 rfl) (by rfl) U.max (by decide +kernel) (pa_cons pe_int (pa_cons (pe_op op_sub (pv 1) (pe_ix ix_list (pv 0) (pe_glob (v := .int 8) rfl g8 ⟨_, rfl⟩) (fun _ _ => rfl))) pa_nil)))) pa_nil)))), ?_⟩)
  · obtain ⟨lr, r, m, rfl, _⟩ := h
    rfl
  · obtain ⟨lr, r, m, rfl, hlr, q⟩ := h
    refine ⟨_, rfl, lr, _, _, _, rfl, rfl, .of hlr, atI_nat (j := 7) rfl, _, rfl, _, rfl, _, rfl, lr, _, _, _, rfl, rfl, .of hlr, atI_nat (j := 8) rfl, _, _, rfl, rfl, _, _, rfl, _, _, rfl, rfl, _, _, rfl, ?_⟩
    rw [max_int, max_int]
    exact q
theorem scOrder : FnScope ["pieces", "chosen"] ["pieces", "chosen"] (defScope sOrder) := ⟨rfl, rfl, rfl, by decide +kernel, rfl, by decide +kernel, by decide +kernel⟩
theorem scOrder_cell : (defScope sOrder).names.lookup ("pieces" : Str) = some .cell := by decide +kernel
theorem ok_order {f c Tb : Addr} {fd : FuncData} (F : Fun K "in_order" "in_order" sOrder f fd) (hcd : fd.code = .ref c) (TB : LamX.TabB base mg c Tb) (U : Txk mg) : FnOk P w K mg base CX0 2 f fd ["pieces", "chosen"] (spOrder Tb) := by
  obtain ⟨t2, g2⟩ := U.g "FIRST" 2 (by decide +kernel)
  obtain ⟨oc, od, kV, doc, pm, an, cdv, ct, osl, rfl, lk, hco⟩ := F.ex
  obtain rfl : cdv = .ref c := hcd
  refine fn_of lk hco scOrder (fun vs H Q E h => ?_) fun A outer s H vs Q E hr h => ⟨_, PSs.nox (pss_one (ps_ret (pe_sortLam (T := tabT Tb) (nn := "number") (np := "pieces") (nf := "FIRST") (ip := 0) (j := 2) ?_ (by rfl) U.sorted (pv 1) TB rfl ?_ ?_ rfl ?_ ?_ g2 rfl rfl hr (by decide)))), ?_⟩
  · obtain ⟨lp, lc, l, ns, rfl, _⟩ := h
    rfl
  · refine ⟨⟨_, _, _, _, _, _, _, _, rfl⟩, rfl, rfl, rfl, by decide +kernel, rfl, rfl, rfl, by decide, by decide, by decide, by decide, fun q cl pm cv ctv v => rfl⟩
  · exact List.mem_singleton.mpr rfl
  · intro p hp _
    rw [List.mem_singleton.mp hp] <;> rfl
  · intro y hy e
    have hy' : y = ((Str.ofString "number", NameKind.local) : Str × NameKind) ∨ y = (Str.ofString "pieces", NameKind.free) ∨ y = (Str.ofString "FIRST", NameKind.globalImplicit) := by
      have z : y ∈ [((Str.ofString "number", NameKind.local) : Str × NameKind), (Str.ofString "pieces", NameKind.free), (Str.ofString "FIRST", NameKind.globalImplicit)] := hy
      simpa using z
    rcases hy' with rfl | rfl | rfl
    · cases e
    · exact scOrder_cell
    · cases e
  · exact .tail _ (.head _)
  · obtain ⟨lp, lc, l, ns, rfl, ⟨ts, e1, e2⟩, e3, e4, e5, e6, e7, q⟩ := h
    refine ⟨_, rfl, lc, lp, ns, l.map workV, ts, fun n => ((l.getD n wd).start : Int), rfl, .of e3, rfl, e1, e2, fun n hn => ⟨workV (l.getD n wd), ?_, rfl⟩, e5, by rw [List.length_map]; exact e6, e7, q⟩
    rw [List.getElem?_map, List.getD_eq_getElem?_getD, List.getElem?_eq_getElem (e4 n hn)] <;> rfl
end
end Du

/-! # duty.py: the object -/
namespace Du
open PySem PySem.Spec PyProof.Rows L2
open Sw82 (Call Plan Work Rules)
abbrev sDInit : Stmt := inClass (top 38) 0
abbrev sReckon : Stmt := inClass (top 38) 1
abbrev sBeyond : Stmt := inClass (top 38) 2
abbrev sTold : Stmt := inClass (top 38) 3
structure TxD (K : PySem.W.Frag) (mg : Str → Option Value) (CD : Addr) : Prop where
  cl : Cls K CD
  nO : NoAttr K CD "order"
  nH : NoAttr K CD "home"
  nW : NoAttr K CD "wrong"
  nB : NoAttr K CD "beginning"
  nE : NoAttr K CD "end"
  nP : NoAttr K CD "pay"
  nK : NoAttr K CD "worked"
  nU : NoAttr K CD "unbroken"
  gC : mg "Duty" = some (.ref CD)
/-- the fields of a duty that has times -/
def bF (lo : Addr) (h : Nat) (b e : Int) (pay wk ub : Nat) : List (Str × V) := [("order", .ref lo), ("home", vN h), ("beginning", .int b), ("end", .int e), ("pay", vN pay), ("worked", vN wk), ("unbroken", vN ub)]
def wF (lo : Addr) (h : Nat) (b e : Int) (pay wk ub wr : Nat) : List (Str × V) := bF lo h b e pay wk ub ++ [(("wrong" : Str), vN wr)]
/-- .. of one that has none -/
def nF (lo : Addr) (h : V) (wr : Nat) : List (Str × V) := [("order", .ref lo), ("home", h), ("wrong", vN wr)]
theorem putF_new {f : Str} {v : V} : ∀ {fs : List (Str × V)} {ks : List Str}, fs.map (·.1) = ks → (ks.all fun k => !decide (k = f)) = true → putF f v fs = fs ++ [(f, v)]
  | [], _, _, _ => rfl
  | (g, x) :: r, _, e, h => by
    subst e
    rw [List.map_cons, List.all_cons, Bool.and_eq_true] at h
    have hg : ¬ g = f := by simpa using h.1
    rw [put_past hg, putF_new rfl h.2] <;> rfl
section
variable (lo : Addr) (h : Nat) (b e : Int) (pay wk ub : Nat) (r : List (Str × V))
theorem bF_order : (bF lo h b e pay wk ub ++ r).lookup ("order" : Str) = some (.ref lo) := lk_here
theorem bF_home : (bF lo h b e pay wk ub ++ r).lookup ("home" : Str) = some (vN h) := (lk_past (by decide +kernel)).trans lk_here
theorem bF_beginning : (bF lo h b e pay wk ub ++ r).lookup ("beginning" : Str) = some (.int b) := (lk_past (by decide +kernel)).trans ((lk_past (by decide +kernel)).trans lk_here)
theorem bF_end : (bF lo h b e pay wk ub ++ r).lookup ("end" : Str) = some (.int e) := (lk_past (by decide +kernel)).trans ((lk_past (by decide +kernel)).trans ((lk_past (by decide +kernel)).trans lk_here))
theorem bF_pay : (bF lo h b e pay wk ub ++ r).lookup ("pay" : Str) = some (vN pay) := (lk_past (by decide +kernel)).trans ((lk_past (by decide +kernel)).trans ((lk_past (by decide +kernel)).trans ((lk_past (by decide +kernel)).trans lk_here)))
theorem bF_worked : (bF lo h b e pay wk ub ++ r).lookup ("worked" : Str) = some (vN wk) := (lk_past (by decide +kernel)).trans ((lk_past (by decide +kernel)).trans ((lk_past (by decide +kernel)).trans ((lk_past (by decide +kernel)).trans ((lk_past (by decide +kernel)).trans lk_here))))
theorem bF_unbroken : (bF lo h b e pay wk ub ++ r).lookup ("unbroken" : Str) = some (vN ub) := (lk_past (by decide +kernel)).trans ((lk_past (by decide +kernel)).trans ((lk_past (by decide +kernel)).trans ((lk_past (by decide +kernel)).trans ((lk_past (by decide +kernel)).trans ((lk_past (by decide +kernel)).trans lk_here)))))
theorem wF_wrong (wr : Nat) : (wF lo h b e pay wk ub wr).lookup ("wrong" : Str) = some (vN wr) := (lk_past (by decide +kernel)).trans ((lk_past (by decide +kernel)).trans ((lk_past (by decide +kernel)).trans ((lk_past (by decide +kernel)).trans ((lk_past (by decide +kernel)).trans ((lk_past (by decide +kernel)).trans ((lk_past (by decide +kernel)).trans lk_here))))))
theorem nF_wrong (x : V) (wr : Nat) : (nF lo x wr).lookup ("wrong" : Str) = some (vN wr) := (lk_past (by decide +kernel)).trans ((lk_past (by decide +kernel)).trans lk_here)
end
/-- which bound is gone beyond -/
def over (r : Rules) (D : Int) (wk ub : Nat) : Nat := if D > (r.long : Int) then 3 else if r.work < wk then 4 else if r.drive < ub then 5 else 0
def spBey (CD : Addr) : Sp := fun vs H Q _ => ∃ (s dx lo lr : Addr) (h : Nat) (b e : Int) (pay wk ub : Nat) (r : Rules), vs = [.ref s, .ref lr] ∧ H s = some (.ins CD dx (bF lo h b e pay wk ub)) ∧ H lr = some (.lst ((rulesN r).map vN)) ∧ Q (vN (over r (e - b) wk ub)) H
def spTold (CD : Addr) : Sp := fun vs H Q _ => ∃ (s dx lo : Addr) (h : Nat) (b e : Int) (pay wk ub wr : Nat) (m : List Nat), vs = [.ref s] ∧ H s = some (.ins CD dx (wF lo h b e pay wk ub wr)) ∧ H lo = some (.lst (m.map vN)) ∧ m.length ≤ 1000 ∧
  ∀ (H' : Hp) (r : Addr), Same H H' → H r = none → H' r = some (.lst (([(h : Int), b, e, (pay : Int)] ++ m.map fun (n : Nat) => (n : Int)).map V.int)) → Q (.ref r) H'
section
variable {P : Program} {w : World} {K : PySem.W.Frag} {mg : Str → Option Value} {base : Heap} {CD : Addr}
theorem scBeyond : FnScope ["self", "rules"] ["self", "rules"] (defScope sBeyond) := ⟨rfl, rfl, rfl, by decide +kernel, rfl, by decide +kernel, by decide +kernel⟩
theorem ok_beyond {f : Addr} {fd : FuncData} (F : Fun K "beyond" "Duty.beyond" sBeyond f fd) (T : TxD K mg CD) (U : Txk mg) : FnOk P w K mg base CX0 1 f fd ["self", "rules"] (spBey CD) := by
  obtain ⟨t0, g0⟩ := U.g "LONG" 0 (by decide +kernel)
  obtain ⟨t1, g1⟩ := U.g "WORK_state" 1 (by decide +kernel)
  obtain ⟨t2, g2⟩ := U.g "DRIVE" 2 (by decide +kernel)
  obtain ⟨u0, k0⟩ := U.g "RIGHT" 0 (by decide +kernel)
  obtain ⟨u3, k3⟩ := U.g "TOO_LONG" 3 (by decide +kernel)
  obtain ⟨u4, k4⟩ := U.g "TOO_MUCH_WORK" 4 (by decide +kernel)
  obtain ⟨u5, k5⟩ := U.g "TOO_LONG_UNBROKEN" 5 (by decide +kernel)
  refine F.ok scBeyond (fun vs H Q E h => ?_) (fun cdv A outer s H vs Q E hr h => ⟨_, pss_cons (ps_if (pt_cmpR op_gt (pe_op op_sub (pe_fld (pv 0) rfl) (pe_fld (pv 0) rfl)) (pe_ix ix_list (pv 1) (pe_glob (v := .int 0) rfl g0 ⟨_, rfl⟩) (fun _ _ => rfl)) (nomark _)) (pss_one (ps_ret (pe_glob (v := .int 3) rfl k3 ⟨_, rfl⟩))) pss_nil)
    (pss_cons (ps_if (pt_cmpR op_gt (pe_fld (pv 0) rfl) (pe_ix ix_list (pv 1) (pe_glob (v := .int 1) rfl g1 ⟨_, rfl⟩) (fun _ _ => rfl)) (nomark _)) (pss_one (ps_ret (pe_glob (v := .int 4) rfl k4 ⟨_, rfl⟩))) pss_nil)
    (pss_cons (ps_if (pt_cmpR op_gt (pe_fld (pv 0) rfl) (pe_ix ix_list (pv 1) (pe_glob (v := .int 2) rfl g2 ⟨_, rfl⟩) (fun _ _ => rfl)) (nomark _)) (pss_one (ps_ret (pe_glob (v := .int 5) rfl k5 ⟨_, rfl⟩))) pss_nil)
    (pss_one (ps_ret (pe_glob (v := .int 0) rfl k0 ⟨_, rfl⟩))))), ?_⟩)
  · obtain ⟨s, dx, lo, lr, h, b, e, pay, wk, ub, r, rfl, _⟩ := h
    rfl
  · obtain ⟨s, dx, lo, lr, h, b, e, pay, wk, ub, r, rfl, hs, hlr, q⟩ := h
    unfold over at q
    refine ⟨_, rfl, s, CD, dx, _, _, rfl, hs, T.cl, T.nE, bF_end lo h b e pay wk ub [], _, rfl, s, CD, dx, _, _, rfl, hs, T.cl, T.nB, bF_beginning lo h b e pay wk ub [], _, _, rfl, rfl, _, rfl, lr, _, _, _, rfl, rfl, .of hlr, atI_nat (j := 0) rfl, _, _, rfl, rfl, _, rfl, ?_⟩
    by_cases c1 : e - b > (r.long : Int)
    · rw [if_pos c1] at q
      exact ifT (decide_eq_true c1) q
    rw [if_neg c1] at q
    refine ifF (decide_eq_false c1) ?_
    refine ⟨_, rfl, s, CD, dx, _, _, rfl, hs, T.cl, T.nK, bF_worked lo h b e pay wk ub [], _, rfl, lr, _, _, _, rfl, rfl, .of hlr, atI_nat (j := 1) rfl, _, _, rfl, rfl, _, rfl, ?_⟩
    by_cases c2 : r.work < wk
    · rw [if_pos c2] at q
      exact ifT (decide_eq_true (Int.ofNat_lt.mpr c2)) q
    rw [if_neg c2] at q
    refine ifF (decide_eq_false fun z => c2 (Int.ofNat_lt.mp z)) ?_
    refine ⟨_, rfl, s, CD, dx, _, _, rfl, hs, T.cl, T.nU, bF_unbroken lo h b e pay wk ub [], _, rfl, lr, _, _, _, rfl, rfl, .of hlr, atI_nat (j := 2) rfl, _, _, rfl, rfl, _, rfl, ?_⟩
    by_cases c3 : r.drive < ub
    · rw [if_pos c3] at q
      exact ifT (decide_eq_true (Int.ofNat_lt.mpr c3)) q
    rw [if_neg c3] at q
    exact ifF (decide_eq_false fun z => c3 (Int.ofNat_lt.mp z)) q
theorem scTold : FnScope ["self"] ["self"] (defScope sTold) := ⟨rfl, rfl, rfl, by decide +kernel, rfl, by decide +kernel, by decide +kernel⟩
theorem ok_told {f : Addr} {fd : FuncData} (F : Fun K "told" "Duty.told" sTold f fd) (T : TxD K mg CD) : FnOk P w K mg base CX0 1 f fd ["self"] (spTold CD) := by
  refine F.ok scTold (fun vs H Q E h => ?_) (fun cdv A outer s H vs Q E hr h => ⟨_, pss_one (ps_ret (pe_op op_cat (pe_lst (pa_cons (pe_fld (pv 0) rfl) (pa_cons (pe_fld (pv 0) rfl) (pa_cons (pe_fld (pv 0) rfl) (pa_cons (pe_fld (pv 0) rfl) pa_nil))))) (pe_fld (pv 0) rfl))), ?_⟩)
  · obtain ⟨s, dx, lo, h, b, e, pay, wk, ub, wr, m, rfl, _⟩ := h
    rfl
  · obtain ⟨s, dx, lo, h, b, e, pay, wk, ub, wr, m, rfl, hs, hlo, hm, q⟩ := h
    refine ⟨_, rfl, s, CD, dx, _, _, rfl, hs, T.cl, T.nH, bF_home lo h b e pay wk ub [("wrong", vN wr)], _, rfl, s, CD, dx, _, _, rfl, hs, T.cl, T.nB, bF_beginning lo h b e pay wk ub [("wrong", vN wr)], _, rfl, s, CD, dx, _, _, rfl, hs, T.cl, T.nE, bF_end lo h b e pay wk ub [("wrong", vN wr)],
      _, rfl, s, CD, dx, _, _, rfl, hs, T.cl, T.nP, bF_pay lo h b e pay wk ub [("wrong", vN wr)], by show 4 ≤ sizeLine; decide, fun l hl => ?_⟩
    have hs2 := up_n (u := .lst [vN h, V.int b, V.int e, vN pay]) hs hl
    have hlo2 := up_n (u := .lst [vN h, V.int b, V.int e, vN pay]) hlo hl
    refine ⟨_, rfl, s, CD, dx, _, _, rfl, hs2, T.cl, T.nO, bF_order lo h b e pay wk ub [("wrong", vN wr)], l, lo, _, _, rfl, rfl, upd_same, hlo2, ?_, fun r hr => ?_⟩
    · rw [List.length_map]
      show 4 + m.length ≤ sizeLine
      exact Nat.le_trans (by omega : 4 + m.length ≤ 1004) (by decide)
    · refine q _ r ((same_new hl).trans (same_new hr)) ((same_new hl).free hr) ?_
      rw [upd_same, List.map_append, map_vN] <;> rfl
end
end Du

namespace Du
open PySem PySem.Spec PyProof.Rows L2
open Sw82 (Call Plan Work Rules)
/-- all but the object at s stays -/
def But (s : Addr) (H H' : Hp) : Prop := ∀ b o, H b = some o → b ≠ s → H' b = some o
theorem But.refl (s : Addr) (H : Hp) : But s H H := fun _ _ h _ => h
theorem But.same {s : Addr} {H H1 H2 : Hp} (k : But s H H1) (m : Same H1 H2) : But s H H2 := fun b o h n => m _ _ (k b o h n)
theorem But.put {s : Addr} {H H1 : Hp} (k : But s H H1) (o : HO) : But s H (upd H1 s o) := fun b u h n => by
  rw [upd_ne n]
  exact k b u h n
section
variable {H H' : Hp} {s C CD dx : Addr} {fs : List (Str × V)}
theorem Tups.but {ts : List Addr} {ls : List (List V)} (h : Tups H ts ls) (hs : H s = some (.ins CD dx fs)) (k : But s H H') : Tups H' ts ls :=
  h.mono fun _ _ e => k _ _ e (ne_of e hs (by intro z; cases z))
theorem PList.but {lp : Addr} {l : List Work} (h : PList H lp l) (hs : H s = some (.ins CD dx fs)) (k : But s H H') : PList H' lp l := by
  obtain ⟨ts, e1, e2⟩ := h
  exact ⟨ts, k _ _ e1 (ne_of e1 hs (by intro z; cases z)), e2.but hs k⟩
theorem Dep.but {a : Addr} {D : Own} {p : Plan} (d : Dep C H a D p) (ha : a ≠ s) (hs : H s = some (.ins CD dx fs)) (k : But s H H') : Dep C H' a D p := by
  obtain ⟨ts, e1, e2⟩ := d.w
  obtain ⟨us, e3, e4⟩ := d.p
  obtain ⟨kvs, e5, e6⟩ := d.s
  have q : ∀ {b : Addr} {o : HO}, H b = some o → (∀ C dx fs, o ≠ .ins C dx fs) → H' b = some o := fun h n => k _ _ h (ne_of h hs (n _ _ _))
  exact ⟨k _ _ d.ins ha, q d.r (by intro _ _ _ z; cases z), q d.b (by intro _ _ _ z; cases z), q d.h (by intro _ _ _ z; cases z), ⟨ts, q e1 (by intro _ _ _ z; cases z), e2.but hs k⟩, ⟨kvs, q e5 (by intro _ _ _ z; cases z), e6⟩, ⟨us, q e3 (by intro _ _ _ z; cases z), e4.but hs k⟩, d.nd⟩
theorem Dep.ne {a : Addr} {D : Own} {p : Plan} (d : Dep C H a D p) (hs : H s = some (.ins CD dx fs)) (hl : fs.length ≠ 6) : a ≠ s := by
  intro e
  subst e
  have z := d.ins.symm.trans hs
  injection z with z
  injection z with _ _ z
  exact hl (congrArg List.length z).symm
end
theorem atI_neg1 {α : Type} {xs : List α} {v : α} (h : xs[xs.length - 1]? = some v) : atI xs (-1) = some v := by
  have hne : xs ≠ [] := fun e => by
    rw [e] at h
    cases h
  have e : xs = xs.dropLast ++ [v] := by
    have h2 := List.dropLast_concat_getLast hne
    have h3 : xs.getLast hne = v := by
      rw [List.getLast_eq_getElem]
      exact (List.getElem?_eq_some_iff.mp h).2
    rw [h3] at h2
    exact h2.symm
  rw [e]
  exact atI_last _ _
theorem head_getD {l : List Work} {x : Work} (h : l.head? = some x) : l.getD 0 wd = x := by
  cases l with
  | nil => cases h
  | cons a l => exact Option.some.inj h
theorem last_getD {l : List Work} {y : Work} (h : l.getLast? = some y) : l.getD (l.length - 1) wd = y := by
  rw [List.getLast?_eq_getElem?] at h
  rw [List.getD_eq_getElem?_getD, h] <;> rfl
def f2 (lo : Addr) (h : V) : List (Str × V) := [("order", .ref lo), ("home", h)]
def f3 (lo : Addr) (h : V) (b : Int) : List (Str × V) := [("order", .ref lo), ("home", h), ("beginning", .int b)]
def f4 (lo : Addr) (h : V) (b e : Int) : List (Str × V) := [("order", .ref lo), ("home", h), ("beginning", .int b), ("end", .int e)]
def f5 (lo : Addr) (h : V) (b e : Int) (pay : Nat) : List (Str × V) := [("order", .ref lo), ("home", h), ("beginning", .int b), ("end", .int e), ("pay", vN pay)]
def f6 (lo : Addr) (h : V) (b e : Int) (pay wk : Nat) : List (Str × V) := [("order", .ref lo), ("home", h), ("beginning", .int b), ("end", .int e), ("pay", vN pay), ("worked", vN wk)]
section
variable (lo : Addr) (h : V) (hn : Nat) (b e : Int) (pay wk ub wr : Nat)
theorem put3 : putF "beginning" (.int b) (f2 lo h) = f3 lo h b := putF_new (ks := ["order", "home"]) rfl (by decide +kernel)
theorem put4 : putF "end" (.int e) (f3 lo h b) = f4 lo h b e := putF_new (ks := ["order", "home", "beginning"]) rfl (by decide +kernel)
theorem put5 : putF "pay" (vN pay) (f4 lo h b e) = f5 lo h b e pay := putF_new (ks := ["order", "home", "beginning", "end"]) rfl (by decide +kernel)
theorem put6 : putF "worked" (vN wk) (f5 lo h b e pay) = f6 lo h b e pay wk := putF_new (ks := ["order", "home", "beginning", "end", "pay"]) rfl (by decide +kernel)
theorem put7 : putF "unbroken" (vN ub) (f6 lo (vN hn) b e pay wk) = bF lo hn b e pay wk ub := putF_new (ks := ["order", "home", "beginning", "end", "pay", "worked"]) rfl (by decide +kernel)
theorem put8 : putF "wrong" (vN wr) (bF lo hn b e pay wk ub) = wF lo hn b e pay wk ub wr := putF_new (ks := ["order", "home", "beginning", "end", "pay", "worked", "unbroken"]) rfl (by decide +kernel)
theorem put2w : putF "wrong" (vN wr) (f2 lo h) = nF lo h wr := putF_new (ks := ["order", "home"]) rfl (by decide +kernel)
theorem put1 : putF "order" (.ref lo) [] = [(("order" : Str), V.ref lo)] := putF_new (ks := []) rfl rfl
theorem put2 : putF "home" h [(("order" : Str), V.ref lo)] = f2 lo h := putF_new (ks := ["order"]) rfl (by decide +kernel)
theorem f2_home : (f2 lo h).lookup ("home" : Str) = some h := (lk_past (by decide +kernel)).trans lk_here
theorem f2_order : (f2 lo h).lookup ("order" : Str) = some (.ref lo) := lk_here
theorem f4_beg : (f4 lo h b e).lookup ("beginning" : Str) = some (.int b) := (lk_past (by decide +kernel)).trans ((lk_past (by decide +kernel)).trans lk_here)
theorem f4_end : (f4 lo h b e).lookup ("end" : Str) = some (.int e) := (lk_past (by decide +kernel)).trans ((lk_past (by decide +kernel)).trans ((lk_past (by decide +kernel)).trans lk_here))
end
def dPay (r : Rules) (D : Int) : Nat := max r.least (D.toNat + (D.toNat - r.twice))
def spRec (C CD : Addr) : Sp := fun vs H Q _ => ∃ (s dx lo a lp lg : Addr) (D : Own) (p : Plan) (l : List Work) (h m n : Nat) (x y : Work), vs = [.ref s, .ref a, .ref lp, .ref lg] ∧ H s = some (.ins CD dx (f2 lo (vN h))) ∧ Dep C H a D p ∧ PList H lp l ∧ H lg = some (.lst ((gapsOf p l).map optV)) ∧ none ∉ gapsOf p l ∧
  (∀ w ∈ l, w.from_ < 20 ∧ w.to < 20 ∧ w.start < w.halt_) ∧ 1 ≤ l.length ∧ l.length ≤ 1000 ∧ l.head? = some x ∧ l.getLast? = some y ∧ p.home x.from_ y.to = some (h, m, n) ∧
  ∀ H' : Hp, But s H H' → H' s = some (.ins CD dx (bF lo h ((x.start : Int) - m - p.rules.on) ((y.halt_ : Int) + n + p.rules.off) (dPay p.rules (((y.halt_ : Int) + n + p.rules.off) - ((x.start : Int) - m - p.rules.on))) (Plan.worked l) (p.driveFrom 0 l))) → Q .non H'
section
variable {P : Program} {w : World} {K : PySem.W.Frag} {mg : Str → Option Value} {base : Heap} {C CD : Addr}
theorem scReckon : FnScope ["self", "depot", "pieces", "gaps", "there", "back", "piece"] ["self", "depot", "pieces", "gaps"] (defScope sReckon) := ⟨rfl, rfl, rfl, by decide +kernel, rfl, by decide +kernel, by decide +kernel⟩
theorem ok_reckon {f fg fp fl fu fb : Addr} {fd fdg fdp fdl fdu fdb : FuncData} (F : Fun K "reckon" "Duty.reckon" sReckon f fd) (T : Txt K mg C) (TD : TxD K mg CD) (U : Txk mg)
    (Fg : Fun K "minutes_to_get" "Depot.minutes_to_get" sGet fg fdg) (bg : Binds K fdg ["self", "from_place", "to_place"] []) (mg1 : Meth K C "minutes_to_get" fg)
    (Fp : Fun K "pay_for" "pay_for" sPay fp fdp) (bp : Binds K fdp ["rules", "minutes"] []) (gp : mg "pay_for" = some (.ref fp))
    (Fl : Fun K "length_of" "length_of" sLen fl fdl) (bl : Binds K fdl ["piece"] []) (gl : mg "length_of" = some (.ref fl))
    (Fu : Fun K "most_unbroken" "most_unbroken" sUnb fu fdu) (bu : Binds K fdu ["depot", "pieces", "gaps"] []) (gu : mg "most_unbroken" = some (.ref fu))
    (Fb : Fun K "is_break" "is_break" sBreak fb fdb) (bb : Binds K fdb ["depot", "piece", "behind", "gap"] []) (gb : mg "is_break" = some (.ref fb)) :
    FnOk P w K mg base CX0 3 f fd ["self", "depot", "pieces", "gaps"] (spRec C CD) := by
  have G : FnOk P w K mg base CX0 1 fg fdg ["self", "from_place", "to_place"] (spGet C) := ok_get Fg T
  have Gp : FnOk P w K mg base CX0 1 fp fdp ["rules", "minutes"] spPay := ok_pay Fp U
  have Gl : FnOk P w K mg base CX0 1 fl fdl ["piece"] spLen := ok_len Fl U
  have Gu : FnOk P w K mg base CX0 2 fu fdu ["depot", "pieces", "gaps"] (spUnb C) := ok_unb Fu T U Fb bb gb Fl bl gl
  obtain ⟨t0, g0⟩ := U.g "FROM_PLACE" 0 (by decide +kernel)
  obtain ⟨t1, g1⟩ := U.g "TO_PLACE" 1 (by decide +kernel)
  obtain ⟨t2, g2⟩ := U.g "FIRST" 2 (by decide +kernel)
  obtain ⟨t3, g3⟩ := U.g "LAST" 3 (by decide +kernel)
  obtain ⟨t4, g4⟩ := U.g "ON" 4 (by decide +kernel)
  obtain ⟨t5, g5⟩ := U.g "OFF" 5 (by decide +kernel)
  refine F.ok scReckon (fun vs H Q E h => ?_) (fun cdv A outer s H vs Q E hr h => ⟨_, pss_cons (ps_set (i := 4) scReckon.nd rfl (Or.inl rfl) (pe_meth (pv 1) T.cl mg1 G (hr.mono (by decide)) bg .nil pass0 (pa_cons (pe_fld (pv 0) rfl) (pa_cons (pe_ix ix_tup (pe_ix ix_list (pv 2) pe_int (fun _ _ => rfl)) (pe_glob (v := .int 0) rfl g0 ⟨_, rfl⟩) (fun _ _ => rfl)) pa_nil))))
    (pss_cons (ps_set (i := 5) scReckon.nd rfl (Or.inl rfl) (pe_meth (pv 1) T.cl mg1 G (hr.mono (by decide)) bg .nil pass0 (pa_cons (pe_ix ix_tup (pe_ix ix_list (pv 2) (pe_un un_neg pe_int) (fun _ _ => rfl)) (pe_glob (v := .int 1) rfl g1 ⟨_, rfl⟩) (fun _ _ => rfl)) (pa_cons (pe_fld (pv 0) rfl) pa_nil))))
    (pss_cons (ps_fld (pv 0) (pe_op op_sub (pe_op op_sub (pe_ix ix_tup (pe_ix ix_list (pv 2) pe_int (fun _ _ => rfl)) (pe_glob (v := .int 2) rfl g2 ⟨_, rfl⟩) (fun _ _ => rfl)) (pv 4)) (pe_ix ix_list (pe_fld (pv 1) rfl) (pe_glob (v := .int 4) rfl g4 ⟨_, rfl⟩) (fun _ _ => rfl))) rfl)
    (pss_cons (ps_fld (pv 0) (pe_op op_add (pe_op op_add (pe_ix ix_tup (pe_ix ix_list (pv 2) (pe_un un_neg pe_int) (fun _ _ => rfl)) (pe_glob (v := .int 3) rfl g3 ⟨_, rfl⟩) (fun _ _ => rfl)) (pv 5)) (pe_ix ix_list (pe_fld (pv 1) rfl) (pe_glob (v := .int 5) rfl g5 ⟨_, rfl⟩) (fun _ _ => rfl))) rfl)
    (pss_cons (ps_fld (pv 0) (pe_call Gp (hr.mono (by decide)) rfl gp Fp.kp bp .nil pass0 (pa_cons (pe_fld (pv 1) rfl) (pa_cons (pe_op op_sub (pe_fld (pv 0) rfl) (pe_fld (pv 0) rfl)) pa_nil))) rfl)
    (pss_cons (ps_fld (pv 0) (pe_callB (cr_sum rfl) (by rfl) U.sum (by decide +kernel) (pa_cons (pe_lc (own := [("piece", 6)]) (g := gName 6) (tt := tYes) rfl scReckon.nd (pi_list (pv 2)) (blkOk_by (N := ["self", "depot", "pieces", "gaps", "there", "back", "piece"]) (sc := defScope sReckon) (by decide +kernel)) (fun _ _ _ _ _ => pg_name (i := 6) scReckon.nd rfl (Or.inl rfl)) (fun _ _ _ _ _ => pts_nil)
        (fun _ _ _ _ _ => pe_call Gl (hr.mono (by decide)) rfl gl Fl.kp bl .nil pass0 (pa_cons (pv 6) pa_nil))) pa_nil)) rfl)
    (pss_one (ps_fld (pv 0) (pe_call Gu hr rfl gu Fu.kp bu .nil pass0 (pa_cons (pv 1) (pa_cons (pv 2) (pa_cons (pv 3) pa_nil)))) rfl))))))), ?_⟩)
  · obtain ⟨s, dx, lo, a, lp, lg, D, p, l, h, m, n, x, y, rfl, _⟩ := h
    rfl
  · obtain ⟨s, dx, lo, a, lp, lg, D, p, l, h, m, n, x, y, rfl, hs, d, hl, hg, hno, hw, h1, h2, hx, hy, hh, q⟩ := h
    obtain ⟨w1, w2⟩ := home_found hh
    have has : a ≠ s := d.ne hs (by show (2 : Nat) ≠ 6; decide)
    have nm := dF_none (m := "minutes_to_get") D (by decide +kernel) (by decide +kernel) (by decide +kernel) (by decide +kernel) (by decide +kernel) (by decide +kernel)
    have hx2 := head_getD hx
    have hy2 := last_getD hy
    have P0 : ∀ {H' : Hp}, But s H H' → ∃ (ts : List Addr) (t : Addr), H' lp = some (.lst (ts.map V.ref)) ∧ (ts.map V.ref)[0]? = some (.ref t) ∧ PieceAt H' t x := fun {H'} k => by
      obtain ⟨ts, t, e1, _, e3, e4⟩ := (hl.but hs k).at (i := 0) (by omega)
      rw [hx2] at e4
      exact ⟨ts, t, e1, e3, e4⟩
    have P9 : ∀ {H' : Hp}, But s H H' → ∃ (ts : List Addr) (t : Addr), H' lp = some (.lst (ts.map V.ref)) ∧ atI (ts.map V.ref) (-1) = some (.ref t) ∧ PieceAt H' t y := fun {H'} k => by
      obtain ⟨ts, t, e1, e2, e3, e4⟩ := (hl.but hs k).at (i := l.length - 1) (by omega)
      rw [hy2] at e4
      exact ⟨ts, t, e1, atI_neg1 (by rw [List.length_map, e2]; exact e3), e4⟩
    -- there
    obtain ⟨tsA, tA, a1, a2, a3⟩ := P0 (But.refl s H)
    refine ⟨_, rfl, a, D.dx, _, rfl, d.ins, nm, _, rfl, s, CD, dx, _, _, rfl, hs, TD.cl, TD.nH, f2_home lo (vN h), _, rfl, lp, _, _, .ref tA, rfl, rfl, .of a1, atI_nat (j := 0) a2, tA, _, _, _, rfl, rfl, .of a3, atI_nat (j := 0) rfl, a, D, p, h, x.from_, rfl, d, fun H1 s1 => ?_⟩
    rw [w1]
    have k1 : But s H H1 := (But.refl s H).same s1
    have i1 : H1 s = some (.ins CD dx (f2 lo (vN h))) := s1 _ _ hs
    have d1 := d.but has hs k1
    -- back
    obtain ⟨tsB, tB, b1, b2, b3⟩ := P9 k1
    refine ⟨_, rfl, a, D.dx, _, rfl, d1.ins, nm, _, rfl, _, rfl, lp, _, _, .ref tB, rfl, rfl, .of b1, b2, tB, _, _, _, rfl, rfl, .of b3, atI_nat (j := 1) rfl, _, rfl, s, CD, dx, _, _, rfl, i1, TD.cl, TD.nH, f2_home lo (vN h), a, D, p, y.to, h, rfl, d1, fun H2 s2 => ?_⟩
    rw [w2]
    have k2 : But s H H2 := k1.same s2
    have i2 : H2 s = some (.ins CD dx (f2 lo (vN h))) := s2 _ _ i1
    have d2 := d.but has hs k2
    -- beginning
    obtain ⟨tsC, tC, c1, c2, c3⟩ := P0 k2
    refine ⟨_, rfl, lp, _, _, .ref tC, rfl, rfl, .of c1, atI_nat (j := 0) c2, tC, _, _, _, rfl, rfl, .of c3, atI_nat (j := 2) rfl, _, rfl, _, _, rfl, rfl, _, rfl, a, C, D.dx, _, _, rfl, d2.ins, T.cl, T.nR, dF_rules D, D.lr, _, _, _, rfl, rfl, .of d2.r, atI_nat (j := 4) rfl, _, _, rfl, rfl, _, rfl, s, CD, dx, _, rfl, i2, TD.cl, TD.nB, by show (2 : Nat) < 1000; decide, ?_⟩
    rw [put3]
    have k3 := k2.put (.ins CD dx (f3 lo (vN h) ((x.start : Int) - (m : Int) - (p.rules.on : Int))))
    have i3 : upd H2 s (.ins CD dx (f3 lo (vN h) ((x.start : Int) - (m : Int) - (p.rules.on : Int)))) s = _ := upd_same
    generalize eB : (x.start : Int) - (m : Int) - (p.rules.on : Int) = B at *
    generalize eH3 : upd H2 s (.ins CD dx (f3 lo (vN h) B)) = H3 at k3 i3
    have d3 := d.but has hs k3
    -- end
    obtain ⟨tsE, tE, x1, x2, x3⟩ := P9 k3
    refine ⟨_, rfl, _, rfl, lp, _, _, .ref tE, rfl, rfl, .of x1, x2, tE, _, _, _, rfl, rfl, .of x3, atI_nat (j := 3) rfl, _, rfl, _, _, rfl, rfl, _, rfl, a, C, D.dx, _, _, rfl, d3.ins, T.cl, T.nR, dF_rules D, D.lr, _, _, _, rfl, rfl, .of d3.r, atI_nat (j := 5) rfl, _, _, rfl, rfl, _, rfl, s, CD, dx, _, rfl, i3, TD.cl, TD.nE, by show (3 : Nat) < 1000; decide, ?_⟩
    rw [put4]
    have k4 := k3.put (.ins CD dx (f4 lo (vN h) B ((y.halt_ : Int) + (n : Int) + (p.rules.off : Int))))
    have i4 : upd H3 s (.ins CD dx (f4 lo (vN h) B ((y.halt_ : Int) + (n : Int) + (p.rules.off : Int)))) s = _ := upd_same
    generalize eE : (y.halt_ : Int) + (n : Int) + (p.rules.off : Int) = Ed at *
    generalize eH4 : upd H3 s (.ins CD dx (f4 lo (vN h) B Ed)) = H4 at k4 i4
    have d4 := d.but has hs k4
    -- pay
    refine ⟨_, rfl, a, C, D.dx, _, _, rfl, d4.ins, T.cl, T.nR, dF_rules D, _, rfl, s, CD, dx, _, _, rfl, i4, TD.cl, TD.nE, f4_end lo (vN h) B Ed, _, rfl, s, CD, dx, _, _, rfl, i4, TD.cl, TD.nB, f4_beg lo (vN h) B Ed, _, _, rfl, rfl, D.lr, p.rules, _, rfl, d4.r, _, rfl, s, CD, dx, _, rfl, i4, TD.cl, TD.nP, by show (4 : Nat) < 1000; decide, ?_⟩
    rw [pay_int, put5]
    have k5 := k4.put (.ins CD dx (f5 lo (vN h) B Ed (max p.rules.least ((Ed - B).toNat + ((Ed - B).toNat - p.rules.twice)))))
    have i5 : upd H4 s (.ins CD dx (f5 lo (vN h) B Ed (max p.rules.least ((Ed - B).toNat + ((Ed - B).toNat - p.rules.twice))))) s = _ := upd_same
    have q5 : ∀ H' : Hp, But s H H' → H' s = some (.ins CD dx (bF lo h B Ed (max p.rules.least ((Ed - B).toNat + ((Ed - B).toNat - p.rules.twice))) (Plan.worked l) (p.driveFrom 0 l))) → Q .non H' := q
    generalize max p.rules.least ((Ed - B).toNat + ((Ed - B).toNat - p.rules.twice)) = py at q5 k5 i5
    generalize eH5 : upd H4 s (.ins CD dx (f5 lo (vN h) B Ed py)) = H5 at k5 i5
    -- worked
    obtain ⟨ts, l1, l2⟩ := hl.but hs k5
    have lts : ts.length = l.length := by rw [l2.len, List.length_map]
    refine ⟨_, rfl, lp, rfl, ⟨_, .of l1⟩, fun R hR => ?_⟩
    refine lc_list (K := K) (a := lp) (xs := ts.map V.ref) (fun i H' => ∃ acc, H' R = some (.lst acc) ∧ acc = ((l.take i).map fun w => (w.halt_ : Int) - (w.start : Int)).map V.int ∧ Same H5 H') ⟨[], upd_same, rfl, same_new hR⟩ (fun i H' _ hp => ?_) (fun i v H' hi hp => ?_) fun H' hp => ?_
    · obtain ⟨acc, _, _, sm⟩ := hp
      exact .of (sm _ _ l1)
    · obtain ⟨acc, ea, eb, sm⟩ := hp
      have hil : i < l.length := by
        have z := (List.getElem?_eq_some_iff.mp hi).1
        rw [List.length_map, lts] at z
        exact z
      obtain ⟨tt, ht1, ht2⟩ := Tups.at (n := i) (r := workV (l.getD i wd)) (l2.ext (Same.ext sm)) (by
        rw [List.getElem?_map, List.getD_eq_getElem?_getD, List.getElem?_eq_getElem hil] <;> rfl)
      rw [List.getElem?_map, ht1] at hi
      cases hi
      refine ⟨rfl, yes_ite ?_⟩
      refine ⟨_, rfl, tt, _, rfl, ht2, acc, ea, ?_, _, upd_same, ?_, ?_⟩
      · rw [eb, List.length_map, List.length_map, List.length_take]
        exact small1000 (by omega)
      · rw [eb, List.take_add_one, List.getElem?_eq_getElem hil, List.map_append, List.map_append]
        have e9 : l.getD i wd = l[i] := by rw [List.getD_eq_getElem?_getD, List.getElem?_eq_getElem hil] <;> rfl
        rw [e9] <;> rfl
      · intro b o hb
        have n1 : b ≠ R := fun z => by
          rw [z, hR] at hb
          cases hb
        rw [upd_ne n1]
        exact sm _ _ hb
    obtain ⟨acc, ea, eb, sm⟩ := hp
    rw [List.length_map, lts, List.take_of_length_le (Nat.le_refl _)] at eb
    refine ⟨R, l.map fun w => (w.halt_ : Int) - (w.start : Int), rfl, .of (by rw [ea, eb]), _, rfl, s, CD, dx, _, rfl, sm _ _ i5, TD.cl, TD.nK, by show (5 : Nat) < 1000; decide, ?_⟩
    rw [worked_sum l fun w hwm => Nat.le_of_lt (hw w hwm).2.2, put6]
    have k6 := (k5.same sm).put (.ins CD dx (f6 lo (vN h) B Ed py (Plan.worked l)))
    have i6 : upd H' s (.ins CD dx (f6 lo (vN h) B Ed py (Plan.worked l))) s = _ := upd_same
    generalize eH6 : upd H' s (.ins CD dx (f6 lo (vN h) B Ed py (Plan.worked l))) = H6 at k6 i6
    -- unbroken
    refine ⟨_, rfl, _, rfl, _, rfl, a, lp, lg, D, p, l, rfl, d.but has hs k6, hl.but hs k6, k6 _ _ hg (ne_of hg hs (by intro z; cases z)), hno, hw, h1, h2, _, rfl, s, CD, dx, _, rfl, i6, TD.cl, TD.nU, by show (6 : Nat) < 1000; decide, ?_⟩
    rw [put7]
    exact q5 _ (k6.put _) upd_same
end
end Du

namespace Du
open PySem PySem.Spec PyProof.Rows L2
open Sw82 (Call Plan Work Rules)
/-- all but tables and the object at s stays -/
def ButT (s : Addr) (H H' : Hp) : Prop := ∀ b o, H b = some o → (∀ ps, o ≠ .tbl ps) → b ≠ s → H' b = some o
/-- nothing stood there, or a table -/
def NewT (H : Hp) (r : Addr) : Prop := ∀ o, H r = some o → ∃ ps, o = .tbl ps
/-- a duty of the pieces m, in their order -/
def DutyAt (CD : Addr) (H : Hp) (s lo : Addr) (p : Plan) (m : List Nat) : Prop := ∃ dx : Addr, H lo = some (.lst (m.map vN)) ∧
  (((p.wrong (m.map p.work) = 1 ∨ p.wrong (m.map p.work) = 2) ∧ ∃ h : V, H s = some (.ins CD dx (nF lo h (p.wrong (m.map p.work))))) ∨
   (p.wrong (m.map p.work) ≠ 1 ∧ p.wrong (m.map p.work) ≠ 2 ∧ ∃ d : Sw82.Duty, p.duty (m.map p.work) = some d ∧ H s = some (.ins CD dx (wF lo d.home d.start d.halt_ (p.pay (m.map p.work)) (Plan.worked (m.map p.work)) (p.driveFrom 0 (m.map p.work)) (p.wrong (m.map p.work))))))
theorem DutyAt.ext {CD : Addr} {H H' : Hp} {s lo : Addr} {p : Plan} {m : List Nat} (h : DutyAt CD H s lo p m) (e : Ext H H') : DutyAt CD H' s lo p m := by
  obtain ⟨dx, h1, ⟨h2, x, h3⟩ | ⟨h2, h3, d, h4, h5⟩⟩ := h
  · exact ⟨dx, e _ _ h1 (by intro ps z; cases z), .inl ⟨h2, x, e _ _ h3 (by intro ps z; cases z)⟩⟩
  · exact ⟨dx, e _ _ h1 (by intro ps z; cases z), .inr ⟨h2, h3, d, h4, e _ _ h5 (by intro ps z; cases z)⟩⟩
def spDuty (C CD Tb : Addr) : Sp := fun vs H Q _ => ∃ (s dx a lc : Addr) (D : Own) (p : Plan) (ns : List Nat), vs = [.ref s, .ref a, .ref lc] ∧ H s = some (.ins CD dx []) ∧ Dep C H a D p ∧ Wf p ∧ H lc = some (.lst (ns.map vN)) ∧ ns.Nodup ∧ ns ≠ [] ∧ (∀ n ∈ ns, n < p.works.length) ∧ TabH Tb H ∧
  ∀ (H' : Hp) (lo : Addr), ButT s H H' → TabH Tb H' → NewT H lo → DutyAt CD H' s lo p (p.inOrder ns) → Q .non H'
theorem TabH.but {Tb s CD dx : Addr} {H H' : Hp} {fs : List (Str × V)} (t : TabH Tb H) (hs : H s = some (.ins CD dx fs)) (k : But s H H') : TabH Tb H' := fun q hq => by
  obtain ⟨ps, h1, h2, h3⟩ := t q hq
  refine ⟨ps, k _ _ h1 (ne_of h1 hs (by intro z; cases z)), h2, fun pos cv hc => ?_⟩
  obtain ⟨c, e1, e2⟩ := h3 pos cv hc
  exact ⟨c, e1, k _ _ e2 (ne_of e2 hs (by intro z; cases z))⟩
theorem wrong_one {p : Plan} {l : List Work} (h : none ∈ gapsOf p l) : p.wrong l = 1 := by
  rw [wrong_is, if_pos ((linked_iff p l).mpr h)]
theorem wrong_two {p : Plan} {l : List Work} (h : none ∉ gapsOf p l) (hd : p.duty l = none) : p.wrong l = 2 := by
  rw [wrong_is, if_neg (fun z => h ((linked_iff p l).mp z)), hd]
theorem wrong_over {p : Plan} {l : List Work} {d : Sw82.Duty} (h : none ∉ gapsOf p l) (hd : p.duty l = some d) : p.wrong l = over p.rules (d.halt_ - d.start) (Plan.worked l) (p.driveFrom 0 l) := by
  rw [wrong_is, if_neg (fun z => h ((linked_iff p l).mp z)), hd] <;> rfl
theorem over_not (r : Rules) (D : Int) (wk ub : Nat) : over r D wk ub ≠ 1 ∧ over r D wk ub ≠ 2 := by
  unfold over
  constructor <;> (repeat' split) <;> omega
theorem nodup_len2 {ns : List Nat} {n : Nat} (h : ns.Nodup) (k : ∀ x ∈ ns, x < n) : ns.length ≤ n := nodup_len h k
theorem inV_none (l : List (Option Nat)) : inV .non (l.map optV) = decide (none ∈ l) := by
  unfold inV
  induction l with
  | nil => rfl
  | cons x l ih =>
    rw [List.map_cons, List.any_cons, ih]
    cases x with
    | none =>
      show (true || _) = _
      simp
    | some n =>
      show (false || _) = _
      simp
theorem flat_opt (l : List (Option Nat)) : (l.map optV).all flatV = true := by
  rw [List.all_eq_true]
  intro x hx
  obtain ⟨o, _, rfl⟩ := List.mem_map.mp hx
  cases o <;> rfl
theorem bF_none (lo : Addr) (h : Nat) (b e : Int) (pay wk ub : Nat) : (bF lo h b e pay wk ub).lookup ("beyond" : Str) = none :=
  (lk_past (by decide +kernel)).trans ((lk_past (by decide +kernel)).trans ((lk_past (by decide +kernel)).trans ((lk_past (by decide +kernel)).trans ((lk_past (by decide +kernel)).trans ((lk_past (by decide +kernel)).trans ((lk_past (by decide +kernel)).trans rfl))))))
theorem work_mem {p : Plan} {n : Nat} (h : n < p.works.length) : p.work n ∈ p.works := by
  unfold Plan.work
  rw [List.getD_eq_getElem?_getD, List.getElem?_eq_getElem h]
  exact List.getElem_mem h
section
variable {P : Program} {w : World} {K : PySem.W.Frag} {mg : Str → Option Value} {base : Heap} {C CD : Addr}
theorem scDInit : FnScope ["self", "depot", "chosen", "pieces", "gaps", "number"] ["self", "depot", "chosen"] (defScope sDInit) := ⟨rfl, rfl, rfl, by decide +kernel, rfl, by decide +kernel, by decide +kernel⟩
theorem ok_dinit {f fO fG fH fR fY Tb : Addr} {fd fdO fdG fdH fdR fdY : FuncData} (F : Fun K "__init__" "Duty.__init__" sDInit f fd) (T : Txt K mg C) (TD : TxD K mg CD) (U : Txk mg)
    (GO : FnOk P w K mg base CX0 2 fO fdO ["pieces", "chosen"] (spOrder Tb)) (gO : mg "in_order" = some (.ref fO)) (kO : PySem.W.keepIn K (.ref fO) = true) (bO : Binds K fdO ["pieces", "chosen"] [])
    (GG : FnOk P w K mg base CX0 3 fG fdG ["depot", "pieces"] (spGaps C)) (gG : mg "gaps_between" = some (.ref fG)) (kG : PySem.W.keepIn K (.ref fG) = true) (bG : Binds K fdG ["depot", "pieces"] [])
    (GH : FnOk P w K mg base CX0 2 fH fdH ["depot", "first_piece", "last_piece"] (spHome C)) (gH : mg "home_of" = some (.ref fH)) (kH : PySem.W.keepIn K (.ref fH) = true) (bH : Binds K fdH ["depot", "first_piece", "last_piece"] [])
    (GR : FnOk P w K mg base CX0 3 fR fdR ["self", "depot", "pieces", "gaps"] (spRec C CD)) (mR : Meth K CD "reckon" fR) (bR : Binds K fdR ["self", "depot", "pieces", "gaps"] [])
    (GY : FnOk P w K mg base CX0 1 fY fdY ["self", "rules"] (spBey CD)) (mY : Meth K CD "beyond" fY) (bY : Binds K fdY ["self", "rules"] []) :
    FnOk P w K mg base CX0 4 f fd ["self", "depot", "chosen"] (spDuty C CD Tb) := by
  obtain ⟨t1, g1⟩ := U.g "NO_GAP" 1 (by decide +kernel)
  obtain ⟨t2, g2⟩ := U.g "NO_HOME" 2 (by decide +kernel)
  refine F.ok scDInit (fun vs H Q E h => ?_) (fun cdv A outer s H vs Q E hr h => ⟨_, pss_cons (ps_fld (pv 0) (pe_call GO (hr.mono (by decide)) rfl gO kO bO .nil pass0 (pa_cons (pe_fld (pv 1) rfl) (pa_cons (pv 2) pa_nil))) rfl)
    (pss_cons (ps_setLc (i := 3) (own := [("number", 5)]) (g := gName 5) (tt := tYes) (by rfl) scDInit.nd rfl rfl (sw_true rfl rfl rfl (by decide +kernel)) (pi_list (pe_fld (pv 0) rfl)) (blkOk_by (N := ["self", "depot", "chosen", "pieces", "gaps", "number"]) (sc := defScope sDInit) (by decide +kernel)) (fun _ _ _ _ _ => pg_name (i := 5) scDInit.nd rfl (Or.inl rfl)) (fun _ _ _ _ _ => pts_nil)
      (fun _ _ _ _ _ => pe_ix (ixL K) (fldK K (pv 1) rfl) (pv 5) (fun _ _ => rfl)))
    (pss_cons (ps_set (i := 4) scDInit.nd rfl (Or.inl rfl) (pe_call GG hr rfl gG kG bG .nil pass0 (pa_cons (pv 1) (pa_cons (pv 3) pa_nil))))
    (pss_cons (ps_fld (pv 0) (pe_call GH (hr.mono (by decide)) rfl gH kH bH .nil pass0 (pa_cons (pv 1) (pa_cons (pe_ix ix_list (pv 3) pe_int (fun _ _ => rfl)) (pa_cons (pe_ix ix_list (pv 3) (pe_un un_neg pe_int) (fun _ _ => rfl)) pa_nil)))) rfl)
    (pss_one (ps_if (pt_cmpR op_in_seq pe_non (pv 4) (by rfl)) (pss_one (ps_fld (pv 0) (pe_glob (v := .int 1) rfl g1 ⟨_, rfl⟩) rfl))
      (pss_one (ps_if (pt_cmpR op_isN (pe_fld (pv 0) rfl) pe_non (nomark _)) (pss_one (ps_fld (pv 0) (pe_glob (v := .int 2) rfl g2 ⟨_, rfl⟩) rfl))
        (pss_cons (ps_expr (pe_meth (pv 0) TD.cl mR GR hr bR .nil pass0 (pa_cons (pv 1) (pa_cons (pv 3) (pa_cons (pv 4) pa_nil)))))
        (pss_one (ps_fld (pv 0) (pe_meth (pv 0) TD.cl mY GY (hr.mono (by decide)) bY .nil pass0 (pa_cons (pe_fld (pv 1) rfl) pa_nil)) rfl)))))))))), ?_⟩)
  · obtain ⟨s, dx, a, lc, D, p, ns, rfl, _⟩ := h
    rfl
  · obtain ⟨s, dx, a, lc, D, p, ns, rfl, hs, d, W, hlc, hnd, hne, hns, hT, q⟩ := h
    have has : a ≠ s := d.ne hs (by show (0 : Nat) ≠ 6; decide)
    obtain ⟨us, p1, p2⟩ := d.p
    have hlus : us.length = p.works.length := by rw [p2.len, List.length_map]
    have h7 := W.worksLen
    have hnl := nodup_len2 hnd hns
    refine ⟨_, rfl, a, C, D.dx, _, _, rfl, d.ins, T.cl, T.nP, dF_pieces D, _, rfl, D.lp, lc, p.works, ns, rfl, ⟨us, p1, p2⟩, hlc, hns, by omega, by omega, hT, fun H1 lo e1 T1 hlo => ?_⟩
    rw [order_sort p hnd]
    have hperm := order_perm p ns
    have hmem : ∀ n ∈ p.inOrder ns, n < p.works.length := fun n hn => hns n (hperm.mem_iff.mp hn)
    have hmlen : (p.inOrder ns).length = ns.length := hperm.length_eq
    have hm0 : 1 ≤ (p.inOrder ns).length := by
      rw [hmlen]
      cases ns with
      | nil => exact (hne rfl).elim
      | cons _ _ => exact Nat.succ_le_succ (Nat.zero_le _)
    generalize p.inOrder ns = m at *
    have e2 : Ext H (upd H1 lo (.lst (m.map vN))) := fun b o hb hn => up_n (e1 b o hb hn) hlo
    have T2 : TabH Tb (upd H1 lo (.lst (m.map vN))) := T1.ext (same_new hlo)
    have l2 : upd H1 lo (.lst (m.map vN)) lo = some (.lst (m.map vN)) := upd_same
    generalize eH2 : upd H1 lo (.lst (m.map vN)) = H2 at e2 T2 l2
    have i2 : H2 s = some (.ins CD dx []) := e2 _ _ hs (by intro ps z; cases z)
    refine ⟨_, rfl, s, CD, dx, _, rfl, i2, TD.cl, TD.nO, by show (0 : Nat) < 1000; decide, ?_⟩
    rw [put1]
    have d2 := d.ext e2
    have lo_s : lo ≠ s := ne_of l2 i2 (by intro z; cases z)
    -- from H2 on: all but s stays
    have k3 : But s H2 (upd H2 s (.ins CD dx [(("order" : Str), V.ref lo)])) := (But.refl s H2).put _
    have i3 : upd H2 s (.ins CD dx [(("order" : Str), V.ref lo)]) s = _ := upd_same
    generalize eH3 : upd H2 s (.ins CD dx [(("order" : Str), V.ref lo)]) = H3 at k3 i3
    have l3 : H3 lo = some (.lst (m.map vN)) := k3 _ _ l2 lo_s
    -- pieces
    refine ⟨_, rfl, s, CD, dx, _, _, rfl, i3, TD.cl, TD.nO, lk_here, lo, rfl, ⟨_, .of l3⟩, fun R hR => ?_⟩
    refine lc_list (K := K) (a := lo) (xs := m.map vN) (fun i H' => ∃ ts : List Addr, H' R = some (.lst (ts.map V.ref)) ∧ ts.length = (m.take i).length ∧ Tups H' ts (((m.take i).map p.work).map workV) ∧ Same H3 H') ⟨[], upd_same, rfl, trivial, same_new hR⟩ (fun i H' _ hp => ?_) (fun i v H' hi hp => ?_) fun H' hp => ?_
    · obtain ⟨ts, _, _, _, sm⟩ := hp
      exact .of (sm _ _ l3)
    · obtain ⟨ts, ea, el, eb, sm⟩ := hp
      rw [List.getElem?_map] at hi
      obtain ⟨n, hn, rfl⟩ : ∃ n, m[i]? = some n ∧ v = vN n := by
        cases z : m[i]? with
        | none =>
          rw [z] at hi
          cases hi
        | some n =>
          rw [z] at hi
          exact ⟨n, rfl, (Option.some.inj hi).symm⟩
      have hnw := hmem n (List.mem_of_getElem? hn)
      have d4 := (d2.but has i2 k3).same sm
      obtain ⟨us4, u1, u2⟩ := d4.p
      obtain ⟨t, ht1, ht2⟩ := Tups.at (n := n) (r := workV (p.work n)) u2 (by
        unfold Plan.work
        rw [List.getElem?_map, List.getD_eq_getElem?_getD, List.getElem?_eq_getElem hnw] <;> rfl)
      refine ⟨rfl, yes_ite ?_⟩
      refine ⟨_, rfl, a, C, D.dx, _, _, rfl, d4.ins, T.cl, T.nP, dF_pieces D, _, rfl, D.lp, _, _, .ref t, rfl, rfl, .of u1, atI_nat (by rw [List.getElem?_map, ht1] <;> rfl), _, ea, ?_, ts ++ [t], ?_, ?_, ?_, ?_⟩
      · rw [List.length_map, el, List.length_take]
        exact small1000 (by omega)
      · rw [upd_same, List.map_append] <;> rfl
      · rw [List.length_append, el, List.take_add_one, hn, List.length_append] <;> rfl
      · rw [List.take_add_one, hn, List.map_append, List.map_append]
        refine (Tups.snoc ht2 eb).mono fun tt l h => ?_
        exact tup_keep ea (by intro l z; cases z) _ _ h
      · intro b o hb
        have n1 : b ≠ R := fun z => by
          rw [z, hR] at hb
          cases hb
        rw [upd_ne n1]
        exact sm _ _ hb
    obtain ⟨ts, ea, el, eb, sm⟩ := hp
    rw [List.length_map, List.take_of_length_le (Nat.le_refl _)] at eb
    have hl4 : PList H' R (m.map p.work) := ⟨ts, ea, eb⟩
    have k4 : But s H2 H' := k3.same sm
    have i4 : H' s = some (.ins CD dx [(("order" : Str), V.ref lo)]) := sm _ _ i3
    have len4 : (m.map p.work).length = m.length := List.length_map ..
    -- gaps
    refine ⟨_, rfl, _, rfl, a, R, D, p, m.map p.work, rfl, d2.but has i2 k4, hl4, by omega, by omega, fun H5 lg s5 hlg l5 => ?_⟩
    have k5 := k4.same s5
    have hl5 := hl4.same s5
    have i5 : H5 s = some (.ins CD dx [(("order" : Str), V.ref lo)]) := s5 _ _ i4
    have hw : ∀ w ∈ m.map p.work, w.from_ < 20 ∧ w.to < 20 ∧ w.start < w.halt_ := fun w hw => by
      obtain ⟨n, hn, rfl⟩ := List.mem_map.mp hw
      have z := W.works _ (work_mem (hmem n hn))
      exact ⟨z.1, z.2.1, z.2.2.1⟩
    obtain ⟨l, el9⟩ : ∃ l, l = m.map p.work := ⟨_, rfl⟩
    rw [← el9] at hl4 hl5 len4 l5 hw
    have nlo : NewT H lo := fun o ho => by
      apply Classical.byContradiction
      intro hn
      have z := e1 _ _ ho fun ps z => hn ⟨ps, z⟩
      rw [hlo] at z
      cases z
    have q' : ∀ H' : Hp, But s H2 H' → DutyAt CD H' s lo p m → Q .non H' := fun H' k du => q H' lo (fun b o hb hn hbs => k _ _ (e2 _ _ hb hn) hbs) (T2.but i2 k) nlo du
    obtain ⟨x, hx⟩ : ∃ x, l.head? = some x := by
      cases l with
      | nil => exact absurd len4 (by simp; omega)
      | cons x _ => exact ⟨x, rfl⟩
    obtain ⟨y, hy⟩ : ∃ y, l.getLast? = some y := by
      cases z : l.getLast? with
      | some y => exact ⟨y, rfl⟩
      | none =>
        rw [List.getLast?_eq_none_iff] at z
        rw [z] at hx
        cases hx
    have hx2 := head_getD hx
    have hy2 := last_getD hy
    obtain ⟨tsA, tA, a1, a2, a3, a4⟩ := hl5.at (i := 0) (by omega)
    obtain ⟨tsB, tB, b1, b2, b3, b4⟩ := hl5.at (i := l.length - 1) (by omega)
    rw [hx2] at a4
    rw [hy2] at b4
    -- home
    refine ⟨_, rfl, _, rfl, R, _, _, .ref tA, rfl, rfl, .of a1, atI_nat (j := 0) a3, _, rfl, _, rfl, R, _, _, .ref tB, rfl, rfl, .of b1, atI_neg1 (by rw [List.length_map, b2]; exact b3), a, D, p, tA, tB, x, y, rfl, d2.but has i2 k5, a4, b4, fun H6 s6 => ?_⟩
    have k6 := k5.same s6
    refine ⟨_, rfl, s, CD, dx, _, rfl, s6 _ _ i5, TD.cl, TD.nH, by show (1 : Nat) < 1000; decide, ?_⟩
    rw [put2]
    have k7 := k6.put (.ins CD dx (f2 lo (optV ((p.home x.from_ y.to).map (·.1)))))
    have i7 : upd H6 s (.ins CD dx (f2 lo (optV ((p.home x.from_ y.to).map (·.1))))) s = _ := upd_same
    have lg_s : lg ≠ s := ne_of l5 i5 (by intro z; cases z)
    have R_s : R ≠ s := ne_of ea i4 (by intro z; cases z)
    have g7 : upd H6 s (.ins CD dx (f2 lo (optV ((p.home x.from_ y.to).map (·.1))))) lg = some (.lst ((gapsOf p l).map optV)) := up_a (s6 _ _ l5) lg_s
    have hl7 : PList (upd H6 s (.ins CD dx (f2 lo (optV ((p.home x.from_ y.to).map (·.1)))))) R l := (hl5.same s6).but (s6 _ _ i5) ((But.refl s H6).put _)
    generalize eH7 : upd H6 s (.ins CD dx (f2 lo (optV ((p.home x.from_ y.to).map (·.1))))) = H7 at k7 i7 g7 hl7
    have l7 : H7 lo = some (.lst (m.map vN)) := k7 _ _ l2 lo_s
    refine ⟨_, rfl, lg, _, rfl, .inl (.of g7), rfl, flat_opt _, _, rfl, ?_⟩
    by_cases hno : none ∈ gapsOf p l
    · refine ifT (c := inV .non ((gapsOf p l).map optV)) ((inV_none _).trans (decide_eq_true hno)) ?_
      refine ⟨_, rfl, s, CD, dx, _, rfl, i7, TD.cl, TD.nW, by show (2 : Nat) < 1000; decide, ?_⟩
      have hw1 := wrong_one hno
      refine q' _ (k7.put _) ⟨dx, up_a l7 lo_s, .inl ⟨.inl (by rw [← el9]; exact hw1), optV ((p.home x.from_ y.to).map (·.1)), ?_⟩⟩
      rw [← el9, hw1, upd_same]
      exact congrArg (fun z => some (HO.ins CD dx z)) (put2w lo _ 1)
    refine ifF (c := inV .non ((gapsOf p l).map optV)) ((inV_none _).trans (decide_eq_false hno)) ?_
    refine ⟨_, rfl, s, CD, dx, _, _, rfl, i7, TD.cl, TD.nH, f2_home lo _, rfl, _, rfl, ?_⟩
    cases hh : p.home x.from_ y.to with
    | none =>
      rw [hh] at i7
      refine ifT (decide_eq_true rfl) ?_
      refine ⟨_, rfl, s, CD, dx, _, rfl, i7, TD.cl, TD.nW, by show (2 : Nat) < 1000; decide, ?_⟩
      have hdu : p.duty l = none := by
        rw [duty_is p hx hy, hh] <;> rfl
      have hw2 := wrong_two hno hdu
      refine q' _ (k7.put _) ⟨dx, up_a l7 lo_s, .inl ⟨.inr (by rw [← el9]; exact hw2), .non, ?_⟩⟩
      rw [← el9, hw2, upd_same]
      exact congrArg (fun z => some (HO.ins CD dx z)) (put2w lo _ 2)
    | some z =>
      obtain ⟨h, mm, nn⟩ := z
      rw [hh] at i7
      refine ifF (decide_eq_false (by intro z; cases z)) ?_
      have i7' : H7 s = some (.ins CD dx (f2 lo (vN h))) := i7
      have nmR : (f2 lo (vN h)).lookup ("reckon" : Str) = none := (lk_past (by decide +kernel)).trans ((lk_past (by decide +kernel)).trans rfl)
      refine ⟨_, rfl, s, dx, _, rfl, i7', nmR, _, rfl, _, rfl, _, rfl, s, dx, lo, a, R, lg, D, p, l, h, mm, nn, x, y, rfl, i7', d2.but has i2 k7, hl7, g7, hno, hw, by omega, by omega, hx, hy, hh, fun H8 k8 i8 => ?_⟩
      have nmY := (bF_none lo h ((x.start : Int) - mm - p.rules.on) ((y.halt_ : Int) + nn + p.rules.off) (dPay p.rules (((y.halt_ : Int) + nn + p.rules.off) - ((x.start : Int) - mm - p.rules.on))) (Plan.worked l) (p.driveFrom 0 l))
      have d8 := (d2.but has i2 k7).but has i7' k8
      refine ⟨_, rfl, s, dx, _, rfl, i8, nmY, _, rfl, a, C, D.dx, _, _, rfl, d8.ins, T.cl, T.nR, dF_rules D, s, dx, lo, D.lr, h, _, _, _, _, _, p.rules, rfl, i8, d8.r, _, rfl, s, CD, dx, _, rfl, i8, TD.cl, TD.nW, by show (7 : Nat) < 1000; decide, ?_⟩
      rw [put8]
      have hdu : p.duty l = some ⟨h, (x.start : Int) - mm - p.rules.on, (y.halt_ : Int) + nn + p.rules.off⟩ := by
        rw [duty_is p hx hy, hh] <;> rfl
      have hwr := wrong_over hno hdu
      have hpy := pay_is p hdu
      obtain ⟨o1, o2⟩ := over_not p.rules (((y.halt_ : Int) + nn + p.rules.off) - ((x.start : Int) - mm - p.rules.on)) (Plan.worked l) (p.driveFrom 0 l)
      have k9 : But s H2 H8 := fun b o hb hn => k8 _ _ (k7 _ _ hb hn) hn
      have l8 : H8 lo = some (.lst (m.map vN)) := k8 _ _ l7 lo_s
      refine q' _ (k9.put _) ⟨dx, up_a l8 lo_s, .inr ⟨?_, ?_, _, by rw [← el9]; exact hdu, ?_⟩⟩
      · rw [← el9, hwr]
        exact o1
      · rw [← el9, hwr]
        exact o2
      · rw [← el9, hwr, hpy, upd_same] <;> rfl
end
end Du

/-! # plan.py: sets of pieces -/
namespace Du
open PySem PySem.Spec PyProof.Rows L2
open Sw82 (Call Plan Work Rules Best)
abbrev sNum : Stmt := top 40
theorem bits_le : ∀ g : Nat, g < 128 → g < 2 ^ Builtin.Int.intBits (g : Int) ∧ Builtin.Int.intBits (g : Int) ≤ 7 := by decide +kernel
theorem lt128 {n g : Nat} (hn : n ≤ 7) (h : g < 2 ^ n) : g < 128 := Nat.lt_of_lt_of_le h (Nat.pow_le_pow_right (by omega) hn : 2 ^ n ≤ 2 ^ 7)
theorem bit_is (g j : Nat) : decide (V.int (Builtin.bitAnd ((g : Int) / 2 ^ (((j : Nat) : Int)).toNat) 1) = V.int 1) = g.testBit j := by
  have e1 : ((g : Int) / 2 ^ (((j : Nat) : Int)).toNat) = ((g / 2 ^ j : Nat) : Int) := by
    rw [Int.toNat_natCast, Int.natCast_ediv, Int.natCast_pow] <;> rfl
  have e2 : Builtin.bitAnd ((g / 2 ^ j : Nat) : Int) 1 = (((g / 2 ^ j) &&& 1 : Nat) : Int) := PySem.W.os_band (g / 2 ^ j) 1
  rw [e1, e2]
  refine (eq_nat _ 1).trans ?_
  rw [Nat.and_one_is_mod, Nat.testBit_eq_decide_div_mod_eq]
def spNum : Sp := fun vs H Q _ => ∃ n g : Nat, vs = [vN g] ∧ n ≤ 7 ∧ g < 2 ^ n ∧ ∀ (H' : Hp) (r : Addr), Same H H' → H r = none → H' r = some (.lst ((Sw82.members n g).map vN)) → Q (.ref r) H'
section
variable {P : Program} {w : World} {K : PySem.W.Frag} {mg : Str → Option Value} {base : Heap} {C CD : Addr}
theorem scNum : FnScope ["members", "number"] ["members"] (defScope sNum) := ⟨rfl, rfl, rfl, by decide +kernel, rfl, by decide +kernel, by decide +kernel⟩
theorem ok_num {f : Addr} {fd : FuncData} (F : Fun K "numbers_in" "numbers_in" sNum f fd) (U : Txk mg) : FnOk P w K mg base CX0 1 f fd ["members"] spNum := by
  refine F.ok scNum (fun vs H Q E h => ?_) (fun cdv A outer s H vs Q E hr h => ⟨_, pss_one (ps_ret (pe_lc (own := [("number", 1)]) (g := gName 1) rfl scNum.nd (pi_range1 (by rfl) U.range (pa_cons (pe_bits (pv 0)) pa_nil))
      (blkOk_by (N := ["members", "number"]) (sc := defScope sNum) (by decide +kernel)) (fun _ _ _ _ _ => pg_name (i := 1) scNum.nd rfl (Or.inl rfl)) (fun _ _ _ _ _ => pts_one (pt_cmpR op_eq (pe_op op_and (pe_op op_shr (pv 0) (pv 1)) pe_int) pe_int (nomark _)))
      (fun _ _ _ _ _ => pv 1))), ?_⟩)
  · obtain ⟨n, g, rfl, _⟩ := h
    rfl
  · obtain ⟨n, g, rfl, hn, hg, q⟩ := h
    obtain ⟨b1, b2⟩ := bits_le g (lt128 hn hg)
    refine ⟨_, rfl, (g : Int), rfl, ((Builtin.Int.intBits (g : Int) : Nat) : Int), rfl, by omega, by omega, fun D hD => ?_⟩
    rw [Int.toNat_natCast]
    have eM := members_short (n := n) b1 hg
    have q2 : ∀ (H' : Hp) (r : Addr), Same H H' → H r = none → H' r = some (.lst ((Sw82.members (Builtin.Int.intBits (g : Int)) g).map vN)) → Q (.ref r) H' := by
      rw [eM]
      exact q
    generalize Builtin.Int.intBits (g : Int) = k at q2 b1 b2
    refine lc_range (lo := 0) (n := k) (fun i H' => ∃ acc, H' D = some (.lst acc) ∧ acc = (Sw82.members i g).map vN ∧ Same H H') ⟨[], upd_same, rfl, same_new hD⟩ (fun i H' hi hp => ?_) fun H' hp => ?_
    · obtain ⟨acc, ea, eb, sm⟩ := hp
      have ez : (0 : Int) + (i : Int) = ((i : Nat) : Int) := by omega
      rw [ez]
      refine ⟨rfl, _, rfl, _, rfl, _, _, rfl, rfl, by omega, _, _, rfl, rfl, rfl, _, rfl, ?_⟩
      have es : Sw82.members (i + 1) g = Sw82.members i g ++ (if g.testBit i = true then [i] else []) := by
        unfold Sw82.members
        rw [List.range_succ, List.filter_append, List.filter_cons, List.filter_nil]
      have lm : (Sw82.members i g).length ≤ 7 := by
        unfold Sw82.members
        have := List.length_filter_le (fun j => g.testBit j) (List.range i)
        rw [List.length_range] at this
        omega
      cases hb : g.testBit i with
      | true =>
        refine ifT ((bit_is g i).trans hb) ?_
        refine ⟨_, rfl, acc, ea, ?_, _, upd_same, ?_, ?_⟩
        · rw [eb, List.length_map]
          exact small1000 (by omega)
        · rw [es, hb, if_pos rfl, List.map_append, eb] <;> rfl
        · intro b o hbo
          have n1 : b ≠ D := fun z => by
            rw [z, hD] at hbo
            cases hbo
          rw [upd_ne n1]
          exact sm _ _ hbo
      | false =>
        refine ifF ((bit_is g i).trans hb) ?_
        refine ⟨acc, ea, ?_, sm⟩
        rw [es, hb, if_neg (by decide), List.append_nil, eb]
    · obtain ⟨acc, ea, eb, sm⟩ := hp
      exact q2 H' D sm hD (by rw [ea, eb])
end
end Du

namespace Du
open PySem PySem.Spec PyProof.Rows L2
open Sw82 (Call Plan Work Rules Best)
abbrev sRight : Stmt := top 41
/-- what stands for a set in the list of right duties; r: what its own list is not -/
def Slot (CD : Addr) (H : Hp) (r : Addr) (p : Plan) (g : Nat) (v : V) : Prop :=
  (right p g = true ∧ ∃ s lo : Addr, v = .ref s ∧ lo ≠ r ∧ DutyAt CD H s lo p (p.inOrder (Sw82.members p.works.length g))) ∨ (right p g = false ∧ v = .non)
def RList (CD : Addr) (H : Hp) (r : Addr) (p : Plan) : Prop := ∃ vs : List V, H r = some (.lst vs) ∧ vs.length = 2 ^ p.works.length ∧ ∀ g, g < 2 ^ p.works.length → ∃ v, vs[g]? = some v ∧ Slot CD H r p g v
theorem Slot.ext {CD : Addr} {H H' : Hp} {r : Addr} {p : Plan} {g : Nat} {v : V} (h : Slot CD H r p g v) (e : Ext H H') : Slot CD H' r p g v := by
  rcases h with ⟨h1, s, lo, h2, h3, h4⟩ | h
  · exact .inl ⟨h1, s, lo, h2, h3, h4.ext e⟩
  · exact .inr h
theorem RList.ext {CD : Addr} {H H' : Hp} {r : Addr} {p : Plan} (h : RList CD H r p) (e : Ext H H') : RList CD H' r p := by
  obtain ⟨vs, h1, h2, h3⟩ := h
  refine ⟨vs, e _ _ h1 (by intro ps z; cases z), h2, fun g hg => ?_⟩
  obtain ⟨v, h4, h5⟩ := h3 g hg
  exact ⟨v, h4, h5.ext e⟩
/-- the list at r changes: a duty that isn't it stays -/
theorem DutyAt.put {CD : Addr} {H : Hp} {s lo r : Addr} {p : Plan} {m : List Nat} {xs ys : List V} (h : DutyAt CD H s lo p m) (hr : H r = some (.lst xs)) (n : lo ≠ r) : DutyAt CD (upd H r (.lst ys)) s lo p m := by
  obtain ⟨dx, h1, ⟨h2, x, h3⟩ | ⟨h2, h3, d, h4, h5⟩⟩ := h
  · exact ⟨dx, up_a h1 n, .inl ⟨h2, x, up_a h3 (ne_of h3 hr (by intro z; cases z))⟩⟩
  · exact ⟨dx, up_a h1 n, .inr ⟨h2, h3, d, h4, up_a h5 (ne_of h5 hr (by intro z; cases z))⟩⟩
theorem Slot.put {CD : Addr} {H : Hp} {r : Addr} {p : Plan} {g : Nat} {v : V} {xs ys : List V} (h : Slot CD H r p g v) (hr : H r = some (.lst xs)) : Slot CD (upd H r (.lst ys)) r p g v := by
  rcases h with ⟨h1, s, lo, h2, h3, h4⟩ | h
  · exact .inl ⟨h1, s, lo, h2, h3, h4.put hr h3⟩
  · exact .inr h
/-- its wrong, whatever it is -/
theorem DutyAt.wrong {CD : Addr} {H : Hp} {s lo : Addr} {p : Plan} {m : List Nat} (h : DutyAt CD H s lo p m) : ∃ dx fs, H s = some (.ins CD dx fs) ∧ fs.lookup ("wrong" : Str) = some (vN (p.wrong (m.map p.work))) := by
  obtain ⟨dx, h1, ⟨h2, x, h3⟩ | ⟨h2, h3, d, h4, h5⟩⟩ := h
  · exact ⟨dx, _, h3, nF_wrong _ _ _⟩
  · exact ⟨dx, _, h5, wF_wrong _ _ _ _ _ _ _ _⟩
theorem Ext.trans {H H1 H2 : Hp} (a : Ext H H1) (b : Ext H1 H2) : Ext H H2 := LamX.ExtN.trans a b
theorem Ext.refl (H : Hp) : Ext H H := LamX.ExtN.refl H
theorem NewT.of_none {H : Hp} {r : Addr} (h : H r = none) : NewT H r := fun o e => by
  rw [h] at e
  cases e
theorem NewT.ne {H : Hp} {b r : Addr} {o : HO} (h : NewT H r) (e : H b = some o) (n : ∀ ps, o ≠ .tbl ps) : b ≠ r := fun z => by
  rw [z] at e
  obtain ⟨ps, hp⟩ := h o e
  exact n ps hp
theorem NewT.back {H H' : Hp} {r : Addr} (e : Ext H H') (h : NewT H' r) : NewT H r := fun o ho => by
  apply Classical.byContradiction
  intro hn
  obtain ⟨ps, hp⟩ := h o (e _ _ ho fun ps z => hn ⟨ps, z⟩)
  exact hn ⟨ps, hp⟩
theorem TabH.putL {Tb r : Addr} {H : Hp} {xs ys : List V} (t : TabH Tb H) (hr : H r = some (.lst xs)) : TabH Tb (upd H r (.lst ys)) := fun q hq => by
  obtain ⟨ps, h1, h2, h3⟩ := t q hq
  refine ⟨ps, up_a h1 (ne_of h1 hr (by intro z; cases z)), h2, fun pos cv hc => ?_⟩
  obtain ⟨c, e1, e2⟩ := h3 pos cv hc
  exact ⟨c, e1, up_a e2 (ne_of e2 hr (by intro z; cases z))⟩
def spRight (C CD Tb : Addr) : Sp := fun vs H Q _ => ∃ (a : Addr) (D : Own) (p : Plan), vs = [.ref a] ∧ Dep C H a D p ∧ Wf p ∧ TabH Tb H ∧ ∀ (H' : Hp) (r : Addr), Ext H H' → TabH Tb H' → H r = none → RList CD H' r p → Q (.ref r) H'
theorem shl_nat (n : Nat) : (1 : Int) * 2 ^ (((n : Nat) : Int)).toNat = ((2 ^ n : Nat) : Int) := by
  rw [Int.toNat_natCast, Int.one_mul, Int.natCast_pow] <;> rfl
theorem right_pos {p : Plan} {g : Nat} (h : g ≠ 0) : right p g = decide (p.wrong (p.works_ g) = 0) := by
  unfold right
  simp [h]
section
variable {P : Program} {w : World} {K : PySem.W.Frag} {mg : Str → Option Value} {base : Heap} {C CD : Addr}
theorem scRight : FnScope ["depot", "found", "members", "duty"] ["depot"] (defScope sRight) := ⟨rfl, rfl, rfl, by decide +kernel, rfl, by decide +kernel, by decide +kernel⟩
theorem ok_right {f fD fN Tb : Addr} {fd fdD fdN : FuncData} (F : Fun K "right_duties" "right_duties" sRight f fd) (T : Txt K mg C) (TD : TxD K mg CD) (U : Txk mg)
    (MD : Mk K CD fD) (GD : FnOk P w K mg base CX0 4 fD fdD ["self", "depot", "chosen"] (spDuty C CD Tb)) (bD : Binds K fdD ["self", "depot", "chosen"] [])
    (GN : FnOk P w K mg base CX0 1 fN fdN ["members"] spNum) (gN : mg "numbers_in" = some (.ref fN)) (kN : PySem.W.keepIn K (.ref fN) = true) (bN : Binds K fdN ["members"] []) :
    FnOk P w K mg base CX0 6 f fd ["depot"] (spRight C CD Tb) := by
  obtain ⟨t0, g0⟩ := U.g "RIGHT" 0 (by decide +kernel)
  refine F.ok scRight (fun vs H Q E h => ?_) (fun cdv A outer s H vs Q E hr h => ⟨_, pss_cons (ps_set (i := 1) scRight.nd rfl (Or.inl rfl) (pe_lst (pa_cons pe_non pa_nil)))
    (pss_cons (ps_for PassesOwn.never rfl (pi_range2 (by rfl) U.range (pa_cons pe_int (pa_cons (pe_op op_shl pe_int (pe_callB call_len_seq (by rfl) U.len PySem.boot_len (pa_cons (pe_fld (pv 0) rfl) pa_nil))) pa_nil))) (pg_name (i := 2) scRight.nd rfl (Or.inl rfl))
      (pss_cons (ps_set (i := 3) scRight.nd rfl (Or.inl rfl) (pe_make MD GD hr rfl TD.gC bD .nil pass0 (pa_cons (pv 0) (pa_cons (pe_call GN (hr.mono (by decide)) rfl gN kN bN .nil pass0 (pa_cons (pv 2) pa_nil)) pa_nil))))
      (pss_one (ps_expr (pe_bm PySem.F.plainAttrs_list PySem.F.slot_list_append PySem.F.type_list_append mt_append (pv 1) (pa_cons (pe_ifExp (pt_cmpR op_eq (pe_fld (pv 3) rfl) (pe_glob (v := .int 0) rfl g0 ⟨_, rfl⟩) (nomark _)) (pv 3) pe_non) pa_nil))))))
    (pss_one (ps_ret (pv 1)))), ?_⟩)
  · obtain ⟨a, D, p, rfl, _⟩ := h
    rfl
  · obtain ⟨a, D, p, rfl, d, W, hT, q⟩ := h
    have h7 := W.worksLen
    refine ⟨by show 1 ≤ sizeLine; decide, fun r hr0 => ?_⟩
    have d0 := d.same (same_new (o := .lst [V.non]) hr0)
    obtain ⟨us, p1, p2⟩ := d0.p
    have lus : (us.map V.ref).length = p.works.length := by rw [List.length_map, p2.len, List.length_map]
    have hpow : 2 ^ p.works.length ≤ 128 := (Nat.pow_le_pow_right (by omega) h7 : 2 ^ p.works.length ≤ 2 ^ 7)
    have hpos : 1 ≤ 2 ^ p.works.length := Nat.one_le_two_pow
    refine ⟨_, rfl, a, C, D.dx, _, _, rfl, d0.ins, T.cl, T.nP, dF_pieces D, D.lp, _, rfl, .inl (.of p1), (1 : Int), ((p.works.length : Nat) : Int), rfl, by rw [lus], ⟨by omega, by omega, by decide⟩, ?_⟩
    refine ⟨(1 : Int), ((2 ^ p.works.length : Nat) : Int), ?_, ⟨by decide, by decide, by omega, by omega⟩, ?_⟩
    · show [V.int 1, V.int ((1 : Int) * 2 ^ (((p.works.length : Nat) : Int)).toNat)] = _
      rw [shl_nat]
    have hn : (((2 ^ p.works.length : Nat) : Int) - 1).toNat = 2 ^ p.works.length - 1 := by omega
    rw [hn]
    refine for_range (lo := 1) (n := 2 ^ p.works.length - 1) (fun i σ H' => Ext H H' ∧ TabH Tb H' ∧ ∃ (vs : List V) (v2 v3 : Option V), σ = [some (.ref a), some (.ref r), v2, v3] ∧ H' r = some (.lst vs) ∧ vs.length = i + 1 ∧ ∀ g, g < i + 1 → ∃ v, vs[g]? = some v ∧ Slot CD H' r p g v)
      ⟨Same.ext (same_new hr0), hT.ext (same_new hr0), [.non], none, none, rfl, upd_same, rfl, fun g hg => ?_⟩ (fun i σ H' hi hp => ?_) fun σ H' hp => ?_
    · have e : g = 0 := by omega
      subst e
      exact ⟨.non, rfl, .inr ⟨by unfold right; simp, rfl⟩⟩
    · obtain ⟨ex, hT', vs, v2, v3, rfl, hv, hl, hs⟩ := hp
      have ez : (1 : Int) + (i : Int) = ((1 + i : Nat) : Int) := by omega
      rw [ez]
      have hg : 1 + i < 2 ^ p.works.length := by omega
      have d1 := d.ext ex
      refine ⟨_, rfl, _, rfl, p.works.length, 1 + i, rfl, h7, hg, fun H1 ln s1 hln e1 => ?_⟩
      intro x dx hx hdx hne
      have s2 : Same H1 (upd (upd H1 dx (.own x)) x (.ins CD dx [])) := (same_new hdx).trans (same_new (by rw [upd_ne hne.symm]; exact hx))
      have x2 : upd (upd H1 dx (.own x)) x (.ins CD dx []) x = some (.ins CD dx []) := upd_same
      generalize eH2 : upd (upd H1 dx (.own x)) x (.ins CD dx []) = H2 at s2 x2
      have mem := fun n => members_mem (n := p.works.length) (s := 1 + i) (i := n)
      refine ⟨x, dx, a, ln, D, p, Sw82.members p.works.length (1 + i), rfl, x2, (d1.same s1).same s2, W, s2 _ _ e1, members_nodup _ _, members_ne (by omega) hg, fun n hn => ((mem n).mp hn).1, (hT'.ext s1).ext s2, fun H3 lo k3 T3 nlo du => ⟨rfl, ?_⟩⟩
      -- the new duty
      have k13 : Ext H' H3 := fun b o hb hn => by
        have h1 := s1 _ _ hb
        have h2 := s2 _ _ h1
        exact k3 _ _ h2 hn (ne_of_none h1 hx)
      have r3 : H3 r = some (.lst vs) := k13 _ _ hv (by intro ps z; cases z)
      have r2 : H2 r = some (.lst vs) := s2 _ _ (s1 _ _ hv)
      have lo_r : lo ≠ r := (nlo.ne r2 (by intro ps z; cases z)).symm
      have ex3 : Ext H H3 := ex.trans k13
      obtain ⟨dx3, fs3, x3, w3⟩ := du.wrong
      have hright := right_pos (p := p) (g := 1 + i) (by omega)
      have ewk : p.works_ (1 + i) = (p.inOrder (Sw82.members p.works.length (1 + i))).map p.work := rfl
      rw [← ewk] at w3
      have keepS : ∀ g, g < i + 1 → ∀ v, Slot CD H' r p g v → ∀ ys, Slot CD (upd H3 r (.lst ys)) r p g v := fun g _ v hv ys => (hv.ext k13).put r3
      have fin : ∀ v : V, Slot CD H3 r p (1 + i) v → Ext H (upd H3 r (.lst (vs ++ [v]))) ∧ TabH Tb (upd H3 r (.lst (vs ++ [v]))) ∧ ∃ (vs' : List V) (v2 v3 : Option V), ([some (.ref a), some (.ref r), some (vN (1 + i)), some (.ref x)] : L2.St) = [some (.ref a), some (.ref r), v2, v3] ∧ upd H3 r (.lst (vs ++ [v])) r = some (.lst vs') ∧ vs'.length = i + 1 + 1 ∧ ∀ g, g < i + 1 + 1 → ∃ v', vs'[g]? = some v' ∧ Slot CD (upd H3 r (.lst (vs ++ [v]))) r p g v' := fun v hS => by
        refine ⟨fun b o hb hn => up_a (ex3 _ _ hb hn) (ne_of_none hb hr0), T3.putL r3, vs ++ [v], some (vN (1 + i)), some (.ref x), rfl, upd_same, ?_, fun g hg => ?_⟩
        · rw [List.length_append, hl] <;> rfl
        · by_cases hgi : g < i + 1
          · obtain ⟨v', h1, h2⟩ := hs g hgi
            exact ⟨v', by rw [List.getElem?_append_left (by omega)]; exact h1, keepS g hgi v' h2 _⟩
          · have e : g = 1 + i := by omega
            subst e
            refine ⟨v, ?_, hS.put r3⟩
            rw [List.getElem?_append_right (by omega), hl]
            have e0 : 1 + i - (i + 1) = 0 := by omega
            rw [e0] <;> rfl
      refine ⟨_, rfl, .inl ⟨rfl, _, .inl (.inl r3)⟩, ?_⟩
      refine ⟨_, rfl, x, CD, dx3, fs3, _, rfl, x3, TD.cl, TD.nW, w3, rfl, _, rfl, ?_⟩
      by_cases hw : p.wrong (p.works_ (1 + i)) = 0
      · refine ifT ((eq_nat _ 0).trans (decide_eq_true hw)) ?_
        refine ⟨_, rfl, r, _, _, rfl, rfl, r3, small1000 (by omega), ?_⟩
        exact fin _ (.inl ⟨hright.trans (decide_eq_true hw), x, lo, rfl, lo_r, du⟩)
      · refine ifF ((eq_nat _ 0).trans (decide_eq_false hw)) ?_
        refine ⟨r, _, _, rfl, rfl, r3, small1000 (by omega), ?_⟩
        exact fin _ (.inr ⟨hright.trans (decide_eq_false hw), rfl⟩)
    · obtain ⟨ex, hT', vs, v2, v3, rfl, hv, hl, hs⟩ := hp
      refine ⟨_, rfl, q H' r ex hT' hr0 ⟨vs, hv, by omega, fun g hg => ?_⟩⟩
      exact hs g (by omega)
end
end Du

/-! # plan.py: the mathematics of its loop -/
namespace Du
open PySem PySem.Spec PyProof.Rows L2
open Sw82 (Call Plan Work Rules Best)
theorem cand_skip {p : Plan} {m g : Nat} (hg : g < 2 ^ p.works.length) (h : g.testBit (lowest p.works.length m) = false ∨ g &&& m ≠ g) : cand p m g = none := by
  unfold cand
  rw [if_pos]
  rcases h with h | h
  · rw [h, Bool.false_and]
  · cases z : Sw82.inside p.works.length g m with
    | false => rw [Bool.and_false]
    | true => exact (h ((and_inside hg).mpr z)).elim
theorem cand_take {p : Plan} {m g : Nat} (hg : g < 2 ^ p.works.length) (h1 : g.testBit (lowest p.works.length m) = true) (h2 : g &&& m = g) : cand p m g = if right p g = true then (bestOf p (m - g)).map fun b => ⟨p.pay (p.works_ g) + b.cost, b.many, g :: b.duties⟩ else none := by
  unfold cand
  rw [if_neg, pay1_right]
  · cases right p g <;> rfl
  · rw [h1, (and_inside hg).mp h2]
    decide
/-- there are no more duties than the set has pieces -/
theorem best_len (p : Plan) : ∀ m, m < 2 ^ p.works.length → ∀ b, bestOf p m = some b → b.duties.length ≤ m := by
  intro m
  induction m using Nat.strongRecOn with
  | _ m ih =>
    intro h b e
    by_cases h0 : m = 0
    · subst h0
      rw [bestOf_zero] at e
      cases e
      exact Nat.le_refl _
    · have key : ∀ k, k ≤ m + 1 → ∀ b, upTo p m k = some b → b.duties.length ≤ m := by
        intro k
        induction k with
        | zero => intro _ b e; cases e
        | succ k ihk =>
          intro hk b e
          rw [upTo_succ] at e
          have candOk : ∀ b, cand p m k = some b → b.duties.length ≤ m := by
            intro b e
            unfold cand at e
            split at e
            · cases e
            · cases e1 : pay1 p k with
              | none => rw [e1] at e; cases e
              | some v =>
                cases e2 : bestOf p (m - k) with
                | none => rw [e1, e2] at e; cases e
                | some b2 =>
                  rw [e1, e2] at e
                  cases e
                  have hk0 : k ≠ 0 := by
                    intro z
                    subst z
                    unfold pay1 at e1
                    simp at e1
                  have := ih (m - k) (Nat.sub_lt (Nat.pos_of_ne_zero h0) (Nat.pos_of_ne_zero hk0)) (Nat.lt_of_le_of_lt (Nat.sub_le _ _) h) b2 e2
                  show b2.duties.length + 1 ≤ m
                  have : 1 ≤ k := Nat.pos_of_ne_zero hk0
                  omega
          cases e1 : upTo p m k with
          | none =>
            rw [e1, none_cheaper] at e
            exact candOk b e
          | some x =>
            cases e2 : cand p m k with
            | none =>
              rw [e1, e2, cheaper_none] at e
              cases e
              exact ihk (by omega) _ e1
            | some y =>
              rw [e1, e2, cheaper_some] at e
              split at e
              · cases e
                exact candOk _ e2
              · split at e
                · cases e
                  exact ihk (by omega) _ e1
                · cases e
                  exact ihk (by omega) x e1
      exact key (m + 1) (Nat.le_refl _) b (by rw [upTo_all p h0 h]; exact e)
/-- the lowest bit by the program's mask -/
theorem low_is : ∀ n : Nat, n < 8 → ∀ m : Nat, m < 2 ^ n → m ≠ 0 → Builtin.bitAnd (m : Int) (-(m : Int)) = ((2 ^ lowest n m : Nat) : Int) := by decide +kernel
theorem and_low_is (g i : Nat) : decide (V.int (Builtin.bitAnd (g : Int) ((2 ^ i : Nat) : Int)) = V.int 0) = !g.testBit i := by
  rw [PySem.W.os_band]
  refine (eq_nat _ 0).trans ?_
  cases h : g.testBit i with
  | false => exact decide_eq_true (and_low.mpr h)
  | true =>
    refine decide_eq_false fun z => ?_
    rw [and_low.mp z] at h
    cases h
theorem and_in_is (g m : Nat) : decide (V.int (Builtin.bitAnd (g : Int) (m : Int)) = V.int (g : Int)) = decide (g &&& m = g) := by
  rw [PySem.W.os_band]
  exact eq_nat _ _
end Du

namespace Du
open PySem PySem.Spec PyProof.Rows L2
open Sw82 (Call Plan Work Rules Best)
abbrev sPInit : Stmt := inClass (top 42) 0
abbrev sPlanFor : Stmt := top 43
structure TxP (K : PySem.W.Frag) (mg : Str → Option Value) (CP : Addr) : Prop where
  cl : Cls K CP
  nP : NoAttr K CP "pay"
  nA : NoAttr K CP "alike"
  nD : NoAttr K CP "duties"
  gC : mg "Plan" = some (.ref CP)
def pF (v1 v2 v3 : V) : List (Str × V) := [("pay", v1), ("alike", v2), ("duties", v3)]
section
variable (v1 v2 v3 : V)
theorem pF_pay : (pF v1 v2 v3).lookup ("pay" : Str) = some v1 := lk_here
theorem pF_alike : (pF v1 v2 v3).lookup ("alike" : Str) = some v2 := (lk_past (by decide +kernel)).trans lk_here
theorem pF_duties : (pF v1 v2 v3).lookup ("duties" : Str) = some v3 := (lk_past (by decide +kernel)).trans ((lk_past (by decide +kernel)).trans lk_here)
theorem pF1 : putF "pay" v1 [] = [(("pay" : Str), v1)] := putF_new (ks := []) rfl rfl
theorem pF2 : putF "alike" v2 [(("pay" : Str), v1)] = [(("pay" : Str), v1), ("alike", v2)] := putF_new (ks := ["pay"]) rfl (by decide +kernel)
theorem pF3 : putF "duties" v3 [(("pay" : Str), v1), ("alike", v2)] = pF v1 v2 v3 := putF_new (ks := ["pay", "alike"]) rfl (by decide +kernel)
theorem pF_put (x : V) : putF "alike" x (pF v1 v2 v3) = pF v1 x v3 := (put_past (by decide +kernel)).trans (congrArg (List.cons _) put_here)
end
/-- the duties of a way, in the sets' order -/
def Duties (CD : Addr) (H : Hp) (p : Plan) : List Addr → List Nat → Prop
  | [], [] => True
  | s :: ss, g :: gs => (right p g = true ∧ ∃ lo, DutyAt CD H s lo p (p.inOrder (Sw82.members p.works.length g))) ∧ Duties CD H p ss gs
  | _, _ => False
theorem Duties.ext {CD : Addr} {H H' : Hp} {p : Plan} (e : Ext H H') : ∀ {ss : List Addr} {gs : List Nat}, Duties CD H p ss gs → Duties CD H' p ss gs
  | [], [], _ => trivial
  | _ :: _, _ :: _, ⟨⟨h1, lo, h2⟩, h3⟩ => ⟨⟨h1, lo, h2.ext e⟩, Duties.ext e h3⟩
  | [], _ :: _, h => h.elim
  | _ :: _, [], h => h.elim
theorem Duties.len {CD : Addr} {H : Hp} {p : Plan} : ∀ {ss : List Addr} {gs : List Nat}, Duties CD H p ss gs → ss.length = gs.length
  | [], [], _ => rfl
  | _ :: _, _ :: _, h => congrArg (· + 1) (Duties.len h.2)
  | [], _ :: _, h => h.elim
  | _ :: _, [], h => h.elim
/-- a plan for a set; its duties are told of the heap Hb -/
def PlanAt (CD CP : Addr) (Hb H : Hp) (s ld : Addr) (p : Plan) (b : Best) : Prop := ∃ (dx : Addr) (ds : List Addr), H s = some (.ins CP dx (pF (vN b.cost) (vN b.many) (.ref ld))) ∧ H ld = some (.lst (ds.map V.ref)) ∧ Duties CD Hb p ds b.duties
/-- what stands for what is best -/
def PVal (CD CP : Addr) (Hb H : Hp) (N : Addr → Prop) (p : Plan) (ob : Option Best) (v : V) : Prop := match ob with
  | none => v = .non
  | some b => ∃ s ld, v = .ref s ∧ N ld ∧ PlanAt CD CP Hb H s ld p b
theorem PVal.same {CD CP : Addr} {Hb H H' : Hp} {N N' : Addr → Prop} {p : Plan} {ob : Option Best} {v : V} (h : PVal CD CP Hb H N p ob v) (e : Same H H') (n : ∀ a, N a → N' a) : PVal CD CP Hb H' N' p ob v := by
  cases ob with
  | none => exact h
  | some b =>
    obtain ⟨s, ld, h1, h2, dx, ds, h3, h4, h5⟩ := h
    exact ⟨s, ld, h1, n _ h2, dx, ds, e _ _ h3, e _ _ h4, h5⟩
def PList2 (CD CP : Addr) (Hb H : Hp) (lp : Addr) (p : Plan) (k : Nat) : Prop := ∃ vs : List V, H lp = some (.lst vs) ∧ vs.length = k ∧ ∀ m, m < k → ∃ v, vs[m]? = some v ∧ PVal CD CP Hb H (fun a => a ≠ lp) p (bestOf p m) v
def spPInit (CP : Addr) : Sp := fun vs H Q _ => ∃ (s dx : Addr) (v1 v2 v3 : V), vs = [.ref s, v1, v2, v3] ∧ H s = some (.ins CP dx []) ∧ ∀ H' : Hp, But s H H' → H' s = some (.ins CP dx (pF v1 v2 v3)) → Q .non H'
section
variable {P : Program} {w : World} {K : PySem.W.Frag} {mg : Str → Option Value} {base : Heap} {C CD CP : Addr}
theorem scPInit : FnScope ["self", "pay", "alike", "duties"] ["self", "pay", "alike", "duties"] (defScope sPInit) := ⟨rfl, rfl, rfl, by decide +kernel, rfl, by decide +kernel, by decide +kernel⟩
theorem ok_pinit {f : Addr} {fd : FuncData} (F : Fun K "__init__" "Plan.__init__" sPInit f fd) (TP : TxP K mg CP) : FnOk P w K mg base CX0 1 f fd ["self", "pay", "alike", "duties"] (spPInit CP) := by
  refine F.ok scPInit (fun vs H Q E h => ?_) (fun cdv A outer s H vs Q E hr h => ⟨_, pss_cons (ps_fld (pv 0) (pv 1) rfl) (pss_cons (ps_fld (pv 0) (pv 2) rfl) (pss_one (ps_fld (pv 0) (pv 3) rfl))), ?_⟩)
  · obtain ⟨s, dx, v1, v2, v3, rfl, _⟩ := h
    rfl
  · obtain ⟨s, dx, v1, v2, v3, rfl, hs, q⟩ := h
    refine ⟨_, rfl, _, rfl, s, CP, dx, _, rfl, hs, TP.cl, TP.nP, by show (0 : Nat) < 1000; decide, ?_⟩
    rw [pF1]
    refine ⟨_, rfl, _, rfl, s, CP, dx, _, rfl, upd_same, TP.cl, TP.nA, by show (1 : Nat) < 1000; decide, ?_⟩
    rw [pF2]
    refine ⟨_, rfl, _, rfl, s, CP, dx, _, rfl, upd_same, TP.cl, TP.nD, by show (2 : Nat) < 1000; decide, ?_⟩
    rw [pF3]
    exact q _ ((((But.refl s H).put _).put _).put _) upd_same
def spPlanFor (CD CP : Addr) : Sp := fun vs H Q _ => ∃ (Hb : Hp) (m : Nat) (p : Plan) (lr lp : Addr), vs = [vN m, .ref lr, .ref lp] ∧ Same Hb H ∧ RList CD Hb lr p ∧ PList2 CD CP Hb H lp p m ∧ m ≠ 0 ∧ m < 2 ^ p.works.length ∧ p.works.length ≤ 7 ∧ ∀ (H' : Hp) (v : V), Same H H' → PVal CD CP Hb H' (fun a => H a = none) p (bestOf p m) v → Q v H'
theorem scPlanFor : FnScope ["left", "right", "plans", "lowest", "found", "members", "behind", "pay"] ["left", "right", "plans"] (defScope sPlanFor) := ⟨rfl, rfl, rfl, by decide +kernel, rfl, by decide +kernel, by decide +kernel⟩
/-- found, while the loop runs: an object of its own -/
def Fnd (CD CP : Addr) (Hb H H' : Hp) (p : Plan) (ob : Option Best) (v : V) : Prop := match ob with
  | none => v = .non
  | some b => ∃ (s dx ld : Addr) (ds : List Addr), v = .ref s ∧ H s = none ∧ H' s = some (.ins CP dx (pF (vN b.cost) (vN b.many) (.ref ld))) ∧ (H' ld = some (.lst (ds.map V.ref)) ∧ H ld = none) ∧ Duties CD Hb p ds b.duties ∧ b.duties.length ≤ 127
theorem ok_planfor {f fP : Addr} {fd fdP : FuncData} (F : Fun K "plan_for" "plan_for" sPlanFor f fd) (TD : TxD K mg CD) (TP : TxP K mg CP) (U : Txk mg)
    (MP : Mk K CP fP) (GP : FnOk P w K mg base CX0 1 fP fdP ["self", "pay", "alike", "duties"] (spPInit CP)) (bP : Binds K fdP ["self", "pay", "alike", "duties"] []) :
    FnOk P w K mg base CX0 3 f fd ["left", "right", "plans"] (spPlanFor CD CP) := by
  refine F.ok scPlanFor (fun vs H Q E h => ?_) (fun cdv A outer s H vs Q E hr h => ⟨_, pss_cons (ps_set (i := 3) scPlanFor.nd rfl (Or.inl rfl) (pe_op op_and (pv 0) (pe_un un_neg (pv 0))))
    (pss_cons (ps_set (i := 4) scPlanFor.nd rfl (Or.inl rfl) pe_non)
    (pss_cons (ps_for PassesOwn.never rfl (pi_range2 (by rfl) U.range (pa_cons (pv 3) (pa_cons (pe_op op_add (pv 0) pe_int) pa_nil))) (pg_name (i := 5) scPlanFor.nd rfl (Or.inl rfl))
      (pss_cons (ps_if (PW.pt (pw_or (pt_cmpR op_eq (pe_op op_and (pv 5) (pv 3)) pe_int (nomark _)) (pw_or1 (pt_cmpR op_ne (pe_op op_and (pv 5) (pv 0)) (pv 5) (nomark _))))) (pss_one ps_continue) pss_nil)
      (pss_cons (ps_set (i := 6) scPlanFor.nd rfl (Or.inl rfl) (pe_ix ix_list (pv 2) (pe_op op_sub (pv 0) (pv 5)) (fun _ _ => rfl)))
      (pss_cons (ps_if (PW.pt (pw_or (pt_cmpR op_isN (pe_ix ix_list (pv 1) (pv 5) (fun _ _ => rfl)) pe_non (nomark _)) (pw_or1 (pt_cmpR op_isN (pv 6) pe_non (nomark _))))) (pss_one ps_continue) pss_nil)
      (pss_cons (ps_set (i := 7) scPlanFor.nd rfl (Or.inl rfl) (pe_op op_add (pe_fld (pe_ix ix_list (pv 1) (pv 5) (fun _ _ => rfl)) rfl) (pe_fld (pv 6) rfl)))
      (pss_one (ps_if (PW.pt (pw_or (pt_cmpR op_isN (pv 4) pe_non (nomark _)) (pw_or1 (pt_cmpR op_lt (pv 7) (pe_fld (pv 4) rfl) (nomark _)))))
        (pss_one (ps_set (i := 4) scPlanFor.nd rfl (Or.inl rfl) (pe_make MP GP hr rfl TP.gC bP .nil pass0 (pa_cons (pv 7) (pa_cons (pe_fld (pv 6) rfl) (pa_cons (pe_op op_cat (pe_lst (pa_cons (pe_ix ix_list (pv 1) (pv 5) (fun _ _ => rfl)) pa_nil)) (pe_fld (pv 6) rfl)) pa_nil))))))
        (pss_one (ps_if (pt_cmpR op_eq (pv 7) (pe_fld (pv 4) rfl) (nomark _)) (pss_one (ps_fld (pv 4) (pe_op op_add (pe_fld (pv 4) rfl) (pe_fld (pv 6) rfl)) rfl)) pss_nil)))))))))
    (pss_one (ps_ret (pv 4))))), ?_⟩)
  · obtain ⟨Hb, m, p, lr, lp, rfl, _⟩ := h
    rfl
  · obtain ⟨Hb, m, p, lr, lp, rfl, sb, hR, hP, h0, hm, h7, q⟩ := h
    have hm7 := lt128 h7 hm
    have elow := low_is p.works.length (by omega) m hm h0
    have hlow := low_le h0 hm
    have hpL : 1 ≤ 2 ^ lowest p.works.length m := Nat.one_le_two_pow
    have up0 := upTo_low p m _ (Nat.le_refl (2 ^ lowest p.works.length m))
    have low_and := fun g : Nat => and_low_is g (lowest p.works.length m)
    rw [← elow] at low_and
    generalize 2 ^ lowest p.works.length m = L at elow hlow hpL up0
    refine ⟨_, rfl, _, rfl, (m : Int), rfl, _, _, rfl, rfl, ?_⟩
    refine ⟨_, rfl, _, rfl, _, _, rfl, rfl, ((L : Nat) : Int), ((m + 1 : Nat) : Int), ?_, ⟨by omega, by omega, by omega, by omega⟩, ?_⟩
    · show [V.int (Builtin.bitAnd (m : Int) (-(m : Int))), V.int ((m : Int) + 1)] = _
      rw [elow] <;> rfl
    have hn : (((m + 1 : Nat) : Int) - ((L : Nat) : Int)).toNat = m + 1 - L := by omega
    rw [hn]
    refine for_range (lo := ((L : Nat) : Int)) (n := m + 1 - L) (fun i σ H' => Same H H' ∧ ∃ (v4 : V) (v5 v6 v7 : Option V), σ = [some (vN m), some (.ref lr), some (.ref lp), some (.int (Builtin.bitAnd (m : Int) (-(m : Int)))), some v4, v5, v6, v7] ∧ Fnd CD CP Hb H H' p (upTo p m (L + i)) v4)
      ⟨Same.refl H, .non, none, none, none, rfl, ?_⟩ (fun i σ H' hi hp => ?_) fun σ H' hp => ?_
    · rw [Nat.add_zero, up0]
      exact rfl
    · obtain ⟨sm, v4, v5, v6, v7, rfl, hf⟩ := hp
      have ez : ((L : Nat) : Int) + (i : Int) = ((L + i : Nat) : Int) := by omega
      rw [ez]
      have hgm : L + i ≤ m := by omega
      have hgp : 1 ≤ L + i := Nat.le_trans hpL (Nat.le_add_right _ _)
      have esu : L + (i + 1) = (L + i) + 1 := by omega
      rw [esu, upTo_succ]
      generalize L + i = g at *
      have hg2 : g < 2 ^ p.works.length := by omega
      have skip : cand p m g = none → ∀ w5 w6 w7 : Option V, Same H H' ∧ ∃ (v4' : V) (v5 v6 v7 : Option V), ([some (vN m), some (.ref lr), some (.ref lp), some (.int (Builtin.bitAnd (m : Int) (-(m : Int)))), some v4, w5, w6, w7] : L2.St) = [some (vN m), some (.ref lr), some (.ref lp), some (.int (Builtin.bitAnd (m : Int) (-(m : Int)))), some v4', v5, v6, v7] ∧ Fnd CD CP Hb H H' p (Sw82.cheaper (upTo p m g) (cand p m g)) v4' := fun hc w5 w6 w7 => by
        rw [hc, cheaper_none]
        exact ⟨sm, v4, w5, w6, w7, rfl, hf⟩
      refine ⟨_, rfl, _, rfl, _, _, rfl, rfl, rfl, _, rfl, ?_⟩
      cases hb : g.testBit (lowest p.works.length m) with
      | false =>
        refine ifT ?_ ?_
        · show decide (V.int (Builtin.bitAnd (g : Int) (Builtin.bitAnd (m : Int) (-(m : Int)))) = V.int 0) = true
          rw [low_and, hb] <;> rfl
        exact ifT rfl (skip (cand_skip hg2 (.inl hb)) _ _ _)
      | true =>
        refine ifF ?_ ?_
        · show decide (V.int (Builtin.bitAnd (g : Int) (Builtin.bitAnd (m : Int) (-(m : Int)))) = V.int 0) = false
          rw [low_and, hb] <;> rfl
        refine ⟨_, rfl, _, rfl, _, _, rfl, rfl, _, rfl, rfl, _, rfl, ?_⟩
        by_cases hin : g &&& m = g
        · refine ifF ?_ ?_
          · show (!decide (V.int (Builtin.bitAnd (g : Int) (m : Int)) = V.int (g : Int))) = false
            rw [and_in_is, decide_eq_true hin] <;> rfl
          have hct := cand_take hg2 hb hin
          have smb : Same Hb H' := sb.trans sm
          obtain ⟨vsP, hPv, _, atP⟩ := hP
          obtain ⟨vb, hvb, pvb⟩ := atP (m - g) (by omega)
          obtain ⟨vsR, hRv, _, atR⟩ := hR
          obtain ⟨vr, hvr, hsl⟩ := atR g hg2
          refine ⟨_, rfl, _, rfl, _, rfl, _, _, rfl, rfl, lp, vsP, _, vb, rfl, rfl, .of (sm _ _ hPv), ?_, ?_⟩
          · have ex : ((m : Int) - (g : Int)) = ((m - g : Nat) : Int) := by omega
            show atI vsP ((m : Int) - (g : Int)) = some vb
            rw [ex]
            exact atI_nat hvb
          refine ⟨_, rfl, _, rfl, lr, vsR, _, vr, rfl, rfl, .of (smb _ _ hRv), atI_nat hvr, rfl, _, rfl, ?_⟩
          rcases hsl with ⟨hrt, sr, lo, rfl, _, dur⟩ | ⟨hrt, rfl⟩
          · refine ifF (decide_eq_false (by intro z; cases z)) ?_
            rw [hrt, if_pos rfl] at hct
            refine ⟨_, rfl, rfl, _, rfl, ?_⟩
            cases hb2 : bestOf p (m - g) with
            | none =>
              rw [hb2] at pvb hct
              cases (show vb = .non from pvb)
              exact ifT (decide_eq_true rfl) (skip hct _ _ _)
            | some b2 =>
              rw [hb2] at pvb hct
              obtain ⟨s2, ld2, rfl, _, dx2, ds2, y1, y2, y3⟩ := pvb
              refine ifF (decide_eq_false (by intro z; cases z)) ?_
              have hlen := best_len p (m - g) (by omega) b2 hb2
              have hw0 : p.wrong (p.works_ g) = 0 := by
                rw [right_pos (by omega)] at hrt
                exact of_decide_eq_true hrt
              obtain ⟨dxr, r1, ⟨r2, _⟩ | ⟨_, _, d, r4, r5⟩⟩ := dur
              · exfalso
                have : p.wrong (p.works_ g) = 1 ∨ p.wrong (p.works_ g) = 2 := r2
                omega
              have dur : DutyAt CD Hb sr lo p (p.inOrder (Sw82.members p.works.length g)) := ⟨dxr, r1, .inr ⟨by show p.wrong (p.works_ g) ≠ 1; omega, by show p.wrong (p.works_ g) ≠ 2; omega, d, r4, r5⟩⟩
              refine ⟨_, rfl, _, rfl, lr, vsR, _, .ref sr, rfl, rfl, .of (smb _ _ hRv), atI_nat hvr, sr, CD, dxr, _, _, rfl, smb _ _ r5, TD.cl, TD.nP, bF_pay _ _ _ _ _ _ _ _, _, rfl, s2, CP, dx2, _, _, rfl, sm _ _ y1, TP.cl, TP.nP, pF_pay _ _ _, _, _, rfl, rfl, ?_⟩
              have hct' : cand p m g = some ⟨p.pay (p.works_ g) + b2.cost, b2.many, g :: b2.duties⟩ := hct
              cases hup : upTo p m g with
              | none =>
                rw [hup] at hf
                cases (show v4 = .non from hf)
                refine ⟨_, rfl, rfl, _, rfl, ?_⟩
                refine ifT (decide_eq_true rfl) ?_
                refine ifT rfl ?_
                refine ⟨_, rfl, _, rfl, s2, CP, dx2, _, _, rfl, sm _ _ y1, TP.cl, TP.nA, pF_alike _ _ _, _, rfl, _, rfl, lr, vsR, _, .ref sr, rfl, rfl, .of (smb _ _ hRv), atI_nat hvr, by show 1 ≤ sizeLine; decide, fun l1 hl1 => ?_⟩
                have z1 : Same H' (upd H' l1 (.lst [V.ref sr])) := same_new hl1
                refine ⟨_, rfl, s2, CP, dx2, _, _, rfl, z1 _ _ (sm _ _ y1), TP.cl, TP.nD, pF_duties _ _ _, l1, ld2, _, _, rfl, rfl, upd_same, z1 _ _ (sm _ _ y2), ?_, fun l2 hl2 => ?_⟩
                · rw [List.length_map, y3.len]
                  show 1 + b2.duties.length ≤ sizeLine
                  exact Nat.le_trans (by omega : 1 + b2.duties.length ≤ 1000) (by decide)
                intro x dx hx hdx hne
                have z2 : Same H' (upd (upd H' l1 (.lst [V.ref sr])) l2 (.lst ([V.ref sr] ++ ds2.map V.ref))) := z1.trans (same_new hl2)
                have z3 : Same H' (upd (upd (upd (upd H' l1 (.lst [V.ref sr])) l2 (.lst ([V.ref sr] ++ ds2.map V.ref))) dx (.own x)) x (.ins CP dx [])) := z2.trans ((same_new hdx).trans (same_new (by rw [upd_ne hne.symm]; exact hx)))
                refine ⟨x, dx, _, _, _, rfl, upd_same, fun H3 k3 e3 => ⟨rfl, ?_⟩⟩
                have hx' : H' x = none := z2.free hx
                have sm3 : Same H H3 := fun b o hb => k3 _ _ (z3 _ _ (sm _ _ hb)) (ne_of_none (sm _ _ hb) hx')
                have l23 : H3 l2 = some (.lst ((sr :: ds2).map V.ref)) := by
                  refine k3 _ _ ?_ ?_
                  · exact up_n (up_n upd_same hdx) (by rw [upd_ne hne.symm]; exact hx)
                  · exact ne_of_none upd_same hx
                refine ⟨sm3, .ref x, _, _, _, rfl, ?_⟩
                rw [hct', none_cheaper]
                exact ⟨x, dx, l2, sr :: ds2, rfl, sm.free hx', e3, ⟨l23, sm.free (z1.free hl2)⟩, ⟨⟨hrt, lo, dur⟩, y3⟩, by show b2.duties.length + 1 ≤ 127; omega⟩
              | some fb =>
                rw [hup] at hf
                obtain ⟨s, dx0, ld, ds, rfl, n1, n2, ⟨n3, n6⟩, n4, n5⟩ := hf
                refine ⟨_, rfl, rfl, _, rfl, ?_⟩
                refine ifF (decide_eq_false (by intro z; cases z)) ?_
                refine ⟨_, rfl, _, rfl, s, CP, dx0, _, _, rfl, n2, TP.cl, TP.nP, pF_pay _ _ _, _, _, rfl, rfl, _, rfl, ?_⟩
                by_cases hc1 : p.pay (p.works_ g) + b2.cost < fb.cost
                · refine ifT (decide_eq_true (show ((p.pay (p.works_ g) : Nat) : Int) + (b2.cost : Int) < (fb.cost : Int) by omega)) ?_
                  refine ⟨_, rfl, _, rfl, s2, CP, dx2, _, _, rfl, sm _ _ y1, TP.cl, TP.nA, pF_alike _ _ _, _, rfl, _, rfl, lr, vsR, _, .ref sr, rfl, rfl, .of (smb _ _ hRv), atI_nat hvr, by show 1 ≤ sizeLine; decide, fun l1 hl1 => ?_⟩
                  have z1 : Same H' (upd H' l1 (.lst [V.ref sr])) := same_new hl1
                  refine ⟨_, rfl, s2, CP, dx2, _, _, rfl, z1 _ _ (sm _ _ y1), TP.cl, TP.nD, pF_duties _ _ _, l1, ld2, _, _, rfl, rfl, upd_same, z1 _ _ (sm _ _ y2), ?_, fun l2 hl2 => ?_⟩
                  · rw [List.length_map, y3.len]
                    show 1 + b2.duties.length ≤ sizeLine
                    exact Nat.le_trans (by omega : 1 + b2.duties.length ≤ 1000) (by decide)
                  intro x dx hx hdx hne
                  have z2 : Same H' (upd (upd H' l1 (.lst [V.ref sr])) l2 (.lst ([V.ref sr] ++ ds2.map V.ref))) := z1.trans (same_new hl2)
                  have z3 : Same H' (upd (upd (upd (upd H' l1 (.lst [V.ref sr])) l2 (.lst ([V.ref sr] ++ ds2.map V.ref))) dx (.own x)) x (.ins CP dx [])) := z2.trans ((same_new hdx).trans (same_new (by rw [upd_ne hne.symm]; exact hx)))
                  refine ⟨x, dx, _, _, _, rfl, upd_same, fun H3 k3 e3 => ⟨rfl, ?_⟩⟩
                  have hx' : H' x = none := z2.free hx
                  have sm3 : Same H H3 := fun b o hb => k3 _ _ (z3 _ _ (sm _ _ hb)) (ne_of_none (sm _ _ hb) hx')
                  have l23 : H3 l2 = some (.lst ((sr :: ds2).map V.ref)) := by
                    refine k3 _ _ ?_ ?_
                    · exact up_n (up_n upd_same hdx) (by rw [upd_ne hne.symm]; exact hx)
                    · exact ne_of_none upd_same hx
                  refine ⟨sm3, .ref x, _, _, _, rfl, ?_⟩
                  rw [hct', cheaper_some, if_pos hc1]
                  exact ⟨x, dx, l2, sr :: ds2, rfl, sm.free hx', e3, ⟨l23, sm.free (z1.free hl2)⟩, ⟨⟨hrt, lo, dur⟩, y3⟩, by show b2.duties.length + 1 ≤ 127; omega⟩
                · refine ifF (decide_eq_false (show ¬ ((p.pay (p.works_ g) : Nat) : Int) + (b2.cost : Int) < (fb.cost : Int) by omega)) ?_
                  refine ⟨_, rfl, _, rfl, s, CP, dx0, _, _, rfl, n2, TP.cl, TP.nP, pF_pay _ _ _, rfl, _, rfl, ?_⟩
                  by_cases hc2 : fb.cost < p.pay (p.works_ g) + b2.cost
                  · refine ifF ?_ ?_
                    · show decide (V.int (((p.pay (p.works_ g) : Nat) : Int) + (b2.cost : Int)) = V.int (fb.cost : Int)) = false
                      refine decide_eq_false fun z => ?_
                      injection z with z
                      omega
                    refine ⟨sm, .ref s, _, _, _, rfl, ?_⟩
                    rw [hct', cheaper_some, if_neg hc1, if_pos hc2]
                    exact ⟨s, dx0, ld, ds, rfl, n1, n2, ⟨n3, n6⟩, n4, n5⟩
                  · refine ifT ?_ ?_
                    · show decide (V.int (((p.pay (p.works_ g) : Nat) : Int) + (b2.cost : Int)) = V.int (fb.cost : Int)) = true
                      have ee : ((p.pay (p.works_ g) : Nat) : Int) + (b2.cost : Int) = (fb.cost : Int) := by omega
                      rw [ee]
                      exact decide_eq_true rfl
                    refine ⟨_, rfl, s, CP, dx0, _, _, rfl, n2, TP.cl, TP.nA, pF_alike _ _ _, _, rfl, s2, CP, dx2, _, _, rfl, sm _ _ y1, TP.cl, TP.nA, pF_alike _ _ _, _, _, rfl, rfl, _, rfl, s, CP, dx0, _, rfl, n2, TP.cl, TP.nA, by show (3 : Nat) < 1000; decide, ?_⟩
                    rw [pF_put]
                    refine ⟨fun b o hb => up_a (sm _ _ hb) (ne_of_none hb n1), .ref s, _, _, _, rfl, ?_⟩
                    rw [hct', cheaper_some, if_neg hc1, if_neg hc2]
                    exact ⟨s, dx0, ld, ds, rfl, n1, upd_same, ⟨up_a n3 (ne_of n3 n2 (by intro z; cases z)), n6⟩, n4, n5⟩
          · rw [hrt, if_neg (by decide)] at hct
            refine ifT (decide_eq_true rfl) ?_
            exact ifT rfl (skip hct _ _ _)
        · refine ifT ?_ (skip (cand_skip hg2 (.inr hin)) _ _ _)
          show (!decide (V.int (Builtin.bitAnd (g : Int) (m : Int)) = V.int (g : Int))) = true
          rw [and_in_is, decide_eq_false hin] <;> rfl
    · obtain ⟨sm, v4, v5, v6, v7, rfl, hf⟩ := hp
      have e9 : L + (m + 1 - L) = m + 1 := by omega
      rw [e9, upTo_all p h0 hm] at hf
      refine ⟨_, rfl, q H' v4 sm ?_⟩
      cases hb : bestOf p m with
      | none =>
        rw [hb] at hf
        exact hf
      | some b =>
        rw [hb] at hf
        obtain ⟨s, dx, ld, ds, h1, _, h3, ⟨h4, h6⟩, h5, _⟩ := hf
        exact ⟨s, ld, h1, h6, dx, ds, h3, h4, h5⟩
end
end Du

namespace Du
open PySem PySem.Spec PyProof.Rows L2
open Sw82 (Call Plan Work Rules Best)
abbrev sBestPlan : Stmt := top 44
abbrev sNever : Stmt := top 45
def spBest (C CD CP Tb : Addr) : Sp := fun vs H Q _ => ∃ (a : Addr) (D : Own) (p : Plan), vs = [.ref a] ∧ Dep C H a D p ∧ Wf p ∧ TabH Tb H ∧ ∀ (Hb H' : Hp) (v : V), Ext H Hb → Same Hb H' → TabH Tb H' → PVal CD CP Hb H' (fun _ => True) p p.best v → Q v H'
section
variable {P : Program} {w : World} {K : PySem.W.Frag} {mg : Str → Option Value} {base : Heap} {C CD CP : Addr}
theorem scBestPlan : FnScope ["depot", "right", "plans", "left"] ["depot"] (defScope sBestPlan) := ⟨rfl, rfl, rfl, by decide +kernel, rfl, by decide +kernel, by decide +kernel⟩
theorem ok_bestplan {f fR fF fP Tb : Addr} {fd fdR fdF fdP : FuncData} (F : Fun K "best_plan" "best_plan" sBestPlan f fd) (TP : TxP K mg CP) (U : Txk mg)
    (GR : FnOk P w K mg base CX0 6 fR fdR ["depot"] (spRight C CD Tb)) (gR : mg "right_duties" = some (.ref fR)) (kR : PySem.W.keepIn K (.ref fR) = true) (bR : Binds K fdR ["depot"] [])
    (GF : FnOk P w K mg base CX0 3 fF fdF ["left", "right", "plans"] (spPlanFor CD CP)) (gF : mg "plan_for" = some (.ref fF)) (kF : PySem.W.keepIn K (.ref fF) = true) (bF : Binds K fdF ["left", "right", "plans"] [])
    (MP : Mk K CP fP) (GP : FnOk P w K mg base CX0 1 fP fdP ["self", "pay", "alike", "duties"] (spPInit CP)) (bP : Binds K fdP ["self", "pay", "alike", "duties"] []) :
    FnOk P w K mg base CX0 7 f fd ["depot"] (spBest C CD CP Tb) := by
  refine F.ok scBestPlan (fun vs H Q E h => ?_) (fun cdv A outer s H vs Q E hr h => ⟨_, pss_cons (ps_set (i := 1) scBestPlan.nd rfl (Or.inl rfl) (pe_call GR hr rfl gR kR bR .nil pass0 (pa_cons (pv 0) pa_nil)))
    (pss_cons (ps_set (i := 2) scBestPlan.nd rfl (Or.inl rfl) (pe_lst (pa_cons (pe_make MP GP (hr.mono (by decide)) rfl TP.gC bP .nil pass0 (pa_cons pe_int (pa_cons pe_int (pa_cons (pe_lst pa_nil) pa_nil)))) pa_nil)))
    (pss_cons (ps_for PassesOwn.never rfl (pi_range2 (by rfl) U.range (pa_cons pe_int (pa_cons (pe_callB call_len_seq (by rfl) U.len PySem.boot_len (pa_cons (pv 1) pa_nil)) pa_nil))) (pg_name (i := 3) scBestPlan.nd rfl (Or.inl rfl))
      (pss_one (ps_expr (pe_bm PySem.F.plainAttrs_list PySem.F.slot_list_append PySem.F.type_list_append mt_append (pv 2) (pa_cons (pe_call GF (hr.mono (by decide)) rfl gF kF bF .nil pass0 (pa_cons (pv 3) (pa_cons (pv 1) (pa_cons (pv 2) pa_nil)))) pa_nil)))))
    (pss_one (ps_ret (pe_ix ix_list (pv 2) (pe_un un_neg pe_int) (fun _ _ => rfl)))))), ?_⟩)
  · obtain ⟨a, D, p, rfl, _⟩ := h
    rfl
  · obtain ⟨a, D, p, rfl, d, W, hT, q⟩ := h
    have h7 := W.worksLen
    have hpow : 2 ^ p.works.length ≤ 128 := (Nat.pow_le_pow_right (by omega) h7 : 2 ^ p.works.length ≤ 2 ^ 7)
    have hpos : 1 ≤ 2 ^ p.works.length := Nat.one_le_two_pow
    refine ⟨_, rfl, a, D, p, rfl, d, W, hT, fun H1 lr e1 T1 hlr0 hR => ?_⟩
    -- Plan(0, 1, [])
    refine ⟨by show 0 ≤ sizeLine; decide, fun l0 hl0 => ?_⟩
    intro x dx hx hdx hne
    have z1 : Same H1 (upd (upd (upd H1 l0 (.lst [])) dx (.own x)) x (.ins CP dx [])) := (same_new hl0).trans ((same_new hdx).trans (same_new (by rw [upd_ne hne.symm]; exact hx)))
    refine ⟨x, dx, _, _, _, rfl, upd_same, fun H2 k2 e2 => ⟨rfl, ?_⟩⟩
    have hx1 : H1 x = none := (same_new hl0).free hx
    have s12 : Same H1 H2 := fun b o hb => k2 _ _ (z1 _ _ hb) (ne_of_none hb hx1)
    have l02 : H2 l0 = some (.lst []) := by
      refine k2 _ _ ?_ ?_
      · exact up_n (up_n upd_same hdx) (by rw [upd_ne hne.symm]; exact hx)
      · exact ne_of_none upd_same hx
    refine ⟨by show 1 ≤ sizeLine; decide, fun lp hlp => ?_⟩
    -- H2 is the base
    have s2p : Same H2 (upd H2 lp (.lst [V.ref x])) := same_new hlp
    have hR2 : RList CD H2 lr p := hR.ext (Same.ext s12)
    obtain ⟨vsR, hRv, lenR, atR⟩ := hR2
    refine ⟨_, rfl, lr, _, rfl, .inl (.of (s2p _ _ hRv)), (1 : Int), ((2 ^ p.works.length : Nat) : Int), ?_, ⟨by decide, by decide, by omega, by omega⟩, ?_⟩
    · rw [lenR]
    have hn : (((2 ^ p.works.length : Nat) : Int) - 1).toNat = 2 ^ p.works.length - 1 := by omega
    rw [hn]
    have hR2 : RList CD H2 lr p := ⟨vsR, hRv, lenR, atR⟩
    have T2 : TabH Tb H2 := T1.ext s12
    refine for_range (lo := 1) (n := 2 ^ p.works.length - 1) (fun i σ H' => Same H2 H' ∧ ∃ v3 : Option V, σ = [some (.ref a), some (.ref lr), some (.ref lp), v3] ∧ PList2 CD CP H2 H' lp p (i + 1)) ⟨s2p, none, rfl, [V.ref x], upd_same, rfl, fun m hm => ?_⟩ (fun i σ H' hi hp => ?_) fun σ H' hp => ?_
    · have e : m = 0 := by omega
      subst e
      refine ⟨.ref x, rfl, ?_⟩
      rw [bestOf_zero]
      exact ⟨x, l0, rfl, (ne_of_none l02 hlp), dx, [], s2p _ _ e2, s2p _ _ l02, trivial⟩
    · obtain ⟨sm, v3, rfl, hP⟩ := hp
      have ez : (1 : Int) + (i : Int) = ((1 + i : Nat) : Int) := by omega
      rw [ez]
      have e1i : i + 1 = 1 + i := by omega
      rw [e1i] at hP ⊢
      obtain ⟨vs, hv, lv, av⟩ := hP
      refine ⟨_, rfl, .inl ⟨rfl, _, .inl (.inl hv)⟩, _, rfl, _, rfl, _, rfl, H2, 1 + i, p, lr, lp, rfl, sm, hR2, ⟨vs, hv, lv, av⟩, by omega, by omega, h7, fun H3 v s3 pv3 => ?_⟩
      have v3' := s3 _ _ hv
      refine ⟨lp, _, _, rfl, rfl, v3', small1000 (by omega), ?_⟩
      refine ⟨fun b o hb => up_a (s3 _ _ (sm _ _ hb)) (ne_of_none hb hlp), _, rfl, vs ++ [v], upd_same, ?_, fun m hm => ?_⟩
      · rw [List.length_append, lv] <;> rfl
      have put : ∀ (m : Nat) (v : V), PVal CD CP H2 H3 (fun a => a ≠ lp) p (bestOf p m) v → PVal CD CP H2 (upd H3 lp (.lst (vs ++ [v]))) (fun a => a ≠ lp) p (bestOf p m) v → True := fun _ _ _ _ => trivial
      have putv : ∀ (m : Nat) (v' : V) (ys : List V), PVal CD CP H2 H3 (fun a => a ≠ lp) p (bestOf p m) v' → PVal CD CP H2 (upd H3 lp (.lst ys)) (fun a => a ≠ lp) p (bestOf p m) v' := fun m v' ys h => by
        cases hb : bestOf p m with
        | none =>
          rw [hb] at h
          exact h
        | some b =>
          rw [hb] at h
          obtain ⟨s, ld, h1, h2, dx, ds, h3, h4, h5⟩ := h
          exact ⟨s, ld, h1, h2, dx, ds, up_a h3 (ne_of h3 v3' (by intro z; cases z)), up_a h4 h2, h5⟩
      by_cases hmi : m < 1 + i
      · obtain ⟨v', h1, h2⟩ := av m hmi
        exact ⟨v', by rw [List.getElem?_append_left (by omega)]; exact h1, putv m v' _ (h2.same s3 fun _ n => n)⟩
      · have e : m = 1 + i := by omega
        subst e
        refine ⟨v, ?_, putv _ v _ (pv3.same (Same.refl H3) fun b hb => ?_)⟩
        · rw [List.getElem?_append_right (by omega), lv, Nat.sub_self] <;> rfl
        · intro z
          rw [z, hv] at hb
          cases hb
    · obtain ⟨sm, v3, rfl, vs, hv, lv, av⟩ := hp
      have e9 : 2 ^ p.works.length - 1 + 1 = 2 ^ p.works.length := by omega
      rw [e9] at lv av
      obtain ⟨v, h1, h2⟩ := av (2 ^ p.works.length - 1) (by omega)
      refine ⟨_, rfl, _, rfl, lp, vs, _, v, rfl, rfl, .of hv, atI_neg1 (by rw [lv]; exact h1), ?_⟩
      refine q H2 H' v (e1.trans (Same.ext s12)) sm (T2.ext sm) ?_
      rw [best_is]
      exact h2.same (Same.refl H') fun _ _ => trivial
end
end Du

namespace Du
open PySem PySem.Spec PyProof.Rows L2
open Sw82 (Call Plan Work Rules Best)
/-- the pieces that some right duty below k has -/
def hit (p : Plan) (k j : Nat) : Prop := ∃ g, g < k ∧ right p g = true ∧ g.testBit j = true
def spNever (C Tb : Addr) : Sp := fun vs H Q _ => ∃ (a : Addr) (D : Own) (p : Plan), vs = [.ref a] ∧ Dep C H a D p ∧ Wf p ∧ TabH Tb H ∧ ∀ (H' : Hp) (r : Addr), Ext H H' → TabH Tb H' → NewT H r → H' r = some (.lst (p.never.map vN)) → Q (.ref r) H'
theorem hit_succ {p : Plan} {k j : Nat} : hit p (k + 1) j ↔ hit p k j ∨ (right p k = true ∧ k.testBit j = true) := by
  constructor
  · rintro ⟨g, h1, h2, h3⟩
    by_cases e : g = k
    · subst e
      exact .inr ⟨h2, h3⟩
    · exact .inl ⟨g, by omega, h2, h3⟩
  · rintro (⟨g, h1, h2, h3⟩ | ⟨h2, h3⟩)
    · exact ⟨g, by omega, h2, h3⟩
    · exact ⟨k, by omega, h2, h3⟩
theorem key_inl {i j : Nat} : ((Sum.inl (i : Int) : L2.Key) = Sum.inl (j : Int)) ↔ i = j := by
  constructor
  · intro h
    injection h with h
    exact Int.ofNat.inj h
  · rintro rfl
    rfl
/-- the dict of done pieces, with some more of the present duty -/
structure Done (H : Hp) (dd : Addr) (p : Plan) (k : Nat) (more : List Nat) (sz : Nat) : Prop where
  ex : ∃ kvs : List (L2.Key × V), H dd = some (.dK kvs) ∧ kvs.length ≤ sz ∧ ∀ j : Nat, (valV kvs (.inl (j : Int))).isSome = true ↔ (hit p k j ∨ j ∈ more)
def ButD (dd : Addr) (H H' : Hp) : Prop := ∀ b o, H b = some o → b ≠ dd → H' b = some o
theorem Tups.butD {dd : Addr} {H H' : Hp} {kvs : List (L2.Key × V)} {ts : List Addr} {ls : List (List V)} (h : Tups H ts ls) (hs : H dd = some (.dK kvs)) (k : ButD dd H H') : Tups H' ts ls :=
  h.mono fun _ _ e => k _ _ e (ne_of e hs (by intro z; cases z))
theorem Dep.butD {C dd a : Addr} {H H' : Hp} {kvs0 : List (L2.Key × V)} {D : Own} {p : Plan} (d : Dep C H a D p) (hs : H dd = some (.dK kvs0)) (k : ButD dd H H') : Dep C H' a D p := by
  obtain ⟨ts, e1, e2⟩ := d.w
  obtain ⟨us, e3, e4⟩ := d.p
  obtain ⟨kvs, e5, e6⟩ := d.s
  have q : ∀ {b : Addr} {o : HO}, H b = some o → (∀ kvs, o ≠ .dK kvs) → H' b = some o := fun h n => k _ _ h (ne_of h hs (n _))
  exact ⟨q d.ins (by intro _ z; cases z), q d.r (by intro _ z; cases z), q d.b (by intro _ z; cases z), q d.h (by intro _ z; cases z), ⟨ts, q e1 (by intro _ z; cases z), e2.butD hs k⟩, ⟨kvs, q e5 (by intro _ z; cases z), e6⟩, ⟨us, q e3 (by intro _ z; cases z), e4.butD hs k⟩, d.nd⟩
theorem TabH.butD {Tb dd : Addr} {H H' : Hp} {kvs : List (L2.Key × V)} (t : TabH Tb H) (hs : H dd = some (.dK kvs)) (k : ButD dd H H') : TabH Tb H' := fun q hq => by
  obtain ⟨ps, h1, h2, h3⟩ := t q hq
  refine ⟨ps, k _ _ h1 (ne_of h1 hs (by intro z; cases z)), h2, fun pos cv hc => ?_⟩
  obtain ⟨c, e1, e2⟩ := h3 pos cv hc
  exact ⟨c, e1, k _ _ e2 (ne_of e2 hs (by intro z; cases z))⟩
theorem nF_order (lo : Addr) (x : V) (wr : Nat) : (nF lo x wr).lookup ("order" : Str) = some (.ref lo) := lk_here
theorem DutyAt.order {CD : Addr} {H : Hp} {s lo : Addr} {p : Plan} {m : List Nat} (h : DutyAt CD H s lo p m) : ∃ dx fs, H s = some (.ins CD dx fs) ∧ fs.lookup ("order" : Str) = some (.ref lo) ∧ H lo = some (.lst (m.map vN)) := by
  obtain ⟨dx, h1, ⟨h2, x, h3⟩ | ⟨h2, h3, d, h4, h5⟩⟩ := h
  · exact ⟨dx, _, h3, nF_order _ _ _, h1⟩
  · exact ⟨dx, _, h5, bF_order _ _ _ _ _ _ _ _, h1⟩
theorem testBit_small {n g j : Nat} (hg : g < 2 ^ n) (h : g.testBit j = true) : j < n := by
  apply Classical.byContradiction
  intro hn
  rw [Nat.testBit_lt_two_pow (Nat.lt_of_lt_of_le hg (Nat.pow_le_pow_right (by omega) (by omega)))] at h
  cases h
section
variable {P : Program} {w : World} {K : PySem.W.Frag} {mg : Str → Option Value} {base : Heap} {C CD CP : Addr}
theorem scNever : FnScope ["depot", "done", "duty", "number"] ["depot"] (defScope sNever) := ⟨rfl, rfl, rfl, by decide +kernel, rfl, by decide +kernel, by decide +kernel⟩
theorem ok_never {f fR Tb : Addr} {fd fdR : FuncData} (F : Fun K "pieces_never_done" "pieces_never_done" sNever f fd) (T : Txt K mg C) (TD : TxD K mg CD) (U : Txk mg)
    (GR : FnOk P w K mg base CX0 6 fR fdR ["depot"] (spRight C CD Tb)) (gR : mg "right_duties" = some (.ref fR)) (kR : PySem.W.keepIn K (.ref fR) = true) (bR : Binds K fdR ["depot"] []) :
    FnOk P w K mg base CX0 7 f fd ["depot"] (spNever C Tb) := by
  refine F.ok scNever (fun vs H Q E h => ?_) (fun cdv A outer s H vs Q E hr h => ⟨_, pss_cons (ps_set (i := 1) scNever.nd rfl (Or.inr rfl) pe_dnewK)
    (pss_cons (ps_for PassesOwn.never rfl (pi_list (pe_call GR hr rfl gR kR bR .nil pass0 (pa_cons (pv 0) pa_nil))) (pg_name (i := 2) scNever.nd rfl (Or.inl rfl))
      (pss_one (ps_if (pt_cmpR op_notN (pv 2) pe_non (nomark _))
        (pss_one (ps_for PassesOwn.never rfl (pi_list (pe_fld (pv 2) rfl)) (pg_name (i := 3) scNever.nd rfl (Or.inl rfl)) (pss_one (ps_dput (hu_of hr) (pv 1) (pv 3) pe_bl rfl)))) pss_nil)))
    (pss_one (ps_ret (pe_lc (own := [("number", 3)]) (g := gName 3) rfl scNever.nd (pi_range1 (by rfl) U.range (pa_cons (pe_callB call_len_seq (by rfl) U.len PySem.boot_len (pa_cons (pe_fld (pv 0) rfl) pa_nil)) pa_nil))
      (blkOk_by (N := ["depot", "done", "duty", "number"]) (sc := defScope sNever) (by decide +kernel)) (fun _ _ _ _ _ => pg_name (i := 3) scNever.nd rfl (Or.inl rfl)) (fun _ _ _ _ _ => pts_one (pt_cmp (pc_dnotin (hu_of hr) (pv 3) (pv 1))))
      (fun _ _ _ _ _ => pv 3))))), ?_⟩)
  · obtain ⟨a, D, p, rfl, _⟩ := h
    rfl
  · obtain ⟨a, D, p, rfl, d, W, hT, q⟩ := h
    have h7 := W.worksLen
    have hpow : 2 ^ p.works.length ≤ 128 := (Nat.pow_le_pow_right (by omega) h7 : 2 ^ p.works.length ≤ 2 ^ 7)
    intro dd hdd
    have s0 : Same H (upd H dd (.dK [])) := same_new hdd
    refine ⟨_, rfl, a, D, p, rfl, d.same s0, W, hT.ext s0, fun H1 r e1 T1 hr0 hR => ?_⟩
    have dd1 : H1 dd = some (.dK []) := e1 _ _ upd_same (by intro ps z; cases z)
    have eH1 : Ext H H1 := (Same.ext s0).trans e1
    obtain ⟨vsR, hRv, lenR, atR⟩ := hR
    refine ⟨r, rfl, ⟨_, .of hRv⟩, ?_⟩
    have rdd : r ≠ dd := ne_of hRv dd1 (by intro z; cases z)
    refine for_list (xs := vsR) (fun i σ H' => ButD dd H1 H' ∧ ∃ v2 v3 : Option V, σ = [some (.ref a), some (.ref dd), v2, v3] ∧ Done H' dd p i [] (7 * i)) ⟨fun _ _ h _ => h, none, none, rfl, ⟨[], dd1, Nat.le_refl _, fun j => ?_⟩⟩ (fun i σ H' _ hp => ?_) (fun i v σ H' hi hp => ?_) fun σ H' hp => ?_
    · constructor
      · intro z
        cases z
      · rintro (⟨g, h1, _⟩ | h)
        · omega
        · cases h
    · exact .of (hp.1 _ _ hRv rdd)
    · obtain ⟨bt, v2, v3, rfl, hD⟩ := hp
      have hi2 : i < 2 ^ p.works.length := by
        rw [← lenR]
        exact (List.getElem?_eq_some_iff.mp hi).1
      obtain ⟨v', hv', hsl⟩ := atR i hi2
      rw [hi] at hv'
      cases hv'
      rcases hsl with ⟨hrt, s, lo, rfl, _, du⟩ | ⟨hrt, rfl⟩
      · refine ⟨_, rfl, rfl, _, rfl, ?_⟩
        refine ifT (show (!decide (V.ref s = V.non)) = true by rw [decide_eq_false (by intro z; cases z)]; rfl) ?_
        obtain ⟨dx, fs, hs1, lk, hlo⟩ := du.order
        have lod : lo ≠ dd := ne_of hlo dd1 (by intro z; cases z)
        have hperm := order_perm p (Sw82.members p.works.length i)
        have hmem : ∀ j, j ∈ p.inOrder (Sw82.members p.works.length i) ↔ i.testBit j = true := fun j => by
          rw [hperm.mem_iff, members_mem]
          exact ⟨fun h => h.2, fun h => ⟨testBit_small hi2 h, h⟩⟩
        have hml : (p.inOrder (Sw82.members p.works.length i)).length ≤ 7 := by
          rw [hperm.length_eq]
          have := List.length_filter_le (fun j => i.testBit j) (List.range p.works.length)
          rw [List.length_range] at this
          exact Nat.le_trans this h7
        generalize p.inOrder (Sw82.members p.works.length i) = m at *
        refine ⟨_, rfl, s, CD, dx, fs, _, rfl, bt _ _ hs1 (ne_of hs1 dd1 (by intro z; cases z)), TD.cl, TD.nO, lk, lo, rfl, ⟨_, .of (bt _ _ hlo lod)⟩, ?_⟩
        refine for_list (xs := m.map vN) (fun j σ H'' => ButD dd H1 H'' ∧ ∃ v3 : Option V, σ = [some (.ref a), some (.ref dd), some (.ref s), v3] ∧ Done H'' dd p i (m.take j) (7 * i + j)) ⟨bt, v3, rfl, hD⟩ (fun j σ H'' _ hp => ?_) (fun j v σ H'' hj hp => ?_) fun σ H'' hp => ?_
        · exact .of (hp.1 _ _ hlo lod)
        · obtain ⟨bt2, v3, rfl, ⟨kvs, hk, hkl, hkj⟩⟩ := hp
          rw [List.getElem?_map] at hj
          obtain ⟨n, hn, rfl⟩ : ∃ n, m[j]? = some n ∧ v = vN n := by
            cases z : m[j]? with
            | none =>
              rw [z] at hj
              cases hj
            | some n =>
              rw [z] at hj
              exact ⟨n, rfl, (Option.some.inj hj).symm⟩
          have hjl : j < m.length := (List.getElem?_eq_some_iff.mp hn).1
          refine ⟨_, rfl, _, rfl, dd, _, rfl, DPut.k (k := .inl (n : Int)) hk (small1000 (by omega)), fun b o hb hn => up_a (bt2 _ _ hb hn) hn, _, rfl, ⟨_, upd_same, ?_, fun j' => ?_⟩⟩
          · have := length_putK kvs (.inl (n : Int)) (V.bl true)
            omega
          · rw [valV_put, List.take_add_one, hn]
            show _ ↔ hit p i j' ∨ j' ∈ m.take j ++ [n]
            rw [List.mem_append, List.mem_singleton]
            by_cases z : j' = n
            · rw [if_pos (key_inl.mpr z)]
              exact ⟨fun _ => .inr (.inr z), fun _ => rfl⟩
            · rw [if_neg (fun y => z (key_inl.mp y)), hkj j']
              constructor
              · rintro (y | y)
                · exact .inl y
                · exact .inr (.inl y)
              · rintro (y | y | y)
                · exact .inl y
                · exact .inr y
                · exact (z y).elim
        · obtain ⟨bt2, v3, rfl, ⟨kvs, hk, hkl, hkj⟩⟩ := hp
          refine ⟨bt2, _, _, rfl, ⟨kvs, hk, ?_, fun j => ?_⟩⟩
          · rw [List.length_map] at hkl
            omega
          · rw [hkj j, hit_succ, List.length_map, List.take_of_length_le (Nat.le_refl _), hmem j]
            constructor
            · rintro (y | y)
              · exact .inl (.inl y)
              · exact .inl (.inr ⟨hrt, y⟩)
            · rintro ((y | y) | y)
              · exact .inl y
              · exact .inr y.2
              · cases y
      · refine ⟨_, rfl, rfl, _, rfl, ?_⟩
        refine ifF (show (!decide (V.non = V.non)) = false by rw [decide_eq_true rfl]; rfl) ?_
        obtain ⟨kvs, hk, hkl, hkj⟩ := hD.ex
        refine ⟨bt, _, _, rfl, ⟨kvs, hk, by omega, fun j => ?_⟩⟩
        rw [hkj j, hit_succ]
        constructor
        · rintro (y | y)
          · exact .inl (.inl y)
          · cases y
        · rintro ((y | y) | y)
          · exact .inl y
          · rw [hrt] at y
            cases y.1
          · cases y
    · obtain ⟨bt, v2, v3, rfl, ⟨kvs, hk, _, hj⟩⟩ := hp
      rw [lenR] at hj
      have d' := (d.ext eH1).butD dd1 bt
      have T' := T1.butD dd1 bt
      obtain ⟨us, p1, p2⟩ := d'.p
      have lus : (us.map V.ref).length = p.works.length := by rw [List.length_map, p2.len, List.length_map]
      have en : p.never = (List.range p.works.length).filter fun (j : Nat) => !(valV kvs (.inl (j : Int))).isSome := by
        rw [never_is]
        apply List.filter_congr
        intro j _
        congr 1
        cases z : (valV kvs (.inl (j : Int))).isSome with
        | true =>
          apply decide_eq_true
          rcases (hj j).mp z with y | y
          · exact y
          · cases y
        | false =>
          apply decide_eq_false
          intro y
          have := (hj j).mpr (.inl y)
          rw [z] at this
          cases this
      refine ⟨_, rfl, a, C, D.dx, _, _, rfl, d'.ins, T.cl, T.nP, dF_pieces D, D.lp, _, rfl, .inl (.of p1), ((p.works.length : Nat) : Int), by rw [lus], by omega, by omega, fun R hR => ?_⟩
      rw [Int.toNat_natCast]
      have kR : upd H' R (.lst []) dd = some (.dK kvs) := up_n hk hR
      refine lc_range (lo := 0) (n := p.works.length) (fun i H'' => ∃ acc, H'' R = some (.lst acc) ∧ acc = ((List.range i).filter fun (j : Nat) => !(valV kvs (.inl (j : Int))).isSome).map vN ∧ Same H' H'') ⟨[], upd_same, rfl, same_new hR⟩ (fun i H'' hi hp => ?_) fun H'' hp => ?_
      · obtain ⟨acc, ea, eb, sm⟩ := hp
        have ez : (0 : Int) + (i : Int) = ((i : Nat) : Int) := by omega
        rw [ez]
        refine ⟨rfl, _, rfl, _, rfl, dd, _, rfl, DGet.k (k := .inl (i : Int)) (sm _ _ hk), _, rfl, ?_⟩
        have es : ((List.range (i + 1)).filter fun (j : Nat) => !(valV kvs (.inl (j : Int))).isSome) = ((List.range i).filter fun (j : Nat) => !(valV kvs (.inl (j : Int))).isSome) ++ (if (!(valV kvs (.inl (i : Int))).isSome) = true then [i] else []) := by
          rw [List.range_succ, List.filter_append, List.filter_cons, List.filter_nil]
        have lm : ((List.range i).filter fun (j : Nat) => !(valV kvs (.inl (j : Int))).isSome).length ≤ 7 := by
          have := List.length_filter_le (fun (j : Nat) => !(valV kvs (.inl (j : Int))).isSome) (List.range i)
          rw [List.length_range] at this
          omega
        cases hb : (!(valV kvs (.inl (i : Int))).isSome) with
        | true =>
          refine ifT rfl ?_
          refine ⟨_, rfl, acc, ea, ?_, _, upd_same, ?_, ?_⟩
          · rw [eb, List.length_map]
            exact small1000 (by omega)
          · rw [es, hb, if_pos rfl, List.map_append, eb] <;> rfl
          · intro b o hbo
            have n1 : b ≠ R := fun z => by
              rw [z, hR] at hbo
              cases hbo
            rw [upd_ne n1]
            exact sm _ _ hbo
        | false =>
          refine ifF rfl ?_
          refine ⟨acc, ea, ?_, sm⟩
          rw [es, hb, if_neg (by decide), List.append_nil, eb]
      · obtain ⟨acc, ea, eb, sm⟩ := hp
        have nR : NewT H R := fun o ho => by
          apply Classical.byContradiction
          intro hn
          have h1 := eH1 _ _ ho fun ps z => hn ⟨ps, z⟩
          have hne : R ≠ dd := fun z => by
            rw [z, hdd] at ho
            cases ho
          rw [bt _ _ h1 hne] at hR
          cases hR
        refine q H'' R (fun b o hb hn => sm _ _ (bt _ _ (eH1 _ _ hb hn) (ne_of_none hb hdd))) (T'.ext sm) nR ?_
        rw [ea, eb, en]
end
end Du

/-! # The line of calls -/
namespace Du
open PySem PySem.Spec PyProof.Rows L2
open Sw82 (Call Plan Work Rules)
abbrev sAnswers : Stmt := top 62
def outL (p : Plan) (x : Call) : List Int := Sw82Neutral.out (Sw82.step p x).2
/-- what a call on a depot may change, tables aside -/
structure MovesT (H H' : Hp) (a : Addr) (D D' : Own) : Prop where
  keep : ∀ b o, H b = some o → (∀ ps, o ≠ .tbl ps) → b ≠ a → b ∉ D.five → H' b = some o
  five : ∀ b, b ∈ D'.five → b ∈ D.five ∨ H b = none
theorem Moves.t {H H' : Hp} {a : Addr} {D D' : Own} (m : Moves H H' a D D') : MovesT H H' a D D' := ⟨fun b o h _ n1 n2 => m.keep b o h n1 n2, m.five⟩
theorem MovesT.of {H H' : Hp} {a : Addr} {D : Own} (e : Ext H H') : MovesT H H' a D D := ⟨fun b o h n _ _ => e b o h n, fun _ h => .inl h⟩
theorem seqL_ext {K : PySem.W.Frag} {H H' : Hp} {a : Addr} {xs : List V} (e : Ext H H') (h : SqL K H a xs) : SqL K H' a xs := by
  rcases h with (z | ⟨o, z⟩) | z
  · exact .inl (.inl (e _ _ z (by intro ps y; cases y)))
  · exact .inl (.inr ⟨o, e _ _ z (by intro ps y; cases y)⟩)
  · exact .inr z
def spAnswers (K : PySem.W.Frag) (Tb : Addr) : Sp := fun vs H Q _ => ∃ (l : Addr) (ns : List Int), vs = [.ref l] ∧ SqL K H l (ns.map V.int) ∧ TabH Tb H ∧ PySw82.answers_asked ns = true ∧
  ∀ (H' : Hp) (r : Addr), H' r = some (.lst ((PySw82.answers ns).map V.int)) → Q (.ref r) H'
/-- where the call that begins at a place ends -/
def spEnd (K : PySem.W.Frag) : Sp := fun vs H Q _ => ∃ (l : Addr) (pre rest : List Int) (x : Call), vs = [.ref l, .int (pre.length : Nat)] ∧ SqL K H l ((pre ++ (enc x ++ rest)).map V.int) ∧ Fit x ∧ Q (.int ((pre.length + (enc x).length : Nat) : Int)) H
/-- the answer to one call, a new list -/
def spAnsOf (C Tb : Addr) : Sp := fun vs H Q _ => ∃ (a row : Addr) (D : Own) (p : Plan) (x : Call), vs = [.ref a, .int ((enc x).headD 0), .ref row] ∧ H row = some (.lst (((enc x).drop 1).map V.int)) ∧ row ∉ D.five ∧ Dep C H a D p ∧ Wf p ∧ Fit x ∧ TabH Tb H ∧
  ∀ (H' : Hp) (D' : Own) (r : Addr), Dep C H' a D' (Sw82.step p x).1 → MovesT H H' a D D' → TabH Tb H' → (∀ b o, H b = some o → (∀ ps, o ≠ .tbl ps) → b ≠ a → b ∉ D.five → b ≠ r) → H' r = some (.lst ((outL p x).map V.int)) → Q (.ref r) H'
theorem enc_cons (x : Call) : ∃ k r, enc x = k :: r := by
  cases x <;> exact ⟨_, _, rfl⟩
theorem play_cons (s : Plan) (x : Call) (cs : List Call) : play s (x :: cs) = ((outL s x).length : Int) :: (outL s x ++ play (Sw82.step s x).1 cs) := rfl
theorem at_pre {pre rest : List Int} {k : Int} {r : List Int} : ((pre ++ (k :: r ++ rest)).map V.int)[pre.length]? = some (V.int k) := by
  rw [List.getElem?_map, List.getElem?_append_right (Nat.le_refl _), Nat.sub_self] <;> rfl
theorem cut_row {pre rest : List Int} {k : Int} {r : List Int} : cutV ((pre ++ (k :: r ++ rest)).map V.int) (some (((pre.length : Nat) : Int) + 1)) (some ((pre.length + (k :: r).length : Nat) : Int)) = r.map V.int := by
  unfold cutV
  have e1 : (((pre.length : Nat) : Int) + 1) = ((pre.length + 1 : Nat) : Int) := by omega
  rw [e1, HT.sIx_nat, HT.sIx_nat]
  have hl : ((pre ++ (k :: r ++ rest)).map V.int).length = pre.length + (1 + r.length + rest.length) := by
    rw [List.length_map, List.length_append, List.length_append, List.length_cons]
    omega
  rw [hl, List.length_cons]
  have h1 : min (pre.length + 1) (pre.length + (1 + r.length + rest.length)) = pre.length + 1 := by omega
  have h2 : min (pre.length + (r.length + 1)) (pre.length + (1 + r.length + rest.length)) = pre.length + (r.length + 1) := by omega
  rw [h1, h2]
  have h3 : pre.length + (r.length + 1) - (pre.length + 1) = r.length := by omega
  rw [h3, ← List.map_drop, ← List.map_take]
  congr 1
  have h4 : pre ++ (k :: r ++ rest) = (pre ++ [k]) ++ (r ++ rest) := by simp
  have h5 : (pre ++ [k]).length = pre.length + 1 := by simp
  rw [h4, ← h5, List.drop_left, List.take_left]
theorem Dep.five_at {C : Addr} {H : Hp} {a : Addr} {D : Own} {p : Plan} (d : Dep C H a D p) : ∀ b, b ∈ D.five → ∃ o, H b = some o ∧ (∀ ps, o ≠ .tbl ps) ∧ ∀ φ, o ≠ .ext φ := fun b hb => by
  have hb' : b ∈ [D.lr, D.lb, D.lh, D.lw, D.ls, D.lp] := hb
  simp only [List.mem_cons, List.not_mem_nil, or_false] at hb'
  obtain ⟨ts, e6, _⟩ := d.w
  obtain ⟨us, e7, _⟩ := d.p
  obtain ⟨kvs, e8, _⟩ := d.s
  rcases hb' with rfl | rfl | rfl | rfl | rfl | rfl
  · exact ⟨_, d.r, (by intro ps z; cases z), (by intro φ z; cases z)⟩
  · exact ⟨_, d.b, (by intro ps z; cases z), (by intro φ z; cases z)⟩
  · exact ⟨_, d.h, (by intro ps z; cases z), (by intro φ z; cases z)⟩
  · exact ⟨_, e6, (by intro ps z; cases z), (by intro φ z; cases z)⟩
  · exact ⟨_, e8, (by intro ps z; cases z), (by intro φ z; cases z)⟩
  · exact ⟨_, e7, (by intro ps z; cases z), (by intro φ z; cases z)⟩
theorem TabH.moves {C Tb : Addr} {H H' : Hp} {a : Addr} {D D' : Own} {p : Plan} (t : TabH Tb H) (d : Dep C H a D p) (m : Moves H H' a D D') : TabH Tb H' := fun q hq => by
  obtain ⟨ps, h1, h2, h3⟩ := t q hq
  have n5 : ∀ b o, H b = some o → ((∃ ps, o = .tbl ps) ∨ ∃ φ, o = .ext φ) → b ∉ D.five := fun b o hb ho z => by
    obtain ⟨o', e1, e2, e3⟩ := d.five_at b z
    rw [hb] at e1
    cases e1
    rcases ho with ⟨ps, rfl⟩ | ⟨φ, rfl⟩
    · exact e2 _ rfl
    · exact e3 _ rfl
  refine ⟨ps, m.keep _ _ h1 (ne_of h1 d.ins (by intro z; cases z)) (n5 _ _ h1 (.inl ⟨_, rfl⟩)), h2, fun pos cv hc => ?_⟩
  obtain ⟨c, e1, e2⟩ := h3 pos cv hc
  exact ⟨c, e1, m.keep _ _ e2 (ne_of e2 d.ins (by intro z; cases z)) (n5 _ _ e2 (.inr ⟨_, rfl⟩))⟩
/-- what holds between two calls -/
structure Line (C Tb : Addr) (H0 H : Hp) (x g : Addr) (cs0 : List Call) (G : List Int) (p : Plan) (todo : List Call) : Prop where
  dep : ∃ D, Dep C H x D p ∧ (∀ b, b ∈ D.five → NewT H0 b) ∧ g ∉ D.five
  wf : Wf p
  same : Ext H0 H
  tab : TabH Tb H
  g0 : H0 g = none
  gl : H g = some (.lst (G.map V.int))
  eq : play Sw82.init cs0 = G ++ play p todo
section
variable {P : Program} {w : World} {K : PySem.W.Frag} {mg : Str → Option Value} {base : Heap} {C : Addr}
theorem scAnswers : FnScope ["calls", "depot", "given", "at", "end", "answer"] ["calls"] (defScope sAnswers) := ⟨rfl, rfl, rfl, by decide +kernel, rfl, by decide +kernel, by decide +kernel⟩
theorem ok_answers {f fI fE fA Tb : Addr} {fd fdI fdE fdA : FuncData} {kE kA : Nat} (F : Fun K "answers" "answers" sAnswers f fd) (T : Txt K mg C) (M : Mk K C fI) (GI : FnOk P w K mg base CX0 2 fI fdI ["self"] (spInit C)) (bI : Binds K fdI ["self"] [])
    (GE : FnOk P w K mg base CX0 kE fE fdE ["calls", "at"] (spEnd K)) (gE : mg "end_of_call" = some (.ref fE)) (kpE : PySem.W.keepIn K (.ref fE) = true) (bE : Binds K fdE ["calls", "at"] [])
    (GA : FnOk P w K mg base CX0 kA fA fdA ["depot", "call", "row"] (spAnsOf C Tb)) (gA : mg "answer_of" = some (.ref fA)) (kpA : PySem.W.keepIn K (.ref fA) = true) (bA : Binds K fdA ["depot", "call", "row"] []) {k : Nat} (hkE : kE ≤ k) (hkA : kA ≤ k) (h3 : 3 ≤ k) :
    FnOk P w K mg base CX0 (k + 1) f fd ["calls"] (spAnswers K Tb) := by
  refine F.ok scAnswers (fun vs H Q E h => ?_) (fun cdv A outer s H vs Q E hr h => ⟨_, pss_cons (ps_set (i := 1) scAnswers.nd rfl (Or.inl rfl) (pe_make0 M GI (hr.mono h3) rfl T.gC bI .nil pass0))
      (pss_cons (ps_set (i := 2) scAnswers.nd rfl (Or.inl rfl) (pe_lst pa_nil))
      (pss_cons (ps_set (i := 3) scAnswers.nd rfl (Or.inl rfl) pe_int)
      (pss_cons (ps_while PassesOwn.never (pt_cmpR op_lt (pv 3) (pe_callB call_len_seq (by rfl) T.len PySem.boot_len (pa_cons (pv 0) pa_nil)) (nomark _))
        (pss_cons (ps_set (i := 4) scAnswers.nd rfl (Or.inl rfl) (pe_call GE (hr.mono hkE) rfl gE kpE bE .nil pass0 (pa_cons (pv 0) (pa_cons (pv 3) pa_nil))))
        (pss_cons (ps_set (i := 5) scAnswers.nd rfl (Or.inl rfl) (pe_call GA (hr.mono hkA) rfl gA kpA bA .nil pass0 (pa_cons (pv 1) (pa_cons (pe_ix ix_list (pv 0) (pv 3) (fun _ _ => rfl)) (pa_cons (pe_slice sl_list (pv 0) (po_some (pe_op op_add (pv 3) pe_int)) (po_some (pv 4))) pa_nil)))))
        (pss_cons (ps_expr (pe_bm PySem.F.plainAttrs_list PySem.F.slot_list_append PySem.F.type_list_append mt_append (pv 2) (pa_cons (pe_callB call_len_seq (by rfl) T.len PySem.boot_len (pa_cons (pv 5) pa_nil)) pa_nil)))
        (pss_cons (ps_expr (pe_bm PySem.F.plainAttrs_list PySem.F.slot_list_extend PySem.F.type_list_extend mt_extend (pv 2) (pa_cons (pv 5) pa_nil)))
        (pss_one (ps_set (i := 3) scAnswers.nd rfl (Or.inl rfl) (pv 4))))))))
      (pss_one (ps_ret (pv 2)))))), ?_⟩)
  · obtain ⟨l, ns, rfl, _⟩ := h
    rfl
  · obtain ⟨l, ns, rfl, hl, hTb, hask, q⟩ := h
    obtain ⟨cs, e1, e2, _, e4, e5⟩ := read_all hask
    rw [e2] at q
    intro x dx hx hdx hne
    refine ⟨x, dx, rfl, upd_same, fun H1 D1 d1 k1 fv1 => ⟨rfl, ?_⟩⟩
    have s1 : Same H H1 := Same.made hx hdx k1
    refine ⟨by show 0 ≤ sizeLine; decide, fun g hg => ?_⟩
    refine ⟨fun m σ H' => ∃ (done todo : List Call) (G : List Int) (p : Plan) (v4 v5 : Option V), m = todo.length ∧ cs = done ++ todo ∧ σ = [some (.ref l), some (.ref x), some (.ref g), some (.int (((done.map enc).flatten.length : Nat) : Int)), v4, v5] ∧ Line C Tb H H' x g cs G p todo, ⟨_, [], cs, [], Sw82.init, none, none, rfl, rfl, rfl, ?_⟩, ?_⟩
    · obtain hg1 := hg
      have s2 : Same H (upd H1 g (.lst [])) := s1.trans (same_new hg)
      have d2 := d1.same (same_new (o := .lst []) hg)
      have n5 : ∀ b, b ∈ D1.five → H b = none := fun b hb => by
        have hb1 := fv1 b hb
        cases e : H b with
        | none => rfl
        | some o =>
          have n1 := ne_of_none e hdx
          have n2 := ne_of_none e hx
          rw [upd_ne n2, upd_ne n1, e] at hb1
          cases hb1
      refine ⟨⟨D1, d2, fun b hb => NewT.of_none (n5 b hb), fun hgm => ?_⟩, wf_init, Same.ext s2, hTb.ext s2, s1.free hg, upd_same, rfl⟩
      obtain ⟨o, e8, _⟩ := d1.five_at g hgm
      rw [hg] at e8
      cases e8
    · rintro m σ H2 ⟨done, todo, G, p, v4, v5, rfl, ec, rfl, L⟩
      have hl2 : SqL K H2 l (ns.map V.int) := seqL_ext L.same hl
      refine ⟨_, rfl, _, rfl, l, _, rfl, .inl hl2, _, _, rfl, rfl, _, rfl, ?_⟩
      have en : ns = (done.map enc).flatten ++ (todo.map enc).flatten := by
        rw [e1, ec, List.map_append, List.flatten_append]
      cases todo with
      | nil =>
        refine ifF (decide_eq_false ?_) ?_
        · rw [List.length_map, en, List.map_nil, List.flatten_nil, List.append_nil]
          omega
        refine ⟨_, rfl, q H2 g ?_⟩
        rw [L.gl, L.eq]
        show _ = some (HO.lst ((G ++ []).map V.int))
        rw [List.append_nil]
      | cons x2 todo =>
        have en2 : ns = (done.map enc).flatten ++ (enc x2 ++ (todo.map enc).flatten) := by
          rw [en, List.map_cons, List.flatten_cons]
        obtain ⟨kk, r, ek⟩ := enc_cons x2
        refine ifT (decide_eq_true ?_) ?_
        · rw [List.length_map, en2, List.length_append, List.length_append, ek, List.length_cons]
          omega
        have fx : Fit x2 := e4 x2 (by rw [ec]; exact List.mem_append_right _ (.head _))
        rw [en2] at hl2
        refine ⟨fun σ' H' => _, fun σ' H' z => ⟨todo.length, Nat.lt_succ_self _, z⟩, ?_⟩
        refine ⟨_, rfl, _, rfl, l, _, _, x2, rfl, hl2, fx, ?_⟩
        have hl3 := hl2
        rw [ek] at hl3
        refine ⟨_, rfl, _, rfl, _, rfl, l, _, _, _, rfl, rfl, hl3, atI_nat at_pre, ?_⟩
        refine ⟨_, rfl, _, rfl, _, _, rfl, rfl, _, rfl, _, rfl, _, rfl, l, _, rfl, hl3, fun row hrow => ?_⟩
        rw [ek, cut_row]
        obtain ⟨D, d, n0, ng⟩ := L.dep
        have d3 := d.same (same_new (o := .lst (r.map V.int)) hrow)
        have g3 : upd H2 row (.lst (r.map V.int)) g = some (.lst (G.map V.int)) := up_n L.gl hrow
        have hrn : row ∉ D.five := fun z => by
          obtain ⟨o, e8, _⟩ := d.five_at row z
          rw [hrow] at e8
          cases e8
        refine ⟨x, row, D, p, x2, ?_, ?_, hrn, d3, L.wf, fx, L.tab.ext (same_new hrow), fun H4 D4 ra d4 m4 T4 hra ea => ?_⟩
        · rw [ek] <;> rfl
        · rw [ek]; exact upd_same
        have hgx : g ≠ x := ne_of g3 d3.ins (by intro z; cases z)
        have g4 : H4 g = some (.lst (G.map V.int)) := m4.keep g _ g3 (by intro ps z; cases z) hgx ng
        have gra : g ≠ ra := hra g _ g3 (by intro ps z; cases z) hgx ng
        have lenAll : (G.length + (1 + (outL p x2).length)) + (play (Sw82.step p x2).1 todo).length ≤ 10000000 := by
          have h5 := e5
          rw [L.eq, play_cons, List.length_append, List.length_cons, List.length_append] at h5
          omega
        refine ⟨_, rfl, .inl ⟨rfl, _, .inl (.inl g4)⟩, _, rfl, ra, _, rfl, .inl (.of ea), g, _, _, rfl, rfl, g4, ?_, ?_⟩
        · rw [List.length_map]
          show G.length < 2 ^ 24
          omega
        refine ⟨_, rfl, .inl ⟨rfl, _, .inl (.inl upd_same)⟩, _, rfl, g, ra, _, _, rfl, rfl, upd_same, up_a ea gra.symm, ?_, ?_⟩
        · rw [List.length_append, List.length_map, List.length_map]
          show G.length + 1 + _ ≤ 2 ^ 24
          omega
        refine ⟨_, rfl, done ++ [x2], todo, G ++ ((outL p x2).length : Int) :: outL p x2, (Sw82.step p x2).1, some (.int (((done.map enc).flatten.length + (kk :: r).length : Nat) : Int)), some (.ref ra), rfl, ?_, ?_, ?_⟩
        · rw [ec, List.append_assoc] <;> rfl
        · have e9 : ((done ++ [x2]).map enc).flatten.length = (done.map enc).flatten.length + (kk :: r).length := by
            rw [List.map_append, List.flatten_append, List.length_append, List.map_cons, List.map_nil, List.flatten_cons, List.flatten_nil, List.append_nil, ek]
          rw [e9] <;> rfl
        · have keep6 : ∀ b o, H4 b = some o → b ≠ g → upd (upd H4 g (.lst (G.map V.int ++ [V.int (((outL p x2).map V.int).length : Nat)]))) g (.lst (G.map V.int ++ [V.int (((outL p x2).map V.int).length : Nat)] ++ (outL p x2).map V.int)) b = some o := fun b o h n => up_a (up_a h n) n
          have sm : Ext H (upd H2 row (.lst (r.map V.int))) := L.same.trans (Same.ext (same_new hrow))
          have ng4 : g ∉ D4.five := fun z => by
            rcases m4.five g z with z | z
            · exact ng z
            · rw [g3] at z
              cases z
          have sm4 : Ext H H4 := fun b o h hn => by
            refine m4.keep b o (sm b o h hn) hn (ne_of_none h hx) fun z => ?_
            obtain ⟨ps, hp⟩ := n0 b z o h
            exact hn ps hp
          have t5 : TabH Tb (upd H4 g (.lst (G.map V.int ++ [V.int (((outL p x2).map V.int).length : Nat)]))) := T4.putL g4
          refine ⟨⟨D4, ?_, ?_, ng4⟩, step_wf L.wf x2, ?_, t5.putL upd_same, L.g0, ?_, ?_⟩
          · have ne5 : ∀ b, b ∈ D4.five → b ≠ g := fun b hb z => ng4 (z ▸ hb)
            obtain ⟨ts, e6, e6'⟩ := d4.w
            obtain ⟨us, e7, e7'⟩ := d4.p
            obtain ⟨kvs, e8, e8'⟩ := d4.s
            have kt : ∀ t l', H4 t = some (.tup l') → _ = some (HO.tup l') := fun t l' h => keep6 t _ h (ne_of h g4 (by intro z; cases z))
            exact ⟨keep6 _ _ d4.ins hgx.symm, keep6 _ _ d4.r (ne5 _ (five_r D4)), keep6 _ _ d4.b (ne5 _ (five_b D4)), keep6 _ _ d4.h (ne5 _ (five_h D4)), ⟨ts, keep6 _ _ e6 (ne5 _ (five_w D4)), e6'.mono kt⟩, ⟨kvs, keep6 _ _ e8 (ne5 _ (five_s D4)), e8'⟩, ⟨us, keep6 _ _ e7 (ne5 _ (five_p D4)), e7'.mono kt⟩, d4.nd⟩
          · intro b hb
            rcases m4.five b hb with z | z
            · exact n0 b z
            · exact NewT.back sm (NewT.of_none z)
          · intro b o h hn
            exact keep6 b o (sm4 b o h hn) (ne_of_none h L.g0)
          · rw [upd_same, List.map_append, List.append_assoc, List.length_map] <;> rfl
          · rw [L.eq, play_cons, List.append_assoc] <;> rfl
end
end Du

/-! # depot.py: a call's end, lists behind their lengths, check's pieces -/
namespace Du
open PySem PySem.Spec PyProof.Rows L2
open Sw82 (Call Plan Work Rules Best)
abbrev sEndOf : Stmt := top 55
abbrev sWith : Stmt := top 56
abbrev sAre : Stmt := top 57
def behind : List Int := [9, 3, 3, 4, 1, 1, 0, 0]
structure TxN (K : PySem.W.Frag) (mg : Str → Option Value) : Prop where
  g : ∃ a, mg "NUMBERS_BEHIND" = some (.ref a) ∧ ∀ H : Hp, SqT K H a (behind.map V.int)
def spWith : Sp := fun vs H Q _ => ∃ (l : Addr) (ns : List Int), vs = [.ref l] ∧ H l = some (.lst (ns.map V.int)) ∧ ns.length ≤ 10000 ∧ ∀ (H' : Hp) (r : Addr), Same H H' → H r = none → H' r = some (.lst (((ns.length : Int) :: ns).map V.int)) → Q (.ref r) H'
def spAre : Sp := fun vs H Q _ => ∃ (lc : Addr) (ns : List Nat) (n : Nat), vs = [.ref lc, vN n] ∧ H lc = some (.lst (ns.map vN)) ∧ ns.length ≤ 1000 ∧ Q (.bl (Sw82.rising ns && (!ns.isEmpty && ns.all fun i => decide (i < n)))) H
section
variable {P : Program} {w : World} {K : PySem.W.Frag} {mg : Str → Option Value} {base : Heap} {C CD CP : Addr}
theorem scEndOf : FnScope ["calls", "at", "end"] ["calls", "at"] (defScope sEndOf) := ⟨rfl, rfl, rfl, by decide +kernel, rfl, by decide +kernel, by decide +kernel⟩
theorem ok_endof {f : Addr} {fd : FuncData} (F : Fun K "end_of_call" "end_of_call" sEndOf f fd) (TN : TxN K mg) (U : Txk mg) : FnOk P w K mg base CX0 1 f fd ["calls", "at"] (spEnd K) := by
  obtain ⟨aN, gN, hN⟩ := TN.g
  obtain ⟨t5, g5⟩ := U.g "CHECK" 5 (by decide +kernel)
  refine F.ok scEndOf (fun vs H Q E h => ?_) (fun cdv A outer s H vs Q E hr h => ⟨_, pss_cons (ps_set (i := 2) scEndOf.nd rfl (Or.inl rfl) (pe_op op_add (pe_op op_add (pv 1) pe_int) (pe_ix ix_tup (pe_glob (v := .ref aN) rfl gN rfl) (pe_ix ix_list (pv 0) (pv 1) (fun _ _ => rfl)) (fun _ _ => rfl))))
    (pss_cons (ps_if (pt_cmpR op_eq (pe_ix ix_list (pv 0) (pv 1) (fun _ _ => rfl)) (pe_glob (v := .int 5) rfl g5 ⟨_, rfl⟩) (nomark _)) (pss_one (ps_set (i := 2) scEndOf.nd rfl (Or.inl rfl) (pe_op op_add (pv 2) (pe_ix ix_list (pv 0) (pe_op op_add (pv 1) pe_int) (fun _ _ => rfl))))) pss_nil)
    (pss_one (ps_ret (pv 2)))), ?_⟩)
  · obtain ⟨l, pre, rest, x, rfl, _⟩ := h
    rfl
  · obtain ⟨l, pre, rest, x, rfl, hl, fx, q⟩ := h
    have key : ∀ (k : Nat) (r : List Int) (b : Int), enc x = (k : Int) :: r → behind[k]? = some b → k ≠ 5 → b = r.length → Q (.int ((pre.length + (enc x).length : Nat) : Int)) H →
        tSeq (tAsg (tOp (rI0 fun i j => V.int (i + j)) (tOp (rI0 fun i j => V.int (i + j)) (tVar 1) (tC (V.int 1))) (tOp (rIxT K) (tC (V.ref aN)) (tOp (rIxL K) (tVar 0) (tVar 1)))) (gName 2))
          (tSeq (tIfS (tTest (tOp rEq (tOp (rIxL K) (tVar 0) (tVar 1)) (tC (V.int 5)))) (tAsg (tOp (rI0 fun i j => V.int (i + j)) (tVar 2) (tOp (rIxL K) (tVar 0) (tOp (rI0 fun i j => V.int (i + j)) (tVar 1) (tC (V.int 1))))) (gName 2)) tNext) (tRet (tVar 2)))
          { nx := fun _ H' => Q .non H', rt := Q } [some (.ref l), some (.int (pre.length : Nat)), none] H := fun k r b ek hb hk hbr q => by
      rw [ek] at hl q
      have hat := at_pre (pre := pre) (rest := rest) (k := (k : Int)) (r := r)
      refine ⟨_, rfl, _, _, rfl, rfl, _, rfl, _, rfl, l, _, _, _, rfl, rfl, hl, atI_nat hat, aN, _, _, .int b, rfl, rfl, hN H, atI_nat (by unfold behind at hb ⊢; rw [List.getElem?_map, hb] <;> rfl), _, _, rfl, rfl, ?_⟩
      refine ⟨_, rfl, _, rfl, l, _, _, _, rfl, rfl, hl, atI_nat hat, rfl, _, rfl, ?_⟩
      refine ifF ((eq_nat k 5).trans (decide_eq_false hk)) ?_
      refine ⟨_, rfl, ?_⟩
      have e : ((pre.length + ((k : Int) :: r).length : Nat) : Int) = (pre.length : Int) + 1 + b := by
        rw [hbr, List.length_cons]
        omega
      rw [e] at q
      exact q
    cases x with
    | begins r => exact key 0 _ 9 rfl rfl (by decide) rfl q
    | place i b h => exact key 1 _ 3 rfl rfl (by decide) rfl q
    | way a b n => exact key 2 _ 3 rfl rfl (by decide) rfl q
    | work v => exact key 3 _ 4 rfl rfl (by decide) rfl q
    | drop k => exact key 4 _ 1 rfl rfl (by decide) rfl q
    | best => exact key 6 _ 0 rfl rfl (by decide) rfl q
    | never => exact key 7 _ 0 rfl rfl (by decide) rfl q
    | check ls =>
      have ek : enc (.check ls) = (5 : Int) :: ((ls.length : Int) :: ls.map fun (n : Nat) => (n : Int)) := rfl
      rw [ek] at hl q
      have hat := at_pre (pre := pre) (rest := rest) (k := (5 : Int)) (r := (ls.length : Int) :: ls.map fun (n : Nat) => (n : Int))
      have hat2 : ((pre ++ ((5 : Int) :: ((ls.length : Int) :: ls.map fun (n : Nat) => (n : Int)) ++ rest)).map V.int)[pre.length + 1]? = some (.int (ls.length : Int)) := by
        rw [List.getElem?_map, List.getElem?_append_right (by omega)]
        have e0 : pre.length + 1 - pre.length = 1 := by omega
        rw [e0] <;> rfl
      refine ⟨_, rfl, _, _, rfl, rfl, _, rfl, _, rfl, l, _, _, _, rfl, rfl, hl, atI_nat hat, aN, _, _, .int 1, rfl, rfl, hN H, atI_nat (j := 5) rfl, _, _, rfl, rfl, ?_⟩
      refine ⟨_, rfl, _, rfl, l, _, _, _, rfl, rfl, hl, atI_nat hat, rfl, _, rfl, ?_⟩
      refine ifT (decide_eq_true rfl) ?_
      refine ⟨_, rfl, _, rfl, _, rfl, _, _, rfl, rfl, l, _, _, .int (ls.length : Int), rfl, rfl, hl, ?_, _, _, rfl, rfl, ?_⟩
      · have e1 : ((pre.length : Int) + 1) = ((pre.length + 1 : Nat) : Int) := by omega
        show atI _ ((pre.length : Int) + 1) = _
        rw [e1]
        exact atI_nat hat2
      refine ⟨_, rfl, ?_⟩
      have e : ((pre.length + ((5 : Int) :: ((ls.length : Int) :: ls.map fun (n : Nat) => (n : Int))).length : Nat) : Int) = (pre.length : Int) + 1 + 1 + (ls.length : Int) := by
        rw [List.length_cons, List.length_cons, List.length_map]
        omega
      rw [e] at q
      exact q
theorem scWith : FnScope ["numbers"] ["numbers"] (defScope sWith) := ⟨rfl, rfl, rfl, by decide +kernel, rfl, by decide +kernel, by decide +kernel⟩
theorem ok_with {f : Addr} {fd : FuncData} (F : Fun K "with_length" "with_length" sWith f fd) (U : Txk mg) : FnOk P w K mg base CX0 1 f fd ["numbers"] spWith := by
  refine F.ok scWith (fun vs H Q E h => ?_) (fun cdv A outer s H vs Q E hr h => ⟨_, pss_one (ps_ret (pe_op op_cat (pe_lst (pa_cons (pe_callB call_len_seq (by rfl) U.len PySem.boot_len (pa_cons (pv 0) pa_nil)) pa_nil)) (pv 0))), ?_⟩)
  · obtain ⟨l, ns, rfl, _⟩ := h
    rfl
  · obtain ⟨l, ns, rfl, hl, hz, q⟩ := h
    refine ⟨_, rfl, l, _, rfl, .inl (.of hl), by show 1 ≤ sizeLine; decide, fun a ha => ?_⟩
    refine ⟨_, rfl, a, l, _, _, rfl, rfl, upd_same, up_n hl ha, ?_, fun r hr => ?_⟩
    · rw [List.length_map]
      show 1 + ns.length ≤ sizeLine
      exact Nat.le_trans (by omega : 1 + ns.length ≤ 10001) (by decide)
    · refine q _ r ((same_new ha).trans (same_new hr)) ((same_new ha).free hr) ?_
      rw [upd_same, List.length_map] <;> rfl
theorem scAre : FnScope ["chosen", "there_are", "at"] ["chosen", "there_are"] (defScope sAre) := ⟨rfl, rfl, rfl, by decide +kernel, rfl, by decide +kernel, by decide +kernel⟩
theorem natD {l : List Nat} {i : Nat} (h : i < l.length) : (l.map vN)[i]? = some (vN (l.getD i 0)) := by
  rw [List.getElem?_map, List.getD_eq_getElem?_getD, List.getElem?_eq_getElem h] <;> rfl
theorem ok_are {f : Addr} {fd : FuncData} (F : Fun K "are_pieces" "are_pieces" sAre f fd) (U : Txk mg) : FnOk P w K mg base CX0 1 f fd ["chosen", "there_are"] spAre := by
  refine F.ok scAre (fun vs H Q E h => ?_) (fun cdv A outer s H vs Q E hr h => ⟨_, pss_cons (ps_for PassesOwn.never rfl (pi_range2 (by rfl) U.range (pa_cons pe_int (pa_cons (pe_callB call_len_seq (by rfl) U.len PySem.boot_len (pa_cons (pv 0) pa_nil)) pa_nil))) (pg_name (i := 2) scAre.nd rfl (Or.inl rfl))
      (pss_one (ps_if (pt_cmpR op_ge (pe_ix ix_list (pv 0) (pe_op op_sub (pv 2) pe_int) (fun _ _ => rfl)) (pe_ix ix_list (pv 0) (pv 2) (fun _ _ => rfl)) (nomark _)) (pss_one (ps_ret pe_bl)) pss_nil)))
    (pss_one (ps_ret (pe_and (pe_cmpR op_gt (pe_callB call_len_seq (by rfl) U.len PySem.boot_len (pa_cons (pv 0) pa_nil)) pe_int (nomark _)) (pe_one (pe_cmpR op_lt (pe_ix ix_list (pv 0) (pe_un un_neg pe_int) (fun _ _ => rfl)) (pv 1) (nomark _)))))), ?_⟩)
  · obtain ⟨lc, ns, n, rfl, _⟩ := h
    rfl
  · obtain ⟨lc, ns, n, rfl, hl, hz, q⟩ := h
    have el : (ns.map vN).length = ns.length := List.length_map ..
    refine ⟨_, rfl, lc, _, rfl, .inl (.of hl), (1 : Int), ((ns.length : Nat) : Int), by rw [el], ⟨by decide, by decide, by omega, by omega⟩, ?_⟩
    have hn : (((ns.length : Nat) : Int) - 1).toNat = ns.length - 1 := by omega
    rw [hn]
    refine for_range (lo := 1) (n := ns.length - 1) (fun i σ H' => H' = H ∧ ∃ v2 : Option V, σ = [some (.ref lc), some (vN n), v2] ∧ ∀ j, j < i → ns.getD j 0 < ns.getD (j + 1) 0) ⟨rfl, none, rfl, fun j hj => by omega⟩ (fun i σ H' hi hp => ?_) fun σ H' hp => ?_
    · obtain ⟨rfl, v2, rfl, hj⟩ := hp
      have x1 : (1 : Int) + (i : Int) - 1 = ((i : Nat) : Int) := by omega
      have x2 : (1 : Int) + (i : Int) = ((i + 1 : Nat) : Int) := by omega
      refine ⟨_, rfl, _, rfl, _, _, rfl, rfl, lc, _, _, vN (ns.getD i 0), rfl, rfl, .of hl, ?_, _, rfl, _, rfl, lc, _, _, vN (ns.getD (i + 1) 0), rfl, rfl, .of hl, ?_, _, _, rfl, rfl, _, rfl, ?_⟩
      · show atI _ ((1 : Int) + (i : Int) - 1) = _
        rw [x1]
        exact atI_nat (natD (by omega))
      · rw [x2]
        exact atI_nat (natD (by omega))
      by_cases hc : ns.getD i 0 < ns.getD (i + 1) 0
      · refine ifF (decide_eq_false (by omega)) ⟨rfl, _, rfl, fun j hj2 => ?_⟩
        by_cases e : j = i
        · subst e
          exact hc
        · exact hj j (by omega)
      · refine ifT (decide_eq_true (by omega)) ?_
        have hr : Sw82.rising ns = false := by
          cases z : Sw82.rising ns with
          | false => rfl
          | true => exact (hc (rising_at.mp z i (by omega))).elim
        rw [hr, Bool.false_and] at q
        exact q
    · obtain ⟨rfl, v2, rfl, hj⟩ := hp
      have hr : Sw82.rising ns = true := rising_at.mpr fun j hj2 => hj j (by omega)
      rw [hr, Bool.true_and] at q
      refine ⟨_, rfl, lc, _, rfl, .inl (.of hl), _, _, rfl, rfl, _, rfl, ?_⟩
      by_cases hne : ns = []
      · subst hne
        exact ifF (decide_eq_false (by show ¬ (0 : Int) < ((([] : List Nat).map vN).length : Nat); simp)) q
      · have hp : 0 < ns.length := List.length_pos_iff.mpr hne
        refine ifT (decide_eq_true (by show (0 : Int) < ((ns.map vN).length : Nat); rw [el]; omega)) ?_
        have he : ns.isEmpty = false := by
          cases ns with
          | nil => exact (hne rfl).elim
          | cons _ _ => rfl
        rw [he, last_all hr hne] at q
        refine ⟨_, rfl, _, rfl, lc, _, _, vN (ns.getLast hne), rfl, rfl, .of hl, atI_neg1 ?_, _, rfl, _, _, rfl, rfl, ?_⟩
        · rw [el, natD (by omega), List.getD_eq_getElem?_getD, List.getElem?_eq_getElem (by omega), List.getLast_eq_getElem] <;> rfl
        · have e : decide (((ns.getLast hne : Nat) : Int) < (n : Int)) = decide (ns.getLast hne < n) := by
            by_cases z : ns.getLast hne < n
            · rw [decide_eq_true z, decide_eq_true (by omega)]
            · rw [decide_eq_false z, decide_eq_false (by omega)]
          show Q (.bl (decide (((ns.getLast hne : Nat) : Int) < (n : Int)))) _
          rw [e]
          exact q
end
end Du

/-! # depot.py: check, never -/
namespace Du
open PySem PySem.Spec PyProof.Rows L2
open Sw82 (Call Plan Work Rules Best)
abbrev sCheck : Stmt := top 58
abbrev sBestD : Stmt := top 59
abbrev sNeverD : Stmt := top 60
/-- a call that changes nothing: its answer, a new list -/
def AnsNew (Tb : Addr) (H : Hp) (p : Plan) (x : Call) (Q : VK) : Prop := ∀ (H' : Hp) (r : Addr), Ext H H' → TabH Tb H' → NewT H r → H' r = some (.lst ((outL p x).map V.int)) → Q (.ref r) H'
def spCheck (C Tb : Addr) : Sp := fun vs H Q _ => ∃ (a lc : Addr) (D : Own) (p : Plan) (ns : List Nat), vs = [.ref a, .ref lc] ∧ Dep C H a D p ∧ Wf p ∧ H lc = some (.lst (ns.map vN)) ∧ ns.length ≤ 20 ∧ TabH Tb H ∧ AnsNew Tb H p (.check ns) Q
def spNeverD (C Tb : Addr) : Sp := fun vs H Q _ => ∃ (a : Addr) (D : Own) (p : Plan), vs = [.ref a] ∧ Dep C H a D p ∧ Wf p ∧ TabH Tb H ∧ AnsNew Tb H p .never Q
theorem out_never (p : Plan) : outL p .never = ((p.never.length : Int) :: ((p.never.length : Int) :: p.never.map fun (n : Nat) => (n : Int))) := by
  show ((p.never.length : Nat) : Int) :: (([Sw82.ints p.never]).flatMap fun w => (w.length : Int) :: w) = _
  unfold Sw82.ints
  simp
theorem out_check_no {p : Plan} {ns : List Nat} (h : checkOk p ns = false) : outL p (.check ns) = [-2] := by
  have h' : (Sw82.rising ns && (!ns.isEmpty && ns.all fun i => decide (i < p.works.length))) = false := h
  unfold outL Sw82.step
  dsimp only
  rw [if_pos h'] <;> rfl
theorem out_check {p : Plan} {ns : List Nat} (h : checkOk p ns = true) : outL p (.check ns) = ((p.wrong ((p.inOrder ns).map p.work) : Nat) : Int) :: (if p.wrong ((p.inOrder ns).map p.work) = 1 ∨ p.wrong ((p.inOrder ns).map p.work) = 2 then [] else [Sw82.dutyOut p (p.inOrder ns), [(Plan.worked ((p.inOrder ns).map p.work) : Int), (p.driveFrom 0 ((p.inOrder ns).map p.work) : Int)]]).flatMap fun w => (w.length : Int) :: w := by
  have hn : ¬ (Sw82.rising ns && (!ns.isEmpty && ns.all fun i => decide (i < p.works.length))) = false := by
    have h' : (Sw82.rising ns && (!ns.isEmpty && ns.all fun i => decide (i < p.works.length))) = true := h
    rw [h']
    decide
  unfold outL Sw82.step
  dsimp only
  rw [if_neg hn] <;> rfl
theorem dutyOut_is {p : Plan} {m : List Nat} {d : Sw82.Duty} (h : p.duty (m.map p.work) = some d) : Sw82.dutyOut p m = [(d.home : Int), d.start, d.halt_, (p.pay (m.map p.work) : Int)] ++ m.map fun (n : Nat) => (n : Int) := by
  unfold Sw82.dutyOut
  rw [h] <;> rfl
theorem wF_told (lo : Addr) (h : Nat) (b e : Int) (pay wk ub wr : Nat) : (wF lo h b e pay wk ub wr).lookup ("told" : Str) = none :=
  (lk_past (by decide +kernel)).trans ((lk_past (by decide +kernel)).trans ((lk_past (by decide +kernel)).trans ((lk_past (by decide +kernel)).trans ((lk_past (by decide +kernel)).trans ((lk_past (by decide +kernel)).trans ((lk_past (by decide +kernel)).trans ((lk_past (by decide +kernel)).trans rfl)))))))
section
variable {P : Program} {w : World} {K : PySem.W.Frag} {mg : Str → Option Value} {base : Heap} {C CD CP : Addr}
theorem scNeverD : FnScope ["depot", "numbers"] ["depot"] (defScope sNeverD) := ⟨rfl, rfl, rfl, by decide +kernel, rfl, by decide +kernel, by decide +kernel⟩
theorem ok_neverD {f fN fW Tb : Addr} {fd fdN fdW : FuncData} (F : Fun K "never" "never" sNeverD f fd) (U : Txk mg)
    (GN : FnOk P w K mg base CX0 7 fN fdN ["depot"] (spNever C Tb)) (gN : mg "pieces_never_done" = some (.ref fN)) (kN : PySem.W.keepIn K (.ref fN) = true) (bN : Binds K fdN ["depot"] [])
    (GW : FnOk P w K mg base CX0 1 fW fdW ["numbers"] spWith) (gW : mg "with_length" = some (.ref fW)) (kW : PySem.W.keepIn K (.ref fW) = true) (bW : Binds K fdW ["numbers"] []) :
    FnOk P w K mg base CX0 8 f fd ["depot"] (spNeverD C Tb) := by
  refine F.ok scNeverD (fun vs H Q E h => ?_) (fun cdv A outer s H vs Q E hr h => ⟨_, pss_cons (ps_set (i := 1) scNeverD.nd rfl (Or.inl rfl) (pe_call GN hr rfl gN kN bN .nil pass0 (pa_cons (pv 0) pa_nil)))
    (pss_one (ps_ret (pe_op op_cat (pe_lst (pa_cons (pe_callB call_len_seq (by rfl) U.len PySem.boot_len (pa_cons (pv 1) pa_nil)) pa_nil)) (pe_call GW (hr.mono (by decide)) rfl gW kW bW .nil pass0 (pa_cons (pv 1) pa_nil))))), ?_⟩)
  · obtain ⟨a, D, p, rfl, _⟩ := h
    rfl
  · obtain ⟨a, D, p, rfl, d, W, hT, q⟩ := h
    have h7 := W.worksLen
    have hnl : p.never.length ≤ 7 := by
      have := List.length_filter_le (fun i => (List.range (2 ^ p.works.length)).all fun g => !g.testBit i || p.wrong (p.works_ g) != 0) (List.range p.works.length)
      rw [List.length_range] at this
      exact Nat.le_trans this h7
    refine ⟨_, rfl, a, D, p, rfl, d, W, hT, fun H1 ln e1 T1 nl hl => ?_⟩
    have el : (p.never.map vN).length = p.never.length := List.length_map ..
    refine ⟨_, rfl, ln, _, rfl, .inl (.of hl), by show 1 ≤ sizeLine; decide, fun l1 h1 => ?_⟩
    have s1 : Same H1 (upd H1 l1 (.lst [V.int ((p.never.map vN).length : Nat)])) := same_new h1
    refine ⟨_, rfl, ln, p.never.map fun (n : Nat) => (n : Int), rfl, by rw [← map_vN]; exact s1 _ _ hl, by rw [List.length_map]; omega, fun H2 l2 s2 h2 hl2 => ?_⟩
    refine ⟨l1, l2, _, _, rfl, rfl, s2 _ _ upd_same, hl2, ?_, fun r hr => ?_⟩
    · simp only [List.length_map, List.length_cons, List.length_nil]
      exact Nat.le_trans (by omega : _ ≤ 1000) (by decide)
    · have sm : Same H1 (upd H2 r (.lst ([V.int ((p.never.map vN).length : Nat)] ++ ((((p.never.map fun (n : Nat) => (n : Int)).length : Int) :: p.never.map fun (n : Nat) => (n : Int)).map V.int)))) := (s1.trans s2).trans (same_new hr)
      refine q _ r (e1.trans (Same.ext sm)) (T1.ext sm) (NewT.back e1 (NewT.of_none ((s1.trans s2).free hr))) ?_
      rw [upd_same, out_never, el, List.length_map] <;> rfl
theorem scCheck : FnScope ["depot", "chosen", "duty"] ["depot", "chosen"] (defScope sCheck) := ⟨rfl, rfl, rfl, by decide +kernel, rfl, by decide +kernel, by decide +kernel⟩
theorem ok_check {f fA fD fT fW Tb : Addr} {fd fdA fdD fdT fdW : FuncData} (F : Fun K "check" "check" sCheck f fd) (T : Txt K mg C) (TD : TxD K mg CD) (U : Txk mg)
    (GA : FnOk P w K mg base CX0 1 fA fdA ["chosen", "there_are"] spAre) (gA : mg "are_pieces" = some (.ref fA)) (kA : PySem.W.keepIn K (.ref fA) = true) (bA : Binds K fdA ["chosen", "there_are"] [])
    (MD : Mk K CD fD) (GD : FnOk P w K mg base CX0 4 fD fdD ["self", "depot", "chosen"] (spDuty C CD Tb)) (bD : Binds K fdD ["self", "depot", "chosen"] [])
    (GT : FnOk P w K mg base CX0 1 fT fdT ["self"] (spTold CD)) (mT : Meth K CD "told" fT) (bT : Binds K fdT ["self"] [])
    (GW : FnOk P w K mg base CX0 1 fW fdW ["numbers"] spWith) (gW : mg "with_length" = some (.ref fW)) (kW : PySem.W.keepIn K (.ref fW) = true) (bW : Binds K fdW ["numbers"] []) :
    FnOk P w K mg base CX0 6 f fd ["depot", "chosen"] (spCheck C Tb) := by
  obtain ⟨t1, g1⟩ := U.g "NO_GAP" 1 (by decide +kernel)
  obtain ⟨t2, g2⟩ := U.g "NO_HOME" 2 (by decide +kernel)
  refine F.ok scCheck (fun vs H Q E h => ?_) (fun cdv A outer s H vs Q E hr h => ⟨_, pss_cons (ps_if (pt_not (pt_val (pe_call GA (hr.mono (by decide)) rfl gA kA bA .nil pass0 (pa_cons (pv 1) (pa_cons (pe_callB call_len_seq (by rfl) U.len PySem.boot_len (pa_cons (pe_fld (pv 0) rfl) pa_nil)) pa_nil))))) (pss_one (ps_ret (pe_lst (pa_cons (pe_un un_neg pe_int) pa_nil)))) pss_nil)
    (pss_cons (ps_set (i := 2) scCheck.nd rfl (Or.inl rfl) (pe_make MD GD hr rfl TD.gC bD .nil pass0 (pa_cons (pv 0) (pa_cons (pv 1) pa_nil))))
    (pss_cons (ps_if (PW.pt (pw_or (pt_cmpR op_eq (pe_fld (pv 2) rfl) (pe_glob (v := .int 1) rfl g1 ⟨_, rfl⟩) (nomark _)) (pw_or1 (pt_cmpR op_eq (pe_fld (pv 2) rfl) (pe_glob (v := .int 2) rfl g2 ⟨_, rfl⟩) (nomark _))))) (pss_one (ps_ret (pe_lst (pa_cons (pe_fld (pv 2) rfl) pa_nil)))) pss_nil)
    (pss_one (ps_ret (pe_op op_cat (pe_op op_cat (pe_lst (pa_cons (pe_fld (pv 2) rfl) pa_nil)) (pe_call GW (hr.mono (by decide)) rfl gW kW bW .nil pass0 (pa_cons (pe_meth0 (pv 2) TD.cl mT GT (hr.mono (by decide)) bT .nil pass0) pa_nil)))
      (pe_call GW (hr.mono (by decide)) rfl gW kW bW .nil pass0 (pa_cons (pe_lst (pa_cons (pe_fld (pv 2) rfl) (pa_cons (pe_fld (pv 2) rfl) pa_nil))) pa_nil))))))), ?_⟩)
  · obtain ⟨a, lc, D, p, ns, rfl, _⟩ := h
    rfl
  · obtain ⟨a, lc, D, p, ns, rfl, d, W, hlc, h20, hT, q⟩ := h
    obtain ⟨us, p1, p2⟩ := d.p
    have lus : (us.map V.ref).length = p.works.length := by rw [List.length_map, p2.len, List.length_map]
    refine ⟨_, rfl, _, rfl, a, C, D.dx, _, _, rfl, d.ins, T.cl, T.nP, dF_pieces D, D.lp, _, rfl, .inl (.of p1), lc, ns, p.works.length, by rw [lus] <;> rfl, hlc, by omega, _, rfl, ?_⟩
    cases hck : checkOk p ns with
    | false =>
      refine ifT (not_of (c := false) hck) ?_
      refine ⟨(2 : Int), rfl, by show 1 ≤ sizeLine; decide, fun r hr => ?_⟩
      refine q _ r (Same.ext (same_new hr)) (hT.ext (same_new hr)) (NewT.of_none hr) ?_
      rw [upd_same, out_check_no hck] <;> rfl
    | true =>
      refine ifF (not_of (c := true) hck) ?_
      have hck' := hck
      unfold checkOk at hck'
      rw [Bool.and_eq_true, Bool.and_eq_true] at hck'
      obtain ⟨c1, c2, c3⟩ := hck'
      have hnd : ns.Nodup := ((rising_pairwise ns).mp c1).imp fun {x y} h => Nat.ne_of_lt h
      have hne : ns ≠ [] := fun z => by
        rw [z] at c2
        cases c2
      have hlt : ∀ n ∈ ns, n < p.works.length := fun n hn => of_decide_eq_true (List.all_eq_true.mp c3 n hn)
      refine ⟨_, rfl, _, rfl, ?_⟩
      intro x dx hx hdx hne2
      have s2 : Same H (upd (upd H dx (.own x)) x (.ins CD dx [])) := (same_new hdx).trans (same_new (by rw [upd_ne hne2.symm]; exact hx))
      refine ⟨x, dx, a, lc, D, p, ns, rfl, upd_same, d.same s2, W, s2 _ _ hlc, hnd, hne, hlt, hT.ext s2, fun H3 lo k3 T3 nlo du => ⟨rfl, ?_⟩⟩
      have e3 : Ext H H3 := fun b o hb hn => k3 _ _ (s2 _ _ hb) hn (ne_of_none hb hx)
      obtain ⟨dx3, fs3, x3, w3⟩ := du.wrong
      have hml : (p.inOrder ns).length = ns.length := (order_perm p ns).length_eq
      have hout := out_check hck
      have fin1 : p.wrong ((p.inOrder ns).map p.work) = 1 ∨ p.wrong ((p.inOrder ns).map p.work) = 2 → ∀ r, H3 r = none → Q (.ref r) (upd H3 r (.lst [vN (p.wrong ((p.inOrder ns).map p.work))])) := fun hw r hr => by
        refine q _ r (e3.trans (Same.ext (same_new hr))) (T3.ext (same_new hr)) (NewT.back e3 (NewT.of_none hr)) ?_
        rw [upd_same, hout, if_pos hw] <;> rfl
      refine ⟨_, rfl, x, CD, dx3, fs3, _, rfl, x3, TD.cl, TD.nW, w3, rfl, _, rfl, ?_⟩
      by_cases hw1 : p.wrong ((p.inOrder ns).map p.work) = 1
      · refine ifT ((eq_nat _ 1).trans (decide_eq_true hw1)) ?_
        refine ifT rfl ?_
        exact ⟨_, rfl, x, CD, dx3, fs3, _, rfl, x3, TD.cl, TD.nW, w3, by show 1 ≤ sizeLine; decide, fun r hr => fin1 (.inl hw1) r hr⟩
      refine ifF ((eq_nat _ 1).trans (decide_eq_false hw1)) ?_
      refine ⟨_, rfl, x, CD, dx3, fs3, _, rfl, x3, TD.cl, TD.nW, w3, rfl, _, rfl, ?_⟩
      by_cases hw2 : p.wrong ((p.inOrder ns).map p.work) = 2
      · refine ifT ((eq_nat _ 2).trans (decide_eq_true hw2)) ?_
        exact ⟨_, rfl, x, CD, dx3, fs3, _, rfl, x3, TD.cl, TD.nW, w3, by show 1 ≤ sizeLine; decide, fun r hr => fin1 (.inr hw2) r hr⟩
      refine ifF ((eq_nat _ 2).trans (decide_eq_false hw2)) ?_
      obtain ⟨dx4, r1, ⟨r2, _⟩ | ⟨_, _, dd, r4, r5⟩⟩ := du
      · rcases r2 with r2 | r2
        · exact (hw1 r2).elim
        · exact (hw2 r2).elim
      have hdo := dutyOut_is r4
      rw [if_neg (by rintro (z | z); exact hw1 z; exact hw2 z)] at hout
      generalize p.inOrder ns = m at *
      have tl := wF_told lo dd.home dd.start dd.halt_ (p.pay (m.map p.work)) (Plan.worked (m.map p.work)) (p.driveFrom 0 (m.map p.work)) (p.wrong (m.map p.work))
      have ww := wF_wrong lo dd.home dd.start dd.halt_ (p.pay (m.map p.work)) (Plan.worked (m.map p.work)) (p.driveFrom 0 (m.map p.work)) (p.wrong (m.map p.work))
      refine ⟨_, rfl, x, CD, dx4, _, _, rfl, r5, TD.cl, TD.nW, ww, by show 1 ≤ sizeLine; decide, fun l1 h1 => ?_⟩
      have s1 : Same H3 (upd H3 l1 (.lst [vN (p.wrong (m.map p.work))])) := same_new h1
      refine ⟨_, rfl, x, dx4, _, rfl, s1 _ _ r5, tl, x, dx4, lo, dd.home, dd.start, dd.halt_, _, _, _, _, m, rfl, s1 _ _ r5, s1 _ _ r1, by omega, fun H4 rt s4 n4 e4 => ?_⟩
      refine ⟨rt, _, rfl, e4, ?_, fun H5 r5' s5 n5 e5 => ?_⟩
      · rw [List.length_append, List.length_map]
        show 4 + m.length ≤ 10000
        omega
      have s15 : Same H3 H5 := (s1.trans s4).trans s5
      have l15 : H5 l1 = some (.lst [vN (p.wrong (m.map p.work))]) := s5 _ _ (s4 _ _ upd_same)
      refine ⟨l1, r5', _, _, rfl, rfl, l15, e5, ?_, fun l6 h6 => ?_⟩
      · simp only [List.length_map, List.length_cons, List.length_append, List.length_nil]
        exact Nat.le_trans (by omega : _ ≤ 1000) (by decide)
      have s6 : Same H3 (upd H5 l6 (.lst ([vN (p.wrong (m.map p.work))] ++ ((((([(dd.home : Int), dd.start, dd.halt_, (p.pay (m.map p.work) : Int)] ++ m.map fun (n : Nat) => (n : Int)).length : Nat) : Int) :: ([(dd.home : Int), dd.start, dd.halt_, (p.pay (m.map p.work) : Int)] ++ m.map fun (n : Nat) => (n : Int))).map V.int)))) := s15.trans (same_new h6)
      refine ⟨_, rfl, x, CD, dx4, _, _, rfl, s6 _ _ r5, TD.cl, TD.nK, bF_worked _ _ _ _ _ _ _ _, _, rfl, x, CD, dx4, _, _, rfl, s6 _ _ r5, TD.cl, TD.nU, bF_unbroken _ _ _ _ _ _ _ _, by show 2 ≤ sizeLine; decide, fun l7 h7 => ?_⟩
      refine ⟨l7, [(Plan.worked (m.map p.work) : Int), (p.driveFrom 0 (m.map p.work) : Int)], rfl, upd_same, by show 2 ≤ 10000; decide, fun H8 r8 s8 n8 e8 => ?_⟩
      refine ⟨l6, r8, _, _, rfl, rfl, s8 _ _ (up_n upd_same h7), e8, ?_, fun r9 h9 => ?_⟩
      · simp only [List.length_map, List.length_cons, List.length_append, List.length_nil]
        exact Nat.le_trans (by omega : _ ≤ 1000) (by decide)
      have sF := (s6.trans (same_new (o := .lst [vN (Plan.worked (m.map p.work)), vN (p.driveFrom 0 (m.map p.work))]) h7)).trans s8
      refine q _ r9 (e3.trans (Same.ext (sF.trans (same_new h9)))) (T3.ext (sF.trans (same_new h9))) (NewT.back e3 (NewT.of_none (sF.free h9))) ?_
      rw [upd_same, hout, hdo] <;> simp
end
end Du

/-! # depot.py: best -/
namespace Du
open PySem PySem.Spec PyProof.Rows L2
open Sw82 (Call Plan Work Rules Best)
def spBestD (C Tb : Addr) : Sp := fun vs H Q _ => ∃ (a : Addr) (D : Own) (p : Plan), vs = [.ref a] ∧ Dep C H a D p ∧ Wf p ∧ TabH Tb H ∧ AnsNew Tb H p .best Q
/-- a duty's list in the answer, behind its length -/
def dOut (p : Plan) (g : Nat) : List Int := ((Sw82.dutyOut p (p.inOrder (Sw82.members p.works.length g))).length : Int) :: Sw82.dutyOut p (p.inOrder (Sw82.members p.works.length g))
theorem out_best_none {p : Plan} (h : p.best = none) : outL p .best = [-6] := by
  unfold outL Sw82.step
  dsimp only
  rw [h] <;> rfl
theorem out_best {p : Plan} {b : Best} (h : p.best = some b) : outL p .best = ((b.cost : Int) :: 1 :: (b.many : Int) :: b.duties.flatMap (dOut p)) := by
  unfold outL Sw82.step
  dsimp only
  rw [h]
  show ((b.cost : Nat) : Int) :: (([(b.many : Int)] :: b.duties.map fun g => Sw82.dutyOut p (p.inOrder (Sw82.members p.works.length g))).flatMap fun w => (w.length : Int) :: w) = _
  rw [List.flatMap_cons, List.flatMap_map] <;> rfl
theorem Duties.at {CD : Addr} {H : Hp} {p : Plan} : ∀ {ss : List Addr} {gs : List Nat} {i : Nat} {s : Addr}, Duties CD H p ss gs → ss[i]? = some s → ∃ g, gs[i]? = some g ∧ right p g = true ∧ ∃ lo, DutyAt CD H s lo p (p.inOrder (Sw82.members p.works.length g))
  | [], [], _, _, _, e => by simp at e
  | s :: _, g :: _, 0, _, h, e => by
    simp at e
    subst e
    exact ⟨g, rfl, h.1.1, h.1.2⟩
  | _ :: _, _ :: _, i + 1, _, h, e => by
    obtain ⟨g, h1, h2⟩ := Duties.at (i := i) h.2 (by simpa using e)
    exact ⟨g, by simpa using h1, h2⟩
  | [], _ :: _, _, _, h, _ => h.elim
  | _ :: _, [], _, _, h, _ => h.elim
section
variable {P : Program} {w : World} {K : PySem.W.Frag} {mg : Str → Option Value} {base : Heap} {C CD CP : Addr}
theorem scBestD : FnScope ["depot", "plan", "answer", "duty"] ["depot"] (defScope sBestD) := ⟨rfl, rfl, rfl, by decide +kernel, rfl, by decide +kernel, by decide +kernel⟩
theorem ok_bestD {f fB fT fW Tb : Addr} {fd fdB fdT fdW : FuncData} (F : Fun K "best" "best" sBestD f fd) (TD : TxD K mg CD) (TP : TxP K mg CP) (U : Txk mg)
    (GB : FnOk P w K mg base CX0 7 fB fdB ["depot"] (spBest C CD CP Tb)) (gB : mg "best_plan" = some (.ref fB)) (kB : PySem.W.keepIn K (.ref fB) = true) (bB : Binds K fdB ["depot"] [])
    (GT : FnOk P w K mg base CX0 1 fT fdT ["self"] (spTold CD)) (mT : Meth K CD "told" fT) (bT : Binds K fdT ["self"] [])
    (GW : FnOk P w K mg base CX0 1 fW fdW ["numbers"] spWith) (gW : mg "with_length" = some (.ref fW)) (kW : PySem.W.keepIn K (.ref fW) = true) (bW : Binds K fdW ["numbers"] []) :
    FnOk P w K mg base CX0 8 f fd ["depot"] (spBestD C Tb) := by
  refine F.ok scBestD (fun vs H Q E h => ?_) (fun cdv A outer s H vs Q E hr h => ⟨_, pss_cons (ps_set (i := 1) scBestD.nd rfl (Or.inl rfl) (pe_call GB hr rfl gB kB bB .nil pass0 (pa_cons (pv 0) pa_nil)))
    (pss_cons (ps_if (pt_cmpR op_isN (pv 1) pe_non (nomark _)) (pss_one (ps_ret (pe_lst (pa_cons (pe_un un_neg pe_int) pa_nil)))) pss_nil)
    (pss_cons (ps_set (i := 2) scBestD.nd rfl (Or.inl rfl) (pe_op op_cat (pe_lst (pa_cons (pe_fld (pv 1) rfl) pa_nil)) (pe_call GW (hr.mono (by decide)) rfl gW kW bW .nil pass0 (pa_cons (pe_lst (pa_cons (pe_fld (pv 1) rfl) pa_nil)) pa_nil))))
    (pss_cons (ps_for PassesOwn.never rfl (pi_list (pe_fld (pv 1) rfl)) (pg_name (i := 3) scBestD.nd rfl (Or.inl rfl))
      (pss_one (ps_expr (pe_bm PySem.F.plainAttrs_list PySem.F.slot_list_extend PySem.F.type_list_extend mt_extend (pv 2) (pa_cons (pe_call GW (hr.mono (by decide)) rfl gW kW bW .nil pass0 (pa_cons (pe_meth0 (pv 3) TD.cl mT GT (hr.mono (by decide)) bT .nil pass0) pa_nil)) pa_nil)))))
    (pss_one (ps_ret (pv 2)))))), ?_⟩)
  · obtain ⟨a, D, p, rfl, _⟩ := h
    rfl
  · obtain ⟨a, D, p, rfl, d, W, hT, q⟩ := h
    have h7 := W.worksLen
    have hpos : 1 ≤ 2 ^ p.works.length := Nat.one_le_two_pow
    have hpow : 2 ^ p.works.length ≤ 128 := (Nat.pow_le_pow_right (by omega) h7 : 2 ^ p.works.length ≤ 2 ^ 7)
    refine ⟨_, rfl, a, D, p, rfl, d, W, hT, fun Hb H1 v eb s1 T1 pv => ?_⟩
    have e1 : Ext H H1 := eb.trans (Same.ext s1)
    cases hb : p.best with
    | none =>
      rw [hb] at pv
      cases (show v = .non from pv)
      refine ⟨_, rfl, rfl, _, rfl, ?_⟩
      refine ifT (decide_eq_true rfl) ?_
      refine ⟨(6 : Int), rfl, by show 1 ≤ sizeLine; decide, fun r hr => ?_⟩
      refine q _ r (e1.trans (Same.ext (same_new hr))) (T1.ext (same_new hr)) (NewT.back e1 (NewT.of_none hr)) ?_
      rw [upd_same, out_best_none hb] <;> rfl
    | some b =>
      rw [hb] at pv
      obtain ⟨s, ld, rfl, _, dx, ds, x1, x2, x3⟩ := pv
      have hout := out_best hb
      have hdl : b.duties.length ≤ 127 := by
        have := best_len p (2 ^ p.works.length - 1) (by omega) b (by rw [← best_is]; exact hb)
        omega
      have lds : ds.length = b.duties.length := x3.len
      refine ⟨_, rfl, rfl, _, rfl, ?_⟩
      refine ifF (decide_eq_false (by intro z; cases z)) ?_
      -- answer
      refine ⟨_, rfl, s, CP, dx, _, _, rfl, x1, TP.cl, TP.nP, pF_pay _ _ _, by show 1 ≤ sizeLine; decide, fun l1 h1 => ?_⟩
      have s2 : Same H1 (upd H1 l1 (.lst [vN b.cost])) := same_new h1
      refine ⟨_, rfl, s, CP, dx, _, _, rfl, s2 _ _ x1, TP.cl, TP.nA, pF_alike _ _ _, by show 1 ≤ sizeLine; decide, fun l2 h2 => ?_⟩
      have s3 := s2.trans (same_new (o := .lst [vN b.many]) h2)
      refine ⟨l2, [(b.many : Int)], rfl, upd_same, by show 1 ≤ 10000; decide, fun H3 l3 s4 n4 e4 => ?_⟩
      have s5 : Same H1 H3 := s3.trans s4
      refine ⟨l1, l3, _, _, rfl, rfl, s4 _ _ (up_n upd_same h2), e4, by show 3 ≤ sizeLine; decide, fun R hR => ?_⟩
      have s6 : Same H3 (upd H3 R (.lst ([vN b.cost] ++ ((([(b.many : Int)] : List Int).length : Int) :: [(b.many : Int)]).map V.int))) := same_new hR
      refine ⟨_, rfl, s, CP, dx, _, _, rfl, s6 _ _ (s5 _ _ x1), TP.cl, TP.nD, pF_duties _ _ _, ld, rfl, ⟨_, .of (s6 _ _ (s5 _ _ x2))⟩, ?_⟩
      refine for_list (xs := ds.map V.ref) (fun i σ H' => Same H3 H' ∧ ∃ v3 : Option V, σ = [some (.ref a), some (.ref s), some (.ref R), v3] ∧ H' R = some (.lst (((b.cost : Int) :: 1 :: (b.many : Int) :: (b.duties.take i).flatMap (dOut p)).map V.int)) ∧ ((b.duties.take i).flatMap (dOut p)).length ≤ 12 * i) ⟨s6, none, rfl, upd_same, Nat.le_refl _⟩ (fun i σ H' _ hp => ?_) (fun i v σ H' hi hp => ?_) fun σ H' hp => ?_
      · exact .of (hp.1 _ _ (s5 _ _ x2))
      · obtain ⟨sm, v3, rfl, hA, hL⟩ := hp
        rw [List.getElem?_map] at hi
        obtain ⟨sd, hsd, rfl⟩ : ∃ sd, ds[i]? = some sd ∧ v = .ref sd := by
          cases z : ds[i]? with
          | none =>
            rw [z] at hi
            cases hi
          | some sd =>
            rw [z] at hi
            exact ⟨sd, rfl, (Option.some.inj hi).symm⟩
        obtain ⟨g, hg, hrt, lo, du⟩ := x3.at hsd
        have sbm : Same Hb H' := (s1.trans s5).trans sm
        have hil : i < b.duties.length := (List.getElem?_eq_some_iff.mp hg).1
        have hmem : g ∈ b.duties := List.mem_of_getElem? hg
        have hgm := (best_right p (2 ^ p.works.length - 1) (by omega) b (by rw [← best_is]; exact hb) g hmem).2
        have hg0 : g ≠ 0 := fun z => by
          subst z
          unfold right at hrt
          simp at hrt
        have hw0 : p.wrong ((p.inOrder (Sw82.members p.works.length g)).map p.work) = 0 := by
          have := right_pos (p := p) hg0
          rw [hrt] at this
          exact of_decide_eq_true this.symm
        have hml : (p.inOrder (Sw82.members p.works.length g)).length ≤ 7 := by
          rw [(order_perm p _).length_eq]
          have := List.length_filter_le (fun j => g.testBit j) (List.range p.works.length)
          rw [List.length_range] at this
          exact Nat.le_trans this h7
        obtain ⟨dx4, r1, ⟨r2, _⟩ | ⟨_, _, dd, r4, r5⟩⟩ := du
        · omega
        have hdo := dutyOut_is r4
        have tl := wF_told lo dd.home dd.start dd.halt_ (p.pay ((p.inOrder (Sw82.members p.works.length g)).map p.work)) (Plan.worked ((p.inOrder (Sw82.members p.works.length g)).map p.work)) (p.driveFrom 0 ((p.inOrder (Sw82.members p.works.length g)).map p.work)) (p.wrong ((p.inOrder (Sw82.members p.works.length g)).map p.work))
        refine ⟨_, rfl, .inl ⟨rfl, _, .inl (.inl hA)⟩, ?_⟩
        refine ⟨_, rfl, sd, dx4, _, rfl, sbm _ _ r5, tl, sd, dx4, lo, dd.home, dd.start, dd.halt_, _, _, _, _, _, rfl, sbm _ _ r5, sbm _ _ r1, by omega, fun H4 rt s7 n7 e7 => ?_⟩
        rw [← hdo] at e7
        have hdl2 : (Sw82.dutyOut p (p.inOrder (Sw82.members p.works.length g))).length ≤ 11 := by
          rw [hdo, List.length_append, List.length_map]
          show 4 + _ ≤ 11
          omega
        refine ⟨rt, _, rfl, e7, by omega, fun H5 rw5 s8 n8 e8 => ?_⟩
        have sm5 : Same H' H5 := s7.trans s8
        have hA5 := sm5 _ _ hA
        have hRr : R ≠ rw5 := ne_of_none (s7 _ _ hA) n8
        refine ⟨R, rw5, _, _, rfl, rfl, hA5, e8, ?_, ?_⟩
        · rw [List.length_map, List.length_map, List.length_cons, List.length_cons, List.length_cons, List.length_cons]
          exact Nat.le_trans (by omega : _ ≤ 10000) (by decide)
        have et : b.duties.take (i + 1) = b.duties.take i ++ [g] := by
          rw [List.take_add_one, hg] <;> rfl
        refine ⟨fun b' o hb' => up_a (sm5 _ _ (sm _ _ hb')) (ne_of_none hb' hR), _, rfl, ?_, ?_⟩
        · rw [upd_same, et, List.flatMap_append, List.flatMap_cons, List.flatMap_nil, List.append_nil]
          unfold dOut
          simp
        · rw [et, List.flatMap_append, List.length_append, List.flatMap_cons, List.flatMap_nil, List.append_nil]
          have : (dOut p g).length ≤ 12 := by
            unfold dOut
            rw [List.length_cons]
            omega
          omega
      · obtain ⟨sm, v3, rfl, hA, hL⟩ := hp
        rw [List.length_map, lds, List.take_of_length_le (Nat.le_refl _)] at hA
        refine ⟨_, rfl, ?_⟩
        have sF : Same H1 H' := s5.trans sm
        refine q H' R (e1.trans (Same.ext sF)) (T1.ext sF) (NewT.back e1 (NewT.of_none (s5.free hR))) ?_
        rw [hA, hout]
end
end Du

/-! # depot.py: answer_of -/
namespace Du
open PySem PySem.Spec PyProof.Rows L2
open Sw82 (Call Plan Work Rules Best)
abbrev sAnsOf : Stmt := top 61
theorem cut_tail {k : Int} {r : List Int} : cutV ((k :: r).map V.int) (some 1) none = r.map V.int := by
  unfold cutV
  have e1 : (1 : Int) = ((1 : Nat) : Int) := rfl
  have e2 : HT.sIx ((k :: r).map V.int).length ((k :: r).map V.int).length none = ((k :: r).map V.int).length := rfl
  rw [e1, HT.sIx_nat, e2]
  simp
  exact List.take_of_length_le (by rw [List.length_map]; exact Nat.le_refl _)
theorem out_ok {p : Plan} {x : Call} {v : Int} (h : (Sw82.step p x).2 = Sw82.ok v) : outL p x = [v] := by
  unfold outL
  rw [h] <;> rfl
/-- a call whose answer is one number -/
theorem one_begins (p : Plan) (r : Rules) : outL p (.begins r) = [(Sw82.step p (.begins r)).2.v] := by
  unfold outL Sw82.step
  dsimp only
  split <;> rfl
theorem one_place (p : Plan) (i : Nat) (b h : Bool) : outL p (.place i b h) = [(Sw82.step p (.place i b h)).2.v] := by
  unfold outL Sw82.step
  dsimp only
  split <;> rfl
theorem one_way (p : Plan) (a b n : Nat) : outL p (.way a b n) = [(Sw82.step p (.way a b n)).2.v] := by
  unfold outL Sw82.step
  dsimp only
  split
  · rfl
  · split <;> rfl
theorem one_work (p : Plan) (v : Work) : outL p (.work v) = [(Sw82.step p (.work v)).2.v] := by
  unfold outL Sw82.step
  dsimp only
  split
  · rfl
  · split <;> rfl
theorem one_drop (p : Plan) (k : Nat) : outL p (.drop k) = [(Sw82.step p (.drop k)).2.v] := by
  unfold outL Sw82.step
  dsimp only
  split <;> rfl
theorem same_check (p : Plan) (l : List Nat) : (Sw82.step p (.check l)).1 = p := by
  unfold Sw82.step
  dsimp only
  split <;> rfl
theorem ne_t (k n : Int) (h : k ≠ n) : decide (V.int k = V.int n) = false := decide_eq_false fun z => h (V.int.inj z)
section
variable {P : Program} {w : World} {K : PySem.W.Frag} {mg : Str → Option Value} {base : Heap} {C CD CP : Addr}
theorem scAnsOf : FnScope ["depot", "call", "row"] ["depot", "call", "row"] (defScope sAnsOf) := ⟨rfl, rfl, rfl, by decide +kernel, rfl, by decide +kernel, by decide +kernel⟩
theorem ok_ansof {f f0 f1 f2 f3 f4 f5 f6 f7 Tb : Addr} {fd fd0 fd1 fd2 fd3 fd4 fd5 fd6 fd7 : FuncData} (F : Fun K "answer_of" "answer_of" sAnsOf f fd) (T : Txt K mg C) (U : Txk mg)
    (G0 : FnOk P w K mg base CX0 2 f0 fd0 ["self", "rules"] (spBegins C)) (m0 : Meth K C "begins" f0) (b0 : Binds K fd0 ["self", "rules"] [])
    (G1 : FnOk P w K mg base CX0 2 f1 fd1 ["self", "place", "can_break", "home"] (spStep C argsOf isPlace)) (m1 : Meth K C "place" f1) (b1 : Binds K fd1 ["self", "place", "can_break", "home"] [])
    (G2 : FnOk P w K mg base CX0 3 f2 fd2 ["self", "from_place", "to_place", "minutes"] (spStep C argsOf isWay)) (m2 : Meth K C "way" f2) (b2 : Binds K fd2 ["self", "from_place", "to_place", "minutes"] [])
    (G3 : FnOk P w K mg base CX0 3 f3 fd3 ["self", "from_place", "to_place", "first", "last"] (spStep C argsOf isWork)) (m3 : Meth K C "work" f3) (b3 : Binds K fd3 ["self", "from_place", "to_place", "first", "last"] [])
    (G4 : FnOk P w K mg base CX0 1 f4 fd4 ["self", "number"] (spStep C argsOf isDrop)) (m4 : Meth K C "drop" f4) (b4 : Binds K fd4 ["self", "number"] [])
    (G5 : FnOk P w K mg base CX0 6 f5 fd5 ["depot", "chosen"] (spCheck C Tb)) (g5 : mg "check" = some (.ref f5)) (k5 : PySem.W.keepIn K (.ref f5) = true) (b5 : Binds K fd5 ["depot", "chosen"] [])
    (G6 : FnOk P w K mg base CX0 8 f6 fd6 ["depot"] (spBestD C Tb)) (g6 : mg "best" = some (.ref f6)) (k6 : PySem.W.keepIn K (.ref f6) = true) (b6 : Binds K fd6 ["depot"] [])
    (G7 : FnOk P w K mg base CX0 8 f7 fd7 ["depot"] (spNeverD C Tb)) (g7 : mg "never" = some (.ref f7)) (k7 : PySem.W.keepIn K (.ref f7) = true) (b7 : Binds K fd7 ["depot"] []) :
    FnOk P w K mg base CX0 9 f fd ["depot", "call", "row"] (spAnsOf C Tb) := by
  obtain ⟨t0, c0⟩ := U.g "BEGINS" 0 (by decide +kernel)
  obtain ⟨t1, c1⟩ := U.g "PLACE" 1 (by decide +kernel)
  obtain ⟨t2, c2⟩ := U.g "WAY" 2 (by decide +kernel)
  obtain ⟨t3, c3⟩ := U.g "WORK_depot" 3 (by decide +kernel)
  obtain ⟨t4, c4⟩ := U.g "DROP" 4 (by decide +kernel)
  obtain ⟨t5, c5⟩ := U.g "CHECK" 5 (by decide +kernel)
  obtain ⟨t6, c6⟩ := U.g "BEST" 6 (by decide +kernel)
  refine F.ok scAnsOf (fun vs H Q E h => ?_) (fun cdv A outer s H vs Q E hr h => ⟨_,
    pss_cons (ps_if (pt_cmpR op_eq (pv 1) (pe_glob (v := .int 0) rfl c0 ⟨_, rfl⟩) (nomark _)) (pss_one (ps_ret (pe_lst (pa_cons (pe_meth (pv 0) T.cl m0 G0 (hr.mono (by decide)) b0 .nil pass0 (pa_cons (pv 2) pa_nil)) pa_nil)))) pss_nil)
    (pss_cons (ps_if (pt_cmpR op_eq (pv 1) (pe_glob (v := .int 1) rfl c1 ⟨_, rfl⟩) (nomark _)) (pss_one (ps_ret (pe_lst (pa_cons (pe_meth (pv 0) T.cl m1 G1 (hr.mono (by decide)) b1 .nil pass0 (pa_cons (pe_ix ix_list (pv 2) pe_int (fun _ _ => rfl)) (pa_cons (pe_ix ix_list (pv 2) pe_int (fun _ _ => rfl)) (pa_cons (pe_ix ix_list (pv 2) pe_int (fun _ _ => rfl)) pa_nil)))) pa_nil)))) pss_nil)
    (pss_cons (ps_if (pt_cmpR op_eq (pv 1) (pe_glob (v := .int 2) rfl c2 ⟨_, rfl⟩) (nomark _)) (pss_one (ps_ret (pe_lst (pa_cons (pe_meth (pv 0) T.cl m2 G2 (hr.mono (by decide)) b2 .nil pass0 (pa_cons (pe_ix ix_list (pv 2) pe_int (fun _ _ => rfl)) (pa_cons (pe_ix ix_list (pv 2) pe_int (fun _ _ => rfl)) (pa_cons (pe_ix ix_list (pv 2) pe_int (fun _ _ => rfl)) pa_nil)))) pa_nil)))) pss_nil)
    (pss_cons (ps_if (pt_cmpR op_eq (pv 1) (pe_glob (v := .int 3) rfl c3 ⟨_, rfl⟩) (nomark _)) (pss_one (ps_ret (pe_lst (pa_cons (pe_meth (pv 0) T.cl m3 G3 (hr.mono (by decide)) b3 .nil pass0 (pa_cons (pe_ix ix_list (pv 2) pe_int (fun _ _ => rfl)) (pa_cons (pe_ix ix_list (pv 2) pe_int (fun _ _ => rfl)) (pa_cons (pe_ix ix_list (pv 2) pe_int (fun _ _ => rfl)) (pa_cons (pe_ix ix_list (pv 2) pe_int (fun _ _ => rfl)) pa_nil))))) pa_nil)))) pss_nil)
    (pss_cons (ps_if (pt_cmpR op_eq (pv 1) (pe_glob (v := .int 4) rfl c4 ⟨_, rfl⟩) (nomark _)) (pss_one (ps_ret (pe_lst (pa_cons (pe_meth (pv 0) T.cl m4 G4 (hr.mono (by decide)) b4 .nil pass0 (pa_cons (pe_ix ix_list (pv 2) pe_int (fun _ _ => rfl)) pa_nil)) pa_nil)))) pss_nil)
    (pss_cons (ps_if (pt_cmpR op_eq (pv 1) (pe_glob (v := .int 5) rfl c5 ⟨_, rfl⟩) (nomark _)) (pss_one (ps_ret (pe_call G5 (hr.mono (by decide)) rfl g5 k5 b5 .nil pass0 (pa_cons (pv 0) (pa_cons (pe_slice sl_list (pv 2) (po_some pe_int) po_none) pa_nil))))) pss_nil)
    (pss_cons (ps_if (pt_cmpR op_eq (pv 1) (pe_glob (v := .int 6) rfl c6 ⟨_, rfl⟩) (nomark _)) (pss_one (ps_ret (pe_call G6 hr rfl g6 k6 b6 .nil pass0 (pa_cons (pv 0) pa_nil)))) pss_nil)
    (pss_one (ps_ret (pe_call G7 hr rfl g7 k7 b7 .nil pass0 (pa_cons (pv 0) pa_nil)))))))))), ?_⟩)
  · obtain ⟨a, row, D, p, x, rfl, _⟩ := h
    rfl
  · obtain ⟨a, row, D, p, x, rfl, hrow, hnr, d, W, fx, hT, q⟩ := h
    -- a method's number as a list
    have fin : ∀ (H' : Hp) (D' : Own), Dep C H' a D' (Sw82.step p x).1 → Moves H H' a D D' → outL p x = [(Sw82.step p x).2.v] → ∀ r, H' r = none → Q (.ref r) (upd H' r (.lst [V.int (Sw82.step p x).2.v])) := fun H' D' d' m' ho r hr => by
      have s1 : Same H' (upd H' r (.lst [V.int (Sw82.step p x).2.v])) := same_new hr
      refine q _ D' r (d'.same s1) ⟨fun b o hb hn h1 h2 => s1 _ _ (m'.keep b o hb h1 h2), m'.five⟩ ((hT.moves d m').ext s1) (fun b o hb hn h1 h2 => ne_of_none (m'.keep b o hb h1 h2) hr) ?_
      rw [upd_same, ho] <;> rfl
    have finN : (Sw82.step p x).1 = p → AnsNew Tb H p x Q := fun hs H' r e' T' n' hr => by
      have d' := d.ext e'
      rw [← hs] at d'
      exact q H' D r d' (MovesT.of e') T' (fun b o hb hn _ _ => n'.ne hb hn) hr
    cases x with
    | begins r =>
      refine ⟨_, rfl, rfl, _, rfl, ?_⟩
      refine ifT (decide_eq_true rfl) ?_
      exact ⟨_, rfl, a, D.dx, _, rfl, d.ins, dF_none (m := "begins") D (by decide +kernel) (by decide +kernel) (by decide +kernel) (by decide +kernel) (by decide +kernel) (by decide +kernel), _, rfl, a, row, D, p, r, rfl, d, hrow, fun H' D' d' m' => ⟨by show 1 ≤ sizeLine; decide, fun rr hr => fin H' D' d' m' (one_begins p r) rr hr⟩⟩
    | place i b h =>
      refine ⟨_, rfl, rfl, _, rfl, ?_⟩
      refine ifF (ne_t 1 0 (by decide)) ?_
      refine ⟨_, rfl, rfl, _, rfl, ?_⟩
      refine ifT (decide_eq_true rfl) ?_
      exact ⟨_, rfl, a, D.dx, _, rfl, d.ins, dF_none (m := "place") D (by decide +kernel) (by decide +kernel) (by decide +kernel) (by decide +kernel) (by decide +kernel) (by decide +kernel), _, rfl, row, _, _, _, rfl, rfl, .of hrow, atI_nat (j := 0) rfl, _, rfl, row, _, _, _, rfl, rfl, .of hrow, atI_nat (j := 1) rfl, _, rfl, row, _, _, _, rfl, rfl, .of hrow, atI_nat (j := 2) rfl, a, D, p, .place i b h, trivial, by cases b <;> cases h <;> rfl, d, W, fun H' D' d' m' => ⟨by show 1 ≤ sizeLine; decide, fun r hr => fin H' D' d' m' (one_place p i b h) r hr⟩⟩
    | way i j n =>
      refine ⟨_, rfl, rfl, _, rfl, ?_⟩
      refine ifF (ne_t 2 0 (by decide)) ?_
      refine ⟨_, rfl, rfl, _, rfl, ?_⟩
      refine ifF (ne_t 2 1 (by decide)) ?_
      refine ⟨_, rfl, rfl, _, rfl, ?_⟩
      refine ifT (decide_eq_true rfl) ?_
      exact ⟨_, rfl, a, D.dx, _, rfl, d.ins, dF_none (m := "way") D (by decide +kernel) (by decide +kernel) (by decide +kernel) (by decide +kernel) (by decide +kernel) (by decide +kernel), _, rfl, row, _, _, _, rfl, rfl, .of hrow, atI_nat (j := 0) rfl, _, rfl, row, _, _, _, rfl, rfl, .of hrow, atI_nat (j := 1) rfl, _, rfl, row, _, _, _, rfl, rfl, .of hrow, atI_nat (j := 2) rfl, a, D, p, .way i j n, trivial, rfl, d, W, fun H' D' d' m' => ⟨by show 1 ≤ sizeLine; decide, fun r hr => fin H' D' d' m' (one_way p i j n) r hr⟩⟩
    | work v =>
      refine ⟨_, rfl, rfl, _, rfl, ?_⟩
      refine ifF (ne_t 3 0 (by decide)) ?_
      refine ⟨_, rfl, rfl, _, rfl, ?_⟩
      refine ifF (ne_t 3 1 (by decide)) ?_
      refine ⟨_, rfl, rfl, _, rfl, ?_⟩
      refine ifF (ne_t 3 2 (by decide)) ?_
      refine ⟨_, rfl, rfl, _, rfl, ?_⟩
      refine ifT (decide_eq_true rfl) ?_
      exact ⟨_, rfl, a, D.dx, _, rfl, d.ins, dF_none (m := "work") D (by decide +kernel) (by decide +kernel) (by decide +kernel) (by decide +kernel) (by decide +kernel) (by decide +kernel), _, rfl, row, _, _, _, rfl, rfl, .of hrow, atI_nat (j := 0) rfl, _, rfl, row, _, _, _, rfl, rfl, .of hrow, atI_nat (j := 1) rfl, _, rfl, row, _, _, _, rfl, rfl, .of hrow, atI_nat (j := 2) rfl, _, rfl, row, _, _, _, rfl, rfl, .of hrow, atI_nat (j := 3) rfl, a, D, p, .work v, trivial, rfl, d, W, fun H' D' d' m' => ⟨by show 1 ≤ sizeLine; decide, fun r hr => fin H' D' d' m' (one_work p v) r hr⟩⟩
    | drop k =>
      refine ⟨_, rfl, rfl, _, rfl, ?_⟩
      refine ifF (ne_t 4 0 (by decide)) ?_
      refine ⟨_, rfl, rfl, _, rfl, ?_⟩
      refine ifF (ne_t 4 1 (by decide)) ?_
      refine ⟨_, rfl, rfl, _, rfl, ?_⟩
      refine ifF (ne_t 4 2 (by decide)) ?_
      refine ⟨_, rfl, rfl, _, rfl, ?_⟩
      refine ifF (ne_t 4 3 (by decide)) ?_
      refine ⟨_, rfl, rfl, _, rfl, ?_⟩
      refine ifT (decide_eq_true rfl) ?_
      exact ⟨_, rfl, a, D.dx, _, rfl, d.ins, dF_none (m := "drop") D (by decide +kernel) (by decide +kernel) (by decide +kernel) (by decide +kernel) (by decide +kernel) (by decide +kernel), _, rfl, row, _, _, _, rfl, rfl, .of hrow, atI_nat (j := 0) rfl, a, D, p, .drop k, trivial, rfl, d, W, fun H' D' d' m' => ⟨by show 1 ≤ sizeLine; decide, fun r hr => fin H' D' d' m' (one_drop p k) r hr⟩⟩
    | check l =>
      refine ⟨_, rfl, rfl, _, rfl, ?_⟩
      refine ifF (ne_t 5 0 (by decide)) ?_
      refine ⟨_, rfl, rfl, _, rfl, ?_⟩
      refine ifF (ne_t 5 1 (by decide)) ?_
      refine ⟨_, rfl, rfl, _, rfl, ?_⟩
      refine ifF (ne_t 5 2 (by decide)) ?_
      refine ⟨_, rfl, rfl, _, rfl, ?_⟩
      refine ifF (ne_t 5 3 (by decide)) ?_
      refine ⟨_, rfl, rfl, _, rfl, ?_⟩
      refine ifF (ne_t 5 4 (by decide)) ?_
      refine ⟨_, rfl, rfl, _, rfl, ?_⟩
      refine ifT (decide_eq_true rfl) ?_
      refine ⟨_, rfl, _, rfl, (1 : Int), rfl, row, _, rfl, .of hrow, fun ln hln => ?_⟩
      have s1 : Same H (upd H ln (.lst (cutV (((enc (.check l)).drop 1).map V.int) (some 1) none))) := same_new hln
      refine ⟨a, ln, D, p, l, rfl, d.same s1, W, ?_, fx, hT.ext s1, fun H' r e' T' n' hr => finN (same_check p l) H' r ((Same.ext s1).trans e') T' (NewT.back (Same.ext s1) n') hr⟩
      rw [upd_same]
      show some (HO.lst (cutV (((l.length : Int) :: l.map fun (n : Nat) => (n : Int)).map V.int) (some 1) none)) = _
      rw [cut_tail, map_vN]
    | best =>
      refine ⟨_, rfl, rfl, _, rfl, ?_⟩
      refine ifF (ne_t 6 0 (by decide)) ?_
      refine ⟨_, rfl, rfl, _, rfl, ?_⟩
      refine ifF (ne_t 6 1 (by decide)) ?_
      refine ⟨_, rfl, rfl, _, rfl, ?_⟩
      refine ifF (ne_t 6 2 (by decide)) ?_
      refine ⟨_, rfl, rfl, _, rfl, ?_⟩
      refine ifF (ne_t 6 3 (by decide)) ?_
      refine ⟨_, rfl, rfl, _, rfl, ?_⟩
      refine ifF (ne_t 6 4 (by decide)) ?_
      refine ⟨_, rfl, rfl, _, rfl, ?_⟩
      refine ifF (ne_t 6 5 (by decide)) ?_
      refine ⟨_, rfl, rfl, _, rfl, ?_⟩
      refine ifT (decide_eq_true rfl) ?_
      exact ⟨_, rfl, a, D, p, rfl, d, W, hT, finN rfl⟩
    | never =>
      refine ⟨_, rfl, rfl, _, rfl, ?_⟩
      refine ifF (ne_t 7 0 (by decide)) ?_
      refine ⟨_, rfl, rfl, _, rfl, ?_⟩
      refine ifF (ne_t 7 1 (by decide)) ?_
      refine ⟨_, rfl, rfl, _, rfl, ?_⟩
      refine ifF (ne_t 7 2 (by decide)) ?_
      refine ⟨_, rfl, rfl, _, rfl, ?_⟩
      refine ifF (ne_t 7 3 (by decide)) ?_
      refine ⟨_, rfl, rfl, _, rfl, ?_⟩
      refine ifF (ne_t 7 4 (by decide)) ?_
      refine ⟨_, rfl, rfl, _, rfl, ?_⟩
      refine ifF (ne_t 7 5 (by decide)) ?_
      refine ⟨_, rfl, rfl, _, rfl, ?_⟩
      refine ifF (ne_t 7 6 (by decide)) ?_
      exact ⟨_, rfl, a, D, p, rfl, d, W, hT, finN rfl⟩
end
end Du

namespace Du
open PySem PySem.Spec PyProof.Rows L2
theorem all_mk {P : Program} {w : World} {K : PySem.W.Frag} {h : Heap} {mg : Str → Option Value} {fa : Addr} (X : K.In h) (G : h.Ns mainGlobals mg) (hfa : mg "answers" = some (.ref fa))
    {c0 Tb C CD CP f1 f2 f3 f4 f5 f6 f7 f8 f9 f10 f11 f12 f13 f14 f15 f16 f17 f18 f19 f20 f21 f22 f23 f24 f25 f26 f27 f28 f29 f30 f31 f32 f33 f34 f35 f36 f37 : Addr}
    {od1 an1 od2 an2 od3 an3 od4 an4 od5 an5 od6 an6 od7 an7 od8 an8 od9 an9 od10 an10 od11 an11 od12 an12 od13 an13 od14 an14 od15 an15 od16 an16 od17 an17 od18 an18 od19 an19 od20 an20 od21 an21 od22 an22 od23 an23 od24 an24 od25 an25 od26 an26 od27 an27 od28 an28 od29 an29 od30 an30 od31 an31 od32 an32 od33 an33 od34 an34 od35 an35 od36 an36 od37 an37 : Option Addr} {sl1 sl2 sl3 sl4 sl5 sl6 sl7 sl8 sl9 sl10 sl11 sl12 sl13 sl14 sl15 sl16 sl17 sl18 sl19 sl20 sl21 sl22 sl23 sl24 sl25 sl26 sl27 sl28 sl29 sl30 sl31 sl32 sl33 sl34 sl35 sl36 sl37 : Array (Option Value)} {oc1 kV1 dc1 pm1 cd1 ct1 oc2 kV2 dc2 pm2 cd2 ct2 oc3 kV3 dc3 pm3 cd3 ct3 oc4 kV4 dc4 pm4 cd4 ct4 oc5 kV5 dc5 pm5 cd5 ct5 oc6 kV6 dc6 pm6 cd6 ct6 oc7 kV7 dc7 pm7 cd7 ct7 oc8 kV8 dc8 pm8 cd8 ct8 oc9 kV9 dc9 pm9 cd9 ct9 oc10 kV10 dc10 pm10 cd10 ct10 oc11 kV11 dc11 pm11 cd11 ct11 oc12 kV12 dc12 pm12 ct12 oc13 kV13 dc13 pm13 cd13 ct13 oc14 kV14 dc14 pm14 cd14 ct14 oc15 kV15 dc15 pm15 cd15 ct15 oc16 kV16 dc16 pm16 cd16 ct16 oc17 kV17 dc17 pm17 cd17 ct17 oc18 kV18 dc18 pm18 cd18 ct18 oc19 kV19 dc19 pm19 cd19 ct19 oc20 kV20 dc20 pm20 cd20 ct20 oc21 kV21 dc21 pm21 cd21 ct21 oc22 kV22 dc22 pm22 cd22 ct22 oc23 kV23 dc23 pm23 cd23 ct23 oc24 kV24 dc24 pm24 cd24 ct24 oc25 kV25 dc25 pm25 cd25 ct25 oc26 kV26 dc26 pm26 cd26 ct26 oc27 kV27 dc27 pm27 cd27 ct27 oc28 kV28 dc28 pm28 cd28 ct28 oc29 kV29 dc29 pm29 cd29 ct29 oc30 kV30 dc30 pm30 cd30 ct30 oc31 kV31 dc31 pm31 cd31 ct31 oc32 kV32 dc32 pm32 cd32 ct32 oc33 kV33 dc33 pm33 cd33 ct33 oc34 kV34 dc34 pm34 cd34 ct34 oc35 kV35 dc35 pm35 cd35 ct35 oc36 kV36 dc36 pm36 cd36 ct36 oc37 kV37 dc37 pm37 cd37 ct37 : Value}
    (aC : PySem.W.nsIn K mainGlobals "Depot" = some (some (.ref C)))
    (aCD : PySem.W.nsIn K mainGlobals "Duty" = some (some (.ref CD)))
    (aCP : PySem.W.nsIn K mainGlobals "Plan" = some (some (.ref CP)))
    (a1 : PySem.W.nsIn K mainGlobals "is_place" = some (some (.ref f1)))
    (l1 : K.lookup f1 = some ⟨oc1, od1, .func (PySem.W.fnOf "is_place" "is_place" (defArgs sIsPlace) (defBody sIsPlace) (defScope sIsPlace) .none kV1 dc1 pm1 an1 cd1 ct1), sl1⟩) (c1 : PySem.W.codeIn K cd1 "is_place" = true) (k1 : PySem.W.keepIn K (.ref f1) = true)
    (a2 : PySem.W.nsIn K mainGlobals "is_way" = some (some (.ref f2)))
    (l2 : K.lookup f2 = some ⟨oc2, od2, .func (PySem.W.fnOf "is_way" "is_way" (defArgs sIsWay) (defBody sIsWay) (defScope sIsWay) .none kV2 dc2 pm2 an2 cd2 ct2), sl2⟩) (c2 : PySem.W.codeIn K cd2 "is_way" = true) (k2 : PySem.W.keepIn K (.ref f2) = true)
    (a3 : PySem.W.nsIn K mainGlobals "is_piece" = some (some (.ref f3)))
    (l3 : K.lookup f3 = some ⟨oc3, od3, .func (PySem.W.fnOf "is_piece" "is_piece" (defArgs sIsPiece) (defBody sIsPiece) (defScope sIsPiece) .none kV3 dc3 pm3 an3 cd3 ct3), sl3⟩) (c3 : PySem.W.codeIn K cd3 "is_piece" = true) (k3 : PySem.W.keepIn K (.ref f3) = true)
    (a4 : PySem.W.findIn K (.ref C) "__init__" = some (some (.ref f4))) (i4 : PySem.W.isFn K (.ref f4) = true)
    (l4 : K.lookup f4 = some ⟨oc4, od4, .func (PySem.W.fnOf "__init__" "Depot.__init__" (defArgs sInit) (defBody sInit) (defScope sInit) .none kV4 dc4 pm4 an4 cd4 ct4), sl4⟩) (c4 : PySem.W.codeIn K cd4 "Depot.__init__" = true) (k4 : PySem.W.keepIn K (.ref f4) = true)
    (a5 : PySem.W.findIn K (.ref C) "begin_anew" = some (some (.ref f5))) (i5 : PySem.W.isFn K (.ref f5) = true)
    (l5 : K.lookup f5 = some ⟨oc5, od5, .func (PySem.W.fnOf "begin_anew" "Depot.begin_anew" (defArgs sAnew) (defBody sAnew) (defScope sAnew) .none kV5 dc5 pm5 an5 cd5 ct5), sl5⟩) (c5 : PySem.W.codeIn K cd5 "Depot.begin_anew" = true) (k5 : PySem.W.keepIn K (.ref f5) = true)
    (a6 : PySem.W.findIn K (.ref C) "begins" = some (some (.ref f6))) (i6 : PySem.W.isFn K (.ref f6) = true)
    (l6 : K.lookup f6 = some ⟨oc6, od6, .func (PySem.W.fnOf "begins" "Depot.begins" (defArgs sBegins) (defBody sBegins) (defScope sBegins) .none kV6 dc6 pm6 an6 cd6 ct6), sl6⟩) (c6 : PySem.W.codeIn K cd6 "Depot.begins" = true) (k6 : PySem.W.keepIn K (.ref f6) = true)
    (a7 : PySem.W.findIn K (.ref C) "place" = some (some (.ref f7))) (i7 : PySem.W.isFn K (.ref f7) = true)
    (l7 : K.lookup f7 = some ⟨oc7, od7, .func (PySem.W.fnOf "place" "Depot.place" (defArgs sPlace) (defBody sPlace) (defScope sPlace) .none kV7 dc7 pm7 an7 cd7 ct7), sl7⟩) (c7 : PySem.W.codeIn K cd7 "Depot.place" = true) (k7 : PySem.W.keepIn K (.ref f7) = true)
    (a8 : PySem.W.findIn K (.ref C) "way" = some (some (.ref f8))) (i8 : PySem.W.isFn K (.ref f8) = true)
    (l8 : K.lookup f8 = some ⟨oc8, od8, .func (PySem.W.fnOf "way" "Depot.way" (defArgs sWay) (defBody sWay) (defScope sWay) .none kV8 dc8 pm8 an8 cd8 ct8), sl8⟩) (c8 : PySem.W.codeIn K cd8 "Depot.way" = true) (k8 : PySem.W.keepIn K (.ref f8) = true)
    (a9 : PySem.W.findIn K (.ref C) "minutes_to_get" = some (some (.ref f9))) (i9 : PySem.W.isFn K (.ref f9) = true)
    (l9 : K.lookup f9 = some ⟨oc9, od9, .func (PySem.W.fnOf "minutes_to_get" "Depot.minutes_to_get" (defArgs sGet) (defBody sGet) (defScope sGet) .none kV9 dc9 pm9 an9 cd9 ct9), sl9⟩) (c9 : PySem.W.codeIn K cd9 "Depot.minutes_to_get" = true) (k9 : PySem.W.keepIn K (.ref f9) = true)
    (a10 : PySem.W.findIn K (.ref C) "work" = some (some (.ref f10))) (i10 : PySem.W.isFn K (.ref f10) = true)
    (l10 : K.lookup f10 = some ⟨oc10, od10, .func (PySem.W.fnOf "work" "Depot.work" (defArgs sWork) (defBody sWork) (defScope sWork) .none kV10 dc10 pm10 an10 cd10 ct10), sl10⟩) (c10 : PySem.W.codeIn K cd10 "Depot.work" = true) (k10 : PySem.W.keepIn K (.ref f10) = true)
    (a11 : PySem.W.findIn K (.ref C) "drop" = some (some (.ref f11))) (i11 : PySem.W.isFn K (.ref f11) = true)
    (l11 : K.lookup f11 = some ⟨oc11, od11, .func (PySem.W.fnOf "drop" "Depot.drop" (defArgs sDrop) (defBody sDrop) (defScope sDrop) .none kV11 dc11 pm11 an11 cd11 ct11), sl11⟩) (c11 : PySem.W.codeIn K cd11 "Depot.drop" = true) (k11 : PySem.W.keepIn K (.ref f11) = true)
    (a12 : PySem.W.nsIn K mainGlobals "in_order" = some (some (.ref f12)))
    (l12 : K.lookup f12 = some ⟨oc12, od12, .func (PySem.W.fnOf "in_order" "in_order" (defArgs sOrder) (defBody sOrder) (defScope sOrder) .none kV12 dc12 pm12 an12 (.ref c0) ct12), sl12⟩) (c12 : PySem.W.codeIn K (.ref c0) "in_order" = true) (k12 : PySem.W.keepIn K (.ref f12) = true)
    (a13 : PySem.W.nsIn K mainGlobals "length_of" = some (some (.ref f13)))
    (l13 : K.lookup f13 = some ⟨oc13, od13, .func (PySem.W.fnOf "length_of" "length_of" (defArgs sLen) (defBody sLen) (defScope sLen) .none kV13 dc13 pm13 an13 cd13 ct13), sl13⟩) (c13 : PySem.W.codeIn K cd13 "length_of" = true) (k13 : PySem.W.keepIn K (.ref f13) = true)
    (a14 : PySem.W.nsIn K mainGlobals "gap_between" = some (some (.ref f14)))
    (l14 : K.lookup f14 = some ⟨oc14, od14, .func (PySem.W.fnOf "gap_between" "gap_between" (defArgs sGap) (defBody sGap) (defScope sGap) .none kV14 dc14 pm14 an14 cd14 ct14), sl14⟩) (c14 : PySem.W.codeIn K cd14 "gap_between" = true) (k14 : PySem.W.keepIn K (.ref f14) = true)
    (a15 : PySem.W.nsIn K mainGlobals "gaps_between" = some (some (.ref f15)))
    (l15 : K.lookup f15 = some ⟨oc15, od15, .func (PySem.W.fnOf "gaps_between" "gaps_between" (defArgs sGaps) (defBody sGaps) (defScope sGaps) .none kV15 dc15 pm15 an15 cd15 ct15), sl15⟩) (c15 : PySem.W.codeIn K cd15 "gaps_between" = true) (k15 : PySem.W.keepIn K (.ref f15) = true)
    (a16 : PySem.W.nsIn K mainGlobals "is_break" = some (some (.ref f16)))
    (l16 : K.lookup f16 = some ⟨oc16, od16, .func (PySem.W.fnOf "is_break" "is_break" (defArgs sBreak) (defBody sBreak) (defScope sBreak) .none kV16 dc16 pm16 an16 cd16 ct16), sl16⟩) (c16 : PySem.W.codeIn K cd16 "is_break" = true) (k16 : PySem.W.keepIn K (.ref f16) = true)
    (a17 : PySem.W.nsIn K mainGlobals "most_unbroken" = some (some (.ref f17)))
    (l17 : K.lookup f17 = some ⟨oc17, od17, .func (PySem.W.fnOf "most_unbroken" "most_unbroken" (defArgs sUnb) (defBody sUnb) (defScope sUnb) .none kV17 dc17 pm17 an17 cd17 ct17), sl17⟩) (c17 : PySem.W.codeIn K cd17 "most_unbroken" = true) (k17 : PySem.W.keepIn K (.ref f17) = true)
    (a18 : PySem.W.nsIn K mainGlobals "home_of" = some (some (.ref f18)))
    (l18 : K.lookup f18 = some ⟨oc18, od18, .func (PySem.W.fnOf "home_of" "home_of" (defArgs sHome) (defBody sHome) (defScope sHome) .none kV18 dc18 pm18 an18 cd18 ct18), sl18⟩) (c18 : PySem.W.codeIn K cd18 "home_of" = true) (k18 : PySem.W.keepIn K (.ref f18) = true)
    (a19 : PySem.W.nsIn K mainGlobals "pay_for" = some (some (.ref f19)))
    (l19 : K.lookup f19 = some ⟨oc19, od19, .func (PySem.W.fnOf "pay_for" "pay_for" (defArgs sPay) (defBody sPay) (defScope sPay) .none kV19 dc19 pm19 an19 cd19 ct19), sl19⟩) (c19 : PySem.W.codeIn K cd19 "pay_for" = true) (k19 : PySem.W.keepIn K (.ref f19) = true)
    (a20 : PySem.W.findIn K (.ref CD) "__init__" = some (some (.ref f20))) (i20 : PySem.W.isFn K (.ref f20) = true)
    (l20 : K.lookup f20 = some ⟨oc20, od20, .func (PySem.W.fnOf "__init__" "Duty.__init__" (defArgs sDInit) (defBody sDInit) (defScope sDInit) .none kV20 dc20 pm20 an20 cd20 ct20), sl20⟩) (c20 : PySem.W.codeIn K cd20 "Duty.__init__" = true) (k20 : PySem.W.keepIn K (.ref f20) = true)
    (a21 : PySem.W.findIn K (.ref CD) "reckon" = some (some (.ref f21))) (i21 : PySem.W.isFn K (.ref f21) = true)
    (l21 : K.lookup f21 = some ⟨oc21, od21, .func (PySem.W.fnOf "reckon" "Duty.reckon" (defArgs sReckon) (defBody sReckon) (defScope sReckon) .none kV21 dc21 pm21 an21 cd21 ct21), sl21⟩) (c21 : PySem.W.codeIn K cd21 "Duty.reckon" = true) (k21 : PySem.W.keepIn K (.ref f21) = true)
    (a22 : PySem.W.findIn K (.ref CD) "beyond" = some (some (.ref f22))) (i22 : PySem.W.isFn K (.ref f22) = true)
    (l22 : K.lookup f22 = some ⟨oc22, od22, .func (PySem.W.fnOf "beyond" "Duty.beyond" (defArgs sBeyond) (defBody sBeyond) (defScope sBeyond) .none kV22 dc22 pm22 an22 cd22 ct22), sl22⟩) (c22 : PySem.W.codeIn K cd22 "Duty.beyond" = true) (k22 : PySem.W.keepIn K (.ref f22) = true)
    (a23 : PySem.W.findIn K (.ref CD) "told" = some (some (.ref f23))) (i23 : PySem.W.isFn K (.ref f23) = true)
    (l23 : K.lookup f23 = some ⟨oc23, od23, .func (PySem.W.fnOf "told" "Duty.told" (defArgs sTold) (defBody sTold) (defScope sTold) .none kV23 dc23 pm23 an23 cd23 ct23), sl23⟩) (c23 : PySem.W.codeIn K cd23 "Duty.told" = true) (k23 : PySem.W.keepIn K (.ref f23) = true)
    (a24 : PySem.W.nsIn K mainGlobals "numbers_in" = some (some (.ref f24)))
    (l24 : K.lookup f24 = some ⟨oc24, od24, .func (PySem.W.fnOf "numbers_in" "numbers_in" (defArgs sNum) (defBody sNum) (defScope sNum) .none kV24 dc24 pm24 an24 cd24 ct24), sl24⟩) (c24 : PySem.W.codeIn K cd24 "numbers_in" = true) (k24 : PySem.W.keepIn K (.ref f24) = true)
    (a25 : PySem.W.nsIn K mainGlobals "right_duties" = some (some (.ref f25)))
    (l25 : K.lookup f25 = some ⟨oc25, od25, .func (PySem.W.fnOf "right_duties" "right_duties" (defArgs sRight) (defBody sRight) (defScope sRight) .none kV25 dc25 pm25 an25 cd25 ct25), sl25⟩) (c25 : PySem.W.codeIn K cd25 "right_duties" = true) (k25 : PySem.W.keepIn K (.ref f25) = true)
    (a26 : PySem.W.findIn K (.ref CP) "__init__" = some (some (.ref f26))) (i26 : PySem.W.isFn K (.ref f26) = true)
    (l26 : K.lookup f26 = some ⟨oc26, od26, .func (PySem.W.fnOf "__init__" "Plan.__init__" (defArgs sPInit) (defBody sPInit) (defScope sPInit) .none kV26 dc26 pm26 an26 cd26 ct26), sl26⟩) (c26 : PySem.W.codeIn K cd26 "Plan.__init__" = true) (k26 : PySem.W.keepIn K (.ref f26) = true)
    (a27 : PySem.W.nsIn K mainGlobals "plan_for" = some (some (.ref f27)))
    (l27 : K.lookup f27 = some ⟨oc27, od27, .func (PySem.W.fnOf "plan_for" "plan_for" (defArgs sPlanFor) (defBody sPlanFor) (defScope sPlanFor) .none kV27 dc27 pm27 an27 cd27 ct27), sl27⟩) (c27 : PySem.W.codeIn K cd27 "plan_for" = true) (k27 : PySem.W.keepIn K (.ref f27) = true)
    (a28 : PySem.W.nsIn K mainGlobals "best_plan" = some (some (.ref f28)))
    (l28 : K.lookup f28 = some ⟨oc28, od28, .func (PySem.W.fnOf "best_plan" "best_plan" (defArgs sBestPlan) (defBody sBestPlan) (defScope sBestPlan) .none kV28 dc28 pm28 an28 cd28 ct28), sl28⟩) (c28 : PySem.W.codeIn K cd28 "best_plan" = true) (k28 : PySem.W.keepIn K (.ref f28) = true)
    (a29 : PySem.W.nsIn K mainGlobals "pieces_never_done" = some (some (.ref f29)))
    (l29 : K.lookup f29 = some ⟨oc29, od29, .func (PySem.W.fnOf "pieces_never_done" "pieces_never_done" (defArgs sNever) (defBody sNever) (defScope sNever) .none kV29 dc29 pm29 an29 cd29 ct29), sl29⟩) (c29 : PySem.W.codeIn K cd29 "pieces_never_done" = true) (k29 : PySem.W.keepIn K (.ref f29) = true)
    (a30 : PySem.W.nsIn K mainGlobals "end_of_call" = some (some (.ref f30)))
    (l30 : K.lookup f30 = some ⟨oc30, od30, .func (PySem.W.fnOf "end_of_call" "end_of_call" (defArgs sEndOf) (defBody sEndOf) (defScope sEndOf) .none kV30 dc30 pm30 an30 cd30 ct30), sl30⟩) (c30 : PySem.W.codeIn K cd30 "end_of_call" = true) (k30 : PySem.W.keepIn K (.ref f30) = true)
    (a31 : PySem.W.nsIn K mainGlobals "with_length" = some (some (.ref f31)))
    (l31 : K.lookup f31 = some ⟨oc31, od31, .func (PySem.W.fnOf "with_length" "with_length" (defArgs sWith) (defBody sWith) (defScope sWith) .none kV31 dc31 pm31 an31 cd31 ct31), sl31⟩) (c31 : PySem.W.codeIn K cd31 "with_length" = true) (k31 : PySem.W.keepIn K (.ref f31) = true)
    (a32 : PySem.W.nsIn K mainGlobals "are_pieces" = some (some (.ref f32)))
    (l32 : K.lookup f32 = some ⟨oc32, od32, .func (PySem.W.fnOf "are_pieces" "are_pieces" (defArgs sAre) (defBody sAre) (defScope sAre) .none kV32 dc32 pm32 an32 cd32 ct32), sl32⟩) (c32 : PySem.W.codeIn K cd32 "are_pieces" = true) (k32 : PySem.W.keepIn K (.ref f32) = true)
    (a33 : PySem.W.nsIn K mainGlobals "check" = some (some (.ref f33)))
    (l33 : K.lookup f33 = some ⟨oc33, od33, .func (PySem.W.fnOf "check" "check" (defArgs sCheck) (defBody sCheck) (defScope sCheck) .none kV33 dc33 pm33 an33 cd33 ct33), sl33⟩) (c33 : PySem.W.codeIn K cd33 "check" = true) (k33 : PySem.W.keepIn K (.ref f33) = true)
    (a34 : PySem.W.nsIn K mainGlobals "best" = some (some (.ref f34)))
    (l34 : K.lookup f34 = some ⟨oc34, od34, .func (PySem.W.fnOf "best" "best" (defArgs sBestD) (defBody sBestD) (defScope sBestD) .none kV34 dc34 pm34 an34 cd34 ct34), sl34⟩) (c34 : PySem.W.codeIn K cd34 "best" = true) (k34 : PySem.W.keepIn K (.ref f34) = true)
    (a35 : PySem.W.nsIn K mainGlobals "never" = some (some (.ref f35)))
    (l35 : K.lookup f35 = some ⟨oc35, od35, .func (PySem.W.fnOf "never" "never" (defArgs sNeverD) (defBody sNeverD) (defScope sNeverD) .none kV35 dc35 pm35 an35 cd35 ct35), sl35⟩) (c35 : PySem.W.codeIn K cd35 "never" = true) (k35 : PySem.W.keepIn K (.ref f35) = true)
    (a36 : PySem.W.nsIn K mainGlobals "answer_of" = some (some (.ref f36)))
    (l36 : K.lookup f36 = some ⟨oc36, od36, .func (PySem.W.fnOf "answer_of" "answer_of" (defArgs sAnsOf) (defBody sAnsOf) (defScope sAnsOf) .none kV36 dc36 pm36 an36 cd36 ct36), sl36⟩) (c36 : PySem.W.codeIn K cd36 "answer_of" = true) (k36 : PySem.W.keepIn K (.ref f36) = true)
    (a37 : PySem.W.nsIn K mainGlobals "answers" = some (some (.ref f37)))
    (l37 : K.lookup f37 = some ⟨oc37, od37, .func (PySem.W.fnOf "answers" "answers" (defArgs sAnswers) (defBody sAnswers) (defScope sAnswers) .none kV37 dc37 pm37 an37 cd37 ct37), sl37⟩) (c37 : PySem.W.codeIn K cd37 "answers" = true) (k37 : PySem.W.keepIn K (.ref f37) = true)
    (pgC : PySem.W.plainGet K C Str.empty = true) (hdC : PySem.W.hasDictIn K C = true) (poC : PySem.W.plainOver K C = true) (saC : PySem.W.findIn K (.ref C) "__setattr__" = some (some (.builtin "object.__setattr__"))) (mkC : PySem.W.makesIn K C = true) (kcC : PySem.W.keepIn K (.ref C) = true)
    (pgCD : PySem.W.plainGet K CD Str.empty = true) (hdCD : PySem.W.hasDictIn K CD = true) (poCD : PySem.W.plainOver K CD = true) (saCD : PySem.W.findIn K (.ref CD) "__setattr__" = some (some (.builtin "object.__setattr__"))) (mkCD : PySem.W.makesIn K CD = true) (kcCD : PySem.W.keepIn K (.ref CD) = true)
    (pgCP : PySem.W.plainGet K CP Str.empty = true) (hdCP : PySem.W.hasDictIn K CP = true) (poCP : PySem.W.plainOver K CP = true) (saCP : PySem.W.findIn K (.ref CP) "__setattr__" = some (some (.builtin "object.__setattr__"))) (mkCP : PySem.W.makesIn K CP = true) (kcCP : PySem.W.keepIn K (.ref CP) = true)
    (nCrules : PySem.W.findIn K (.ref C) "rules" = some none)
    (nCcan_break : PySem.W.findIn K (.ref C) "can_break" = some none)
    (nChomes : PySem.W.findIn K (.ref C) "homes" = some none)
    (nCways : PySem.W.findIn K (.ref C) "ways" = some none)
    (nCshortest : PySem.W.findIn K (.ref C) "shortest" = some none)
    (nCpieces : PySem.W.findIn K (.ref C) "pieces" = some none)
    (nCDorder : PySem.W.findIn K (.ref CD) "order" = some none)
    (nCDhome : PySem.W.findIn K (.ref CD) "home" = some none)
    (nCDwrong : PySem.W.findIn K (.ref CD) "wrong" = some none)
    (nCDbeginning : PySem.W.findIn K (.ref CD) "beginning" = some none)
    (nCDend : PySem.W.findIn K (.ref CD) "end" = some none)
    (nCDpay : PySem.W.findIn K (.ref CD) "pay" = some none)
    (nCDworked : PySem.W.findIn K (.ref CD) "worked" = some none)
    (nCDunbroken : PySem.W.findIn K (.ref CD) "unbroken" = some none)
    (nCPpay : PySem.W.findIn K (.ref CP) "pay" = some none)
    (nCPalike : PySem.W.findIn K (.ref CP) "alike" = some none)
    (nCPduties : PySem.W.findIn K (.ref CP) "duties" = some none)
    (zlen : PySem.W.nsIn K mainGlobals "len" = some none)
    (zmax : PySem.W.nsIn K mainGlobals "max" = some none)
    (zmin : PySem.W.nsIn K mainGlobals "min" = some none)
    (zlist : PySem.W.nsIn K mainGlobals "list" = some none)
    (zrange : PySem.W.nsIn K mainGlobals "range" = some none)
    (zsum : PySem.W.nsIn K mainGlobals "sum" = some none)
    (zsorted : PySem.W.nsIn K mainGlobals "sorted" = some none)
    {t0 t1 t2 t3 t4 t5 t6 t7 t8 t9 t10 t11 t12 t13 t14 t15 t16 t17 t18 t19 t20 t21 t22 t23 t24 t25 t26 t27 t28 t29 : Tok} {aF aN : Addr} {odF odN odT : Option Addr} {nF nN : Nat} {slF slN slT : Array (Option Value)} {u0 u1 u2 u3 u4 u5 u6 u7 u8 w0 w1 w2 w3 w4 w5 w6 w7 : Tok} {vsT : Array Value} {ocT : Value} {as : List Addr}
    (kon0 : PySem.W.nsIn K mainGlobals "PLACES" = some (some (.int 20 t0)))
    (kon1 : PySem.W.nsIn K mainGlobals "MOST_WAYS" = some (some (.int 40 t1)))
    (kon2 : PySem.W.nsIn K mainGlobals "MOST_PIECES" = some (some (.int 7 t2)))
    (kon3 : PySem.W.nsIn K mainGlobals "MOST" = some (some (.int 100000 t3)))
    (kon4 : PySem.W.nsIn K mainGlobals "FROM_PLACE" = some (some (.int 0 t4)))
    (kon5 : PySem.W.nsIn K mainGlobals "TO_PLACE" = some (some (.int 1 t5)))
    (kon6 : PySem.W.nsIn K mainGlobals "FIRST" = some (some (.int 2 t6)))
    (kon7 : PySem.W.nsIn K mainGlobals "LAST" = some (some (.int 3 t7)))
    (kon8 : PySem.W.nsIn K mainGlobals "LONG" = some (some (.int 0 t8)))
    (kon9 : PySem.W.nsIn K mainGlobals "WORK_state" = some (some (.int 1 t9)))
    (kon10 : PySem.W.nsIn K mainGlobals "DRIVE" = some (some (.int 2 t10)))
    (kon11 : PySem.W.nsIn K mainGlobals "REST" = some (some (.int 3 t11)))
    (kon12 : PySem.W.nsIn K mainGlobals "ON" = some (some (.int 4 t12)))
    (kon13 : PySem.W.nsIn K mainGlobals "OFF" = some (some (.int 5 t13)))
    (kon14 : PySem.W.nsIn K mainGlobals "CHANGE" = some (some (.int 6 t14)))
    (kon15 : PySem.W.nsIn K mainGlobals "LEAST" = some (some (.int 7 t15)))
    (kon16 : PySem.W.nsIn K mainGlobals "TWICE" = some (some (.int 8 t16)))
    (kon17 : PySem.W.nsIn K mainGlobals "RIGHT" = some (some (.int 0 t17)))
    (kon18 : PySem.W.nsIn K mainGlobals "NO_GAP" = some (some (.int 1 t18)))
    (kon19 : PySem.W.nsIn K mainGlobals "NO_HOME" = some (some (.int 2 t19)))
    (kon20 : PySem.W.nsIn K mainGlobals "TOO_LONG" = some (some (.int 3 t20)))
    (kon21 : PySem.W.nsIn K mainGlobals "TOO_MUCH_WORK" = some (some (.int 4 t21)))
    (kon22 : PySem.W.nsIn K mainGlobals "TOO_LONG_UNBROKEN" = some (some (.int 5 t22)))
    (kon23 : PySem.W.nsIn K mainGlobals "BEGINS" = some (some (.int 0 t23)))
    (kon24 : PySem.W.nsIn K mainGlobals "PLACE" = some (some (.int 1 t24)))
    (kon25 : PySem.W.nsIn K mainGlobals "WAY" = some (some (.int 2 t25)))
    (kon26 : PySem.W.nsIn K mainGlobals "WORK_depot" = some (some (.int 3 t26)))
    (kon27 : PySem.W.nsIn K mainGlobals "DROP" = some (some (.int 4 t27)))
    (kon28 : PySem.W.nsIn K mainGlobals "CHECK" = some (some (.int 5 t28)))
    (kon29 : PySem.W.nsIn K mainGlobals "BEST" = some (some (.int 6 t29)))
    (gF : PySem.W.nsIn K mainGlobals "FIRST_RULES" = some (some (.ref aF)))
    (lF : K.lookup aF = some ⟨.type "tuple", odF, .seq #[.int 600 u0, .int 480 u1, .int 240 u2, .int 30 u3, .int 10 u4, .int 10 u5, .int 5 u6, .int 0 u7, .int 100000 u8] nF, slF⟩)
    (gN : PySem.W.nsIn K mainGlobals "NUMBERS_BEHIND" = some (some (.ref aN)))
    (lN : K.lookup aN = some ⟨.type "tuple", odN, .seq #[.int 9 w0, .int 3 w1, .int 3 w2, .int 4 w3, .int 1 w4, .int 1 w5, .int 0 w6, .int 0 w7] nN, slN⟩)
    (lT : K.lookup c0 = some ⟨ocT, odT, .fields vsT, slT⟩) (hT : (vsT[11]? : Option Value) = some (.ref Tb)) (nT : as.contains Tb = false) :
    ∃ (fd : FuncData) (c Tb : Addr), PySem.W.tabIn K "in_order" = some (c, Tb) ∧ as.contains Tb = false ∧ (∀ (s : Shared) (us : List Value), us.length = (["calls"] : List Str).length → BindsTo s fd ⟨us, []⟩ ((["calls"] : List Str).zip us)) ∧ ∀ base : Heap, K.In base → base.Ns mainGlobals mg → LamX.TabB base mg c Tb → FnOk P w K mg base CX0 10 fa fd ["calls"] (spAnswers K Tb) := by
  have e := hfa.symm.trans (PySem.W.mg_of X G a37)
  cases e
  have eT : PySem.W.tabIn K "in_order" = some (c0, Tb) := by
    unfold PySem.W.tabIn
    rw [a12]
    dsimp only
    rw [l12]
    dsimp only [PySem.W.fnOf]
    rw [lT]
    dsimp only
    rw [hT]
  have T : Txt K mg C := ⟨⟨pgC, hdC, poC, saC⟩, nCrules, nCcan_break, nChomes, nCways, nCshortest, nCpieces, PySem.W.mg_of X G aC, ⟨_, PySem.W.mg_of X G kon0⟩, ⟨_, PySem.W.mg_of X G kon1⟩, ⟨_, PySem.W.mg_of X G kon2⟩, ⟨_, PySem.W.mg_of X G kon3⟩, ⟨aF, PySem.W.mg_of X G gF, fun H => .inr ⟨_, _, _, lF, rfl, rfl, by show 9 ≤ sizeLine; decide, .cons ⟨_, rfl⟩ (.cons ⟨_, rfl⟩ (.cons ⟨_, rfl⟩ (.cons ⟨_, rfl⟩ (.cons ⟨_, rfl⟩ (.cons ⟨_, rfl⟩ (.cons ⟨_, rfl⟩ (.cons ⟨_, rfl⟩ (.cons ⟨_, rfl⟩ (.nil)))))))))⟩⟩, PySem.W.mg_none_of X G zlen, PySem.W.mg_none_of X G zmax, PySem.W.mg_none_of X G zmin, PySem.W.mg_none_of X G zlist⟩
  have TN : TxN K mg := ⟨aN, PySem.W.mg_of X G gN, fun H => .inr ⟨_, _, _, lN, rfl, rfl, by show 8 ≤ sizeLine; decide, .cons ⟨_, rfl⟩ (.cons ⟨_, rfl⟩ (.cons ⟨_, rfl⟩ (.cons ⟨_, rfl⟩ (.cons ⟨_, rfl⟩ (.cons ⟨_, rfl⟩ (.cons ⟨_, rfl⟩ (.cons ⟨_, rfl⟩ (.nil))))))))⟩⟩
  have U : Txk mg := by
    refine ⟨?_, PySem.W.mg_none_of X G zlen, PySem.W.mg_none_of X G zmax, PySem.W.mg_none_of X G zrange, PySem.W.mg_none_of X G zsum, PySem.W.mg_none_of X G zsorted⟩
    unfold kons
    intro q hq
    simp only [List.mem_cons, List.not_mem_nil, or_false] at hq
    rcases hq with rfl | rfl | rfl | rfl | rfl | rfl | rfl | rfl | rfl | rfl | rfl | rfl | rfl | rfl | rfl | rfl | rfl | rfl | rfl | rfl | rfl | rfl | rfl | rfl | rfl | rfl
    · exact ⟨_, PySem.W.mg_of X G kon4⟩
    · exact ⟨_, PySem.W.mg_of X G kon5⟩
    · exact ⟨_, PySem.W.mg_of X G kon6⟩
    · exact ⟨_, PySem.W.mg_of X G kon7⟩
    · exact ⟨_, PySem.W.mg_of X G kon8⟩
    · exact ⟨_, PySem.W.mg_of X G kon9⟩
    · exact ⟨_, PySem.W.mg_of X G kon10⟩
    · exact ⟨_, PySem.W.mg_of X G kon11⟩
    · exact ⟨_, PySem.W.mg_of X G kon12⟩
    · exact ⟨_, PySem.W.mg_of X G kon13⟩
    · exact ⟨_, PySem.W.mg_of X G kon14⟩
    · exact ⟨_, PySem.W.mg_of X G kon15⟩
    · exact ⟨_, PySem.W.mg_of X G kon16⟩
    · exact ⟨_, PySem.W.mg_of X G kon17⟩
    · exact ⟨_, PySem.W.mg_of X G kon18⟩
    · exact ⟨_, PySem.W.mg_of X G kon19⟩
    · exact ⟨_, PySem.W.mg_of X G kon20⟩
    · exact ⟨_, PySem.W.mg_of X G kon21⟩
    · exact ⟨_, PySem.W.mg_of X G kon22⟩
    · exact ⟨_, PySem.W.mg_of X G kon23⟩
    · exact ⟨_, PySem.W.mg_of X G kon24⟩
    · exact ⟨_, PySem.W.mg_of X G kon25⟩
    · exact ⟨_, PySem.W.mg_of X G kon26⟩
    · exact ⟨_, PySem.W.mg_of X G kon27⟩
    · exact ⟨_, PySem.W.mg_of X G kon28⟩
    · exact ⟨_, PySem.W.mg_of X G kon29⟩
  have TD : TxD K mg CD := ⟨⟨pgCD, hdCD, poCD, saCD⟩, nCDorder, nCDhome, nCDwrong, nCDbeginning, nCDend, nCDpay, nCDworked, nCDunbroken, PySem.W.mg_of X G aCD⟩
  have TP : TxP K mg CP := ⟨⟨pgCP, hdCP, poCP, saCP⟩, nCPpay, nCPalike, nCPduties, PySem.W.mg_of X G aCP⟩
  have F1 := fun_mk (st := sIsPlace) l1 c1 k1
  have b1 := F1.binds (ps := ["place"]) fun _ _ _ _ _ _ us hl => match us, hl with | [_], _ => rfl
  have g1 := PySem.W.mg_of X G a1
  have F2 := fun_mk (st := sIsWay) l2 c2 k2
  have b2 := F2.binds (ps := ["from_place", "to_place", "minutes"]) fun _ _ _ _ _ _ us hl => match us, hl with | [_, _, _], _ => rfl
  have g2 := PySem.W.mg_of X G a2
  have F3 := fun_mk (st := sIsPiece) l3 c3 k3
  have b3 := F3.binds (ps := ["from_place", "to_place", "first", "last"]) fun _ _ _ _ _ _ us hl => match us, hl with | [_, _, _, _], _ => rfl
  have g3 := PySem.W.mg_of X G a3
  have F4 := fun_mk (st := sInit) l4 c4 k4
  have b4 := F4.binds (ps := ["self"]) fun _ _ _ _ _ _ us hl => match us, hl with | [_], _ => rfl
  have m4 : Meth K C "__init__" f4 := ⟨a4, i4, k4⟩
  have F5 := fun_mk (st := sAnew) l5 c5 k5
  have b5 := F5.binds (ps := ["self", "rules"]) fun _ _ _ _ _ _ us hl => match us, hl with | [_, _], _ => rfl
  have m5 : Meth K C "begin_anew" f5 := ⟨a5, i5, k5⟩
  have F6 := fun_mk (st := sBegins) l6 c6 k6
  have b6 := F6.binds (ps := ["self", "rules"]) fun _ _ _ _ _ _ us hl => match us, hl with | [_, _], _ => rfl
  have m6 : Meth K C "begins" f6 := ⟨a6, i6, k6⟩
  have F7 := fun_mk (st := sPlace) l7 c7 k7
  have b7 := F7.binds (ps := ["self", "place", "can_break", "home"]) fun _ _ _ _ _ _ us hl => match us, hl with | [_, _, _, _], _ => rfl
  have m7 : Meth K C "place" f7 := ⟨a7, i7, k7⟩
  have F8 := fun_mk (st := sWay) l8 c8 k8
  have b8 := F8.binds (ps := ["self", "from_place", "to_place", "minutes"]) fun _ _ _ _ _ _ us hl => match us, hl with | [_, _, _, _], _ => rfl
  have m8 : Meth K C "way" f8 := ⟨a8, i8, k8⟩
  have F9 := fun_mk (st := sGet) l9 c9 k9
  have b9 := F9.binds (ps := ["self", "from_place", "to_place"]) fun _ _ _ _ _ _ us hl => match us, hl with | [_, _, _], _ => rfl
  have m9 : Meth K C "minutes_to_get" f9 := ⟨a9, i9, k9⟩
  have F10 := fun_mk (st := sWork) l10 c10 k10
  have b10 := F10.binds (ps := ["self", "from_place", "to_place", "first", "last"]) fun _ _ _ _ _ _ us hl => match us, hl with | [_, _, _, _, _], _ => rfl
  have m10 : Meth K C "work" f10 := ⟨a10, i10, k10⟩
  have F11 := fun_mk (st := sDrop) l11 c11 k11
  have b11 := F11.binds (ps := ["self", "number"]) fun _ _ _ _ _ _ us hl => match us, hl with | [_, _], _ => rfl
  have m11 : Meth K C "drop" f11 := ⟨a11, i11, k11⟩
  have F12 := fun_mk (st := sOrder) l12 c12 k12
  have b12 := F12.binds (ps := ["pieces", "chosen"]) fun _ _ _ _ _ _ us hl => match us, hl with | [_, _], _ => rfl
  have g12 := PySem.W.mg_of X G a12
  have F13 := fun_mk (st := sLen) l13 c13 k13
  have b13 := F13.binds (ps := ["piece"]) fun _ _ _ _ _ _ us hl => match us, hl with | [_], _ => rfl
  have g13 := PySem.W.mg_of X G a13
  have F14 := fun_mk (st := sGap) l14 c14 k14
  have b14 := F14.binds (ps := ["depot", "piece", "behind"]) fun _ _ _ _ _ _ us hl => match us, hl with | [_, _, _], _ => rfl
  have g14 := PySem.W.mg_of X G a14
  have F15 := fun_mk (st := sGaps) l15 c15 k15
  have b15 := F15.binds (ps := ["depot", "pieces"]) fun _ _ _ _ _ _ us hl => match us, hl with | [_, _], _ => rfl
  have g15 := PySem.W.mg_of X G a15
  have F16 := fun_mk (st := sBreak) l16 c16 k16
  have b16 := F16.binds (ps := ["depot", "piece", "behind", "gap"]) fun _ _ _ _ _ _ us hl => match us, hl with | [_, _, _, _], _ => rfl
  have g16 := PySem.W.mg_of X G a16
  have F17 := fun_mk (st := sUnb) l17 c17 k17
  have b17 := F17.binds (ps := ["depot", "pieces", "gaps"]) fun _ _ _ _ _ _ us hl => match us, hl with | [_, _, _], _ => rfl
  have g17 := PySem.W.mg_of X G a17
  have F18 := fun_mk (st := sHome) l18 c18 k18
  have b18 := F18.binds (ps := ["depot", "first_piece", "last_piece"]) fun _ _ _ _ _ _ us hl => match us, hl with | [_, _, _], _ => rfl
  have g18 := PySem.W.mg_of X G a18
  have F19 := fun_mk (st := sPay) l19 c19 k19
  have b19 := F19.binds (ps := ["rules", "minutes"]) fun _ _ _ _ _ _ us hl => match us, hl with | [_, _], _ => rfl
  have g19 := PySem.W.mg_of X G a19
  have F20 := fun_mk (st := sDInit) l20 c20 k20
  have b20 := F20.binds (ps := ["self", "depot", "chosen"]) fun _ _ _ _ _ _ us hl => match us, hl with | [_, _, _], _ => rfl
  have m20 : Meth K CD "__init__" f20 := ⟨a20, i20, k20⟩
  have F21 := fun_mk (st := sReckon) l21 c21 k21
  have b21 := F21.binds (ps := ["self", "depot", "pieces", "gaps"]) fun _ _ _ _ _ _ us hl => match us, hl with | [_, _, _, _], _ => rfl
  have m21 : Meth K CD "reckon" f21 := ⟨a21, i21, k21⟩
  have F22 := fun_mk (st := sBeyond) l22 c22 k22
  have b22 := F22.binds (ps := ["self", "rules"]) fun _ _ _ _ _ _ us hl => match us, hl with | [_, _], _ => rfl
  have m22 : Meth K CD "beyond" f22 := ⟨a22, i22, k22⟩
  have F23 := fun_mk (st := sTold) l23 c23 k23
  have b23 := F23.binds (ps := ["self"]) fun _ _ _ _ _ _ us hl => match us, hl with | [_], _ => rfl
  have m23 : Meth K CD "told" f23 := ⟨a23, i23, k23⟩
  have F24 := fun_mk (st := sNum) l24 c24 k24
  have b24 := F24.binds (ps := ["members"]) fun _ _ _ _ _ _ us hl => match us, hl with | [_], _ => rfl
  have g24 := PySem.W.mg_of X G a24
  have F25 := fun_mk (st := sRight) l25 c25 k25
  have b25 := F25.binds (ps := ["depot"]) fun _ _ _ _ _ _ us hl => match us, hl with | [_], _ => rfl
  have g25 := PySem.W.mg_of X G a25
  have F26 := fun_mk (st := sPInit) l26 c26 k26
  have b26 := F26.binds (ps := ["self", "pay", "alike", "duties"]) fun _ _ _ _ _ _ us hl => match us, hl with | [_, _, _, _], _ => rfl
  have m26 : Meth K CP "__init__" f26 := ⟨a26, i26, k26⟩
  have F27 := fun_mk (st := sPlanFor) l27 c27 k27
  have b27 := F27.binds (ps := ["left", "right", "plans"]) fun _ _ _ _ _ _ us hl => match us, hl with | [_, _, _], _ => rfl
  have g27 := PySem.W.mg_of X G a27
  have F28 := fun_mk (st := sBestPlan) l28 c28 k28
  have b28 := F28.binds (ps := ["depot"]) fun _ _ _ _ _ _ us hl => match us, hl with | [_], _ => rfl
  have g28 := PySem.W.mg_of X G a28
  have F29 := fun_mk (st := sNever) l29 c29 k29
  have b29 := F29.binds (ps := ["depot"]) fun _ _ _ _ _ _ us hl => match us, hl with | [_], _ => rfl
  have g29 := PySem.W.mg_of X G a29
  have F30 := fun_mk (st := sEndOf) l30 c30 k30
  have b30 := F30.binds (ps := ["calls", "at"]) fun _ _ _ _ _ _ us hl => match us, hl with | [_, _], _ => rfl
  have g30 := PySem.W.mg_of X G a30
  have F31 := fun_mk (st := sWith) l31 c31 k31
  have b31 := F31.binds (ps := ["numbers"]) fun _ _ _ _ _ _ us hl => match us, hl with | [_], _ => rfl
  have g31 := PySem.W.mg_of X G a31
  have F32 := fun_mk (st := sAre) l32 c32 k32
  have b32 := F32.binds (ps := ["chosen", "there_are"]) fun _ _ _ _ _ _ us hl => match us, hl with | [_, _], _ => rfl
  have g32 := PySem.W.mg_of X G a32
  have F33 := fun_mk (st := sCheck) l33 c33 k33
  have b33 := F33.binds (ps := ["depot", "chosen"]) fun _ _ _ _ _ _ us hl => match us, hl with | [_, _], _ => rfl
  have g33 := PySem.W.mg_of X G a33
  have F34 := fun_mk (st := sBestD) l34 c34 k34
  have b34 := F34.binds (ps := ["depot"]) fun _ _ _ _ _ _ us hl => match us, hl with | [_], _ => rfl
  have g34 := PySem.W.mg_of X G a34
  have F35 := fun_mk (st := sNeverD) l35 c35 k35
  have b35 := F35.binds (ps := ["depot"]) fun _ _ _ _ _ _ us hl => match us, hl with | [_], _ => rfl
  have g35 := PySem.W.mg_of X G a35
  have F36 := fun_mk (st := sAnsOf) l36 c36 k36
  have b36 := F36.binds (ps := ["depot", "call", "row"]) fun _ _ _ _ _ _ us hl => match us, hl with | [_, _, _], _ => rfl
  have g36 := PySem.W.mg_of X G a36
  have F37 := fun_mk (st := sAnswers) l37 c37 k37
  have b37 := F37.binds (ps := ["calls"]) fun _ _ _ _ _ _ us hl => match us, hl with | [_], _ => rfl
  have g37 := PySem.W.mg_of X G a37
  refine ⟨PySem.W.fnOf "answers" "answers" (defArgs sAnswers) (defBody sAnswers) (defScope sAnswers) .none kV37 dc37 pm37 an37 cd37 ct37, c0, Tb, eT, nT, fun s us hu => match us, hu with | [_], _ => .of_eq rfl, fun base _ _ TB => ?_⟩
  have G4 : FnOk P w K mg base CX0 2 f4 _ ["self"] (spInit C) := ok_init F4 T F5 b5 m5
  have G6 : FnOk P w K mg base CX0 2 f6 _ ["self", "rules"] (spBegins C) := ok_begins F6 T F5 b5 m5
  have G7 : FnOk P w K mg base CX0 2 f7 _ ["self", "place", "can_break", "home"] (spStep C argsOf isPlace) := ok_place F7 T F1 b1 g1
  have G8 : FnOk P w K mg base CX0 3 f8 _ ["self", "from_place", "to_place", "minutes"] (spStep C argsOf isWay) := ok_way F8 T F1 b1 g1 F2 b2 g2
  have G10 : FnOk P w K mg base CX0 3 f10 _ ["self", "from_place", "to_place", "first", "last"] (spStep C argsOf isWork) := ok_work F10 T F1 b1 g1 F3 b3 g3
  have G11 : FnOk P w K mg base CX0 1 f11 _ ["self", "number"] (spStep C argsOf isDrop) := ok_drop F11 T
  have G12 : FnOk P w K mg base CX0 2 f12 _ ["pieces", "chosen"] (spOrder Tb) := ok_order F12 rfl TB U
  have G15 : FnOk P w K mg base CX0 3 f15 _ ["depot", "pieces"] (spGaps C) := ok_gaps F15 T U F14 b14 g14 F9 b9 m9
  have G18 : FnOk P w K mg base CX0 2 f18 _ ["depot", "first_piece", "last_piece"] (spHome C) := ok_home F18 T U F9 b9 m9
  have G21 : FnOk P w K mg base CX0 3 f21 _ ["self", "depot", "pieces", "gaps"] (spRec C CD) := ok_reckon F21 T TD U F9 b9 m9 F19 b19 g19 F13 b13 g13 F17 b17 g17 F16 b16 g16
  have G22 : FnOk P w K mg base CX0 1 f22 _ ["self", "rules"] (spBey CD) := ok_beyond F22 TD U
  have G23 : FnOk P w K mg base CX0 1 f23 _ ["self"] (spTold CD) := ok_told F23 TD
  have G20 : FnOk P w K mg base CX0 4 f20 _ ["self", "depot", "chosen"] (spDuty C CD Tb) := ok_dinit F20 T TD U G12 g12 F12.kp b12 G15 g15 F15.kp b15 G18 g18 F18.kp b18 G21 m21 b21 G22 m22 b22
  have G24 : FnOk P w K mg base CX0 1 f24 _ ["members"] (spNum) := ok_num F24 U
  have MD : Mk K CD f20 := ⟨mkCD, a20, i20, kcCD⟩
  have MP : Mk K CP f26 := ⟨mkCP, a26, i26, kcCP⟩
  have G25 : FnOk P w K mg base CX0 6 f25 _ ["depot"] (spRight C CD Tb) := ok_right F25 T TD U MD G20 b20 G24 g24 F24.kp b24
  have G26 : FnOk P w K mg base CX0 1 f26 _ ["self", "pay", "alike", "duties"] (spPInit CP) := ok_pinit F26 TP
  have G27 : FnOk P w K mg base CX0 3 f27 _ ["left", "right", "plans"] (spPlanFor CD CP) := ok_planfor F27 TD TP U MP G26 b26
  have G28 : FnOk P w K mg base CX0 7 f28 _ ["depot"] (spBest C CD CP Tb) := ok_bestplan F28 TP U G25 g25 F25.kp b25 G27 g27 F27.kp b27 MP G26 b26
  have G29 : FnOk P w K mg base CX0 7 f29 _ ["depot"] (spNever C Tb) := ok_never F29 T TD U G25 g25 F25.kp b25
  have G30 : FnOk P w K mg base CX0 1 f30 _ ["calls", "at"] (spEnd K) := ok_endof F30 TN U
  have G31 : FnOk P w K mg base CX0 1 f31 _ ["numbers"] (spWith) := ok_with F31 U
  have G32 : FnOk P w K mg base CX0 1 f32 _ ["chosen", "there_are"] (spAre) := ok_are F32 U
  have G33 : FnOk P w K mg base CX0 6 f33 _ ["depot", "chosen"] (spCheck C Tb) := ok_check F33 T TD U G32 g32 F32.kp b32 MD G20 b20 G23 m23 b23 G31 g31 F31.kp b31
  have G34 : FnOk P w K mg base CX0 8 f34 _ ["depot"] (spBestD C Tb) := ok_bestD F34 TD TP U G28 g28 F28.kp b28 G23 m23 b23 G31 g31 F31.kp b31
  have G35 : FnOk P w K mg base CX0 8 f35 _ ["depot"] (spNeverD C Tb) := ok_neverD F35 U G29 g29 F29.kp b29 G31 g31 F31.kp b31
  have G36 : FnOk P w K mg base CX0 9 f36 _ ["depot", "call", "row"] (spAnsOf C Tb) := ok_ansof F36 T U G6 m6 b6 G7 m7 b7 G8 m8 b8 G10 m10 b10 G11 m11 b11 G33 g33 F33.kp b33 G34 g34 F34.kp b34 G35 g35 F35.kp b35
  exact ok_answers F37 T ⟨mkC, a4, i4, kcC⟩ G4 b4 G30 g30 F30.kp b30 G36 g36 F36.kp b36 (k := 9) (by decide) (by decide) (by decide)
end Du
open PySem PySem.W PyProof.Rows
set_option maxRecDepth 100000 in
set_option maxHeartbeats 8000000 in
theorem PySem.Challenge.cw_dutyrules_s01_answers_holds : PySem.Challenge.rw_dutyrules_s01_answers.Holds := by
  w_on; k_headS; (case hw => exact ⟨[.list [.int 7]], by decide +kernel, by decide +kernel⟩)
  k_fillS
  refine Du.walkTk (r := PySem.Challenge.rw_dutyrules_s01_answers) (k := 10) (ps := ["calls"]) (tx := "in_order") (sp := Du.spAnswers) (by decide +kernel) rfl rfl ⟨rfl, by decide, by decide⟩ (by decide +kernel) ?F ?S
  case F =>
    intro w mg fa h KX G hmg
    refine' Du.all_mk KX G hmg ?aC ?aCD ?aCP ?a1 ?l1 ?c1 ?k1 ?a2 ?l2 ?c2 ?k2 ?a3 ?l3 ?c3 ?k3 ?a4 ?i4 ?l4 ?c4 ?k4 ?a5 ?i5 ?l5 ?c5 ?k5 ?a6 ?i6 ?l6 ?c6 ?k6 ?a7 ?i7 ?l7 ?c7 ?k7 ?a8 ?i8 ?l8 ?c8 ?k8 ?a9 ?i9 ?l9 ?c9 ?k9 ?a10 ?i10 ?l10 ?c10 ?k10 ?a11 ?i11 ?l11 ?c11 ?k11 ?a12 ?l12 ?c12 ?k12 ?a13 ?l13 ?c13 ?k13 ?a14 ?l14 ?c14 ?k14 ?a15 ?l15 ?c15 ?k15 ?a16 ?l16 ?c16 ?k16 ?a17 ?l17 ?c17 ?k17 ?a18 ?l18 ?c18 ?k18 ?a19 ?l19 ?c19 ?k19 ?a20 ?i20 ?l20 ?c20 ?k20 ?a21 ?i21 ?l21 ?c21 ?k21 ?a22 ?i22 ?l22 ?c22 ?k22 ?a23 ?i23 ?l23 ?c23 ?k23 ?a24 ?l24 ?c24 ?k24 ?a25 ?l25 ?c25 ?k25 ?a26 ?i26 ?l26 ?c26 ?k26 ?a27 ?l27 ?c27 ?k27 ?a28 ?l28 ?c28 ?k28 ?a29 ?l29 ?c29 ?k29 ?a30 ?l30 ?c30 ?k30 ?a31 ?l31 ?c31 ?k31 ?a32 ?l32 ?c32 ?k32 ?a33 ?l33 ?c33 ?k33 ?a34 ?l34 ?c34 ?k34 ?a35 ?l35 ?c35 ?k35 ?a36 ?l36 ?c36 ?k36 ?a37 ?l37 ?c37 ?k37 ?pgC ?hdC ?poC ?saC ?mkC ?kcC ?pgCD ?hdCD ?poCD ?saCD ?mkCD ?kcCD ?pgCP ?hdCP ?poCP ?saCP ?mkCP ?kcCP ?nCrules ?nCcan_break ?nChomes ?nCways ?nCshortest ?nCpieces ?nCDorder ?nCDhome ?nCDwrong ?nCDbeginning ?nCDend ?nCDpay ?nCDworked ?nCDunbroken ?nCPpay ?nCPalike ?nCPduties ?zlen ?zmax ?zmin ?zlist ?zrange ?zsum ?zsorted ?kon0 ?kon1 ?kon2 ?kon3 ?kon4 ?kon5 ?kon6 ?kon7 ?kon8 ?kon9 ?kon10 ?kon11 ?kon12 ?kon13 ?kon14 ?kon15 ?kon16 ?kon17 ?kon18 ?kon19 ?kon20 ?kon21 ?kon22 ?kon23 ?kon24 ?kon25 ?kon26 ?kon27 ?kon28 ?kon29 ?gF ?lF ?gN ?lN ?lT ?hT ?nT
    (case aC => k_is)
    (case aCD => k_is)
    (case aCP => k_is)
    (case a1 => k_is)
    (case l1 => k_is)
    (case c1 => k_is)
    (case k1 => k_is)
    (case a2 => k_is)
    (case l2 => k_is)
    (case c2 => k_is)
    (case k2 => k_is)
    (case a3 => k_is)
    (case l3 => k_is)
    (case c3 => k_is)
    (case k3 => k_is)
    (case a4 => k_is)
    (case i4 => k_is)
    (case l4 => k_is)
    (case c4 => k_is)
    (case k4 => k_is)
    (case a5 => k_is)
    (case i5 => k_is)
    (case l5 => k_is)
    (case c5 => k_is)
    (case k5 => k_is)
    (case a6 => k_is)
    (case i6 => k_is)
    (case l6 => k_is)
    (case c6 => k_is)
    (case k6 => k_is)
    (case a7 => k_is)
    (case i7 => k_is)
    (case l7 => k_is)
    (case c7 => k_is)
    (case k7 => k_is)
    (case a8 => k_is)
    (case i8 => k_is)
    (case l8 => k_is)
    (case c8 => k_is)
    (case k8 => k_is)
    (case a9 => k_is)
    (case i9 => k_is)
    (case l9 => k_is)
    (case c9 => k_is)
    (case k9 => k_is)
    (case a10 => k_is)
    (case i10 => k_is)
    (case l10 => k_is)
    (case c10 => k_is)
    (case k10 => k_is)
    (case a11 => k_is)
    (case i11 => k_is)
    (case l11 => k_is)
    (case c11 => k_is)
    (case k11 => k_is)
    (case a12 => k_is)
    (case l12 => k_is)
    (case c12 => k_is)
    (case k12 => k_is)
    (case a13 => k_is)
    (case l13 => k_is)
    (case c13 => k_is)
    (case k13 => k_is)
    (case a14 => k_is)
    (case l14 => k_is)
    (case c14 => k_is)
    (case k14 => k_is)
    (case a15 => k_is)
    (case l15 => k_is)
    (case c15 => k_is)
    (case k15 => k_is)
    (case a16 => k_is)
    (case l16 => k_is)
    (case c16 => k_is)
    (case k16 => k_is)
    (case a17 => k_is)
    (case l17 => k_is)
    (case c17 => k_is)
    (case k17 => k_is)
    (case a18 => k_is)
    (case l18 => k_is)
    (case c18 => k_is)
    (case k18 => k_is)
    (case a19 => k_is)
    (case l19 => k_is)
    (case c19 => k_is)
    (case k19 => k_is)
    (case a20 => k_is)
    (case i20 => k_is)
    (case l20 => k_is)
    (case c20 => k_is)
    (case k20 => k_is)
    (case a21 => k_is)
    (case i21 => k_is)
    (case l21 => k_is)
    (case c21 => k_is)
    (case k21 => k_is)
    (case a22 => k_is)
    (case i22 => k_is)
    (case l22 => k_is)
    (case c22 => k_is)
    (case k22 => k_is)
    (case a23 => k_is)
    (case i23 => k_is)
    (case l23 => k_is)
    (case c23 => k_is)
    (case k23 => k_is)
    (case a24 => k_is)
    (case l24 => k_is)
    (case c24 => k_is)
    (case k24 => k_is)
    (case a25 => k_is)
    (case l25 => k_is)
    (case c25 => k_is)
    (case k25 => k_is)
    (case a26 => k_is)
    (case i26 => k_is)
    (case l26 => k_is)
    (case c26 => k_is)
    (case k26 => k_is)
    (case a27 => k_is)
    (case l27 => k_is)
    (case c27 => k_is)
    (case k27 => k_is)
    (case a28 => k_is)
    (case l28 => k_is)
    (case c28 => k_is)
    (case k28 => k_is)
    (case a29 => k_is)
    (case l29 => k_is)
    (case c29 => k_is)
    (case k29 => k_is)
    (case a30 => k_is)
    (case l30 => k_is)
    (case c30 => k_is)
    (case k30 => k_is)
    (case a31 => k_is)
    (case l31 => k_is)
    (case c31 => k_is)
    (case k31 => k_is)
    (case a32 => k_is)
    (case l32 => k_is)
    (case c32 => k_is)
    (case k32 => k_is)
    (case a33 => k_is)
    (case l33 => k_is)
    (case c33 => k_is)
    (case k33 => k_is)
    (case a34 => k_is)
    (case l34 => k_is)
    (case c34 => k_is)
    (case k34 => k_is)
    (case a35 => k_is)
    (case l35 => k_is)
    (case c35 => k_is)
    (case k35 => k_is)
    (case a36 => k_is)
    (case l36 => k_is)
    (case c36 => k_is)
    (case k36 => k_is)
    (case a37 => k_is)
    (case l37 => k_is)
    (case c37 => k_is)
    (case k37 => k_is)
    (case pgC => k_is)
    (case hdC => k_is)
    (case poC => k_is)
    (case saC => k_is)
    (case mkC => k_is)
    (case kcC => k_is)
    (case pgCD => k_is)
    (case hdCD => k_is)
    (case poCD => k_is)
    (case saCD => k_is)
    (case mkCD => k_is)
    (case kcCD => k_is)
    (case pgCP => k_is)
    (case hdCP => k_is)
    (case poCP => k_is)
    (case saCP => k_is)
    (case mkCP => k_is)
    (case kcCP => k_is)
    (case nCrules => k_is)
    (case nCcan_break => k_is)
    (case nChomes => k_is)
    (case nCways => k_is)
    (case nCshortest => k_is)
    (case nCpieces => k_is)
    (case nCDorder => k_is)
    (case nCDhome => k_is)
    (case nCDwrong => k_is)
    (case nCDbeginning => k_is)
    (case nCDend => k_is)
    (case nCDpay => k_is)
    (case nCDworked => k_is)
    (case nCDunbroken => k_is)
    (case nCPpay => k_is)
    (case nCPalike => k_is)
    (case nCPduties => k_is)
    (case zlen => k_is)
    (case zmax => k_is)
    (case zmin => k_is)
    (case zlist => k_is)
    (case zrange => k_is)
    (case zsum => k_is)
    (case zsorted => k_is)
    (case kon0 => k_is)
    (case kon1 => k_is)
    (case kon2 => k_is)
    (case kon3 => k_is)
    (case kon4 => k_is)
    (case kon5 => k_is)
    (case kon6 => k_is)
    (case kon7 => k_is)
    (case kon8 => k_is)
    (case kon9 => k_is)
    (case kon10 => k_is)
    (case kon11 => k_is)
    (case kon12 => k_is)
    (case kon13 => k_is)
    (case kon14 => k_is)
    (case kon15 => k_is)
    (case kon16 => k_is)
    (case kon17 => k_is)
    (case kon18 => k_is)
    (case kon19 => k_is)
    (case kon20 => k_is)
    (case kon21 => k_is)
    (case kon22 => k_is)
    (case kon23 => k_is)
    (case kon24 => k_is)
    (case kon25 => k_is)
    (case kon26 => k_is)
    (case kon27 => k_is)
    (case kon28 => k_is)
    (case kon29 => k_is)
    (case gF => k_is)
    (case lF => k_is)
    (case gN => k_is)
    (case lN => k_is)
    (case lT => k_is)
    (case hT => rfl)
    (case nT => decide)
  case S =>
    intro K Tb H xs a hTb hwi hask hx
    cases hx with
    | cons h1 h2 =>
      cases h2
      cases h1 with
      | lst hs ha =>
        have e := L2.ints_dw a.1 _ ha
        subst e
        refine ⟨_, a.1, rfl, hs, ?_, hask, fun H' p hp => .lst (L2.SqL.of hp) (L2.dw_ints _)⟩
        intro q hq
        rw [List.mem_singleton.mp hq]
        exact LamX.TabS.nil hTb
#print axioms PySem.Challenge.cw_dutyrules_s01_answers_holds
