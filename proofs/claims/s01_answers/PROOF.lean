import PyProof.Rows.All
import Wide.All
import OpenK.AllK
import Wide.FinOn
import Open.SpecLaws
import KE.OsGo
import HandS.ForSpec
import HandS.ForMost
import HandS.Deep
import HandS.TupLen
import HandS.Conv
import HandS.Zip
import HandS.Style
import PySem.Challenge.RW_townexchange_s01_answers
import HandS.Walk
import HandS.More
import HandS.SetFor
set_option Elab.async false
set_option linter.all false
set_option maxRecDepth 100000
set_option maxHeartbeats 4000000
section
/-! The ways: which legs are beside each other, the chain that is moved, what is left by it. -/
namespace Tx
open Te
/-- a step from one to the next, so many at most -/
def run {α : Type} (nx : α → Option α) : Nat → Option α → List α
  | 0, _ => []
  | _ + 1, none => []
  | f + 1, some x => x :: run nx f (nx x)
def cur {α : Type} (nx : α → Option α) : Option α → Nat → Option α
  | o, 0 => o
  | o, k + 1 => cur nx (o.bind nx) k
theorem cur_none {α : Type} (nx : α → Option α) : ∀ k, cur nx none k = none
  | 0 => rfl
  | k + 1 => cur_none nx k
theorem cur_succ {α : Type} (nx : α → Option α) : ∀ k o, cur nx o (k + 1) = (cur nx o k).bind nx
  | 0, _ => rfl
  | k + 1, o => cur_succ nx k (o.bind nx)
theorem run_get {α : Type} (nx : α → Option α) : ∀ f o k, (run nx f o)[k]? = if k < f then cur nx o k else none
  | 0, o, k => by simp [run]
  | f + 1, none, k => by simp [run, cur_none]
  | f + 1, some x, 0 => by simp [run, cur]
  | f + 1, some x, k + 1 => by
    rw [run, List.getElem?_cons_succ, run_get nx f (nx x) k]
    simp [cur]
theorem cur_inj {α : Type} {nx : α → Option α} {S : α → Prop} {o : Option α} (hS : ∀ k x, cur nx o k = some x → S x)
    (inj : ∀ x y w, S x → S y → nx x = some w → nx y = some w → x = y) (st : ∀ x s, S x → o = some s → nx x = some s → False) :
    ∀ q p x, p < q → cur nx o p = some x → cur nx o q = some x → False
  | 0, p, x, h, _, _ => by omega
  | q + 1, 0, x, _, h0, hq => by
    rw [cur_succ] at hq
    obtain ⟨y, hy, hn⟩ := Option.bind_eq_some_iff.mp hq
    exact st y x (hS q y hy) h0 hn
  | q + 1, p + 1, x, h, hp, hq => by
    rw [cur_succ] at hp hq
    obtain ⟨y, hy, hn⟩ := Option.bind_eq_some_iff.mp hp
    obtain ⟨y', hy', hn'⟩ := Option.bind_eq_some_iff.mp hq
    have e := inj y y' x (hS p y hy) (hS q y' hy') hn hn'
    subst e
    exact cur_inj hS inj st q p y (by omega) hy hy'
theorem mem_run {α : Type} {nx : α → Option α} {f : Nat} {o : Option α} {x : α} : x ∈ run nx f o ↔ ∃ k, k < f ∧ cur nx o k = some x := by
  rw [List.mem_iff_getElem?]
  constructor
  · rintro ⟨k, h⟩
    rw [run_get] at h
    by_cases c : k < f
    · rw [if_pos c] at h
      exact ⟨k, c, h⟩
    · rw [if_neg c] at h
      cases h
  · rintro ⟨k, c, h⟩
    exact ⟨k, by rw [run_get, if_pos c]; exact h⟩
theorem run_nodup {α : Type} {nx : α → Option α} {f : Nat} {o : Option α} (h : ∀ q p x, p < q → cur nx o p = some x → cur nx o q = some x → False) : (run nx f o).Nodup := by
  rw [List.nodup_iff_pairwise_ne, List.pairwise_iff_getElem]
  intro i j hi hj hij e
  have e1 : (run nx f o)[i]? = some (run nx f o)[i] := List.getElem?_eq_getElem hi
  have e2 : (run nx f o)[j]? = some (run nx f o)[j] := List.getElem?_eq_getElem hj
  rw [run_get] at e1 e2
  by_cases c : j < f
  · rw [if_pos c] at e2
    rw [if_pos (by omega)] at e1
    rw [← e] at e2
    exact h j i _ hij e1 e2
  · rw [if_neg c] at e2
    cases e2
/-- where a run stops for want of a next, more steps don't matter -/
theorem run_more {α : Type} (nx : α → Option α) : ∀ f o g, (run nx f o).length < f → f ≤ g → run nx g o = run nx f o
  | 0, o, g, h, _ => by omega
  | f + 1, none, g, _, hg => by
    cases g with
    | zero => omega
    | succ g => rfl
  | f + 1, some x, g, h, hg => by
    cases g with
    | zero => omega
    | succ g =>
      rw [run, List.length_cons] at h
      rw [run, run, run_more nx f (nx x) g (by omega) (by omega)]

theorem run_snoc {α : Type} (nx : α → Option α) : ∀ t o x, cur nx o t = some x → run nx (t + 1) o = run nx t o ++ [x]
  | 0, o, x, h => by
    have h : o = some x := h
    subst h
    rfl
  | t + 1, none, x, h => by
    rw [cur_none] at h
    cases h
  | t + 1, some y, x, h => by
    show y :: run nx (t + 1) (nx y) = y :: (run nx t (nx y) ++ [x])
    rw [run_snoc nx t (nx y) x h]
theorem run_stop {α : Type} (nx : α → Option α) : ∀ t o f, cur nx o t = none → t ≤ f → run nx f o = run nx t o
  | 0, o, f, h, _ => by
    have h : o = none := h
    subst h
    cases f <;> rfl
  | t + 1, none, f, _, _ => by
    cases f <;> rfl
  | t + 1, some y, 0, h, hf => by omega
  | t + 1, some y, f + 1, h, hf => by
    show y :: run nx f (nx y) = y :: run nx t (nx y)
    rw [run_stop nx t (nx y) f h (by omega)]
theorem run_lt {α : Type} (nx : α → Option α) {t : Nat} {o : Option α} {x : α} (h : cur nx o t = some x) : t < (run nx (t + 1) o).length := by
  have g : (run nx (t + 1) o)[t]? = some x := by
    rw [run_get, if_pos (Nat.lt_succ_self t)]
    exact h
  exact (List.getElem?_eq_some_iff.mp g).1

/-! ### Legs -/
def Beside (z : Size) (x y : Leg) : Prop := x.from_ ≠ y.from_ ∧ ¬ (z.switch x.from_ = z.switch y.from_ ∧ x.mid = y.mid) ∧ ¬ (z.switch x.to_ = z.switch y.to_ ∧ x.mid = y.mid)
theorem Beside.symm {z : Size} {x y : Leg} (h : Beside z x y) : Beside z y x := ⟨fun e => h.1 e.symm, fun e => h.2.1 ⟨e.1.symm, e.2.symm⟩, fun e => h.2.2 ⟨e.1.symm, e.2.symm⟩⟩
theorem pw_eq {α : Type} {R : α → α → Prop} (sy : ∀ {x y}, R x y → R y x) : ∀ {l : List α} {x y : α}, l.Pairwise R → x ∈ l → y ∈ l → x = y ∨ R x y
  | [], x, y, _, hx, _ => by cases hx
  | a :: l, x, y, h, hx, hy => by
    rw [List.pairwise_cons] at h
    rw [List.mem_cons] at hx hy
    rcases hx with rfl | hx
    · rcases hy with rfl | hy
      · exact .inl rfl
      · exact .inr (h.1 y hy)
    · rcases hy with rfl | hy
      · exact .inr (sy (h.1 x hx))
      · exact pw_eq sy h.2 hx hy
section
variable {z : Size} {l : List Leg}
theorem eq_from (h : l.Pairwise (Beside z)) {x y : Leg} (hx : x ∈ l) (hy : y ∈ l) (e : x.from_ = y.from_) : x = y :=
  (pw_eq Beside.symm h hx hy).elim id fun b => (b.1 e).elim
theorem eq_in (h : l.Pairwise (Beside z)) {x y : Leg} (hx : x ∈ l) (hy : y ∈ l) (e : z.switch x.from_ = z.switch y.from_) (m : x.mid = y.mid) : x = y :=
  (pw_eq Beside.symm h hx hy).elim id fun b => (b.2.1 ⟨e, m⟩).elim
theorem eq_out (h : l.Pairwise (Beside z)) {x y : Leg} (hx : x ∈ l) (hy : y ∈ l) (e : z.switch x.to_ = z.switch y.to_) (m : x.mid = y.mid) : x = y :=
  (pw_eq Beside.symm h hx hy).elim id fun b => (b.2.2 ⟨e, m⟩).elim
/-- the leg to j by k; from i by k -/
def legTo (z : Size) (l : List Leg) (j k : Nat) : Option Leg := l.find? fun (x : Leg) => z.switch x.to_ == j && x.mid == k
def legFrom (z : Size) (l : List Leg) (i k : Nat) : Option Leg := l.find? fun (x : Leg) => z.switch x.from_ == i && x.mid == k
theorem legTo_some {j k : Nat} {x : Leg} (h : legTo z l j k = some x) : x ∈ l ∧ z.switch x.to_ = j ∧ x.mid = k := by
  have p := List.find?_some h
  simp only [Bool.and_eq_true, beq_iff_eq] at p
  exact ⟨List.mem_of_find?_eq_some h, p.1, p.2⟩
theorem legFrom_some {j k : Nat} {x : Leg} (h : legFrom z l j k = some x) : x ∈ l ∧ z.switch x.from_ = j ∧ x.mid = k := by
  have p := List.find?_some h
  simp only [Bool.and_eq_true, beq_iff_eq] at p
  exact ⟨List.mem_of_find?_eq_some h, p.1, p.2⟩
theorem legTo_there (h : l.Pairwise (Beside z)) {x : Leg} (hx : x ∈ l) : legTo z l (z.switch x.to_) x.mid = some x := by
  cases e : legTo z l (z.switch x.to_) x.mid with
  | none =>
    have q := List.find?_eq_none.mp e x hx
    simp at q
  | some y =>
    obtain ⟨hy, e1, e2⟩ := legTo_some e
    rw [eq_out h hy hx e1 e2]
theorem legFrom_there (h : l.Pairwise (Beside z)) {x : Leg} (hx : x ∈ l) : legFrom z l (z.switch x.from_) x.mid = some x := by
  cases e : legFrom z l (z.switch x.from_) x.mid with
  | none =>
    have q := List.find?_eq_none.mp e x hx
    simp at q
  | some y =>
    obtain ⟨hy, e1, e2⟩ := legFrom_some e
    rw [eq_in h hy hx e1 e2]
theorem freeIn_iff {i k : Nat} : freeIn z l i k = true ↔ ∀ x ∈ l, ¬ (z.switch x.from_ = i ∧ x.mid = k) := by
  simp [freeIn]
theorem freeOut_iff {i k : Nat} : freeOut z l i k = true ↔ ∀ x ∈ l, ¬ (z.switch x.to_ = i ∧ x.mid = k) := by
  simp [freeOut]
theorem freeIn_none {i k : Nat} : freeIn z l i k = (legFrom z l i k).isNone := by
  rw [Bool.eq_iff_iff, freeIn_iff, Option.isNone_iff_eq_none, legFrom, List.find?_eq_none]
  simp
theorem freeOut_none {i k : Nat} : freeOut z l i k = (legTo z l i k).isNone := by
  rw [Bool.eq_iff_iff, freeOut_iff, Option.isNone_iff_eq_none, legTo, List.find?_eq_none]
  simp
/-- the next of the chain: by what it goes by -/
def nxt (z : Size) (l : List Leg) (a b : Nat) (x : Leg) : Option Leg := if x.mid = a then legFrom z l (z.switch x.from_) b else legTo z l (z.switch x.to_) a
theorem chain_run {a b : Nat} (ab : a ≠ b) : ∀ f j, chain z l a b f true j = (run (nxt z l a b) f (legTo z l j a)).map (·.from_) ∧ chain z l a b f false j = (run (nxt z l a b) f (legFrom z l j b)).map (·.from_)
  | 0, j => ⟨rfl, rfl⟩
  | f + 1, j => by
    constructor
    · rw [chain]
      show (match legTo z l j a with
        | none => []
        | some x => x.from_ :: chain z l a b f false (z.switch x.from_)) = _
      cases e : legTo z l j a with
      | none => rfl
      | some x =>
        obtain ⟨_, _, e2⟩ := legTo_some e
        show x.from_ :: chain z l a b f false (z.switch x.from_) = x.from_ :: (run (nxt z l a b) f (nxt z l a b x)).map (·.from_)
        rw [(chain_run ab f _).2, nxt, if_pos e2]
    · rw [chain]
      show (match legFrom z l j b with
        | none => []
        | some x => x.from_ :: chain z l a b f true (z.switch x.to_)) = _
      cases e : legFrom z l j b with
      | none => rfl
      | some x =>
        obtain ⟨_, _, e2⟩ := legFrom_some e
        show x.from_ :: chain z l a b f true (z.switch x.to_) = x.from_ :: (run (nxt z l a b) f (nxt z l a b x)).map (·.from_)
        rw [(chain_run ab f _).1, nxt, if_neg (by omega)]
/-- the legs of the chain -/
def moves (z : Size) (l : List Leg) (a b j : Nat) : List Leg := run (nxt z l a b) (l.length + 1) (legTo z l j a)
theorem nxt_a {a b : Nat} {x w : Leg} (e : x.mid = a) (h : nxt z l a b x = some w) : w ∈ l ∧ z.switch w.from_ = z.switch x.from_ ∧ w.mid = b := by
  rw [nxt, if_pos e] at h
  exact legFrom_some h
theorem nxt_b {a b : Nat} {x w : Leg} (e : x.mid ≠ a) (h : nxt z l a b x = some w) : w ∈ l ∧ z.switch w.to_ = z.switch x.to_ ∧ w.mid = a := by
  rw [nxt, if_neg e] at h
  exact legTo_some h
theorem cur_in {a b j : Nat} : ∀ k x, cur (nxt z l a b) (legTo z l j a) k = some x → x ∈ l ∧ (x.mid = a ∨ x.mid = b)
  | 0, x, h => by
    obtain ⟨h1, _, h3⟩ := legTo_some h
    exact ⟨h1, .inl h3⟩
  | k + 1, x, h => by
    rw [cur_succ] at h
    obtain ⟨y, _, hn⟩ := Option.bind_eq_some_iff.mp h
    by_cases c : y.mid = a
    · obtain ⟨h1, _, h3⟩ := nxt_a c hn
      exact ⟨h1, .inr h3⟩
    · obtain ⟨h1, _, h3⟩ := nxt_b c hn
      exact ⟨h1, .inl h3⟩
theorem cur_once (hl : l.Pairwise (Beside z)) {a b j : Nat} (ab : a ≠ b) (hb : freeOut z l j b = true) :
    ∀ q p x, p < q → cur (nxt z l a b) (legTo z l j a) p = some x → cur (nxt z l a b) (legTo z l j a) q = some x → False := by
  refine cur_inj (S := fun x => x ∈ l ∧ (x.mid = a ∨ x.mid = b)) cur_in ?_ ?_
  · intro x y w hx hy e1 e2
    by_cases cx : x.mid = a
    · obtain ⟨_, s1, m1⟩ := nxt_a cx e1
      by_cases cy : y.mid = a
      · obtain ⟨_, s2, m2⟩ := nxt_a cy e2
        exact eq_in hl hx.1 hy.1 (s1.symm.trans s2) (cx.trans cy.symm)
      · obtain ⟨_, s2, m2⟩ := nxt_b cy e2
        omega
    · obtain ⟨_, s1, m1⟩ := nxt_b cx e1
      by_cases cy : y.mid = a
      · obtain ⟨_, s2, m2⟩ := nxt_a cy e2
        omega
      · obtain ⟨_, s2, m2⟩ := nxt_b cy e2
        exact eq_out hl hx.1 hy.1 (s1.symm.trans s2) ((hx.2.resolve_left cx).trans (hy.2.resolve_left cy).symm)
  · intro x s hx hs e
    obtain ⟨_, s1, s2⟩ := legTo_some hs
    by_cases cx : x.mid = a
    · obtain ⟨_, _, m1⟩ := nxt_a cx e
      omega
    · obtain ⟨_, s3, m1⟩ := nxt_b cx e
      exact freeOut_iff.mp hb x hx.1 ⟨s3.symm.trans s1, hx.2.resolve_left cx⟩
theorem moves_len (hl : l.Pairwise (Beside z)) {a b j : Nat} (ab : a ≠ b) (hb : freeOut z l j b = true) (f : Nat) : (run (nxt z l a b) f (legTo z l j a)).length ≤ l.length := by
  refine (run_nodup (cur_once hl ab hb)).length_le_of_subset fun x hx => ?_
  obtain ⟨k, _, hk⟩ := mem_run.mp hx
  exact (cur_in k x hk).1
theorem moves_chain {a b : Nat} (ab : a ≠ b) (j : Nat) : chain z l a b (l.length + 1) true j = (moves z l a b j).map (·.from_) := (chain_run ab _ j).1
theorem moves_in {a b j : Nat} {x : Leg} (h : x ∈ moves z l a b j) : x ∈ l ∧ (x.mid = a ∨ x.mid = b) := by
  obtain ⟨k, _, hk⟩ := mem_run.mp h
  exact cur_in k x hk
theorem moves_start {a b j : Nat} {x : Leg} (h : legTo z l j a = some x) : x ∈ moves z l a b j := mem_run.mpr ⟨0, Nat.succ_pos _, h⟩
theorem moves_next (hl : l.Pairwise (Beside z)) {a b j : Nat} (ab : a ≠ b) (hb : freeOut z l j b = true) {x w : Leg} (h : x ∈ moves z l a b j) (e : nxt z l a b x = some w) : w ∈ moves z l a b j := by
  obtain ⟨k, _, hk⟩ := mem_run.mp h
  have hk1 : cur (nxt z l a b) (legTo z l j a) (k + 1) = some w := by
    rw [cur_succ, hk]
    exact e
  refine mem_run.mpr ⟨k + 1, ?_, hk1⟩
  have c : k + 1 < (run (nxt z l a b) (k + 2) (legTo z l j a)).length := by
    have g : (run (nxt z l a b) (k + 2) (legTo z l j a))[k + 1]? = some w := by
      rw [run_get, if_pos (by omega)]
      exact hk1
    exact (List.getElem?_eq_some_iff.mp g).1
  have := moves_len hl ab hb (k + 2)
  omega
theorem moves_prev {a b j : Nat} {x : Leg} (h : x ∈ moves z l a b j) : legTo z l j a = some x ∨ ∃ w ∈ moves z l a b j, nxt z l a b w = some x := by
  obtain ⟨k, hk, e⟩ := mem_run.mp h
  cases k with
  | zero => exact .inl e
  | succ k =>
    rw [cur_succ] at e
    obtain ⟨y, hy, hn⟩ := Option.bind_eq_some_iff.mp e
    exact .inr ⟨y, mem_run.mpr ⟨k, by omega, hy⟩, hn⟩
/-- a leg behind the change -/
def flip (C : List Leg) (a b : Nat) (x : Leg) : Leg := if (C.map (·.from_)).contains x.from_ = true then { x with mid := if x.mid = a then b else a } else x
theorem swapped_flip (C : List Leg) (a b : Nat) : swapped l (C.map (·.from_)) a b = l.map (flip C a b) := rfl
theorem in_who (hl : l.Pairwise (Beside z)) {C : List Leg} (hC : ∀ x ∈ C, x ∈ l) {x : Leg} (hx : x ∈ l) : (C.map (·.from_)).contains x.from_ = true ↔ x ∈ C := by
  rw [List.contains_iff_mem, List.mem_map]
  constructor
  · rintro ⟨y, hy, e⟩
    rw [eq_from hl hx (hC y hy) e.symm]
    exact hy
  · exact fun h => ⟨x, h, rfl⟩
theorem flip_from (C : List Leg) (a b : Nat) (x : Leg) : (flip C a b x).from_ = x.from_ := by
  unfold flip
  split <;> rfl
theorem flip_to (C : List Leg) (a b : Nat) (x : Leg) : (flip C a b x).to_ = x.to_ := by
  unfold flip
  split <;> rfl
theorem flip_mid (hl : l.Pairwise (Beside z)) {C : List Leg} (hC : ∀ x ∈ C, x ∈ l) {x : Leg} (hx : x ∈ l) (a b : Nat) :
    (x ∈ C ∧ (flip C a b x).mid = if x.mid = a then b else a) ∨ (x ∉ C ∧ (flip C a b x).mid = x.mid) := by
  by_cases c : x ∈ C
  · refine .inl ⟨c, ?_⟩
    unfold flip
    rw [if_pos ((in_who hl hC hx).mpr c)]
  · refine .inr ⟨c, ?_⟩
    unfold flip
    rw [if_neg fun q => c ((in_who hl hC hx).mp q)]
/-- one that's moved and one that isn't don't come to stand on one another -/
theorem apart (hl : l.Pairwise (Beside z)) {a b j : Nat} (ab : a ≠ b) (hb : freeOut z l j b = true) {x y : Leg} (hx : x ∈ moves z l a b j) (hy : y ∈ l) (ny : y ∉ moves z l a b j) (m : (if x.mid = a then b else a) = y.mid) :
    z.switch x.from_ ≠ z.switch y.from_ ∧ z.switch x.to_ ≠ z.switch y.to_ := by
  obtain ⟨xl, xm⟩ := moves_in hx
  by_cases c : x.mid = a
  · rw [if_pos c] at m
    constructor
    · intro e
      refine ny (moves_next hl ab hb hx ?_)
      rw [nxt, if_pos c, e, m]
      exact legFrom_there hl hy
    · intro e
      rcases moves_prev hx with h | ⟨w, hw, h⟩
      · obtain ⟨_, e1, _⟩ := legTo_some h
        exact freeOut_iff.mp hb y hy ⟨e.symm.trans e1, m.symm⟩
      · by_cases cw : w.mid = a
        · have := (nxt_a cw h).2.2
          omega
        · obtain ⟨_, e1, _⟩ := nxt_b cw h
          have hm := (moves_in hw).2.resolve_left cw
          exact ny (eq_out hl (moves_in hw).1 hy (e1.symm.trans e) (hm.trans m) ▸ hw)
  · rw [if_neg c] at m
    have cb := xm.resolve_left c
    constructor
    · intro e
      rcases moves_prev hx with h | ⟨w, hw, h⟩
      · exact c (legTo_some h).2.2
      · by_cases cw : w.mid = a
        · obtain ⟨_, e1, _⟩ := nxt_a cw h
          exact ny (eq_in hl (moves_in hw).1 hy (e1.symm.trans e) (cw.trans m) ▸ hw)
        · exact c (nxt_b cw h).2.2
    · intro e
      refine ny (moves_next hl ab hb hx ?_)
      rw [nxt, if_neg c, e, m]
      exact legTo_there hl hy
theorem flip_ok (hl : l.Pairwise (Beside z)) {a b j : Nat} (ab : a ≠ b) (hb : freeOut z l j b = true) : (l.map (flip (moves z l a b j) a b)).Pairwise (Beside z) := by
  have hC : ∀ x ∈ moves z l a b j, x ∈ l := fun x hx => (moves_in hx).1
  rw [List.pairwise_map]
  refine hl.imp_of_mem ?_
  intro x y hx hy B
  unfold Beside
  rw [flip_from, flip_from, flip_to, flip_to]
  rcases flip_mid hl hC hx a b with ⟨cx, ex⟩ | ⟨cx, ex⟩ <;> rcases flip_mid hl hC hy a b with ⟨cy, ey⟩ | ⟨cy, ey⟩
  · have e : (flip (moves z l a b j) a b x).mid = (flip (moves z l a b j) a b y).mid → x.mid = y.mid := by
      rw [ex, ey]
      have h1 := (moves_in cx).2
      have h2 := (moves_in cy).2
      intro h
      split at h <;> split at h <;> omega
    exact ⟨B.1, fun h => B.2.1 ⟨h.1, e h.2⟩, fun h => B.2.2 ⟨h.1, e h.2⟩⟩
  · refine ⟨B.1, fun h => ?_, fun h => ?_⟩
    · rw [ex, ey] at h
      exact (apart hl ab hb cx hy cy h.2).1 h.1
    · rw [ex, ey] at h
      exact (apart hl ab hb cx hy cy h.2).2 h.1
  · refine ⟨B.1, fun h => ?_, fun h => ?_⟩
    · rw [ex, ey] at h
      exact (apart hl ab hb cy hx cx h.2.symm).1 h.1.symm
    · rw [ex, ey] at h
      exact (apart hl ab hb cy hx cx h.2.symm).2 h.1.symm
  · rw [ex, ey]
    exact B
/-- one more of the chain is moved -/
theorem flip_step (hl : l.Pairwise (Beside z)) {ms : List Leg} (hms : ∀ x ∈ ms, x ∈ l) (nd : ms.Nodup) {a b t p : Nat} {x : Leg} (hx : ms[t]? = some x) (hp : l[p]? = some x) :
    (l.map (flip (ms.take t) a b))[p]? = some x ∧ l.map (flip (ms.take (t + 1)) a b) = (l.map (flip (ms.take t) a b)).set p { x with mid := if x.mid = a then b else a } := by
  have sub : ∀ t, ∀ y ∈ ms.take t, y ∈ l := fun t y hy => hms y (List.mem_of_mem_take hy)
  have e1 : ms.take (t + 1) = ms.take t ++ [x] := by
    rw [List.take_add_one, hx]
    rfl
  have no : x ∉ ms.take t := by
    intro q
    have q2 : ms = ms.take t ++ ms.drop t := (List.take_append_drop t ms).symm
    rw [q2, List.nodup_append] at nd
    refine nd.2.2 x q x ?_ rfl
    rw [List.mem_iff_getElem?]
    exact ⟨0, by rw [List.getElem?_drop, Nat.add_zero]; exact hx⟩
  have xl : x ∈ l := List.mem_of_getElem? hp
  have fx : flip (ms.take t) a b x = x := by
    unfold flip
    rw [if_neg fun q => no ((in_who hl (sub t) xl).mp q)]
  constructor
  · rw [List.getElem?_map, hp]
    exact congrArg some fx
  · apply List.ext_getElem?
    intro j
    rw [List.getElem?_set, List.getElem?_map, List.getElem?_map, List.length_map]
    by_cases c : p = j
    · subst c
      rw [if_pos rfl, if_pos (List.getElem?_eq_some_iff.mp hp).1, hp]
      show some (flip (ms.take (t + 1)) a b x) = _
      unfold flip
      rw [if_pos ((in_who hl (sub (t + 1)) xl).mpr (by rw [e1]; exact List.mem_append_right _ (List.mem_singleton_self x)))]
    · rw [if_neg c]
      cases e : l[j]? with
      | none => rfl
      | some y =>
        show some (flip (ms.take (t + 1)) a b y) = some (flip (ms.take t) a b y)
        have yl : y ∈ l := List.mem_of_getElem? e
        have ne : y ≠ x := by
          rintro rfl
          have h1 := List.pairwise_iff_getElem.mp hl
          obtain ⟨hp1, ep⟩ := List.getElem?_eq_some_iff.mp hp
          obtain ⟨hj1, ej⟩ := List.getElem?_eq_some_iff.mp e
          rcases Nat.lt_or_gt_of_ne c with q | q
          · exact (h1 p j hp1 hj1 q).1 (by rw [ep, ej])
          · exact (h1 j p hj1 hp1 q).1 (by rw [ep, ej])
        congr 1
        unfold flip
        have w : ((ms.take (t + 1)).map (·.from_)).contains y.from_ = ((ms.take t).map (·.from_)).contains y.from_ := by
          rw [Bool.eq_iff_iff, in_who hl (sub (t + 1)) yl, in_who hl (sub t) yl, e1, List.mem_append, List.mem_singleton]
          exact ⟨fun q => q.resolve_right ne, .inl⟩
        rw [w]
/-- by a nobody goes to j any more, and none from i -/
theorem flip_free (hl : l.Pairwise (Beside z)) {a b i j : Nat} (ab : a ≠ b) (ha : freeIn z l i a = true) (hb : freeOut z l j b = true) :
    freeIn z (l.map (flip (moves z l a b j) a b)) i a = true ∧ freeOut z (l.map (flip (moves z l a b j) a b)) j a = true := by
  have hC : ∀ x ∈ moves z l a b j, x ∈ l := fun x hx => (moves_in hx).1
  constructor
  · rw [freeIn_iff]
    intro x' hx' ⟨e1, e2⟩
    obtain ⟨x, hx, rfl⟩ := List.mem_map.mp hx'
    rw [flip_from] at e1
    rcases flip_mid hl hC hx a b with ⟨cx, ex⟩ | ⟨cx, ex⟩
    · rw [ex] at e2
      by_cases c : x.mid = a
      · rw [if_pos c] at e2
        omega
      · rcases moves_prev cx with h | ⟨w, hw, h⟩
        · exact c (legTo_some h).2.2
        · by_cases cw : w.mid = a
          · obtain ⟨_, e3, _⟩ := nxt_a cw h
            exact freeIn_iff.mp ha w (hC w hw) ⟨e3.symm.trans e1, cw⟩
          · exact c (nxt_b cw h).2.2
    · rw [ex] at e2
      exact freeIn_iff.mp ha x hx ⟨e1, e2⟩
  · rw [freeOut_iff]
    intro x' hx' ⟨e1, e2⟩
    obtain ⟨x, hx, rfl⟩ := List.mem_map.mp hx'
    rw [flip_to] at e1
    rcases flip_mid hl hC hx a b with ⟨cx, ex⟩ | ⟨cx, ex⟩
    · rw [ex] at e2
      by_cases c : x.mid = a
      · rw [if_pos c] at e2
        omega
      · exact freeOut_iff.mp hb x hx ⟨e1, (moves_in cx).2.resolve_left c⟩
    · rw [ex] at e2
      apply cx
      have h := legTo_there hl hx
      rw [e1, e2] at h
      exact moves_start h
end
end Tx
end
section
/-! There is room: a middle switch that is free; what a new way leaves. -/
namespace Tx
open Te
theorem div_range {n i y : Nat} (hn : 0 < n) (h : y / n = i) : y ∈ (List.range n).map (fun t => i * n + t) := by
  refine List.mem_map.mpr ⟨y % n, List.mem_range.mpr (Nat.mod_lt _ hn), ?_⟩
  rw [← h, Nat.mul_comm]
  exact Nat.div_add_mod y n
theorem room {n m x : Nat} {l : List Leg} {f : Leg → Nat} (hn : 0 < n) (nm : n ≤ m) (nx : x ∉ l.map f) (nd : (l.map f).Nodup) : ∃ k, k < m ∧ ∀ y ∈ l, ¬ (f y / n = x / n ∧ y.mid = k) := by
  apply Classical.byContradiction
  intro hno
  have all : ∀ k, k < m → ∃ y, y ∈ l ∧ f y / n = x / n ∧ y.mid = k := by
    intro k hk
    apply Classical.byContradiction
    intro h2
    exact hno ⟨k, hk, fun y hy e => h2 ⟨y, hy, e.1, e.2⟩⟩
  let L := l.filter fun y => f y / n == x / n
  have h1 : (List.range m).length ≤ (L.map (·.mid)).length := by
    refine List.nodup_range.length_le_of_subset fun k hk => ?_
    obtain ⟨y, hy, e1, e2⟩ := all k (List.mem_range.mp hk)
    exact List.mem_map.mpr ⟨y, List.mem_filter.mpr ⟨hy, beq_iff_eq.mpr e1⟩, e2⟩
  have sub : (L.map f).Sublist (l.map f) := List.Sublist.map f List.filter_sublist
  have h2 : (x :: L.map f).length ≤ ((List.range n).map (fun t => x / n * n + t)).length := by
    refine (List.nodup_cons.mpr ⟨fun q => nx (sub.subset q), nd.sublist sub⟩).length_le_of_subset fun y hy => ?_
    rw [List.mem_cons] at hy
    rcases hy with rfl | hy
    · exact div_range hn rfl
    · obtain ⟨w, hw, rfl⟩ := List.mem_map.mp hy
      exact div_range hn (beq_iff_eq.mp (List.mem_filter.mp hw).2)
  rw [List.length_range, List.length_map] at h1
  rw [List.length_cons, List.length_map, List.length_map, List.length_range] at h2
  omega
theorem find_some {p : Nat → Bool} {m : Nat} (h : ∃ k, k < m ∧ p k = true) : ∃ k, (List.range m).find? p = some k := by
  cases e : (List.range m).find? p with
  | some k => exact ⟨k, rfl⟩
  | none =>
    obtain ⟨k, hk, hp⟩ := h
    exact (List.find?_eq_none.mp e k (List.mem_range.mpr hk) hp).elim
section
variable {z : Size} {l : List Leg} {x y : Nat}
theorem free_in (hn : 0 < z.n) (nm : z.n ≤ z.m) (nx : x ∉ l.map (·.from_)) (nd : (l.map (·.from_)).Nodup) : ∃ a, (List.range z.m).find? (freeIn z l (z.switch x)) = some a := by
  obtain ⟨k, hk, h⟩ := room hn nm nx nd
  exact find_some ⟨k, hk, freeIn_iff.mpr h⟩
theorem free_out (hn : 0 < z.n) (nm : z.n ≤ z.m) (nx : y ∉ l.map (·.to_)) (nd : (l.map (·.to_)).Nodup) : ∃ a, (List.range z.m).find? (freeOut z l (z.switch y)) = some a := by
  obtain ⟨k, hk, h⟩ := room hn nm nx nd
  exact find_some ⟨k, hk, freeOut_iff.mpr h⟩
/-- free at both; or a and b -/
inductive Routed (z : Size) (l : List Leg) (x y : Nat) : Prop
  | both (k : Nat) (e : (List.range z.m).find? (fun k => freeIn z l (z.switch x) k && freeOut z l (z.switch y) k) = some k) (r : route z l x y = some (k, (l, 0))) : Routed z l x y
  | moved (a b : Nat) (e : (List.range z.m).find? (fun k => freeIn z l (z.switch x) k && freeOut z l (z.switch y) k) = none) (ea : (List.range z.m).find? (freeIn z l (z.switch x)) = some a) (eb : (List.range z.m).find? (freeOut z l (z.switch y)) = some b) (ab : a ≠ b)
      (r : route z l x y = some (a, (l.map (flip (moves z l a b (z.switch y)) a b), (moves z l a b (z.switch y)).length))) : Routed z l x y
theorem routed (hn : 0 < z.n) (nm : z.n ≤ z.m) (nx : x ∉ l.map (·.from_)) (nd : (l.map (·.from_)).Nodup) (ny : y ∉ l.map (·.to_)) (nd2 : (l.map (·.to_)).Nodup) : Routed z l x y := by
  cases e : (List.range z.m).find? (fun k => freeIn z l (z.switch x) k && freeOut z l (z.switch y) k) with
  | some k =>
    refine .both k e ?_
    unfold route
    simp only [e]
  | none =>
    obtain ⟨a, ea⟩ := free_in hn nm nx nd
    obtain ⟨b, eb⟩ := free_out (z := z) hn nm ny nd2
    have ab : a ≠ b := by
      rintro rfl
      have h1 := List.find?_some ea
      have h2 := List.find?_some eb
      exact List.find?_eq_none.mp e a (List.mem_of_find?_eq_some ea) (by rw [h1, h2]; rfl)
    refine .moved a b e ea eb ab ?_
    unfold route
    simp only [e, ea, eb]
    rw [moves_chain ab, swapped_flip, List.length_map]
/-- what a new way leaves -/
structure Way (z : Size) (l : List Leg) (x y k : Nat) (l' : List Leg) : Prop where
  ok : l'.Pairwise (Beside z)
  same : l'.map (fun q => (q.from_, q.to_)) = l.map (fun q => (q.from_, q.to_))
  fi : freeIn z l' (z.switch x) k = true
  fo : freeOut z l' (z.switch y) k = true
  km : k < z.m
  mids : (∀ q ∈ l, q.mid < z.m) → ∀ q ∈ l', q.mid < z.m
theorem way_of (hl : l.Pairwise (Beside z)) (R : Routed z l x y) : ∃ k l' c, route z l x y = some (k, (l', c)) ∧ Way z l x y k l' := by
  cases R with
  | both k e r =>
    have p := List.find?_some e
    rw [Bool.and_eq_true] at p
    exact ⟨k, l, 0, r, hl, rfl, p.1, p.2, List.mem_range.mp (List.mem_of_find?_eq_some e), id⟩
  | moved a b e ea eb ab r =>
    have ha := List.find?_some ea
    have hb := List.find?_some eb
    have fr := flip_free hl (i := z.switch x) ab ha hb
    have am : a < z.m := List.mem_range.mp (List.mem_of_find?_eq_some ea)
    have bm : b < z.m := List.mem_range.mp (List.mem_of_find?_eq_some eb)
    refine ⟨a, _, _, r, flip_ok hl ab hb, ?_, fr.1, fr.2, am, fun h q hq => ?_⟩
    · rw [List.map_map]
      refine List.map_congr_left fun q _ => ?_
      show ((flip _ a b q).from_, (flip _ a b q).to_) = _
      rw [flip_from, flip_to]
    · obtain ⟨w, hw, rfl⟩ := List.mem_map.mp hq
      unfold flip
      split
      · show (if w.mid = a then b else a) < z.m
        split <;> assumption
      · exact h w hw
end
end Tx
end
section
/-! What holds of an exchange between two calls. -/
namespace Tx
open Te
structure LineOk (l : Line) : Prop where
  number : ∀ d, l.number = some d → isNumber d = true
  always : ∀ d, l.always = some d → isNumber d = true
  busy : ∀ d, l.busy = some d → isNumber d = true
  late : ∀ d, l.late = some d → isNumber d = true
  dials : ∀ d, l.stage = .dials d → isDigits d = true
def Apart (c d : Call_) : Prop := c.from_ ≠ d.from_ ∧ c.from_ ≠ d.to_ ∧ c.to_ ≠ d.from_ ∧ c.to_ ≠ d.to_
theorem Apart.symm {c d : Call_} (h : Apart c d) : Apart d c := ⟨fun e => h.1 e.symm, fun e => h.2.2.1 e.symm, fun e => h.2.1 e.symm, fun e => h.2.2.2 e.symm⟩
structure SizeOk (z : Size) : Prop where
  n1 : 1 ≤ z.n
  n8 : z.n ≤ 8
  r1 : 1 ≤ z.r
  r8 : z.r ≤ 8
  nm : z.n ≤ z.m
  m16 : z.m ≤ 16
structure CallOk (h : Hall) (c : Call_) : Prop where
  f : c.from_ < h.size.lines
  t : c.to_ < h.size.lines
  ne : c.from_ ≠ c.to_
  since : c.since ≤ h.now
  begun : ∀ t, c.begun = some t → t ≤ h.now
  hops : c.hops ≤ 5
  num : isNumber c.dialed = true
structure GroupOk (h : Hall) (g : Digits × List Nat) : Prop where
  num : isNumber g.1 = true
  some_ : g.2 ≠ []
  len : g.2.length ≤ 8
  there : ∀ x ∈ g.2, x < h.size.lines
structure Base (h : Hall) : Prop where
  size : SizeOk h.size
  len : h.lines.length = h.size.lines
  legs : h.legs.Pairwise (Beside h.size)
  mids : ∀ q ∈ h.legs, q.mid < h.size.m
  same : h.legs.map (fun q => (q.from_, q.to_)) = h.calls.map (fun c => (c.from_, c.to_))
  once : h.calls.Pairwise Apart
  calls : ∀ c ∈ h.calls, CallOk h c
  lines : ∀ l ∈ h.lines, LineOk l
  groups : ∀ g ∈ h.groups, GroupOk h g
  eight : h.groups.length ≤ 8
  prices : ∀ p ∈ h.prices, isDigits p.1 = true ∧ p.2 ≤ 1000
  keys : (h.prices.map (·.1)).Nodup
  sixteen : h.prices.length ≤ 16
  wait1 : 1 ≤ h.wait
  wait2 : h.wait ≤ 1000
def InCall (h : Hall) (x : Nat) : Prop := ∃ c ∈ h.calls, c.from_ = x ∨ c.to_ = x
structure OnBut (h : Hall) (S : Nat → Prop) : Prop where
  on : ∀ x, x < h.size.lines → ¬ S x → ((lineOf h x).stage = .on ↔ InCall h x)
  off : ∀ x, S x → ¬ InCall h x
structure WF (h : Hall) : Prop where
  base : Base h
  on : OnBut h fun _ => False

/-! ### Lines -/
theorem newLine_ok : LineOk newLine := ⟨nofun, nofun, nofun, nofun, nofun⟩
theorem Base.lineOk {h : Hall} (B : Base h) (x : Nat) : LineOk (lineOf h x) := by
  unfold lineOf
  rw [List.getD_eq_getElem?_getD]
  cases e : h.lines[x]? with
  | none => exact newLine_ok
  | some l => exact B.lines l (List.mem_of_getElem? e)
theorem lineOf_same {h : Hall} {x : Nat} (hx : x < h.lines.length) (l : Line) : lineOf (setLine h x l) x = l := by
  unfold lineOf setLine
  simp [List.getD_eq_getElem?_getD, hx]
theorem lineOf_other {h : Hall} {x y : Nat} (ne : y ≠ x) (l : Line) : lineOf (setLine h x l) y = lineOf h y := by
  unfold lineOf setLine
  simp [List.getD_eq_getElem?_getD, List.getElem?_set_ne (Ne.symm ne)]
theorem setLine_base {h : Hall} (B : Base h) {x : Nat} {l : Line} (hl : LineOk l) : Base (setLine h x l) := by
  refine ⟨B.size, ?_, B.legs, B.mids, B.same, B.once, fun c hc => ?_, fun l' h' => ?_, fun g hg => ?_, B.eight, B.prices, B.keys, B.sixteen, B.wait1, B.wait2⟩
  · show (h.lines.set x l).length = _
    rw [List.length_set]
    exact B.len
  · have q := B.calls c hc
    exact ⟨q.f, q.t, q.ne, q.since, q.begun, q.hops, q.num⟩
  · rcases List.mem_or_eq_of_mem_set h' with q | q
    · exact B.lines l' q
    · exact q ▸ hl
  · have q := B.groups g hg
    exact ⟨q.num, q.some_, q.len, q.there⟩
theorem staged_ok {l : Line} (hl : LineOk l) {s : Stage} (hs : ∀ d, s = .dials d → isDigits d = true) : LineOk { l with stage := s } := ⟨hl.number, hl.always, hl.busy, hl.late, hs⟩
theorem staged_base {h : Hall} (B : Base h) (x : Nat) {s : Stage} (hs : ∀ d, s = .dials d → isDigits d = true) : Base (staged h x s) := setLine_base B (staged_ok (B.lineOk x) hs)
/-- one more line does as its calls say: it's in none -/
theorem staged_off {h : Hall} {S : Nat → Prop} (B : Base h) (O : OnBut h S) {x : Nat} (hx : ¬ InCall h x) {s : Stage} (hs : s ≠ .on) : OnBut (staged h x s) (fun y => S y ∧ y ≠ x) := by
  refine ⟨fun y hy ny => ?_, fun y hy => O.off y hy.1⟩
  by_cases e : y = x
  · subst e
    have hy' : y < h.lines.length := by rw [B.len]; exact hy
    have q : lineOf (staged h y s) y = { lineOf h y with stage := s } := lineOf_same hy' _
    rw [q]
    exact ⟨fun c => (hs c).elim, fun c => (hx c).elim⟩
  · have q : lineOf (staged h x s) y = lineOf h y := lineOf_other e _
    rw [q]
    exact O.on y hy fun c => ny ⟨c, e⟩
theorem OnBut.imp {h : Hall} {S T : Nat → Prop} (O : OnBut h S) (st : ∀ x, S x → T x) (ts : ∀ x, T x → ¬ InCall h x) : OnBut h T := ⟨fun x hx nx => O.on x hx fun c => nx (st x c), ts⟩
theorem OnBut.congr {h : Hall} {S T : Nat → Prop} (O : OnBut h S) (st : ∀ x, S x ↔ T x) : OnBut h T := ⟨fun x hx nx => O.on x hx fun c => nx ((st x).mp c), fun x hx => O.off x ((st x).mpr hx)⟩
theorem setLine_on {h : Hall} {S : Nat → Prop} (B : Base h) (O : OnBut h S) {x : Nat} {l : Line} (e : l.stage = (lineOf h x).stage) : OnBut (setLine h x l) S := by
  refine ⟨fun y hy ny => ?_, O.off⟩
  by_cases c : y = x
  · subst c
    have hy' : y < h.lines.length := by rw [B.len]; exact hy
    rw [lineOf_same hy', e]
    exact O.on y hy ny
  · rw [lineOf_other c]
    exact O.on y hy ny

/-! ### Calls -/
theorem callOf_some {h : Hall} {x : Nat} {c : Call_} (e : callOf h x = some c) : c ∈ h.calls ∧ (c.from_ = x ∨ c.to_ = x) := by
  refine ⟨List.mem_of_find?_eq_some e, ?_⟩
  have p := List.find?_some e
  simpa using p
theorem callOf_none {h : Hall} {x : Nat} : callOf h x = none ↔ ¬ InCall h x := by
  unfold callOf InCall
  rw [List.find?_eq_none]
  simp
theorem one_call {h : Hall} (B : Base h) {c d : Call_} (hc : c ∈ h.calls) (hd : d ∈ h.calls) {x : Nat} (cx : c.from_ = x ∨ c.to_ = x) (dx : d.from_ = x ∨ d.to_ = x) : c = d := by
  rcases pw_eq Apart.symm B.once hc hd with e | a
  · exact e
  · exfalso
    obtain ⟨a1, a2, a3, a4⟩ := a
    rcases cx with cx | cx <;> rcases dx with dx | dx <;> omega
theorem callOf_there {h : Hall} (B : Base h) {c : Call_} (hc : c ∈ h.calls) {x : Nat} (cx : c.from_ = x ∨ c.to_ = x) : callOf h x = some c := by
  cases e : callOf h x with
  | none => exact (callOf_none.mp e ⟨c, hc, cx⟩).elim
  | some d =>
    obtain ⟨hd, dx⟩ := callOf_some e
    rw [one_call B hc hd cx dx]
theorem legs_from {h : Hall} (B : Base h) : h.legs.map (·.from_) = h.calls.map (·.from_) := by
  have q := congrArg (List.map Prod.fst) B.same
  rw [List.map_map, List.map_map] at q
  exact q
theorem legs_to {h : Hall} (B : Base h) : h.legs.map (·.to_) = h.calls.map (·.to_) := by
  have q := congrArg (List.map Prod.snd) B.same
  rw [List.map_map, List.map_map] at q
  exact q
theorem nodup_from {h : Hall} (B : Base h) : (h.legs.map (·.from_)).Nodup := by
  rw [legs_from B, List.nodup_iff_pairwise_ne, List.pairwise_map]
  exact B.once.imp fun a => a.1
theorem nodup_to {h : Hall} (B : Base h) : (h.legs.map (·.to_)).Nodup := by
  rw [legs_to B, List.nodup_iff_pairwise_ne, List.pairwise_map]
  exact B.once.imp fun a => a.2.2.2
theorem not_from {h : Hall} (B : Base h) {x : Nat} (hx : ¬ InCall h x) : x ∉ h.legs.map (·.from_) := by
  rw [legs_from B]
  intro q
  obtain ⟨c, hc, e⟩ := List.mem_map.mp q
  exact hx ⟨c, hc, .inl e⟩
theorem not_to {h : Hall} (B : Base h) {x : Nat} (hx : ¬ InCall h x) : x ∉ h.legs.map (·.to_) := by
  rw [legs_to B]
  intro q
  obtain ⟨c, hc, e⟩ := List.mem_map.mp q
  exact hx ⟨c, hc, .inr e⟩
theorem Base.routed {h : Hall} (B : Base h) {x y : Nat} (hx : ¬ InCall h x) (hy : ¬ InCall h y) : Routed h.size h.legs x y :=
  Tx.routed B.size.n1 B.size.nm (not_from B hx) (nodup_from B) (not_to B hy) (nodup_to B)
/-- put through -/
theorem connected_ok {h : Hall} (B : Base h) {x y hops : Nat} {dl : Digits} (O : OnBut h (· = x)) (hx : x < h.size.lines) (hy : y < h.size.lines) (ne : y ≠ x) (fy : ¬ InCall h y) (hh : hops ≤ 5) (hd : isNumber dl = true) : WF (connected h x y dl hops) := by
  have fx : ¬ InCall h x := O.off x rfl
  obtain ⟨k, l', c, r, W⟩ := way_of B.legs (B.routed fx fy)
  unfold connected
  rw [r]
  show WF (staged (staged { h with legs := l' ++ [⟨x, y, k⟩], calls := h.calls ++ [⟨x, y, dl, hops, h.now, none⟩], moved := h.moved + c } x .on) y .on)
  have hfrom : ∀ q ∈ l', q.from_ ≠ x := by
    intro q hq e
    have : (q.from_, q.to_) ∈ l'.map (fun q => (q.from_, q.to_)) := List.mem_map.mpr ⟨q, hq, rfl⟩
    rw [W.same, B.same] at this
    obtain ⟨d, hd, e2⟩ := List.mem_map.mp this
    exact fx ⟨d, hd, .inl ((Prod.mk.inj e2).1.trans e)⟩
  have B1 : Base { h with legs := l' ++ [⟨x, y, k⟩], calls := h.calls ++ [⟨x, y, dl, hops, h.now, none⟩], moved := h.moved + c } := by
    refine ⟨B.size, B.len, ?_, ?_, ?_, ?_, ?_, B.lines, fun g hg => ?_, B.eight, B.prices, B.keys, B.sixteen, B.wait1, B.wait2⟩
    · show (l' ++ [(⟨x, y, k⟩ : Leg)]).Pairwise _
      rw [List.pairwise_append]
      refine ⟨W.ok, List.pairwise_singleton _ _, fun q hq w hw => ?_⟩
      rw [List.mem_singleton] at hw
      subst hw
      exact ⟨hfrom q hq, freeIn_iff.mp W.fi q hq, freeOut_iff.mp W.fo q hq⟩
    · intro q hq
      rcases List.mem_append.mp hq with hq | hq
      · exact W.mids B.mids q hq
      · rw [List.mem_singleton] at hq
        subst hq
        exact W.km
    · show (l' ++ [(⟨x, y, k⟩ : Leg)]).map _ = (h.calls ++ [(⟨x, y, dl, hops, h.now, none⟩ : Call_)]).map _
      rw [List.map_append, List.map_append, W.same, B.same]
      rfl
    · show (h.calls ++ [(⟨x, y, dl, hops, h.now, none⟩ : Call_)]).Pairwise _
      rw [List.pairwise_append]
      refine ⟨B.once, List.pairwise_singleton _ _, fun q hq w hw => ?_⟩
      rw [List.mem_singleton] at hw
      subst hw
      exact ⟨fun e => fx ⟨q, hq, .inl e⟩, fun e => fy ⟨q, hq, .inl e⟩, fun e => fx ⟨q, hq, .inr e⟩, fun e => fy ⟨q, hq, .inr e⟩⟩
    · intro q hq
      rcases List.mem_append.mp hq with hq | hq
      · have w := B.calls q hq
        exact ⟨w.f, w.t, w.ne, w.since, w.begun, w.hops, w.num⟩
      · rw [List.mem_singleton] at hq
        subst hq
        exact ⟨hx, hy, Ne.symm ne, Nat.le_refl _, nofun, hh, hd⟩
    · have w := B.groups g hg
      exact ⟨w.num, w.some_, w.len, w.there⟩
  refine ⟨staged_base (staged_base B1 x (s := .on) nofun) y (s := .on) nofun, ?_, fun _ q => q.elim⟩
  intro w hw _
  have hl : ∀ v, v < h.size.lines → v < h.lines.length := fun v hv => by rw [B.len]; exact hv
  have inw : InCall { h with legs := l' ++ [⟨x, y, k⟩], calls := h.calls ++ [⟨x, y, dl, hops, h.now, none⟩], moved := h.moved + c } w ↔ InCall h w ∨ w = x ∨ w = y := by
    constructor
    · rintro ⟨d, hd, e⟩
      rcases List.mem_append.mp hd with hd | hd
      · exact .inl ⟨d, hd, e⟩
      · rw [List.mem_singleton] at hd
        subst hd
        exact .inr (e.imp Eq.symm Eq.symm)
    · rintro (⟨d, hd, e⟩ | e)
      · exact ⟨d, List.mem_append_left _ hd, e⟩
      · exact ⟨_, List.mem_append_right _ (List.mem_singleton_self _), e.imp Eq.symm Eq.symm⟩
  by_cases ey : w = y
  · subst ey
    have q : lineOf (staged (staged { h with legs := l' ++ [⟨x, w, k⟩], calls := h.calls ++ [⟨x, w, dl, hops, h.now, none⟩], moved := h.moved + c } x .on) w .on) w = _ := lineOf_same (by rw [(staged_base B1 x (s := .on) nofun).len]; exact hw) _
    rw [q]
    exact ⟨fun _ => inw.mpr (.inr (.inr rfl)), fun _ => rfl⟩
  · have q : lineOf (staged (staged { h with legs := l' ++ [⟨x, y, k⟩], calls := h.calls ++ [⟨x, y, dl, hops, h.now, none⟩], moved := h.moved + c } x .on) y .on) w = lineOf (staged { h with legs := l' ++ [⟨x, y, k⟩], calls := h.calls ++ [⟨x, y, dl, hops, h.now, none⟩], moved := h.moved + c } x .on) w := lineOf_other ey _
    rw [q]
    by_cases ex : w = x
    · subst ex
      have q : lineOf (staged { h with legs := l' ++ [⟨w, y, k⟩], calls := h.calls ++ [⟨w, y, dl, hops, h.now, none⟩], moved := h.moved + c } w .on) w = _ := lineOf_same (hl w hw) _
      rw [q]
      exact ⟨fun _ => inw.mpr (.inr (.inl rfl)), fun _ => rfl⟩
    · have q : lineOf (staged { h with legs := l' ++ [⟨x, y, k⟩], calls := h.calls ++ [⟨x, y, dl, hops, h.now, none⟩], moved := h.moved + c } x .on) w = lineOf h w := lineOf_other ex _
      rw [q]
      refine (O.on w hw ex).trans ⟨fun q => inw.mpr (.inl q), fun q => ?_⟩
      rcases inw.mp q with q | q | q
      · exact q
      · exact (ex q).elim
      · exact (ey q).elim
/-- x hears the tone, is idle: it's in no call -/
theorem staged_wf {h : Hall} (B : Base h) {x : Nat} (O : OnBut h (· = x)) {s : Stage} (hs : s ≠ .on) (hd : ∀ d, s = .dials d → isDigits d = true) : WF (staged h x s) :=
  ⟨staged_base B x hd, (staged_off B O (O.off x rfl) hs).congr fun y => ⟨fun q => q.2 q.1, fun q => q.elim⟩⟩
theorem idle_stage {h : Hall} {y : Nat} (e : isIdle h y = true) : (lineOf h y).stage = .idle := by
  unfold isIdle at e
  split at e
  · assumption
  · cases e
theorem idle_off {h : Hall} {x y : Nat} (O : OnBut h (· = x)) (hy : y < h.size.lines) (ne : y ≠ x) (e : isIdle h y = true) : ¬ InCall h y := by
  intro q
  have w := (O.on y hy ne).mpr q
  rw [idle_stage e] at w
  cases w
theorem owner_line {h : Hall} {d : Digits} {y : Nat} (e : ownerOf h d = .line y) : ∃ l, h.lines[y]? = some l ∧ l.number = some d := by
  unfold ownerOf at e
  split at e
  · rename_i x hx
    cases e
    obtain ⟨hl, p, _⟩ := List.findIdx?_eq_some_iff_getElem.mp hx
    exact ⟨_, List.getElem?_eq_getElem hl, beq_iff_eq.mp p⟩
  · split at e <;> cases e
theorem owner_group {h : Hall} {d : Digits} {l : List Nat} (e : ownerOf h d = .group l) : (d, l) ∈ h.groups := by
  unfold ownerOf at e
  split at e
  · cases e
  · split at e
    · rename_i g hg
      cases e
      have p := List.find?_some hg
      have q := List.mem_of_find?_eq_some hg
      obtain ⟨g1, g2⟩ := g
      have p' : g1 = d := by simpa using p
      rw [p'] at q
      exact q
    · cases e
theorem tried_ok {x : Nat} {dl : Digits} (hd : isNumber dl = true) : ∀ (f : Nat) (h : Hall) (d : Digits), Base h → OnBut h (· = x) → x < h.size.lines → WF (tried x dl f h d)
  | 0, h, d, B, O, hx => staged_wf (s := .tone) B O (fun e => by cases e) (fun d e => by cases e)
  | f + 1, h, d, B, O, hx => by
    have hh : HOPS - f ≤ 5 := Nat.sub_le 5 f
    unfold tried
    split
    · exact staged_wf B O nofun nofun
    · rename_i l hl
      split
      · rename_i y hy
        have p := List.find?_some hy
        rw [Bool.and_eq_true, bne_iff_ne] at p
        have hy' := (B.groups _ (owner_group hl)).there y (List.mem_of_find?_eq_some hy)
        exact connected_ok B O hx hy' p.1 (idle_off O hy' p.1 p.2) hh hd
      · exact staged_wf B O nofun nofun
    · rename_i y hl
      split
      · exact tried_ok hd f h _ B O hx
      · split
        · rename_i p
          obtain ⟨w, hw, _⟩ := owner_line hl
          have hy' : y < h.size.lines := by rw [← B.len]; exact (List.getElem?_eq_some_iff.mp hw).1
          exact connected_ok B O hx hy' p.1 (idle_off O hy' p.1 p.2) hh hd
        · split
          · exact tried_ok hd f h _ B O hx
          · exact staged_wf B O nofun nofun
theorem filter_map_same {α β γ : Type} (f : α → γ) (g : β → γ) (p : γ → Bool) {l : List α} {m : List β} (h : l.map f = m.map g) : (l.filter (p ∘ f)).map f = (m.filter (p ∘ g)).map g := by
  rw [← List.filter_map, ← List.filter_map, h]
/-- the exchange without the call c -/
def without (h : Hall) (c : Call_) : Hall := { h with calls := h.calls.filter (fun (d : Call_) => d.from_ != c.from_), legs := h.legs.filter fun (l : Leg) => l.from_ != c.from_ }
theorem without_base {h : Hall} (B : Base h) (c : Call_) : Base (without h c) := by
  refine ⟨B.size, B.len, B.legs.filter _, fun q hq => B.mids q (List.mem_filter.mp hq).1, ?_, B.once.filter _, fun q hq => ?_, B.lines, fun g hg => ?_, B.eight, B.prices, B.keys, B.sixteen, B.wait1, B.wait2⟩
  · exact filter_map_same (fun (q : Leg) => (q.from_, q.to_)) (fun (d : Call_) => (d.from_, d.to_)) (fun w => w.1 != c.from_) B.same
  · have w := B.calls q (List.mem_filter.mp hq).1
    exact ⟨w.f, w.t, w.ne, w.since, w.begun, w.hops, w.num⟩
  · have w := B.groups g hg
    exact ⟨w.num, w.some_, w.len, w.there⟩
theorem without_in {h : Hall} (B : Base h) {c : Call_} (hc : c ∈ h.calls) (x : Nat) : InCall (without h c) x ↔ InCall h x ∧ x ≠ c.from_ ∧ x ≠ c.to_ := by
  constructor
  · rintro ⟨d, hd, e⟩
    obtain ⟨hd, ne⟩ := List.mem_filter.mp hd
    have ne' : d.from_ ≠ c.from_ := bne_iff_ne.mp ne
    refine ⟨⟨d, hd, e⟩, fun q => ?_, fun q => ?_⟩
    · exact ne' (congrArg Call_.from_ (one_call B hd hc (q ▸ e) (.inl rfl)))
    · exact ne' (congrArg Call_.from_ (one_call B hd hc (q ▸ e) (.inr rfl)))
  · rintro ⟨⟨d, hd, e⟩, n1, n2⟩
    refine ⟨d, List.mem_filter.mpr ⟨hd, bne_iff_ne.mpr fun q => ?_⟩, e⟩
    have := one_call B hd hc (x := c.from_) (.inl q) (.inl rfl)
    subst this
    rcases e with e | e
    · exact n1 e.symm
    · exact n2 e.symm
theorem ended_base {h : Hall} (B : Base h) (c : Call_) : Base (ended h c) := by
  have W := without_base B c
  unfold ended
  show Base (match c.begun with
    | none => without h c
    | some t => { setLine (without h c) c.from_ { lineOf (without h c) c.from_ with owes := (lineOf (without h c) c.from_).owes + Te.price h c.dialed * minutes t h.now } with records := (without h c).records ++ [⟨c.from_, c.to_, t, h.now, Te.price h c.dialed * minutes t h.now⟩] })
  cases c.begun with
  | none => exact W
  | some t =>
    have L := W.lineOk c.from_
    have S := setLine_base W (x := c.from_) (l := { lineOf (without h c) c.from_ with owes := (lineOf (without h c) c.from_).owes + Te.price h c.dialed * minutes t h.now }) ⟨L.number, L.always, L.busy, L.late, L.dials⟩
    exact ⟨S.size, S.len, S.legs, S.mids, S.same, S.once, fun q hq => let w := S.calls q hq; ⟨w.f, w.t, w.ne, w.since, w.begun, w.hops, w.num⟩, S.lines, fun q hq => let w := S.groups q hq; ⟨w.num, w.some_, w.len, w.there⟩, S.eight, S.prices, S.keys, S.sixteen, S.wait1, S.wait2⟩
theorem ended_on {h : Hall} (W : WF h) {c : Call_} (hc : c ∈ h.calls) : OnBut (ended h c) (fun x => x = c.from_ ∨ x = c.to_) := by
  have O : OnBut (without h c) (fun x => x = c.from_ ∨ x = c.to_) := by
    refine ⟨fun x hx nx => ?_, fun x hx q => ?_⟩
    · rw [without_in W.base hc]
      refine (W.on.on x hx id).trans ⟨fun q => ⟨q, fun e => nx (.inl e), fun e => nx (.inr e)⟩, fun q => q.1⟩
    · rw [without_in W.base hc] at q
      exact hx.elim q.2.1 q.2.2
  unfold ended
  show OnBut (match c.begun with
    | none => without h c
    | some t => { setLine (without h c) c.from_ { lineOf (without h c) c.from_ with owes := (lineOf (without h c) c.from_).owes + Te.price h c.dialed * minutes t h.now } with records := (without h c).records ++ [⟨c.from_, c.to_, t, h.now, Te.price h c.dialed * minutes t h.now⟩] }) _
  cases c.begun with
  | none => exact O
  | some t =>
    have Q := setLine_on (without_base W.base c) O (x := c.from_) (l := { lineOf (without h c) c.from_ with owes := (lineOf (without h c) c.from_).owes + Te.price h c.dialed * minutes t h.now }) rfl
    exact ⟨Q.on, Q.off⟩
theorem incall_staged {h : Hall} {x y : Nat} {s : Stage} : InCall (staged h y s) x ↔ InCall h x := Iff.rfl
/-- both ends of a call that's over do something else -/
theorem ended_wf {h : Hall} (W : WF h) {c : Call_} (hc : c ∈ h.calls) {s t : Stage} (hs : s ≠ .on) (ht : t ≠ .on) (ds : ∀ d, s ≠ .dials d) (dt : ∀ d, t ≠ .dials d) :
    WF (staged (staged (ended h c) c.from_ s) c.to_ t) ∧ WF (staged (staged (ended h c) c.to_ t) c.from_ s) := by
  have B := ended_base W.base c
  have O := ended_on W hc
  have O1 := staged_off B O (O.off c.from_ (.inl rfl)) hs
  have O2 := staged_off B O (O.off c.to_ (.inr rfl)) ht
  have ne := (W.base.calls c hc).ne
  constructor
  · refine staged_wf (staged_base B _ fun d e => (ds d e).elim) (O1.congr fun x => ⟨fun q => ?_, fun q => ?_⟩) ht fun d e => (dt d e).elim
    · exact q.1.resolve_left q.2
    · exact ⟨.inr q, fun e => ne (e.symm.trans q)⟩
  · refine staged_wf (staged_base B _ fun d e => (dt d e).elim) (O2.congr fun x => ⟨fun q => ?_, fun q => ?_⟩) hs fun d e => (ds d e).elim
    · exact q.1.resolve_right q.2
    · exact ⟨.inl q, fun e => ne (q.symm.trans e)⟩
theorem hung_ok {h : Hall} (W : WF h) {x : Nat} : WF (hung h x) := by
  unfold hung
  split
  · rename_i e
    refine staged_wf W.base (W.on.imp (fun _ q => q.elim) fun y q => ?_) nofun nofun
    subst q
    exact callOf_none.mp e
  · rename_i c e
    obtain ⟨hc, ex⟩ := callOf_some e
    show WF (if c.from_ = x then _ else _)
    by_cases cx : c.from_ = x
    · rw [if_pos cx]
      subst cx
      refine (ended_wf W hc ?_ ?_ ?_ ?_).1
      · nofun
      · split <;> nofun
      · nofun
      · split <;> nofun
    · rw [if_neg cx]
      have ex := ex.resolve_left cx
      subst ex
      exact (ended_wf W hc (s := .tone) (t := .idle) nofun nofun nofun nofun).2
theorem overdue_ok {h : Hall} (W : WF h) (x : Nat) : WF (overdue h x) := by
  unfold overdue
  split
  · exact W
  · rename_i c e
    obtain ⟨hc, _⟩ := callOf_some e
    split
    · exact W
    · rename_i q
      have cx : c.from_ = x := Classical.byContradiction fun n => q (.inl n)
      subst cx
      have B := ended_base W.base c
      have O := ended_on W hc
      have ne := (W.base.calls c hc).ne
      have O2 : OnBut (staged (ended h c) c.to_ .idle) (· = c.from_) := (staged_off B O (O.off c.to_ (.inr rfl)) (s := .idle) nofun).congr fun x => ⟨fun q => q.1.resolve_right q.2, fun q => ⟨.inl q, fun e => ne (q.symm.trans e)⟩⟩
      have B2 : Base (staged (ended h c) c.to_ .idle) := staged_base B _ nofun
      have sz : (staged (ended h c) c.to_ .idle).size = h.size := by
        show (ended h c).size = h.size
        unfold ended
        dsimp only
        split <;> rfl
      show WF (match (lineOf h c.to_).late with
        | some e => tried c.from_ c.dialed (HOPS - c.hops) (staged (ended h c) c.to_ .idle) e
        | none => staged (staged (ended h c) c.to_ .idle) c.from_ .tone)
      split
      · exact tried_ok (W.base.calls c hc).num _ _ _ B2 O2 (by rw [sz]; exact (W.base.calls c hc).f)
      · exact staged_wf B2 O2 nofun nofun
theorem later_ok {h : Hall} (W : WF h) {t : Nat} (ht : h.now ≤ t) : WF { h with now := t } := by
  have B := W.base
  refine ⟨⟨B.size, B.len, B.legs, B.mids, B.same, B.once, fun c hc => ?_, B.lines, fun g hg => ?_, B.eight, B.prices, B.keys, B.sixteen, B.wait1, B.wait2⟩, ⟨W.on.on, W.on.off⟩⟩
  · have w := B.calls c hc
    exact ⟨w.f, w.t, w.ne, Nat.le_trans w.since ht, fun t e => Nat.le_trans (w.begun t e) ht, w.hops, w.num⟩
  · have w := B.groups g hg
    exact ⟨w.num, w.some_, w.len, w.there⟩
theorem overdues_ok : ∀ (l : List Nat) {h : Hall}, WF h → WF (l.foldl overdue h)
  | [], _, W => W
  | x :: l, _, W => overdues_ok l (overdue_ok W x)
theorem ticked_ok {h : Hall} (W : WF h) {t : Nat} (ht : h.now ≤ t) : WF (ticked h t) := overdues_ok _ (later_ok W ht)
theorem mayBe_digits {h : Hall} (B : Base h) {d : Digits} (e : mayBe h d = true) : isDigits d = true := by
  unfold mayBe at e
  rw [List.any_eq_true] at e
  obtain ⟨w, hw, p⟩ := e
  have hn : isNumber w = true := by
    unfold numbers at hw
    rcases List.mem_append.mp hw with q | q
    · obtain ⟨l, hl, e⟩ := List.mem_filterMap.mp q
      exact (B.lines l hl).number w e
    · obtain ⟨g, hg, e⟩ := List.mem_map.mp q
      exact e ▸ (B.groups g hg).num
  have hp := List.isPrefixOf_iff_prefix.mp p
  unfold isNumber isDigits at hn
  unfold isDigits
  rw [Bool.and_eq_true, Bool.and_eq_true, List.all_eq_true, decide_eq_true_eq] at hn
  rw [Bool.and_eq_true, List.all_eq_true, decide_eq_true_eq]
  exact ⟨Nat.le_trans hp.length_le hn.2.1, fun v hv => hn.2.2 v (hp.subset hv)⟩
theorem owner_num {h : Hall} (B : Base h) {d : Digits} (e : ownerOf h d ≠ .nobody) : isNumber d = true := by
  cases c : ownerOf h d with
  | nobody => exact (e c).elim
  | line y =>
    obtain ⟨l, hl, e⟩ := owner_line c
    exact (B.lines l (List.mem_of_getElem? hl)).number d e
  | group l => exact (B.groups _ (owner_group c)).num
theorem dialed_ok {h : Hall} (W : WF h) {x : Nat} (hx : x < h.size.lines) (fx : ¬ InCall h x) (d : Digits) : WF (dialed h x d) := by
  have O : OnBut h (· = x) := W.on.imp (fun _ q => q.elim) fun _ q => q ▸ fx
  unfold dialed
  split
  · split
    · rename_i e
      exact staged_wf W.base O nofun fun d' e' => by cases e'; exact mayBe_digits W.base e
    · exact staged_wf W.base O nofun nofun
  · rename_i n
    exact tried_ok (owner_num W.base n) _ _ _ W.base O hx
theorem notOn {h : Hall} (W : WF h) {x : Nat} (hx : x < h.size.lines) (e : (lineOf h x).stage ≠ .on) : ¬ InCall h x := fun q => e ((W.on.on x hx id).mpr q)
theorem lifted_ok {h : Hall} (W : WF h) (v : Nat) : WF { h with calls := h.calls.map fun (y : Call_) => if y.from_ = v then { y with begun := some h.now } else y } := by
  have B := W.base
  have fe : ∀ y : Call_, (if y.from_ = v then { y with begun := some h.now } else y).from_ = y.from_ := fun y => by split <;> rfl
  have te : ∀ y : Call_, (if y.from_ = v then { y with begun := some h.now } else y).to_ = y.to_ := fun y => by split <;> rfl
  have ic : ∀ x, InCall { h with calls := h.calls.map fun (y : Call_) => if y.from_ = v then { y with begun := some h.now } else y } x ↔ InCall h x := by
    intro x
    constructor
    · rintro ⟨d, hd, e⟩
      obtain ⟨y, hy, rfl⟩ := List.mem_map.mp hd
      rw [fe, te] at e
      exact ⟨y, hy, e⟩
    · rintro ⟨d, hd, e⟩
      refine ⟨_, List.mem_map.mpr ⟨d, hd, rfl⟩, ?_⟩
      rw [fe, te]
      exact e
  refine ⟨⟨B.size, B.len, B.legs, B.mids, ?_, ?_, fun c hc => ?_, B.lines, fun g hg => ?_, B.eight, B.prices, B.keys, B.sixteen, B.wait1, B.wait2⟩, ⟨fun x hx q => (W.on.on x hx q).trans (ic x).symm, fun x q => q.elim⟩⟩
  · show h.legs.map _ = (h.calls.map _).map _
    rw [List.map_map, B.same]
    refine List.map_congr_left fun y _ => ?_
    show _ = ((if y.from_ = v then { y with begun := some h.now } else y).from_, (if y.from_ = v then { y with begun := some h.now } else y).to_)
    rw [fe, te]
  · show (h.calls.map _).Pairwise _
    rw [List.pairwise_map]
    refine B.once.imp fun {c d} a => ?_
    unfold Apart
    rw [fe, te, fe, te]
    exact a
  · obtain ⟨y, hy, rfl⟩ := List.mem_map.mp hc
    have w := B.calls y hy
    split
    · exact ⟨w.f, w.t, w.ne, w.since, fun t e => by cases e; exact Nat.le_refl _, w.hops, w.num⟩
    · exact ⟨w.f, w.t, w.ne, w.since, w.begun, w.hops, w.num⟩
  · have w := B.groups g hg
    exact ⟨w.num, w.some_, w.len, w.there⟩
theorem new_ok {z : Size} (hz : SizeOk z) : WF (newHall z) := by
  have hl : ∀ x, lineOf (newHall z) x = newLine := by
    intro x
    unfold lineOf newHall
    rw [List.getD_eq_getElem?_getD, List.getElem?_replicate]
    split <;> rfl
  refine ⟨⟨hz, List.length_replicate, List.Pairwise.nil, nofun, rfl, List.Pairwise.nil, nofun, fun l hl => ?_, nofun, Nat.zero_le _, nofun, List.nodup_nil, Nat.zero_le _, ?_, ?_⟩, ⟨fun x _ _ => ?_, fun x q => q.elim⟩⟩
  · exact (List.eq_of_mem_replicate hl) ▸ newLine_ok
  · show 1 ≤ 30; decide
  · show 30 ≤ 1000; decide
  · rw [hl]
    exact ⟨nofun, fun ⟨c, hc, _⟩ => nomatch hc⟩
/-- keeping all but lines' numbers and where they're handed on -/
theorem reline {h : Hall} (W : WF h) {x : Nat} {l : Line} (hl : LineOk l) (e : l.stage = (lineOf h x).stage) : WF (setLine h x l) := ⟨setLine_base W.base hl, setLine_on W.base W.on e⟩
theorem isNumber_of {d : Digits} (h : isDigits d = true) (e : d.isEmpty ≠ true) : isNumber d = true := by
  unfold isNumber
  rw [h, Bool.and_true]
  simpa using e
theorem stepOn_ok {h : Hall} (W : WF h) (c : Call) : WF (stepOn h c).1 := by
  have B := W.base
  cases c with
  | begin_ n r m => exact W
  | number x d =>
    dsimp only [stepOn]
    split
    · exact W
    · rename_i g
      split
      · exact W
      · split
        · exact W
        · have L := B.lineOk x
          have hd : isNumber d = true := by
            cases e : isNumber d with
            | true => rfl
            | false => exact (g (.inr e)).elim
          exact reline W ⟨fun d' e => by cases e; exact hd, L.always, L.busy, L.late, L.dials⟩ rfl
  | clear x =>
    dsimp only [stepOn]
    split
    · exact W
    · split
      · exact W
      · have L := B.lineOk x
        exact reline W ⟨nofun, L.always, L.busy, L.late, L.dials⟩ rfl
  | group d l =>
    dsimp only [stepOn]
    split
    · exact W
    · rename_i g
      split
      · exact W
      · split
        · exact W
        · rename_i g2
          refine ⟨⟨B.size, B.len, B.legs, B.mids, B.same, B.once, fun q hq => ?_, B.lines, fun q hq => ?_, ?_, B.prices, B.keys, B.sixteen, B.wait1, B.wait2⟩, ⟨W.on.on, W.on.off⟩⟩
          · have w := B.calls q hq
            exact ⟨w.f, w.t, w.ne, w.since, w.begun, w.hops, w.num⟩
          · rcases List.mem_append.mp hq with hq | hq
            · have w := B.groups q hq
              exact ⟨w.num, w.some_, w.len, w.there⟩
            · rw [List.mem_singleton] at hq
              subst hq
              refine ⟨?_, fun e => ?_, ?_, fun x hx => ?_⟩
              · cases e : isNumber d with
                | true => rfl
                | false => exact (g (.inl e)).elim
              · have e' : l = [] := e
                exact g (.inr (.inl (by rw [e']; rfl)))
              · exact Nat.le_of_not_lt fun e => g (.inr (.inr (.inl e)))
              · cases e : l.all (fun x => decide (x < h.size.lines)) with
                | true => exact of_decide_eq_true (List.all_eq_true.mp e x hx)
                | false => exact (g (.inr (.inr (.inr (.inl e))))).elim
          · show (h.groups ++ [(d, l)]).length ≤ 8
            rw [List.length_append]
            have : GROUPS = 8 := rfl
            simp only [List.length_singleton]
            omega
  | price c d =>
    dsimp only [stepOn]
    split
    · exact W
    · rename_i g
      split
      · exact W
      · rename_i g2
        refine ⟨⟨B.size, B.len, B.legs, B.mids, B.same, B.once, fun q hq => ?_, B.lines, fun q hq => ?_, B.eight, fun p hp => ?_, ?_, ?_, B.wait1, B.wait2⟩, ⟨W.on.on, W.on.off⟩⟩
        · have w := B.calls q hq
          exact ⟨w.f, w.t, w.ne, w.since, w.begun, w.hops, w.num⟩
        · have w := B.groups q hq
          exact ⟨w.num, w.some_, w.len, w.there⟩
        · rcases List.mem_append.mp hp with hp | hp
          · exact B.prices p (List.mem_filter.mp hp).1
          · rw [List.mem_singleton] at hp
            subst hp
            refine ⟨?_, Nat.le_of_not_lt fun e => g (.inl e)⟩
            cases e : isDigits d with
            | true => rfl
            | false => exact (g (.inr e)).elim
        · show ((h.prices.filter (fun p => p.1 != d) ++ [(d, c)]).map (·.1)).Nodup
          rw [List.map_append, List.nodup_append]
          refine ⟨B.keys.sublist (List.Sublist.map _ List.filter_sublist), (List.nodup_cons.mpr ⟨List.not_mem_nil, List.nodup_nil⟩), fun a ha b hb => ?_⟩
          obtain ⟨p, hp, rfl⟩ := List.mem_map.mp ha
          rw [show ([(d, c)].map (·.1)) = [d] from rfl, List.mem_singleton] at hb
          subst hb
          exact bne_iff_ne.mp (List.mem_filter.mp hp).2
        · show (h.prices.filter (fun p => p.1 != d) ++ [(d, c)]).length ≤ 16
          rw [List.length_append, List.length_singleton]
          by_cases q : (h.prices.all fun (p : Digits × Nat) => p.1 != d) = true
          · have : ¬ PRICES ≤ h.prices.length := fun e => g2 ⟨q, e⟩
            have pp : PRICES = 16 := rfl
            have := List.length_filter_le (fun p : Digits × Nat => p.1 != d) h.prices
            omega
          · have : (h.prices.filter (fun p => p.1 != d)).length < h.prices.length := by
              apply List.length_filter_lt_length_iff_exists.mpr
              rw [List.all_eq_true] at q
              obtain ⟨p, hp⟩ := Classical.not_forall.mp q
              obtain ⟨h1, h2⟩ := Classical.not_imp.mp hp
              exact ⟨p, h1, h2⟩
            have := B.sixteen
            omega
  | hand x k d =>
    dsimp only [stepOn]
    split
    · exact W
    · rename_i g
      have hd : isDigits d = true := by
        cases e : isDigits d with
        | true => rfl
        | false => exact (g (.inr (.inr e))).elim
      have L := B.lineOk x
      have o : ∀ d', (if d.isEmpty = true then none else some d) = some d' → isNumber d' = true := by
        intro d' e
        split at e
        · cases e
        · cases e
          exact isNumber_of hd ‹_›
      refine reline W ?_ ?_
      · unfold setHand
        split
        · exact ⟨L.number, o, L.busy, L.late, L.dials⟩
        · split
          · exact ⟨L.number, L.always, o, L.late, L.dials⟩
          · exact ⟨L.number, L.always, L.busy, o, L.dials⟩
      · unfold setHand
        split
        · rfl
        · split <;> rfl
  | wait t =>
    dsimp only [stepOn]
    split
    · exact W
    · rename_i g
      refine ⟨⟨B.size, B.len, B.legs, B.mids, B.same, B.once, fun q hq => ?_, B.lines, fun q hq => ?_, B.eight, B.prices, B.keys, B.sixteen, ?_, ?_⟩, ⟨W.on.on, W.on.off⟩⟩
      · have w := B.calls q hq
        exact ⟨w.f, w.t, w.ne, w.since, w.begun, w.hops, w.num⟩
      · have w := B.groups q hq
        exact ⟨w.num, w.some_, w.len, w.there⟩
      · exact Nat.le_of_not_lt fun e => g (.inl e)
      · exact Nat.le_of_not_lt fun e => g (.inr e)
  | lift x =>
    dsimp only [stepOn]
    split
    · exact W
    · rename_i hx
      split
      · rename_i e
        have hx' : x < h.size.lines := Nat.lt_of_not_le hx
        have fx := notOn W hx' (by rw [idle_stage e]; nofun)
        refine staged_wf B (W.on.imp (fun _ q => q.elim) fun y q => q ▸ fx) nofun fun d e => ?_
        cases e
        rfl
      · split
        · exact W
        · split
          · exact lifted_ok W _
          · exact W
  | digit x k =>
    dsimp only [stepOn]
    split
    · exact W
    · rename_i hx
      split
      · rename_i d e
        have hx' : x < h.size.lines := Nat.lt_of_not_le fun q => hx (.inl q)
        exact dialed_ok W hx' (notOn W hx' (by rw [e]; nofun)) _
      · exact W
  | hang x =>
    dsimp only [stepOn]
    split
    · exact W
    · split
      · exact W
      · exact hung_ok W
  | tick t =>
    dsimp only [stepOn]
    split
    · exact W
    · exact ticked_ok W (Nat.le_of_not_lt ‹_›)
  | look x => exact W
  | middle k => exact W
  | owes x => exact W
  | record i => exact W
  | owner d => exact W
  | counts => exact W
theorem step_ok {s : State} (W : ∀ h, s = some h → WF h) (c : Call) : ∀ h, (step s c).1 = some h → WF h := by
  intro h e
  cases c with
  | begin_ n r m =>
    dsimp only [step] at e
    split at e
    · exact W h e
    · rename_i g
      cases e
      exact new_ok ⟨by show 1 ≤ n; omega, by show n ≤ 8; omega, by show 1 ≤ r; omega, by show r ≤ 8; omega, by show n ≤ m; omega, by show m ≤ 16; omega⟩
  | _ =>
    cases s with
    | none => cases e
    | some h0 =>
      cases e
      exact stepOn_ok (W h0 rfl) _
end Tx
end
section
/-! Where a number that's tried rings. -/
namespace Tx
open Te
/-- to what a line is handed on at once (s: what it does) -/
def onward (s : Nat) (l : Line) : List Nat := if 0 < (l.always.getD []).length then l.always.getD [] else if s = 0 then [] else l.busy.getD []
/-- who's first of a group: idle, and not x -/
def firstIdle (st : Nat → Nat) (x : Nat) (l : List Nat) : Option Nat := l.find? fun y => !decide (y = x) && decide (st y = 0)
def idleOf (st : Nat → Nat) (h : Hall) (x : Nat) (d : Digits) : Option Nat := match h.groups.find? fun (g : Digits × List Nat) => g.1 == d with
  | none => none
  | some g => firstIdle st x g.2
def rings (st : Nat → Nat) (x : Nat) : Nat → Hall → Digits → Option (Nat × Nat)
  | 0, _, _ => none
  | f + 1, h, d => match h.lines.findIdx? fun (l : Line) => l.number == some d with
    | none => (idleOf st h x d).map fun y => (y, 5 - f)
    | some y => if (onward (st y) (lineOf h y)).length = 0 then (if st y = 0 then some (y, 5 - f) else none) else rings st x f h (onward (st y) (lineOf h y))
theorem rings_group {st : Nat → Nat} {x f : Nat} {h : Hall} {d : Digits} (e : (h.lines.findIdx? fun (l : Line) => l.number == some d) = none) : rings st x (f + 1) h d = (idleOf st h x d).map fun y => (y, 5 - f) := by
  rw [rings, e]
theorem rings_line {st : Nat → Nat} {x f y : Nat} {h : Hall} {d : Digits} (e : (h.lines.findIdx? fun (l : Line) => l.number == some d) = some y) : rings st x (f + 1) h d = if (onward (st y) (lineOf h y)).length = 0 then (if st y = 0 then some (y, 5 - f) else none) else rings st x f h (onward (st y) (lineOf h y)) := by
  rw [rings, e]
theorem idle_no {h : Hall} {i : Nat} : isIdle h i = decide (stageNo h i = 0) := by
  unfold isIdle stageNo
  cases (lineOf h i).stage with
  | idle => rfl
  | dials d => rfl
  | tone => rfl
  | on =>
    cases callOf h i with
    | none => rfl
    | some c =>
      show false = decide ((if c.begun.isSome = true then 2 else if c.from_ = i then 3 else 5) = 0)
      split
      · rfl
      · split <;> rfl
/-- what the objects say is so, x's aside -/
structure Seen (st : Nat → Nat) (h : Hall) (x : Nat) : Prop where
  other : ∀ j, j < h.lines.length → j ≠ x → st j = stageNo h j
  self : st x ≠ 0
theorem Seen.idle {st : Nat → Nat} {h : Hall} {x y : Nat} (S : Seen st h x) (hy : y < h.lines.length) : decide (st y = 0) = (!decide (y = x) && isIdle h y) := by
  by_cases c : y = x
  · subst c
    rw [decide_eq_false S.self, decide_eq_true rfl]
    rfl
  · rw [S.other y hy c, idle_no, decide_eq_false c]
    rfl
theorem getD_pos {o : Option (List Nat)} (h : ∀ d, o = some d → isNumber d = true) : (0 < (o.getD []).length) ↔ o.isSome = true := by
  cases o with
  | none => simp
  | some d =>
    have := h d rfl
    unfold isNumber at this
    cases d with
    | nil => simp at this
    | cons a b => simp
theorem tried_rings {st : Nat → Nat} {x : Nat} {dl : Digits} : ∀ (f : Nat) (h : Hall) (d : Digits), Base h → Seen st h x → f ≤ 6 →
    tried x dl f h d = match rings st x f h d with
      | none => staged h x .tone
      | some (y, k) => connected h x y dl k
  | 0, h, d, _, _, _ => rfl
  | f + 1, h, d, B, S, hf => by
    have hk : HOPS - f = 5 - f := rfl
    unfold tried rings ownerOf idleOf
    cases e : h.lines.findIdx? fun (l : Line) => l.number == some d with
    | none =>
      dsimp only
      cases e2 : h.groups.find? fun (g : Digits × List Nat) => g.1 == d with
      | none => rfl
      | some g =>
        dsimp only
        have hg := B.groups g (List.mem_of_find?_eq_some e2)
        have e3 : (g.2.find? fun (y : Nat) => y != x && isIdle h y) = firstIdle st x g.2 := by
          unfold firstIdle
          have : ∀ l : List Nat, (∀ y ∈ l, y < h.size.lines) → (l.find? fun (y : Nat) => y != x && isIdle h y) = l.find? fun y => !decide (y = x) && decide (st y = 0) := by
            intro l
            induction l with
            | nil => intro _; rfl
            | cons a r ih =>
              intro hl
              have ha : a < h.lines.length := by rw [B.len]; exact hl a (List.mem_cons_self ..)
              have q : (a != x && isIdle h a) = (!decide (a = x) && decide (st a = 0)) := by
                rw [S.idle ha]
                by_cases c : a = x
                · rw [decide_eq_true c, c]
                  simp
                · rw [decide_eq_false c, bne_iff_ne.mpr c]
                  rfl
              rw [List.find?_cons, List.find?_cons, q, ih fun y hy => hl y (List.mem_cons_of_mem _ hy)]
          exact this g.2 hg.there
        rw [e3]
        cases firstIdle st x g.2 with
        | none => rfl
        | some y => rfl
    | some y =>
      dsimp only
      obtain ⟨hy, _, _⟩ := List.findIdx?_eq_some_iff_getElem.mp e
      have L := B.lineOk y
      have s0 := S.idle hy
      cases ea : (lineOf h y).always with
      | some e' =>
        have p : 0 < ((lineOf h y).always.getD []).length := by
          rw [getD_pos L.always, ea]
          rfl
        have eo : onward (st y) (lineOf h y) = e' := by
          unfold onward
          rw [if_pos p, ea]
          rfl
        have p2 : ¬ e'.length = 0 := by
          rw [ea] at p
          exact Nat.pos_iff_ne_zero.mp p
        rw [eo]
        dsimp only
        rw [if_neg p2]
        exact tried_rings f h e' B S (by omega)
      | none =>
        have p : ¬ 0 < ((lineOf h y).always.getD []).length := by
          rw [ea]
          exact Nat.lt_irrefl 0
        have eo : onward (st y) (lineOf h y) = if st y = 0 then [] else (lineOf h y).busy.getD [] := by
          unfold onward
          rw [if_neg p]
        rw [eo]
        dsimp only
        by_cases c : st y = 0
        · rw [decide_eq_true c] at s0
          have s1 := s0.symm
          rw [Bool.and_eq_true] at s1
          have yx : y ≠ x := fun q => by rw [decide_eq_true q] at s1; exact absurd s1.1 (by decide)
          rw [if_pos c, if_pos (show ([] : List Nat).length = 0 from rfl), if_pos ⟨yx, s1.2⟩, if_pos c]
          rfl
        · rw [decide_eq_false c] at s0
          have nc : ¬ (y ≠ x ∧ isIdle h y = true) := fun q => by
            rw [decide_eq_false q.1, q.2] at s0
            exact absurd s0 (by decide)
          rw [if_neg c, if_neg nc]
          cases eb : (lineOf h y).busy with
          | none =>
            rw [if_pos (show ((none : Option Digits).getD []).length = 0 from rfl), if_neg c]
          | some e' =>
            have p2 : 0 < ((lineOf h y).busy.getD []).length := by
              rw [getD_pos L.busy, eb]
              rfl
            rw [eb] at p2
            have p3 : ((some e').getD ([] : List Nat)).length ≠ 0 := Nat.pos_iff_ne_zero.mp p2
            rw [if_neg p3]
            exact tried_rings f h e' B S (by omega)
theorem rings_to {st : Nat → Nat} {x y k : Nat} : ∀ (f : Nat) (h : Hall) (d : Digits), Base h → rings st x f h d = some (y, k) → y < h.size.lines ∧ st y = 0 ∧ k ≤ 5
  | 0, h, d, _, e => by cases e
  | f + 1, h, d, B, e => by
    unfold rings at e
    split at e
    · obtain ⟨z, hz, e⟩ := Option.map_eq_some_iff.mp e
      cases e
      unfold idleOf at hz
      split at hz
      · cases hz
      · rename_i g hg
        have p := List.find?_some hz
        rw [Bool.and_eq_true] at p
        exact ⟨(B.groups g (List.mem_of_find?_eq_some hg)).there y (List.mem_of_find?_eq_some hz), of_decide_eq_true p.2, Nat.sub_le _ _⟩
    · rename_i z hz
      obtain ⟨hy, _, _⟩ := List.findIdx?_eq_some_iff_getElem.mp hz
      split at e
      · split at e
        · rename_i c
          cases e
          exact ⟨by rw [← B.len]; exact hy, c, Nat.sub_le _ _⟩
        · cases e
      · exact rings_to f h _ B e
end Tx
end
section
/-! A list of calls read by whole numbers from 0 on. -/
namespace Tx
abbrev zs (l : List Nat) : List Int := l.map fun (n : Nat) => (n : Int)
def rowN : List Nat → Option (List Nat × List Nat)
  | [] => none
  | n :: r => if n ≤ r.length then some (r.take n, r.drop n) else none
def rowsN : Nat → List Nat → Option (List (List Nat) × List Nat)
  | 0, r => some ([], r)
  | k + 1, r => match rowN r with
    | none => none
    | some (x, s) => match rowsN k s with
      | none => none
      | some (xs, t) => some (x :: xs, t)
/-- a call: its number, its whole numbers, its rows -/
structure Req where
  kind : Nat
  nums : List Nat
  rows : List (List Nat)
def callN : List Nat → Option (Req × List Nat)
  | [] => none
  | p :: r => match PyWrtele.shape (p : Int) with
    | none => none
    | some (n, k) => if r.length < n then none else match rowsN k (r.drop n) with
      | none => none
      | some (xs, t) => some (⟨p, r.take n, xs⟩, t)
def callsN : Nat → List Nat → Option (List Req)
  | _, [] => some []
  | 0, _ :: _ => none
  | f + 1, p :: r => match callN (p :: r) with
    | none => none
    | some (c, t) => match callsN f t with
      | none => none
      | some cs => some (c :: cs)
/-- as the specification has it -/
def Req.flat (q : Req) : List (List Int) := ((q.kind : Int) :: zs q.nums) :: q.rows.map zs
theorem row_zs (l : List Nat) : PyFlat.row (zs l) = (rowN l).map fun p => (zs p.1, zs p.2) := by
  cases l with
  | nil => rfl
  | cons n r =>
    show (if 0 ≤ (n : Int) ∧ (n : Int).toNat ≤ (zs r).length then some ((zs r).take (n : Int).toNat, (zs r).drop (n : Int).toNat) else none) = ((if n ≤ r.length then some (r.take n, r.drop n) else none) : Option (List Nat × List Nat)).map _
    have e : (n : Int).toNat = n := rfl
    have el : (zs r).length = r.length := List.length_map _
    rw [e, el]
    by_cases c : n ≤ r.length
    · rw [if_pos ⟨by omega, c⟩, if_pos c]
      show some _ = some (zs (r.take n), zs (r.drop n))
      rw [show zs (r.take n) = (zs r).take n from List.map_take, show zs (r.drop n) = (zs r).drop n from List.map_drop]
    · rw [if_neg (fun q => c q.2), if_neg c]
      rfl
theorem rows_zs : ∀ (k : Nat) (l : List Nat), PyFlat.rows k (zs l) = (rowsN k l).map fun p => (p.1.map zs, zs p.2)
  | 0, l => rfl
  | k + 1, l => by
    rw [PyFlat.rows, rowsN, row_zs]
    cases rowN l with
    | none => rfl
    | some p =>
      obtain ⟨x, s⟩ := p
      show (match PyFlat.rows k (zs s) with | none => none | some (xs, t) => some (zs x :: xs, t)) = _
      rw [rows_zs k s]
      show _ = Option.map _ (match rowsN k s with | none => none | some (xs, t) => some (x :: xs, t))
      cases rowsN k s with
      | none => rfl
      | some q => rfl
theorem call_zs (l : List Nat) : PyFlat.call PyWrtele.shape (zs l) = (callN l).map fun p => (p.1.flat, zs p.2) := by
  cases l with
  | nil => rfl
  | cons p r =>
    show (match PyWrtele.shape (p : Int) with
      | none => none
      | some (n, k) => if (zs r).length < n then none else match PyFlat.rows k ((zs r).drop n) with
        | none => none
        | some (xs, t) => some (((p : Int) :: (zs r).take n) :: xs, t)) = Option.map _ (match PyWrtele.shape (p : Int) with
      | none => none
      | some (n, k) => if r.length < n then none else match rowsN k (r.drop n) with
        | none => none
        | some (xs, t) => some ((⟨p, r.take n, xs⟩ : Req), t))
    cases PyWrtele.shape (p : Int) with
    | none => rfl
    | some nk =>
      obtain ⟨n, k⟩ := nk
      dsimp only
      have el : (zs r).length = r.length := List.length_map _
      rw [el]
      by_cases c : r.length < n
      · rw [if_pos c, if_pos c]
        rfl
      · rw [if_neg c, if_neg c]
        have e : (zs r).drop n = zs (r.drop n) := List.map_drop.symm
        have e2 : (zs r).take n = zs (r.take n) := List.map_take.symm
        rw [e, rows_zs, e2]
        cases rowsN k (r.drop n) with
        | none => rfl
        | some q => rfl
theorem calls_zs : ∀ (f : Nat) (l : List Nat), PyFlat.calls PyWrtele.shape f (zs l) = (callsN f l).map fun cs => cs.map Req.flat
  | 0, [] => rfl
  | _ + 1, [] => rfl
  | 0, _ :: _ => rfl
  | f + 1, p :: r => by
    show (match PyFlat.call PyWrtele.shape (zs (p :: r)) with
      | none => none
      | some (c, t) => match PyFlat.calls PyWrtele.shape f t with
        | none => none
        | some cs => some (c :: cs)) = _
    rw [call_zs, callsN]
    cases callN (p :: r) with
    | none => rfl
    | some q =>
      obtain ⟨c, t⟩ := q
      show (match PyFlat.calls PyWrtele.shape f (zs t) with | none => none | some cs => some (c.flat :: cs)) = Option.map _ (match callsN f t with | none => none | some cs => some (c :: cs))
      rw [calls_zs f t]
      cases callsN f t with
      | none => rfl
      | some cs => rfl
/-! ### by places in the list -/
theorem rowN_at {l : List Nat} {i : Nat} {x s : List Nat} (h : rowN (l.drop i) = some (x, s)) : ∃ n, l[i]? = some n ∧ n = x.length ∧ x = (l.drop (i + 1)).take n ∧ s = l.drop (i + 1 + n) ∧ i + 1 + n ≤ l.length := by
  cases e : l.drop i with
  | nil => rw [e] at h; cases h
  | cons n r =>
    rw [e] at h
    have h : (if n ≤ r.length then some (r.take n, r.drop n) else none) = some (x, s) := h
    have hi : i < l.length := by
      apply Classical.byContradiction
      intro c
      rw [List.drop_of_length_le (by omega)] at e
      cases e
    have e1 : l[i]? = some n := by
      have := congrArg (fun z => z[0]?) e
      simp only [List.getElem?_drop, Nat.add_zero] at this
      exact this
    have e2 : r = l.drop (i + 1) := by
      have := congrArg (List.drop 1) e
      rw [List.drop_drop] at this
      exact this.symm
    by_cases c : n ≤ r.length
    · rw [if_pos c] at h
      cases h
      refine ⟨n, e1, ?_, by rw [e2], by rw [e2, List.drop_drop], ?_⟩
      · rw [List.length_take]
        omega
      · rw [e2, List.length_drop] at c
        omega
    · rw [if_neg c] at h
      cases h
/-- how many numbers a call takes -/
def rowsSize (xs : List (List Nat)) : Nat := (xs.map fun x => 1 + x.length).sum
def Req.size (q : Req) : Nat := 1 + q.nums.length + rowsSize q.rows
theorem rowsN_at : ∀ {k : Nat} {l : List Nat} {i : Nat} {xs : List (List Nat)} {t : List Nat}, rowsN k (l.drop i) = some (xs, t) → i ≤ l.length → xs.length = k ∧ t = l.drop (i + rowsSize xs) ∧ i + rowsSize xs ≤ l.length
  | 0, l, i, xs, t, h, hi => by
    have h : some (([] : List (List Nat)), l.drop i) = some (xs, t) := h
    cases h
    exact ⟨rfl, rfl, hi⟩
  | k + 1, l, i, xs, t, h, hi => by
    rw [rowsN] at h
    cases e : rowN (l.drop i) with
    | none => rw [e] at h; cases h
    | some p =>
      obtain ⟨x, s⟩ := p
      rw [e] at h
      obtain ⟨n, _, e2, _, e4, e5⟩ := rowN_at e
      have h : (match rowsN k s with | none => none | some (xs, t) => some (x :: xs, t)) = some (xs, t) := h
      cases e6 : rowsN k s with
      | none => rw [e6] at h; cases h
      | some q =>
        obtain ⟨ys, t'⟩ := q
        rw [e6] at h
        cases h
        rw [e4] at e6
        obtain ⟨h1, h2, h3⟩ := rowsN_at e6 e5
        have es : rowsSize (x :: ys) = 1 + x.length + rowsSize ys := rfl
        refine ⟨by rw [List.length_cons, h1], ?_, ?_⟩
        · rw [h2, es, ← e2]
          congr 1
          omega
        · rw [es, ← e2]
          omega
theorem callN_at {l : List Nat} {i : Nat} {q : Req} {t : List Nat} (h : callN (l.drop i) = some (q, t)) : ∃ n k, PyWrtele.shape (q.kind : Int) = some (n, k) ∧ l[i]? = some q.kind ∧ q.nums = (l.drop (i + 1)).take n ∧ q.nums.length = n ∧ i + 1 + n ≤ l.length ∧ rowsN k (l.drop (i + 1 + n)) = some (q.rows, t) ∧ t = l.drop (i + q.size) ∧ i + q.size ≤ l.length := by
  cases e : l.drop i with
  | nil => rw [e] at h; cases h
  | cons p r =>
    rw [e] at h
    have hi : i < l.length := by
      apply Classical.byContradiction
      intro c
      rw [List.drop_of_length_le (by omega)] at e
      cases e
    have e1 : l[i]? = some p := by
      have := congrArg (fun z => z[0]?) e
      simp only [List.getElem?_drop, Nat.add_zero] at this
      exact this
    have e2 : r = l.drop (i + 1) := by
      have := congrArg (List.drop 1) e
      rw [List.drop_drop] at this
      exact this.symm
    rw [callN] at h
    cases es : PyWrtele.shape (p : Int) with
    | none => rw [es] at h; cases h
    | some nk =>
      obtain ⟨n, k⟩ := nk
      rw [es] at h
      have h : (if r.length < n then none else match rowsN k (r.drop n) with | none => none | some (xs, t) => some ((⟨p, r.take n, xs⟩ : Req), t)) = some (q, t) := h
      by_cases c : r.length < n
      · rw [if_pos c] at h
        cases h
      · rw [if_neg c] at h
        cases er : rowsN k (r.drop n) with
        | none => rw [er] at h; cases h
        | some z =>
          obtain ⟨xs, t'⟩ := z
          rw [er] at h
          cases h
          rw [e2, List.length_drop] at c
          have hn : (r.take n).length = n := by
            rw [List.length_take, e2, List.length_drop]
            omega
          rw [e2, List.drop_drop] at er
          obtain ⟨h1, h2, h3⟩ := rowsN_at er (by omega)
          have sz : (⟨p, r.take n, xs⟩ : Req).size = 1 + n + rowsSize xs := by
            show 1 + (r.take n).length + rowsSize xs = _
            rw [hn]
          refine ⟨n, k, es, e1, by rw [e2], hn, by omega, er, ?_, ?_⟩
          · rw [h2, sz]
            congr 1
            omega
          · rw [sz]
            omega
/-- the calls from a place on -/
theorem callsN_at {f : Nat} {l : List Nat} {i : Nat} {cs : List Req} (h : callsN f (l.drop i) = some cs) (hi : i < l.length) : ∃ f' q cs', cs = q :: cs' ∧ callN (l.drop i) = some (q, l.drop (i + q.size)) ∧ callsN f' (l.drop (i + q.size)) = some cs' := by
  cases e : l.drop i with
  | nil =>
    have := congrArg List.length e
    rw [List.length_drop] at this
    simp at this
    omega
  | cons p r =>
    rw [e] at h
    cases f with
    | zero => cases h
    | succ f =>
      rw [callsN] at h
      cases ec : callN (p :: r) with
      | none => rw [ec] at h; cases h
      | some z =>
        obtain ⟨q, t⟩ := z
        rw [ec] at h
        have h : (match callsN f t with | none => none | some cs => some (q :: cs)) = some cs := h
        have ec' := ec
        rw [← e] at ec'
        obtain ⟨_, _, _, _, _, _, _, _, et, _⟩ := callN_at ec'
        cases er : callsN f t with
        | none => rw [er] at h; cases h
        | some cs' =>
          rw [er] at h
          cases h
          exact ⟨f, q, cs', rfl, by rw [et], by rw [← et]; exact er⟩
end Tx
end
section
/-! A list of calls, played: what is due of it, call by call. -/
namespace Tx
open Te
/-- which call it is -/
def callR (q : Req) : Option Te.Call := match q.kind, q.nums, q.rows with
  | 1, [n, r, m], [] => some (.begin_ n r m)
  | 2, [x], [d] => some (.number x d)
  | 3, [x], [] => some (.clear x)
  | 4, [], [d, l] => some (.group d l)
  | 5, [c], [d] => some (.price c d)
  | 6, [x, k], [d] => some (.hand x k d)
  | 7, [t], [] => some (.wait t)
  | 8, [x], [] => some (.lift x)
  | 9, [x, d], [] => some (.digit x d)
  | 10, [x], [] => some (.hang x)
  | 11, [t], [] => some (.tick t)
  | 12, [x], [] => some (.look x)
  | 13, [k], [] => some (.middle k)
  | 14, [x], [] => some (.owes x)
  | 15, [i], [] => some (.record i)
  | 16, [], [d] => some (.owner d)
  | 17, [], [] => some .counts
  | _, _, _ => none
/-- the kinds that there are, with how many numbers, rows -/
def kinds : List (Nat × Nat × Nat) := [(1, 3, 0), (2, 1, 1), (3, 1, 0), (4, 0, 2), (5, 1, 1), (6, 2, 1), (7, 1, 0), (8, 1, 0), (9, 2, 0), (10, 1, 0), (11, 1, 0), (12, 1, 0), (13, 1, 0), (14, 1, 0), (15, 1, 0), (16, 0, 1), (17, 0, 0)]
theorem shape_kinds {k : Int} {n r : Nat} (h : PyWrtele.shape k = some (n, r)) : ∃ p ∈ kinds, k = (p.1 : Int) ∧ n = p.2.1 ∧ r = p.2.2 := by
  unfold PyWrtele.shape at h
  have go : ∀ {i : Nat} {a : Nat × Nat} {o : Option (Nat × Nat)}, (i, a.1, a.2) ∈ kinds → (o = some (n, r) → ∃ p ∈ kinds, k = (p.1 : Int) ∧ n = p.2.1 ∧ r = p.2.2) → (if k = (i : Int) then some a else o) = some (n, r) → ∃ p ∈ kinds, k = (p.1 : Int) ∧ n = p.2.1 ∧ r = p.2.2 := by
    intro i a o ha ho e
    by_cases q : k = (i : Int)
    · rw [if_pos q] at e
      cases e
      exact ⟨_, ha, q, rfl, rfl⟩
    · rw [if_neg q] at e
      exact ho e
  exact go (i := 1) (by decide) (go (i := 2) (by decide) (go (i := 3) (by decide) (go (i := 4) (by decide) (go (i := 5) (by decide) (go (i := 6) (by decide) (go (i := 7) (by decide) (go (i := 8) (by decide) (go (i := 9) (by decide) (go (i := 10) (by decide) (go (i := 11) (by decide) (go (i := 12) (by decide) (go (i := 13) (by decide) (go (i := 14) (by decide) (go (i := 15) (by decide) (go (i := 16) (by decide) (go (i := 17) (by decide) (fun z => by cases z))))))))))))))))) h
theorem nats_zs : ∀ d : List Nat, SwitchNeutral.nats (zs d) = d
  | [] => rfl
  | x :: d => by
    show (x : Int).toNat :: SwitchNeutral.nats (zs d) = x :: d
    rw [nats_zs d]
    rfl
theorem len0 {α : Type} {l : List α} (h : l.length = 0) : l = [] := List.eq_nil_of_length_eq_zero h
theorem len1 {α : Type} {l : List α} (h : l.length = 1) : ∃ a, l = [a] := by
  match l, h with
  | [a], _ => exact ⟨a, rfl⟩
theorem len2 {α : Type} {l : List α} (h : l.length = 2) : ∃ a b, l = [a, b] := by
  match l, h with
  | [a, b], _ => exact ⟨a, b, rfl⟩
theorem len3 {α : Type} {l : List α} (h : l.length = 3) : ∃ a b c, l = [a, b, c] := by
  match l, h with
  | [a, b, c], _ => exact ⟨a, b, c, rfl⟩
/-- a call that's read has its form, and is one of these -/
inductive Is : Req → Te.Call → Prop
  | begin_ (n r m : Nat) : Is ⟨1, [n, r, m], []⟩ (.begin_ n r m)
  | number (x : Nat) (d : List Nat) : Is ⟨2, [x], [d]⟩ (.number x d)
  | clear (x : Nat) : Is ⟨3, [x], []⟩ (.clear x)
  | group (d l : List Nat) : Is ⟨4, [], [d, l]⟩ (.group d l)
  | price (c : Nat) (d : List Nat) : Is ⟨5, [c], [d]⟩ (.price c d)
  | hand (x k : Nat) (d : List Nat) : Is ⟨6, [x, k], [d]⟩ (.hand x k d)
  | wait (t : Nat) : Is ⟨7, [t], []⟩ (.wait t)
  | lift (x : Nat) : Is ⟨8, [x], []⟩ (.lift x)
  | digit (x d : Nat) : Is ⟨9, [x, d], []⟩ (.digit x d)
  | hang (x : Nat) : Is ⟨10, [x], []⟩ (.hang x)
  | tick (t : Nat) : Is ⟨11, [t], []⟩ (.tick t)
  | look (x : Nat) : Is ⟨12, [x], []⟩ (.look x)
  | middle (k : Nat) : Is ⟨13, [k], []⟩ (.middle k)
  | owes (x : Nat) : Is ⟨14, [x], []⟩ (.owes x)
  | record (i : Nat) : Is ⟨15, [i], []⟩ (.record i)
  | owner (d : List Nat) : Is ⟨16, [], [d]⟩ (.owner d)
  | counts : Is ⟨17, [], []⟩ .counts
def Shaped (q : Req) : Prop := PyWrtele.shape (q.kind : Int) = some (q.nums.length, q.rows.length)
theorem shaped_is {q : Req} (h : Shaped q) : ∃ c, Is q c := by
  obtain ⟨p, hp, e1, e2, e3⟩ := shape_kinds h
  obtain ⟨k, ns, rs⟩ := q
  have e1 : k = p.1 := by
    have e1 : (k : Int) = (p.1 : Int) := e1
    omega
  have e2 : ns.length = p.2.1 := e2
  have e3 : rs.length = p.2.2 := e3
  subst e1
  simp only [kinds, List.mem_cons, List.not_mem_nil, or_false] at hp
  rcases hp with rfl | rfl | rfl | rfl | rfl | rfl | rfl | rfl | rfl | rfl | rfl | rfl | rfl | rfl | rfl | rfl | rfl
  · obtain ⟨a, b, c, rfl⟩ := len3 e2
    obtain rfl := len0 e3
    exact ⟨_, .begin_ a b c⟩
  · obtain ⟨a, rfl⟩ := len1 e2
    obtain ⟨d, rfl⟩ := len1 e3
    exact ⟨_, .number a d⟩
  · obtain ⟨a, rfl⟩ := len1 e2
    obtain rfl := len0 e3
    exact ⟨_, .clear a⟩
  · obtain rfl := len0 e2
    obtain ⟨d, l, rfl⟩ := len2 e3
    exact ⟨_, .group d l⟩
  · obtain ⟨a, rfl⟩ := len1 e2
    obtain ⟨d, rfl⟩ := len1 e3
    exact ⟨_, .price a d⟩
  · obtain ⟨a, b, rfl⟩ := len2 e2
    obtain ⟨d, rfl⟩ := len1 e3
    exact ⟨_, .hand a b d⟩
  · obtain ⟨a, rfl⟩ := len1 e2
    obtain rfl := len0 e3
    exact ⟨_, .wait a⟩
  · obtain ⟨a, rfl⟩ := len1 e2
    obtain rfl := len0 e3
    exact ⟨_, .lift a⟩
  · obtain ⟨a, b, rfl⟩ := len2 e2
    obtain rfl := len0 e3
    exact ⟨_, .digit a b⟩
  · obtain ⟨a, rfl⟩ := len1 e2
    obtain rfl := len0 e3
    exact ⟨_, .hang a⟩
  · obtain ⟨a, rfl⟩ := len1 e2
    obtain rfl := len0 e3
    exact ⟨_, .tick a⟩
  · obtain ⟨a, rfl⟩ := len1 e2
    obtain rfl := len0 e3
    exact ⟨_, .look a⟩
  · obtain ⟨a, rfl⟩ := len1 e2
    obtain rfl := len0 e3
    exact ⟨_, .middle a⟩
  · obtain ⟨a, rfl⟩ := len1 e2
    obtain rfl := len0 e3
    exact ⟨_, .owes a⟩
  · obtain ⟨a, rfl⟩ := len1 e2
    obtain rfl := len0 e3
    exact ⟨_, .record a⟩
  · obtain rfl := len0 e2
    obtain ⟨d, rfl⟩ := len1 e3
    exact ⟨_, .owner d⟩
  · obtain rfl := len0 e2
    obtain rfl := len0 e3
    exact ⟨_, .counts⟩
theorem is_flat {q : Req} {c : Te.Call} (h : Is q c) : PyWrtele.whole q.flat = q.flat ∧ SwitchNeutral.callOf q.flat = some c := by
  cases h with
  | begin_ n r m => exact ⟨rfl, rfl⟩
  | number x d => exact ⟨rfl, congrArg (fun z => some (Te.Call.number x z)) (nats_zs d)⟩
  | clear x => exact ⟨rfl, rfl⟩
  | group d l => exact ⟨rfl, (congrArg (fun z => some (Te.Call.group z _)) (nats_zs d)).trans (congrArg (fun z => some (Te.Call.group d z)) (nats_zs l))⟩
  | price x d => exact ⟨rfl, congrArg (fun z => some (Te.Call.price x z)) (nats_zs d)⟩
  | hand x k d => exact ⟨rfl, congrArg (fun z => some (Te.Call.hand x k z)) (nats_zs d)⟩
  | wait x => exact ⟨rfl, rfl⟩
  | lift x => exact ⟨rfl, rfl⟩
  | digit x d => exact ⟨rfl, rfl⟩
  | hang x => exact ⟨rfl, rfl⟩
  | tick x => exact ⟨rfl, rfl⟩
  | look x => exact ⟨rfl, rfl⟩
  | middle x => exact ⟨rfl, rfl⟩
  | owes x => exact ⟨rfl, rfl⟩
  | record x => exact ⟨rfl, rfl⟩
  | owner d => exact ⟨rfl, congrArg (fun z => some (Te.Call.owner z)) (nats_zs d)⟩
  | counts => exact ⟨rfl, rfl⟩
/-- rows of at most 20 -/
def Short (q : Req) : Prop := ∀ r ∈ q.rows, r.length ≤ 20
theorem long_len {d : List Nat} (h : SwitchNeutral.long (zs d) 20 0 1000 = true) : d.length ≤ 20 := by
  unfold SwitchNeutral.long at h
  rw [Bool.and_eq_true] at h
  have := of_decide_eq_true h.1
  rw [List.length_map] at this
  exact this
theorem asked_short {q : Req} {c : Te.Call} (h : Is q c) (a : SwitchNeutral.asked1 q.flat = true) : Short q := by
  intro r hr
  cases h with
  | number x d =>
    have a : (SwitchNeutral.natural x 63 && SwitchNeutral.long (zs d) 20 0 1000) = true := a
    rw [Bool.and_eq_true] at a
    rw [List.mem_singleton] at hr
    exact hr ▸ long_len a.2
  | group d l =>
    have a : (SwitchNeutral.long (zs d) 20 0 1000 && SwitchNeutral.long (zs l) 20 0 1000) = true := a
    rw [Bool.and_eq_true] at a
    rw [List.mem_cons, List.mem_singleton] at hr
    rcases hr with rfl | rfl
    · exact long_len a.1
    · exact long_len a.2
  | price x d =>
    have a : (SwitchNeutral.natural x 63 && SwitchNeutral.long (zs d) 20 0 1000) = true := a
    rw [Bool.and_eq_true] at a
    rw [List.mem_singleton] at hr
    exact hr ▸ long_len a.2
  | hand x k d =>
    have a : (SwitchNeutral.natural x 63 && (SwitchNeutral.natural k 63 && SwitchNeutral.long (zs d) 20 0 1000)) = true := a
    rw [Bool.and_eq_true, Bool.and_eq_true] at a
    rw [List.mem_singleton] at hr
    exact hr ▸ long_len a.2.2
  | owner d =>
    have a : SwitchNeutral.long (zs d) 20 0 1000 = true := a
    rw [List.mem_singleton] at hr
    exact hr ▸ long_len a
  | _ => cases hr
/-! ### played -/
/-- an answer as it's laid out -/
def lay (A : Te.Answer) : List Int := ((2 + A.nums.length : Nat) : Int) :: A.ret :: (A.nums.length : Int) :: zs A.nums
def play : Te.State → List Te.Call → List Int
  | _, [] => []
  | s, c :: r => lay (Te.step s c).2 ++ play (Te.step s c).1 r
theorem told_lay (A : Te.Answer) : (((SwitchNeutral.told A).length : Nat) : Int) :: SwitchNeutral.told A = lay A := by
  have : (SwitchNeutral.told A).length = 2 + A.nums.length := by
    show (A.ret :: (A.nums.length : Int) :: zs A.nums).length = _
    rw [List.length_cons, List.length_cons, List.length_map]
    omega
  rw [this]
  rfl
inductive AllIs : List Req → List Te.Call → Prop
  | nil : AllIs [] []
  | cons {q : Req} {c : Te.Call} {qs : List Req} {cs : List Te.Call} : Is q c → Short q → AllIs qs cs → AllIs (q :: qs) (c :: cs)
theorem played_is : ∀ {qs : List Req} {cs : List Te.Call} (s : Te.State), AllIs qs cs → PyFlat.told (PyFlat.played SwitchNeutral.step s ((qs.map Req.flat).map PyWrtele.whole)) = play s cs
  | _, _, s, .nil => rfl
  | _, _, s, .cons (q := q) (c := c) (qs := qs) (cs := cs) h _ t => by
    obtain ⟨e1, e2⟩ := is_flat h
    have e3 : SwitchNeutral.step s (PyWrtele.whole q.flat) = ((Te.step s c).1, SwitchNeutral.told (Te.step s c).2) := by
      rw [e1]
      unfold SwitchNeutral.step
      rw [e2]
    show PyFlat.told (PyFlat.played SwitchNeutral.step s (PyWrtele.whole q.flat :: (qs.map Req.flat).map PyWrtele.whole)) = _
    rw [PyFlat.played, e3]
    show (((SwitchNeutral.told (Te.step s c).2).length : Nat) : Int) :: SwitchNeutral.told (Te.step s c).2 ++ PyFlat.told (PyFlat.played SwitchNeutral.step (Te.step s c).1 ((qs.map Req.flat).map PyWrtele.whole)) = _
    rw [told_lay, played_is (Te.step s c).1 t]
    rfl
theorem callsN_shaped : ∀ (f : Nat) (l : List Nat) (qs : List Req), callsN f l = some qs → ∀ q ∈ qs, Shaped q
  | 0, [], qs, h, q, hq => by
    cases h
    cases hq
  | _ + 1, [], qs, h, q, hq => by
    cases h
    cases hq
  | 0, _ :: _, qs, h, q, hq => by cases h
  | f + 1, p :: r, qs, h, q, hq => by
    rw [callsN] at h
    cases ec : callN (p :: r) with
    | none => rw [ec] at h; cases h
    | some z =>
      obtain ⟨q0, t⟩ := z
      rw [ec] at h
      have h : (match callsN f t with | none => none | some cs => some (q0 :: cs)) = some qs := h
      cases er : callsN f t with
      | none => rw [er] at h; cases h
      | some cs' =>
        rw [er] at h
        cases h
        rw [List.mem_cons] at hq
        rcases hq with rfl | hq
        · have ec2 : callN ((p :: r).drop 0) = some (q, t) := ec
          obtain ⟨n, k, sh, _, _, g3, g4, g5, _, _⟩ := callN_at ec2
          unfold Shaped
          rw [g3, (rowsN_at g5 g4).1]
          exact sh
        · exact callsN_shaped f t cs' er q hq
theorem all_is : ∀ (qs : List Req), (∀ q ∈ qs, Shaped q) → (∀ q ∈ qs, SwitchNeutral.asked1 (PyWrtele.whole q.flat) = true) → ∃ cs, AllIs qs cs
  | [], _, _ => ⟨[], .nil⟩
  | q :: qs, h, a => by
    obtain ⟨c, hc⟩ := shaped_is (h q (List.mem_cons_self ..))
    obtain ⟨cs, hcs⟩ := all_is qs (fun q hq => h q (List.mem_cons_of_mem _ hq)) (fun q hq => a q (List.mem_cons_of_mem _ hq))
    have a1 := a q (List.mem_cons_self ..)
    rw [(is_flat hc).1] at a1
    exact ⟨c :: cs, .cons hc (asked_short hc a1) hcs⟩
/-- what is asked, what is due -/
theorem asked_due {ns : List Nat} (h : PyWrtele.answers_asked (zs ns) = true) : ∃ qs cs, callsN ns.length ns = some qs ∧ qs.length ≤ 400 ∧ AllIs qs cs ∧ PyWrtele.answers (zs ns) = play none cs ∧ (play none cs).length ≤ 10000000 := by
  unfold PyWrtele.answers_asked at h
  have el : (zs ns).length = ns.length := List.length_map _
  rw [el, calls_zs] at h
  cases e : callsN ns.length ns with
  | none => rw [e] at h; cases h
  | some qs =>
    rw [e] at h
    have h : (!(qs.map Req.flat).isEmpty && PyFlat.atMost 400 (qs.map Req.flat) && PyInside.calls PyWrtele.bound (qs.map Req.flat) && SwitchNeutral.asked ((qs.map Req.flat).map PyWrtele.whole) && PyFlat.short 10000000 (PyWrtele.answers (zs ns))) = true := h
    rw [Bool.and_eq_true, Bool.and_eq_true, Bool.and_eq_true, Bool.and_eq_true] at h
    obtain ⟨⟨⟨⟨_, h2⟩, _⟩, h4⟩, h5⟩ := h
    have len : qs.length ≤ 400 := by
      have := of_decide_eq_true h2
      rw [List.length_map] at this
      exact this
    have ask : ∀ q ∈ qs, SwitchNeutral.asked1 (PyWrtele.whole q.flat) = true := by
      unfold SwitchNeutral.asked at h4
      rw [Bool.and_eq_true, List.all_eq_true] at h4
      intro q hq
      exact h4.1 _ (List.mem_map.mpr ⟨_, List.mem_map.mpr ⟨q, hq, rfl⟩, rfl⟩)
    obtain ⟨cs, hcs⟩ := all_is qs (callsN_shaped _ _ _ e) ask
    have due : PyWrtele.answers (zs ns) = play none cs := by
      unfold PyWrtele.answers PyWrtele.calls
      rw [el, calls_zs, e]
      exact played_is none hcs
    refine ⟨qs, cs, rfl, len, hcs, due, ?_⟩
    rw [← due]
    exact of_decide_eq_true h5
end Tx
end
section
/-! What a call costs; a call taken out of a list. -/
namespace Tx
open Te
/-! ### the price -/
abbrev PR := Digits × Nat
def longer (m : Option PR) (p : PR) : Option PR := match m with
  | none => some p
  | some q => if q.1.length < p.1.length then some p else some q
theorem price_fold (h : Hall) (d : Digits) : price h d = (((h.prices.filter fun p => p.1.isPrefixOf d).foldl longer none).map fun p => p.2).getD 0 := rfl
theorem longer_stays {q : PR} : ∀ (l : List PR), (∀ p ∈ l, p.1.length ≤ q.1.length) → l.foldl longer (some q) = some q
  | [], _ => rfl
  | p :: l, h => by
    have e : longer (some q) p = some q := by
      show (if q.1.length < p.1.length then some p else some q) = some q
      rw [if_neg (Nat.not_lt_of_le (h p (List.mem_cons_self ..)))]
    rw [List.foldl_cons, e]
    exact longer_stays l fun p hp => h p (List.mem_cons_of_mem _ hp)
/-- those of one length more -/
theorem longer_more {k : Nat} {A B : PR → Bool} (ha : ∀ p, A p = true → p.1.length ≤ k) (hb : ∀ p, B p = true → p.1.length = k + 1) : ∀ (l : List PR) (m : Option PR), (∀ q, m = some q → q.1.length ≤ k) →
    (l.filter fun p => A p || B p).foldl longer m = match l.find? B with
      | some p => some p
      | none => (l.filter A).foldl longer m
  | [], _, _ => rfl
  | p :: l, m, hm => by
    have hall : ∀ q ∈ l.filter (fun p => A p || B p), q.1.length ≤ k + 1 := fun q hq => by
      have := (List.mem_filter.mp hq).2
      rw [Bool.or_eq_true] at this
      rcases this with h | h
      · exact Nat.le_succ_of_le (ha q h)
      · exact Nat.le_of_eq (hb q h)
    cases eb : B p with
    | true =>
      rw [List.filter_cons_of_pos (by rw [eb, Bool.or_true]), List.find?_cons_of_pos (by rw [eb]), List.foldl_cons]
      have e : longer m p = some p := by
        cases m with
        | none => rfl
        | some q =>
          show (if q.1.length < p.1.length then some p else some q) = some p
          rw [if_pos (by have := hm q rfl; have := hb p eb; omega)]
      rw [e]
      exact longer_stays _ fun q hq => by rw [hb p eb]; exact hall q hq
    | false =>
      rw [List.find?_cons_of_neg (by rw [eb]; exact Bool.false_ne_true)]
      cases ea : A p with
      | true =>
        rw [List.filter_cons_of_pos (by rw [ea, Bool.true_or]), List.filter_cons_of_pos (by rw [ea]), List.foldl_cons, List.foldl_cons]
        refine longer_more ha hb l (longer m p) fun q hq => ?_
        cases m with
        | none =>
          cases hq
          exact ha p ea
        | some r =>
          have hq : (if r.1.length < p.1.length then some p else some r) = some q := hq
          by_cases c : r.1.length < p.1.length
          · rw [if_pos c] at hq
            cases hq
            exact ha p ea
          · rw [if_neg c] at hq
            cases hq
            exact hm q rfl
      | false =>
        rw [List.filter_cons_of_neg (by rw [ea, eb]; exact Bool.false_ne_true), List.filter_cons_of_neg (by rw [ea]; exact Bool.false_ne_true)]
        exact longer_more ha hb l m hm
theorem pre_take {e d : List Nat} {k : Nat} (hk : k < d.length) : e.isPrefixOf (d.take (k + 1)) = (e.isPrefixOf (d.take k) || e == d.take (k + 1)) := by
  rw [Bool.eq_iff_iff, Bool.or_eq_true, List.isPrefixOf_iff_prefix, List.isPrefixOf_iff_prefix, beq_iff_eq]
  have e1 : d.take (k + 1) = d.take k ++ [d[k]] := List.take_succ_eq_append_getElem hk
  rw [e1]
  exact List.prefix_concat_iff.trans Or.comm
/-- what is told for just these digits, else what was there before -/
def toldOr (ps : List PR) (d : Digits) (cents : Nat) : Nat := ((ps.find? fun p => p.1 == d).map fun p => p.2).getD cents
theorem price_upto (ps : List PR) (d : Digits) : ∀ k, k ≤ d.length → (((ps.filter fun p => p.1.isPrefixOf (d.take k)).foldl longer none).map fun p => p.2).getD 0 = (List.range (k + 1)).foldl (fun c j => toldOr ps (d.take j) c) 0
  | 0, _ => by
    have e : ∀ (l : List PR) , (l.filter fun p => p.1.isPrefixOf (d.take 0)).foldl longer none = l.find? fun p => p.1 == d.take 0 := by
      intro l
      induction l with
      | nil => rfl
      | cons p l ih =>
        obtain ⟨a, b⟩ := p
        cases a with
        | nil =>
          rw [List.filter_cons_of_pos rfl, List.find?_cons_of_pos rfl]
          refine longer_stays _ fun q hq => ?_
          have := (List.mem_filter.mp hq).2
          rw [List.isPrefixOf_iff_prefix] at this
          exact this.length_le
        | cons x a =>
          rw [List.filter_cons_of_neg (fun z => by cases z), List.find?_cons_of_neg (fun z => by cases z)]
          exact ih
    rw [e]
    rfl
  | k + 1, hk => by
    rw [List.range_succ, List.foldl_append, ← price_upto ps d k (by omega)]
    have hk' : k < d.length := hk
    have ef : (ps.filter fun p => p.1.isPrefixOf (d.take (k + 1))) = ps.filter fun p => (fun q : PR => q.1.isPrefixOf (d.take k)) p || (fun q : PR => q.1 == d.take (k + 1)) p := List.filter_congr fun p _ => pre_take hk'
    rw [ef, longer_more (k := k) (fun p hp => ?_) (fun p hp => ?_) ps none (fun q e => by cases e)]
    · show _ = toldOr ps (d.take (k + 1)) _
      unfold toldOr
      cases ps.find? (fun q : PR => q.1 == d.take (k + 1)) with
      | none => rfl
      | some p => rfl
    · have := (List.isPrefixOf_iff_prefix.mp hp).length_le
      rw [List.length_take] at this
      omega
    · have := congrArg List.length (eq_of_beq hp)
      rw [List.length_take] at this
      omega
theorem price_steps (h : Hall) (d : Digits) : price h d = (List.range (d.length + 1)).foldl (fun c j => toldOr h.prices (d.take j) c) 0 := by
  rw [price_fold, ← price_upto h.prices d d.length (Nat.le_refl _), List.take_length]
/-! ### one taken out -/
theorem filter_erase {α : Type} (f : α → Nat) : ∀ {l : List α}, (l.map f).Nodup → ∀ {k : Nat} {c : α}, l[k]? = some c → (l.filter fun d => f d != f c) = l.eraseIdx k
  | a :: l, nd, 0, c, hk => by
    cases hk
    rw [List.map_cons, List.nodup_cons] at nd
    rw [List.filter_cons_of_neg (by rw [bne_self_eq_false]; exact Bool.false_ne_true), List.eraseIdx_cons_zero]
    refine List.filter_eq_self.mpr fun b hb => bne_iff_ne.mpr fun e => nd.1 (e ▸ List.mem_map.mpr ⟨b, hb, rfl⟩)
  | a :: l, nd, k + 1, c, hk => by
    rw [List.map_cons, List.nodup_cons] at nd
    have hk : l[k]? = some c := hk
    have ne : f a ≠ f c := fun e => nd.1 (by rw [e]; exact List.mem_map.mpr ⟨c, List.mem_of_getElem? hk, rfl⟩)
    rw [List.filter_cons_of_pos (p := fun d => f d != f c) (bne_iff_ne.mpr ne), List.eraseIdx_cons_succ, filter_erase f nd.2 hk]
theorem from_nodup {h : Hall} (B : Base h) : (h.calls.map (·.from_)).Nodup := by
  rw [← legs_from B]
  exact nodup_from B
theorem calls_without {h : Hall} (B : Base h) {k : Nat} {c : Call_} (hk : h.calls[k]? = some c) : (without h c).calls = h.calls.eraseIdx k := filter_erase (fun d : Call_ => d.from_) (from_nodup B) hk
theorem legs_without {h : Hall} (B : Base h) {k : Nat} {c : Call_} (hk : h.calls[k]? = some c) : (without h c).legs = h.legs.eraseIdx k := by
  have e := congrArg (fun z => z[k]?) (legs_from B)
  simp only [List.getElem?_map, hk, Option.map_some] at e
  cases q : h.legs[k]? with
  | none => rw [q] at e; cases e
  | some l =>
    rw [q] at e
    have e : some l.from_ = some c.from_ := e
    have e := Option.some.inj e
    have := filter_erase (fun d : Leg => d.from_) (nodup_from B) q
    rw [e] at this
    exact this
/-! ### what a try leaves as it was -/
structure Goes (h h' : Hall) : Prop where
  now : h'.now = h.now
  wait : h'.wait = h.wait
  size : h'.size = h.size
  records : h'.records = h.records
  prices : h'.prices = h.prices
  groups : h'.groups = h.groups
  calls : ∃ m, h'.calls = h.calls ++ m
  moved : h.moved ≤ h'.moved
theorem Goes.refl (h : Hall) : Goes h h := ⟨rfl, rfl, rfl, rfl, rfl, rfl, ⟨[], (List.append_nil _).symm⟩, Nat.le_refl _⟩
theorem staged_goes (h : Hall) (x : Nat) (s : Stage) : Goes h (staged h x s) := ⟨rfl, rfl, rfl, rfl, rfl, rfl, ⟨[], (List.append_nil _).symm⟩, Nat.le_refl _⟩
theorem connected_goes (h : Hall) (x y : Nat) (dl : Digits) (k : Nat) : Goes h (connected h x y dl k) := by
  unfold connected
  split
  · exact staged_goes h x _
  · exact ⟨rfl, rfl, rfl, rfl, rfl, rfl, ⟨_, rfl⟩, Nat.le_add_right _ _⟩
theorem tried_goes {x : Nat} {dl : Digits} : ∀ (f : Nat) (h : Hall) (d : Digits), Goes h (tried x dl f h d)
  | 0, h, d => staged_goes h x _
  | f + 1, h, d => by
    unfold tried
    split
    · exact staged_goes h x _
    · split
      · exact connected_goes h x _ dl _
      · exact staged_goes h x _
    · split
      · exact tried_goes f h _
      · split
        · exact connected_goes h x _ dl _
        · split
          · exact tried_goes f h _
          · exact staged_goes h x _
/-! ### time -/
def isDue (h : Hall) (c : Call_) : Prop := c.begun = none ∧ c.since + h.wait ≤ h.now
/-- a call that has rung long enough is over -/
def lateOf (h : Hall) (c : Call_) : Hall := staged (without h c) c.to_ .idle
theorem ended_none {h : Hall} {c : Call_} (e : c.begun = none) : ended h c = without h c := by
  unfold ended without
  rw [e]
theorem overdue_due {h : Hall} (B : Base h) {c : Call_} (hc : c ∈ h.calls) (d : isDue h c) : overdue h c.from_ = match (lineOf h c.to_).late with
    | some e => tried c.from_ c.dialed (HOPS - c.hops) (lateOf h c) e
    | none => staged (lateOf h c) c.from_ .tone := by
  unfold overdue
  rw [callOf_there B hc (.inl rfl)]
  dsimp only
  rw [if_neg, ended_none d.1]
  · rfl
  · rintro (z | z | z)
    · exact z rfl
    · rw [d.1] at z
      cases z
    · have := d.2
      omega
theorem overdue_not {h : Hall} (B : Base h) {c : Call_} (hc : c ∈ h.calls) (d : ¬ isDue h c) : overdue h c.from_ = h := by
  unfold overdue
  rw [callOf_there B hc (.inl rfl)]
  dsimp only
  rw [if_pos]
  cases e : c.begun with
  | some t => exact .inr (.inl rfl)
  | none => exact .inr (.inr (Nat.lt_of_not_le fun z => d ⟨e, z⟩))
theorem overdue_same {h : Hall} (B : Base h) {c : Call_} (hc : c ∈ h.calls) : (overdue h c.from_).now = h.now ∧ (overdue h c.from_).wait = h.wait ∧ h.moved ≤ (overdue h c.from_).moved ∧ (overdue h c.from_).size = h.size := by
  by_cases d : isDue h c
  · rw [overdue_due B hc d]
    split
    · rename_i e _
      have g := tried_goes (x := c.from_) (dl := c.dialed) (HOPS - c.hops) (lateOf h c) e
      exact ⟨g.now, g.wait, g.moved, g.size⟩
    · exact ⟨rfl, rfl, Nat.le_refl _, rfl⟩
  · rw [overdue_not B hc d]
    exact ⟨rfl, rfl, Nat.le_refl _, rfl⟩
/-- the others stay on -/
theorem overdue_keeps {h : Hall} (B : Base h) {c : Call_} (hc : c ∈ h.calls) {o : Call_} (ho : o ∈ h.calls) (ne : o.from_ ≠ c.from_) : o ∈ (overdue h c.from_).calls := by
  by_cases d : isDue h c
  · have hz : o ∈ (lateOf h c).calls := List.mem_filter.mpr ⟨ho, bne_iff_ne.mpr ne⟩
    rw [overdue_due B hc d]
    split
    · rename_i e _
      obtain ⟨m, em⟩ := (tried_goes (x := c.from_) (dl := c.dialed) (HOPS - c.hops) (lateOf h c) e).calls
      rw [em]
      exact List.mem_append_left _ hz
    · exact hz
  · rw [overdue_not B hc d]
    exact ho
/-- so many of them looked at -/
def lateTo (h : Hall) (cs : List Call_) : Hall := (cs.map fun (c : Call_) => c.from_).foldl overdue h
theorem lateTo_snoc (h : Hall) (cs : List Call_) (c : Call_) : lateTo h (cs ++ [c]) = overdue (lateTo h cs) c.from_ := by
  unfold lateTo
  rw [List.map_append, List.foldl_append]
  rfl
theorem ticked_late (h : Hall) (t : Nat) : ticked h t = lateTo { h with now := t } h.calls := rfl
theorem lateTo_ok {h : Hall} (W : WF h) (cs : List Call_) : WF (lateTo h cs) := overdues_ok _ W
/-- behind so many, the rest is on as it was -/
theorem lateTo_rest {h : Hall} (W : WF h) : ∀ (k : Nat), (lateTo h (h.calls.take k)).now = h.now ∧ (lateTo h (h.calls.take k)).wait = h.wait ∧ h.moved ≤ (lateTo h (h.calls.take k)).moved ∧ (lateTo h (h.calls.take k)).size = h.size ∧ ∀ j c, k ≤ j → h.calls[j]? = some c → c ∈ (lateTo h (h.calls.take k)).calls
  | 0 => ⟨rfl, rfl, Nat.le_refl _, rfl, fun j c _ hj => List.mem_of_getElem? hj⟩
  | k + 1 => by
    obtain ⟨h1, h2, h3, h4, h5⟩ := lateTo_rest W k
    cases e : h.calls[k]? with
    | none =>
      have ek : h.calls.take (k + 1) = h.calls.take k := by
        have := List.getElem?_eq_none_iff.mp e
        rw [List.take_of_length_le (by omega), List.take_of_length_le (by omega)]
      rw [ek]
      exact ⟨h1, h2, h3, h4, fun j c hk hj => h5 j c (by omega) hj⟩
    | some c =>
      have ek : h.calls.take (k + 1) = h.calls.take k ++ [c] := by
        rw [List.take_add_one, e]
        rfl
      rw [ek, lateTo_snoc]
      have W1 := lateTo_ok W (h.calls.take k)
      have hc := h5 k c (Nat.le_refl _) e
      obtain ⟨g1, g2, g3, g4⟩ := overdue_same W1.base hc
      refine ⟨g1.trans h1, g2.trans h2, Nat.le_trans h3 g3, g4.trans h4, fun j o hk hj => overdue_keeps W1.base hc (h5 j o (by omega) hj) fun ef => ?_⟩
      have nd := from_nodup W.base
      have ej : (h.calls.map (·.from_))[j]? = (h.calls.map (·.from_))[k]? := by
        rw [List.getElem?_map, List.getElem?_map, hj, e]
        exact congrArg some ef
      have lt : j < (h.calls.map (·.from_)).length := by
        rw [List.length_map]
        exact (List.getElem?_eq_some_iff.mp hj).1
      have := (List.getElem?_inj lt nd).mp ej
      omega
end Tx
end
section
/-! What a call costs at most; how many calls are over at most; the tick over those that are due alone. -/
namespace Tx
open Te
theorem price_le {h : Hall} (B : Base h) (d : Digits) : price h d ≤ 1000 := by
  rw [price_steps]
  have go : ∀ (l : List Nat) (c : Nat), c ≤ 1000 → l.foldl (fun c j => toldOr h.prices (d.take j) c) c ≤ 1000 := by
    intro l
    induction l with
    | nil => exact fun c hc => hc
    | cons j l ih =>
      intro c hc
      refine ih _ ?_
      show toldOr h.prices (d.take j) c ≤ 1000
      unfold toldOr
      cases e : h.prices.find? (fun p => p.1 == d.take j) with
      | none => exact hc
      | some p => exact (B.prices p (List.mem_of_find?_eq_some e)).2
  exact go _ 0 (by omega)
/-! ### two lines are set -/
theorem set_comm {h : Hall} {a b : Nat} {l m : Line} (ne : a ≠ b) : setLine (setLine h a l) b m = setLine (setLine h b m) a l := by
  unfold setLine
  show ({ h with lines := (h.lines.set a l).set b m } : Hall) = { h with lines := (h.lines.set b m).set a l }
  rw [List.set_comm _ _ ne]
theorem lineOf_far {h : Hall} {a b : Nat} {l : Line} (ne : b ≠ a) : lineOf (setLine h a l) b = lineOf h b := by
  unfold lineOf setLine
  rw [List.getD_eq_getElem?_getD, List.getD_eq_getElem?_getD, List.getElem?_set, if_neg (Ne.symm ne)]
theorem staged_comm {h : Hall} {a b : Nat} {s t : Stage} (ne : a ≠ b) : staged (staged h a s) b t = staged (staged h b t) a s := by
  unfold staged
  rw [lineOf_far (Ne.symm ne), lineOf_far ne]
  exact set_comm ne
/-! ### the tick -/
theorem late_keeps {h : Hall} (W : WF h) : ∀ cs : List Call_, (∀ c ∈ cs, c ∈ h.calls) → (cs.map (·.from_)).Nodup →
    (lateTo h cs).now = h.now ∧ (lateTo h cs).wait = h.wait ∧ h.moved ≤ (lateTo h cs).moved ∧ (lateTo h cs).size = h.size ∧ ∀ o ∈ h.calls, o.from_ ∉ cs.map (·.from_) → o ∈ (lateTo h cs).calls := by
  intro cs
  generalize en : cs.length = n
  induction n generalizing cs with
  | zero =>
    intro _ _
    obtain rfl := List.eq_nil_of_length_eq_zero en
    exact ⟨rfl, rfl, Nat.le_refl _, rfl, fun o ho _ => ho⟩
  | succ n ih =>
    intro hin nd
    rcases List.eq_nil_or_concat cs with rfl | ⟨l, c, rfl⟩
    · cases en
    · rw [List.concat_eq_append] at hin nd en ⊢
      have nd' := nd
      rw [List.map_append, List.nodup_append] at nd'
      obtain ⟨n1, _, n3⟩ := nd'
      obtain ⟨h1, h2, h3, h4, h5⟩ := ih l (by rw [List.length_append] at en; simpa using en) (fun c hc => hin c (List.mem_append_left _ hc)) n1
      have ncl : c.from_ ∉ l.map (·.from_) := fun z => n3 _ z _ (List.mem_singleton.mpr rfl) rfl
      have hc := h5 c (hin c (List.mem_append_right _ (List.mem_singleton.mpr rfl))) ncl
      have W1 := lateTo_ok W l
      rw [lateTo_snoc]
      obtain ⟨g1, g2, g3, g4⟩ := overdue_same W1.base hc
      refine ⟨g1.trans h1, g2.trans h2, Nat.le_trans h3 g3, g4.trans h4, fun o ho no => ?_⟩
      rw [List.map_append, List.mem_append] at no
      refine overdue_keeps W1.base hc (h5 o ho fun z => no (.inl z)) fun z => no (.inr ?_)
      rw [z]
      exact List.mem_singleton.mpr rfl
def dueB (h : Hall) (c : Call_) : Bool := decide (c.begun = none) && decide (c.since + h.wait ≤ h.now)
theorem dueB_iff {h : Hall} {c : Call_} : dueB h c = true ↔ isDue h c := by
  unfold dueB isDue
  rw [Bool.and_eq_true, decide_eq_true_iff, decide_eq_true_iff]
theorem late_due {h : Hall} (W : WF h) : ∀ n, lateTo h (h.calls.take n) = lateTo h ((h.calls.take n).filter (dueB h))
  | 0 => rfl
  | n + 1 => by
    cases e : h.calls[n]? with
    | none =>
      have := List.getElem?_eq_none_iff.mp e
      have ek : h.calls.take (n + 1) = h.calls.take n := by rw [List.take_of_length_le (by omega), List.take_of_length_le (by omega)]
      rw [ek]
      exact late_due W n
    | some c =>
      have ek : h.calls.take (n + 1) = h.calls.take n ++ [c] := by
        rw [List.take_add_one, e]
        rfl
      obtain ⟨h1, h2, _, _, h5⟩ := lateTo_rest W n
      have hc := h5 n c (Nat.le_refl _) e
      rw [ek, lateTo_snoc, List.filter_append]
      cases ed : dueB h c with
      | true =>
        rw [List.filter_cons_of_pos (by rw [ed]), List.filter_nil, lateTo_snoc, late_due W n]
      | false =>
        rw [List.filter_cons_of_neg (by rw [ed]; exact Bool.false_ne_true), List.filter_nil, List.append_nil, ← late_due W n]
        refine overdue_not (lateTo_ok W _).base hc fun z => ?_
        have : dueB h c = true := dueB_iff.mpr ⟨z.1, by have := z.2; rw [h1, h2] at this; exact this⟩
        rw [ed] at this
        cases this
theorem ticked_due {h : Hall} {t : Nat} (W : WF { h with now := t }) : ticked h t = lateTo { h with now := t } (h.calls.filter (dueB { h with now := t })) := by
  rw [ticked_late]
  have := late_due W h.calls.length
  have e : ({ h with now := t } : Hall).calls.take h.calls.length = h.calls := List.take_length
  rw [e] at this
  exact this
/-! ### how many are over -/
theorem ended_recs (h : Hall) (c : Call_) : (ended h c).records.length ≤ h.records.length + 1 := by
  unfold ended
  cases c.begun with
  | none => exact Nat.le_succ _
  | some t => exact Nat.le_of_eq (by rw [List.length_append]; rfl)
theorem overdue_recs (h : Hall) (x : Nat) : (overdue h x).records = h.records := by
  unfold overdue
  split
  · rfl
  · rename_i c _
    split
    · rfl
    · rename_i no
      have nb : c.begun = none := by
        cases e : c.begun with
        | none => rfl
        | some t =>
          rw [e] at no
          exact (no (.inr (.inl rfl))).elim
      have er : (staged (ended h c) c.to_ .idle).records = h.records := by
        rw [ended_none nb]
        rfl
      split
      · rename_i e _
        exact (tried_goes (x := x) (dl := c.dialed) (HOPS - c.hops) (staged (ended h c) c.to_ .idle) e).records.trans er
      · exact er
theorem overdues_recs : ∀ (l : List Nat) (h : Hall), (l.foldl overdue h).records = h.records
  | [], _ => rfl
  | x :: l, h => (overdues_recs l _).trans (overdue_recs h x)
theorem hung_recs (h : Hall) (x : Nat) : (hung h x).records.length ≤ h.records.length + 1 := by
  unfold hung
  split
  · exact Nat.le_succ _
  · rename_i c _
    have := ended_recs h c
    dsimp only
    split <;> exact this
theorem stepOn_recs (h : Hall) (c : Te.Call) : (stepOn h c).1.records.length ≤ h.records.length + 1 := by
  have z : h.records.length ≤ h.records.length + 1 := Nat.le_succ _
  cases c <;> dsimp only [stepOn]
  case hang x =>
    split
    · exact z
    · split
      · exact z
      · exact hung_recs h x
  case tick t =>
    split
    · exact z
    · refine Nat.le_trans (Nat.le_of_eq (congrArg List.length (overdues_recs _ _))) z
  case digit x k =>
    split
    · exact z
    · split
      · rename_i d _
        refine Nat.le_trans (Nat.le_of_eq (congrArg List.length (?_ : (dialed h x (d ++ [k])).records = h.records))) z
        unfold dialed
        split
        · split <;> rfl
        · exact (tried_goes _ _ _).records
      · exact z
  case lift x =>
    split
    · exact z
    · split
      · exact z
      · split
        · exact z
        · split <;> exact z
  all_goals first
    | exact z
    | (split <;> first | exact z | (split <;> first | exact z | (split <;> first | exact z | (split <;> exact z))))
end Tx
end
section
namespace Tx
open PySem PySem.Spec PyProof.Rows L2
/-! ### defs and classes of the text, called by name -/
def top (i : Nat) : Stmt := PySem.Challenge.pw_townexchange_s01_answers.main.body.getD i (.Pass ⟨0, 0, 0, 0⟩)
/-- a def stands under its name -/
def Def (K : PySem.W.Frag) (mg : Str → Option Value) (x : Str) (st : Stmt) (ps : List Str) : Prop := ∃ f fd, Fun K x x st f fd ∧ mg x = some (.ref f) ∧ Binds K fd ps []
/-- a class stands under its name, with its __init__ -/
def Klass (K : PySem.W.Frag) (mg : Str → Option Value) (x q : Str) (st : Stmt) (ps : List Str) (C : Addr) : Prop := ∃ f fd, Mk K C f ∧ Fun K "__init__" q st f fd ∧ mg x = some (.ref C) ∧ Binds K fd ps []
structure Cal (P : Program) (w : World) (K : PySem.W.Frag) (mg : Str → Option Value) (base : Heap) (k : Nat) (x : Str) (sp : Sp) : Prop where
  ex : ∃ (f : Addr) (fd : FuncData) (ps : List Str), FnOk P w K mg base CX0 k f fd ps sp ∧ mg x = some (.ref f) ∧ PySem.W.keepIn K (.ref f) = true ∧ Binds K fd ps []
structure Mak (P : Program) (w : World) (K : PySem.W.Frag) (mg : Str → Option Value) (base : Heap) (k : Nat) (x : Str) (C : Addr) (sp : Sp) : Prop where
  ex : ∃ (f : Addr) (fd : FuncData) (ps : List Str), Mk K C f ∧ FnOk P w K mg base CX0 k f fd ps sp ∧ mg x = some (.ref C) ∧ Binds K fd ps []
section
variable {K : PySem.W.Frag} {mg : Str → Option Value} {P : Program} {w : World} {base : Heap}
theorem Def.cal {x : Str} {st : Stmt} {N ps : List Str} {k : Nat} {sp : Sp} (D : Def K mg x st ps) (S : FnScope N ps (defScope st)) (len : ∀ vs H Q E, sp vs H Q E → vs.length = ps.length)
    (hbody : ∀ (f : Addr) (cdv : Value) (A : Around) (outer : List Env) (s : Shared) (H : Hp) (vs : List V) (Q : VK) (E : XK), Room k (A.deeper (envOfC x (defScope st) s.heap.objs.size f cdv)) → sp vs H Q E →
      ∃ t, PSs (cxOf CX0 P w K mg base N x (defScope st) f cdv A outer s H E).nox (defBody st) t ∧ t { nx := fun _ H' => Q .non H', rt := Q } (start N vs) H) : Cal P w K mg base (k + 1) x sp := by
  obtain ⟨f, fd, F, g, b⟩ := D
  exact ⟨f, fd, ps, F.ok S len (hbody f), g, F.kp, b⟩
theorem Klass.mak {x q : Str} {st : Stmt} {N ps : List Str} {C : Addr} {k : Nat} {sp : Sp} (D : Klass K mg x q st ps C) (S : FnScope N ps (defScope st)) (len : ∀ vs H Q E, sp vs H Q E → vs.length = ps.length)
    (hbody : ∀ (f : Addr) (cdv : Value) (A : Around) (outer : List Env) (s : Shared) (H : Hp) (vs : List V) (Q : VK) (E : XK), Room k (A.deeper (envOfC q (defScope st) s.heap.objs.size f cdv)) → sp vs H Q E →
      ∃ t, PSs (cxOf CX0 P w K mg base N q (defScope st) f cdv A outer s H E).nox (defBody st) t ∧ t { nx := fun _ H' => Q .non H', rt := Q } (start N vs) H) : Mak P w K mg base (k + 1) x C sp := by
  obtain ⟨f, fd, M, F, g, b⟩ := D
  exact ⟨f, fd, ps, M, F.ok S len (hbody f), g, b⟩
end
section
variable {X : Cx} {x : Str} {p pos : Pos} {e : Expr} {es : List Expr} {t : TA} {k j : Nat} {sp : Sp} {C : Addr}
theorem pe_c (c : Cal X.prog X.w X.K X.mg X.base k x sp) (hr : Room j X.A) (hk : k ≤ j) (hg : Gl X x) (ha : PA X (e :: es) t) (hdb : (x == ("__debug__" : Str)) = false := by decide) (he : starEach (e :: es) X.env = (false, eval e X.env) :: starEach es X.env := by rfl) (hpl : (backTo pos (starEach es X.env)).any (·.1) = false := by rfl) :
    PE X (.Call (.Name x p) (e :: es) [] pos) (tCall sp [] E0 t) := by
  obtain ⟨f, fd, ps, F, hm, kp, b⟩ := c.ex
  exact pe_call F (hr.mono hk) hg hm kp b .nil pass0 ha hdb he hpl
theorem pe_mk (c : Mak X.prog X.w X.K X.mg X.base k x C sp) (hr : Room j X.A) (hk : k + 1 ≤ j) (hg : Gl X x) (ha : PA X (e :: es) t) (hdb : (x == ("__debug__" : Str)) = false := by decide) (he : starEach (e :: es) X.env = (false, eval e X.env) :: starEach es X.env := by rfl) (hpl : (backTo pos (starEach es X.env)).any (·.1) = false := by rfl) :
    PE X (.Call (.Name x p) (e :: es) [] pos) (tMake C sp [] E0 t) := by
  obtain ⟨f, fd, ps, M, F, hm, b⟩ := c.ex
  exact pe_make M F (hr.mono hk) hg hm b .nil pass0 ha hdb he hpl
theorem pe_mk0 (c : Mak X.prog X.w X.K X.mg X.base k x C sp) (hr : Room j X.A) (hk : k + 1 ≤ j) (hg : Gl X x) (hdb : (x == ("__debug__" : Str)) = false := by decide) :
    PE X (.Call (.Name x p) [] [] pos) (tMake C sp [] E0 tNil) := by
  obtain ⟨f, fd, ps, M, F, hm, b⟩ := c.ex
  exact pe_make0 M F (hr.mono hk) hg hm b .nil pass0 hdb
theorem pe_gi {i : Int} (hg : Gl X x) (hm : ∃ t, X.mg x = some (.int i t)) (hdb : (x == ("__debug__" : Str)) = false := by decide) : PE X (.Name x pos) (tC (.int i)) := by
  obtain ⟨t, hm⟩ := hm
  exact pe_glob hg hm ⟨t, rfl⟩ hdb
end
/-- len of a list, a tuple -/
abbrev rLenSeq (K : PySem.W.Frag) : List V → Hp → VK → Prop := fun xs H Q => ∃ p ys, xs = [.ref p] ∧ (SqL K H p ys ∨ SqT K H p ys) ∧ Q (.int ys.length) H
/-- how a call's numbers stand: a dict of the text, by whole numbers -/
def Forms (K : PySem.W.Frag) (a : Addr) : Prop := ∃ (es : Array DictEntry) (n : Nat), K.lookup a = some ⟨.type "dict", none, .dict es n, #[]⟩ ∧ (∀ e ∈ es.toList, ∃ k t, e.key = .int k t ∧ e.hash = hashInt k) ∧
  ∀ k m r, PyWrtele.shape k = some (m, r) → ∃ b, findBy Value.isInt es k = some (.ref b) ∧ ∀ H : Hp, SqT K H b [.int (m : Int), .int (r : Int)]
def rForms (K : PySem.W.Frag) (a : Addr) : R2 := fun x y H Q => ∃ k m r, x = .ref a ∧ y = .int k ∧ PyWrtele.shape k = some (m, r) ∧ ∀ b, SqT K H b [.int (m : Int), .int (r : Int)] → Q (.ref b) H
theorem ix_forms {X : Cx} {a : Addr} (F : Forms X.K a) : IxR X (rForms X.K a) := by
  intro value slice pins s σ H x y v u Q I rx ry h hs
  obtain ⟨k, m, r, rfl, rfl, e, q⟩ := h
  obtain ⟨es, n, hl, hk, hf⟩ := F
  obtain ⟨b, hb, ht⟩ := hf k m r e
  obtain rfl : v = Value.ref a := rx
  obtain ⟨t, rfl⟩ := ry
  have hm : s.heap.MapOf (PySem.intKind X.prog X.w) a (fun k => findBy Value.isInt es k) := ⟨_, es, n, I.kIn _ _ hl, ⟨rfl, rfl, rfl⟩, rfl, fun e he => by
    obtain ⟨k', t', e1, e2⟩ := hk e (Array.mem_toList_iff.mpr he)
    exact ⟨k', by rw [e1]; exact PySem.intKind_is X.prog X.w k' t', e2⟩, fun _ => rfl⟩
  exact tail_any hm.typeIs slot_dict_getitem.lookup (wpAny_getItem_of (PySem.intKind_is X.prog X.w k t) hm hb ⟨.ref b, H, I.tok _, rfl, q b (ht H)⟩) hs
theorem hu64 {A : Around} {k : Nat} (hr : Room k A) : A.units + 64 < cLine := by have := hr.un; omega
theorem hu65 {A : Around} {k : Nat} (hr : Room k A) : A.units + 65 < cLine := by have := hr.un; omega
end Tx
end
section
namespace Tx
open PySem PySem.Spec PyProof.Rows L2
abbrev s_init_Line : Stmt := inClass (top 11) 0
theorem sc_init_Line : FnScope ["self"] ["self"] (defScope s_init_Line) := ⟨rfl, rfl, rfl, by decide +kernel, rfl, by decide +kernel, by decide +kernel⟩
abbrev s_init_Group : Stmt := inClass (top 12) 0
theorem sc_init_Group : FnScope ["self", "number", "members"] ["self", "number", "members"] (defScope s_init_Group) := ⟨rfl, rfl, rfl, by decide +kernel, rfl, by decide +kernel, by decide +kernel⟩
abbrev s_init_Call : Stmt := inClass (top 13) 0
theorem sc_init_Call : FnScope ["self", "caller", "called", "number", "handed_on", "time"] ["self", "caller", "called", "number", "handed_on", "time"] (defScope s_init_Call) := ⟨rfl, rfl, rfl, by decide +kernel, rfl, by decide +kernel, by decide +kernel⟩
abbrev s_init_Exchange : Stmt := inClass (top 14) 0
theorem sc_init_Exchange : FnScope ["self", "lines_each", "switches", "middles", "place"] ["self", "lines_each", "switches", "middles"] (defScope s_init_Exchange) := ⟨rfl, rfl, rfl, by decide +kernel, rfl, by decide +kernel, by decide +kernel⟩
abbrev s_init_Town : Stmt := inClass (top 15) 0
theorem sc_init_Town : FnScope ["self"] ["self"] (defScope s_init_Town) := ⟨rfl, rfl, rfl, by decide +kernel, rfl, by decide +kernel, by decide +kernel⟩
abbrev s_are_digits : Stmt := top 19
theorem sc_are_digits : FnScope ["row", "digit"] ["row"] (defScope s_are_digits) := ⟨rfl, rfl, rfl, by decide +kernel, rfl, by decide +kernel, by decide +kernel⟩
abbrev s_is_number : Stmt := top 20
theorem sc_is_number : FnScope ["row"] ["row"] (defScope s_is_number) := ⟨rfl, rfl, rfl, by decide +kernel, rfl, by decide +kernel, by decide +kernel⟩
abbrev s_begins : Stmt := top 21
theorem sc_begins : FnScope ["start", "row"] ["start", "row"] (defScope s_begins) := ⟨rfl, rfl, rfl, by decide +kernel, rfl, by decide +kernel, by decide +kernel⟩
abbrev s_numbers_there : Stmt := top 22
theorem sc_numbers_there : FnScope ["exchange", "of_lines", "line", "group"] ["exchange"] (defScope s_numbers_there) := ⟨rfl, rfl, rfl, by decide +kernel, rfl, by decide +kernel, by decide +kernel⟩
abbrev s_some_number_begins : Stmt := top 23
theorem sc_some_number_begins : FnScope ["exchange", "digits", "number"] ["exchange", "digits"] (defScope s_some_number_begins) := ⟨rfl, rfl, rfl, by decide +kernel, rfl, by decide +kernel, by decide +kernel⟩
abbrev s_clashes : Stmt := top 24
theorem sc_clashes : FnScope ["exchange", "digits", "number"] ["exchange", "digits"] (defScope s_clashes) := ⟨rfl, rfl, rfl, by decide +kernel, rfl, by decide +kernel, by decide +kernel⟩
abbrev s_line_of_number : Stmt := top 25
theorem sc_line_of_number : FnScope ["exchange", "digits", "place", "line"] ["exchange", "digits"] (defScope s_line_of_number) := ⟨rfl, rfl, rfl, by decide +kernel, rfl, by decide +kernel, by decide +kernel⟩
abbrev s_group_of_number : Stmt := top 26
theorem sc_group_of_number : FnScope ["exchange", "digits", "group"] ["exchange", "digits"] (defScope s_group_of_number) := ⟨rfl, rfl, rfl, by decide +kernel, rfl, by decide +kernel, by decide +kernel⟩
abbrev s_is_somebodys : Stmt := top 27
theorem sc_is_somebodys : FnScope ["exchange", "digits"] ["exchange", "digits"] (defScope s_is_somebodys) := ⟨rfl, rfl, rfl, by decide +kernel, rfl, by decide +kernel, by decide +kernel⟩
abbrev s_price_of : Stmt := top 28
theorem sc_price_of : FnScope ["exchange", "number", "cents", "length"] ["exchange", "number"] (defScope s_price_of) := ⟨rfl, rfl, rfl, by decide +kernel, rfl, by decide +kernel, by decide +kernel⟩
abbrev s_give_number : Stmt := top 42
theorem sc_give_number : FnScope ["exchange", "request", "line", "digits"] ["exchange", "request"] (defScope s_give_number) := ⟨rfl, rfl, rfl, by decide +kernel, rfl, by decide +kernel, by decide +kernel⟩
abbrev s_clear_number : Stmt := top 43
theorem sc_clear_number : FnScope ["exchange", "request", "line"] ["exchange", "request"] (defScope s_clear_number) := ⟨rfl, rfl, rfl, by decide +kernel, rfl, by decide +kernel, by decide +kernel⟩
abbrev s_are_members : Stmt := top 44
theorem sc_are_members : FnScope ["exchange", "places", "place"] ["exchange", "places"] (defScope s_are_members) := ⟨rfl, rfl, rfl, by decide +kernel, rfl, by decide +kernel, by decide +kernel⟩
abbrev s_make_group : Stmt := top 45
theorem sc_make_group : FnScope ["exchange", "request", "digits", "members"] ["exchange", "request"] (defScope s_make_group) := ⟨rfl, rfl, rfl, by decide +kernel, rfl, by decide +kernel, by decide +kernel⟩
abbrev s_tell_price : Stmt := top 46
theorem sc_tell_price : FnScope ["exchange", "request", "cents", "digits", "told_for"] ["exchange", "request"] (defScope s_tell_price) := ⟨rfl, rfl, rfl, by decide +kernel, rfl, by decide +kernel, by decide +kernel⟩
abbrev s_hand_on : Stmt := top 47
theorem sc_hand_on : FnScope ["exchange", "request", "line", "when", "digits"] ["exchange", "request"] (defScope s_hand_on) := ⟨rfl, rfl, rfl, by decide +kernel, rfl, by decide +kernel, by decide +kernel⟩
abbrev s_set_wait : Stmt := top 48
theorem sc_set_wait : FnScope ["exchange", "request", "time"] ["exchange", "request"] (defScope s_set_wait) := ⟨rfl, rfl, rfl, by decide +kernel, rfl, by decide +kernel, by decide +kernel⟩
abbrev s_switch_of : Stmt := top 50
theorem sc_switch_of : FnScope ["exchange", "line"] ["exchange", "line"] (defScope s_switch_of) := ⟨rfl, rfl, rfl, by decide +kernel, rfl, by decide +kernel, by decide +kernel⟩
abbrev s_call_from : Stmt := top 51
theorem sc_call_from : FnScope ["exchange", "switch", "middle", "call"] ["exchange", "switch", "middle"] (defScope s_call_from) := ⟨rfl, rfl, rfl, by decide +kernel, rfl, by decide +kernel, by decide +kernel⟩
abbrev s_call_to : Stmt := top 52
theorem sc_call_to : FnScope ["exchange", "switch", "middle", "call"] ["exchange", "switch", "middle"] (defScope s_call_to) := ⟨rfl, rfl, rfl, by decide +kernel, rfl, by decide +kernel, by decide +kernel⟩
abbrev s_free_from : Stmt := top 53
theorem sc_free_from : FnScope ["exchange", "switch", "middle"] ["exchange", "switch"] (defScope s_free_from) := ⟨rfl, rfl, rfl, by decide +kernel, rfl, by decide +kernel, by decide +kernel⟩
abbrev s_free_to : Stmt := top 54
theorem sc_free_to : FnScope ["exchange", "switch", "middle"] ["exchange", "switch"] (defScope s_free_to) := ⟨rfl, rfl, rfl, by decide +kernel, rfl, by decide +kernel, by decide +kernel⟩
abbrev s_calls_to_move : Stmt := top 55
theorem sc_calls_to_move : FnScope ["exchange", "last", "leave", "take", "chain", "call"] ["exchange", "last", "leave", "take"] (defScope s_calls_to_move) := ⟨rfl, rfl, rfl, by decide +kernel, rfl, by decide +kernel, by decide +kernel⟩
abbrev s_put_on_a_way : Stmt := top 56
theorem sc_put_on_a_way : FnScope ["exchange", "call", "last", "free_first", "free_last", "free_both", "leave", "take", "chain", "moved", "middle"] ["exchange", "call"] (defScope s_put_on_a_way) := ⟨rfl, rfl, rfl, by decide +kernel, rfl, by decide +kernel, by decide +kernel⟩
abbrev s_give_tone : Stmt := top 59
theorem sc_give_tone : FnScope ["line"] ["line"] (defScope s_give_tone) := ⟨rfl, rfl, rfl, by decide +kernel, rfl, by decide +kernel, by decide +kernel⟩
abbrev s_enter_call : Stmt := top 60
theorem sc_enter_call : FnScope ["line", "state", "call"] ["line", "state", "call"] (defScope s_enter_call) := ⟨rfl, rfl, rfl, by decide +kernel, rfl, by decide +kernel, by decide +kernel⟩
abbrev s_is_idle : Stmt := top 61
theorem sc_is_idle : FnScope ["exchange", "place"] ["exchange", "place"] (defScope s_is_idle) := ⟨rfl, rfl, rfl, by decide +kernel, rfl, by decide +kernel, by decide +kernel⟩
abbrev s_handed_on_to : Stmt := top 62
theorem sc_handed_on_to : FnScope ["line"] ["line"] (defScope s_handed_on_to) := ⟨rfl, rfl, rfl, by decide +kernel, rfl, by decide +kernel, by decide +kernel⟩
abbrev s_first_idle_member : Stmt := top 63
theorem sc_first_idle_member : FnScope ["exchange", "digits", "caller", "group", "place"] ["exchange", "digits", "caller"] (defScope s_first_idle_member) := ⟨rfl, rfl, rfl, by decide +kernel, rfl, by decide +kernel, by decide +kernel⟩
abbrev s_call_that_rings : Stmt := top 64
theorem sc_call_that_rings : FnScope ["exchange", "caller", "dialed", "digits", "handed_on", "tried", "times", "called", "onward"] ["exchange", "caller", "dialed", "digits", "handed_on"] (defScope s_call_that_rings) := ⟨rfl, rfl, rfl, by decide +kernel, rfl, by decide +kernel, by decide +kernel⟩
abbrev s_try_number : Stmt := top 65
theorem sc_try_number : FnScope ["exchange", "caller", "dialed", "digits", "handed_on", "call", "moved"] ["exchange", "caller", "dialed", "digits", "handed_on"] (defScope s_try_number) := ⟨rfl, rfl, rfl, by decide +kernel, rfl, by decide +kernel, by decide +kernel⟩
abbrev s_make_idle : Stmt := top 68
theorem sc_make_idle : FnScope ["line"] ["line"] (defScope s_make_idle) := ⟨rfl, rfl, rfl, by decide +kernel, rfl, by decide +kernel, by decide +kernel⟩
abbrev s_minutes_begun : Stmt := top 69
theorem sc_minutes_begun : FnScope ["time"] ["time"] (defScope s_minutes_begun) := ⟨rfl, rfl, rfl, by decide +kernel, rfl, by decide +kernel, by decide +kernel⟩
abbrev s_cents_of : Stmt := top 70
theorem sc_cents_of : FnScope ["exchange", "call"] ["exchange", "call"] (defScope s_cents_of) := ⟨rfl, rfl, rfl, by decide +kernel, rfl, by decide +kernel, by decide +kernel⟩
abbrev s_end_ringing : Stmt := top 71
theorem sc_end_ringing : FnScope ["exchange", "call"] ["exchange", "call"] (defScope s_end_ringing) := ⟨rfl, rfl, rfl, by decide +kernel, rfl, by decide +kernel, by decide +kernel⟩
abbrev s_end_talk : Stmt := top 72
theorem sc_end_talk : FnScope ["exchange", "call", "hung_up", "cents", "other"] ["exchange", "call", "hung_up"] (defScope s_end_talk) := ⟨rfl, rfl, rfl, by decide +kernel, rfl, by decide +kernel, by decide +kernel⟩
abbrev s_rang_too_long : Stmt := top 74
theorem sc_rang_too_long : FnScope ["exchange", "call"] ["exchange", "call"] (defScope s_rang_too_long) := ⟨rfl, rfl, rfl, by decide +kernel, rfl, by decide +kernel, by decide +kernel⟩
abbrev s_nobody_answers : Stmt := top 75
theorem sc_nobody_answers : FnScope ["exchange", "call", "onward"] ["exchange", "call"] (defScope s_nobody_answers) := ⟨rfl, rfl, rfl, by decide +kernel, rfl, by decide +kernel, by decide +kernel⟩
abbrev s_pass_time : Stmt := top 76
theorem sc_pass_time : FnScope ["exchange", "request", "time", "call", "unanswered", "moved"] ["exchange", "request"] (defScope s_pass_time) := ⟨rfl, rfl, rfl, by decide +kernel, rfl, by decide +kernel, by decide +kernel⟩
abbrev s_start_talk : Stmt := top 78
theorem sc_start_talk : FnScope ["exchange", "call"] ["exchange", "call"] (defScope s_start_talk) := ⟨rfl, rfl, rfl, by decide +kernel, rfl, by decide +kernel, by decide +kernel⟩
abbrev s_lift : Stmt := top 79
theorem sc_lift : FnScope ["exchange", "request", "line"] ["exchange", "request"] (defScope s_lift) := ⟨rfl, rfl, rfl, by decide +kernel, rfl, by decide +kernel, by decide +kernel⟩
abbrev s_press_digit : Stmt := top 80
theorem sc_press_digit : FnScope ["exchange", "request", "place", "digit", "line", "dialed", "moved"] ["exchange", "request"] (defScope s_press_digit) := ⟨rfl, rfl, rfl, by decide +kernel, rfl, by decide +kernel, by decide +kernel⟩
abbrev s_hang : Stmt := top 81
theorem sc_hang : FnScope ["exchange", "request", "place", "line"] ["exchange", "request"] (defScope s_hang) := ⟨rfl, rfl, rfl, by decide +kernel, rfl, by decide +kernel, by decide +kernel⟩
abbrev s_init_Request : Stmt := inClass (top 101) 0
theorem sc_init_Request : FnScope ["self", "kind", "numbers", "rows"] ["self", "kind", "numbers", "rows"] (defScope s_init_Request) := ⟨rfl, rfl, rfl, by decide +kernel, rfl, by decide +kernel, by decide +kernel⟩
abbrev s_read_rows : Stmt := top 102
theorem sc_read_rows : FnScope ["calls", "start", "how_many", "rows", "place", "end"] ["calls", "start", "how_many"] (defScope s_read_rows) := ⟨rfl, rfl, rfl, by decide +kernel, rfl, by decide +kernel, by decide +kernel⟩
abbrev s_read_request : Stmt := top 103
theorem sc_read_request : FnScope ["calls", "start", "form", "end"] ["calls", "start"] (defScope s_read_request) := ⟨rfl, rfl, rfl, by decide +kernel, rfl, by decide +kernel, by decide +kernel⟩
abbrev s_length_of : Stmt := top 104
theorem sc_length_of : FnScope ["request", "row"] ["request"] (defScope s_length_of) := ⟨rfl, rfl, rfl, by decide +kernel, rfl, by decide +kernel, by decide +kernel⟩
abbrev s_read_requests : Stmt := top 105
theorem sc_read_requests : FnScope ["calls", "requests", "place", "request"] ["calls"] (defScope s_read_requests) := ⟨rfl, rfl, rfl, by decide +kernel, rfl, by decide +kernel, by decide +kernel⟩
abbrev s_look_at_line : Stmt := top 110
theorem sc_look_at_line : FnScope ["exchange", "request", "line", "call"] ["exchange", "request"] (defScope s_look_at_line) := ⟨rfl, rfl, rfl, by decide +kernel, rfl, by decide +kernel, by decide +kernel⟩
abbrev s_look_at_middle : Stmt := top 111
theorem sc_look_at_middle : FnScope ["exchange", "request", "middle", "call", "by_it", "told"] ["exchange", "request"] (defScope s_look_at_middle) := ⟨rfl, rfl, rfl, by decide +kernel, rfl, by decide +kernel, by decide +kernel⟩
abbrev s_tell_owed : Stmt := top 112
theorem sc_tell_owed : FnScope ["exchange", "request"] ["exchange", "request"] (defScope s_tell_owed) := ⟨rfl, rfl, rfl, by decide +kernel, rfl, by decide +kernel, by decide +kernel⟩
abbrev s_tell_record : Stmt := top 113
theorem sc_tell_record : FnScope ["exchange", "request", "place"] ["exchange", "request"] (defScope s_tell_record) := ⟨rfl, rfl, rfl, by decide +kernel, rfl, by decide +kernel, by decide +kernel⟩
abbrev s_tell_owner : Stmt := top 114
theorem sc_tell_owner : FnScope ["exchange", "request", "digits", "place", "group"] ["exchange", "request"] (defScope s_tell_owner) := ⟨rfl, rfl, rfl, by decide +kernel, rfl, by decide +kernel, by decide +kernel⟩
abbrev s_tell_counts : Stmt := top 115
theorem sc_tell_counts : FnScope ["exchange"] ["exchange"] (defScope s_tell_counts) := ⟨rfl, rfl, rfl, by decide +kernel, rfl, by decide +kernel, by decide +kernel⟩
abbrev s_sizes_fit : Stmt := top 120
theorem sc_sizes_fit : FnScope ["lines_each", "switches", "middles"] ["lines_each", "switches", "middles"] (defScope s_sizes_fit) := ⟨rfl, rfl, rfl, by decide +kernel, rfl, by decide +kernel, by decide +kernel⟩
abbrev s_begin : Stmt := top 121
theorem sc_begin : FnScope ["town", "request", "lines_each", "switches", "middles"] ["town", "request"] (defScope s_begin) := ⟨rfl, rfl, rfl, by decide +kernel, rfl, by decide +kernel, by decide +kernel⟩
abbrev s_answer_of_order : Stmt := top 122
theorem sc_answer_of_order : FnScope ["exchange", "request"] ["exchange", "request"] (defScope s_answer_of_order) := ⟨rfl, rfl, rfl, by decide +kernel, rfl, by decide +kernel, by decide +kernel⟩
abbrev s_answer_of_doing : Stmt := top 123
theorem sc_answer_of_doing : FnScope ["exchange", "request"] ["exchange", "request"] (defScope s_answer_of_doing) := ⟨rfl, rfl, rfl, by decide +kernel, rfl, by decide +kernel, by decide +kernel⟩
abbrev s_answer_of_telling : Stmt := top 124
theorem sc_answer_of_telling : FnScope ["exchange", "request"] ["exchange", "request"] (defScope s_answer_of_telling) := ⟨rfl, rfl, rfl, by decide +kernel, rfl, by decide +kernel, by decide +kernel⟩
abbrev s_answer_of : Stmt := top 125
theorem sc_answer_of : FnScope ["exchange", "request"] ["exchange", "request"] (defScope s_answer_of) := ⟨rfl, rfl, rfl, by decide +kernel, rfl, by decide +kernel, by decide +kernel⟩
abbrev s_answer_request : Stmt := top 126
theorem sc_answer_request : FnScope ["town", "request", "exchange"] ["town", "request"] (defScope s_answer_request) := ⟨rfl, rfl, rfl, by decide +kernel, rfl, by decide +kernel, by decide +kernel⟩
abbrev s_laid_out : Stmt := top 127
theorem sc_laid_out : FnScope ["answer", "row"] ["answer"] (defScope s_laid_out) := ⟨rfl, rfl, rfl, by decide +kernel, rfl, by decide +kernel, by decide +kernel⟩
abbrev s_answers : Stmt := top 128
theorem sc_answers : FnScope ["calls", "town", "given", "request"] ["calls"] (defScope s_answers) := ⟨rfl, rfl, rfl, by decide +kernel, rfl, by decide +kernel, by decide +kernel⟩
structure Cs where
  (c_Line c_Group c_Call c_Exchange c_Town c_Request a_FORMS a_OF_A_LINE : Addr)
structure Txt (K : PySem.W.Frag) (mg : Str → Option Value) (C : Cs) : Prop where
  l_Line : Klass K mg "Line" "Line.__init__" s_init_Line ["self"] C.c_Line
  cl_Line : Cls K C.c_Line
  na_Line_state : NoAttr K C.c_Line "state"
  na_Line_number : NoAttr K C.c_Line "number"
  na_Line_dialed : NoAttr K C.c_Line "dialed"
  na_Line_hands : NoAttr K C.c_Line "hands"
  na_Line_call : NoAttr K C.c_Line "call"
  na_Line_owed : NoAttr K C.c_Line "owed"
  l_Group : Klass K mg "Group" "Group.__init__" s_init_Group ["self", "number", "members"] C.c_Group
  cl_Group : Cls K C.c_Group
  na_Group_number : NoAttr K C.c_Group "number"
  na_Group_members : NoAttr K C.c_Group "members"
  l_Call : Klass K mg "Call" "Call.__init__" s_init_Call ["self", "caller", "called", "number", "handed_on", "time"] C.c_Call
  cl_Call : Cls K C.c_Call
  mro_Call : PySem.W.mroIn K C.c_Call (.type "object") = some true
  eq_Call : PySem.W.findIn K (.ref C.c_Call) "__eq__" = some (some (.builtin "object.__eq__"))
  na_Call_caller : NoAttr K C.c_Call "caller"
  na_Call_called : NoAttr K C.c_Call "called"
  na_Call_number : NoAttr K C.c_Call "number"
  na_Call_handed_on : NoAttr K C.c_Call "handed_on"
  na_Call_rings_since : NoAttr K C.c_Call "rings_since"
  na_Call_talks_since : NoAttr K C.c_Call "talks_since"
  na_Call_way : NoAttr K C.c_Call "way"
  l_Exchange : Klass K mg "Exchange" "Exchange.__init__" s_init_Exchange ["self", "lines_each", "switches", "middles"] C.c_Exchange
  cl_Exchange : Cls K C.c_Exchange
  na_Exchange_lines_each : NoAttr K C.c_Exchange "lines_each"
  na_Exchange_middles : NoAttr K C.c_Exchange "middles"
  na_Exchange_lines : NoAttr K C.c_Exchange "lines"
  na_Exchange_groups : NoAttr K C.c_Exchange "groups"
  na_Exchange_prices : NoAttr K C.c_Exchange "prices"
  na_Exchange_calls : NoAttr K C.c_Exchange "calls"
  na_Exchange_records : NoAttr K C.c_Exchange "records"
  na_Exchange_moved : NoAttr K C.c_Exchange "moved"
  na_Exchange_time : NoAttr K C.c_Exchange "time"
  na_Exchange_wait : NoAttr K C.c_Exchange "wait"
  l_Town : Klass K mg "Town" "Town.__init__" s_init_Town ["self"] C.c_Town
  cl_Town : Cls K C.c_Town
  na_Town_exchange : NoAttr K C.c_Town "exchange"
  d_are_digits : Def K mg "are_digits" s_are_digits ["row"]
  d_is_number : Def K mg "is_number" s_is_number ["row"]
  d_begins : Def K mg "begins" s_begins ["start", "row"]
  d_numbers_there : Def K mg "numbers_there" s_numbers_there ["exchange"]
  d_some_number_begins : Def K mg "some_number_begins" s_some_number_begins ["exchange", "digits"]
  d_clashes : Def K mg "clashes" s_clashes ["exchange", "digits"]
  d_line_of_number : Def K mg "line_of_number" s_line_of_number ["exchange", "digits"]
  d_group_of_number : Def K mg "group_of_number" s_group_of_number ["exchange", "digits"]
  d_is_somebodys : Def K mg "is_somebodys" s_is_somebodys ["exchange", "digits"]
  d_price_of : Def K mg "price_of" s_price_of ["exchange", "number"]
  d_give_number : Def K mg "give_number" s_give_number ["exchange", "request"]
  d_clear_number : Def K mg "clear_number" s_clear_number ["exchange", "request"]
  d_are_members : Def K mg "are_members" s_are_members ["exchange", "places"]
  d_make_group : Def K mg "make_group" s_make_group ["exchange", "request"]
  d_tell_price : Def K mg "tell_price" s_tell_price ["exchange", "request"]
  d_hand_on : Def K mg "hand_on" s_hand_on ["exchange", "request"]
  d_set_wait : Def K mg "set_wait" s_set_wait ["exchange", "request"]
  d_switch_of : Def K mg "switch_of" s_switch_of ["exchange", "line"]
  d_call_from : Def K mg "call_from" s_call_from ["exchange", "switch", "middle"]
  d_call_to : Def K mg "call_to" s_call_to ["exchange", "switch", "middle"]
  d_free_from : Def K mg "free_from" s_free_from ["exchange", "switch"]
  d_free_to : Def K mg "free_to" s_free_to ["exchange", "switch"]
  d_calls_to_move : Def K mg "calls_to_move" s_calls_to_move ["exchange", "last", "leave", "take"]
  d_put_on_a_way : Def K mg "put_on_a_way" s_put_on_a_way ["exchange", "call"]
  d_give_tone : Def K mg "give_tone" s_give_tone ["line"]
  d_enter_call : Def K mg "enter_call" s_enter_call ["line", "state", "call"]
  d_is_idle : Def K mg "is_idle" s_is_idle ["exchange", "place"]
  d_handed_on_to : Def K mg "handed_on_to" s_handed_on_to ["line"]
  d_first_idle_member : Def K mg "first_idle_member" s_first_idle_member ["exchange", "digits", "caller"]
  d_call_that_rings : Def K mg "call_that_rings" s_call_that_rings ["exchange", "caller", "dialed", "digits", "handed_on"]
  d_try_number : Def K mg "try_number" s_try_number ["exchange", "caller", "dialed", "digits", "handed_on"]
  d_make_idle : Def K mg "make_idle" s_make_idle ["line"]
  d_minutes_begun : Def K mg "minutes_begun" s_minutes_begun ["time"]
  d_cents_of : Def K mg "cents_of" s_cents_of ["exchange", "call"]
  d_end_ringing : Def K mg "end_ringing" s_end_ringing ["exchange", "call"]
  d_end_talk : Def K mg "end_talk" s_end_talk ["exchange", "call", "hung_up"]
  d_rang_too_long : Def K mg "rang_too_long" s_rang_too_long ["exchange", "call"]
  d_nobody_answers : Def K mg "nobody_answers" s_nobody_answers ["exchange", "call"]
  d_pass_time : Def K mg "pass_time" s_pass_time ["exchange", "request"]
  d_start_talk : Def K mg "start_talk" s_start_talk ["exchange", "call"]
  d_lift : Def K mg "lift" s_lift ["exchange", "request"]
  d_press_digit : Def K mg "press_digit" s_press_digit ["exchange", "request"]
  d_hang : Def K mg "hang" s_hang ["exchange", "request"]
  l_Request : Klass K mg "Request" "Request.__init__" s_init_Request ["self", "kind", "numbers", "rows"] C.c_Request
  cl_Request : Cls K C.c_Request
  na_Request_kind : NoAttr K C.c_Request "kind"
  na_Request_numbers : NoAttr K C.c_Request "numbers"
  na_Request_rows : NoAttr K C.c_Request "rows"
  d_read_rows : Def K mg "read_rows" s_read_rows ["calls", "start", "how_many"]
  d_read_request : Def K mg "read_request" s_read_request ["calls", "start"]
  d_length_of : Def K mg "length_of" s_length_of ["request"]
  d_read_requests : Def K mg "read_requests" s_read_requests ["calls"]
  d_look_at_line : Def K mg "look_at_line" s_look_at_line ["exchange", "request"]
  d_look_at_middle : Def K mg "look_at_middle" s_look_at_middle ["exchange", "request"]
  d_tell_owed : Def K mg "tell_owed" s_tell_owed ["exchange", "request"]
  d_tell_record : Def K mg "tell_record" s_tell_record ["exchange", "request"]
  d_tell_owner : Def K mg "tell_owner" s_tell_owner ["exchange", "request"]
  d_tell_counts : Def K mg "tell_counts" s_tell_counts ["exchange"]
  d_sizes_fit : Def K mg "sizes_fit" s_sizes_fit ["lines_each", "switches", "middles"]
  d_begin : Def K mg "begin" s_begin ["town", "request"]
  d_answer_of_order : Def K mg "answer_of_order" s_answer_of_order ["exchange", "request"]
  d_answer_of_doing : Def K mg "answer_of_doing" s_answer_of_doing ["exchange", "request"]
  d_answer_of_telling : Def K mg "answer_of_telling" s_answer_of_telling ["exchange", "request"]
  d_answer_of : Def K mg "answer_of" s_answer_of ["exchange", "request"]
  d_answer_request : Def K mg "answer_request" s_answer_request ["town", "request"]
  d_laid_out : Def K mg "laid_out" s_laid_out ["answer"]
  d_answers : Def K mg "answers" s_answers ["calls"]
  k_IDLE : ∃ t, mg "IDLE" = some (.int (0) t)
  k_DIALS : ∃ t, mg "DIALS" = some (.int (1) t)
  k_TALKS : ∃ t, mg "TALKS" = some (.int (2) t)
  k_WAITS : ∃ t, mg "WAITS" = some (.int (3) t)
  k_TONE : ∃ t, mg "TONE" = some (.int (4) t)
  k_RINGS : ∃ t, mg "RINGS" = some (.int (5) t)
  k_ALWAYS : ∃ t, mg "ALWAYS" = some (.int (0) t)
  k_WHEN_BUSY : ∃ t, mg "WHEN_BUSY" = some (.int (1) t)
  k_WHEN_UNANSWERED : ∃ t, mg "WHEN_UNANSWERED" = some (.int (2) t)
  k_FIRST_WAIT : ∃ t, mg "FIRST_WAIT" = some (.int (30) t)
  k_MOST_DIGITS : ∃ t, mg "MOST_DIGITS" = some (.int (8) t)
  k_TOP_DIGIT : ∃ t, mg "TOP_DIGIT" = some (.int (9) t)
  k_NONE_SUCH : ∃ t, mg "NONE_SUCH" = some (.int (-1) t)
  k_NOT_BEGUN : ∃ t, mg "NOT_BEGUN" = some (.int (-2) t)
  k_NONE_THERE : ∃ t, mg "NONE_THERE" = some (.int (-3) t)
  k_NO_NUMBER : ∃ t, mg "NO_NUMBER" = some (.int (-4) t)
  k_NOT_NOW : ∃ t, mg "NOT_NOW" = some (.int (-5) t)
  k_NUMBERS_CLASH : ∃ t, mg "NUMBERS_CLASH" = some (.int (-6) t)
  k_ALL_TAKEN : ∃ t, mg "ALL_TAKEN" = some (.int (-9) t)
  k_MOST_MEMBERS : ∃ t, mg "MOST_MEMBERS" = some (.int (8) t)
  k_MOST_GROUPS : ∃ t, mg "MOST_GROUPS" = some (.int (8) t)
  k_MOST_PRICES : ∃ t, mg "MOST_PRICES" = some (.int (16) t)
  k_MOST_CENTS : ∃ t, mg "MOST_CENTS" = some (.int (1000) t)
  k_LONGEST_WAIT : ∃ t, mg "LONGEST_WAIT" = some (.int (1000) t)
  k_MOST_HANDED_ON : ∃ t, mg "MOST_HANDED_ON" = some (.int (5) t)
  k_MINUTE : ∃ t, mg "MINUTE" = some (.int (60) t)
  k_BEGIN : ∃ t, mg "BEGIN" = some (.int (1) t)
  k_NUMBER : ∃ t, mg "NUMBER" = some (.int (2) t)
  k_CLEAR : ∃ t, mg "CLEAR" = some (.int (3) t)
  k_GROUP : ∃ t, mg "GROUP" = some (.int (4) t)
  k_PRICE : ∃ t, mg "PRICE" = some (.int (5) t)
  k_HAND : ∃ t, mg "HAND" = some (.int (6) t)
  k_WAIT : ∃ t, mg "WAIT" = some (.int (7) t)
  k_LIFT : ∃ t, mg "LIFT" = some (.int (8) t)
  k_DIGIT : ∃ t, mg "DIGIT" = some (.int (9) t)
  k_HANG : ∃ t, mg "HANG" = some (.int (10) t)
  k_TICK : ∃ t, mg "TICK" = some (.int (11) t)
  k_LOOK : ∃ t, mg "LOOK" = some (.int (12) t)
  k_MIDDLE : ∃ t, mg "MIDDLE" = some (.int (13) t)
  k_OWES : ∃ t, mg "OWES" = some (.int (14) t)
  k_RECORD : ∃ t, mg "RECORD" = some (.int (15) t)
  k_OWNER : ∃ t, mg "OWNER" = some (.int (16) t)
  k_FORMS : mg "FORMS" = some (.ref C.a_FORMS)
  f_FORMS : Forms K C.a_FORMS
  k_OF_A_LINE : mg "OF_A_LINE" = some (.ref C.a_OF_A_LINE)
  q_OF_A_LINE : ∀ H : Hp, SqT K H C.a_OF_A_LINE ([2, 3, 6, 8, 9, 10, 12, 14].map V.int)
  k_BEGINS_A_NUMBER : ∃ t, mg "BEGINS_A_NUMBER" = some (.int (0) t)
  k_A_LINES : ∃ t, mg "A_LINES" = some (.int (1) t)
  k_A_GROUPS : ∃ t, mg "A_GROUPS" = some (.int (2) t)
  k_MOST_LINES_EACH : ∃ t, mg "MOST_LINES_EACH" = some (.int (8) t)
  k_MOST_SWITCHES : ∃ t, mg "MOST_SWITCHES" = some (.int (8) t)
  k_MOST_MIDDLES : ∃ t, mg "MOST_MIDDLES" = some (.int (16) t)
  n_len : mg "len" = none
  n_any : mg "any" = none
  n_all : mg "all" = none
  n_sum : mg "sum" = none
  n_tuple : mg "tuple" = none
  n_set : mg "set" = none
  n_range : mg "range" = none
  n_enumerate : mg "enumerate" = none
  n_max : mg "max" = none
end Tx
end
section
namespace Tx
open PySem PySem.Spec PyProof.Rows L2
/-! ### numbers as values -/
abbrev iv (d : Nat) : V := .int (d : Int)
abbrev ivs (ds : List Nat) : List V := ds.map iv
abbrev pds (ds : List Nat) : List PyData := ds.map fun (d : Nat) => PyData.int (d : Int)
theorem iv_inj {a b : Nat} (h : iv a = iv b) : a = b := by
  injection h with h
  exact Int.ofNat.inj h
theorem ivs_get {ds : List Nat} {i : Nat} {x : V} (h : (ivs ds)[i]? = some x) : ∃ d, ds[i]? = some d ∧ x = iv d := by
  rw [List.getElem?_map] at h
  cases e : ds[i]? with
  | none => rw [e] at h; cases h
  | some d => rw [e] at h; exact ⟨d, rfl, (Option.some.inj h).symm⟩
section
variable {K : PySem.W.Frag} {H : Hp}
theorem dpAll_ints : ∀ ds : List Nat, DpAll K H (ivs ds) (pds ds)
  | [] => .nil
  | d :: ds => .cons (.int _) (dpAll_ints ds)
theorem dp_ints {a : Addr} {ds : List Nat} (h : SqL K H a (ivs ds)) : Dp K H (.ref a) (.list (pds ds)) := .lst h (dpAll_ints ds)
end
theorem eqvAll_ints : ∀ a b : List Nat, PyData.eqvAll (pds a) (pds b) = decide (a = b)
  | [], [] => by simp [PyData.eqvAll]
  | [], _ :: _ => by simp [PyData.eqvAll]
  | _ :: _, [] => by simp [PyData.eqvAll]
  | x :: a, y :: b => by
    have ih := eqvAll_ints a b
    show PyData.eqvAll (PyData.int x :: pds a) (PyData.int y :: pds b) = _
    rw [PyData.eqvAll, ih, PyData.eqv]
    rw [Bool.eq_iff_iff]
    simp
    intro _
    omega
theorem eqv_ints (a b : List Nat) : PyData.eqv (.list (pds a)) (.list (pds b)) = decide (a = b) := by
  rw [PyData.eqv]
  exact eqvAll_ints a b
theorem canLay_ints : ∀ a : List Nat, PyData.canLayAll0 (pds a) = true
  | [] => by simp [PyData.canLayAll0]
  | x :: a => by
    show PyData.canLayAll0 (PyData.int x :: pds a) = true
    rw [PyData.canLayAll0, canLay_ints a, PyData.canLay0]
    rfl
theorem depth_ints : ∀ a : List Nat, PyData.depthAll (pds a) = 0
  | [] => by simp [PyData.depthAll]
  | x :: a => by
    show PyData.depthAll (PyData.int x :: pds a) = 0
    rw [PyData.depthAll, depth_ints a, PyData.depth]
    rfl
theorem shaped_ints (a : List Nat) : SeqAt.shaped (.list (pds a)) = true := by
  unfold SeqAt.shaped
  rw [PyData.canLay0, canLay_ints, PyData.depth, depth_ints]
  rfl
theorem canLay_lists : ∀ a : List (List Nat), PyData.canLayAll0 (a.map fun d => PyData.list (pds d)) = true
  | [] => by simp [PyData.canLayAll0]
  | x :: a => by
    show PyData.canLayAll0 (PyData.list (pds x) :: a.map fun d => PyData.list (pds d)) = true
    rw [PyData.canLayAll0, canLay_lists a, PyData.canLay0, canLay_ints]
    rfl
theorem depth_lists : ∀ a : List (List Nat), PyData.depthAll (a.map fun d => PyData.list (pds d)) ≤ 1
  | [] => by simp [PyData.depthAll]
  | x :: a => by
    show PyData.depthAll (PyData.list (pds x) :: a.map fun d => PyData.list (pds d)) ≤ 1
    rw [PyData.depthAll, PyData.depth, depth_ints]
    have := depth_lists a
    omega
theorem shaped_lists (a : List (List Nat)) : SeqAt.shaped (.list (a.map fun d => PyData.list (pds d))) = true := by
  unfold SeqAt.shaped
  rw [PyData.canLay0, canLay_lists, PyData.depth]
  have := depth_lists a
  simp
  omega
theorem cut_to (ds : List Nat) (k : Nat) : cutV (ivs ds) none (some (k : Int)) = ivs (ds.take k) := by
  unfold cutV
  rw [HT.sIx_none, HT.sIx_nat, List.drop_zero, Nat.sub_zero, List.length_map, ← List.map_take]
  congr 1
  rw [List.take_eq_take_iff]
  omega
theorem cut_from (ds : List Nat) (k : Nat) : cutV (ivs ds) (some (k : Int)) none = ivs (ds.drop k) := by
  unfold cutV
  rw [HT.sIx_none, HT.sIx_nat, List.length_map, ← List.map_drop, ← List.map_take]
  congr 1
  rw [List.take_of_length_le (by rw [List.length_drop]; omega)]
  by_cases h : k ≤ ds.length
  · rw [Nat.min_eq_left h]
  · rw [Nat.min_eq_right (by omega), List.drop_length, List.drop_of_length_le (by omega)]
theorem cut_mid (ds : List Nat) (i j : Nat) (hj : j ≤ ds.length) : cutV (ivs ds) (some (i : Int)) (some (j : Int)) = ivs ((ds.drop i).take (j - i)) := by
  unfold cutV
  rw [HT.sIx_nat, HT.sIx_nat, List.length_map, ← List.map_drop, ← List.map_take]
  congr 1
  by_cases h : i ≤ ds.length
  · rw [Nat.min_eq_left h, Nat.min_eq_left hj]
  · have e : min i ds.length = ds.length := Nat.min_eq_right (by omega)
    rw [e, List.drop_length, List.drop_of_length_le (show ds.length ≤ i by omega)]
    simp
/-! ### a comprehension over a list that changes nothing but what it makes -/
theorem same_new {H : Hp} {D : Addr} {o : HO} (h : H D = none) : Same H (upd H D o) := fun b o' e => by
  rw [upd_ne (ne_of_none e h)]
  exact e
theorem same_upd {H H' : Hp} {D : Addr} {o : HO} (s : Same H H') (h : H D = none) : Same H (upd H' D o) := fun b o' e => by
  rw [upd_ne (ne_of_none e h)]
  exact s b o' e
theorem wipe_set (σ : L2.St) (j : Nat) (x : V) : wipe ((wipe σ [j]).set j (some x)) [j] = wipe σ [j] := by
  show (((σ.set j none).set j (some x)).set j none) = σ.set j none
  rw [List.set_set, List.set_set]
theorem lc_gen {K : PySem.W.Frag} {a D : Addr} {xs : List V} {tt : TT} {te : TE} {σ : L2.St} {j : Nat} {H1 : Hp} {Qd : Hp → Prop} (acc : Nat → List V) (hS : SqL K H1 a xs) (hD : H1 D = none) (h0 : acc 0 = []) (hlen : ∀ i, i ≤ xs.length → (acc i).length < sizeLine)
    (turn : ∀ i x H (Y : VK) (Nn : Hp → Prop), xs[i]? = some x → Same H1 H → (∀ y H4, Same H H4 → acc (i + 1) = acc i ++ [y] → Y y H4) → (∀ H3, Same H H3 → acc (i + 1) = acc i → Nn H3) →
      tt ((σ.set j none).set j (some x)) H fun b H3 => if b = true then te ((σ.set j none).set j (some x)) H3 Y else Nn H3)
    (done : ∀ H', Same H1 H' → H' D = some (.lst (acc xs.length)) → Qd H') :
    ∃ W : Nat → Nat → Hp → Prop, (∃ m, W 0 m (upd H1 D (.lst []))) ∧ ∀ i m H, W i m H → ((Itl K a).stop i H ∧ Qd H) ∨ ((Itl K a).go i H ∧ ∃ Nx : Hp → Prop, (∀ H', Nx H' → ∃ m', m' < m ∧ W (i + 1) m' H') ∧ ∀ x H', (Itl K a).yld i H x H' → gName j x (wipe σ [j]) H' fun σ2 H2 => wipe σ2 [j] = wipe σ [j] ∧ tt σ2 H2 fun b H3 => if b = true then te σ2 H3 fun y H4 => ∃ acc, H4 D = some (.lst acc) ∧ acc.length < sizeLine ∧ Nx (upd H4 D (.lst (acc ++ [y]))) else Nx H3) := by
  refine lc_list (xs := xs) (fun i H => Same H1 H ∧ H D = some (.lst (acc i))) ⟨same_new hD, by rw [h0]; exact upd_same⟩ (fun i H _ p => p.1.seq hS) ?_ (fun H p => done H p.1 p.2)
  intro i x H hx ⟨s, hd⟩
  have hi : i < xs.length := (List.getElem?_eq_some_iff.mp hx).1
  refine ⟨wipe_set σ j x, turn i x H _ _ hx s (fun y H4 s4 e => ?_) (fun H3 s3 e => ?_)⟩
  · refine ⟨acc i, s4 _ _ hd, hlen i (Nat.le_of_lt hi), same_upd (Same.trans s s4) hD, ?_⟩
    rw [e]
    exact upd_same
  · refine ⟨Same.trans s s3, ?_⟩
    rw [e]
    exact s3 _ _ hd
/-- .. without a test -/
theorem lc_map {K : PySem.W.Frag} {a D : Addr} {xs : List V} {te : TE} {σ : L2.St} {j : Nat} {H1 : Hp} {Qd : Hp → Prop} (acc : Nat → List V) (hS : SqL K H1 a xs) (hD : H1 D = none) (h0 : acc 0 = []) (hlen : ∀ i, i ≤ xs.length → (acc i).length < sizeLine)
    (turn : ∀ i x H (Y : VK), xs[i]? = some x → Same H1 H → (∀ y H4, Same H H4 → acc (i + 1) = acc i ++ [y] → Y y H4) → te ((σ.set j none).set j (some x)) H Y)
    (done : ∀ H', Same H1 H' → H' D = some (.lst (acc xs.length)) → Qd H') :
    ∃ W : Nat → Nat → Hp → Prop, (∃ m, W 0 m (upd H1 D (.lst []))) ∧ ∀ i m H, W i m H → ((Itl K a).stop i H ∧ Qd H) ∨ ((Itl K a).go i H ∧ ∃ Nx : Hp → Prop, (∀ H', Nx H' → ∃ m', m' < m ∧ W (i + 1) m' H') ∧ ∀ x H', (Itl K a).yld i H x H' → gName j x (wipe σ [j]) H' fun σ2 H2 => wipe σ2 [j] = wipe σ [j] ∧ tYes σ2 H2 fun b H3 => if b = true then te σ2 H3 fun y H4 => ∃ acc, H4 D = some (.lst acc) ∧ acc.length < sizeLine ∧ Nx (upd H4 D (.lst (acc ++ [y]))) else Nx H3) :=
  lc_gen acc hS hD h0 hlen (fun i x H Y Nn hx s f g => show (if true = true then te ((σ.set j none).set j (some x)) H Y else Nn H) from iteT (turn i x H Y hx s f)) done
/-! ### two lists side by side -/
inductive All2 {α β : Type} (R : α → β → Prop) : List α → List β → Prop
  | nil : All2 R [] []
  | cons {a : α} {b : β} {as : List α} {bs : List β} : R a b → All2 R as bs → All2 R (a :: as) (b :: bs)
namespace All2
variable {α β : Type} {R S : α → β → Prop}
theorem length : ∀ {as : List α} {bs : List β}, All2 R as bs → as.length = bs.length
  | _, _, .nil => rfl
  | _, _, .cons _ t => congrArg (· + 1) t.length
theorem imp (f : ∀ a b, R a b → S a b) : ∀ {as : List α} {bs : List β}, All2 R as bs → All2 S as bs
  | _, _, .nil => .nil
  | _, _, .cons h t => .cons (f _ _ h) (t.imp f)
theorem append : ∀ {as : List α} {bs : List β} {cs : List α} {ds : List β}, All2 R as bs → All2 R cs ds → All2 R (as ++ cs) (bs ++ ds)
  | _, _, _, _, .nil, h => h
  | _, _, _, _, .cons h t, u => .cons h (t.append u)
theorem snoc {as : List α} {bs : List β} {a : α} {b : β} (t : All2 R as bs) (h : R a b) : All2 R (as ++ [a]) (bs ++ [b]) := t.append (.cons h .nil)
theorem get : ∀ {as : List α} {bs : List β} {i : Nat} {a : α}, All2 R as bs → as[i]? = some a → ∃ b, bs[i]? = some b ∧ R a b
  | _, _, i, a, .nil, h => by simp at h
  | _, _, 0, a, .cons h t, e => by
    obtain rfl := Option.some.inj e
    exact ⟨_, rfl, h⟩
  | _, _, i + 1, a, .cons h t, e => t.get (i := i) e
theorem get2 : ∀ {as : List α} {bs : List β} {i : Nat} {b : β}, All2 R as bs → bs[i]? = some b → ∃ a, as[i]? = some a ∧ R a b
  | _, _, i, a, .nil, h => by simp at h
  | _, _, 0, a, .cons h t, e => by
    obtain rfl := Option.some.inj e
    exact ⟨_, rfl, h⟩
  | _, _, i + 1, a, .cons h t, e => t.get2 (i := i) e
theorem of_get : ∀ {as : List α} {bs : List β}, as.length = bs.length → (∀ (i : Nat) (a : α) (b : β), as[i]? = some a → bs[i]? = some b → R a b) → All2 R as bs
  | [], [], _, _ => .nil
  | [], _ :: _, h, _ => by simp at h
  | _ :: _, [], h, _ => by simp at h
  | a :: as, b :: bs, h, f => .cons (f 0 a b rfl rfl) (of_get (by simpa using h) fun i a b ha hb => f (i + 1) a b ha hb)
theorem set {as : List α} {bs : List β} {i : Nat} {a : α} {b : β} (t : All2 R as bs) (h : R a b) : All2 R (as.set i a) (bs.set i b) := by
  refine of_get (by rw [List.length_set, List.length_set]; exact t.length) fun j x y hx hy => ?_
  rw [List.getElem?_set] at hx hy
  by_cases c : i = j
  · rw [if_pos c] at hx hy
    by_cases l : j < as.length
    · have l2 : j < bs.length := by rw [← t.length]; exact l
      rw [if_pos (c ▸ l)] at hx
      rw [if_pos (c ▸ l2)] at hy
      cases hx
      cases hy
      exact h
    · rw [if_neg (c ▸ l)] at hx
      cases hx
  · rw [if_neg c] at hx hy
    obtain ⟨y', e, r⟩ := t.get hx
    rw [e] at hy
    cases hy
    exact r
end All2
theorem list_of {α : Type} {P : Nat → α → Prop} : ∀ n, (∀ i, i < n → ∃ v, P i v) → ∃ l : List α, l.length = n ∧ ∀ (i : Nat) v, l[i]? = some v → P i v
  | 0, _ => ⟨[], rfl, fun i v h => by simp at h⟩
  | n + 1, f => by
    obtain ⟨l, hl, q⟩ := list_of n fun i hi => f i (Nat.lt_succ_of_lt hi)
    obtain ⟨v, hv⟩ := f n (Nat.lt_succ_self n)
    refine ⟨l ++ [v], by rw [List.length_append, hl]; rfl, fun i w hw => ?_⟩
    rw [List.getElem?_append] at hw
    by_cases c : i < l.length
    · rw [if_pos c] at hw
      exact q i w hw
    · rw [if_neg c] at hw
      have e : i = n := by
        have := (List.getElem?_eq_some_iff.mp hw).1
        simp at this
        omega
      subst e
      rw [← hl, Nat.sub_self] at hw
      cases hw
      exact hv
theorem take_snoc {α : Type} {l : List α} {i : Nat} {x : α} (h : l[i]? = some x) : l.take (i + 1) = l.take i ++ [x] := by
  rw [List.take_add_one, h]
  rfl
/-! ### tests -/
theorem if_t {c : Bool} {A B : Prop} (hc : c = true) (h : A) : if c = true then A else B := by
  rw [if_pos hc]
  exact h
theorem if_f {c : Bool} {A B : Prop} (hc : c = false) (h : B) : if c = true then A else B := by
  rw [hc, if_neg Bool.false_ne_true]
  exact h
theorem if_b {c : Bool} {A B : Prop} (h1 : c = true → A) (h2 : c = false → B) : if c = true then A else B := by
  cases c with
  | true => exact if_t rfl (h1 rfl)
  | false => exact if_f rfl (h2 rfl)
theorem lk_here {k : Str} {v : V} {r : List (Str × V)} : List.lookup k ((k, v) :: r) = some v := by
  have e : (k == k) = true := beq_self_eq_true k
  simp only [List.lookup, e]
theorem lk_past {k g : Str} {v : V} {r : List (Str × V)} (h : (k == g) = false) : List.lookup k ((g, v) :: r) = List.lookup k r := by
  simp only [List.lookup, h]
theorem put_here {f : Str} {v x : V} {r : List (Str × V)} : putF f v ((f, x) :: r) = (f, v) :: r := if_pos rfl
theorem put_past {f g : Str} {v x : V} {r : List (Str × V)} (h : ¬ g = f) : putF f v ((g, x) :: r) = (g, x) :: putF f v r := if_neg h
theorem put_nil {f : Str} {v : V} : putF f v [] = [(f, v)] := rfl
end Tx
end
section
namespace Tx
open PySem PySem.Spec PyProof.Rows L2
/-! ### how an exchange lies in the heap -/
/-- where its parts lie; what is changed at times has a kind of its own, the rest is of kind 0 -/
structure Lay where
  ex : Addr
  ls : Addr
  gs : Addr
  pd : Addr
  cs : Addr
  rs : Addr
  line : List Addr
  hand : List Addr
  grp : List Addr
  call : List Addr
  recs : List Addr
  kind : Addr → Nat
  st : Nat → Nat
/-- digits, lines: a list that's never changed -/
def Dig (H : Hp) (L : Lay) (a : Addr) (d : List Nat) : Prop := H a = some (.lst (ivs d)) ∧ L.kind a = 0
def NumV (H : Hp) (L : Lay) (v : V) : Option (List Nat) → Prop
  | none => v = .non
  | some d => ∃ a, v = .ref a ∧ Dig H L a d
def optI : Option Nat → V
  | none => .non
  | some t => iv t
def lineF (st : Nat) (nv : V) (dl hd : Addr) (cv : V) (ow : Nat) : List (Str × V) := [("state", iv st), ("number", nv), ("dialed", .ref dl), ("hands", .ref hd), ("call", cv), ("owed", iv ow)]
def groupF (na ma : Addr) : List (Str × V) := [("number", .ref na), ("members", .ref ma)]
def callF (f t : Nat) (na : Addr) (hops since : Nat) (tv wv : V) : List (Str × V) := [("caller", iv f), ("called", iv t), ("number", .ref na), ("handed_on", iv hops), ("rings_since", iv since), ("talks_since", tv), ("way", wv)]
def exF (L : Lay) (h : Te.Hall) : List (Str × V) := [("lines_each", iv h.size.n), ("middles", iv h.size.m), ("lines", .ref L.ls), ("groups", .ref L.gs), ("prices", .ref L.pd), ("calls", .ref L.cs), ("records", .ref L.rs), ("moved", iv h.moved), ("time", iv h.now), ("wait", iv h.wait)]
structure LineAt (C : Cs) (H : Hp) (L : Lay) (h : Te.Hall) (sn : Nat) (i : Nat) (a hd : Addr) : Prop where
  ex : ∃ dx nv dl d0 a0 a1 a2 cv, H a = some (.ins C.c_Line dx (lineF sn nv dl hd cv (Te.lineOf h i).owes)) ∧ NumV H L nv (Te.lineOf h i).number ∧ Dig H L dl d0 ∧ (∀ d, (Te.lineOf h i).stage = .dials d → d0 = d) ∧
    H hd = some (.lst [.ref a0, .ref a1, .ref a2]) ∧ Dig H L a0 ((Te.lineOf h i).always.getD []) ∧ Dig H L a1 ((Te.lineOf h i).busy.getD []) ∧ Dig H L a2 ((Te.lineOf h i).late.getD []) ∧
    (∀ (k : Nat) c, (Te.lineOf h i).stage = .on → h.calls[k]? = some c → (c.from_ = i ∨ c.to_ = i) → ∃ b, L.call[k]? = some b ∧ cv = .ref b) ∧ (sn = 0 ∨ sn = 4 → cv = .non)
structure GroupAt (C : Cs) (H : Hp) (L : Lay) (a : Addr) (g : Te.Digits × List Nat) : Prop where
  ex : ∃ dx na ma, H a = some (.ins C.c_Group dx (groupF na ma)) ∧ Dig H L na g.1 ∧ Dig H L ma g.2
  kind : L.kind a = 0
structure CallAt (C : Cs) (H : Hp) (L : Lay) (a : Addr) (c : Te.Call_) (wv : V) : Prop where
  ex : ∃ dx na, H a = some (.ins C.c_Call dx (callF c.from_ c.to_ na c.hops c.since (optI c.begun) wv)) ∧ Dig H L na c.dialed
abbrev keyOf (d : List Nat) : List Key := d.map fun (n : Nat) => Sum.inl (n : Int)
structure Prices (kvs : List (List Key × V)) (ps : List (Te.Digits × Nat)) : Prop where
  len : kvs.length = ps.length
  at_ : ∀ d : List Nat, valV kvs (keyOf d) = (ps.find? fun p => p.1 == d).map fun p => iv p.2
/-- a call that's over, as it's kept -/
abbrev recN (r : Te.Record) : List Nat := [r.from_, r.to_, r.begun, r.ended, r.cents]
structure Recs (H : Hp) (L : Lay) (rs : List Te.Record) : Prop where
  at_ : H L.rs = some (.lst (L.recs.map V.ref))
  kind : L.kind L.rs = 9
  all : All2 (fun a r => Dig H L a (recN r)) L.recs rs
/-- (L.st: what each line's object says that it does) -/
structure Rep (C : Cs) (H : Hp) (L : Lay) (h : Te.Hall) : Prop where
  ex : ∃ dx, H L.ex = some (.ins C.c_Exchange dx (exF L h))
  ls : H L.ls = some (.lst (L.line.map V.ref))
  ll : L.line.length = h.lines.length
  hl : L.hand.length = h.lines.length
  lines : ∀ (i : Nat) a b, L.line[i]? = some a → L.hand[i]? = some b → LineAt C H L h (L.st i) i a b
  gs : H L.gs = some (.lst (L.grp.map V.ref))
  groups : All2 (GroupAt C H L) L.grp h.groups
  pd : ∃ kvs, H L.pd = some (.dT kvs) ∧ Prices kvs h.prices
  cs : H L.cs = some (.lst (L.call.map V.ref))
  cl : L.call.length = h.calls.length
  gl : h.legs.length = h.calls.length
  calls : ∀ (k : Nat) a c q, L.call[k]? = some a → h.calls[k]? = some c → h.legs[k]? = some q → CallAt C H L a c (iv q.mid)
  kex : L.kind L.ex = 1
  kls : L.kind L.ls = 2
  kgs : L.kind L.gs = 3
  kpd : L.kind L.pd = 4
  kcs : L.kind L.cs = 5
  kline : ∀ a ∈ L.line, L.kind a = 6
  khand : ∀ a ∈ L.hand, L.kind a = 7
  kcall : ∀ a ∈ L.call, L.kind a = 8
  ndl : L.line.Nodup
  ndh : L.hand.Nodup
  ndc : L.call.Nodup
  kfree : ∀ b, H b = none → L.kind b = 0
  rc : Recs H L h.records
/-- each line's object says what the line does -/
def Tells (L : Lay) (h : Te.Hall) : Prop := ∀ i, i < h.lines.length → L.st i = Te.stageNo h i
/-! ### nothing but new things -/
theorem Dig.same {H H' : Hp} {L : Lay} {a : Addr} {d : List Nat} (h : Dig H L a d) (s : Same H H') : Dig H' L a d := ⟨s _ _ h.1, h.2⟩
theorem Dig.sq {K : PySem.W.Frag} {H : Hp} {L : Lay} {a : Addr} {d : List Nat} (h : Dig H L a d) : SqL K H a (ivs d) := SqL.of h.1
theorem NumV.same {H H' : Hp} {L : Lay} {v : V} {o : Option (List Nat)} (h : NumV H L v o) (s : Same H H') : NumV H' L v o := by
  cases o with
  | none => exact h
  | some d =>
    obtain ⟨a, e, q⟩ := h
    exact ⟨a, e, q.same s⟩
theorem LineAt.same {C : Cs} {H H' : Hp} {L : Lay} {h : Te.Hall} {sn i : Nat} {a b : Addr} (q : LineAt C H L h sn i a b) (s : Same H H') : LineAt C H' L h sn i a b := by
  obtain ⟨dx, nv, dl, d0, a0, a1, a2, cv, h1, h2, h3, h4, h5, h6, h7, h8, h9⟩ := q.ex
  exact ⟨dx, nv, dl, d0, a0, a1, a2, cv, s _ _ h1, h2.same s, h3.same s, h4, s _ _ h5, h6.same s, h7.same s, h8.same s, h9⟩
theorem GroupAt.same {C : Cs} {H H' : Hp} {L : Lay} {a : Addr} {g : Te.Digits × List Nat} (q : GroupAt C H L a g) (s : Same H H') : GroupAt C H' L a g := by
  obtain ⟨dx, na, ma, h1, h2, h3⟩ := q.ex
  exact ⟨⟨dx, na, ma, s _ _ h1, h2.same s, h3.same s⟩, q.kind⟩
theorem CallAt.same {C : Cs} {H H' : Hp} {L : Lay} {a : Addr} {c : Te.Call_} {wv : V} (q : CallAt C H L a c wv) (s : Same H H') : CallAt C H' L a c wv := by
  obtain ⟨dx, na, h1, h2⟩ := q.ex
  exact ⟨dx, na, s _ _ h1, h2.same s⟩
theorem Recs.same {H H' : Hp} {L : Lay} {rs : List Te.Record} (q : Recs H L rs) (s : Same H H') : Recs H' L rs := ⟨s _ _ q.at_, q.kind, q.all.imp fun _ _ z => z.same s⟩
/-- the parts that are kept are the same in another heap, by other kinds -/
theorem Recs.move {H H' : Hp} {L L' : Lay} {rs : List Te.Record} (q : Recs H L rs) (e1 : L'.rs = L.rs) (e2 : L'.recs = L.recs) (h1 : H' L.rs = H L.rs) (h2 : L'.kind L.rs = 9) (dg : ∀ {a : Addr} {d : List Nat}, Dig H L a d → Dig H' L' a d) : Recs H' L' rs := ⟨by rw [e1, e2, h1]; exact q.at_, by rw [e1]; exact h2, by rw [e2]; exact q.all.imp fun _ _ z => dg z⟩
theorem Rep.same {C : Cs} {H H' : Hp} {L : Lay} {h : Te.Hall} (R : Rep C H L h) (s : Same H H') : Rep C H' L h := by
  obtain ⟨dx, hx⟩ := R.ex
  obtain ⟨kvs, hp, pp⟩ := R.pd
  exact ⟨⟨dx, s _ _ hx⟩, s _ _ R.ls, R.ll, R.hl, fun i a b ha hb => (R.lines i a b ha hb).same s, s _ _ R.gs, R.groups.imp fun _ _ q => q.same s, ⟨kvs, s _ _ hp, pp⟩, s _ _ R.cs, R.cl, R.gl,
    fun k a c q ha hc hq => (R.calls k a c q ha hc hq).same s, R.kex, R.kls, R.kgs, R.kpd, R.kcs, R.kline, R.khand, R.kcall, R.ndl, R.ndh, R.ndc, fun b hb => R.kfree b (s.free hb), R.rc.same s⟩
/-- what an exchange's parts are: of a kind of their own, or lists, or groups -/
theorem Rep.agree {C : Cs} {H H' : Hp} {L : Lay} {h : Te.Hall} (R : Rep C H L h) (ag : ∀ b o, H b = some o → L.kind b < 10 → (L.kind b ≠ 0 ∨ (∃ xs, o = .lst xs) ∨ ∃ dx na ma, o = .ins C.c_Group dx (groupF na ma)) → H' b = some o) (kf : ∀ b, H' b = none → L.kind b = 0) : Rep C H' L h := by
  have dg : ∀ {a : Addr} {d : List Nat}, Dig H L a d → Dig H' L a d := fun q => ⟨ag _ _ q.1 (by rw [q.2]; decide) (.inr (.inl ⟨_, rfl⟩)), q.2⟩
  have nm : ∀ {v : V} {o : Option (List Nat)}, NumV H L v o → NumV H' L v o := by
    intro v o q
    cases o with
    | none => exact q
    | some d =>
      obtain ⟨a, e, q⟩ := q
      exact ⟨a, e, dg q⟩
  obtain ⟨dx, hx⟩ := R.ex
  obtain ⟨kvs, hp, pp⟩ := R.pd
  refine ⟨⟨dx, ag _ _ hx (by rw [R.kex]; decide) (.inl (by rw [R.kex]; decide))⟩, ag _ _ R.ls (by rw [R.kls]; decide) (.inl (by rw [R.kls]; decide)), R.ll, R.hl, fun i a b ha hb => ?_, ag _ _ R.gs (by rw [R.kgs]; decide) (.inl (by rw [R.kgs]; decide)), R.groups.imp fun a g q => ?_, ⟨kvs, ag _ _ hp (by rw [R.kpd]; decide) (.inl (by rw [R.kpd]; decide)), pp⟩, ag _ _ R.cs (by rw [R.kcs]; decide) (.inl (by rw [R.kcs]; decide)), R.cl, R.gl,
    fun k a c q ha hc hq => ?_, R.kex, R.kls, R.kgs, R.kpd, R.kcs, R.kline, R.khand, R.kcall, R.ndl, R.ndh, R.ndc, kf, ⟨ag _ _ R.rc.at_ (by rw [R.rc.kind]; decide) (.inl (by rw [R.rc.kind]; decide)), R.rc.kind, R.rc.all.imp fun _ _ z => dg z⟩⟩
  · obtain ⟨dx, nv, dl, d0, a0, a1, a2, cv, h1, h2, h3, h4, h5, h6, h7, h8, h9⟩ := (R.lines i a b ha hb).ex
    exact ⟨dx, nv, dl, d0, a0, a1, a2, cv, ag _ _ h1 (by rw [R.kline a (List.mem_of_getElem? ha)]; decide) (.inl (by rw [R.kline a (List.mem_of_getElem? ha)]; decide)), nm h2, dg h3, h4, ag _ _ h5 (by rw [R.khand b (List.mem_of_getElem? hb)]; decide) (.inl (by rw [R.khand b (List.mem_of_getElem? hb)]; decide)), dg h6, dg h7, dg h8, h9⟩
  · obtain ⟨dx, na, ma, h1, h2, h3⟩ := q.ex
    exact ⟨⟨dx, na, ma, ag _ _ h1 (by rw [q.kind]; decide) (.inr (.inr ⟨dx, na, ma, rfl⟩)), dg h2, dg h3⟩, q.kind⟩
  · obtain ⟨dx, na, h1, h2⟩ := (R.calls k a c q ha hc hq).ex
    exact ⟨dx, na, ag _ _ h1 (by rw [R.kcall a (List.mem_of_getElem? ha)]; decide) (.inl (by rw [R.kcall a (List.mem_of_getElem? ha)]; decide)), dg h2⟩
/-- a call's object that isn't one of its parts is changed -/
theorem Rep.upd_out {C : Cs} {H : Hp} {L : Lay} {h : Te.Hall} (R : Rep C H L h) {c dx : Addr} {f t : Nat} {na : Addr} {hops since : Nat} {tv wv : V} {o : HO} (hc : H c = some (.ins C.c_Call dx (callF f t na hops since tv wv))) (kc : L.kind c = 0) : Rep C (upd H c o) L h := by
  refine R.agree (fun b o' hb _ q => ?_) (fun b hb => ?_)
  · rw [upd_ne (show b ≠ c from fun e => ?_)]
    · exact hb
    · subst e
      rw [hc] at hb
      cases hb
      rcases q with q | ⟨xs, q⟩ | ⟨_, _, _, q⟩
      · exact q kc
      · cases q
      · injection q with q1 q2 q3
        unfold callF groupF at q3
        simp at q3
  · by_cases e : b = c
    · exact e ▸ kc
    · rw [upd_ne e] at hb
      exact R.kfree b hb
/-- what is of no kind of its parts is changed -/
theorem Rep.far {C : Cs} {H : Hp} {L : Lay} {h : Te.Hall} (R : Rep C H L h) {g : Addr} {o : HO} (kg : 10 ≤ L.kind g) : Rep C (upd H g o) L h := by
  refine R.agree (fun b o' hb k _ => ?_) (fun b hb => ?_)
  · rw [upd_ne (show b ≠ g from fun e => ?_)]
    · exact hb
    · subst e
      omega
  · by_cases e : b = g
    · subst e
      rw [upd_same] at hb
      cases hb
    · rw [upd_ne e] at hb
      exact R.kfree b hb
/-! ### reading -/
theorem exF_n (L : Lay) (h : Te.Hall) : (exF L h).lookup ("lines_each" : Str) = some (iv h.size.n) := lk_here
theorem exF_m (L : Lay) (h : Te.Hall) : (exF L h).lookup ("middles" : Str) = some (iv h.size.m) := by
  unfold exF
  rw [lk_past (by decide +kernel)]
  exact lk_here
theorem exF_lines (L : Lay) (h : Te.Hall) : (exF L h).lookup ("lines" : Str) = some (.ref L.ls) := by
  unfold exF
  rw [lk_past (by decide +kernel), lk_past (by decide +kernel)]
  exact lk_here
theorem exF_groups (L : Lay) (h : Te.Hall) : (exF L h).lookup ("groups" : Str) = some (.ref L.gs) := by
  unfold exF
  rw [lk_past (by decide +kernel), lk_past (by decide +kernel), lk_past (by decide +kernel)]
  exact lk_here
theorem exF_prices (L : Lay) (h : Te.Hall) : (exF L h).lookup ("prices" : Str) = some (.ref L.pd) := by
  unfold exF
  rw [lk_past (by decide +kernel), lk_past (by decide +kernel), lk_past (by decide +kernel), lk_past (by decide +kernel)]
  exact lk_here
theorem exF_calls (L : Lay) (h : Te.Hall) : (exF L h).lookup ("calls" : Str) = some (.ref L.cs) := by
  unfold exF
  rw [lk_past (by decide +kernel), lk_past (by decide +kernel), lk_past (by decide +kernel), lk_past (by decide +kernel), lk_past (by decide +kernel)]
  exact lk_here
theorem lineF_number {st : Nat} {nv : V} {dl hd : Addr} {cv : V} {ow : Nat} : (lineF st nv dl hd cv ow).lookup ("number" : Str) = some nv := by
  unfold lineF
  rw [lk_past (by decide +kernel)]
  exact lk_here
theorem lineF_state {st : Nat} {nv : V} {dl hd : Addr} {cv : V} {ow : Nat} : (lineF st nv dl hd cv ow).lookup ("state" : Str) = some (iv st) := lk_here
theorem groupF_number {na ma : Addr} : (groupF na ma).lookup ("number" : Str) = some (.ref na) := lk_here
theorem groupF_members {na ma : Addr} : (groupF na ma).lookup ("members" : Str) = some (.ref ma) := by
  unfold groupF
  rw [lk_past (by decide +kernel)]
  exact lk_here
theorem exF_records (L : Lay) (h : Te.Hall) : (exF L h).lookup ("records" : Str) = some (.ref L.rs) := by
  unfold exF
  rw [lk_past (by decide +kernel), lk_past (by decide +kernel), lk_past (by decide +kernel), lk_past (by decide +kernel), lk_past (by decide +kernel), lk_past (by decide +kernel)]
  exact lk_here
theorem exF_moved (L : Lay) (h : Te.Hall) : (exF L h).lookup ("moved" : Str) = some (iv h.moved) := by
  unfold exF
  rw [lk_past (by decide +kernel), lk_past (by decide +kernel), lk_past (by decide +kernel), lk_past (by decide +kernel), lk_past (by decide +kernel), lk_past (by decide +kernel), lk_past (by decide +kernel)]
  exact lk_here
theorem exF_time (L : Lay) (h : Te.Hall) : (exF L h).lookup ("time" : Str) = some (iv h.now) := by
  unfold exF
  rw [lk_past (by decide +kernel), lk_past (by decide +kernel), lk_past (by decide +kernel), lk_past (by decide +kernel), lk_past (by decide +kernel), lk_past (by decide +kernel), lk_past (by decide +kernel), lk_past (by decide +kernel)]
  exact lk_here
theorem exF_wait (L : Lay) (h : Te.Hall) : (exF L h).lookup ("wait" : Str) = some (iv h.wait) := by
  unfold exF
  rw [lk_past (by decide +kernel), lk_past (by decide +kernel), lk_past (by decide +kernel), lk_past (by decide +kernel), lk_past (by decide +kernel), lk_past (by decide +kernel), lk_past (by decide +kernel), lk_past (by decide +kernel), lk_past (by decide +kernel)]
  exact lk_here
theorem lineF_dialed {st : Nat} {nv : V} {dl hd : Addr} {cv : V} {ow : Nat} : (lineF st nv dl hd cv ow).lookup ("dialed" : Str) = some (.ref dl) := by
  unfold lineF
  rw [lk_past (by decide +kernel), lk_past (by decide +kernel)]
  exact lk_here
theorem lineF_hands {st : Nat} {nv : V} {dl hd : Addr} {cv : V} {ow : Nat} : (lineF st nv dl hd cv ow).lookup ("hands" : Str) = some (.ref hd) := by
  unfold lineF
  rw [lk_past (by decide +kernel), lk_past (by decide +kernel), lk_past (by decide +kernel)]
  exact lk_here
theorem lineF_call {st : Nat} {nv : V} {dl hd : Addr} {cv : V} {ow : Nat} : (lineF st nv dl hd cv ow).lookup ("call" : Str) = some cv := by
  unfold lineF
  rw [lk_past (by decide +kernel), lk_past (by decide +kernel), lk_past (by decide +kernel), lk_past (by decide +kernel)]
  exact lk_here
theorem lineF_owed {st : Nat} {nv : V} {dl hd : Addr} {cv : V} {ow : Nat} : (lineF st nv dl hd cv ow).lookup ("owed" : Str) = some (iv ow) := by
  unfold lineF
  rw [lk_past (by decide +kernel), lk_past (by decide +kernel), lk_past (by decide +kernel), lk_past (by decide +kernel), lk_past (by decide +kernel)]
  exact lk_here
section
variable {f t : Nat} {na : Addr} {hops since : Nat} {tv wv : V}
theorem callF_caller : (callF f t na hops since tv wv).lookup ("caller" : Str) = some (iv f) := lk_here
theorem callF_called : (callF f t na hops since tv wv).lookup ("called" : Str) = some (iv t) := by
  unfold callF
  rw [lk_past (by decide +kernel)]
  exact lk_here
theorem callF_number : (callF f t na hops since tv wv).lookup ("number" : Str) = some (.ref na) := by
  unfold callF
  rw [lk_past (by decide +kernel), lk_past (by decide +kernel)]
  exact lk_here
theorem callF_handed : (callF f t na hops since tv wv).lookup ("handed_on" : Str) = some (iv hops) := by
  unfold callF
  rw [lk_past (by decide +kernel), lk_past (by decide +kernel), lk_past (by decide +kernel)]
  exact lk_here
theorem callF_rings : (callF f t na hops since tv wv).lookup ("rings_since" : Str) = some (iv since) := by
  unfold callF
  rw [lk_past (by decide +kernel), lk_past (by decide +kernel), lk_past (by decide +kernel), lk_past (by decide +kernel)]
  exact lk_here
theorem callF_talks : (callF f t na hops since tv wv).lookup ("talks_since" : Str) = some tv := by
  unfold callF
  rw [lk_past (by decide +kernel), lk_past (by decide +kernel), lk_past (by decide +kernel), lk_past (by decide +kernel), lk_past (by decide +kernel)]
  exact lk_here
theorem callF_way : (callF f t na hops since tv wv).lookup ("way" : Str) = some wv := by
  unfold callF
  rw [lk_past (by decide +kernel), lk_past (by decide +kernel), lk_past (by decide +kernel), lk_past (by decide +kernel), lk_past (by decide +kernel), lk_past (by decide +kernel)]
  exact lk_here
theorem callF_putWay (v : V) : putF "way" v (callF f t na hops since tv wv) = callF f t na hops since tv v := by
  unfold callF
  rw [put_past (by decide +kernel), put_past (by decide +kernel), put_past (by decide +kernel), put_past (by decide +kernel), put_past (by decide +kernel), put_past (by decide +kernel), put_here]
theorem callF_putTalks (v : V) : putF "talks_since" v (callF f t na hops since tv wv) = callF f t na hops since v wv := by
  unfold callF
  rw [put_past (by decide +kernel), put_past (by decide +kernel), put_past (by decide +kernel), put_past (by decide +kernel), put_past (by decide +kernel), put_here]
end
section
variable {st : Nat} {nv : V} {dl hd : Addr} {cv : V} {ow : Nat}
theorem lineF_putState (n : Nat) : putF "state" (iv n) (lineF st nv dl hd cv ow) = lineF n nv dl hd cv ow := put_here
theorem lineF_putNumber (v : V) : putF "number" v (lineF st nv dl hd cv ow) = lineF st v dl hd cv ow := by
  unfold lineF
  rw [put_past (by decide +kernel), put_here]
theorem lineF_putDialed (b : Addr) : putF "dialed" (.ref b) (lineF st nv dl hd cv ow) = lineF st nv b hd cv ow := by
  unfold lineF
  rw [put_past (by decide +kernel), put_past (by decide +kernel), put_here]
theorem lineF_putCall (v : V) : putF "call" v (lineF st nv dl hd cv ow) = lineF st nv dl hd v ow := by
  unfold lineF
  rw [put_past (by decide +kernel), put_past (by decide +kernel), put_past (by decide +kernel), put_past (by decide +kernel), put_here]
end
theorem lineF_putOwed {st : Nat} {nv : V} {dl hd : Addr} {cv : V} {ow : Nat} (n : Nat) : putF "owed" (iv n) (lineF st nv dl hd cv ow) = lineF st nv dl hd cv n := by
  unfold lineF
  rw [put_past (by decide +kernel), put_past (by decide +kernel), put_past (by decide +kernel), put_past (by decide +kernel), put_past (by decide +kernel), put_here]
/-! ### one object is changed, of a kind that is changed at times -/
section
variable {C : Cs} {H : Hp} {L : Lay} {b : Addr} {o : HO}
theorem Dig.upd {a : Addr} {d : List Nat} (h : Dig H L a d) (hb : L.kind b ≠ 0) : Dig (upd H b o) L a d := ⟨by rw [upd_ne (show a ≠ b from fun e => hb (e ▸ h.2))]; exact h.1, h.2⟩
theorem NumV.upd {v : V} {x : Option (List Nat)} (h : NumV H L v x) (hb : L.kind b ≠ 0) : NumV (upd H b o) L v x := by
  cases x with
  | none => exact h
  | some d =>
    obtain ⟨a, e, q⟩ := h
    exact ⟨a, e, q.upd hb⟩
theorem GroupAt.upd {a : Addr} {g : Te.Digits × List Nat} (q : GroupAt C H L a g) (hb : L.kind b ≠ 0) : GroupAt C (upd H b o) L a g := by
  obtain ⟨dx, na, ma, h1, h2, h3⟩ := q.ex
  exact ⟨⟨dx, na, ma, by rw [upd_ne (show a ≠ b from fun e => hb (e ▸ q.kind))]; exact h1, h2.upd hb, h3.upd hb⟩, q.kind⟩
theorem CallAt.upd {a : Addr} {c : Te.Call_} {wv : V} (q : CallAt C H L a c wv) (hb : L.kind b ≠ 0) (ne : a ≠ b) : CallAt C (upd H b o) L a c wv := by
  obtain ⟨dx, na, h1, h2⟩ := q.ex
  exact ⟨dx, na, by rw [upd_ne ne]; exact h1, h2.upd hb⟩
theorem LineAt.upd {h : Te.Hall} {sn i : Nat} {a hd : Addr} (q : LineAt C H L h sn i a hd) (hb : L.kind b ≠ 0) (n1 : a ≠ b) (n2 : hd ≠ b) : LineAt C (upd H b o) L h sn i a hd := by
  obtain ⟨dx, nv, dl, d0, a0, a1, a2, cv, h1, h2, h3, h4, h5, h6, h7, h8, h9⟩ := q.ex
  exact ⟨dx, nv, dl, d0, a0, a1, a2, cv, by rw [upd_ne n1]; exact h1, h2.upd hb, h3.upd hb, h4, by rw [upd_ne n2]; exact h5, h6.upd hb, h7.upd hb, h8.upd hb, h9⟩
theorem Recs.upd {rs : List Te.Record} (q : Recs H L rs) (hb : L.kind b ≠ 0) (ne : L.kind b ≠ 9) : Recs (upd H b o) L rs := ⟨by rw [upd_ne (show L.rs ≠ b from fun e => ne (e ▸ q.kind))]; exact q.at_, q.kind, q.all.imp fun _ _ z => z.upd hb⟩
theorem Lay.ne {L : Lay} {a b : Addr} {i j : Nat} (ha : L.kind a = i) (hb : L.kind b = j) (h : i ≠ j) : a ≠ b := fun e => h (by rw [← ha, ← hb, e])
end
/-- a call's way is changed -/
theorem Rep.setWay {C : Cs} {H : Hp} {L : Lay} {h : Te.Hall} (R : Rep C H L h) {p k : Nat} {b dx na : Addr} {x : Te.Leg} {c : Te.Call_} (hb : L.call[p]? = some b) (hc : h.calls[p]? = some c) (hx : h.legs[p]? = some x) (ho : H b = some (.ins C.c_Call dx (callF c.from_ c.to_ na c.hops c.since (optI c.begun) (iv x.mid)))) (hn : Dig H L na c.dialed) :
    Rep C (upd H b (.ins C.c_Call dx (callF c.from_ c.to_ na c.hops c.since (optI c.begun) (iv k)))) L { h with legs := h.legs.set p { x with mid := k } } := by
  have kb : L.kind b = 8 := R.kcall b (List.mem_of_getElem? hb)
  have k0 : L.kind b ≠ 0 := by rw [kb]; decide
  obtain ⟨dxe, hxe⟩ := R.ex
  obtain ⟨kvs, hp, pp⟩ := R.pd
  have ne : ∀ {a : Addr} {i : Nat}, L.kind a = i → i ≠ 8 → a ≠ b := fun ha hi => Lay.ne ha kb hi
  refine ⟨⟨dxe, ?_⟩, ?_, R.ll, R.hl, fun i a d ha hd => ?_, ?_, R.groups.imp fun a g q => q.upd k0, ⟨kvs, ?_, pp⟩, ?_, R.cl, ?_, fun j a c' q ha hc' hq => ?_, R.kex, R.kls, R.kgs, R.kpd, R.kcs, R.kline, R.khand, R.kcall, R.ndl, R.ndh, R.ndc, fun a ha => ?_, R.rc.upd k0 (by rw [kb]; decide)⟩
  · rw [upd_ne (ne R.kex (by decide))]
    exact hxe
  · rw [upd_ne (ne R.kls (by decide))]
    exact R.ls
  · have q := (R.lines i a d ha hd).upd (o := .ins C.c_Call dx (callF c.from_ c.to_ na c.hops c.since (optI c.begun) (iv k))) k0 (ne (R.kline a (List.mem_of_getElem? ha)) (by decide)) (ne (R.khand d (List.mem_of_getElem? hd)) (by decide))
    exact ⟨q.ex⟩
  · rw [upd_ne (ne R.kgs (by decide))]
    exact R.gs
  · rw [upd_ne (ne R.kpd (by decide))]
    exact hp
  · rw [upd_ne (ne R.kcs (by decide))]
    exact R.cs
  · show (h.legs.set p _).length = _
    rw [List.length_set]
    exact R.gl
  · have hq : (h.legs.set p { x with mid := k })[j]? = some q := hq
    rw [List.getElem?_set] at hq
    by_cases e : p = j
    · subst e
      rw [if_pos rfl, if_pos (List.getElem?_eq_some_iff.mp hx).1] at hq
      cases hq
      rw [hb] at ha
      cases ha
      have hc' : h.calls[p]? = some c' := hc'
      rw [hc] at hc'
      cases hc'
      exact ⟨dx, na, upd_same, hn.upd k0⟩
    · rw [if_neg e] at hq
      refine (R.calls j a c' q ha hc' hq).upd k0 fun e2 => e ?_
      subst e2
      exact nd_ix R.ndc hb ha
  · by_cases e : a = b
    · subst e
      rw [upd_same] at ha
      cases ha
    · rw [upd_ne e] at ha
      exact R.kfree a ha
/-- what a def leaves as it was: all that's of kind 0, or 10 -/
structure Stp (H : Hp) (L : Lay) (H' : Hp) (L' : Lay) : Prop where
  keep : ∀ b o, H b = some o → L.kind b % 10 = 0 → H' b = some o ∧ L'.kind b = L.kind b
  ex : L'.ex = L.ex
  line : L'.line = L.line
theorem Stp.refl (H : Hp) (L : Lay) : Stp H L H L := ⟨fun _ _ h _ => ⟨h, rfl⟩, rfl, rfl⟩
theorem Stp.trans {H H1 H2 : Hp} {L L1 L2 : Lay} (a : Stp H L H1 L1) (b : Stp H1 L1 H2 L2) : Stp H L H2 L2 := by
  refine ⟨fun c o h k => ?_, b.ex.trans a.ex, b.line.trans a.line⟩
  obtain ⟨h1, k1⟩ := a.keep c o h k
  obtain ⟨h2, k2⟩ := b.keep c o h1 (by rw [k1]; exact k)
  exact ⟨h2, k2.trans k1⟩
theorem Stp.of_same {H H' : Hp} (L : Lay) (s : Same H H') : Stp H L H' L := ⟨fun b o h _ => ⟨s b o h, rfl⟩, rfl, rfl⟩
theorem Stp.upd {H : Hp} {L : Lay} {b : Addr} {o : HO} (hb : L.kind b % 10 ≠ 0) : Stp H L (upd H b o) L := ⟨fun c o' h k => ⟨by rw [upd_ne (show c ≠ b from fun e => hb (e ▸ k))]; exact h, rfl⟩, rfl, rfl⟩
theorem Stp.dig {H H' : Hp} {L L' : Lay} {a : Addr} {d : List Nat} (s : Stp H L H' L') (h : Dig H L a d) : Dig H' L' a d := by
  obtain ⟨h1, k1⟩ := s.keep _ _ h.1 (by rw [h.2])
  exact ⟨h1, k1.trans h.2⟩
theorem m10 {n : Nat} (h : n % 10 ≠ 0) : n ≠ 0 := fun e => h (by rw [e])
end Tx
end
section
namespace Tx
open PySem PySem.Spec PyProof.Rows L2
section
variable {P : Program} {w : World} {K : PySem.W.Frag} {mg : Str → Option Value} {base : Heap} {C : Cs}
/-! ### digits -/
def sp_are_digits (K : PySem.W.Frag) (C : Cs) : Sp := fun vs H Q _ => ∃ (a : Addr) (ds : List Nat), vs = [.ref a] ∧ SqL K H a (ivs ds) ∧ ds.length ≤ 1000 ∧ ∀ H', Same H H' → Q (.bl (Te.isDigits ds)) H'
theorem cal_are_digits (T : Txt K mg C) : Cal P w K mg base 1 "are_digits" (sp_are_digits K C) := by
  refine T.d_are_digits.cal sc_are_digits (fun vs H Q E h => ?_) (fun f cdv A outer s H vs Q E hr h => ⟨_, (pss_one (ps_ret (pe_and (pe_cmpR op_le (pe_callB call_len_seq (by rfl) T.n_len PySem.boot_len (pa_cons (pv 0) pa_nil)) (pe_gi rfl T.k_MOST_DIGITS) (nomark _)) (pe_one (pe_callB (cr_all rfl) (by rfl) T.n_all boot_all (pa_cons (pe_lc (own := [("digit", 1)]) (g := (gName 1)) (tt := tYes) (te := (tOp (rI0 fun i j => .bl (decide (i ≤ j))) (tVar 1) (tC (.int (9))))) rfl sc_are_digits.nd (pi_list (pv 0)) (blkOk_by (N := ["row", "digit"]) (sc := defScope s_are_digits) (by decide +kernel)) (fun _ _ _ _ _ => (pg_name (i := 1) sc_are_digits.nd rfl (Or.inl rfl))) (fun _ _ _ _ _ => pts_nil) (fun _ _ _ _ _ => (pe_cmpR op_le (pv 1) (pe_gi rfl T.k_TOP_DIGIT) (nomark _)))) pa_nil)))))), ?_⟩)
  · obtain ⟨a, ds, rfl, _⟩ := h
    rfl
  obtain ⟨a, ds, rfl, hS, hl, k⟩ := h
  refine ⟨_, rfl, a, _, rfl, .inl hS, _, _, rfl, rfl, _, rfl, ?_⟩
  have hm : (ds.map iv).length = ds.length := List.length_map _
  rw [hm]
  have e1 : decide ((ds.length : Int) ≤ 8) = decide (ds.length ≤ 8) := by
    rw [decide_eq_decide]
    omega
  rw [e1]
  by_cases c : ds.length ≤ 8
  · refine if_t (decide_eq_true c) ?_
    refine ⟨_, rfl, a, rfl, ⟨_, hS⟩, fun D hD => lc_map (acc := fun i => (ds.take i).map fun d => V.bl (decide (d < 10))) hS hD rfl (fun i hi => ?_) (fun i x H' Y hx s' f => ?_) ?_⟩
    · rw [List.length_map, List.length_take]
      exact Nat.lt_of_le_of_lt (Nat.le_trans (Nat.min_le_right _ _) hl) (by decide)
    · obtain ⟨d, hd, rfl⟩ := ivs_get hx
      refine ⟨_, rfl, _, _, rfl, rfl, f _ _ (Same.refl _) ?_⟩
      rw [take_snoc hd, List.map_append]
      have e : decide ((d : Int) ≤ 9) = decide (d < 10) := by
        rw [decide_eq_decide]
        omega
      show _ ++ [V.bl (decide (d < 10))] = _ ++ [V.bl (decide ((d : Int) ≤ 9))]
      rw [e]
    · intro H' s' hD'
      rw [hm, List.take_length] at hD'
      refine ⟨D, ds.map fun d => decide (d < 10), rfl, ?_, ?_⟩
      · refine SqL.of ?_
        rw [hD', List.map_map]
        rfl
      · have e : Te.isDigits ds = (ds.map fun d => decide (d < 10)).all id := by
          unfold Te.isDigits
          have c8 : ds.length ≤ Te.LONG := c
          rw [decide_eq_true c8, List.all_map]
          rfl
        rw [← e]
        exact k H' s'
  · refine if_f (decide_eq_false c) ?_
    have e : Te.isDigits ds = false := by
      unfold Te.isDigits
      have c8 : ¬ ds.length ≤ Te.LONG := c
      rw [decide_eq_false c8]
      rfl
    rw [← e]
    exact k H (Same.refl H)
def sp_is_number (K : PySem.W.Frag) (C : Cs) : Sp := fun vs H Q _ => ∃ (a : Addr) (ds : List Nat), vs = [.ref a] ∧ SqL K H a (ivs ds) ∧ ds.length ≤ 1000 ∧ ∀ H', Same H H' → Q (.bl (Te.isNumber ds)) H'
theorem cal_is_number (T : Txt K mg C) : Cal P w K mg base 2 "is_number" (sp_is_number K C) := by
  refine T.d_is_number.cal sc_is_number (fun vs H Q E h => ?_) (fun f cdv A outer s H vs Q E hr h => ⟨_, (pss_one (ps_ret (pe_and (pe_cmpR op_gt (pe_callB call_len_seq (by rfl) T.n_len PySem.boot_len (pa_cons (pv 0) pa_nil)) pe_int (nomark _)) (pe_one (pe_c (cal_are_digits T) hr (by decide) rfl (pa_cons (pv 0) pa_nil)))))), ?_⟩)
  · obtain ⟨a, ds, rfl, _⟩ := h
    rfl
  obtain ⟨a, ds, rfl, hS, hl, k⟩ := h
  refine ⟨_, rfl, a, _, rfl, .inl hS, _, _, rfl, rfl, _, rfl, ?_⟩
  have hm : (ds.map iv).length = ds.length := List.length_map _
  rw [hm]
  by_cases c : ds = []
  · subst c
    exact if_f rfl (k H (Same.refl H))
  · have c0 : 0 < ds.length := List.length_pos_iff.mpr c
    refine if_t (decide_eq_true (by omega)) ⟨_, rfl, a, ds, rfl, hS, hl, fun H' s' => ?_⟩
    have e : Te.isNumber ds = Te.isDigits ds := by
      unfold Te.isNumber
      cases ds with
      | nil => exact absurd rfl c
      | cons x r => rfl
    rw [← e]
    exact k H' s'
theorem prefix_take (s r : List Nat) : decide (r.take s.length = s) = s.isPrefixOf r := by
  rw [Bool.eq_iff_iff, decide_eq_true_eq, List.isPrefixOf_iff_prefix, List.prefix_iff_eq_take]
  exact ⟨Eq.symm, Eq.symm⟩
def sp_begins (K : PySem.W.Frag) (C : Cs) : Sp := fun vs H Q _ => ∃ (a b : Addr) (s r : List Nat), vs = [.ref a, .ref b] ∧ SqL K H a (ivs s) ∧ SqL K H b (ivs r) ∧ ∀ H', Same H H' → Q (.bl (s.isPrefixOf r)) H'
theorem cal_begins (T : Txt K mg C) : Cal P w K mg base 1 "begins" (sp_begins K C) := by
  refine T.d_begins.cal sc_begins (fun vs H Q E h => ?_) (fun f cdv A outer s H vs Q E hr h => ⟨_, (pss_one (ps_ret (pe_cmpR (op_eqD (hu64 hr)) (pe_slice sl_list (pv 1) po_none (po_some (pe_callB call_len_seq (by rfl) T.n_len PySem.boot_len (pa_cons (pv 0) pa_nil)))) (pv 0) (nomark _)))), ?_⟩)
  · obtain ⟨a, b, _, _, rfl, _⟩ := h
    rfl
  obtain ⟨a, b, s, r, rfl, ha, hb, k⟩ := h
  refine ⟨_, rfl, _, rfl, a, _, rfl, .inl ha, _, rfl, b, _, rfl, hb, fun p hp => ?_⟩
  have sm : Same H (upd H p (.lst (cutV (ivs r) none (some ((ivs s).length : Nat))))) := same_new hp
  have hm : (ivs s).length = s.length := List.length_map _
  rw [hm, cut_to] at sm ⊢
  refine ⟨_, rfl, _, _, dp_ints (SqL.of upd_same), dp_ints (sm.seq ha), shaped_ints _, shaped_ints _, ?_⟩
  rw [eqv_ints, prefix_take]
  exact k _ sm
/-! ### the numbers that there are -/
def ValD (H : Hp) (L : Lay) (v : V) (d : List Nat) : Prop := ∃ a, v = .ref a ∧ Dig H L a d
theorem ValD.same {H H' : Hp} {L : Lay} {v : V} {d : List Nat} (h : ValD H L v d) (s : Same H H') : ValD H' L v d := by
  obtain ⟨a, e, q⟩ := h
  exact ⟨a, e, q.same s⟩
def isN (v : V) : Bool := !decide (v = .non)
theorem lines_num {H : Hp} {L : Lay} : ∀ {nvs : List V} {ls : List Te.Line}, nvs.length = ls.length → (∀ (i : Nat) v l, nvs[i]? = some v → ls[i]? = some l → NumV H L v l.number) → All2 (ValD H L) (nvs.filter isN) (ls.filterMap fun (l : Te.Line) => l.number)
  | [], [], _, _ => .nil
  | [], _ :: _, h, _ => by simp at h
  | _ :: _, [], h, _ => by simp at h
  | v :: nvs, l :: ls, h, f => by
    have ih := lines_num (nvs := nvs) (ls := ls) (by simpa using h) fun i v l hv hl => f (i + 1) v l hv hl
    have h0 := f 0 v l rfl rfl
    cases e : l.number with
    | none =>
      rw [e] at h0
      have e1 : v = .non := h0
      rw [List.filterMap_cons_none e, List.filter_cons_of_neg (by rw [e1]; simp [isN])]
      exact ih
    | some d =>
      rw [e] at h0
      obtain ⟨a, e1, q⟩ := h0
      rw [List.filterMap_cons_some e, List.filter_cons_of_pos (by rw [e1]; simp [isN])]
      exact .cons ⟨a, e1, q⟩ ih
theorem Base.lines64 {h : Te.Hall} (B : Base h) : h.lines.length ≤ 64 := by
  rw [B.len]
  exact Nat.mul_le_mul B.size.n8 B.size.r8
theorem lineOf_get {h : Te.Hall} {i : Nat} {l : Te.Line} (e : h.lines[i]? = some l) : Te.lineOf h i = l := by
  unfold Te.lineOf
  rw [List.getD_eq_getElem?_getD, e]
  rfl
/-- the line's object, by its place -/
theorem Rep.lineAt {H : Hp} {L : Lay} {h : Te.Hall} (R : Rep C H L h) {i : Nat} (hi : i < h.lines.length) : ∃ a b, L.line[i]? = some a ∧ L.hand[i]? = some b ∧ LineAt C H L h (L.st i) i a b := by
  have h1 : i < L.line.length := by rw [R.ll]; exact hi
  have h2 : i < L.hand.length := by rw [R.hl]; exact hi
  exact ⟨_, _, List.getElem?_eq_getElem h1, List.getElem?_eq_getElem h2, R.lines i _ _ (List.getElem?_eq_getElem h1) (List.getElem?_eq_getElem h2)⟩
theorem refs_get {as : List Addr} {i : Nat} {x : V} (h : (as.map V.ref)[i]? = some x) : ∃ a, as[i]? = some a ∧ x = .ref a := by
  rw [List.getElem?_map] at h
  cases e : as[i]? with
  | none => rw [e] at h; cases h
  | some d => rw [e] at h; exact ⟨d, rfl, (Option.some.inj h).symm⟩
def sp_numbers_there (K : PySem.W.Frag) (C : Cs) : Sp := fun vs H Q _ => ∃ (L : Lay) (h : Te.Hall), vs = [.ref L.ex] ∧ Rep C H L h ∧ Base h ∧ ∀ H' p us, Same H H' → H' p = some (.lst us) → All2 (ValD H' L) us (Te.numbers h) → Q (.ref p) H'
theorem cal_numbers_there (T : Txt K mg C) : Cal P w K mg base 1 "numbers_there" (sp_numbers_there K C) := by
  refine T.d_numbers_there.cal sc_numbers_there (fun vs H Q E h => ?_) (fun f cdv A outer s H vs Q E hr h => ⟨_, (pss_cons (ps_setLc (i := 1) (own := [("line", 2)]) (g := (gName 2)) (tt := (tB (tNotN (tFld K (tVar 2) "number")))) (te := (tFld K (tVar 2) "number")) rfl sc_numbers_there.nd rfl rfl (sw_true rfl rfl rfl (by decide +kernel)) (pi_list (pe_fld (pv 0) rfl)) (blkOk_by (N := ["exchange", "of_lines", "line", "group"]) (sc := defScope s_numbers_there) (by decide +kernel)) (fun _ _ _ _ _ => (pg_name (i := 2) sc_numbers_there.nd rfl (Or.inl rfl))) (fun _ _ _ _ _ => (pts_one (pt_cmp (pc_notN (pe_fld (pv 2) rfl))))) (fun _ _ _ _ _ => (pe_fld (pv 2) rfl)))
    (pss_one (ps_ret (pe_op op_cat (pv 1) (pe_lc (own := [("group", 3)]) (g := (gName 3)) (tt := tYes) (te := (tFld K (tVar 3) "number")) rfl sc_numbers_there.nd (pi_list (pe_fld (pv 0) rfl)) (blkOk_by (N := ["exchange", "of_lines", "line", "group"]) (sc := defScope s_numbers_there) (by decide +kernel)) (fun _ _ _ _ _ => (pg_name (i := 3) sc_numbers_there.nd rfl (Or.inl rfl))) (fun _ _ _ _ _ => pts_nil) (fun _ _ _ _ _ => (pe_fld (pv 3) rfl))))))), ?_⟩)
  · obtain ⟨L, h, rfl, _⟩ := h
    rfl
  obtain ⟨L, h, rfl, R, B, k⟩ := h
  obtain ⟨dx, hx⟩ := R.ex
  obtain ⟨nvs, nl, nq⟩ := list_of (P := fun i (v : V) => ∃ a dx st dl hd cv ow, L.line[i]? = some a ∧ H a = some (.ins C.c_Line dx (lineF st v dl hd cv ow)) ∧ NumV H L v (Te.lineOf h i).number) h.lines.length fun i hi => by
    obtain ⟨a, b, ha, hb, q⟩ := R.lineAt hi
    obtain ⟨dx, nv, dl, d0, a0, a1, a2, cv, h1, h2, _⟩ := q.ex
    exact ⟨nv, a, dx, _, dl, b, cv, _, ha, h1, h2⟩
  obtain ⟨gvs, gl, gq⟩ := list_of (P := fun i (v : V) => ∃ a dx na ma g, L.grp[i]? = some a ∧ h.groups[i]? = some g ∧ H a = some (.ins C.c_Group dx (groupF na ma)) ∧ v = V.ref na ∧ Dig H L na g.1) h.groups.length fun i hi => by
    obtain ⟨a, ha, q⟩ := R.groups.get2 (List.getElem?_eq_getElem hi)
    obtain ⟨dx, na, ma, h1, h2, _⟩ := q.ex
    exact ⟨_, a, dx, na, ma, _, ha, List.getElem?_eq_getElem hi, h1, rfl, h2⟩
  have l64 := B.lines64
  have ll : (L.line.map V.ref).length = nvs.length := by rw [List.length_map, R.ll, nl]
  have lg : (L.grp.map V.ref).length = gvs.length := by rw [List.length_map, R.groups.length, gl]
  refine ⟨_, rfl, L.ex, _, dx, _, _, rfl, hx, T.cl_Exchange, T.na_Exchange_lines, exF_lines L h, L.ls, rfl, ⟨_, SqL.of R.ls⟩, fun D hD => lc_gen (acc := fun i => (nvs.take i).filter isN) (SqL.of R.ls) hD rfl (fun i hi => ?_) (fun i x H1 Y Nn hx1 s1 fy fn => ?_) (fun H1 s1 hD1 => ?_)⟩
  · refine Nat.lt_of_le_of_lt (Nat.le_trans (List.length_filter_le _ _) ?_) (show 64 < sizeLine by decide)
    rw [List.length_take]
    omega
  · obtain ⟨a, ha, rfl⟩ := refs_get hx1
    have hi : i < nvs.length := by
      rw [nl, ← R.ll]
      exact (List.getElem?_eq_some_iff.mp ha).1
    obtain ⟨a', dx1, st, dl, hd, cv, ow, ha', h1, h2⟩ := nq i nvs[i] (List.getElem?_eq_getElem hi)
    rw [ha] at ha'
    cases ha'
    have e1 : nvs.take (i + 1) = nvs.take i ++ [nvs[i]] := take_snoc (List.getElem?_eq_getElem hi)
    refine ⟨_, rfl, a, _, dx1, _, nvs[i], rfl, s1 _ _ h1, T.cl_Line, T.na_Line_number, lineF_number, _, rfl, ?_⟩
    refine if_b (fun c => ?_) (fun c => ?_)
    · refine ⟨_, rfl, a, _, dx1, _, nvs[i], rfl, s1 _ _ h1, T.cl_Line, T.na_Line_number, lineF_number, fy _ _ (Same.refl _) ?_⟩
      rw [e1, List.filter_append]
      congr 1
      exact List.filter_cons_of_pos c
    · refine fn _ (Same.refl _) ?_
      have c' : isN nvs[i] = false := c
      rw [e1, List.filter_append, List.filter_cons_of_neg (by rw [c']; exact Bool.false_ne_true), List.filter_nil, List.append_nil]
  · rw [ll, List.take_length] at hD1
    refine ⟨_, rfl, _, rfl, L.ex, _, dx, _, _, rfl, s1 _ _ hx, T.cl_Exchange, T.na_Exchange_groups, exF_groups L h, L.gs, rfl, ⟨_, SqL.of (s1 _ _ R.gs)⟩, fun D2 hD2 => lc_map (acc := fun i => gvs.take i) (SqL.of (s1 _ _ R.gs)) hD2 rfl (fun i hi => ?_) (fun i x H2 Y hx2 s2 fy => ?_) (fun H2 s2 hD3 => ?_)⟩
    · refine Nat.lt_of_le_of_lt ?_ (show 64 < sizeLine by decide)
      rw [List.length_take, gl]
      have := B.eight
      omega
    · obtain ⟨a, ha, rfl⟩ := refs_get hx2
      have hi : i < gvs.length := by
        rw [gl, ← R.groups.length]
        exact (List.getElem?_eq_some_iff.mp ha).1
      obtain ⟨a', dx1, na, ma, g, ha', hg, h1, h2, h3⟩ := gq i gvs[i] (List.getElem?_eq_getElem hi)
      rw [ha] at ha'
      cases ha'
      refine ⟨_, rfl, a, _, dx1, _, _, rfl, s2 _ _ (s1 _ _ h1), T.cl_Group, T.na_Group_number, groupF_number, fy _ _ (Same.refl _) ?_⟩
      rw [take_snoc (List.getElem?_eq_getElem hi), h2]
    · rw [lg, List.take_length] at hD3
      refine ⟨D, D2, _, _, rfl, rfl, s2 _ _ hD1, hD3, ?_, fun p hp => ?_⟩
      · have := List.length_filter_le isN nvs
        have := B.eight
        have : 72 ≤ sizeLine := by decide
        omega
      · have s3 : Same H (upd H2 p (.lst (nvs.filter isN ++ gvs))) := Same.trans s1 (Same.trans s2 (same_new hp))
        refine k _ p _ s3 upd_same ?_
        unfold Te.numbers
        refine All2.append ?_ ?_
        · refine (lines_num (nl.trans rfl) fun i v l hv hl => ?_).imp fun _ _ q => ValD.same q s3
          obtain ⟨_, _, _, _, _, _, _, _, _, q⟩ := nq i v hv
          rw [lineOf_get hl] at q
          exact q
        · refine All2.of_get (by rw [gl, List.length_map]) fun i v d hv hd => ?_
          obtain ⟨a, dx, na, ma, g, _, hg, _, e, q⟩ := gq i v hv
          rw [List.getElem?_map, hg] at hd
          cases hd
          exact ⟨na, e, q.same s3⟩
/-! ### asked of the numbers -/
theorem numbers72 {h : Te.Hall} (B : Base h) : (Te.numbers h).length ≤ 72 := by
  unfold Te.numbers
  rw [List.length_append, List.length_map]
  have := B.lines64
  have := B.eight
  have := List.length_filterMap_le (fun (l : Te.Line) => l.number) h.lines
  omega
/-- a row of truth values, one a number -/
theorem bls_take {f : List Nat → Bool} {ns : List (List Nat)} {i : Nat} {n : List Nat} (hn : ns[i]? = some n) : (ns.take (i + 1)).map (fun e => V.bl (f e)) = (ns.take i).map (fun e => V.bl (f e)) ++ [V.bl (f n)] := by
  rw [take_snoc hn, List.map_append]
  rfl
def sp_some_number_begins (K : PySem.W.Frag) (C : Cs) : Sp := fun vs H Q _ => ∃ (L : Lay) (h : Te.Hall) (a : Addr) (d : List Nat), vs = [.ref L.ex, .ref a] ∧ Rep C H L h ∧ Base h ∧ SqL K H a (ivs d) ∧ ∀ H', Same H H' → Q (.bl (Te.mayBe h d)) H'
theorem cal_some_number_begins (T : Txt K mg C) : Cal P w K mg base 2 "some_number_begins" (sp_some_number_begins K C) := by
  refine T.d_some_number_begins.cal sc_some_number_begins (fun vs H Q E h => ?_) (fun f cdv A outer s H vs Q E hr h => ⟨_, (pss_one (ps_ret (pe_callB (cr_any rfl) (by rfl) T.n_any boot_any (pa_cons (pe_lc (own := [("number", 2)]) (g := (gName 2)) (tt := tYes) (te := (tCall (sp_begins K C) [] E0 (tCons (tVar 1) (tCons (tVar 2) tNil)))) rfl sc_some_number_begins.nd (pi_list (pe_c (cal_numbers_there T) hr (by decide) rfl (pa_cons (pv 0) pa_nil))) (blkOk_by (N := ["exchange", "digits", "number"]) (sc := defScope s_some_number_begins) (by decide +kernel)) (fun _ _ _ _ _ => (pg_name (i := 2) sc_some_number_begins.nd rfl (Or.inl rfl))) (fun _ _ _ _ _ => pts_nil) (fun _ _ _ _ _ => (pe_c (cal_begins T) hr (by decide) rfl (pa_cons (pv 1) (pa_cons (pv 2) pa_nil))))) pa_nil)))), ?_⟩)
  · obtain ⟨L, h, a, d, rfl, _⟩ := h
    rfl
  obtain ⟨L, h, a, d, rfl, R, B, ha, k⟩ := h
  refine ⟨_, rfl, L, h, rfl, R, B, fun H1 p us s1 hp all => ⟨p, rfl, ⟨_, SqL.of hp⟩, fun D hD => lc_map (acc := fun i => ((Te.numbers h).take i).map fun e => V.bl (d.isPrefixOf e)) (SqL.of hp) hD rfl (fun i hi => ?_) (fun i x H2 Y hx s2 fy => ?_) (fun H2 s2 hD2 => ?_)⟩⟩
  · rw [List.length_map, List.length_take]
    have := numbers72 B
    have : 72 < sizeLine := by decide
    omega
  · obtain ⟨n, hn, b, rfl, hb⟩ := all.get hx
    exact ⟨_, rfl, _, rfl, a, b, d, n, rfl, Same.seq s2 (Same.seq s1 ha), Same.seq s2 hb.sq, fun H3 s3 => fy _ _ s3 (bls_take hn)⟩
  · rw [all.length, List.take_length] at hD2
    refine ⟨D, (Te.numbers h).map fun e => d.isPrefixOf e, rfl, SqL.of ?_, ?_⟩
    · rw [hD2, List.map_map]
      rfl
    · have e : Te.mayBe h d = ((Te.numbers h).map fun e => d.isPrefixOf e).any id := by
        unfold Te.mayBe
        rw [List.any_map]
        rfl
      rw [← e]
      exact k _ (Same.trans s1 s2)
def sp_clashes (K : PySem.W.Frag) (C : Cs) : Sp := fun vs H Q _ => ∃ (L : Lay) (h : Te.Hall) (a : Addr) (d : List Nat), vs = [.ref L.ex, .ref a] ∧ Rep C H L h ∧ Base h ∧ SqL K H a (ivs d) ∧ ∀ H', Same H H' → Q (.bl (Te.clashes h d)) H'
theorem cal_clashes (T : Txt K mg C) : Cal P w K mg base 2 "clashes" (sp_clashes K C) := by
  refine T.d_clashes.cal sc_clashes (fun vs H Q E h => ?_) (fun f cdv A outer s H vs Q E hr h => ⟨_, (pss_one (ps_ret (pe_callB (cr_any rfl) (by rfl) T.n_any boot_any (pa_cons (pe_lc (own := [("number", 2)]) (g := (gName 2)) (tt := tYes) (te := (tOrV (tCall (sp_begins K C) [] E0 (tCons (tVar 1) (tCons (tVar 2) tNil))) (tCall (sp_begins K C) [] E0 (tCons (tVar 2) (tCons (tVar 1) tNil))))) rfl sc_clashes.nd (pi_list (pe_c (cal_numbers_there T) hr (by decide) rfl (pa_cons (pv 0) pa_nil))) (blkOk_by (N := ["exchange", "digits", "number"]) (sc := defScope s_clashes) (by decide +kernel)) (fun _ _ _ _ _ => (pg_name (i := 2) sc_clashes.nd rfl (Or.inl rfl))) (fun _ _ _ _ _ => pts_nil) (fun _ _ _ _ _ => (pe_or (pe_c (cal_begins T) hr (by decide) rfl (pa_cons (pv 1) (pa_cons (pv 2) pa_nil))) (pe_one (pe_c (cal_begins T) hr (by decide) rfl (pa_cons (pv 2) (pa_cons (pv 1) pa_nil))))))) pa_nil)))), ?_⟩)
  · obtain ⟨L, h, a, d, rfl, _⟩ := h
    rfl
  obtain ⟨L, h, a, d, rfl, R, B, ha, k⟩ := h
  refine ⟨_, rfl, L, h, rfl, R, B, fun H1 p us s1 hp all => ⟨p, rfl, ⟨_, SqL.of hp⟩, fun D hD => lc_map (acc := fun i => ((Te.numbers h).take i).map fun e => V.bl (d.isPrefixOf e || e.isPrefixOf d)) (SqL.of hp) hD rfl (fun i hi => ?_) (fun i x H2 Y hx s2 fy => ?_) (fun H2 s2 hD2 => ?_)⟩⟩
  · rw [List.length_map, List.length_take]
    have := numbers72 B
    have : 72 < sizeLine := by decide
    omega
  · obtain ⟨n, hn, b, rfl, hb⟩ := all.get hx
    have e := bls_take (f := fun e => d.isPrefixOf e || e.isPrefixOf d) hn
    refine ⟨_, rfl, _, rfl, a, b, d, n, rfl, Same.seq s2 (Same.seq s1 ha), Same.seq s2 hb.sq, fun H3 s3 => ⟨_, rfl, if_b (fun c => ?_) (fun c => ?_)⟩⟩
    · refine fy _ _ s3 ?_
      rw [e, c]
      rfl
    · refine ⟨_, rfl, _, rfl, b, a, n, d, rfl, Same.seq s3 (Same.seq s2 hb.sq), Same.seq s3 (Same.seq s2 (Same.seq s1 ha)), fun H4 s4 => fy _ _ (Same.trans s3 s4) ?_⟩
      rw [e, c]
      rfl
  · rw [all.length, List.take_length] at hD2
    refine ⟨D, (Te.numbers h).map fun e => d.isPrefixOf e || e.isPrefixOf d, rfl, SqL.of ?_, ?_⟩
    · rw [hD2, List.map_map]
      rfl
    · have e : Te.clashes h d = ((Te.numbers h).map fun e => d.isPrefixOf e || e.isPrefixOf d).any id := by
        unfold Te.clashes
        rw [List.any_map]
        rfl
      rw [← e]
      exact k _ (Same.trans s1 s2)
/-! ### whose a number is -/
theorem dp_vals {H : Hp} {L : Lay} : ∀ {us : List V} {ns : List (List Nat)}, All2 (ValD H L) us ns → DpAll K H us (ns.map fun d => PyData.list (pds d))
  | _, _, .nil => .nil
  | _, _, .cons ⟨a, e, q⟩ t => by
    subst e
    exact .cons (dp_ints q.sq) (dp_vals t)
theorem owner_nobody {h : Te.Hall} {d : List Nat} : ((Te.numbers h).map fun n => PyData.list (pds n)).any (fun z => PyData.eqv z (.list (pds d))) = (match Te.ownerOf h d with | .nobody => false | _ => true) := by
  have e : ((Te.numbers h).map fun n => PyData.list (pds n)).any (fun z => PyData.eqv z (.list (pds d))) = (Te.numbers h).any fun n => decide (n = d) := by
    rw [List.any_map]
    congr 1
    funext n
    exact eqv_ints n d
  rw [e]
  cases c : Te.ownerOf h d with
  | nobody =>
    rw [List.any_eq_false]
    intro n hn q
    have q : n = d := of_decide_eq_true q
    subst q
    unfold Te.ownerOf at c
    split at c
    · cases c
    · rename_i hf
      split at c
      · cases c
      · rename_i hg
        unfold Te.numbers at hn
        rcases List.mem_append.mp hn with hn | hn
        · obtain ⟨l, hl, el⟩ := List.mem_filterMap.mp hn
          have := List.findIdx?_eq_none_iff.mp hf l hl
          rw [el] at this
          simp at this
        · obtain ⟨g, hl, el⟩ := List.mem_map.mp hn
          have := List.find?_eq_none.mp hg g hl
          rw [el] at this
          simp at this
  | line x =>
    obtain ⟨l, hl, e⟩ := owner_line c
    refine List.any_eq_true.mpr ⟨d, ?_, decide_eq_true rfl⟩
    exact List.mem_append_left _ (List.mem_filterMap.mpr ⟨l, List.mem_of_getElem? hl, e⟩)
  | group l =>
    refine List.any_eq_true.mpr ⟨d, ?_, decide_eq_true rfl⟩
    exact List.mem_append_right _ (List.mem_map.mpr ⟨_, owner_group c, rfl⟩)
/-- somebody has it -/
def owned (h : Te.Hall) (d : List Nat) : Bool := match Te.ownerOf h d with
  | .nobody => false
  | _ => true
def sp_is_somebodys (K : PySem.W.Frag) (C : Cs) : Sp := fun vs H Q _ => ∃ (L : Lay) (h : Te.Hall) (a : Addr) (d : List Nat), vs = [.ref L.ex, .ref a] ∧ Rep C H L h ∧ Base h ∧ SqL K H a (ivs d) ∧ ∀ H', Same H H' → Q (.bl (owned h d)) H'
theorem cal_is_somebodys (T : Txt K mg C) : Cal P w K mg base 2 "is_somebodys" (sp_is_somebodys K C) := by
  refine T.d_is_somebodys.cal sc_is_somebodys (fun vs H Q E h => ?_) (fun f cdv A outer s H vs Q E hr h => ⟨_, (pss_one (ps_ret (pe_cmpR (op_inD (hu65 hr)) (pv 1) (pe_c (cal_numbers_there T) hr (by decide) rfl (pa_cons (pv 0) pa_nil)) (by with_unfolding_all rfl)))), ?_⟩)
  · obtain ⟨L, h, a, d, rfl, _⟩ := h
    rfl
  obtain ⟨L, h, a, d, rfl, R, B, ha, k⟩ := h
  refine ⟨_, rfl, _, rfl, L, h, rfl, R, B, fun H1 p us s1 hp all => ?_⟩
  refine ⟨_, _, dp_ints (Same.seq s1 ha), .lst (SqL.of hp) (dp_vals all), shaped_ints _, shaped_lists _, ?_⟩
  rw [owner_nobody]
  exact k _ s1
/-- None, or a list: against a list -/
theorem dp_num {H : Hp} {L : Lay} {nv : V} : ∀ {o : Option (List Nat)}, NumV H L nv o → Dp K H nv (match o with | none => .none | some d => .list (pds d))
  | none, h => by
    have e : nv = .non := h
    subst e
    exact .non
  | some d, h => by
    obtain ⟨a, rfl, q⟩ := h
    exact dp_ints q.sq
theorem shaped_num : ∀ o : Option (List Nat), SeqAt.shaped (match o with | none => PyData.none | some d => .list (pds d)) = true
  | none => by
    show SeqAt.shaped PyData.none = true
    unfold SeqAt.shaped
    rw [PyData.canLay0, PyData.depth]
    rfl
  | some d => shaped_ints d
theorem eqv_num (d : List Nat) : ∀ o : Option (List Nat), PyData.eqv (match o with | none => .none | some d => .list (pds d)) (.list (pds d)) = (o == some d)
  | none => by
    show PyData.eqv .none (.list (pds d)) = _
    rw [PyData.eqv]
    rfl
  | some e => by
    show PyData.eqv (.list (pds e)) (.list (pds d)) = _
    rw [eqv_ints, Bool.eq_iff_iff, decide_eq_true_eq, beq_iff_eq]
    exact ⟨congrArg some, Option.some.inj⟩
def sp_line_of_number (K : PySem.W.Frag) (C : Cs) : Sp := fun vs H Q _ => ∃ (L : Lay) (h : Te.Hall) (a : Addr) (d : List Nat), vs = [.ref L.ex, .ref a] ∧ Rep C H L h ∧ SqL K H a (ivs d) ∧ ∀ H', Same H H' → Q (optI (h.lines.findIdx? fun (l : Te.Line) => l.number == some d)) H'
theorem findIdx_more {α : Type} {p : α → Bool} {l : List α} {i : Nat} {x : α} (hx : l[i]? = some x) (hp : p x = true) (h0 : ∀ (j : Nat) y, j < i → l[j]? = some y → p y = false) : l.findIdx? p = some i := by
  obtain ⟨hi, e⟩ := List.getElem?_eq_some_iff.mp hx
  rw [List.findIdx?_eq_some_iff_getElem]
  refine ⟨hi, by rw [e]; exact hp, fun j hj => ?_⟩
  rw [h0 j _ hj (List.getElem?_eq_getElem (by omega))]
  exact Bool.false_ne_true
theorem findIdx_no {α : Type} {p : α → Bool} {l : List α} (h0 : ∀ (j : Nat) y, j < l.length → l[j]? = some y → p y = false) : l.findIdx? p = none := by
  rw [List.findIdx?_eq_none_iff]
  intro y hy
  obtain ⟨j, hj⟩ := List.mem_iff_getElem?.mp hy
  exact h0 j y (List.getElem?_eq_some_iff.mp hj).1 hj
theorem cal_line_of_number (T : Txt K mg C) : Cal P w K mg base 1 "line_of_number" (sp_line_of_number K C) := by
  refine T.d_line_of_number.cal sc_line_of_number (fun vs H Q E h => ?_) (fun f cdv A outer s H vs Q E hr h => ⟨_, (pss_cons (ps_for PassesOwn.never rfl (pi_enum (by rfl) T.n_enumerate (pa_cons (pe_fld (pv 0) rfl) pa_nil)) (pg_tup rfl (pgs_cons (pg_name (i := 2) sc_line_of_number.nd rfl (Or.inl rfl)) (pgs_cons (pg_name (i := 3) sc_line_of_number.nd rfl (Or.inl rfl)) pgs_nil)))
      (pss_one (ps_if (pt_cmpR (op_eqD (hu64 hr)) (pe_fld (pv 3) rfl) (pv 1) (nomark _))
      (pss_one (ps_ret (pv 2)))
      pss_nil)))
    (pss_one (ps_ret pe_non))), ?_⟩)
  · obtain ⟨L, h, a, d, rfl, _⟩ := h
    rfl
  obtain ⟨L, h, a, d, rfl, R, ha, k⟩ := h
  obtain ⟨dx, hx⟩ := R.ex
  have ll : (L.line.map V.ref).length = h.lines.length := by rw [List.length_map, R.ll]
  refine ⟨_, rfl, L.ex, _, dx, _, _, rfl, hx, T.cl_Exchange, T.na_Exchange_lines, exF_lines L h, L.ls, _, rfl, SqL.of R.ls, for_it walk_enum
    (fun i σ H' => ∃ u v, σ = [some (.ref L.ex), some (.ref a), u, v] ∧ Same H H' ∧ ∀ (j : Nat) y, j < i → h.lines[j]? = some y → (y.number == some d) = false)
    ⟨none, none, rfl, Same.refl H, fun j y hj => absurd hj (Nat.not_lt_zero j)⟩ (fun i σ H' _ ⟨_, _, _, s1, _⟩ => Same.seq s1 (SqL.of R.ls)) ?_ ?_⟩
  · rintro i x σ H1 H2 hi ⟨u, v, rfl, s1, h0⟩ ⟨t, x1, y1, rfl, ht, rfl, e1, e2⟩
    cases e1
    obtain ⟨la, hla, rfl⟩ := refs_get e2
    rw [ll] at hi
    obtain ⟨la', b, hla', hb, q⟩ := R.lineAt hi
    rw [hla] at hla'
    cases hla'
    obtain ⟨dx1, nv, dl, d0, a0, a1, a2, cv, h1, h2, _⟩ := q.ex
    have s2 : Same H (upd H1 t (.tup [V.int (i : Nat), V.ref la])) := Same.trans s1 (same_new ht)
    refine ⟨t, _, rfl, SqT.of upd_same, rfl, _, _, rfl, _, _, rfl, rfl, ?_⟩
    refine ⟨_, rfl, la, _, dx1, _, nv, rfl, s2 _ _ h1, T.cl_Line, T.na_Line_number, lineF_number, _, rfl, _, _, dp_num (h2.same s2), dp_ints (Same.seq s2 ha), shaped_num _, shaped_ints _, _, rfl, ?_⟩
    rw [eqv_num]
    have hl : h.lines[i]? = some (Te.lineOf h i) := by rw [List.getElem?_eq_getElem hi, lineOf_get (List.getElem?_eq_getElem hi)]
    refine if_b (fun c => ⟨_, rfl, ?_⟩) (fun c => ?_)
    · have e := k _ s2
      rw [findIdx_more hl c h0] at e
      exact e
    · refine ⟨_, _, rfl, s2, fun j y hj hy => ?_⟩
      by_cases cj : j < i
      · exact h0 j y cj hy
      · have : j = i := by omega
        subst this
        rw [hl] at hy
        cases hy
        exact c
  · rintro σ H1 ⟨u, v, rfl, s1, h0⟩
    rw [ll] at h0
    have e := k _ s1
    rw [findIdx_no h0] at e
    exact e
def sp_group_of_number (K : PySem.W.Frag) (C : Cs) : Sp := fun vs H Q _ => ∃ (L : Lay) (h : Te.Hall) (a : Addr) (d : List Nat), vs = [.ref L.ex, .ref a] ∧ Rep C H L h ∧ SqL K H a (ivs d) ∧
  (∀ H', Same H H' → (h.groups.find? fun (g : Te.Digits × List Nat) => g.1 == d) = none → Q .non H') ∧ (∀ H' b g, Same H H' → (h.groups.find? fun (g : Te.Digits × List Nat) => g.1 == d) = some g → GroupAt C H' L b g → Q (.ref b) H')
theorem cal_group_of_number (T : Txt K mg C) : Cal P w K mg base 1 "group_of_number" (sp_group_of_number K C) := by
  refine T.d_group_of_number.cal sc_group_of_number (fun vs H Q E h => ?_) (fun f cdv A outer s H vs Q E hr h => ⟨_, (pss_cons (ps_for PassesOwn.never rfl (pi_list (pe_fld (pv 0) rfl)) (pg_name (i := 2) sc_group_of_number.nd rfl (Or.inl rfl))
      (pss_one (ps_if (pt_cmpR (op_eqD (hu64 hr)) (pe_fld (pv 2) rfl) (pv 1) (nomark _))
      (pss_one (ps_ret (pv 2)))
      pss_nil)))
    (pss_one (ps_ret pe_non))), ?_⟩)
  · obtain ⟨L, h, a, d, rfl, _⟩ := h
    rfl
  obtain ⟨L, h, a, d, rfl, R, ha, k1, k2⟩ := h
  obtain ⟨dx, hx⟩ := R.ex
  have ll : (L.grp.map V.ref).length = h.groups.length := by rw [List.length_map, R.groups.length]
  refine ⟨_, rfl, L.ex, _, dx, _, _, rfl, hx, T.cl_Exchange, T.na_Exchange_groups, exF_groups L h, L.gs, rfl, ⟨_, SqL.of R.gs⟩, for_list (xs := L.grp.map V.ref)
    (fun i σ H' => ∃ u, σ = [some (.ref L.ex), some (.ref a), u] ∧ Same H H' ∧ ∀ (j : Nat) y, j < i → h.groups[j]? = some y → (y.1 == d) = false)
    ⟨none, rfl, Same.refl H, fun j y hj => absurd hj (Nat.not_lt_zero j)⟩ (fun i σ H' _ ⟨_, _, s1, _⟩ => Same.seq s1 (SqL.of R.gs)) ?_ ?_⟩
  · rintro i x σ H1 hx1 ⟨u, rfl, s1, h0⟩
    obtain ⟨b, hb, rfl⟩ := refs_get hx1
    obtain ⟨g, hg, q⟩ := R.groups.get hb
    obtain ⟨dx1, na, ma, h1, h2, h3⟩ := q.ex
    refine ⟨_, rfl, b, _, dx1, _, _, rfl, s1 _ _ h1, T.cl_Group, T.na_Group_number, groupF_number, _, rfl, _, _, dp_ints (Dig.sq (h2.same s1)), dp_ints (Same.seq s1 ha), shaped_ints _, shaped_ints _, _, rfl, ?_⟩
    rw [eqv_ints]
    refine if_b (fun c => ⟨_, rfl, ?_⟩) (fun c => ?_)
    · refine k2 _ b g s1 ?_ (q.same s1)
      obtain ⟨hi, e⟩ := List.getElem?_eq_some_iff.mp hg
      rw [List.find?_eq_some_iff_getElem]
      refine ⟨by rw [beq_iff_eq]; exact of_decide_eq_true c, i, hi, e, fun j hj => ?_⟩
      rw [h0 j _ hj (List.getElem?_eq_getElem (by omega))]
      rfl
    · refine ⟨_, rfl, s1, fun j y hj hy => ?_⟩
      by_cases cj : j < i
      · exact h0 j y cj hy
      · have : j = i := by omega
        subst this
        rw [hg] at hy
        cases hy
        rw [beq_eq_false_iff_ne]
        exact of_decide_eq_false c
  · rintro σ H1 ⟨u, rfl, s1, h0⟩
    rw [ll] at h0
    refine k1 _ s1 ?_
    rw [List.find?_eq_none]
    intro g hg
    obtain ⟨j, hj⟩ := List.mem_iff_getElem?.mp hg
    rw [h0 j g (List.getElem?_eq_some_iff.mp hj).1 hj]
    exact Bool.false_ne_true
end
end Tx
end
section
namespace Tx
open PySem PySem.Spec PyProof.Rows L2
/-! ### a comprehension over a range -/
theorem lc_genR {n : Nat} {D : Addr} {tt : TT} {te : TE} {σ : L2.St} {j : Nat} {H1 : Hp} {Qd : Hp → Prop} (acc : Nat → List V) (hD : H1 D = none) (h0 : acc 0 = []) (hlen : ∀ i, i ≤ n → (acc i).length < sizeLine)
    (turn : ∀ i H (Y : VK) (Nn : Hp → Prop), i < n → Same H1 H → (∀ y H4, Same H H4 → acc (i + 1) = acc i ++ [y] → Y y H4) → (∀ H3, Same H H3 → acc (i + 1) = acc i → Nn H3) →
      tt ((σ.set j none).set j (some (iv i))) H fun b H3 => if b = true then te ((σ.set j none).set j (some (iv i))) H3 Y else Nn H3)
    (done : ∀ H', Same H1 H' → H' D = some (.lst (acc n)) → Qd H') :
    ∃ W : Nat → Nat → Hp → Prop, (∃ m, W 0 m (upd H1 D (.lst []))) ∧ ∀ i m H, W i m H → ((Itr 0 n).stop i H ∧ Qd H) ∨ ((Itr 0 n).go i H ∧ ∃ Nx : Hp → Prop, (∀ H', Nx H' → ∃ m', m' < m ∧ W (i + 1) m' H') ∧ ∀ x H', (Itr 0 n).yld i H x H' → gName j x (wipe σ [j]) H' fun σ2 H2 => wipe σ2 [j] = wipe σ [j] ∧ tt σ2 H2 fun b H3 => if b = true then te σ2 H3 fun y H4 => ∃ acc, H4 D = some (.lst acc) ∧ acc.length < sizeLine ∧ Nx (upd H4 D (.lst (acc ++ [y]))) else Nx H3) := by
  refine lc_range (fun i H => Same H1 H ∧ H D = some (.lst (acc i))) ⟨same_new hD, by rw [h0]; exact upd_same⟩ ?_ (fun H p => done H p.1 p.2)
  intro i H hi ⟨s, hd⟩
  rw [show (0 : Int) + (i : Int) = (i : Int) from Int.zero_add _]
  refine ⟨wipe_set σ j _, turn i H _ _ hi s (fun y H4 s4 e => ?_) (fun H3 s3 e => ?_)⟩
  · refine ⟨acc i, s4 _ _ hd, hlen i (Nat.le_of_lt hi), same_upd (Same.trans s s4) hD, ?_⟩
    rw [e]
    exact upd_same
  · refine ⟨Same.trans s s3, ?_⟩
    rw [e]
    exact s3 _ _ hd
theorem dec_iv (a b : Nat) : decide (iv a = iv b) = decide (a = b) := by
  rw [decide_eq_decide]
  exact ⟨iv_inj, fun e => by rw [e]⟩
section
variable {P : Program} {w : World} {K : PySem.W.Frag} {mg : Str → Option Value} {base : Heap} {C : Cs}
/-! ### switches -/
def sp_switch_of (K : PySem.W.Frag) (C : Cs) : Sp := fun vs H Q _ => ∃ (L : Lay) (h : Te.Hall) (x : Nat), vs = [.ref L.ex, iv x] ∧ (∃ dx, H L.ex = some (.ins C.c_Exchange dx (exF L h))) ∧ SizeOk h.size ∧ Q (iv (h.size.switch x)) H
theorem cal_switch_of (T : Txt K mg C) : Cal P w K mg base 1 "switch_of" (sp_switch_of K C) := by
  refine T.d_switch_of.cal sc_switch_of (fun vs H Q E h => ?_) (fun f cdv A outer s H vs Q E hr h => ⟨_, (pss_one (ps_ret (pe_op op_fdiv (pv 1) (pe_fld (pv 0) rfl)))), ?_⟩)
  · obtain ⟨L, h, x, rfl, _⟩ := h
    rfl
  obtain ⟨L, h, x, rfl, ⟨dx, hx⟩, Z, k⟩ := h
  have h1 := Z.n1
  have h8 := Z.n8
  refine ⟨_, rfl, _, rfl, L.ex, _, dx, _, _, rfl, hx, T.cl_Exchange, T.na_Exchange_lines_each, exF_n L h, _, _, rfl, rfl, ⟨by omega, by omega⟩, ?_⟩
  have e : (x : Int) / (h.size.n : Int) = ((h.size.switch x : Nat) : Int) := (Int.natCast_ediv x h.size.n).symm
  show Q (.int ((x : Int) / (h.size.n : Int))) H
  rw [e]
  exact k
/-! ### calls by their ways -/
/-- the call's object at b goes the way x -/
def CallOf (L : Lay) (h : Te.Hall) (b : Addr) (x : Te.Leg) : Prop := ∃ p : Nat, L.call[p]? = some b ∧ h.legs[p]? = some x
theorem same_at {h : Te.Hall} (e : h.legs.map (fun q => (q.from_, q.to_)) = h.calls.map (fun c => (c.from_, c.to_))) {p : Nat} {x : Te.Leg} (hx : h.legs[p]? = some x) : ∃ c, h.calls[p]? = some c ∧ c.from_ = x.from_ ∧ c.to_ = x.to_ := by
  have q := congrArg (fun l => l[p]?) e
  simp only [List.getElem?_map, hx, Option.map_some] at q
  cases c : h.calls[p]? with
  | none => rw [c] at q; cases q
  | some d =>
    rw [c] at q
    have q := Option.some.inj q
    exact ⟨d, rfl, (congrArg Prod.fst q).symm, (congrArg Prod.snd q).symm⟩
theorem CallOf.obj {H : Hp} {L : Lay} {h : Te.Hall} {b : Addr} {x : Te.Leg} (q : CallOf L h b x) (R : Rep C H L h) (B : Base h) : ∃ (dx na : Addr) (c : Te.Call_), H b = some (.ins C.c_Call dx (callF x.from_ x.to_ na c.hops c.since (optI c.begun) (iv x.mid))) ∧ Dig H L na c.dialed := by
  obtain ⟨p, h1, h2⟩ := q
  obtain ⟨c, h3, e1, e2⟩ := same_at B.same h2
  obtain ⟨dx, na, h4, h5⟩ := (R.calls p b c x h1 h3 h2).ex
  rw [e1, e2] at h4
  exact ⟨dx, na, c, h4, h5⟩
theorem find_at {α : Type} {p : α → Bool} {l : List α} {i : Nat} {x : α} (hx : l[i]? = some x) (hp : p x = true) (h0 : ∀ (j : Nat) y, j < i → l[j]? = some y → p y = false) : l.find? p = some x := by
  obtain ⟨hi, e⟩ := List.getElem?_eq_some_iff.mp hx
  rw [List.find?_eq_some_iff_getElem]
  refine ⟨hp, i, hi, e, fun j hj => ?_⟩
  rw [h0 j _ hj (List.getElem?_eq_getElem (by omega))]
  rfl
theorem find_no {α : Type} {p : α → Bool} {l : List α} (h0 : ∀ (j : Nat) y, j < l.length → l[j]? = some y → p y = false) : l.find? p = none := by
  rw [List.find?_eq_none]
  intro g hg
  obtain ⟨j, hj⟩ := List.mem_iff_getElem?.mp hg
  rw [h0 j g (List.getElem?_eq_some_iff.mp hj).1 hj]
  exact Bool.false_ne_true
theorem more_no {α : Type} {p : α → Bool} {l : List α} {i : Nat} {x : α} (hx : l[i]? = some x) (hp : p x = false) (h0 : ∀ (j : Nat) y, j < i → l[j]? = some y → p y = false) : ∀ (j : Nat) y, j < i + 1 → l[j]? = some y → p y = false := by
  intro j y hj hy
  by_cases cj : j < i
  · exact h0 j y cj hy
  · have : j = i := by omega
    subst this
    rw [hx] at hy
    cases hy
    exact hp
theorem Rep.legAt {H : Hp} {L : Lay} {h : Te.Hall} (R : Rep C H L h) {p : Nat} {b : Addr} (hb : L.call[p]? = some b) : ∃ x, h.legs[p]? = some x := by
  have := (List.getElem?_eq_some_iff.mp hb).1
  rw [R.cl, ← R.gl] at this
  exact ⟨_, List.getElem?_eq_getElem this⟩
/-- the call's object of a way, or None -/
def OptV (L : Lay) (h : Te.Hall) (o : Option Te.Leg) (v : V) : Prop := match o with
  | none => v = .non
  | some x => ∃ b, v = .ref b ∧ CallOf L h b x
theorem OptV.non {L : Lay} {h : Te.Hall} {o : Option Te.Leg} (e : o = none) : OptV L h o .non := by subst e; rfl
theorem OptV.som {L : Lay} {h : Te.Hall} {o : Option Te.Leg} {x : Te.Leg} {b : Addr} (e : o = some x) (q : CallOf L h b x) : OptV L h o (.ref b) := by subst e; exact ⟨b, rfl, q⟩
def sp_call_from (K : PySem.W.Frag) (C : Cs) : Sp := fun vs H Q _ => ∃ (L : Lay) (h : Te.Hall) (i k : Nat), vs = [.ref L.ex, iv i, iv k] ∧ Rep C H L h ∧ Base h ∧
  (∀ H' v, Same H H' → OptV L h (legFrom h.size h.legs i k) v → Q v H')
theorem cal_call_from (T : Txt K mg C) : Cal P w K mg base 2 "call_from" (sp_call_from K C) := by
  refine T.d_call_from.cal sc_call_from (fun vs H Q E h => ?_) (fun f cdv A outer s H vs Q E hr h => ⟨_, (pss_cons (ps_for PassesOwn.never rfl (pi_list (pe_fld (pv 0) rfl)) (pg_name (i := 3) sc_call_from.nd rfl (Or.inl rfl))
      (pss_one (ps_if (PW.pt (pw_and (pt_cmpR op_eq (pe_fld (pv 3) rfl) (pv 2) (nomark _)) (pw_and1 (pt_cmpR op_eq (pe_c (cal_switch_of T) hr (by decide) rfl (pa_cons (pv 0) (pa_cons (pe_fld (pv 3) rfl) pa_nil))) (pv 1) (nomark _)))))
      (pss_one (ps_ret (pv 3)))
      pss_nil)))
    (pss_one (ps_ret pe_non))), ?_⟩)
  · obtain ⟨L, h, i, k, rfl, _⟩ := h
    rfl
  obtain ⟨L, h, sw, md, rfl, R, B, k1⟩ := h
  obtain ⟨dx, hx⟩ := R.ex
  have ll : (L.call.map V.ref).length = h.legs.length := by rw [List.length_map, R.cl, R.gl]
  refine ⟨_, rfl, L.ex, _, dx, _, _, rfl, hx, T.cl_Exchange, T.na_Exchange_calls, exF_calls L h, L.cs, rfl, ⟨_, SqL.of R.cs⟩, for_list (xs := L.call.map V.ref)
    (fun i σ H' => ∃ u, σ = [some (.ref L.ex), some (iv sw), some (iv md), u] ∧ Same H H' ∧ ∀ (j : Nat) y, j < i → h.legs[j]? = some y → (h.size.switch y.from_ == sw && y.mid == md) = false)
    ⟨none, rfl, Same.refl H, fun j y hj => absurd hj (Nat.not_lt_zero j)⟩ (fun i σ H' _ ⟨_, _, s1, _⟩ => Same.seq s1 (SqL.of R.cs)) ?_ ?_⟩
  · rintro i x σ H1 hx1 ⟨u, rfl, s1, h0⟩
    obtain ⟨b, hb, rfl⟩ := refs_get hx1
    obtain ⟨q, hq⟩ := R.legAt hb
    obtain ⟨dx1, na, c, h1, h2⟩ := CallOf.obj ⟨i, hb, hq⟩ R B
    have h1 := s1 _ _ h1
    refine ⟨_, rfl, b, _, dx1, _, _, rfl, h1, T.cl_Call, T.na_Call_way, callF_way, _, rfl, rfl, _, rfl, ?_⟩
    rw [dec_iv]
    refine if_b (fun c1 => ?_) (fun c1 => iteF ?_)
    · refine ⟨_, rfl, _, rfl, b, _, dx1, _, _, rfl, h1, T.cl_Call, T.na_Call_caller, callF_caller, L, h, q.from_, rfl, ⟨dx, s1 _ _ hx⟩, B.size, _, rfl, rfl, _, rfl, ?_⟩
      rw [dec_iv]
      refine if_b (fun c2 => ⟨_, rfl, ?_⟩) (fun c2 => ?_)
      · refine k1 _ _ s1 (OptV.som (x := q) ?_ ⟨i, hb, hq⟩)
        refine find_at hq ?_ h0
        rw [Bool.and_eq_true, beq_iff_eq, beq_iff_eq]
        exact ⟨of_decide_eq_true c2, of_decide_eq_true c1⟩
      · refine ⟨_, rfl, s1, more_no hq ?_ h0⟩
        rw [beq_eq_false_iff_ne.mpr (of_decide_eq_false c2)]
        rfl
    · refine ⟨_, rfl, s1, more_no hq ?_ h0⟩
      rw [beq_eq_false_iff_ne.mpr (of_decide_eq_false c1), Bool.and_false]
  · rintro σ H1 ⟨u, rfl, s1, h0⟩
    rw [ll] at h0
    exact k1 _ _ s1 (OptV.non (find_no h0))
def sp_call_to (K : PySem.W.Frag) (C : Cs) : Sp := fun vs H Q _ => ∃ (L : Lay) (h : Te.Hall) (i k : Nat), vs = [.ref L.ex, iv i, iv k] ∧ Rep C H L h ∧ Base h ∧
  (∀ H' v, Same H H' → OptV L h (legTo h.size h.legs i k) v → Q v H')
theorem cal_call_to (T : Txt K mg C) : Cal P w K mg base 2 "call_to" (sp_call_to K C) := by
  refine T.d_call_to.cal sc_call_to (fun vs H Q E h => ?_) (fun f cdv A outer s H vs Q E hr h => ⟨_, (pss_cons (ps_for PassesOwn.never rfl (pi_list (pe_fld (pv 0) rfl)) (pg_name (i := 3) sc_call_to.nd rfl (Or.inl rfl))
      (pss_one (ps_if (PW.pt (pw_and (pt_cmpR op_eq (pe_fld (pv 3) rfl) (pv 2) (nomark _)) (pw_and1 (pt_cmpR op_eq (pe_c (cal_switch_of T) hr (by decide) rfl (pa_cons (pv 0) (pa_cons (pe_fld (pv 3) rfl) pa_nil))) (pv 1) (nomark _)))))
      (pss_one (ps_ret (pv 3)))
      pss_nil)))
    (pss_one (ps_ret pe_non))), ?_⟩)
  · obtain ⟨L, h, i, k, rfl, _⟩ := h
    rfl
  obtain ⟨L, h, sw, md, rfl, R, B, k1⟩ := h
  obtain ⟨dx, hx⟩ := R.ex
  have ll : (L.call.map V.ref).length = h.legs.length := by rw [List.length_map, R.cl, R.gl]
  refine ⟨_, rfl, L.ex, _, dx, _, _, rfl, hx, T.cl_Exchange, T.na_Exchange_calls, exF_calls L h, L.cs, rfl, ⟨_, SqL.of R.cs⟩, for_list (xs := L.call.map V.ref)
    (fun i σ H' => ∃ u, σ = [some (.ref L.ex), some (iv sw), some (iv md), u] ∧ Same H H' ∧ ∀ (j : Nat) y, j < i → h.legs[j]? = some y → (h.size.switch y.to_ == sw && y.mid == md) = false)
    ⟨none, rfl, Same.refl H, fun j y hj => absurd hj (Nat.not_lt_zero j)⟩ (fun i σ H' _ ⟨_, _, s1, _⟩ => Same.seq s1 (SqL.of R.cs)) ?_ ?_⟩
  · rintro i x σ H1 hx1 ⟨u, rfl, s1, h0⟩
    obtain ⟨b, hb, rfl⟩ := refs_get hx1
    obtain ⟨q, hq⟩ := R.legAt hb
    obtain ⟨dx1, na, c, h1, h2⟩ := CallOf.obj ⟨i, hb, hq⟩ R B
    have h1 := s1 _ _ h1
    refine ⟨_, rfl, b, _, dx1, _, _, rfl, h1, T.cl_Call, T.na_Call_way, callF_way, _, rfl, rfl, _, rfl, ?_⟩
    rw [dec_iv]
    refine if_b (fun c1 => ?_) (fun c1 => iteF ?_)
    · refine ⟨_, rfl, _, rfl, b, _, dx1, _, _, rfl, h1, T.cl_Call, T.na_Call_called, callF_called, L, h, q.to_, rfl, ⟨dx, s1 _ _ hx⟩, B.size, _, rfl, rfl, _, rfl, ?_⟩
      rw [dec_iv]
      refine if_b (fun c2 => ⟨_, rfl, ?_⟩) (fun c2 => ?_)
      · refine k1 _ _ s1 (OptV.som (x := q) ?_ ⟨i, hb, hq⟩)
        refine find_at hq ?_ h0
        rw [Bool.and_eq_true, beq_iff_eq, beq_iff_eq]
        exact ⟨of_decide_eq_true c2, of_decide_eq_true c1⟩
      · refine ⟨_, rfl, s1, more_no hq ?_ h0⟩
        rw [beq_eq_false_iff_ne.mpr (of_decide_eq_false c2)]
        rfl
    · refine ⟨_, rfl, s1, more_no hq ?_ h0⟩
      rw [beq_eq_false_iff_ne.mpr (of_decide_eq_false c1), Bool.and_false]
  · rintro σ H1 ⟨u, rfl, s1, h0⟩
    rw [ll] at h0
    exact k1 _ _ s1 (OptV.non (find_no h0))
theorem range_snoc {p : Nat → Bool} {i : Nat} : (List.range (i + 1)).filter p = (List.range i).filter p ++ (if p i = true then [i] else []) := by
  rw [List.range_succ, List.filter_append]
  congr 1
  by_cases c : p i = true
  · rw [if_pos c, List.filter_cons_of_pos c]
    rfl
  · rw [if_neg c, List.filter_cons_of_neg c]
    rfl
theorem range_len {p : Nat → Bool} {i m : Nat} (h : i ≤ m) (hm : m ≤ 16) : (ivs ((List.range i).filter p)).length < sizeLine := by
  have := List.length_filter_le p (List.range i)
  rw [List.length_range] at this
  rw [List.length_map]
  have : 16 < sizeLine := by decide
  omega
def sp_free_from (K : PySem.W.Frag) (C : Cs) : Sp := fun vs H Q _ => ∃ (L : Lay) (h : Te.Hall) (i : Nat), vs = [.ref L.ex, iv i] ∧ Rep C H L h ∧ Base h ∧
  ∀ H' p, Same H H' → H' p = some (.lst (ivs ((List.range h.size.m).filter (Te.freeIn h.size h.legs i)))) → Q (.ref p) H'
theorem cal_free_from (T : Txt K mg C) : Cal P w K mg base 3 "free_from" (sp_free_from K C) := by
  refine T.d_free_from.cal sc_free_from (fun vs H Q E h => ?_) (fun f cdv A outer s H vs Q E hr h => ⟨_, (pss_one (ps_ret (pe_lc (own := [("middle", 2)]) (g := (gName 2)) (tt := (tB (tIsN (tCall (sp_call_from K C) [] E0 (tCons (tVar 0) (tCons (tVar 1) (tCons (tVar 2) tNil))))))) (te := (tVar 2)) rfl sc_free_from.nd (pi_range1 rfl T.n_range (pa_cons (pe_fld (pv 0) rfl) pa_nil)) (blkOk_by (N := ["exchange", "switch", "middle"]) (sc := defScope s_free_from) (by decide +kernel)) (fun _ _ _ _ _ => (pg_name (i := 2) sc_free_from.nd rfl (Or.inl rfl))) (fun _ _ _ _ _ => (pts_one (pt_cmp (pc_isN (pe_c (cal_call_from T) hr (by decide) rfl (pa_cons (pv 0) (pa_cons (pv 1) (pa_cons (pv 2) pa_nil)))))))) (fun _ _ _ _ _ => (pv 2))))), ?_⟩)
  · obtain ⟨L, h, i, rfl, _⟩ := h
    rfl
  obtain ⟨L, h, sw, rfl, R, B, k⟩ := h
  obtain ⟨dx, hx⟩ := R.ex
  have hm := B.size.m16
  refine ⟨_, rfl, L.ex, _, dx, _, _, rfl, hx, T.cl_Exchange, T.na_Exchange_middles, exF_m L h, _, rfl, by omega, by omega, fun D hD => lc_genR (n := h.size.m) (acc := fun i => ivs ((List.range i).filter (Te.freeIn h.size h.legs sw))) hD rfl (fun i hi => range_len hi hm) (fun i H1 Y Nn hi s1 fy fn => ?_) (fun H1 s1 hD1 => k _ _ s1 hD1)⟩
  have e : ivs ((List.range (i + 1)).filter (Te.freeIn h.size h.legs sw)) = ivs ((List.range i).filter (Te.freeIn h.size h.legs sw)) ++ (if Te.freeIn h.size h.legs sw i = true then [iv i] else []) := by
    rw [range_snoc]
    show List.map iv (_ ++ _) = _
    rw [List.map_append]
    congr 1
    split <;> rfl
  refine ⟨_, rfl, _, rfl, _, rfl, L, h, sw, i, rfl, R.same s1, B, fun H2 v s2 o => ⟨_, rfl, ?_⟩⟩
  rw [freeIn_none] at e
  cases e2 : legFrom h.size h.legs sw i with
  | none =>
    rw [e2] at o e
    have o : v = .non := o
    subst o
    exact iteT ⟨_, rfl, fy _ _ s2 e⟩
  | some x =>
    rw [e2] at o e
    obtain ⟨b, rfl, _⟩ := o
    exact iteF (fn _ s2 (e.trans (List.append_nil _)))
def sp_free_to (K : PySem.W.Frag) (C : Cs) : Sp := fun vs H Q _ => ∃ (L : Lay) (h : Te.Hall) (i : Nat), vs = [.ref L.ex, iv i] ∧ Rep C H L h ∧ Base h ∧
  ∀ H' p, Same H H' → H' p = some (.lst (ivs ((List.range h.size.m).filter (Te.freeOut h.size h.legs i)))) → Q (.ref p) H'
theorem cal_free_to (T : Txt K mg C) : Cal P w K mg base 3 "free_to" (sp_free_to K C) := by
  refine T.d_free_to.cal sc_free_to (fun vs H Q E h => ?_) (fun f cdv A outer s H vs Q E hr h => ⟨_, (pss_one (ps_ret (pe_lc (own := [("middle", 2)]) (g := (gName 2)) (tt := (tB (tIsN (tCall (sp_call_to K C) [] E0 (tCons (tVar 0) (tCons (tVar 1) (tCons (tVar 2) tNil))))))) (te := (tVar 2)) rfl sc_free_to.nd (pi_range1 rfl T.n_range (pa_cons (pe_fld (pv 0) rfl) pa_nil)) (blkOk_by (N := ["exchange", "switch", "middle"]) (sc := defScope s_free_to) (by decide +kernel)) (fun _ _ _ _ _ => (pg_name (i := 2) sc_free_to.nd rfl (Or.inl rfl))) (fun _ _ _ _ _ => (pts_one (pt_cmp (pc_isN (pe_c (cal_call_to T) hr (by decide) rfl (pa_cons (pv 0) (pa_cons (pv 1) (pa_cons (pv 2) pa_nil)))))))) (fun _ _ _ _ _ => (pv 2))))), ?_⟩)
  · obtain ⟨L, h, i, rfl, _⟩ := h
    rfl
  obtain ⟨L, h, sw, rfl, R, B, k⟩ := h
  obtain ⟨dx, hx⟩ := R.ex
  have hm := B.size.m16
  refine ⟨_, rfl, L.ex, _, dx, _, _, rfl, hx, T.cl_Exchange, T.na_Exchange_middles, exF_m L h, _, rfl, by omega, by omega, fun D hD => lc_genR (n := h.size.m) (acc := fun i => ivs ((List.range i).filter (Te.freeOut h.size h.legs sw))) hD rfl (fun i hi => range_len hi hm) (fun i H1 Y Nn hi s1 fy fn => ?_) (fun H1 s1 hD1 => k _ _ s1 hD1)⟩
  have e : ivs ((List.range (i + 1)).filter (Te.freeOut h.size h.legs sw)) = ivs ((List.range i).filter (Te.freeOut h.size h.legs sw)) ++ (if Te.freeOut h.size h.legs sw i = true then [iv i] else []) := by
    rw [range_snoc]
    show List.map iv (_ ++ _) = _
    rw [List.map_append]
    congr 1
    split <;> rfl
  refine ⟨_, rfl, _, rfl, _, rfl, L, h, sw, i, rfl, R.same s1, B, fun H2 v s2 o => ⟨_, rfl, ?_⟩⟩
  rw [freeOut_none] at e
  cases e2 : legTo h.size h.legs sw i with
  | none =>
    rw [e2] at o e
    have o : v = .non := o
    subst o
    exact iteT ⟨_, rfl, fy _ _ s2 e⟩
  | some x =>
    rw [e2] at o e
    obtain ⟨b, rfl, _⟩ := o
    exact iteF (fn _ s2 (e.trans (List.append_nil _)))
/-! ### the calls that are moved -/
def sp_calls_to_move (K : PySem.W.Frag) (C : Cs) : Sp := fun vs H Q _ => ∃ (L : Lay) (h : Te.Hall) (j a b : Nat), vs = [.ref L.ex, iv j, iv a, iv b] ∧ Rep C H L h ∧ Base h ∧ a ≠ b ∧ Te.freeOut h.size h.legs j b = true ∧
  ∀ H' p bs, Same H H' → H p = none → H' p = some (.lst (bs.map V.ref)) → All2 (CallOf L h) bs (moves h.size h.legs a b j) → Q (.ref p) H'
theorem cal_calls_to_move (T : Txt K mg C) : Cal P w K mg base 3 "calls_to_move" (sp_calls_to_move K C) := by
  refine T.d_calls_to_move.cal sc_calls_to_move (fun vs H Q E h => ?_) (fun f cdv A outer s H vs Q E hr h => ⟨_, (pss_cons (ps_set (i := 4) sc_calls_to_move.nd rfl (Or.inl rfl) (pe_lst pa_nil))
    (pss_cons (ps_set (i := 5) sc_calls_to_move.nd rfl (Or.inl rfl) (pe_c (cal_call_to T) hr (by decide) rfl (pa_cons (pv 0) (pa_cons (pv 1) (pa_cons (pv 2) pa_nil)))))
    (pss_cons (ps_while PassesOwn.never (pt_cmp (pc_notN (pv 5)))
      (pss_cons (ps_expr (pe_bm PySem.F.plainAttrs_list PySem.F.slot_list_append PySem.F.type_list_append mt_append (pv 4) (pa_cons (pv 5) pa_nil)))
    (pss_one (ps_if (pt_cmpR op_eq (pe_fld (pv 5) rfl) (pv 2) (nomark _))
      (pss_one (ps_set (i := 5) sc_calls_to_move.nd rfl (Or.inl rfl) (pe_c (cal_call_from T) hr (by decide) rfl (pa_cons (pv 0) (pa_cons (pe_c (cal_switch_of T) hr (by decide) rfl (pa_cons (pv 0) (pa_cons (pe_fld (pv 5) rfl) pa_nil))) (pa_cons (pv 3) pa_nil))))))
      (pss_one (ps_set (i := 5) sc_calls_to_move.nd rfl (Or.inl rfl) (pe_c (cal_call_to T) hr (by decide) rfl (pa_cons (pv 0) (pa_cons (pe_c (cal_switch_of T) hr (by decide) rfl (pa_cons (pv 0) (pa_cons (pe_fld (pv 5) rfl) pa_nil))) (pa_cons (pv 2) pa_nil))))))))))
    (pss_one (ps_ret (pv 4)))))), ?_⟩)
  · obtain ⟨L, h, j, a, b, rfl, _⟩ := h
    rfl
  obtain ⟨L, h, j, a, b, rfl, R, B, ab, fb, k⟩ := h
  refine ⟨Nat.zero_le _, fun p hp => ?_⟩
  have s0 : Same H (upd H p (.lst [])) := same_new hp
  refine ⟨_, rfl, _, rfl, _, rfl, L, h, j, a, rfl, R.same s0, B, fun H1 v s1 o => ?_⟩
  refine ⟨fun m σ H' => ∃ t bs v, m = h.legs.length + 1 - t ∧ t ≤ h.legs.length ∧ σ = [some (.ref L.ex), some (iv j), some (iv a), some (iv b), some (.ref p), some v] ∧ Same H H' ∧ H' p = some (.lst (bs.map V.ref)) ∧
      All2 (CallOf L h) bs (run (nxt h.size h.legs a b) t (legTo h.size h.legs j a)) ∧ OptV L h (cur (nxt h.size h.legs a b) (legTo h.size h.legs j a) t) v,
    ⟨_, 0, [], v, rfl, Nat.zero_le _, rfl, Same.trans s0 s1, s1 _ _ upd_same, .nil, o⟩, ?_⟩
  rintro m σ H2 ⟨t, bs, v, rfl, ht, rfl, s2, hp2, al, o⟩
  refine ⟨_, rfl, _, rfl, ?_⟩
  have len := moves_len B.legs ab fb
  cases e : cur (nxt h.size h.legs a b) (legTo h.size h.legs j a) t with
  | none =>
    rw [e] at o
    have o : v = .non := o
    subst o
    refine iteF ⟨_, rfl, k H2 p bs s2 hp hp2 ?_⟩
    unfold moves
    rw [run_stop _ t _ _ e (by omega)]
    exact al
  | some x =>
    rw [e] at o
    obtain ⟨d, rfl, q⟩ := o
    have tl := run_lt _ e
    have tl2 := len (t + 1)
    have sn := run_snoc _ t _ x e
    have nx : cur (nxt h.size h.legs a b) (legTo h.size h.legs j a) (t + 1) = nxt h.size h.legs a b x := by
      rw [cur_succ, e]
      rfl
    have al' : All2 (CallOf L h) (bs ++ [d]) (run (nxt h.size h.legs a b) (t + 1) (legTo h.size h.legs j a)) := by
      rw [sn]
      exact al.snoc q
    have bl : bs.length < sizeLine := by
      rw [al.length]
      have := len t
      have := B.lines64
      have l1 : h.legs.length ≤ h.lines.length := by
        rw [B.len, ← List.length_map (f := fun (q : Te.Leg) => q.from_)]
        have := (nodup_from B).length_le_of_subset (l₂ := List.range h.size.lines) fun y hy => by
          rw [legs_from B] at hy
          obtain ⟨c, hc, rfl⟩ := List.mem_map.mp hy
          exact List.mem_range.mpr (B.calls c hc).f
        rw [List.length_range] at this
        exact this
      have : 64 < sizeLine := by decide
      omega
    obtain ⟨dx, na, c, h1, h2⟩ := q.obj (R.same s2) B
    have pd : d ≠ p := ne_of h1 hp2 (by intro z; cases z)
    obtain ⟨dxe, hxe⟩ := R.ex
    have s3 : Same H (upd H2 p (.lst ((bs ++ [d]).map V.ref))) := fun b' o' e' => by
      rw [upd_ne (ne_of_none e' hp)]
      exact s2 _ _ e'
    have R3 := R.same s3
    have h3 : upd H2 p (.lst ((bs ++ [d]).map V.ref)) d = some (.ins C.c_Call dx (callF x.from_ x.to_ na c.hops c.since (optI c.begun) (iv x.mid))) := by
      rw [upd_ne pd]
      exact h1
    refine iteT ⟨fun σ H' => ∃ v, σ = [some (.ref L.ex), some (iv j), some (iv a), some (iv b), some (.ref p), some v] ∧ Same (upd H2 p (.lst ((bs ++ [d]).map V.ref))) H' ∧ OptV L h (nxt h.size h.legs a b x) v, ?_, ?_⟩
    · rintro σ' H' ⟨v, rfl, s4, o⟩
      refine ⟨_, ?_, t + 1, bs ++ [d], v, rfl, by omega, rfl, Same.trans s3 s4, s4 _ _ upd_same, al', by rw [nx]; exact o⟩
      omega
    refine ⟨_, rfl, .inl ⟨rfl, _, SqL.of hp2⟩, _, rfl, p, _, _, rfl, rfl, hp2, by rw [List.length_map]; exact bl, ?_⟩
    have e5 : bs.map V.ref ++ [V.ref d] = (bs ++ [d]).map V.ref := by
      rw [List.map_append]
      rfl
    rw [e5]
    refine ⟨_, rfl, d, _, dx, _, _, rfl, h3, T.cl_Call, T.na_Call_way, callF_way, _, rfl, rfl, _, rfl, ?_⟩
    rw [dec_iv]
    refine if_b (fun c1 => ?_) (fun c1 => ?_)
    · have c1 : x.mid = a := of_decide_eq_true c1
      refine ⟨_, rfl, _, rfl, _, rfl, d, _, dx, _, _, rfl, h3, T.cl_Call, T.na_Call_caller, callF_caller, L, h, x.from_, rfl, ⟨dxe, s3 _ _ hxe⟩, B.size, _, rfl, L, h, _, b, rfl, R3, B, fun H4 v s4 o => ⟨v, rfl, s4, ?_⟩⟩
      rw [nxt, if_pos c1]
      exact o
    · have c1 : x.mid ≠ a := of_decide_eq_false c1
      refine ⟨_, rfl, _, rfl, _, rfl, d, _, dx, _, _, rfl, h3, T.cl_Call, T.na_Call_called, callF_called, L, h, x.to_, rfl, ⟨dxe, s3 _ _ hxe⟩, B.size, _, rfl, L, h, _, a, rfl, R3, B, fun H4 v s4 o => ⟨v, rfl, s4, ?_⟩⟩
      rw [nxt, if_neg c1]
      exact o
/-! ### a way for one more -/
theorem moves_nodup {h : Te.Hall} (B : Base h) {a b j : Nat} (ab : a ≠ b) (fb : Te.freeOut h.size h.legs j b = true) : (moves h.size h.legs a b j).Nodup := run_nodup (cur_once B.legs ab fb)
theorem filter_both (p q : Nat → Bool) (l : List Nat) : (l.filter p).filter (fun k => inV (iv k) (ivs (l.filter q))) = l.filter (fun k => p k && q k) := by
  rw [List.filter_filter]
  refine List.filter_congr fun k hk => ?_
  have e : inV (iv k) (ivs (l.filter q)) = q k := by
    unfold inV
    rw [Bool.eq_iff_iff, List.any_eq_true]
    constructor
    · rintro ⟨y, hy, e⟩
      obtain ⟨n, hn, rfl⟩ := List.mem_map.mp hy
      have e : n = k := by
        unfold eqV at e
        have e : ((n : Int) == (k : Int)) = true := e
        rw [beq_iff_eq] at e
        omega
      subst e
      exact (List.mem_filter.mp hn).2
    · intro hq
      refine ⟨iv k, List.mem_map.mpr ⟨k, List.mem_filter.mpr ⟨hk, hq⟩, rfl⟩, ?_⟩
      unfold eqV
      show ((k : Int) == (k : Int)) = true
      rw [beq_iff_eq]
  rw [e, Bool.and_comm]
theorem filter_yes {α : Type} {p : α → Bool} {l : List α} {n : α} (h : p n = true) : (l ++ [n]).filter p = l.filter p ++ [n] := by
  rw [List.filter_append, List.filter_cons_of_pos h, List.filter_nil]
theorem filter_not {α : Type} {p : α → Bool} {l : List α} {n : α} (h : p n = false) : (l ++ [n]).filter p = l.filter p := by
  rw [List.filter_append, List.filter_cons_of_neg (by rw [h]; exact Bool.false_ne_true), List.filter_nil, List.append_nil]
theorem flat_ivs (l : List Nat) : (ivs l).all flatV = true := by
  rw [List.all_eq_true]
  intro x hx
  obtain ⟨n, _, rfl⟩ := List.mem_map.mp hx
  rfl
theorem filter_head {p : Nat → Bool} {l : List Nat} {k : Nat} (h : l.find? p = some k) : (l.filter p)[0]? = some k := by
  rw [← List.head?_eq_getElem?, List.head?_filter]
  exact h
theorem filter_nohead {p : Nat → Bool} {l : List Nat} (h : l.find? p = none) : l.filter p = [] := by
  rw [List.filter_eq_nil_iff]
  exact List.find?_eq_none.mp h
def sp_put_on_a_way (K : PySem.W.Frag) (C : Cs) : Sp := fun vs H Q _ => ∃ (L : Lay) (h : Te.Hall) (c dx : Addr) (x y : Nat) (na : Addr) (hops since : Nat) (tv wv : V), vs = [.ref L.ex, .ref c] ∧ Rep C H L h ∧ Base h ∧ ¬ InCall h x ∧ ¬ InCall h y ∧
  H c = some (.ins C.c_Call dx (callF x y na hops since tv wv)) ∧ L.kind c = 0 ∧
  ∀ k l' cnt H', Te.route h.size h.legs x y = some (k, (l', cnt)) → Rep C H' L { h with legs := l' } → H' c = some (.ins C.c_Call dx (callF x y na hops since tv (iv k))) → (∀ b o, H b = some o → L.kind b % 10 = 0 → b ≠ c → H' b = some o) → Q (iv cnt) H'
theorem cal_put_on_a_way (T : Txt K mg C) : Cal P w K mg base 4 "put_on_a_way" (sp_put_on_a_way K C) := by
  refine T.d_put_on_a_way.cal sc_put_on_a_way (fun vs H Q E h => ?_) (fun f cdv A outer s H vs Q E hr h => ⟨_, (pss_cons (ps_set (i := 2) sc_put_on_a_way.nd rfl (Or.inl rfl) (pe_c (cal_switch_of T) hr (by decide) rfl (pa_cons (pv 0) (pa_cons (pe_fld (pv 1) rfl) pa_nil))))
    (pss_cons (ps_set (i := 3) sc_put_on_a_way.nd rfl (Or.inl rfl) (pe_c (cal_free_from T) hr (by decide) rfl (pa_cons (pv 0) (pa_cons (pe_c (cal_switch_of T) hr (by decide) rfl (pa_cons (pv 0) (pa_cons (pe_fld (pv 1) rfl) pa_nil))) pa_nil))))
    (pss_cons (ps_set (i := 4) sc_put_on_a_way.nd rfl (Or.inr rfl) (pe_c (cal_free_to T) hr (by decide) rfl (pa_cons (pv 0) (pa_cons (pv 2) pa_nil))))
    (pss_cons (ps_setLc (i := 5) (own := [("middle", 10)]) (g := (gName 10)) (tt := (tTest (tOp (rIn K false) (tVar 10) (tVar 4)))) (te := (tVar 10)) rfl sc_put_on_a_way.nd rfl rfl (sw_true rfl rfl rfl (by decide +kernel)) (pi_list (pv 3)) (blkOk_by (N := ["exchange", "call", "last", "free_first", "free_last", "free_both", "leave", "take", "chain", "moved", "middle"]) (sc := defScope s_put_on_a_way) (by decide +kernel)) (fun _ _ _ _ _ => (pg_name (i := 10) sc_put_on_a_way.nd rfl (Or.inl rfl))) (fun _ _ _ _ _ => (pts_one (pt_cmpR op_in_seq (pv 10) (pv 4) (by with_unfolding_all rfl)))) (fun _ _ _ _ _ => (pv 10)))
    (pss_cons (ps_if (pt_cmpR op_gt (pe_callB call_len_seq (by rfl) T.n_len PySem.boot_len (pa_cons (pv 5) pa_nil)) pe_int (nomark _))
      (pss_cons (ps_fld (pv 1) (pe_ix ix_list (pv 5) pe_int (fun _ _ => rfl)) rfl)
    (pss_one (ps_ret pe_int)))
      pss_nil)
    (pss_cons (ps_set (i := 6) sc_put_on_a_way.nd rfl (Or.inl rfl) (pe_ix ix_list (pv 3) pe_int (fun _ _ => rfl)))
    (pss_cons (ps_set (i := 7) sc_put_on_a_way.nd rfl (Or.inl rfl) (pe_ix ix_list (pv 4) pe_int (fun _ _ => rfl)))
    (pss_cons (ps_set (i := 8) sc_put_on_a_way.nd rfl (Or.inl rfl) (pe_c (cal_calls_to_move T) hr (by decide) rfl (pa_cons (pv 0) (pa_cons (pv 2) (pa_cons (pv 6) (pa_cons (pv 7) pa_nil))))))
    (pss_cons (ps_for PassesOwn.never rfl (pi_list (pv 8)) (pg_name (i := 9) sc_put_on_a_way.nd rfl (Or.inl rfl))
      (pss_one (ps_fld (pv 9) (pe_ifExp (pt_cmpR op_eq (pe_fld (pv 9) rfl) (pv 6) (nomark _)) (pv 7) (pv 6)) rfl)))
    (pss_cons (ps_fld (pv 1) (pv 6) rfl)
    (pss_one (ps_ret (pe_callB call_len_seq (by rfl) T.n_len PySem.boot_len (pa_cons (pv 8) pa_nil)))))))))))))), ?_⟩)
  · obtain ⟨L, h, c, dx, x, y, na, hops, since, tv, wv, rfl, _⟩ := h
    rfl
  obtain ⟨L, h, c, dx, x, y, na, hops, since, tv, wv, rfl, R, B, nx, ny, hc, kc, k⟩ := h
  obtain ⟨dxe, hxe⟩ := R.ex
  have m16 := B.size.m16
  -- last, free_first, free_last
  refine ⟨_, rfl, _, rfl, c, _, dx, _, _, rfl, hc, T.cl_Call, T.na_Call_called, callF_called, L, h, y, rfl, ⟨dxe, hxe⟩, B.size, ?_⟩
  refine ⟨_, rfl, _, rfl, _, rfl, c, _, dx, _, _, rfl, hc, T.cl_Call, T.na_Call_caller, callF_caller, L, h, x, rfl, ⟨dxe, hxe⟩, B.size, L, h, _, rfl, R, B, fun H1 p1 s1 hp1 => ?_⟩
  refine ⟨_, rfl, _, rfl, L, h, _, rfl, R.same s1, B, fun H2 p2 s2 hp2 => ?_⟩
  have s02 := Same.trans s1 s2
  have hq1 := s2 _ _ hp1
  -- free_both
  refine ⟨_, rfl, p1, rfl, ⟨_, SqL.of hq1⟩, fun D hD => lc_gen (acc := fun i => ivs ((((List.range h.size.m).filter (Te.freeIn h.size h.legs (h.size.switch x))).take i).filter (fun k => inV (iv k) (ivs ((List.range h.size.m).filter (Te.freeOut h.size h.legs (h.size.switch y))))))) (SqL.of hq1) hD rfl (fun i hi => ?_) (fun i v H3 Y Nn hv s3 fy fn => ?_) (fun H3 s3 hD3 => ?_)⟩
  · rw [List.length_map]
    refine Nat.lt_of_le_of_lt (Nat.le_trans (List.length_filter_le _ _) ?_) (show 16 < sizeLine by decide)
    rw [List.length_take]
    have := List.length_filter_le (Te.freeIn h.size h.legs (h.size.switch x)) (List.range h.size.m)
    rw [List.length_range] at this
    omega
  · obtain ⟨n, hn, rfl⟩ := ivs_get hv
    refine ⟨_, rfl, _, rfl, p2, _, rfl, .inl (SqL.of (s3 _ _ hp2)), rfl, flat_ivs _, _, rfl, ?_⟩
    have e0 := take_snoc hn
    refine if_b (fun c1 => ⟨_, rfl, fy _ _ (Same.refl _) ?_⟩) (fun c1 => fn _ (Same.refl _) ?_)
    · rw [if_neg Bool.false_ne_true] at c1
      rw [e0, filter_yes (p := fun k => inV (iv k) (ivs ((List.range h.size.m).filter (Te.freeOut h.size h.legs (h.size.switch y))))) c1]
      show List.map iv (_ ++ _) = _
      rw [List.map_append]
      rfl
    · rw [if_neg Bool.false_ne_true] at c1
      rw [e0, filter_not (p := fun k => inV (iv k) (ivs ((List.range h.size.m).filter (Te.freeOut h.size h.legs (h.size.switch y))))) c1]
  have hm : (ivs ((List.range h.size.m).filter (Te.freeIn h.size h.legs (h.size.switch x)))).length = ((List.range h.size.m).filter (Te.freeIn h.size h.legs (h.size.switch x))).length := List.length_map _
  rw [hm, List.take_length, filter_both] at hD3
  have s03 := Same.trans s02 s3
  have hc3 := s03 _ _ hc
  have lm : ∀ l : List Nat, (ivs l).length = l.length := fun l => List.length_map _
  refine ⟨_, rfl, D, _, rfl, .inl (SqL.of hD3), _, _, rfl, rfl, _, rfl, ?_⟩
  rw [lm]
  cases B.routed nx ny with
  | both k0 e r =>
    have h0 := filter_head e
    have pos : 0 < ((List.range h.size.m).filter (fun k => Te.freeIn h.size h.legs (h.size.switch x) k && Te.freeOut h.size h.legs (h.size.switch y) k)).length := (List.getElem?_eq_some_iff.mp h0).1
    refine if_t (decide_eq_true (by omega)) ?_
    have h0' : (ivs ((List.range h.size.m).filter (fun k => Te.freeIn h.size h.legs (h.size.switch x) k && Te.freeOut h.size h.legs (h.size.switch y) k)))[0]? = some (iv k0) := by
      rw [List.getElem?_map, h0]
      rfl
    refine ⟨_, rfl, D, _, 0, _, rfl, rfl, SqL.of hD3, at_of (j := 0) rfl h0', _, rfl, c, _, dx, _, rfl, hc3, T.cl_Call, T.na_Call_way, by show 7 < 1000; decide, ?_⟩
    rw [callF_putWay]
    have RR : Rep C (upd H3 c (.ins C.c_Call dx (callF x y na hops since tv (iv k0)))) L { h with legs := h.legs } := (R.same s03).upd_out hc3 kc
    exact k _ _ 0 _ r RR upd_same fun b o hb _ ne => by rw [upd_ne ne]; exact s03 _ _ hb
  | moved a b e ea eb ab r =>
    rw [filter_nohead e]
    refine if_f rfl ?_
    have ha0 : (ivs ((List.range h.size.m).filter (Te.freeIn h.size h.legs (h.size.switch x))))[0]? = some (iv a) := by
      rw [List.getElem?_map, filter_head ea]
      rfl
    have hb0 : (ivs ((List.range h.size.m).filter (Te.freeOut h.size h.legs (h.size.switch y))))[0]? = some (iv b) := by
      rw [List.getElem?_map, filter_head eb]
      rfl
    refine ⟨_, rfl, p1, _, 0, _, rfl, rfl, SqL.of (s3 _ _ hq1), at_of (j := 0) rfl ha0, ?_⟩
    refine ⟨_, rfl, p2, _, 0, _, rfl, rfl, SqL.of (s3 _ _ hp2), at_of (j := 0) rfl hb0, ?_⟩
    have fb := List.find?_some eb
    have R3 := R.same s03
    refine ⟨_, rfl, _, rfl, _, rfl, _, rfl, L, h, _, a, b, rfl, R3, B, ab, fb, fun H4 p4 bs s4 np4 hp4 al => ?_⟩
    have nd := moves_nodup B ab fb
    have kp4 : L.kind p4 = 0 := R3.kfree p4 np4
    have sub : ∀ q ∈ moves h.size h.legs a b (h.size.switch y), q ∈ h.legs := fun q hq => (moves_in hq).1
    have hc4 := s4 _ _ hc3
    have s04 := Same.trans s03 s4
    -- each goes the other way
    refine ⟨_, rfl, p4, rfl, ⟨_, SqL.of hp4⟩, for_list (xs := bs.map V.ref)
      (fun t σ H' => ∃ u v, σ = [some (.ref L.ex), some (.ref c), some (iv (h.size.switch y)), some (.ref p1), some (.ref p2), some (.ref D), some (iv a), some (iv b), some (.ref p4), u, v] ∧
        Rep C H' L { h with legs := h.legs.map (flip ((moves h.size h.legs a b (h.size.switch y)).take t) a b) } ∧ ∀ q o, H4 q = some o → L.kind q % 10 = 0 → H' q = some o)
      ⟨_, _, rfl, ?_, fun q o hq _ => hq⟩ (fun t σ H' _ ⟨_, _, _, _, kp⟩ => SqL.of (kp _ _ hp4 (by rw [kp4]))) ?_ ?_⟩
    · have e0 : h.legs.map (flip ((moves h.size h.legs a b (h.size.switch y)).take 0) a b) = h.legs := by
        have : ∀ q : Te.Leg, flip ((moves h.size h.legs a b (h.size.switch y)).take 0) a b q = q := fun q => rfl
        rw [List.map_congr_left fun q _ => this q]
        exact List.map_id' _
      rw [e0]
      exact R.same s04
    · rintro t v σ H5 hv ⟨u, v', rfl, R5, kp⟩
      obtain ⟨d, hd, rfl⟩ := refs_get hv
      obtain ⟨q, hq, p, hp1', hp2'⟩ := al.get hd
      obtain ⟨st1, st2⟩ := flip_step B.legs sub nd (a := a) (b := b) hq hp2'
      obtain ⟨c', hc', ef, et⟩ := same_at B.same hp2'
      obtain ⟨dx5, na5, h5, h6⟩ := (R5.calls p d c' q hp1' hc' st1).ex
      have R6 := fun kk => R5.setWay (k := kk) hp1' hc' st1 h5 h6
      have kd : L.kind d % 10 ≠ 0 := by rw [R.kcall d (List.mem_of_getElem? hp1')]; decide
      refine ⟨_, rfl, d, _, dx5, _, _, rfl, h5, T.cl_Call, T.na_Call_way, callF_way, _, rfl, rfl, _, rfl, ?_⟩
      rw [dec_iv]
      refine if_b (fun c1 => ?_) (fun c1 => ?_)
      · refine ⟨_, rfl, _, rfl, d, _, dx5, _, rfl, h5, T.cl_Call, T.na_Call_way, by show 7 < 1000; decide, _, _, rfl, ?_, fun q' o hq' kq' => ?_⟩
        · rw [callF_putWay, st2, if_pos (of_decide_eq_true c1)]
          exact R6 b
        · rw [upd_ne (show q' ≠ d from fun e => kd (e ▸ kq'))]
          exact kp q' o hq' kq'
      · refine ⟨_, rfl, _, rfl, d, _, dx5, _, rfl, h5, T.cl_Call, T.na_Call_way, by show 7 < 1000; decide, _, _, rfl, ?_, fun q' o hq' kq' => ?_⟩
        · rw [callF_putWay, st2, if_neg (of_decide_eq_false c1)]
          exact R6 a
        · rw [upd_ne (show q' ≠ d from fun e => kd (e ▸ kq'))]
          exact kp q' o hq' kq'
    · rintro σ H5 ⟨u, v', rfl, R5, kp⟩
      have bl : (bs.map V.ref).length = (moves h.size h.legs a b (h.size.switch y)).length := by rw [List.length_map, al.length]
      rw [bl, List.take_length] at R5
      have hc5 := kp _ _ hc4 (by rw [kc])
      refine ⟨_, rfl, _, rfl, c, _, dx, _, rfl, hc5, T.cl_Call, T.na_Call_way, by show 7 < 1000; decide, ?_⟩
      rw [callF_putWay]
      have p4c : p4 ≠ c := ne_of hp4 hc4 (by intro z; cases z)
      refine ⟨_, rfl, p4, _, rfl, .inl (SqL.of (by rw [upd_ne p4c]; exact kp _ _ hp4 (by rw [kp4]))), ?_⟩
      have el : (((bs.map V.ref).length : Nat) : Int) = (((moves h.size h.legs a b (h.size.switch y)).length : Nat) : Int) := by rw [bl]
      rw [el]
      refine k _ _ _ _ r (R5.upd_out hc5 kc) upd_same fun q o hq kq ne => ?_
      rw [upd_ne ne]
      exact kp q o (s04 _ _ hq) kq
end
end Tx
end
section
namespace Tx
open PySem PySem.Spec PyProof.Rows L2
section
variable {C : Cs} {H : Hp} {L : Lay} {h : Te.Hall}
theorem Rep.free (R : Rep C H L h) {b : Addr} {o : HO} (kb : ∀ a, H a = none → L.kind a = 0) : ∀ a, upd H b o a = none → L.kind a = 0 := by
  intro a ha
  by_cases e : a = b
  · subst e
    rw [upd_same] at ha
    cases ha
  · rw [upd_ne e] at ha
    exact kb a ha
theorem lineOf_set {i j : Nat} {l : Te.Line} (hi : i < h.lines.length) : Te.lineOf (Te.setLine h i l) j = if j = i then l else Te.lineOf h j := by
  by_cases e : j = i
  · subst e
    rw [if_pos rfl, lineOf_same hi]
  · rw [if_neg e, lineOf_other e]
theorem set_lineOf {i : Nat} : Te.setLine h i (Te.lineOf h i) = h := by
  unfold Te.setLine
  have e : h.lines.set i (Te.lineOf h i) = h.lines := by
    apply List.ext_getElem?
    intro j
    rw [List.getElem?_set]
    by_cases c : i = j
    · subst c
      by_cases l : i < h.lines.length
      · rw [if_pos rfl, if_pos l, List.getElem?_eq_getElem l, lineOf_get (List.getElem?_eq_getElem l)]
      · rw [if_pos rfl, if_neg l, List.getElem?_eq_none (by omega)]
    · rw [if_neg c]
  rw [e]
/-- a line's object is changed -/
theorem Rep.line (R : Rep C H L h) {i : Nat} {a hd : Addr} (ha : L.line[i]? = some a) (hh : L.hand[i]? = some hd) {l' : Te.Line} {sn : Nat} {dx dl : Addr} {nv cv : V} {d0 : List Nat} (e1 : l'.always = (Te.lineOf h i).always) (e2 : l'.busy = (Te.lineOf h i).busy) (e3 : l'.late = (Te.lineOf h i).late)
    (hn : NumV H L nv l'.number) (hd0 : Dig H L dl d0) (hdl : ∀ d, l'.stage = .dials d → d0 = d) (hcv : (∀ (k : Nat) c, l'.stage = .on → h.calls[k]? = some c → (c.from_ = i ∨ c.to_ = i) → ∃ b, L.call[k]? = some b ∧ cv = .ref b) ∧ (sn = 0 ∨ sn = 4 → cv = .non)) :
    Rep C (upd H a (.ins C.c_Line dx (lineF sn nv dl hd cv l'.owes))) { L with st := fun j => if j = i then sn else L.st j } (Te.setLine h i l') := by
  have ka : L.kind a = 6 := R.kline a (List.mem_of_getElem? ha)
  have k0 : L.kind a ≠ 0 := by rw [ka]; decide
  have hi : i < h.lines.length := by rw [← R.ll]; exact (List.getElem?_eq_some_iff.mp ha).1
  obtain ⟨dxe, hxe⟩ := R.ex
  obtain ⟨kvs, hp, pp⟩ := R.pd
  have ne : ∀ {b : Addr} {j : Nat}, L.kind b = j → j ≠ 6 → b ≠ a := fun hb hj => Lay.ne hb ka hj
  have lo : ∀ j, Te.lineOf (Te.setLine h i l') j = if j = i then l' else Te.lineOf h j := fun j => lineOf_set hi
  refine ⟨⟨dxe, ?_⟩, ?_, ?_, ?_, fun j b d hb hd' => ?_, ?_, R.groups.imp fun b g q => ⟨(q.upd (b := a) (o := .ins C.c_Line dx (lineF sn nv dl hd cv l'.owes)) k0).ex, q.kind⟩, ⟨kvs, ?_, pp⟩, ?_, R.cl, R.gl, fun j b c q hb hc hq => ⟨((R.calls j b c q hb hc hq).upd (o := .ins C.c_Line dx (lineF sn nv dl hd cv l'.owes)) k0 (ne (R.kcall b (List.mem_of_getElem? hb)) (by decide))).ex⟩,
    R.kex, R.kls, R.kgs, R.kpd, R.kcs, R.kline, R.khand, R.kcall, R.ndl, R.ndh, R.ndc, R.free R.kfree, (R.rc.upd k0 (by rw [ka]; decide)).move rfl rfl rfl R.rc.kind fun z => z⟩
  · rw [upd_ne (ne R.kex (by decide))]
    exact hxe
  · rw [upd_ne (ne R.kls (by decide))]
    exact R.ls
  · show L.line.length = (h.lines.set i l').length
    rw [List.length_set]
    exact R.ll
  · show L.hand.length = (h.lines.set i l').length
    rw [List.length_set]
    exact R.hl
  · by_cases e : j = i
    · subst e
      rw [ha] at hb
      cases hb
      rw [hh] at hd'
      cases hd'
      obtain ⟨_, _, _, _, a0, a1, a2, _, _, _, _, _, h5, h6, h7, h8, _⟩ := (R.lines j a hd ha hh).ex
      have lj := lo j
      rw [if_pos rfl] at lj
      show LineAt C _ { L with st := fun k => if k = j then sn else L.st k } _ (if j = j then sn else L.st j) j a hd
      rw [if_pos rfl]
      refine ⟨dx, nv, dl, d0, a0, a1, a2, cv, by rw [lj]; exact upd_same, ?_⟩
      rw [lj, e1, e2, e3]
      refine ⟨hn.upd k0, hd0.upd k0, hdl, ?_, h6.upd k0, h7.upd k0, h8.upd k0, hcv⟩
      rw [upd_ne (ne (R.khand hd (List.mem_of_getElem? hh)) (by decide))]
      exact h5
    · have n1 : b ≠ a := fun q => e (nd_ix R.ndl (q ▸ hb) ha)
      obtain ⟨dx1, nv1, dl1, d1, a0, a1, a2, cv1, h1, h2, h3, h4, h5, h6, h7, h8, h9⟩ := ((R.lines j b d hb hd').upd (o := .ins C.c_Line dx (lineF sn nv dl hd cv l'.owes)) k0 n1 (ne (R.khand d (List.mem_of_getElem? hd')) (by decide))).ex
      have lj := lo j
      rw [if_neg e] at lj
      show LineAt C _ { L with st := fun k => if k = i then sn else L.st k } _ (if j = i then sn else L.st j) j b d
      rw [if_neg e]
      refine ⟨dx1, nv1, dl1, d1, a0, a1, a2, cv1, by rw [lj]; exact h1, ?_⟩
      rw [lj]
      exact ⟨h2, h3, h4, h5, h6, h7, h8, h9⟩
  · rw [upd_ne (ne R.kgs (by decide))]
    exact R.gs
  · rw [upd_ne (ne R.kpd (by decide))]
    exact hp
  · rw [upd_ne (ne R.kcs (by decide))]
    exact R.cs
/-- a line's hands are changed -/
theorem Rep.hands (R : Rep C H L h) {i : Nat} {a hd : Addr} (ha : L.line[i]? = some a) (hh : L.hand[i]? = some hd) {l' : Te.Line} {b0 b1 b2 : Addr} (e1 : l'.number = (Te.lineOf h i).number) (e2 : l'.stage = (Te.lineOf h i).stage) (e3 : l'.owes = (Te.lineOf h i).owes)
    (h0 : Dig H L b0 (l'.always.getD [])) (h1 : Dig H L b1 (l'.busy.getD [])) (h2 : Dig H L b2 (l'.late.getD [])) :
    Rep C (upd H hd (.lst [.ref b0, .ref b1, .ref b2])) L (Te.setLine h i l') := by
  have ka : L.kind hd = 7 := R.khand hd (List.mem_of_getElem? hh)
  have k0 : L.kind hd ≠ 0 := by rw [ka]; decide
  have hi : i < h.lines.length := by rw [← R.ll]; exact (List.getElem?_eq_some_iff.mp ha).1
  obtain ⟨dxe, hxe⟩ := R.ex
  obtain ⟨kvs, hp, pp⟩ := R.pd
  have ne : ∀ {b : Addr} {j : Nat}, L.kind b = j → j ≠ 7 → b ≠ hd := fun hb hj => Lay.ne hb ka hj
  have lo : ∀ j, Te.lineOf (Te.setLine h i l') j = if j = i then l' else Te.lineOf h j := fun j => lineOf_set hi
  refine ⟨⟨dxe, ?_⟩, ?_, ?_, ?_, fun j b d hb hd' => ?_, ?_, R.groups.imp fun a g q => q.upd k0, ⟨kvs, ?_, pp⟩, ?_, R.cl, R.gl, fun j b c q hb hc hq => (R.calls j b c q hb hc hq).upd k0 (ne (R.kcall b (List.mem_of_getElem? hb)) (by decide)),
    R.kex, R.kls, R.kgs, R.kpd, R.kcs, R.kline, R.khand, R.kcall, R.ndl, R.ndh, R.ndc, R.free R.kfree, R.rc.upd k0 (by rw [ka]; decide)⟩
  · rw [upd_ne (ne R.kex (by decide))]
    exact hxe
  · rw [upd_ne (ne R.kls (by decide))]
    exact R.ls
  · show L.line.length = (h.lines.set i l').length
    rw [List.length_set]
    exact R.ll
  · show L.hand.length = (h.lines.set i l').length
    rw [List.length_set]
    exact R.hl
  · have lj := lo j
    by_cases e : j = i
    · subst e
      rw [ha] at hb
      cases hb
      rw [hh] at hd'
      cases hd'
      obtain ⟨dx, nv, dl, d0, a0, a1, a2, cv, g1, g2, g3, g4, _, _, _, _, g9⟩ := (R.lines j a hd ha hh).ex
      rw [if_pos rfl] at lj
      refine ⟨dx, nv, dl, d0, b0, b1, b2, cv, ?_, ?_⟩
      · rw [upd_ne (ne (R.kline a (List.mem_of_getElem? ha)) (by decide)), lj, e3]
        exact g1
      · rw [lj, e1, e2]
        exact ⟨g2.upd k0, g3.upd k0, g4, upd_same, h0.upd k0, h1.upd k0, h2.upd k0, g9⟩
    · have n1 : d ≠ hd := fun q => e (nd_ix R.ndh (q ▸ hd') hh)
      obtain ⟨dx1, nv1, dl1, d1, a0, a1, a2, cv1, h1, h2, h3, h4, h5, h6, h7, h8, h9⟩ := ((R.lines j b d hb hd').upd (o := .lst [.ref b0, .ref b1, .ref b2]) k0 (ne (R.kline b (List.mem_of_getElem? hb)) (by decide)) n1).ex
      rw [if_neg e] at lj
      refine ⟨dx1, nv1, dl1, d1, a0, a1, a2, cv1, by rw [lj]; exact h1, ?_⟩
      rw [lj]
      exact ⟨h2, h3, h4, h5, h6, h7, h8, h9⟩
  · rw [upd_ne (ne R.kgs (by decide))]
    exact R.gs
  · rw [upd_ne (ne R.kpd (by decide))]
    exact hp
  · rw [upd_ne (ne R.kcs (by decide))]
    exact R.cs
/-- one more group -/
theorem Rep.addGroup (R : Rep C H L h) {g dx na ma : Addr} {d m : List Nat} (hg : H g = some (.ins C.c_Group dx (groupF na ma))) (kg : L.kind g = 0) (hn : Dig H L na d) (hm : Dig H L ma m) :
    Rep C (upd H L.gs (.lst ((L.grp ++ [g]).map V.ref))) { L with grp := L.grp ++ [g] } { h with groups := h.groups ++ [(d, m)] } := by
  have ka : L.kind L.gs = 3 := R.kgs
  have k0 : L.kind L.gs ≠ 0 := by rw [ka]; decide
  obtain ⟨dxe, hxe⟩ := R.ex
  obtain ⟨kvs, hp, pp⟩ := R.pd
  have ne : ∀ {b : Addr} {j : Nat}, L.kind b = j → j ≠ 3 → b ≠ L.gs := fun hb hj => Lay.ne hb ka hj
  refine ⟨⟨dxe, ?_⟩, ?_, R.ll, R.hl, fun j b d hb hd' => ?_, upd_same, ?_, ⟨kvs, ?_, pp⟩, ?_, R.cl, R.gl, fun j b c q hb hc hq => ?_,
    R.kex, R.kls, R.kgs, R.kpd, R.kcs, R.kline, R.khand, R.kcall, R.ndl, R.ndh, R.ndc, R.free R.kfree, (R.rc.upd k0 (by rw [ka]; decide)).move rfl rfl rfl R.rc.kind fun z => z⟩
  · rw [upd_ne (ne R.kex (by decide))]
    exact hxe
  · rw [upd_ne (ne R.kls (by decide))]
    exact R.ls
  · exact ⟨((R.lines j b d hb hd').upd (o := .lst ((L.grp ++ [g]).map V.ref)) k0 (ne (R.kline b (List.mem_of_getElem? hb)) (by decide)) (ne (R.khand d (List.mem_of_getElem? hd')) (by decide))).ex⟩
  · have q1 : All2 (GroupAt C (upd H L.gs (.lst ((L.grp ++ [g]).map V.ref))) { L with grp := L.grp ++ [g] }) L.grp h.groups := R.groups.imp fun a g' q => by
      have q := q.upd (o := .lst ((L.grp ++ [g]).map V.ref)) k0
      exact ⟨q.ex, q.kind⟩
    refine q1.snoc ⟨⟨dx, na, ma, ?_, hn.upd k0, hm.upd k0⟩, kg⟩
    rw [upd_ne (ne kg (by decide))]
    exact hg
  · rw [upd_ne (ne R.kpd (by decide))]
    exact hp
  · rw [upd_ne (ne R.kcs (by decide))]
    exact R.cs
  · exact ⟨((R.calls j b c q hb hc hq).upd (o := .lst ((L.grp ++ [g]).map V.ref)) k0 (ne (R.kcall b (List.mem_of_getElem? hb)) (by decide))).ex⟩
/-- prices are told -/
theorem Rep.setPrices (R : Rep C H L h) {kvs : List (List Key × V)} {ps : List (Te.Digits × Nat)} (pr : Prices kvs ps) : Rep C (upd H L.pd (.dT kvs)) L { h with prices := ps } := by
  have ka : L.kind L.pd = 4 := R.kpd
  have k0 : L.kind L.pd ≠ 0 := by rw [ka]; decide
  obtain ⟨dxe, hxe⟩ := R.ex
  have ne : ∀ {b : Addr} {j : Nat}, L.kind b = j → j ≠ 4 → b ≠ L.pd := fun hb hj => Lay.ne hb ka hj
  refine ⟨⟨dxe, ?_⟩, ?_, R.ll, R.hl, fun j b d hb hd' => ?_, ?_, R.groups.imp fun a g' q => q.upd k0, ⟨kvs, upd_same, pr⟩, ?_, R.cl, R.gl, fun j b c q hb hc hq => (R.calls j b c q hb hc hq).upd k0 (ne (R.kcall b (List.mem_of_getElem? hb)) (by decide)),
    R.kex, R.kls, R.kgs, R.kpd, R.kcs, R.kline, R.khand, R.kcall, R.ndl, R.ndh, R.ndc, R.free R.kfree, R.rc.upd k0 (by rw [ka]; decide)⟩
  · rw [upd_ne (ne R.kex (by decide))]
    exact hxe
  · rw [upd_ne (ne R.kls (by decide))]
    exact R.ls
  · exact ⟨((R.lines j b d hb hd').upd (o := .dT kvs) k0 (ne (R.kline b (List.mem_of_getElem? hb)) (by decide)) (ne (R.khand d (List.mem_of_getElem? hd')) (by decide))).ex⟩
  · rw [upd_ne (ne R.kgs (by decide))]
    exact R.gs
  · rw [upd_ne (ne R.kcs (by decide))]
    exact R.cs
/-- the exchange's own numbers are changed -/
theorem Rep.setEx (R : Rep C H L h) {dx : Addr} {t n mv : Nat} : Rep C (upd H L.ex (.ins C.c_Exchange dx (exF L { h with wait := t, now := n, moved := mv }))) L { h with wait := t, now := n, moved := mv } := by
  have ka : L.kind L.ex = 1 := R.kex
  have k0 : L.kind L.ex ≠ 0 := by rw [ka]; decide
  obtain ⟨kvs, hp, pp⟩ := R.pd
  have ne : ∀ {b : Addr} {j : Nat}, L.kind b = j → j ≠ 1 → b ≠ L.ex := fun hb hj => Lay.ne hb ka hj
  refine ⟨⟨dx, upd_same⟩, ?_, R.ll, R.hl, fun j b d hb hd' => ?_, ?_, R.groups.imp fun a g' q => q.upd k0, ⟨kvs, ?_, pp⟩, ?_, R.cl, R.gl, fun j b c q hb hc hq => (R.calls j b c q hb hc hq).upd k0 (ne (R.kcall b (List.mem_of_getElem? hb)) (by decide)),
    R.kex, R.kls, R.kgs, R.kpd, R.kcs, R.kline, R.khand, R.kcall, R.ndl, R.ndh, R.ndc, R.free R.kfree, R.rc.upd k0 (by rw [ka]; decide)⟩
  · rw [upd_ne (ne R.kls (by decide))]
    exact R.ls
  · exact ⟨((R.lines j b d hb hd').upd k0 (ne (R.kline b (List.mem_of_getElem? hb)) (by decide)) (ne (R.khand d (List.mem_of_getElem? hd')) (by decide))).ex⟩
  · rw [upd_ne (ne R.kgs (by decide))]
    exact R.gs
  · rw [upd_ne (ne R.kpd (by decide))]
    exact hp
  · rw [upd_ne (ne R.kcs (by decide))]
    exact R.cs
/-- one more call -/
theorem Rep.addCall (R : Rep C H L h) {c dx na : Addr} {cl : Te.Call_} {k : Nat} (hc : H c = some (.ins C.c_Call dx (callF cl.from_ cl.to_ na cl.hops cl.since (optI cl.begun) (iv k)))) (kc : L.kind c = 0) (hn : Dig H L na cl.dialed) (nf : (Te.lineOf h cl.from_).stage ≠ .on) (nt : (Te.lineOf h cl.to_).stage ≠ .on) :
    Rep C (upd H L.cs (.lst ((L.call ++ [c]).map V.ref))) { L with call := L.call ++ [c], kind := fun q => if q = c then 8 else L.kind q } { h with calls := h.calls ++ [cl], legs := h.legs ++ [⟨cl.from_, cl.to_, k⟩] } := by
  have ka : L.kind L.cs = 5 := R.kcs
  have k0 : L.kind L.cs ≠ 0 := by rw [ka]; decide
  obtain ⟨dxe, hxe⟩ := R.ex
  obtain ⟨kvs, hp, pp⟩ := R.pd
  have ne : ∀ {b : Addr} {j : Nat}, L.kind b = j → j ≠ 5 → b ≠ L.cs := fun hb hj => Lay.ne hb ka hj
  have kk : ∀ {b : Addr} {j : Nat}, L.kind b = j → j ≠ 0 → (if b = c then 8 else L.kind b) = j := fun {b j} hb hj => by rw [if_neg (Lay.ne hb kc hj)]; exact hb
  have dg : ∀ {a : Addr} {d : List Nat}, Dig H L a d → Dig (upd H L.cs (.lst ((L.call ++ [c]).map V.ref))) { L with call := L.call ++ [c], kind := fun q => if q = c then 8 else L.kind q } a d := fun {a d} q => by
    refine ⟨(q.upd k0).1, ?_⟩
    show (if a = c then 8 else L.kind a) = 0
    rw [if_neg (ne_of q.1 hc (by intro z; cases z))]
    exact q.2
  have nm : ∀ {v : V} {o : Option (List Nat)}, NumV H L v o → NumV (upd H L.cs (.lst ((L.call ++ [c]).map V.ref))) { L with call := L.call ++ [c], kind := fun q => if q = c then 8 else L.kind q } v o := by
    intro v o q
    cases o with
    | none => exact q
    | some d =>
      obtain ⟨a, e, q⟩ := q
      exact ⟨a, e, dg q⟩
  have nc : c ∉ L.call := fun q => by
    have := R.kcall c q
    omega
  refine ⟨⟨dxe, ?_⟩, ?_, R.ll, R.hl, fun j b d hb hd' => ?_, ?_, R.groups.imp fun a g q => ?_, ⟨kvs, ?_, pp⟩, upd_same, ?_, ?_, fun j b c' q hb hc' hq => ?_,
    kk R.kex (by decide), kk R.kls (by decide), kk R.kgs (by decide), kk R.kpd (by decide), kk R.kcs (by decide), fun a ha => kk (R.kline a ha) (by decide), fun a ha => kk (R.khand a ha) (by decide), fun a ha => ?_, R.ndl, R.ndh, nd_snoc R.ndc nc, fun a ha => ?_, R.rc.move rfl rfl (upd_ne (ne R.rc.kind (by decide))) (kk R.rc.kind (by decide)) dg⟩
  · rw [upd_ne (ne R.kex (by decide))]
    exact hxe
  · rw [upd_ne (ne R.kls (by decide))]
    exact R.ls
  · obtain ⟨dx1, nv, dl, d0, a0, a1, a2, cv, h1, h2, h3, h4, h5, h6, h7, h8, h9⟩ := (R.lines j b d hb hd').ex
    refine ⟨dx1, nv, dl, d0, a0, a1, a2, cv, ?_, nm h2, dg h3, h4, ?_, dg h6, dg h7, dg h8, fun k' c' on hk e => ?_, h9.2⟩
    · rw [upd_ne (ne (R.kline b (List.mem_of_getElem? hb)) (by decide))]
      exact h1
    · rw [upd_ne (ne (R.khand d (List.mem_of_getElem? hd')) (by decide))]
      exact h5
    · have hk : (h.calls ++ [cl])[k']? = some c' := hk
      have on : (Te.lineOf h j).stage = .on := on
      rw [List.getElem?_append] at hk
      by_cases q : k' < h.calls.length
      · rw [if_pos q] at hk
        obtain ⟨b', hb', e'⟩ := h9.1 k' c' on hk e
        refine ⟨b', ?_, e'⟩
        show (L.call ++ [c])[k']? = some b'
        rw [List.getElem?_append_left (List.getElem?_eq_some_iff.mp hb').1]
        exact hb'
      · rw [if_neg q] at hk
        have hk2 := List.mem_of_getElem? hk
        rw [List.mem_singleton] at hk2
        subst hk2
        rcases e with e | e
        · rw [e] at nf
          exact (nf on).elim
        · rw [e] at nt
          exact (nt on).elim
  · rw [upd_ne (ne R.kgs (by decide))]
    exact R.gs
  · obtain ⟨dx1, n1, m1, h1, h2, h3⟩ := q.ex
    refine ⟨⟨dx1, n1, m1, ?_, dg h2, dg h3⟩, ?_⟩
    · rw [upd_ne (ne q.kind (by decide))]
      exact h1
    · show (if a = c then 8 else L.kind a) = 0
      rw [if_neg (ne_of h1 hc (by intro z; injection z with z1 z2 z3; unfold callF groupF at z3; simp at z3))]
      exact q.kind
  · rw [upd_ne (ne R.kpd (by decide))]
    exact hp
  · show (L.call ++ [c]).length = (h.calls ++ [cl]).length
    rw [List.length_append, List.length_append, R.cl]
    rfl
  · show (h.legs ++ [_]).length = (h.calls ++ [cl]).length
    rw [List.length_append, List.length_append, R.gl]
    rfl
  · have hb : (L.call ++ [c])[j]? = some b := hb
    have hc' : (h.calls ++ [cl])[j]? = some c' := hc'
    have hq : (h.legs ++ [(⟨cl.from_, cl.to_, k⟩ : Te.Leg)])[j]? = some q := hq
    rw [List.getElem?_append] at hb hc' hq
    by_cases z : j < h.calls.length
    · rw [if_pos (by rw [R.cl]; exact z)] at hb
      rw [if_pos z] at hc'
      rw [if_pos (by rw [R.gl]; exact z)] at hq
      obtain ⟨dx1, n1, h1, h2⟩ := (R.calls j b c' q hb hc' hq).ex
      refine ⟨dx1, n1, ?_, dg h2⟩
      rw [upd_ne (ne (R.kcall b (List.mem_of_getElem? hb)) (by decide))]
      exact h1
    · rw [if_neg (by rw [R.cl]; exact z)] at hb
      rw [if_neg z] at hc'
      rw [if_neg (by rw [R.gl]; exact z)] at hq
      have hb := List.mem_of_getElem? hb
      have hc' := List.mem_of_getElem? hc'
      have hq := List.mem_of_getElem? hq
      rw [List.mem_singleton] at hb hc' hq
      subst hb hc' hq
      refine ⟨dx, na, ?_, dg hn⟩
      rw [upd_ne (ne kc (by decide))]
      exact hc
  · show (if a = c then 8 else L.kind a) = 8
    have ha : a ∈ L.call ++ [c] := ha
    rcases List.mem_append.mp ha with q | q
    · exact kk (R.kcall a q) (by decide)
    · rw [List.mem_singleton] at q
      rw [if_pos q]
  · show (if a = c then 8 else L.kind a) = 0
    have hac : a ≠ c := by
      rintro rfl
      rw [upd_ne (ne kc (by decide)), hc] at ha
      cases ha
    rw [if_neg hac]
    exact R.free (o := .lst ((L.call ++ [c]).map V.ref)) R.kfree a ha
/-- a call is answered -/
theorem Rep.setTalks (R : Rep C H L h) {p t : Nat} {b dx na : Addr} {x : Te.Leg} {c : Te.Call_} (hb : L.call[p]? = some b) (hc : h.calls[p]? = some c) (hx : h.legs[p]? = some x) (ho : H b = some (.ins C.c_Call dx (callF c.from_ c.to_ na c.hops c.since (optI c.begun) (iv x.mid)))) (hn : Dig H L na c.dialed) :
    Rep C (upd H b (.ins C.c_Call dx (callF c.from_ c.to_ na c.hops c.since (iv t) (iv x.mid)))) L { h with calls := h.calls.set p { c with begun := some t } } := by
  have kb : L.kind b = 8 := R.kcall b (List.mem_of_getElem? hb)
  have k0 : L.kind b ≠ 0 := by rw [kb]; decide
  obtain ⟨dxe, hxe⟩ := R.ex
  obtain ⟨kvs, hp, pp⟩ := R.pd
  have ne : ∀ {a : Addr} {i : Nat}, L.kind a = i → i ≠ 8 → a ≠ b := fun ha hi => Lay.ne ha kb hi
  refine ⟨⟨dxe, ?_⟩, ?_, R.ll, R.hl, fun i a d ha hd => ?_, ?_, R.groups.imp fun a g q => q.upd k0, ⟨kvs, ?_, pp⟩, ?_, ?_, ?_, fun j a c' q ha hc' hq => ?_, R.kex, R.kls, R.kgs, R.kpd, R.kcs, R.kline, R.khand, R.kcall, R.ndl, R.ndh, R.ndc, R.free R.kfree, R.rc.upd k0 (by rw [kb]; decide)⟩
  · rw [upd_ne (ne R.kex (by decide))]
    exact hxe
  · rw [upd_ne (ne R.kls (by decide))]
    exact R.ls
  · obtain ⟨dx1, nv, dl, d0, a0, a1, a2, cv, h1, h2, h3, h4, h5, h6, h7, h8, h9⟩ := ((R.lines i a d ha hd).upd (o := .ins C.c_Call dx (callF c.from_ c.to_ na c.hops c.since (iv t) (iv x.mid))) k0 (ne (R.kline a (List.mem_of_getElem? ha)) (by decide)) (ne (R.khand d (List.mem_of_getElem? hd)) (by decide))).ex
    refine ⟨dx1, nv, dl, d0, a0, a1, a2, cv, h1, h2, h3, h4, h5, h6, h7, h8, fun k' c' on hk e => ?_, h9.2⟩
    have hk : (h.calls.set p { c with begun := some t })[k']? = some c' := hk
    rw [List.getElem?_set] at hk
    by_cases q : p = k'
    · subst q
      rw [if_pos rfl, if_pos (List.getElem?_eq_some_iff.mp hc).1] at hk
      cases hk
      exact h9.1 p c on hc e
    · rw [if_neg q] at hk
      exact h9.1 k' c' on hk e
  · rw [upd_ne (ne R.kgs (by decide))]
    exact R.gs
  · rw [upd_ne (ne R.kpd (by decide))]
    exact hp
  · rw [upd_ne (ne R.kcs (by decide))]
    exact R.cs
  · show _ = (h.calls.set p _).length
    rw [List.length_set]
    exact R.cl
  · show _ = (h.calls.set p _).length
    rw [List.length_set]
    exact R.gl
  · have hc' : (h.calls.set p { c with begun := some t })[j]? = some c' := hc'
    rw [List.getElem?_set] at hc'
    by_cases e : p = j
    · subst e
      rw [if_pos rfl, if_pos (List.getElem?_eq_some_iff.mp hc).1] at hc'
      cases hc'
      rw [hb] at ha
      cases ha
      have hq : h.legs[p]? = some q := hq
      rw [hx] at hq
      cases hq
      exact ⟨dx, na, upd_same, hn.upd k0⟩
    · rw [if_neg e] at hc'
      refine (R.calls j a c' q ha hc' hq).upd k0 fun e2 => e ?_
      subst e2
      exact nd_ix R.ndc hb ha
end
end Tx
end
section
namespace Tx
open PySem PySem.Spec PyProof.Rows L2
section
variable {C : Cs} {H : Hp} {L : Lay} {h : Te.Hall}
/-- a call is taken out of the list -/
theorem Rep.dropCall (R : Rep C H L h) {k : Nat} (hk : k < h.calls.length) : Rep C (upd H L.cs (.lst ((L.call.eraseIdx k).map V.ref))) { L with call := L.call.eraseIdx k } { h with calls := h.calls.eraseIdx k, legs := h.legs.eraseIdx k } := by
  have ka : L.kind L.cs = 5 := R.kcs
  have k0 : L.kind L.cs ≠ 0 := by rw [ka]; decide
  obtain ⟨dxe, hxe⟩ := R.ex
  obtain ⟨kvs, hp, pp⟩ := R.pd
  have ne : ∀ {b : Addr} {j : Nat}, L.kind b = j → j ≠ 5 → b ≠ L.cs := fun hb hj => Lay.ne hb ka hj
  have dg : ∀ {a : Addr} {d : List Nat}, Dig H L a d → Dig (upd H L.cs (.lst ((L.call.eraseIdx k).map V.ref))) { L with call := L.call.eraseIdx k } a d := fun q => ⟨(q.upd k0).1, q.2⟩
  have nm : ∀ {v : V} {o : Option (List Nat)}, NumV H L v o → NumV (upd H L.cs (.lst ((L.call.eraseIdx k).map V.ref))) { L with call := L.call.eraseIdx k } v o := by
    intro v o q
    cases o with
    | none => exact q
    | some d =>
      obtain ⟨a, e, q⟩ := q
      exact ⟨a, e, dg q⟩
  have ix : ∀ {α : Type} {l : List α} {j : Nat} {b : α}, (l.eraseIdx k)[j]? = some b → l[if j < k then j else j + 1]? = some b := fun {α l j b} e => by
    rw [List.getElem?_eraseIdx] at e
    by_cases z : j < k
    · rw [if_pos z] at e ⊢
      exact e
    · rw [if_neg z] at e ⊢
      exact e
  refine ⟨⟨dxe, ?_⟩, ?_, R.ll, R.hl, fun j b d hb hd' => ?_, ?_, R.groups.imp fun a g q => ?_, ⟨kvs, ?_, pp⟩, upd_same, ?_, ?_, fun j b c' q hb hc' hq => ?_,
    R.kex, R.kls, R.kgs, R.kpd, R.kcs, R.kline, R.khand, fun a ha => R.kcall a (List.mem_of_mem_eraseIdx ha), R.ndl, R.ndh, R.ndc.sublist (List.eraseIdx_sublist ..), R.free R.kfree, R.rc.move rfl rfl (upd_ne (ne R.rc.kind (by decide))) R.rc.kind dg⟩
  · rw [upd_ne (ne R.kex (by decide))]
    exact hxe
  · rw [upd_ne (ne R.kls (by decide))]
    exact R.ls
  · obtain ⟨dx1, nv, dl, d0, a0, a1, a2, cv, h1, h2, h3, h4, h5, h6, h7, h8, h9⟩ := (R.lines j b d hb hd').ex
    refine ⟨dx1, nv, dl, d0, a0, a1, a2, cv, ?_, nm h2, dg h3, h4, ?_, dg h6, dg h7, dg h8, fun k' c' on hk' e => ?_, h9.2⟩
    · rw [upd_ne (ne (R.kline b (List.mem_of_getElem? hb)) (by decide))]
      exact h1
    · rw [upd_ne (ne (R.khand d (List.mem_of_getElem? hd')) (by decide))]
      exact h5
    · obtain ⟨b', hb', e'⟩ := h9.1 _ c' on (ix hk') e
      refine ⟨b', ?_, e'⟩
      show (L.call.eraseIdx k)[k']? = some b'
      rw [List.getElem?_eraseIdx]
      by_cases z : k' < k
      · rw [if_pos z] at hb' ⊢
        exact hb'
      · rw [if_neg z] at hb' ⊢
        exact hb'
  · rw [upd_ne (ne R.kgs (by decide))]
    exact R.gs
  · obtain ⟨dx1, n1, m1, h1, h2, h3⟩ := q.ex
    refine ⟨⟨dx1, n1, m1, ?_, dg h2, dg h3⟩, q.kind⟩
    rw [upd_ne (ne q.kind (by decide))]
    exact h1
  · rw [upd_ne (ne R.kpd (by decide))]
    exact hp
  · show (L.call.eraseIdx k).length = (h.calls.eraseIdx k).length
    rw [List.length_eraseIdx_of_lt (by rw [R.cl]; exact hk), List.length_eraseIdx_of_lt hk, R.cl]
  · show (h.legs.eraseIdx k).length = (h.calls.eraseIdx k).length
    rw [List.length_eraseIdx_of_lt (by rw [R.gl]; exact hk), List.length_eraseIdx_of_lt hk, R.gl]
  · obtain ⟨dx1, n1, h1, h2⟩ := (R.calls _ b c' q (ix hb) (ix hc') (ix hq)).ex
    refine ⟨dx1, n1, ?_, dg h2⟩
    rw [upd_ne (ne (R.kcall b (List.mem_of_mem_eraseIdx (List.mem_of_getElem? hb))) (by decide))]
    exact h1
/-- one more call that's over; who called pays -/
theorem Rep.addRec (R : Rep C H L h) {p : Addr} {r : Te.Record} (hp : Dig H L p (recN r)) : Rep C (upd H L.rs (.lst ((L.recs ++ [p]).map V.ref))) { L with recs := L.recs ++ [p] } { h with records := h.records ++ [r] } := by
  have ka : L.kind L.rs = 9 := R.rc.kind
  have k0 : L.kind L.rs ≠ 0 := by rw [ka]; decide
  obtain ⟨dxe, hxe⟩ := R.ex
  obtain ⟨kvs, hpd, pp⟩ := R.pd
  have ne : ∀ {b : Addr} {j : Nat}, L.kind b = j → j ≠ 9 → b ≠ L.rs := fun hb hj => Lay.ne hb ka hj
  refine ⟨⟨dxe, ?_⟩, ?_, R.ll, R.hl, fun j b d hb hd' => ?_, ?_, R.groups.imp fun a g q => ?_, ⟨kvs, ?_, pp⟩, ?_, R.cl, R.gl, fun j b c q hb hc hq => ?_,
    R.kex, R.kls, R.kgs, R.kpd, R.kcs, R.kline, R.khand, R.kcall, R.ndl, R.ndh, R.ndc, R.free R.kfree, ⟨upd_same, ka, ?_⟩⟩
  · rw [upd_ne (ne R.kex (by decide))]
    exact hxe
  · rw [upd_ne (ne R.kls (by decide))]
    exact R.ls
  · exact ⟨((R.lines j b d hb hd').upd (o := .lst ((L.recs ++ [p]).map V.ref)) k0 (ne (R.kline b (List.mem_of_getElem? hb)) (by decide)) (ne (R.khand d (List.mem_of_getElem? hd')) (by decide))).ex⟩
  · rw [upd_ne (ne R.kgs (by decide))]
    exact R.gs
  · have q := q.upd (o := .lst ((L.recs ++ [p]).map V.ref)) k0
    exact ⟨q.ex, q.kind⟩
  · rw [upd_ne (ne R.kpd (by decide))]
    exact hpd
  · rw [upd_ne (ne R.kcs (by decide))]
    exact R.cs
  · exact ⟨((R.calls j b c q hb hc hq).upd (o := .lst ((L.recs ++ [p]).map V.ref)) k0 (ne (R.kcall b (List.mem_of_getElem? hb)) (by decide))).ex⟩
  · have q1 : All2 (fun a r => Dig (upd H L.rs (.lst ((L.recs ++ [p]).map V.ref))) { L with recs := L.recs ++ [p] } a (recN r)) L.recs h.records := R.rc.all.imp fun a r z => ⟨(z.upd k0).1, z.2⟩
    exact q1.snoc ⟨(hp.upd k0).1, hp.2⟩
end
end Tx
end
section
namespace Tx
open PySem PySem.Spec PyProof.Rows PySem.SeqAt L2
/-! ### two objects are the same if they lie at one place -/
section
variable {M : Model} {prog : Program} {w : World} {A : Around} {E : Value → Shared → Prop} {s : Shared} {K : PySem.W.Frag} {x y C : Addr} {ox oy : Obj} {od oe : Option Obj}
theorem two_same {R : Bool → Shared → Prop} (ne : x ≠ y) (I : PySem.W.InstAt s.heap x ox C od) (J : PySem.W.InstAt s.heap y oy C oe) (h : R false s) : wpAny M A (isSame (.ref x) (.ref y)) R E s :=
  wpAny_isSame_ref_other ne I.at_ J.at_ (by rw [I.cls]; intro z; cases z) h
theorem two_entry {Q : Fin → Shared → Prop} (ne : x ≠ y) (I : PySem.W.InstAt s.heap x ox C od) (J : PySem.W.InstAt s.heap y oy C oe) (hq : Q (.done (.ret .notImplemented)) s) : wpAny M A (Builtin.«object.__eq__» ⟨[.ref x, .ref y], []⟩) Q E s := by
  unfold Builtin.«object.__eq__»
  repeat (first | with_reducible refine two_same ne I J ?_ | wp_step)
  exact hq
theorem two_call {Q : Value → Shared → Prop} (X : K.In s.heap) (ne : x ≠ y) (I : PySem.W.InstAt s.heap x ox C od) (J : PySem.W.InstAt s.heap y oy C oe) (hm : PySem.W.mroIn K C (.type "object") = some true) (hq : Q .notImplemented s) :
    wpAny (model prog w) A (call (.builtin "object.__eq__") [.ref x, .ref y]) Q E s :=
  wpAny_call (codeAny_call_builtin F.cmp_object.eq.plain F.cmpEntry_eq (PySem.W.check_slot F.cmpKind_eq F.cmpSplit_eq (I.type.andThen (PySem.W.looks_mroIn X hm)) (F.cmpArgs_eq _ _) (two_entry ne I J hq)))
theorem two_rc (hu : A.units < cLine) (X : K.In s.heap) (ne : x ≠ y) (I : PySem.W.InstAt s.heap x ox C od) (J : PySem.W.InstAt s.heap y oy C oe) (hm : PySem.W.mroIn K C (.type "object") = some true) (hs : PySem.W.findIn K (.ref C) "__eq__" = some (some (.builtin "object.__eq__"))) :
    RcAt A s (.ref x) (.ref y) false := fun prog w E Q h => by
  have one : wpAny (model prog w) A (tryCompare (.ref x) "__eq__" (.ref y)) (fun r s' => r = none ∧ s' = s) E s := by
    unfold tryCompare
    exact wpAny_bind (HN.ifBound_objEq X I hs (two_call X ne I J hm (wpAny_pure ⟨rfl, rfl⟩)))
  have two : wpAny (model prog w) A (tryCompare (.ref y) "__eq__" (.ref x)) (fun r s' => r = none ∧ s' = s) E s := by
    unfold tryCompare
    exact wpAny_bind (HN.ifBound_objEq X J hs (two_call X (Ne.symm ne) J I hm (wpAny_pure ⟨rfl, rfl⟩)))
  simp only [richCompare, cmpInfo_Eq, oneThing_ref]
  refine wpAny_holding (wpAny_bind (wpAny_cRoomFor hu ?_))
  refine wpAny_bind (I.type.here ?_)
  refine wpAny_bind (J.type.here ?_)
  simp only [bne_self_eq_false, Bool.false_eq_true, if_false, Bool.not_false, if_true]
  refine wpAny_bind (wpAny_pure ?_)
  simp only [Bool.false_eq_true, if_false, Bool.not_false, if_true]
  refine wpAny_bind (m := tryCompare (.ref x) _ (.ref y)) (wpAny_mono one (fun r s1 z => ?_) fun _ _ e => e)
  obtain ⟨rfl, rfl⟩ := z
  refine wpAny_bind (m := tryCompare (.ref y) _ (.ref x)) (wpAny_mono two (fun r s2 z => ?_) fun _ _ e => e)
  obtain ⟨rfl, rfl⟩ := z
  exact wpAny_bind (wpAny_rule (wpAny_bind (two_same ne I J (wpAny_pure h))))
theorem two_eq (hu : A.units < cLine) (X : K.In s.heap) (I : PySem.W.InstAt s.heap x ox C od) (J : PySem.W.InstAt s.heap y oy C oe) (hm : PySem.W.mroIn K C (.type "object") = some true) (hs : PySem.W.findIn K (.ref C) "__eq__" = some (some (.builtin "object.__eq__"))) :
    EqAt A s (.ref x) (.ref y) (decide (x = y)) := by
  by_cases e : x = y
  · subst e
    rw [decide_eq_true rfl]
    exact EqAt.same _
  · rw [decide_eq_false e]
    intro prog w E Q h
    unfold eqBool
    refine wpAny_holding ?_
    refine wpAny_ite_split (fun hab => absurd (eq_of_beq hab) (fun z => e (by injection z))) (fun _ => ?_)
    exact wpAny_bind (two_rc hu X e I J hm hs prog w E _ (wpAny_truthy_bool h))
end
/-! ### a list's remove, by what is equal here and now -/
section
open PySem.MeetsSeq
variable (l : Addr) (its : Array Value) (n : Nat) (v : Value) (eq : Value → Bool) (j : Nat)
/-- how the list lies, what is equal, what's left -/
def RemAt (l : Addr) (its : Array Value) (n : Nat) (v : Value) (eq : Value → Bool) (j : Nat) (A : Around) (R : Result → Shared → Prop) (s : Shared) : Prop :=
  s.heap.get? l = some { cls := .type "list", dict := none, data := .seq its n, slots := #[] } ∧ (∀ y, y ∈ its → EqAt A.in1 s y v (eq y)) ∧ R (.ok (.ret .none)) { s with heap := s.heap.update l (Obj.mapSeq fun xs => xs.eraseIdxIfInBounds j) }
theorem rem_loop (hj : j < its.size) (hit : eq its[j] = true) (hz : its.size ≤ sizeLine) (f : Nat) : ∀ i : Nat, j - i = f → i ≤ j → (∀ m (hm : m < its.size), i ≤ m → m < j → eq its[m] = false) →
    Meets (Builtin.«list.remove.loop» ⟨[.ref l, v, rawInt i], []⟩) (RemAt l its n v eq j) := by
  induction f with
  | zero =>
    intro i hf hij hno prog w A R s h
    obtain ⟨hp, g, d, tk, os⟩ := s
    obtain ⟨hl, he, h⟩ := h
    obtain rfl : i = j := by omega
    wp_walk using wpAny_loadPart' hl
    rw [show its[((i : Nat) : Int).toNat]? = some its[i] by simp [hj]]
    refine wpAny_bind (he _ (Array.getElem_mem hj) prog w _ _ ?_)
    rw [hit]
    have less : (its.eraseIdxIfInBounds i).size ≤ sizeLine + 1 := Nat.le_trans (size_erased its _) (Nat.le_succ_of_le hz)
    wp_walk using (wpAny_updateSeq hl rfl (hz := hz) (_hz' := less)), wpAny_loadPart' hl
    simpa using h
  | succ f ih =>
    intro i hf hij hno prog w A R s h
    obtain ⟨hp, g, d, tk, os⟩ := s
    obtain ⟨hl, he, h⟩ := h
    have lt : i < its.size := by omega
    wp_walk using wpAny_loadPart' hl
    rw [show its[((i : Nat) : Int).toNat]? = some its[i] by simp [lt]]
    refine wpAny_bind (he _ (Array.getElem_mem lt) prog w _ _ ?_)
    rw [hno i lt (Nat.le_refl _) (by omega)]
    wp_walk
    rw [show ((i : Int) + 1) = ((i + 1 : Nat) : Int) by push_cast; rfl]
    refine ⟨plainId_quiet plain_remove_loop _, codeAny_builtin entry_remove_loop ?_⟩
    rw [Around.under_plainId plain_remove_loop _]
    exact ih (i + 1) (by omega) (by omega) (fun m hm a b => hno m hm (by omega) b) prog w A R _ ⟨hl, he, h⟩
theorem rem_all (hj : j < its.size) (hit : eq its[j] = true) (hno : ∀ m (hm : m < its.size), m < j → eq its[m] = false) (hz : its.size ≤ sizeLine) :
    Meets (Builtin.«list.remove» ⟨[.ref l, v], []⟩) (RemAt l its n v eq j) := by
  intro prog w A R s h
  obtain ⟨hp, g, d, tk, os⟩ := s
  obtain ⟨hl, he, h⟩ := h
  wp_walk using wpAny_loadPart' hl
  refine ⟨plainId_quiet plain_remove_loop _, codeAny_builtin entry_remove_loop ?_⟩
  rw [Around.under_plainId plain_remove_loop _]
  exact rem_loop l its n v eq j hj hit hz _ 0 rfl (Nat.zero_le _) (fun m hm _ b => hno m hm b) prog w A R _ ⟨hl, he, h⟩
end
/-! ### an object taken out of a list of objects of one class -/
def eqRef (a : Addr) : Value → Bool
  | .ref b => decide (b = a)
  | _ => false
theorem refs_vals : ∀ {as : List Addr} {us : List Value}, Vals (as.map V.ref) us → us = as.map Value.ref
  | [], _, .nil => rfl
  | a :: as, _, .cons r t => by
    have e : _ = Value.ref a := r
    rw [e, refs_vals t]
    rfl
theorem erase_refs : ∀ (as : List Addr) (j : Nat), (as.map V.ref).eraseIdx j = (as.eraseIdx j).map V.ref
  | [], _ => rfl
  | _ :: _, 0 => rfl
  | a :: as, j + 1 => congrArg (V.ref a :: ·) (erase_refs as j)
def rRemO (K : PySem.W.Frag) (C : Addr) : V → List V → Hp → VK → Prop := fun x xs H Q => ∃ (l : Addr) (as : List Addr) (a : Addr) (j : Nat), x = .ref l ∧ xs = [.ref a] ∧ H l = some (.lst (as.map V.ref)) ∧ as[j]? = some a ∧ as.Nodup ∧ (∀ b ∈ as, ∃ dx fs, H b = some (.ins C dx fs)) ∧
  PySem.W.mroIn K C (.type "object") = some true ∧ PySem.W.findIn K (.ref C) "__eq__" = some (some (.builtin "object.__eq__")) ∧ Q .non (upd H l (.lst ((as.eraseIdx j).map V.ref)))
theorem mt_remO {X : Cx} {C : Addr} (hu : X.A.units + 64 < cLine) : MtM X "list.remove" (rRemO X.K C) := by
  intro pins s σ H x xs v us Q I rx rxs h
  obtain ⟨l, as, a, j, rfl, rfl, hH, hj, nd, hin, hm, hs, q⟩ := h
  cases rx
  obtain ⟨u, rfl, ru⟩ := rxs.one
  obtain rfl : u = Value.ref a := ru
  obtain ⟨z, its, n, r, hl, e⟩ := I.lstM hH
  have ei := refs_vals r
  subst ei
  have jl : j < as.length := (List.getElem?_eq_some_iff.mp hj).1
  have aj : as[j] = a := (List.getElem?_eq_some_iff.mp hj).2
  have inst : ∀ b ∈ as, ∃ ob od, PySem.W.InstAt s.heap b ob C od := fun b hb => by
    obtain ⟨dx, fs, h1⟩ := hin b hb
    obtain ⟨mA, O, _⟩ := ins_get I.hok h1
    obtain ⟨od, J, _⟩ := O.look
    exact ⟨_, od, J⟩
  have hu1 : X.A.in1.units < cLine := by
    show X.A.units + 1 < cLine
    omega
  have same : ∀ y, y ∈ (as.map Value.ref).toArray → SeqAt.EqAt X.A.in1 s y (.ref a) (eqRef a y) := fun y hy => by
    obtain ⟨b, hb, rfl⟩ := List.mem_map.mp (List.mem_toArray.mp hy)
    obtain ⟨ob, od, J⟩ := inst b hb
    obtain ⟨oa, od', J'⟩ := inst a (List.mem_of_getElem? hj)
    exact two_eq hu1 I.kIn J J' hm hs
  have lz : (as.map Value.ref).toArray.size = as.length := by simp
  have lq : as.length ≤ sizeLine := by
    have := z
    rw [List.length_map] at this
    omega
  refine call_meets PySem.F.slot_list_remove ⟨_, e, rfl⟩ PySem.F.entry_list_remove (PySem.F.args_list_remove_2 _ _) (rem_all l _ n (.ref a) (eqRef a) j (by omega) ?_ ?_ (by omega)) ⟨e, same, ?_⟩
  · simp [eqRef, aj]
  · intro m hm1 hmj
    have ml : m < as.length := by omega
    have : as[m] ≠ a := fun e1 => by
      have := (List.getElem_inj nd (h₀ := ml) (h₁ := jl)).mp (e1.trans aj.symm)
      omega
    simp [eqRef, this]
  · have rr := r.eraseIdx j
    have em : (as.map V.ref).eraseIdx j = (as.eraseIdx j).map V.ref := erase_refs as j
    rw [em] at rr
    refine ⟨.non, _, I.lset (its' := (as.map Value.ref).eraseIdx j) (t' := s.toks) hH e ?_ rr ?_, rfl, q⟩
    · show (as.map Value.ref).toArray.eraseIdxIfInBounds j = ((as.map Value.ref).eraseIdx j).toArray
      rw [List.eraseIdxIfInBounds_toArray]
    · rw [List.length_map]
      have := List.length_eraseIdx_le as j
      omega
end Tx
end
section
namespace Tx
open PySem PySem.Spec PyProof.Rows L2
theorem upd_upd (H : Hp) (a : Addr) (o1 o2 : HO) : upd (upd H a o1) a o2 = upd H a o2 := by
  funext b
  by_cases e : b = a
  · subst e
    rw [upd_same, upd_same]
  · rw [upd_ne e, upd_ne e, upd_ne e]
theorem dec_non (a : Nat) : decide (iv a = V.non) = false := decide_eq_false (by intro z; cases z)
theorem dec_ref (a : Addr) : decide (V.ref a = V.non) = false := decide_eq_false (by intro z; cases z)
theorem dec_nn : decide (V.non = V.non) = true := decide_eq_true rfl
/-- a new object, told at once -/
theorem same_made {H : Hp} {x dx : Addr} {o p : HO} (nx : H x = none) (nd : H dx = none) : Same H (upd (upd H dx p) x o) := fun b o' e => by
  rw [upd_ne (ne_of_none e nx), upd_ne (ne_of_none e nd)]
  exact e
section
variable {P : Program} {w : World} {K : PySem.W.Frag} {mg : Str → Option Value} {base : Heap} {C : Cs}
theorem Rep.line_get {H : Hp} {L : Lay} {h : Te.Hall} {i : Nat} {a : Addr} (ha : L.line[i]? = some a) : (L.line.map V.ref)[i]? = some (.ref a) := by
  rw [List.getElem?_map, ha]
  rfl
/-! ### a call's object -/
theorem put_Call (f t : Nat) (na : Addr) (hops since : Nat) : (putF "way" .non (putF "talks_since" .non (putF "rings_since" (iv since) (putF "handed_on" (iv hops) (putF "number" (.ref na) (putF "called" (iv t) (putF "caller" (iv f) []))))))) = ([("caller", (iv f)), ("called", (iv t)), ("number", (.ref na)), ("handed_on", (iv hops)), ("rings_since", (iv since)), ("talks_since", .non), ("way", .non)] : List (Str × V)) := by
  have e1 : putF ("called" : Str) (iv t) ([("caller", (iv f))] : List (Str × V)) = ([("caller", (iv f)), ("called", (iv t))] : List (Str × V)) := by rw [put_past (by decide +kernel), put_nil]
  have e2 : putF ("number" : Str) (.ref na) ([("caller", (iv f)), ("called", (iv t))] : List (Str × V)) = ([("caller", (iv f)), ("called", (iv t)), ("number", (.ref na))] : List (Str × V)) := by rw [put_past (by decide +kernel), put_past (by decide +kernel), put_nil]
  have e3 : putF ("handed_on" : Str) (iv hops) ([("caller", (iv f)), ("called", (iv t)), ("number", (.ref na))] : List (Str × V)) = ([("caller", (iv f)), ("called", (iv t)), ("number", (.ref na)), ("handed_on", (iv hops))] : List (Str × V)) := by rw [put_past (by decide +kernel), put_past (by decide +kernel), put_past (by decide +kernel), put_nil]
  have e4 : putF ("rings_since" : Str) (iv since) ([("caller", (iv f)), ("called", (iv t)), ("number", (.ref na)), ("handed_on", (iv hops))] : List (Str × V)) = ([("caller", (iv f)), ("called", (iv t)), ("number", (.ref na)), ("handed_on", (iv hops)), ("rings_since", (iv since))] : List (Str × V)) := by rw [put_past (by decide +kernel), put_past (by decide +kernel), put_past (by decide +kernel), put_past (by decide +kernel), put_nil]
  have e5 : putF ("talks_since" : Str) .non ([("caller", (iv f)), ("called", (iv t)), ("number", (.ref na)), ("handed_on", (iv hops)), ("rings_since", (iv since))] : List (Str × V)) = ([("caller", (iv f)), ("called", (iv t)), ("number", (.ref na)), ("handed_on", (iv hops)), ("rings_since", (iv since)), ("talks_since", .non)] : List (Str × V)) := by rw [put_past (by decide +kernel), put_past (by decide +kernel), put_past (by decide +kernel), put_past (by decide +kernel), put_past (by decide +kernel), put_nil]
  have e6 : putF ("way" : Str) .non ([("caller", (iv f)), ("called", (iv t)), ("number", (.ref na)), ("handed_on", (iv hops)), ("rings_since", (iv since)), ("talks_since", .non)] : List (Str × V)) = ([("caller", (iv f)), ("called", (iv t)), ("number", (.ref na)), ("handed_on", (iv hops)), ("rings_since", (iv since)), ("talks_since", .non), ("way", .non)] : List (Str × V)) := by rw [put_past (by decide +kernel), put_past (by decide +kernel), put_past (by decide +kernel), put_past (by decide +kernel), put_past (by decide +kernel), put_past (by decide +kernel), put_nil]
  rw [put_nil, e1, e2, e3, e4, e5, e6]
def sp_init_Call (K : PySem.W.Frag) (C : Cs) : Sp := fun vs H Q _ => ∃ (p dx : Addr) (f t : Nat) (na : Addr) (hops since : Nat), vs = [.ref p, iv f, iv t, .ref na, iv hops, iv since] ∧ H p = some (.ins C.c_Call dx []) ∧ Q .non (upd H p (.ins C.c_Call dx (callF f t na hops since .non .non)))
theorem mak_Call (T : Txt K mg C) : Mak P w K mg base 1 "Call" C.c_Call (sp_init_Call K C) := by
  refine T.l_Call.mak sc_init_Call (fun vs H Q E h => ?_) (fun f cdv A outer s H vs Q E hr h => ⟨_, (pss_cons (ps_fld (pv 0) (pv 1) rfl)
    (pss_cons (ps_fld (pv 0) (pv 2) rfl)
    (pss_cons (ps_fld (pv 0) (pv 3) rfl)
    (pss_cons (ps_fld (pv 0) (pv 4) rfl)
    (pss_cons (ps_fld (pv 0) (pv 5) rfl)
    (pss_cons (ps_fld (pv 0) pe_non rfl)
    (pss_one (ps_fld (pv 0) pe_non rfl)))))))), ?_⟩)
  · obtain ⟨p, dx, f, t, na, hops, since, rfl, _⟩ := h
    rfl
  obtain ⟨p, dx, f, t, na, hops, since, rfl, hp, k⟩ := h
  refine ⟨_, rfl, _, rfl, p, _, dx, _, rfl, hp, T.cl_Call, T.na_Call_caller, (by show 0 < 1000; decide), ?_⟩
  refine ⟨_, rfl, _, rfl, p, _, dx, _, rfl, upd_same, T.cl_Call, T.na_Call_called, (by show 1 < 1000; decide), ?_⟩
  refine ⟨_, rfl, _, rfl, p, _, dx, _, rfl, upd_same, T.cl_Call, T.na_Call_number, (by show 2 < 1000; decide), ?_⟩
  refine ⟨_, rfl, _, rfl, p, _, dx, _, rfl, upd_same, T.cl_Call, T.na_Call_handed_on, (by show 3 < 1000; decide), ?_⟩
  refine ⟨_, rfl, _, rfl, p, _, dx, _, rfl, upd_same, T.cl_Call, T.na_Call_rings_since, (by show 4 < 1000; decide), ?_⟩
  refine ⟨_, rfl, p, _, dx, _, rfl, upd_same, T.cl_Call, T.na_Call_talks_since, (by show 5 < 1000; decide), ?_⟩
  refine ⟨_, rfl, p, _, dx, _, rfl, upd_same, T.cl_Call, T.na_Call_way, (by show 6 < 1000; decide), ?_⟩
  have e := put_Call f t na hops since
  rw [upd_upd, upd_upd, upd_upd, upd_upd, upd_upd, upd_upd, e]
  exact k
/-! ### a line hears the tone; enters a call -/
def sp_give_tone (K : PySem.W.Frag) (C : Cs) : Sp := fun vs H Q _ => ∃ (a dx : Addr) (n : Nat) (nv : V) (dl hd : Addr) (cv : V) (ow : Nat), vs = [.ref a] ∧ H a = some (.ins C.c_Line dx (lineF n nv dl hd cv ow)) ∧ Q .non (upd H a (.ins C.c_Line dx (lineF 4 nv dl hd .non ow)))
theorem cal_give_tone (T : Txt K mg C) : Cal P w K mg base 1 "give_tone" (sp_give_tone K C) := by
  refine T.d_give_tone.cal sc_give_tone (fun vs H Q E h => ?_) (fun f cdv A outer s H vs Q E hr h => ⟨_, (pss_cons (ps_fld (pv 0) (pe_gi rfl T.k_TONE) rfl)
    (pss_one (ps_fld (pv 0) pe_non rfl))), ?_⟩)
  · obtain ⟨a, dx, n, nv, dl, hd, cv, ow, rfl, _⟩ := h
    rfl
  obtain ⟨a, dx, n, nv, dl, hd, cv, ow, rfl, ha, k⟩ := h
  refine ⟨_, rfl, a, _, dx, _, rfl, ha, T.cl_Line, T.na_Line_state, (by show 6 < 1000; decide), ?_⟩
  refine ⟨_, rfl, a, _, dx, _, rfl, upd_same, T.cl_Line, T.na_Line_call, (by show 6 < 1000; decide), ?_⟩
  rw [upd_upd]
  have e : putF "call" .non (putF "state" (iv 4) (lineF n nv dl hd cv ow)) = lineF 4 nv dl hd .non ow := by rw [lineF_putState, lineF_putCall]
  exact e ▸ k
def sp_enter_call (K : PySem.W.Frag) (C : Cs) : Sp := fun vs H Q _ => ∃ (a dx : Addr) (n m : Nat) (nv : V) (dl hd : Addr) (cv v : V) (ow : Nat), vs = [.ref a, iv m, v] ∧ H a = some (.ins C.c_Line dx (lineF n nv dl hd cv ow)) ∧ Q .non (upd H a (.ins C.c_Line dx (lineF m nv dl hd v ow)))
theorem cal_enter_call (T : Txt K mg C) : Cal P w K mg base 1 "enter_call" (sp_enter_call K C) := by
  refine T.d_enter_call.cal sc_enter_call (fun vs H Q E h => ?_) (fun f cdv A outer s H vs Q E hr h => ⟨_, (pss_cons (ps_fld (pv 0) (pv 1) rfl)
    (pss_one (ps_fld (pv 0) (pv 2) rfl))), ?_⟩)
  · obtain ⟨a, dx, n, m, nv, dl, hd, cv, v, ow, rfl, _⟩ := h
    rfl
  obtain ⟨a, dx, n, m, nv, dl, hd, cv, v, ow, rfl, ha, k⟩ := h
  refine ⟨_, rfl, _, rfl, a, _, dx, _, rfl, ha, T.cl_Line, T.na_Line_state, (by show 6 < 1000; decide), ?_⟩
  refine ⟨_, rfl, _, rfl, a, _, dx, _, rfl, upd_same, T.cl_Line, T.na_Line_call, (by show 6 < 1000; decide), ?_⟩
  rw [upd_upd]
  have e : putF "call" v (putF "state" (iv m) (lineF n nv dl hd cv ow)) = lineF m nv dl hd v ow := by rw [lineF_putState, lineF_putCall]
  exact e ▸ k
/-! ### what a line does, to what it's handed on -/
def sp_is_idle (K : PySem.W.Frag) (C : Cs) : Sp := fun vs H Q _ => ∃ (L : Lay) (h : Te.Hall) (i : Nat), vs = [.ref L.ex, iv i] ∧ Rep C H L h ∧ i < h.lines.length ∧ Q (.bl (decide (L.st i = 0))) H
theorem cal_is_idle (T : Txt K mg C) : Cal P w K mg base 1 "is_idle" (sp_is_idle K C) := by
  refine T.d_is_idle.cal sc_is_idle (fun vs H Q E h => ?_) (fun f cdv A outer s H vs Q E hr h => ⟨_, (pss_one (ps_ret (pe_cmpR op_eq (pe_fld (pe_ix ix_list (pe_fld (pv 0) rfl) (pv 1) (fun _ _ => rfl)) rfl) (pe_gi rfl T.k_IDLE) (nomark _)))), ?_⟩)
  · obtain ⟨L, h, i, rfl, _⟩ := h
    rfl
  obtain ⟨L, h, i, rfl, R, hi, k⟩ := h
  obtain ⟨dx, hx⟩ := R.ex
  obtain ⟨a, b, ha, hb, q⟩ := R.lineAt hi
  obtain ⟨dx1, nv, dl, d0, a0, a1, a2, cv, h1, _⟩ := q.ex
  refine ⟨_, rfl, L.ex, _, dx, _, _, rfl, hx, T.cl_Exchange, T.na_Exchange_lines, exF_lines L h, _, rfl, L.ls, _, i, _, rfl, rfl, SqL.of R.ls, at_of (j := i) rfl (Rep.line_get (H := H) (h := h) ha), a, _, dx1, _, _, rfl, h1, T.cl_Line, T.na_Line_state, lineF_state, rfl, ?_⟩
  have e : decide (iv (L.st i) = V.int 0) = decide (L.st i = 0) := dec_iv (L.st i) 0
  rw [e]
  exact k
def sp_handed_on_to (K : PySem.W.Frag) (C : Cs) : Sp := fun vs H Q _ => ∃ (L : Lay) (h : Te.Hall) (i : Nat) (a : Addr), vs = [.ref a] ∧ Rep C H L h ∧ L.line[i]? = some a ∧ ∀ H' p, Same H H' → Dig H' L p (onward (L.st i) (Te.lineOf h i)) → Q (.ref p) H'
theorem cal_handed_on_to (T : Txt K mg C) : Cal P w K mg base 1 "handed_on_to" (sp_handed_on_to K C) := by
  refine T.d_handed_on_to.cal sc_handed_on_to (fun vs H Q E h => ?_) (fun f cdv A outer s H vs Q E hr h => ⟨_, (pss_cons (ps_if (pt_cmpR op_gt (pe_callB call_len_seq (by rfl) T.n_len PySem.boot_len (pa_cons (pe_ix ix_list (pe_fld (pv 0) rfl) (pe_gi rfl T.k_ALWAYS) (fun _ _ => rfl)) pa_nil)) pe_int (nomark _))
      (pss_one (ps_ret (pe_ix ix_list (pe_fld (pv 0) rfl) (pe_gi rfl T.k_ALWAYS) (fun _ _ => rfl))))
      pss_nil)
    (pss_cons (ps_if (pt_cmpR op_eq (pe_fld (pv 0) rfl) (pe_gi rfl T.k_IDLE) (nomark _))
      (pss_one (ps_ret (pe_lst pa_nil)))
      pss_nil)
    (pss_one (ps_ret (pe_ix ix_list (pe_fld (pv 0) rfl) (pe_gi rfl T.k_WHEN_BUSY) (fun _ _ => rfl)))))), ?_⟩)
  · obtain ⟨L, h, i, a, rfl, _⟩ := h
    rfl
  obtain ⟨L, h, i, a, rfl, R, ha, k⟩ := h
  have hi : i < h.lines.length := by rw [← R.ll]; exact (List.getElem?_eq_some_iff.mp ha).1
  obtain ⟨a', b, ha', hb, q⟩ := R.lineAt hi
  rw [ha] at ha'
  cases ha'
  obtain ⟨dx1, nv, dl, d0, a0, a1, a2, cv, h1, h2, h3, h4, h5, h6, h7, h8, h9⟩ := q.ex
  refine ⟨_, rfl, a, _, dx1, _, _, rfl, h1, T.cl_Line, T.na_Line_hands, lineF_hands, b, _, 0, _, rfl, rfl, SqL.of h5, at_of (j := 0) rfl rfl, a0, _, rfl, .inl h6.sq, _, _, rfl, rfl, _, rfl, ?_⟩
  have lm : (ivs ((Te.lineOf h i).always.getD [])).length = ((Te.lineOf h i).always.getD []).length := List.length_map _
  rw [lm]
  by_cases c : 0 < ((Te.lineOf h i).always.getD []).length
  · refine if_t (decide_eq_true (by omega)) ?_
    refine ⟨_, rfl, a, _, dx1, _, _, rfl, h1, T.cl_Line, T.na_Line_hands, lineF_hands, b, _, 0, _, rfl, rfl, SqL.of h5, at_of (j := 0) rfl rfl, k H a0 (Same.refl H) ?_⟩
    unfold onward
    rw [if_pos c]
    exact h6
  · refine if_f (decide_eq_false (by omega)) ?_
    refine ⟨_, rfl, a, _, dx1, _, _, rfl, h1, T.cl_Line, T.na_Line_state, lineF_state, rfl, _, rfl, ?_⟩
    have e : decide (iv (L.st i) = V.int 0) = decide (L.st i = 0) := dec_iv (L.st i) 0
    rw [e]
    refine if_b (fun c1 => ?_) (fun c1 => ?_)
    · refine ⟨Nat.zero_le _, fun p hp => k _ p (same_new hp) ?_⟩
      unfold onward
      rw [if_neg c, if_pos (of_decide_eq_true c1)]
      exact ⟨upd_same, R.kfree p hp⟩
    · refine ⟨_, rfl, a, _, dx1, _, _, rfl, h1, T.cl_Line, T.na_Line_hands, lineF_hands, b, _, 1, _, rfl, rfl, SqL.of h5, at_of (j := 1) rfl rfl, k H a1 (Same.refl H) ?_⟩
      unfold onward
      rw [if_neg c, if_neg (of_decide_eq_false c1)]
      exact h7
def sp_first_idle_member (K : PySem.W.Frag) (C : Cs) : Sp := fun vs H Q _ => ∃ (L : Lay) (h : Te.Hall) (a : Addr) (d : List Nat) (x : Nat), vs = [.ref L.ex, .ref a, iv x] ∧ Rep C H L h ∧ Base h ∧ SqL K H a (ivs d) ∧
  ∀ H', Same H H' → Q (optI (idleOf L.st h x d)) H'
theorem cal_first_idle_member (T : Txt K mg C) : Cal P w K mg base 2 "first_idle_member" (sp_first_idle_member K C) := by
  refine T.d_first_idle_member.cal sc_first_idle_member (fun vs H Q E h => ?_) (fun f cdv A outer s H vs Q E hr h => ⟨_, (pss_cons (ps_set (i := 3) sc_first_idle_member.nd rfl (Or.inl rfl) (pe_c (cal_group_of_number T) hr (by decide) rfl (pa_cons (pv 0) (pa_cons (pv 1) pa_nil))))
    (pss_cons (ps_if (pt_cmp (pc_isN (pv 3)))
      (pss_one (ps_ret pe_non))
      pss_nil)
    (pss_cons (ps_for PassesOwn.never rfl (pi_list (pe_fld (pv 3) rfl)) (pg_name (i := 4) sc_first_idle_member.nd rfl (Or.inl rfl))
      (pss_one (ps_if (PW.pt (pw_and (pt_cmpR op_ne (pv 4) (pv 2) (nomark _)) (pw_and1 (pt_val (pe_c (cal_is_idle T) hr (by decide) rfl (pa_cons (pv 0) (pa_cons (pv 4) pa_nil)))))))
      (pss_one (ps_ret (pv 4)))
      pss_nil)))
    (pss_one (ps_ret pe_non))))), ?_⟩)
  · obtain ⟨L, h, a, d, x, rfl, _⟩ := h
    rfl
  obtain ⟨L, h, a, d, x, rfl, R, B, ha, k⟩ := h
  refine ⟨_, rfl, _, rfl, L, h, a, d, rfl, R, ha, fun H1 s1 e => ?_, fun H1 b g s1 e q => ?_⟩
  · refine ⟨_, rfl, _, rfl, ?_⟩
    refine if_t dec_nn ?_
    have z := k H1 s1
    unfold idleOf at z
    rw [e] at z
    exact z
  · refine ⟨_, rfl, _, rfl, ?_⟩
    refine if_f (dec_ref b) ?_
    obtain ⟨dx, na, ma, h1, h2, h3⟩ := q.ex
    have G := B.groups g (List.mem_of_find?_eq_some e)
    have R1 := R.same s1
    refine ⟨_, rfl, b, _, dx, _, _, rfl, h1, T.cl_Group, T.na_Group_members, groupF_members, ma, rfl, ⟨_, h3.sq⟩, for_list (xs := ivs g.2)
      (fun i σ H' => ∃ u, σ = [some (.ref L.ex), some (.ref a), some (iv x), some (.ref b), u] ∧ Same H1 H' ∧ ∀ (j : Nat) y, j < i → g.2[j]? = some y → (!decide (y = x) && decide (L.st y = 0)) = false)
      ⟨none, rfl, Same.refl H1, fun j y hj => absurd hj (Nat.not_lt_zero j)⟩ (fun i σ H' _ ⟨_, _, s2, _⟩ => Same.seq s2 h3.sq) ?_ ?_⟩
    · rintro i v σ H2 hv ⟨u, rfl, s2, h0⟩
      obtain ⟨y, hy, rfl⟩ := ivs_get hv
      have yl : y < h.lines.length := by rw [B.len]; exact G.there y (List.mem_of_getElem? hy)
      refine ⟨_, rfl, _, rfl, rfl, _, rfl, ?_⟩
      rw [dec_iv]
      refine if_b (fun c1 => ?_) (fun c1 => iteF ?_)
      · refine ⟨_, rfl, _, rfl, L, h, y, rfl, R1.same s2, yl, _, rfl, ?_⟩
        refine if_b (fun c2 => ⟨_, rfl, ?_⟩) (fun c2 => ?_)
        · have z := k H2 (Same.trans s1 s2)
          unfold idleOf at z
          rw [e] at z
          have e2 : firstIdle L.st x g.2 = some y := find_at hy (by rw [c1, c2]; rfl) h0
          have z : Q (optI (firstIdle L.st x g.2)) H2 := z
          rw [e2] at z
          exact z
        · exact ⟨_, rfl, s2, more_no hy (by rw [c2, Bool.and_false]) h0⟩
      · exact ⟨_, rfl, s2, more_no hy (by rw [c1]; rfl) h0⟩
    · rintro σ H2 ⟨u, rfl, s2, h0⟩
      rw [List.length_map] at h0
      have z := k H2 (Same.trans s1 s2)
      unfold idleOf at z
      rw [e] at z
      have e2 : firstIdle L.st x g.2 = none := find_no h0
      have z : Q (optI (firstIdle L.st x g.2)) H2 := z
      rw [e2] at z
      exact z
end
end Tx
end
section
namespace Tx
open PySem PySem.Spec PyProof.Rows L2
section
variable {P : Program} {w : World} {K : PySem.W.Frag} {mg : Str → Option Value} {base : Heap} {C : Cs}
/-! ### where it rings -/
def sp_call_that_rings (K : PySem.W.Frag) (C : Cs) : Sp := fun vs H Q _ => ∃ (L : Lay) (h : Te.Hall) (x : Nat) (na da : Addr) (d : List Nat) (t : Nat), vs = [.ref L.ex, iv x, .ref na, .ref da, iv t] ∧ Rep C H L h ∧ Base h ∧ Dig H L da d ∧ t ≤ 6 ∧
  (rings L.st x (6 - t) h d = none → ∀ H', Same H H' → Q .non H') ∧
  (∀ y k, rings L.st x (6 - t) h d = some (y, k) → ∀ H' c dx, Same H H' → H c = none → H' c = some (.ins C.c_Call dx (callF x y na k h.now .non .non)) → Q (.ref c) H')
theorem cal_call_that_rings (T : Txt K mg C) : Cal P w K mg base 3 "call_that_rings" (sp_call_that_rings K C) := by
  refine T.d_call_that_rings.cal sc_call_that_rings (fun vs H Q E h => ?_) (fun f cdv A outer s H vs Q E hr h => ⟨_, (pss_cons (ps_set (i := 5) sc_call_that_rings.nd rfl (Or.inl rfl) (pv 3))
    (pss_cons (ps_set (i := 6) sc_call_that_rings.nd rfl (Or.inl rfl) (pv 4))
    (pss_cons (ps_while PassesOwn.never (pt_cmpR op_le (pv 6) (pe_gi rfl T.k_MOST_HANDED_ON) (nomark _))
      (pss_cons (ps_set (i := 7) sc_call_that_rings.nd rfl (Or.inl rfl) (pe_c (cal_line_of_number T) hr (by decide) rfl (pa_cons (pv 0) (pa_cons (pv 5) pa_nil))))
    (pss_cons (ps_if (pt_cmp (pc_isN (pv 7)))
      (pss_cons (ps_set (i := 7) sc_call_that_rings.nd rfl (Or.inl rfl) (pe_c (cal_first_idle_member T) hr (by decide) rfl (pa_cons (pv 0) (pa_cons (pv 5) (pa_cons (pv 1) pa_nil)))))
    (pss_one (ps_ret (pe_ifExp (pt_cmp (pc_isN (pv 7))) pe_non (pe_mk (mak_Call T) hr (by decide) rfl (pa_cons (pv 1) (pa_cons (pv 7) (pa_cons (pv 2) (pa_cons (pv 6) (pa_cons (pe_fld (pv 0) rfl) pa_nil))))))))))
      pss_nil)
    (pss_cons (ps_set (i := 8) sc_call_that_rings.nd rfl (Or.inl rfl) (pe_c (cal_handed_on_to T) hr (by decide) rfl (pa_cons (pe_ix ix_list (pe_fld (pv 0) rfl) (pv 7) (fun _ _ => rfl)) pa_nil)))
    (pss_cons (ps_if (pt_cmpR op_eq (pe_callB call_len_seq (by rfl) T.n_len PySem.boot_len (pa_cons (pv 8) pa_nil)) pe_int (nomark _))
      (pss_one (ps_ret (pe_ifExp (pt_val (pe_c (cal_is_idle T) hr (by decide) rfl (pa_cons (pv 0) (pa_cons (pv 7) pa_nil)))) (pe_mk (mak_Call T) hr (by decide) rfl (pa_cons (pv 1) (pa_cons (pv 7) (pa_cons (pv 2) (pa_cons (pv 6) (pa_cons (pe_fld (pv 0) rfl) pa_nil)))))) pe_non)))
      pss_nil)
    (pss_cons (ps_set (i := 5) sc_call_that_rings.nd rfl (Or.inl rfl) (pv 8))
    (pss_one (ps_aug (i := 6) sc_call_that_rings.nd rfl (Or.inl rfl) pe_int ip_add))))))))
    (pss_one (ps_ret pe_non))))), ?_⟩)
  · obtain ⟨L, h, x, na, da, d, t, rfl, _⟩ := h
    rfl
  obtain ⟨L, h, x, na, da, d, t, rfl, R, B, hd, ht, k1, k2⟩ := h
  obtain ⟨dxe, hxe⟩ := R.ex
  refine ⟨_, rfl, _, rfl, ?_⟩
  refine ⟨fun m σ H' => ∃ t' p d' u v, m = 7 - t' ∧ t' ≤ 6 ∧ σ = [some (.ref L.ex), some (iv x), some (.ref na), some (.ref da), some (iv t), some (.ref p), some (iv t'), u, v] ∧ Same H H' ∧ Dig H' L p d' ∧ rings L.st x (6 - t') h d' = rings L.st x (6 - t) h d,
    ⟨_, t, da, d, none, none, rfl, ht, rfl, Same.refl H, hd, rfl⟩, ?_⟩
  rintro m σ H1 ⟨t', p, d', u, v, rfl, ht', rfl, s1, hp, er⟩
  refine ⟨_, rfl, _, _, rfl, rfl, _, rfl, ?_⟩
  by_cases c : t' ≤ 5
  · refine if_t (decide_eq_true (by omega)) ?_
    obtain ⟨f', hf⟩ : ∃ f', 6 - t' = f' + 1 := ⟨5 - t', by omega⟩
    have e5 : 5 - f' = t' := by omega
    have R1 := R.same s1
    rw [hf] at er
    refine ⟨fun σ' H' => ∃ t2 p d' u v, t2 = t' + 1 ∧ σ' = [some (.ref L.ex), some (iv x), some (.ref na), some (.ref da), some (iv t), some (.ref p), some (iv t2), u, v] ∧ Same H H' ∧ Dig H' L p d' ∧ rings L.st x (6 - t2) h d' = rings L.st x (6 - t) h d, ?_, ?_⟩
    · rintro σ' H' ⟨t2, p, d', u, v, rfl, rfl, s2, hp, er⟩
      exact ⟨_, by omega, t' + 1, p, d', u, v, rfl, by omega, rfl, s2, hp, er⟩
    refine ⟨_, rfl, _, rfl, L, h, p, d', rfl, R1, hp.sq, fun H2 s2 => ?_⟩
    have s12 := Same.trans s1 s2
    cases el : h.lines.findIdx? fun (l : Te.Line) => l.number == some d' with
    | none =>
      have er := (rings_group el).symm.trans er
      refine ⟨_, rfl, _, rfl, if_t dec_nn ?_⟩
      refine ⟨_, rfl, _, rfl, _, rfl, L, h, p, d', x, rfl, R.same s12, B, Same.seq s2 hp.sq, fun H3 s3 => ?_⟩
      have s13 := Same.trans s12 s3
      cases eo : idleOf L.st h x d' with
      | none =>
        rw [eo] at er
        exact ⟨_, rfl, _, rfl, if_t dec_nn (k1 er.symm H3 s13)⟩
      | some y =>
        rw [eo] at er
        have er : some (y, 5 - f') = _ := er
        rw [e5] at er
        refine ⟨_, rfl, _, rfl, if_f (dec_non y) ?_⟩
        refine ⟨_, rfl, _, rfl, _, rfl, _, rfl, _, rfl, L.ex, _, dxe, _, _, rfl, s13 _ _ hxe, T.cl_Exchange, T.na_Exchange_time, exF_time L h, fun q dq nq nd ne => ?_⟩
        refine ⟨q, dq, x, y, na, t', h.now, rfl, upd_same, rfl, ?_⟩
        rw [upd_upd]
        exact k2 y t' er.symm _ q dq (Same.trans s13 (same_made nq nd)) (s13.free nq) upd_same
    | some y =>
      have er := (rings_line el).symm.trans er
      rw [e5] at er
      refine ⟨_, rfl, _, rfl, if_f (dec_non y) ?_⟩
      obtain ⟨hy, _, _⟩ := List.findIdx?_eq_some_iff_getElem.mp el
      obtain ⟨a, b, ha, hb, q⟩ := R.lineAt hy
      refine ⟨_, rfl, L.ex, _, dxe, _, _, rfl, s12 _ _ hxe, T.cl_Exchange, T.na_Exchange_lines, exF_lines L h, _, rfl, L.ls, _, y, _, rfl, rfl, SqL.of (s12 _ _ R.ls), at_of (j := y) rfl (Rep.line_get (H := H) (h := h) ha), L, h, y, a, rfl, R.same s12, ha, fun H3 o s3 ho => ?_⟩
      have s13 := Same.trans s12 s3
      refine ⟨_, rfl, o, _, rfl, .inl ho.sq, rfl, _, rfl, ?_⟩
      have lm : (ivs (onward (L.st y) (Te.lineOf h y))).length = (onward (L.st y) (Te.lineOf h y)).length := List.length_map _
      have ed : decide (V.int ((ivs (onward (L.st y) (Te.lineOf h y))).length : Nat) = V.int 0) = decide ((onward (L.st y) (Te.lineOf h y)).length = 0) := by
        rw [lm]
        exact dec_iv _ 0
      rw [ed]
      refine if_b (fun c1 => ?_) (fun c1 => ?_)
      · rw [if_pos (of_decide_eq_true c1)] at er
        refine ⟨_, rfl, _, rfl, L, h, y, rfl, R.same s13, hy, _, rfl, ?_⟩
        refine if_b (fun c2 => ?_) (fun c2 => ?_)
        · rw [if_pos (of_decide_eq_true c2)] at er
          refine ⟨_, rfl, _, rfl, _, rfl, _, rfl, _, rfl, L.ex, _, dxe, _, _, rfl, s13 _ _ hxe, T.cl_Exchange, T.na_Exchange_time, exF_time L h, fun q dq nq nd ne => ?_⟩
          refine ⟨q, dq, x, y, na, t', h.now, rfl, upd_same, rfl, ?_⟩
          rw [upd_upd]
          exact k2 y t' er.symm _ q dq (Same.trans s13 (same_made nq nd)) (s13.free nq) upd_same
        · rw [if_neg (of_decide_eq_false c2)] at er
          exact k1 er.symm H3 s13
      · rw [if_neg (of_decide_eq_false c1)] at er
        refine ⟨_, rfl, ?_⟩
        have ef : 6 - (t' + 1) = f' := by omega
        refine ⟨_, rfl, _, _, rfl, rfl, t' + 1, o, _, _, _, rfl, rfl, s13, ho, ?_⟩
        rw [ef]
        exact er
  · refine if_f (decide_eq_false (by omega)) ?_
    have e6 : 6 - t' = 0 := by omega
    rw [e6] at er
    exact k1 er.symm H1 s1
end
end Tx
end
section
namespace Tx
open PySem PySem.Spec PyProof.Rows L2
theorem lineOf_staged {h : Te.Hall} {i j : Nat} {s : Te.Stage} (hi : i < h.lines.length) : Te.lineOf (Te.staged h i s) j = if j = i then { Te.lineOf h i with stage := s } else Te.lineOf h j := lineOf_set hi
theorem staged_len {h : Te.Hall} {i : Nat} {s : Te.Stage} : (Te.staged h i s).lines.length = h.lines.length := List.length_set
theorem stageNo_set {h : Te.Hall} {i j : Nat} {l : Te.Line} (ne : j ≠ i) : Te.stageNo (Te.setLine h i l) j = Te.stageNo h j := by
  unfold Te.stageNo
  rw [lineOf_other ne]
  rfl
theorem stageNo_tone {h : Te.Hall} {i : Nat} (hi : i < h.lines.length) : Te.stageNo (Te.staged h i .tone) i = 4 := by
  unfold Te.stageNo
  rw [lineOf_staged hi, if_pos rfl]
theorem exF_putMoved (L : Lay) (h : Te.Hall) (n : Nat) : putF "moved" (iv n) (exF L h) = exF L { h with wait := h.wait, now := h.now, moved := n } := by
  unfold exF
  rw [put_past (by decide +kernel), put_past (by decide +kernel), put_past (by decide +kernel), put_past (by decide +kernel), put_past (by decide +kernel), put_past (by decide +kernel), put_past (by decide +kernel), put_here]
/-- a line's object says something else -/
theorem tells_set {L : Lay} {h : Te.Hall} {i sn : Nat} {l : Te.Line} (hi : i < h.lines.length) (o : ∀ j, j < h.lines.length → j ≠ i → L.st j = Te.stageNo h j) (e : sn = Te.stageNo (Te.setLine h i l) i) : Tells { L with st := fun j => if j = i then sn else L.st j } (Te.setLine h i l) := by
  intro j hj
  have hj : j < (h.lines.set i l).length := hj
  rw [List.length_set] at hj
  show (if j = i then sn else L.st j) = _
  by_cases c : j = i
  · subst c
    rw [if_pos rfl]
    exact e
  · rw [if_neg c, stageNo_set c]
    exact o j hj c
section
variable {P : Program} {w : World} {K : PySem.W.Frag} {mg : Str → Option Value} {base : Heap} {C : Cs}
/-! ### a number is tried -/
/-- two lines are in a new call -/
theorem connected_tells {h : Te.Hall} {x y k : Nat} {dl : Te.Digits} {kk cnt : Nat} {l' : List Te.Leg} {L : Lay} (B : Base h) (O : OnBut h (· = x)) (hx : x < h.size.lines) (hy : y < h.size.lines) (ne : y ≠ x) (fy : ¬ InCall h y) (hk : k ≤ 5) (hd : Te.isNumber dl = true) (S : Seen L.st h x) (r : Te.route h.size h.legs x y = some (kk, (l', cnt))) :
    ∀ j, j < h.lines.length → (if j = y then 5 else if j = x then 3 else L.st j) = Te.stageNo (Te.connected h x y dl k) j := by
  have W := connected_ok (hops := k) (dl := dl) B O hx hy ne fy hk hd
  have fx : ¬ InCall h x := O.off x rfl
  have xl : x < h.lines.length := by rw [B.len]; exact hx
  have yl : y < h.lines.length := by rw [B.len]; exact hy
  have ez : Te.connected h x y dl k = Te.staged (Te.staged { h with legs := l' ++ [⟨x, y, kk⟩], calls := h.calls ++ [⟨x, y, dl, k, h.now, none⟩], moved := h.moved + cnt } x .on) y .on := by
    unfold Te.connected
    rw [r]
  intro j hj
  have ca : ∀ i, Te.callOf (Te.connected h x y dl k) i = (h.calls ++ [(⟨x, y, dl, k, h.now, none⟩ : Te.Call_)]).find? fun (c : Te.Call_) => c.from_ == i || c.to_ == i := by
    intro i
    rw [ez]
    rfl
  have lo : ∀ i, Te.lineOf (Te.connected h x y dl k) i = if i = y then { Te.lineOf (Te.staged { h with legs := l' ++ [⟨x, y, kk⟩], calls := h.calls ++ [⟨x, y, dl, k, h.now, none⟩], moved := h.moved + cnt } x .on) y with stage := .on } else if i = x then { Te.lineOf h x with stage := .on } else Te.lineOf h i := by
    intro i
    rw [ez, lineOf_staged (by rw [staged_len]; exact yl)]
    by_cases c : i = y
    · rw [if_pos c, if_pos c]
    · rw [if_neg c, if_neg c]
      exact lineOf_staged (h := { h with legs := l' ++ [⟨x, y, kk⟩], calls := h.calls ++ [⟨x, y, dl, k, h.now, none⟩], moved := h.moved + cnt }) xl
  have cn : ∀ i, ¬ InCall h i → (h.calls.find? fun (c : Te.Call_) => c.from_ == i || c.to_ == i) = none := fun i q => callOf_none.mpr q
  by_cases cy : j = y
  · subst cy
    rw [if_pos rfl]
    unfold Te.stageNo
    rw [lo j, if_pos rfl, ca, List.find?_append, cn j fy]
    have e1 : (x == j) = false := beq_eq_false_iff_ne.mpr (Ne.symm ne)
    simp [e1]
    omega
  · rw [if_neg cy]
    by_cases cx : j = x
    · subst cx
      rw [if_pos rfl]
      unfold Te.stageNo
      rw [lo j, if_neg cy, if_pos rfl, ca, List.find?_append, cn j fx]
      simp
    · rw [if_neg cx, S.other j hj cx]
      unfold Te.stageNo
      rw [lo j, if_neg cy, if_neg cx, ca, List.find?_append]
      have e1 : (x == j) = false := beq_eq_false_iff_ne.mpr (Ne.symm cx)
      have e2 : (y == j) = false := beq_eq_false_iff_ne.mpr (Ne.symm cy)
      have e3 : ([(⟨x, y, dl, k, h.now, none⟩ : Te.Call_)].find? fun (c : Te.Call_) => c.from_ == j || c.to_ == j) = none := by
        simp [e1, e2]
      rw [e3, Option.or_none]
      rfl
def sp_try_number (K : PySem.W.Frag) (C : Cs) : Sp := fun vs H Q _ => ∃ (L : Lay) (h : Te.Hall) (x : Nat) (na da : Addr) (dl d : List Nat) (t : Nat), vs = [.ref L.ex, iv x, .ref na, .ref da, iv t] ∧ Rep C H L h ∧ Base h ∧ Dig H L na dl ∧ Dig H L da d ∧ Te.isNumber dl = true ∧
  OnBut h (· = x) ∧ x < h.size.lines ∧ Seen L.st h x ∧ (Te.lineOf h x).stage ≠ .on ∧ t ≤ 6 ∧
  ∀ H' L', Rep C H' L' (Te.tried x dl (6 - t) h d) → Tells L' (Te.tried x dl (6 - t) h d) → Stp H L H' L' → (∃ m, L'.call = L.call ++ m) → Q (iv ((Te.tried x dl (6 - t) h d).moved - h.moved)) H'
theorem cal_try_number (T : Txt K mg C) : Cal P w K mg base 5 "try_number" (sp_try_number K C) := by
  refine T.d_try_number.cal sc_try_number (fun vs H Q E h => ?_) (fun f cdv A outer s H vs Q E hr h => ⟨_, (pss_cons (ps_set (i := 5) sc_try_number.nd rfl (Or.inl rfl) (pe_c (cal_call_that_rings T) hr (by decide) rfl (pa_cons (pv 0) (pa_cons (pv 1) (pa_cons (pv 2) (pa_cons (pv 3) (pa_cons (pv 4) pa_nil)))))))
    (pss_cons (ps_if (pt_cmp (pc_isN (pv 5)))
      (pss_cons (ps_expr (pe_c (cal_give_tone T) hr (by decide) rfl (pa_cons (pe_ix ix_list (pe_fld (pv 0) rfl) (pv 1) (fun _ _ => rfl)) pa_nil)))
    (pss_one (ps_ret pe_int)))
      pss_nil)
    (pss_cons (ps_set (i := 6) sc_try_number.nd rfl (Or.inl rfl) (pe_c (cal_put_on_a_way T) hr (by decide) rfl (pa_cons (pv 0) (pa_cons (pv 5) pa_nil))))
    (pss_cons (ps_fldaug (pv 0) (pv 6) in_add)
    (pss_cons (ps_expr (pe_bm PySem.F.plainAttrs_list PySem.F.slot_list_append PySem.F.type_list_append mt_append (pe_fld (pv 0) rfl) (pa_cons (pv 5) pa_nil)))
    (pss_cons (ps_expr (pe_c (cal_enter_call T) hr (by decide) rfl (pa_cons (pe_ix ix_list (pe_fld (pv 0) rfl) (pe_fld (pv 5) rfl) (fun _ _ => rfl)) (pa_cons (pe_gi rfl T.k_WAITS) (pa_cons (pv 5) pa_nil)))))
    (pss_cons (ps_expr (pe_c (cal_enter_call T) hr (by decide) rfl (pa_cons (pe_ix ix_list (pe_fld (pv 0) rfl) (pe_fld (pv 5) rfl) (fun _ _ => rfl)) (pa_cons (pe_gi rfl T.k_RINGS) (pa_cons (pv 5) pa_nil)))))
    (pss_one (ps_ret (pv 6)))))))))), ?_⟩)
  · obtain ⟨L, h, x, na, da, dl, d, t, rfl, _⟩ := h
    rfl
  obtain ⟨L, h, x, na, da, dl, d, t, rfl, R, B, hna, hda, hdl, O, hx, S, nx, ht, k⟩ := h
  have et := tried_rings (dl := dl) (6 - t) h d B S (by omega)
  have xl : x < h.lines.length := by rw [B.len]; exact hx
  obtain ⟨a, b, ha, hb, q⟩ := R.lineAt xl
  refine ⟨_, rfl, _, rfl, _, rfl, _, rfl, _, rfl, L, h, x, na, da, d, t, rfl, R, B, hda, ht, fun e H1 s1 => ?_, fun y kh e H1 c dxc s1 nc hc => ?_⟩
  · rw [e] at et
    rw [et] at k
    have R1 := R.same s1
    obtain ⟨dxe, hxe⟩ := R1.ex
    obtain ⟨dx1, nv, dl1, d0, a0, a1, a2, cv, h1, h2, h3, h4, h5, h6, h7, h8, h9⟩ := (q.same s1).ex
    refine ⟨_, rfl, _, rfl, if_t dec_nn ?_⟩
    refine ⟨_, rfl, L.ex, _, dxe, _, _, rfl, hxe, T.cl_Exchange, T.na_Exchange_lines, exF_lines L h, _, rfl, L.ls, _, x, _, rfl, rfl, SqL.of R1.ls, at_of (j := x) rfl (Rep.line_get (H := H) (h := h) ha), a, dx1, _, nv, dl1, b, cv, _, rfl, h1, ?_⟩
    have ka : L.kind a % 10 ≠ 0 := by rw [R.kline a (List.mem_of_getElem? ha)]; decide
    have R2 := R1.line (l' := { Te.lineOf h x with stage := .tone }) (sn := 4) (dx := dx1) (cv := .non) ha hb rfl rfl rfl h2 h3 (fun d e => by cases e) ⟨fun k c e => (by cases e), fun _ => rfl⟩
    have e0 : (Te.staged h x .tone).moved - h.moved = 0 := Nat.sub_self h.moved
    rw [e0] at k
    exact k _ _ R2 (tells_set xl S.other (stageNo_tone xl).symm) (Stp.trans (Stp.of_same L s1) ⟨(Stp.upd ka).keep, rfl, rfl⟩) ⟨[], (List.append_nil _).symm⟩
  · rw [e] at et
    have et : Te.tried x dl (6 - t) h d = Te.connected h x y dl kh := et
    rw [et] at k
    obtain ⟨hy, sy, hk5⟩ := rings_to _ _ _ B e
    have yx : y ≠ x := fun z => S.self (z ▸ sy)
    have yl : y < h.lines.length := by rw [B.len]; exact hy
    have iy : Te.isIdle h y = true := by
      have := S.idle yl
      rw [decide_eq_true sy, decide_eq_false yx] at this
      exact this.symm
    have fy : ¬ InCall h y := idle_off O hy yx iy
    have fx : ¬ InCall h x := O.off x rfl
    have R1 := R.same s1
    refine ⟨_, rfl, _, rfl, if_f (dec_ref c) ?_⟩
    refine ⟨_, rfl, _, rfl, L, h, c, dxc, x, y, na, kh, h.now, .non, .non, rfl, R1, B, fx, fy, hc, R.kfree c nc, fun kk l' cnt H2 r R2 hc2 fr => ?_⟩
    have kc : L.kind c = 0 := R.kfree c nc
    obtain ⟨dxe0, hxe0⟩ := R2.ex
    refine ⟨_, rfl, L.ex, _, dxe0, _, _, rfl, hxe0, T.cl_Exchange, T.na_Exchange_moved, exF_moved L _, _, rfl, _, _, rfl, rfl, dxe0, _, hxe0, (by show 10 < 1000; decide), ?_⟩
    have R2 : Rep C (upd H2 L.ex (.ins C.c_Exchange dxe0 (exF L { h with legs := l', moved := h.moved + cnt }))) L { h with legs := l', moved := h.moved + cnt } := R2.setEx (dx := dxe0) (t := h.wait) (n := h.now) (mv := h.moved + cnt)
    have hc2 : upd H2 L.ex (.ins C.c_Exchange dxe0 (exF L { h with legs := l', moved := h.moved + cnt })) c = some (.ins C.c_Call dxc (callF x y na kh h.now .non (iv kk))) := by
      rw [upd_ne (Lay.ne kc R.kex (by decide))]
      exact hc2
    have fr : ∀ q o, H1 q = some o → L.kind q % 10 = 0 → q ≠ c → upd H2 L.ex (.ins C.c_Exchange dxe0 (exF L { h with legs := l', moved := h.moved + cnt })) q = some o := fun q o hq kq nq => by
      rw [upd_ne (show q ≠ L.ex from fun e => by rw [e, R.kex] at kq; cases kq)]
      exact fr q o hq kq nq
    have em0 : putF "moved" (V.int ((h.moved : Int) + (cnt : Int))) (exF L { h with legs := l' }) = exF L { h with legs := l', moved := h.moved + cnt } := exF_putMoved L { h with legs := l' } (h.moved + cnt)
    have em1 : ∀ (D : L2.Ends) (σ : L2.St), D.nx σ (upd H2 L.ex (.ins C.c_Exchange dxe0 (exF L { h with legs := l', moved := h.moved + cnt }))) → D.nx σ (upd H2 L.ex (.ins C.c_Exchange dxe0 (putF "moved" (V.int ((h.moved : Int) + (cnt : Int))) (exF L { h with legs := l' })))) := fun D σ z => by
      rw [em0]
      exact z
    refine em1 _ _ ?_
    generalize upd H2 L.ex (.ins C.c_Exchange dxe0 (exF L { h with legs := l', moved := h.moved + cnt })) = H2 at R2 hc2 fr ⊢
    have na2 : Dig H2 L na dl := ⟨fr na _ (s1 _ _ hna.1) (by rw [hna.2]) (ne_of (s1 _ _ hna.1) hc (by intro z; cases z)), hna.2⟩
    have ny : (Te.lineOf h y).stage ≠ .on := by rw [idle_stage iy]; exact fun z => by cases z
    have R3 := R2.addCall (cl := ⟨x, y, dl, kh, h.now, none⟩) (k := kk) hc2 kc na2 nx ny
    obtain ⟨dxe, hxe⟩ := R2.ex
    have cl64 : (L.call.map V.ref).length < sizeLine := by
      have l1 : h.calls.length ≤ h.lines.length := by
        rw [B.len, ← List.length_map (f := fun (q : Te.Call_) => q.from_)]
        have nd := nodup_from B
        rw [legs_from B] at nd
        have := nd.length_le_of_subset (l₂ := List.range h.size.lines) fun y hy => by
          obtain ⟨c, hc, rfl⟩ := List.mem_map.mp hy
          exact List.mem_range.mpr (B.calls c hc).f
        rw [List.length_range] at this
        exact this
      have := B.lines64
      rw [List.length_map, R.cl]
      have : 64 < sizeLine := by decide
      omega
    refine ⟨_, rfl, L.ex, _, dxe, _, _, rfl, hxe, T.cl_Exchange, T.na_Exchange_calls, exF_calls L _, .inl ⟨rfl, _, SqL.of R2.cs⟩, _, rfl, L.cs, _, _, rfl, rfl, R2.cs, cl64, ?_⟩
    have e5 : L.call.map V.ref ++ [V.ref c] = (L.call ++ [c]).map V.ref := by
      rw [List.map_append]
      rfl
    rw [e5]
    have hc3 : upd H2 L.cs (.lst ((L.call ++ [c]).map V.ref)) c = some (.ins C.c_Call dxc (callF x y na kh h.now .non (iv kk))) := by
      rw [upd_ne (Lay.ne kc R.kcs (by decide))]
      exact hc2
    -- who called waits
    obtain ⟨dxe3, hxe3⟩ := R3.ex
    obtain ⟨dx1, nv, dl1, d0, a0, a1, a2, cv, h1, h2, h3, h4, h5, h6, h7, h8, h9⟩ := (R3.lines x a b ha hb).ex
    refine ⟨_, rfl, L.ex, _, dxe3, _, _, rfl, hxe3, T.cl_Exchange, T.na_Exchange_lines, exF_lines _ _, _, rfl, c, _, dxc, _, _, rfl, hc3, T.cl_Call, T.na_Call_caller, callF_caller, L.ls, _, x, _, rfl, rfl, SqL.of R3.ls, at_of (j := x) rfl (Rep.line_get (H := H) (h := h) ha), _, rfl, a, dx1, _, 3, nv, dl1, b, cv, .ref c, _, rfl, h1, ?_⟩
    have lastc : ∀ i, ¬ InCall h i → ∀ (k : Nat) c', (h.calls ++ [(⟨x, y, dl, kh, h.now, none⟩ : Te.Call_)])[k]? = some c' → (c'.from_ = i ∨ c'.to_ = i) → ∃ b, (L.call ++ [c])[k]? = some b ∧ V.ref c = V.ref b := by
      intro i fi k c' hk e
      rw [List.getElem?_append] at hk
      by_cases z : k < h.calls.length
      · rw [if_pos z] at hk
        exact (fi ⟨c', List.mem_of_getElem? hk, e⟩).elim
      · rw [if_neg z] at hk
        have z2 := (List.getElem?_eq_some_iff.mp hk).1
        have z3 : k = L.call.length := by
          rw [R.cl]
          simp at z2
          omega
        refine ⟨c, ?_, rfl⟩
        rw [z3, List.getElem?_append_right (Nat.le_refl _), Nat.sub_self]
        rfl
    have R4 := R3.line (l' := { Te.lineOf h x with stage := .on }) (sn := 3) (dx := dx1) (cv := .ref c) ha hb rfl rfl rfl h2 h3 (fun d e => by cases e) ⟨fun k c' _ hk e => lastc x fx k c' hk e, fun z => by omega⟩
    have ac : a ≠ c := Lay.ne (R.kline a (List.mem_of_getElem? ha)) kc (by decide)
    have hc4 : ∀ o, upd (upd H2 L.cs (.lst ((L.call ++ [c]).map V.ref))) a o c = some (.ins C.c_Call dxc (callF x y na kh h.now .non (iv kk))) := fun o => by
      rw [upd_ne (Ne.symm ac)]
      exact hc3
    -- the other rings
    obtain ⟨a', b', ha', hb', q'⟩ := R.lineAt yl
    obtain ⟨dxe4, hxe4⟩ := R4.ex
    obtain ⟨dx2, nv2, dl2, d2, a02, a12, a22, cv2, h12, h22, h32, h42, h52, h62, h72, h82, h92⟩ := (R4.lines y a' b' ha' hb').ex
    refine ⟨_, rfl, L.ex, _, dxe4, _, _, rfl, hxe4, T.cl_Exchange, T.na_Exchange_lines, exF_lines _ _, _, rfl, c, _, dxc, _, _, rfl, hc4 _, T.cl_Call, T.na_Call_called, callF_called, L.ls, _, y, _, rfl, rfl, SqL.of R4.ls, at_of (j := y) rfl (Rep.line_get (H := H) (h := h) ha'), _, rfl, a', dx2, _, 5, nv2, dl2, b', cv2, .ref c, _, rfl, h12, ?_⟩
    have R5 := R4.line (l' := { Te.lineOf (Te.setLine { h with legs := l' ++ [⟨x, y, kk⟩], calls := h.calls ++ [⟨x, y, dl, kh, h.now, none⟩], moved := h.moved + cnt } x { Te.lineOf h x with stage := .on }) y with stage := .on }) (sn := 5) (dx := dx2) (cv := .ref c) ha' hb' rfl rfl rfl h22 h32 (fun d e => by cases e) ⟨fun k c' _ hk e => lastc y fy k c' hk e, fun z => by omega⟩
    have ez : Te.connected h x y dl kh = Te.setLine (Te.setLine { h with legs := l' ++ [⟨x, y, kk⟩], calls := h.calls ++ [⟨x, y, dl, kh, h.now, none⟩], moved := h.moved + cnt } x { Te.lineOf h x with stage := .on }) y { Te.lineOf (Te.setLine { h with legs := l' ++ [⟨x, y, kk⟩], calls := h.calls ++ [⟨x, y, dl, kh, h.now, none⟩], moved := h.moved + cnt } x { Te.lineOf h x with stage := .on }) y with stage := .on } := by
      unfold Te.connected
      rw [r]
      rfl
    have tl := connected_tells (dl := dl) B O hx hy yx fy hk5 hdl S r
    have em : (Te.connected h x y dl kh).moved - h.moved = cnt := by
      rw [ez]
      exact Nat.add_sub_cancel_left ..
    rw [em] at k
    have len : (Te.connected h x y dl kh).lines.length = h.lines.length := by
      rw [ez]
      show ((h.lines.set x _).set y _).length = _
      rw [List.length_set, List.length_set]
    have ka : L.kind a % 10 ≠ 0 := by rw [R.kline a (List.mem_of_getElem? ha)]; decide
    have ka' : L.kind a' % 10 ≠ 0 := by rw [R.kline a' (List.mem_of_getElem? ha')]; decide
    have kcs : L.kind L.cs % 10 ≠ 0 := by rw [R.kcs]; decide
    refine ⟨_, rfl, k _ _ (Eq.mpr (congrArg (Rep C _ _) ez) R5) (fun j hj => ?_) ⟨fun q o hq kq => ?_, rfl, rfl⟩ ⟨[c], rfl⟩⟩
    · rw [len] at hj
      exact tl j hj
    · have qc : q ≠ c := ne_of_none hq nc
      refine ⟨?_, ?_⟩
      · rw [upd_ne (show q ≠ a' from fun e => ka' (e ▸ kq)), upd_ne (show q ≠ a from fun e => ka (e ▸ kq)), upd_ne (show q ≠ L.cs from fun e => kcs (e ▸ kq))]
        exact fr q o (s1 _ _ hq) kq qc
      · show (if q = c then 8 else L.kind q) = L.kind q
        rw [if_neg qc]
end
end Tx
end
section
namespace Tx
open PySem PySem.Spec PyProof.Rows L2
/-! ### len(set(..)) of whole numbers: how many differ -/
def differ (ns : List Int) : List Int := firstMet (fun i => ns.getD i 0) ns.length
theorem met_step (f : Nat → Int) (i : Nat) : (f i ∈ firstMet f i ∧ firstMet f (i + 1) = firstMet f i) ∨ (f i ∉ firstMet f i ∧ firstMet f (i + 1) = firstMet f i ++ [f i]) := by
  rw [firstMet_succ]
  unfold step_dedup
  by_cases c : f i ∈ firstMet f i
  · refine .inl ⟨c, ?_⟩
    rw [if_pos]
    rw [List.any_eq_true]
    exact ⟨f i, c, beq_self_eq_true _⟩
  · refine .inr ⟨c, ?_⟩
    rw [if_neg]
    intro q
    rw [List.any_eq_true] at q
    obtain ⟨y, hy, e⟩ := q
    exact c (eq_of_beq e ▸ hy)
theorem met_mem (f : Nat → Int) : ∀ i j, j < i → f j ∈ firstMet f i
  | 0, j, h => absurd h (Nat.not_lt_zero j)
  | i + 1, j, h => by
    rcases met_step f i with ⟨c, e⟩ | ⟨c, e⟩
    · rw [e]
      by_cases q : j = i
      · exact q ▸ c
      · exact met_mem f i j (by omega)
    · rw [e]
      by_cases q : j = i
      · subst q
        exact List.mem_append_right _ (List.mem_singleton_self _)
      · exact List.mem_append_left _ (met_mem f i j (by omega))
theorem met_of (f : Nat → Int) : ∀ i y, y ∈ firstMet f i → ∃ j, j < i ∧ f j = y
  | 0, y, h => by
    rw [firstMet_zero] at h
    cases h
  | i + 1, y, h => by
    rcases met_step f i with ⟨c, e⟩ | ⟨c, e⟩
    · rw [e] at h
      obtain ⟨j, hj, q⟩ := met_of f i y h
      exact ⟨j, by omega, q⟩
    · rw [e] at h
      rcases List.mem_append.mp h with h | h
      · obtain ⟨j, hj, q⟩ := met_of f i y h
        exact ⟨j, by omega, q⟩
      · rw [List.mem_singleton] at h
        exact ⟨i, Nat.lt_succ_self i, h.symm⟩
/-- all differ; or two are alike -/
theorem met_len (f : Nat → Int) : ∀ i, ((∀ j k, j < k → k < i → f j ≠ f k) → (firstMet f i).length = i) ∧ ((∃ j k, j < k ∧ k < i ∧ f j = f k) → (firstMet f i).length < i)
  | 0 => ⟨fun _ => rfl, fun ⟨j, k, _, h, _⟩ => absurd h (Nat.not_lt_zero k)⟩
  | i + 1 => by
    obtain ⟨ih1, ih2⟩ := met_len f i
    have le := firstMet_length_le f i
    refine ⟨fun h => ?_, fun ⟨j, k, hjk, hk, e⟩ => ?_⟩
    · rcases met_step f i with ⟨c, e⟩ | ⟨c, e⟩
      · obtain ⟨j, hj, q⟩ := met_of f i _ c
        exact absurd q (h j i hj (Nat.lt_succ_self i))
      · rw [e, List.length_append, ih1 fun j k a b => h j k a (by omega)]
        rfl
    · by_cases q : k = i
      · subst q
        rcases met_step f k with ⟨c, e'⟩ | ⟨c, e'⟩
        · rw [e']
          omega
        · exact absurd (e ▸ met_mem f k j hjk) c
      · have := ih2 ⟨j, k, hjk, by omega, e⟩
        rcases met_step f i with ⟨c, e'⟩ | ⟨c, e'⟩
        · rw [e']
          omega
        · rw [e', List.length_append]
          simp
          omega
theorem allOnce_iff : ∀ l : List Nat, Te.allOnce l = true ↔ l.Nodup
  | [] => by simp [Te.allOnce]
  | x :: l => by
    unfold Te.allOnce
    rw [Bool.and_eq_true, allOnce_iff l, List.nodup_cons]
    simp
theorem differ_len (l : List Nat) : decide (((differ (l.map fun (n : Nat) => (n : Int))).length : Int) < (l.length : Int)) = !Te.allOnce l := by
  have lm : (l.map fun (n : Nat) => (n : Int)).length = l.length := List.length_map _
  obtain ⟨h1, h2⟩ := met_len (fun i => (l.map fun (n : Nat) => (n : Int)).getD i 0) l.length
  have at_ : ∀ i (hi : i < l.length), (l.map fun (n : Nat) => (n : Int)).getD i 0 = (l[i] : Nat) := by
    intro i hi
    rw [List.getD_eq_getElem?_getD, List.getElem?_map, List.getElem?_eq_getElem hi]
    rfl
  unfold differ
  rw [lm]
  cases e : Te.allOnce l with
  | true =>
    have nd := List.pairwise_iff_getElem.mp ((allOnce_iff l).mp e)
    rw [h1 fun j k hjk hk q => ?_]
    · exact decide_eq_false (Int.lt_irrefl _)
    · rw [at_ j (by omega), at_ k hk] at q
      exact nd j k (by omega) hk hjk (by omega)
  | false =>
    refine decide_eq_true ?_
    have nn : ¬ l.Nodup := fun q => by
      rw [(allOnce_iff l).mpr q] at e
      cases e
    have : ∃ j k, j < k ∧ k < l.length ∧ (fun i => (l.map fun (n : Nat) => (n : Int)).getD i 0) j = (fun i => (l.map fun (n : Nat) => (n : Int)).getD i 0) k := by
      apply Classical.byContradiction
      intro q
      apply nn
      rw [List.nodup_iff_pairwise_ne, List.pairwise_iff_getElem]
      intro j k hj hk hjk e
      refine q ⟨j, k, hjk, hk, ?_⟩
      show (l.map fun (n : Nat) => (n : Int)).getD j 0 = (l.map fun (n : Nat) => (n : Int)).getD k 0
      rw [at_ j hj, at_ k hk, e]
    have := h2 this
    omega
def tLenSet (K : PySem.W.Frag) (ta : TE) : TE := fun σ H Q => ta σ H fun x H1 => ∃ (l : Addr) (ns : List Int), x = .ref l ∧ SqL K H1 l (ns.map V.int) ∧ ns.length ≤ 4000 ∧ Q (.int (differ ns).length) H1
theorem ints_vals : ∀ {ns : List Int} {us : List Value}, Vals (ns.map V.int) us → IntsAre us ns
  | [], _, .nil => .nil
  | n :: ns, _, .cons r t => by
    obtain ⟨k, e⟩ := r
    subst e
    exact .cons n k (ints_vals t)
theorem pe_lenSet {X : Cx} {a : Expr} {ta : TE} {p p2 q pos : Pos} (g1 : Gl X "len") (m1 : X.mg "len" = none) (g2 : Gl X "set") (m2 : X.mg "set" = none) (ha : PE X a ta) (calm : X.calm = true := by rfl) (one : starEach [a] X.env = (false, eval a X.env) :: starEach [] X.env := by rfl) :
    PE X (.Call (.Name "len" p) [.Call (.Name "set" p2) [a] [] q] [] pos) (tLenSet X.K ta) := by
  constructor
  intro pins s σ H Q I h
  refine Call_ (ld_blt I g1 m1 PySem.boot_len ?_)
  refine callWith_builtin1 (args_cons (Call_ (ld_blt I g2 m2 boot_set (callWith_type1 (args_cons (thn (ha.run pins s σ H _ I h) ?_) one) one rfl))) rfl) rfl rfl
  rintro v s1 ⟨x, H1, I1, r1, l, ns, rfl, hq, hl, q1⟩
  cases r1
  apply args_nil
  obtain ⟨its, r, pl, hz⟩ := I1.list hq
  have size : its.toArray.size = ns.length := by
    have := r.length
    rw [List.length_map] at this
    rw [List.size_toArray, this]
  refine call_set_list (I1.ok.hd calm) pl.isList (by simpa using ints_vals r) (by rw [size]; unfold scanBound; omega) ?_
  intro h' tk made keeps
  apply args_nil
  rw [size] at made
  obtain ⟨o, es, ep, t, ho, hex, hd, _, _, _, hf, hn⟩ := made
  have hn' : _ = (differ ns).length := hn
  have le : (differ ns).length ≤ ns.length := firstMet_length_le _ _
  have I2 : Inv X pins σ H1 { s1 with heap := h', toks := tk } := I1.kept fun b o e => keeps b o (Heap.lt_size e) e
  exact call_len_set ho hex hd hf (by rw [hn'] <;> omega) ⟨.int (differ ns).length, H1, I2.tok _, ⟨_, by rw [hn']⟩, q1⟩
end Tx
end
section
namespace Tx
open PySem PySem.Spec PyProof.Rows L2
/-! ### what is asked, what is answered -/
def reqF (kd : Nat) (na ra : Addr) : List (Str × V) := [("kind", iv kd), ("numbers", .ref na), ("rows", .ref ra)]
theorem reqF_kind {kd : Nat} {na ra : Addr} : (reqF kd na ra).lookup ("kind" : Str) = some (iv kd) := lk_here
theorem reqF_numbers {kd : Nat} {na ra : Addr} : (reqF kd na ra).lookup ("numbers" : Str) = some (.ref na) := by
  unfold reqF
  rw [lk_past (by decide +kernel)]
  exact lk_here
theorem reqF_rows {kd : Nat} {na ra : Addr} : (reqF kd na ra).lookup ("rows" : Str) = some (.ref ra) := by
  unfold reqF
  rw [lk_past (by decide +kernel), lk_past (by decide +kernel)]
  exact lk_here
structure ReqAt (C : Cs) (H : Hp) (L : Lay) (a : Addr) (kd : Nat) (ns : List Nat) (rows : List (List Nat)) : Prop where
  ex : ∃ dx na ra rs, H a = some (.ins C.c_Request dx (reqF kd na ra)) ∧ Dig H L na ns ∧ H ra = some (.lst (rs.map V.ref)) ∧ L.kind ra = 0 ∧ All2 (Dig H L) rs rows
  kind : L.kind a = 0
theorem ReqAt.stp {C : Cs} {H H' : Hp} {L L' : Lay} {a : Addr} {kd : Nat} {ns : List Nat} {rows : List (List Nat)} (q : ReqAt C H L a kd ns rows) (s : Stp H L H' L') : ReqAt C H' L' a kd ns rows := by
  obtain ⟨dx, na, ra, rs, h1, h2, h3, h4, h5⟩ := q.ex
  obtain ⟨g1, g2⟩ := s.keep _ _ h1 (by rw [q.kind])
  obtain ⟨g3, g4⟩ := s.keep _ _ h3 (by rw [h4])
  exact ⟨⟨dx, na, ra, rs, g1, s.dig h2, g3, g4.trans h4, h5.imp fun _ _ z => s.dig z⟩, g2.trans q.kind⟩
def ansV (A : Te.Answer) : List V := .int A.ret :: A.nums.map iv
def Ans (C : Cs) (H : Hp) (L : Lay) (h : Te.Hall) (cl : Te.Call) (Q : VK) : Prop := ∀ H' L' p h' A, Te.stepOn h cl = (h', A) → Rep C H' L' h' → Tells L' h' → Stp H L H' L' → H' p = some (.lst (ansV A)) → Q (.ref p) H'
/-- the answer as a new list -/
theorem Ans.list {C : Cs} {H : Hp} {L : Lay} {h : Te.Hall} {cl : Te.Call} {Q : VK} (k : Ans C H L h cl Q) {H1 : Hp} {L1 : Lay} {h1 : Te.Hall} {A : Te.Answer} (e : Te.stepOn h cl = (h1, A)) (R1 : Rep C H1 L1 h1) (T1 : Tells L1 h1) (st : Stp H L H1 L1) {vs : List V} (ev : ansV A = vs) (len : vs.length ≤ sizeLine) :
    vs.length ≤ sizeLine ∧ ∀ p, H1 p = none → Q (.ref p) (upd H1 p (.lst vs)) := by
  refine ⟨len, fun p hp => ?_⟩
  subst ev
  exact k _ L1 p h1 A e (R1.same (same_new hp)) T1 (st.trans (Stp.of_same L1 (same_new hp))) upd_same
theorem Ans.no {C : Cs} {H : Hp} {L : Lay} {h : Te.Hall} {cl : Te.Call} {Q : VK} (k : Ans C H L h cl Q) (R : Rep C H L h) (Tl : Tells L h) {H1 : Hp} {z : Int} (e : Te.stepOn h cl = (h, Te.says z)) (s : Same H H1) :
    ([V.int z] : List V).length ≤ sizeLine ∧ ∀ p, H1 p = none → Q (.ref p) (upd H1 p (.lst [V.int z])) :=
  k.list e (R.same s) Tl (Stp.of_same L s) rfl (by show 1 ≤ sizeLine; decide)
theorem keep_tells {L : Lay} {h : Te.Hall} (Tl : Tells L h) {i : Nat} {l : Te.Line} (hi : i < h.lines.length) (e : l.stage = (Te.lineOf h i).stage) : Tells L (Te.setLine h i l) := by
  intro j hj
  have hj : j < (h.lines.set i l).length := hj
  rw [List.length_set] at hj
  rw [Tl j hj]
  by_cases c : j = i
  · subst c
    unfold Te.stageNo
    rw [lineOf_same hi, e]
    rfl
  · rw [stageNo_set c]
theorem keep_tells2 {L : Lay} {h : Te.Hall} (Tl : Tells L h) {i : Nat} {l : Te.Line} (hi : i < h.lines.length) (e : l.stage = (Te.lineOf h i).stage) : Tells { L with st := fun j => if j = i then L.st i else L.st j } (Te.setLine h i l) := by
  intro j hj
  have := keep_tells Tl hi e j hj
  show (if j = i then L.st i else L.st j) = _
  by_cases c : j = i
  · subst c
    rw [if_pos rfl]
    exact this
  · rw [if_neg c]
    exact this
section
variable {P : Program} {w : World} {K : PySem.W.Frag} {mg : Str → Option Value} {base : Heap} {C : Cs}
def sp_give_number (K : PySem.W.Frag) (C : Cs) : Sp := fun vs H Q _ => ∃ (L : Lay) (h : Te.Hall) (rq : Addr) (x : Nat) (d : List Nat), vs = [.ref L.ex, .ref rq] ∧ Rep C H L h ∧ Tells L h ∧ Base h ∧ ReqAt C H L rq 2 [x] [d] ∧ x < h.size.lines ∧ d.length ≤ 20 ∧ Ans C H L h (.number x d) Q
theorem cal_give_number (T : Txt K mg C) : Cal P w K mg base 3 "give_number" (sp_give_number K C) := by
  refine T.d_give_number.cal sc_give_number (fun vs H Q E h => ?_) (fun f cdv A outer s H vs Q E hr h => ⟨_, (pss_cons (ps_set (i := 2) sc_give_number.nd rfl (Or.inl rfl) (pe_ix ix_list (pe_fld (pv 0) rfl) (pe_ix ix_list (pe_fld (pv 1) rfl) pe_int (fun _ _ => rfl)) (fun _ _ => rfl)))
    (pss_cons (ps_set (i := 3) sc_give_number.nd rfl (Or.inl rfl) (pe_ix ix_list (pe_fld (pv 1) rfl) pe_int (fun _ _ => rfl)))
    (pss_cons (ps_if (pt_not (pt_val (pe_c (cal_is_number T) hr (by decide) rfl (pa_cons (pv 3) pa_nil))))
      (pss_one (ps_ret (pe_lst (pa_cons (pe_gi rfl T.k_NONE_SUCH) pa_nil))))
      pss_nil)
    (pss_cons (ps_if (pt_cmp (pc_notN (pe_fld (pv 2) rfl)))
      (pss_one (ps_ret (pe_lst (pa_cons (pe_gi rfl T.k_NOT_NOW) pa_nil))))
      pss_nil)
    (pss_cons (ps_if (pt_val (pe_c (cal_clashes T) hr (by decide) rfl (pa_cons (pv 0) (pa_cons (pv 3) pa_nil))))
      (pss_one (ps_ret (pe_lst (pa_cons (pe_gi rfl T.k_NUMBERS_CLASH) pa_nil))))
      pss_nil)
    (pss_cons (ps_fld (pv 2) (pv 3) rfl)
    (pss_one (ps_ret (pe_lst (pa_cons pe_int pa_nil)))))))))), ?_⟩)
  · obtain ⟨L, h, rq, x, d, rfl, _⟩ := h
    rfl
  obtain ⟨L, h, rq, x, d, rfl, R, Tl, B, q, hx, hd, k⟩ := h
  obtain ⟨dxe, hxe⟩ := R.ex
  obtain ⟨dxr, na, ra, rs, hq1, hq2, hq3, hq4, hq5⟩ := q.ex
  have xl : x < h.lines.length := by rw [B.len]; exact hx
  obtain ⟨a, b, ha, hb, ql⟩ := R.lineAt xl
  cases hq5 with
  | @cons da _ _ _ hda t => cases t with | nil =>
  refine ⟨_, rfl, L.ex, _, dxe, _, _, rfl, hxe, T.cl_Exchange, T.na_Exchange_lines, exF_lines L h, _, rfl, rq, _, dxr, _, _, rfl, hq1, T.cl_Request, T.na_Request_numbers, reqF_numbers, na, _, 0, _, rfl, rfl, hq2.sq, at_of (j := 0) rfl rfl, L.ls, _, x, _, rfl, rfl, SqL.of R.ls, at_of (j := x) rfl (Rep.line_get (H := H) (h := h) ha), ?_⟩
  refine ⟨_, rfl, rq, _, dxr, _, _, rfl, hq1, T.cl_Request, T.na_Request_rows, reqF_rows, ra, _, 0, _, rfl, rfl, SqL.of hq3, at_of (j := 0) rfl rfl, ?_⟩
  refine ⟨_, rfl, da, d, rfl, hda.sq, by omega, fun H1 s1 => ⟨_, rfl, ?_⟩⟩
  have nx : ¬ h.size.lines ≤ x := Nat.not_le_of_lt hx
  cases en : Te.isNumber d with
  | false =>
    refine iteT (k.no R Tl (z := -1) ?_ s1)
    dsimp only [Te.stepOn]
    rw [if_pos (.inr en)]
    rfl
  | true =>
    refine iteF ?_
    have c0 : ¬ (h.size.lines ≤ x ∨ Te.isNumber d = false) := fun z => z.elim nx fun z => by rw [en] at z; cases z
    obtain ⟨dx1, nv, dl, d0, a0, a1, a2, cv, h1, h2, h3, h4, h5, h6, h7, h8, h9⟩ := (ql.same s1).ex
    refine ⟨_, rfl, a, _, dx1, _, _, rfl, h1, T.cl_Line, T.na_Line_number, lineF_number, _, rfl, ?_⟩
    cases eo : (Te.lineOf h x).number with
    | some d' =>
      rw [eo] at h2
      obtain ⟨b', rfl, _⟩ := h2
      refine if_t (by rw [dec_ref]; rfl) (k.no R Tl (z := -5) ?_ s1)
      dsimp only [Te.stepOn]
      rw [if_neg c0, eo]
      rfl
    | none =>
      have h2' := h2
      rw [eo] at h2
      have h2 : nv = .non := h2
      subst h2
      refine if_f (by rw [dec_nn]; rfl) ?_
      have R1 := R.same s1
      refine ⟨_, rfl, _, rfl, L, h, da, d, rfl, R1, B, (hda.same s1).sq, fun H2 s2 => ⟨_, rfl, ?_⟩⟩
      have s12 := Same.trans s1 s2
      cases ec : Te.clashes h d with
      | true =>
        refine iteT (k.no R Tl (z := -6) ?_ s12)
        dsimp only [Te.stepOn]
        rw [if_neg c0, eo, if_neg (by decide), if_pos ec]
      | false =>
        refine iteF ?_
        refine ⟨_, rfl, _, rfl, a, _, dx1, _, rfl, s2 _ _ h1, T.cl_Line, T.na_Line_number, (by show 6 < 1000; decide), ?_⟩
        rw [lineF_putNumber]
        have R2 := (R.same s12).line (l' := { Te.lineOf h x with number := some d }) (sn := L.st x) (dx := dx1) (cv := cv) ha hb rfl rfl rfl (nv := .ref da) ⟨da, rfl, hda.same s12⟩ (h3.same s2) h4 h9
        have ka : L.kind a % 10 ≠ 0 := by rw [R.kline a (List.mem_of_getElem? ha)]; decide
        refine k.list ?_ R2 (keep_tells2 Tl xl rfl) ((Stp.of_same L s12).trans ⟨(Stp.upd ka).keep, rfl, rfl⟩) (A := Te.says 0) rfl (by show 1 ≤ sizeLine; decide)
        dsimp only [Te.stepOn]
        rw [if_neg c0, if_neg (by rw [eo]; decide), if_neg (by rw [ec]; decide)]
def sp_clear_number (K : PySem.W.Frag) (C : Cs) : Sp := fun vs H Q _ => ∃ (L : Lay) (h : Te.Hall) (rq : Addr) (x : Nat), vs = [.ref L.ex, .ref rq] ∧ Rep C H L h ∧ Tells L h ∧ Base h ∧ ReqAt C H L rq 3 [x] [] ∧ x < h.size.lines ∧ Ans C H L h (.clear x) Q
theorem cal_clear_number (T : Txt K mg C) : Cal P w K mg base 1 "clear_number" (sp_clear_number K C) := by
  refine T.d_clear_number.cal sc_clear_number (fun vs H Q E h => ?_) (fun f cdv A outer s H vs Q E hr h => ⟨_, (pss_cons (ps_set (i := 2) sc_clear_number.nd rfl (Or.inl rfl) (pe_ix ix_list (pe_fld (pv 0) rfl) (pe_ix ix_list (pe_fld (pv 1) rfl) pe_int (fun _ _ => rfl)) (fun _ _ => rfl)))
    (pss_cons (ps_if (pt_cmp (pc_isN (pe_fld (pv 2) rfl)))
      (pss_one (ps_ret (pe_lst (pa_cons (pe_gi rfl T.k_NONE_THERE) pa_nil))))
      pss_nil)
    (pss_cons (ps_fld (pv 2) pe_non rfl)
    (pss_one (ps_ret (pe_lst (pa_cons pe_int pa_nil))))))), ?_⟩)
  · obtain ⟨L, h, rq, x, rfl, _⟩ := h
    rfl
  obtain ⟨L, h, rq, x, rfl, R, Tl, B, q, hx, k⟩ := h
  obtain ⟨dxe, hxe⟩ := R.ex
  obtain ⟨dxr, na, ra, rs, hq1, hq2, hq3, hq4, hq5⟩ := q.ex
  have xl : x < h.lines.length := by rw [B.len]; exact hx
  have nx : ¬ h.size.lines ≤ x := Nat.not_le_of_lt hx
  obtain ⟨a, b, ha, hb, ql⟩ := R.lineAt xl
  obtain ⟨dx1, nv, dl, d0, a0, a1, a2, cv, h1, h2, h3, h4, h5, h6, h7, h8, h9⟩ := ql.ex
  refine ⟨_, rfl, L.ex, _, dxe, _, _, rfl, hxe, T.cl_Exchange, T.na_Exchange_lines, exF_lines L h, _, rfl, rq, _, dxr, _, _, rfl, hq1, T.cl_Request, T.na_Request_numbers, reqF_numbers, na, _, 0, _, rfl, rfl, hq2.sq, at_of (j := 0) rfl rfl, L.ls, _, x, _, rfl, rfl, SqL.of R.ls, at_of (j := x) rfl (Rep.line_get (H := H) (h := h) ha), ?_⟩
  refine ⟨_, rfl, a, _, dx1, _, _, rfl, h1, T.cl_Line, T.na_Line_number, lineF_number, _, rfl, ?_⟩
  cases eo : (Te.lineOf h x).number with
  | none =>
    rw [eo] at h2
    have h2 : nv = .non := h2
    subst h2
    refine if_t dec_nn (k.no R Tl (z := -3) ?_ (Same.refl H))
    dsimp only [Te.stepOn]
    rw [if_neg nx, eo]
    rfl
  | some d' =>
    rw [eo] at h2
    obtain ⟨b', rfl, _⟩ := h2
    refine if_f (dec_ref b') ?_
    refine ⟨_, rfl, a, _, dx1, _, rfl, h1, T.cl_Line, T.na_Line_number, (by show 6 < 1000; decide), ?_⟩
    rw [lineF_putNumber]
    have R2 := R.line (l' := { Te.lineOf h x with number := none }) (sn := L.st x) (dx := dx1) (cv := cv) ha hb rfl rfl rfl (nv := .non) rfl h3 h4 h9
    have ka : L.kind a % 10 ≠ 0 := by rw [R.kline a (List.mem_of_getElem? ha)]; decide
    refine k.list ?_ R2 (keep_tells2 Tl xl rfl) ⟨(Stp.upd ka).keep, rfl, rfl⟩ (A := Te.says 0) rfl (by show 1 ≤ sizeLine; decide)
    dsimp only [Te.stepOn]
    rw [if_neg nx, if_neg (by rw [eo]; exact Bool.false_ne_true)]
def sp_set_wait (K : PySem.W.Frag) (C : Cs) : Sp := fun vs H Q _ => ∃ (L : Lay) (h : Te.Hall) (rq : Addr) (t : Nat), vs = [.ref L.ex, .ref rq] ∧ Rep C H L h ∧ Tells L h ∧ Base h ∧ ReqAt C H L rq 7 [t] [] ∧ Ans C H L h (.wait t) Q
theorem exF_putWait (L : Lay) (h : Te.Hall) (t : Nat) : putF "wait" (iv t) (exF L h) = exF L { h with wait := t, now := h.now, moved := h.moved } := by
  unfold exF
  rw [put_past (by decide +kernel), put_past (by decide +kernel), put_past (by decide +kernel), put_past (by decide +kernel), put_past (by decide +kernel), put_past (by decide +kernel), put_past (by decide +kernel), put_past (by decide +kernel), put_past (by decide +kernel), put_here]
theorem cal_set_wait (T : Txt K mg C) : Cal P w K mg base 1 "set_wait" (sp_set_wait K C) := by
  refine T.d_set_wait.cal sc_set_wait (fun vs H Q E h => ?_) (fun f cdv A outer s H vs Q E hr h => ⟨_, (pss_cons (ps_set (i := 2) sc_set_wait.nd rfl (Or.inl rfl) (pe_ix ix_list (pe_fld (pv 1) rfl) pe_int (fun _ _ => rfl)))
    (pss_cons (ps_if (PW.pt (pw_or (pt_cmpR op_lt (pv 2) pe_int (nomark _)) (pw_or1 (pt_cmpR op_gt (pv 2) (pe_gi rfl T.k_LONGEST_WAIT) (nomark _)))))
      (pss_one (ps_ret (pe_lst (pa_cons (pe_gi rfl T.k_NONE_SUCH) pa_nil))))
      pss_nil)
    (pss_cons (ps_fld (pv 0) (pv 2) rfl)
    (pss_one (ps_ret (pe_lst (pa_cons pe_int pa_nil))))))), ?_⟩)
  · obtain ⟨L, h, rq, t, rfl, _⟩ := h
    rfl
  obtain ⟨L, h, rq, t, rfl, R, Tl, B, q, k⟩ := h
  obtain ⟨dxe, hxe⟩ := R.ex
  obtain ⟨dxr, na, ra, rs, hq1, hq2, hq3, hq4, hq5⟩ := q.ex
  refine ⟨_, rfl, rq, _, dxr, _, _, rfl, hq1, T.cl_Request, T.na_Request_numbers, reqF_numbers, na, _, 0, _, rfl, rfl, hq2.sq, at_of (j := 0) rfl rfl, ?_⟩
  refine ⟨_, rfl, _, _, rfl, rfl, _, rfl, ?_⟩
  by_cases c1 : t < 1
  · refine if_t (decide_eq_true (by omega)) (iteT (k.no R Tl (z := -1) ?_ (Same.refl H)))
    dsimp only [Te.stepOn]
    rw [if_pos (.inl c1)]
    rfl
  · refine if_f (decide_eq_false (by omega)) ⟨_, rfl, _, _, rfl, rfl, _, rfl, ?_⟩
    by_cases c2 : 1000 < t
    · refine if_t (decide_eq_true (by omega)) (k.no R Tl (z := -1) ?_ (Same.refl H))
      dsimp only [Te.stepOn]
      rw [if_pos (.inr c2)]
      rfl
    · refine if_f (decide_eq_false (by omega)) ?_
      refine ⟨_, rfl, _, rfl, L.ex, _, dxe, _, rfl, hxe, T.cl_Exchange, T.na_Exchange_wait, (by show 10 < 1000; decide), ?_⟩
      rw [exF_putWait]
      have R2 := R.setEx (dx := dxe) (t := t) (n := h.now) (mv := h.moved)
      have ka : L.kind L.ex % 10 ≠ 0 := by rw [R.kex]; decide
      refine k.list ?_ R2 Tl (Stp.upd ka) (A := Te.says 0) rfl (by show 1 ≤ sizeLine; decide)
      dsimp only [Te.stepOn]
      rw [if_neg fun z => z.elim c1 c2]
end
end Tx
end
section
namespace Tx
open PySem PySem.Spec PyProof.Rows L2
section
variable {P : Program} {w : World} {K : PySem.W.Frag} {mg : Str → Option Value} {base : Heap} {C : Cs}
/-! ### groups -/
def sp_init_Group (K : PySem.W.Frag) (C : Cs) : Sp := fun vs H Q _ => ∃ (p dx na ma : Addr), vs = [.ref p, .ref na, .ref ma] ∧ H p = some (.ins C.c_Group dx []) ∧ Q .non (upd H p (.ins C.c_Group dx (groupF na ma)))
theorem put_Group (na ma : Addr) : (putF "members" (.ref ma) (putF "number" (.ref na) [])) = ([("number", (.ref na)), ("members", (.ref ma))] : List (Str × V)) := by
  have e1 : putF ("members" : Str) (.ref ma) ([("number", (.ref na))] : List (Str × V)) = ([("number", (.ref na)), ("members", (.ref ma))] : List (Str × V)) := by rw [put_past (by decide +kernel), put_nil]
  rw [put_nil, e1]
theorem mak_Group (T : Txt K mg C) : Mak P w K mg base 1 "Group" C.c_Group (sp_init_Group K C) := by
  refine T.l_Group.mak sc_init_Group (fun vs H Q E h => ?_) (fun f cdv A outer s H vs Q E hr h => ⟨_, (pss_cons (ps_fld (pv 0) (pv 1) rfl)
    (pss_one (ps_fld (pv 0) (pv 2) rfl))), ?_⟩)
  · obtain ⟨p, dx, na, ma, rfl, _⟩ := h
    rfl
  obtain ⟨p, dx, na, ma, rfl, hp, k⟩ := h
  refine ⟨_, rfl, _, rfl, p, _, dx, _, rfl, hp, T.cl_Group, T.na_Group_number, (by show 0 < 1000; decide), ?_⟩
  refine ⟨_, rfl, _, rfl, p, _, dx, _, rfl, upd_same, T.cl_Group, T.na_Group_members, (by show 1 < 1000; decide), ?_⟩
  rw [upd_upd, put_Group na ma]
  exact k
/-- the lines of a group: 1 to 8, each once, all there -/
def okLines (h : Te.Hall) (l : List Nat) : Bool := !l.isEmpty && (decide (l.length ≤ 8) && (Te.allOnce l && l.all fun (x : Nat) => decide (x < h.size.lines)))
def sp_are_members (K : PySem.W.Frag) (C : Cs) : Sp := fun vs H Q _ => ∃ (L : Lay) (h : Te.Hall) (a : Addr) (l : List Nat), vs = [.ref L.ex, .ref a] ∧ Rep C H L h ∧ Base h ∧ SqL K H a (ivs l) ∧ l.length ≤ 1000 ∧ ∀ H', Same H H' → Q (.bl (okLines h l)) H'
theorem cal_are_members (T : Txt K mg C) : Cal P w K mg base 1 "are_members" (sp_are_members K C) := by
  refine T.d_are_members.cal sc_are_members (fun vs H Q E h => ?_) (fun f cdv A outer s H vs Q E hr h => ⟨_, (pss_cons (ps_if (PW.pt (pw_or (pt_cmpR op_lt (pe_callB call_len_seq (by rfl) T.n_len PySem.boot_len (pa_cons (pv 1) pa_nil)) pe_int (nomark _)) (pw_or1 (pt_cmpR op_gt (pe_callB call_len_seq (by rfl) T.n_len PySem.boot_len (pa_cons (pv 1) pa_nil)) (pe_gi rfl T.k_MOST_MEMBERS) (nomark _)))))
      (pss_one (ps_ret pe_bl))
      pss_nil)
    (pss_cons (ps_if (pt_cmpR op_lt (pe_lenSet (by rfl) T.n_len (by rfl) T.n_set (pv 1)) (pe_callB call_len_seq (by rfl) T.n_len PySem.boot_len (pa_cons (pv 1) pa_nil)) (nomark _))
      (pss_one (ps_ret pe_bl))
      pss_nil)
    (pss_one (ps_ret (pe_callB (cr_all rfl) (by rfl) T.n_all boot_all (pa_cons (pe_lc (own := [("place", 2)]) (g := (gName 2)) (tt := tYes) (te := (tOp (rI0 fun i j => .bl (decide (i < j))) (tVar 2) (tCB (rLenSeq K) (tCons (tFld K (tVar 0) "lines") tNil)))) rfl sc_are_members.nd (pi_list (pv 1)) (blkOk_by (N := ["exchange", "places", "place"]) (sc := defScope s_are_members) (by decide +kernel)) (fun _ _ _ _ _ => (pg_name (i := 2) sc_are_members.nd rfl (Or.inl rfl))) (fun _ _ _ _ _ => pts_nil) (fun _ _ _ _ _ => (pe_cmpR op_lt (pv 2) (pe_callB call_len_seq (by rfl) T.n_len PySem.boot_len (pa_cons (pe_fld (pv 0) rfl) pa_nil)) (nomark _)))) pa_nil)))))), ?_⟩)
  · obtain ⟨L, h, a, l, rfl, _⟩ := h
    rfl
  obtain ⟨L, h, a, l, rfl, R, B, hS, hl, k⟩ := h
  obtain ⟨dxe, hxe⟩ := R.ex
  have lm : (ivs l).length = l.length := List.length_map _
  refine ⟨_, rfl, a, _, rfl, .inl hS, _, _, rfl, rfl, _, rfl, ?_⟩
  rw [lm]
  by_cases c1 : l.length < 1
  · refine if_t (decide_eq_true (by omega)) (iteT ?_)
    have e : okLines h l = false := by
      have : l = [] := List.eq_nil_of_length_eq_zero (by omega)
      subst this
      rfl
    have z := k H (Same.refl H)
    rw [e] at z
    exact z
  refine if_f (decide_eq_false (by omega)) ?_
  have e1 : (!l.isEmpty) = true := by
    cases l with
    | nil => simp at c1
    | cons x r => rfl
  refine ⟨_, rfl, a, _, rfl, .inl hS, _, _, rfl, rfl, _, rfl, ?_⟩
  rw [lm]
  by_cases c2 : 8 < l.length
  · refine if_t (decide_eq_true (by omega)) ?_
    have e : okLines h l = false := by
      unfold okLines
      rw [decide_eq_false (Nat.not_le_of_lt c2), Bool.false_and, Bool.and_false]
    have z := k H (Same.refl H)
    rw [e] at z
    exact z
  refine if_f (decide_eq_false (by omega)) ?_
  have e2 : decide (l.length ≤ 8) = true := decide_eq_true (by omega)
  have hS' : SqL K H a ((l.map fun (n : Nat) => (n : Int)).map V.int) := by
    rw [List.map_map]
    exact hS
  refine ⟨_, rfl, a, (l.map fun (n : Nat) => (n : Int)), rfl, hS', by rw [List.length_map]; omega, _, rfl, a, _, rfl, .inl hS, _, _, rfl, rfl, _, rfl, ?_⟩
  rw [lm]
  show if decide (((differ (l.map fun (n : Nat) => (n : Int))).length : Int) < (l.length : Int)) = true then _ else _
  rw [differ_len]
  cases e3 : Te.allOnce l with
  | false =>
    refine iteT ?_
    have e : okLines h l = false := by
      unfold okLines
      rw [e3, Bool.false_and, Bool.and_false, Bool.and_false]
    have z := k H (Same.refl H)
    rw [e] at z
    exact z
  | true =>
    refine iteF ?_
    have e : okLines h l = l.all fun (x : Nat) => decide (x < h.size.lines) := by
      unfold okLines
      rw [e1, e2, e3]
      rfl
    have ll : (L.line.map V.ref).length = h.size.lines := by rw [List.length_map, R.ll, B.len]
    refine ⟨_, rfl, a, rfl, ⟨_, hS⟩, fun D hD => lc_map (acc := fun i => (l.take i).map fun x => V.bl (decide (x < h.size.lines))) hS hD rfl (fun i hi => ?_) (fun i v H1 Y hv s1 fy => ?_) (fun H1 s1 hD1 => ?_)⟩
    · rw [List.length_map, List.length_take]
      have : 1000 < sizeLine := by decide
      omega
    · obtain ⟨x, hx, rfl⟩ := ivs_get hv
      refine ⟨_, rfl, _, rfl, L.ex, _, dxe, _, _, rfl, s1 _ _ hxe, T.cl_Exchange, T.na_Exchange_lines, exF_lines L h, L.ls, _, rfl, .inl (SqL.of (s1 _ _ R.ls)), _, _, rfl, rfl, fy _ _ (Same.refl _) ?_⟩
      rw [take_snoc hx, List.map_append]
      have ed : decide ((x : Int) < ((L.line.map V.ref).length : Int)) = decide (x < h.size.lines) := by
        rw [ll, decide_eq_decide]
        omega
      show _ ++ [V.bl (decide (x < h.size.lines))] = _ ++ [V.bl (decide ((x : Int) < ((L.line.map V.ref).length : Int)))]
      rw [ed]
    · rw [lm, List.take_length] at hD1
      refine ⟨D, l.map fun x => decide (x < h.size.lines), rfl, SqL.of ?_, ?_⟩
      · rw [hD1, List.map_map]
        rfl
      · have e' : okLines h l = (l.map fun x => decide (x < h.size.lines)).any id || true := by simp [e]
        have e4 : okLines h l = (l.map fun x => decide (x < h.size.lines)).all id := by
          rw [e, List.all_map]
          rfl
        rw [← e4]
        exact k H1 s1
theorem group_bad {h : Te.Hall} {d l : List Nat} : (Te.isNumber d = false ∨ l.isEmpty = true ∨ 8 < l.length ∨ (l.all fun (x : Nat) => decide (x < h.size.lines)) = false ∨ Te.allOnce l = false) ↔ (Te.isNumber d && okLines h l) = false := by
  unfold okLines
  cases Te.isNumber d with
  | false => simp
  | true =>
    cases l.isEmpty with
    | true => simp
    | false =>
      by_cases c : l.length ≤ 8
      · have c' : ¬ 8 < l.length := by omega
        cases (l.all fun (x : Nat) => decide (x < h.size.lines)) <;> cases Te.allOnce l <;> simp [c, c']
      · have c' : 8 < l.length := by omega
        simp [c, c']
def sp_make_group (K : PySem.W.Frag) (C : Cs) : Sp := fun vs H Q _ => ∃ (L : Lay) (h : Te.Hall) (rq : Addr) (d l : List Nat), vs = [.ref L.ex, .ref rq] ∧ Rep C H L h ∧ Tells L h ∧ Base h ∧ ReqAt C H L rq 4 [] [d, l] ∧ d.length ≤ 20 ∧ l.length ≤ 20 ∧ Ans C H L h (.group d l) Q
theorem cal_make_group (T : Txt K mg C) : Cal P w K mg base 3 "make_group" (sp_make_group K C) := by
  refine T.d_make_group.cal sc_make_group (fun vs H Q E h => ?_) (fun f cdv A outer s H vs Q E hr h => ⟨_, (pss_cons (ps_set (i := 2) sc_make_group.nd rfl (Or.inl rfl) (pe_ix ix_list (pe_fld (pv 1) rfl) pe_int (fun _ _ => rfl)))
    (pss_cons (ps_set (i := 3) sc_make_group.nd rfl (Or.inl rfl) (pe_ix ix_list (pe_fld (pv 1) rfl) pe_int (fun _ _ => rfl)))
    (pss_cons (ps_if (PW.pt (pw_or (pt_not (pt_val (pe_c (cal_is_number T) hr (by decide) rfl (pa_cons (pv 2) pa_nil)))) (pw_or1 (pt_not (pt_val (pe_c (cal_are_members T) hr (by decide) rfl (pa_cons (pv 0) (pa_cons (pv 3) pa_nil))))))))
      (pss_one (ps_ret (pe_lst (pa_cons (pe_gi rfl T.k_NONE_SUCH) pa_nil))))
      pss_nil)
    (pss_cons (ps_if (pt_val (pe_c (cal_clashes T) hr (by decide) rfl (pa_cons (pv 0) (pa_cons (pv 2) pa_nil))))
      (pss_one (ps_ret (pe_lst (pa_cons (pe_gi rfl T.k_NUMBERS_CLASH) pa_nil))))
      pss_nil)
    (pss_cons (ps_if (pt_cmpR op_ge (pe_callB call_len_seq (by rfl) T.n_len PySem.boot_len (pa_cons (pe_fld (pv 0) rfl) pa_nil)) (pe_gi rfl T.k_MOST_GROUPS) (nomark _))
      (pss_one (ps_ret (pe_lst (pa_cons (pe_gi rfl T.k_ALL_TAKEN) pa_nil))))
      pss_nil)
    (pss_cons (ps_expr (pe_bm PySem.F.plainAttrs_list PySem.F.slot_list_append PySem.F.type_list_append mt_append (pe_fld (pv 0) rfl) (pa_cons (pe_mk (mak_Group T) hr (by decide) rfl (pa_cons (pv 2) (pa_cons (pv 3) pa_nil))) pa_nil)))
    (pss_one (ps_ret (pe_lst (pa_cons pe_int pa_nil)))))))))), ?_⟩)
  · obtain ⟨L, h, rq, d, l, rfl, _⟩ := h
    rfl
  obtain ⟨L, h, rq, d, l, rfl, R, Tl, B, q, hd, hl, k⟩ := h
  obtain ⟨dxe, hxe⟩ := R.ex
  obtain ⟨dxr, na, ra, rs, hq1, hq2, hq3, hq4, hq5⟩ := q.ex
  cases hq5 with
  | @cons da _ _ _ hda t => cases t with | @cons la _ _ _ hla t => cases t with | nil =>
  refine ⟨_, rfl, rq, _, dxr, _, _, rfl, hq1, T.cl_Request, T.na_Request_rows, reqF_rows, ra, _, 0, _, rfl, rfl, SqL.of hq3, at_of (j := 0) rfl rfl, ?_⟩
  refine ⟨_, rfl, rq, _, dxr, _, _, rfl, hq1, T.cl_Request, T.na_Request_rows, reqF_rows, ra, _, 1, _, rfl, rfl, SqL.of hq3, at_of (j := 1) rfl rfl, ?_⟩
  refine ⟨_, rfl, da, d, rfl, hda.sq, by omega, fun H1 s1 => ⟨_, rfl, ?_⟩⟩
  have bad : (Te.isNumber d && okLines h l) = false → Te.stepOn h (.group d l) = (h, Te.says (-1)) := fun z => by
    dsimp only [Te.stepOn]
    rw [if_pos (group_bad.mpr z)]
    rfl
  cases en : Te.isNumber d with
  | false => exact iteT (iteT (k.no R Tl (bad (by rw [en]; rfl)) s1))
  | true =>
    refine iteF ⟨_, rfl, _, rfl, L, h, la, l, rfl, R.same s1, B, (hla.same s1).sq, by omega, fun H2 s2 => ⟨_, rfl, ?_⟩⟩
    have s12 := Same.trans s1 s2
    cases eo : okLines h l with
    | false => exact iteT (k.no R Tl (bad (by rw [en, eo]; rfl)) s12)
    | true =>
      refine iteF ?_
      have c0 := mt (group_bad (h := h) (d := d) (l := l)).mp (by rw [en, eo]; decide)
      refine ⟨_, rfl, _, rfl, L, h, da, d, rfl, R.same s12, B, (hda.same s12).sq, fun H3 s3 => ⟨_, rfl, ?_⟩⟩
      have s13 := Same.trans s12 s3
      cases ec : Te.clashes h d with
      | true =>
        refine iteT (k.no R Tl (z := -6) ?_ s13)
        dsimp only [Te.stepOn]
        rw [if_neg c0, if_pos ec]
      | false =>
        refine iteF ?_
        have R3 := R.same s13
        have gl : (L.grp.map V.ref).length = h.groups.length := by rw [List.length_map, R.groups.length]
        refine ⟨_, rfl, L.ex, _, dxe, _, _, rfl, s13 _ _ hxe, T.cl_Exchange, T.na_Exchange_groups, exF_groups L h, L.gs, _, rfl, .inl (SqL.of R3.gs), _, _, rfl, rfl, _, rfl, ?_⟩
        rw [gl]
        by_cases c8 : 8 ≤ h.groups.length
        · refine if_t (decide_eq_true (by omega)) (k.no R Tl (z := -9) ?_ s13)
          dsimp only [Te.stepOn]
          rw [if_neg c0, if_neg (by rw [ec]; decide), if_pos (show Te.GROUPS ≤ h.groups.length from c8)]
        · refine if_f (decide_eq_false (by omega)) ?_
          refine ⟨_, rfl, L.ex, _, dxe, _, _, rfl, s13 _ _ hxe, T.cl_Exchange, T.na_Exchange_groups, exF_groups L h, .inl ⟨rfl, _, SqL.of R3.gs⟩, _, rfl, _, rfl, fun g dg ng nd ne => ⟨g, dg, da, la, rfl, upd_same, rfl, ?_⟩⟩
          rw [upd_upd]
          have s4 : Same H3 (upd (upd H3 dg (.own g)) g (.ins C.c_Group dg (groupF da la))) := same_made ng nd
          have s14 := Same.trans s13 s4
          have R4 := R.same s14
          refine ⟨L.gs, _, _, rfl, rfl, R4.gs, ?_, ?_⟩
          · rw [gl]
            have : 8 < sizeLine := by decide
            have := B.eight
            omega
          · have e5 : L.grp.map V.ref ++ [V.ref g] = (L.grp ++ [g]).map V.ref := by
              rw [List.map_append]
              rfl
            rw [e5]
            have R5 := R4.addGroup (g := g) (dx := dg) (na := da) (ma := la) (d := d) (m := l) upd_same (R3.kfree g ng) (hda.same s14) (hla.same s14)
            have ka : L.kind L.gs % 10 ≠ 0 := by rw [R.kgs]; decide
            refine k.list ?_ R5 Tl ((Stp.of_same L s14).trans ⟨(Stp.upd ka).keep, rfl, rfl⟩) (A := Te.says 0) rfl (by show 1 ≤ sizeLine; decide)
            dsimp only [Te.stepOn]
            rw [if_neg c0, if_neg (by rw [ec]; decide), if_neg (show ¬ Te.GROUPS ≤ h.groups.length from c8)]
end
end Tx
end
section
namespace Tx
open PySem PySem.Spec PyProof.Rows L2
/-! ### prices -/
theorem keyOf_inj {a b : List Nat} (h : keyOf a = keyOf b) : a = b := by
  refine (List.map_inj_right ?_).mp h
  intro x y e
  injection e with e
  omega
theorem keyOf_kV (d : List Nat) : ivs d = (keyOf d).map kV := by
  rw [List.map_map]
  rfl
theorem find_filter {d d' : List Nat} (ne : d' ≠ d) : ∀ ps : List (Te.Digits × Nat), (ps.filter (fun p => p.1 != d)).find? (fun p => p.1 == d') = ps.find? (fun p => p.1 == d')
  | [] => rfl
  | p :: ps => by
    by_cases c : p.1 = d
    · have c2 : ¬ (p.1 != d) = true := by simp [c]
      have c3 : (p.1 == d') = false := by
        rw [beq_eq_false_iff_ne, c]
        exact Ne.symm ne
      rw [List.filter_cons_of_neg (p := fun (q : Te.Digits × Nat) => q.1 != d) c2, List.find?_cons, c3]
      exact find_filter ne ps
    · have c2 : (p.1 != d) = true := by simp [c]
      rw [List.filter_cons_of_pos (p := fun (q : Te.Digits × Nat) => q.1 != d) c2, List.find?_cons, List.find?_cons, find_filter ne ps]
theorem filter_none {d : List Nat} (ps : List (Te.Digits × Nat)) : (ps.filter (fun p => p.1 != d)).find? (fun p => p.1 == d) = none := by
  rw [List.find?_eq_none]
  intro p hp q
  have := (List.mem_filter.mp hp).2
  rw [bne_iff_ne] at this
  exact this (beq_iff_eq.mp q)
theorem filter_len {d : List Nat} : ∀ ps : List (Te.Digits × Nat), (ps.map (·.1)).Nodup → (ps.filter (fun p => p.1 != d)).length + (if (ps.find? (fun p => p.1 == d)).isSome = true then 1 else 0) = ps.length
  | [], _ => rfl
  | p :: ps, nd => by
    have nd : (p.1 :: ps.map (·.1)).Nodup := nd
    obtain ⟨n1, n2⟩ := List.nodup_cons.mp nd
    have ih := filter_len (d := d) ps n2
    by_cases c : p.1 = d
    · have c2 : ¬ (p.1 != d) = true := by simp [c]
      have c3 : (p.1 == d) = true := by rw [beq_iff_eq]; exact c
      have c4 : ps.find? (fun p => p.1 == d) = none := by
        rw [List.find?_eq_none]
        intro q hq e
        exact n1 (List.mem_map.mpr ⟨q, hq, by rw [beq_iff_eq.mp e, c]⟩)
      rw [c4] at ih
      have ih : _ + 0 = ps.length := ih
      rw [List.filter_cons_of_neg (p := fun (q : Te.Digits × Nat) => q.1 != d) c2, List.find?_cons, c3]
      show _ + 1 = ps.length + 1
      omega
    · have c2 : (p.1 != d) = true := by simp [c]
      have c3 : (p.1 == d) = false := by
        rw [beq_eq_false_iff_ne]
        exact c
      rw [List.filter_cons_of_pos (p := fun (q : Te.Digits × Nat) => q.1 != d) c2, List.find?_cons, c3, List.length_cons, List.length_cons]
      show _ + 1 + (if (ps.find? (fun p => p.1 == d)).isSome = true then 1 else 0) = _
      omega
theorem putK_length {κ : Type} [DecidableEq κ] (kvs : List (κ × V)) (k : κ) (v : V) : (putK kvs k v).length = kvs.length + (if (valV kvs k).isSome = true then 0 else 1) := by
  cases e : valV kvs k with
  | none =>
    rw [putK_new v e, List.length_append]
    rfl
  | some x =>
    have q : (kvs.any fun kv => decide (kv.1 = k)) = true := by
      rw [valV_any, e]
      rfl
    unfold putK
    rw [if_pos q, List.length_map]
    rfl
theorem Prices.put {kvs : List (List Key × V)} {ps : List (Te.Digits × Nat)} (p : Prices kvs ps) (nd : (ps.map (·.1)).Nodup) (d : List Nat) (c : Nat) : Prices (putK kvs (keyOf d) (iv c)) (Te.setPrice d c ps) := by
  refine ⟨?_, fun d' => ?_⟩
  · unfold Te.setPrice
    rw [putK_length, p.len, p.at_ d, List.length_append]
    have := filter_len (d := d) ps nd
    cases e : ps.find? fun p => p.1 == d with
    | none =>
      rw [e] at this
      have this : _ + 0 = ps.length := this
      show ps.length + 1 = _ + 1
      omega
    | some x =>
      rw [e] at this
      have this : _ + 1 = ps.length := this
      show ps.length + 0 = _ + 1
      omega
  · unfold Te.setPrice
    rw [valV_put, List.find?_append]
    by_cases e : d' = d
    · subst e
      rw [if_pos rfl, filter_none, Option.none_or, List.find?_cons, beq_self_eq_true]
      rfl
    · rw [if_neg fun z => e (keyOf_inj z), find_filter e, p.at_ d', List.find?_cons, beq_eq_false_iff_ne.mpr (Ne.symm e)]
      show _ = Option.map _ (Option.or _ none)
      rw [Option.or_none]
section
variable {P : Program} {w : World} {K : PySem.W.Frag} {mg : Str → Option Value} {base : Heap} {C : Cs}
def sp_tell_price (K : PySem.W.Frag) (C : Cs) : Sp := fun vs H Q _ => ∃ (L : Lay) (h : Te.Hall) (rq : Addr) (c : Nat) (d : List Nat), vs = [.ref L.ex, .ref rq] ∧ Rep C H L h ∧ Tells L h ∧ Base h ∧ ReqAt C H L rq 5 [c] [d] ∧ d.length ≤ 20 ∧ Ans C H L h (.price c d) Q
theorem price_new {ps : List (Te.Digits × Nat)} {d : List Nat} : (ps.all fun (p : Te.Digits × Nat) => p.1 != d) = !(ps.find? fun p => p.1 == d).isSome := by
  rw [Bool.eq_iff_iff, List.all_eq_true]
  constructor
  · intro h
    have : ps.find? (fun p => p.1 == d) = none := by
      rw [List.find?_eq_none]
      intro p hp q
      have := h p hp
      rw [bne_iff_ne] at this
      exact this (beq_iff_eq.mp q)
    rw [this]
    rfl
  · intro h p hp
    cases e : ps.find? fun p => p.1 == d with
    | none =>
      have := List.find?_eq_none.mp e p hp
      rw [bne_iff_ne]
      exact fun z => this (beq_iff_eq.mpr z)
    | some x =>
      rw [e] at h
      cases h
theorem cal_tell_price (T : Txt K mg C) : Cal P w K mg base 2 "tell_price" (sp_tell_price K C) := by
  refine T.d_tell_price.cal sc_tell_price (fun vs H Q E h => ?_) (fun f cdv A outer s H vs Q E hr h => ⟨_, (pss_cons (ps_set (i := 2) sc_tell_price.nd rfl (Or.inl rfl) (pe_ix ix_list (pe_fld (pv 1) rfl) pe_int (fun _ _ => rfl)))
    (pss_cons (ps_set (i := 3) sc_tell_price.nd rfl (Or.inl rfl) (pe_ix ix_list (pe_fld (pv 1) rfl) pe_int (fun _ _ => rfl)))
    (pss_cons (ps_if (PW.pt (pw_or (pt_cmpR op_gt (pv 2) (pe_gi rfl T.k_MOST_CENTS) (nomark _)) (pw_or1 (pt_not (pt_val (pe_c (cal_are_digits T) hr (by decide) rfl (pa_cons (pv 3) pa_nil)))))))
      (pss_one (ps_ret (pe_lst (pa_cons (pe_gi rfl T.k_NONE_SUCH) pa_nil))))
      pss_nil)
    (pss_cons (ps_set (i := 4) sc_tell_price.nd rfl (Or.inl rfl) (pe_callTy call_tuple_of (by rfl) T.n_tuple PyProof.Rows.boot_tuple (pa_cons (pv 3) pa_nil)))
    (pss_cons (ps_if (PW.pt (pw_and (pt_cmp (pc_dnotin (hu_of hr) (pv 4) (pe_fld (pv 0) rfl))) (pw_and1 (pt_cmpR op_ge (pe_callB call_len_dT (by rfl) T.n_len PySem.boot_len (pa_cons (pe_fld (pv 0) rfl) pa_nil)) (pe_gi rfl T.k_MOST_PRICES) (nomark _)))))
      (pss_one (ps_ret (pe_lst (pa_cons (pe_gi rfl T.k_ALL_TAKEN) pa_nil))))
      pss_nil)
    (pss_cons (ps_dput (hu_of hr) (pe_fld (pv 0) rfl) (pv 4) (pv 2) rfl)
    (pss_one (ps_ret (pe_lst (pa_cons pe_int pa_nil)))))))))), ?_⟩)
  · obtain ⟨L, h, rq, c, d, rfl, _⟩ := h
    rfl
  obtain ⟨L, h, rq, c, d, rfl, R, Tl, B, q, hd, k⟩ := h
  obtain ⟨dxe, hxe⟩ := R.ex
  obtain ⟨dxr, na, ra, rs, hq1, hq2, hq3, hq4, hq5⟩ := q.ex
  cases hq5 with
  | @cons da _ _ _ hda t => cases t with | nil =>
  refine ⟨_, rfl, rq, _, dxr, _, _, rfl, hq1, T.cl_Request, T.na_Request_numbers, reqF_numbers, na, _, 0, _, rfl, rfl, hq2.sq, at_of (j := 0) rfl rfl, ?_⟩
  refine ⟨_, rfl, rq, _, dxr, _, _, rfl, hq1, T.cl_Request, T.na_Request_rows, reqF_rows, ra, _, 0, _, rfl, rfl, SqL.of hq3, at_of (j := 0) rfl rfl, ?_⟩
  refine ⟨_, rfl, _, _, rfl, rfl, _, rfl, ?_⟩
  by_cases c1 : 1000 < c
  · refine if_t (decide_eq_true (by omega)) (iteT (k.no R Tl (z := -1) ?_ (Same.refl H)))
    dsimp only [Te.stepOn]
    rw [if_pos (.inl (show Te.CENTS < c from c1))]
    rfl
  refine if_f (decide_eq_false (by omega)) ?_
  refine ⟨_, rfl, da, d, rfl, hda.sq, by omega, fun H1 s1 => ⟨_, rfl, ?_⟩⟩
  cases en : Te.isDigits d with
  | false =>
    refine iteT (k.no R Tl (z := -1) ?_ s1)
    dsimp only [Te.stepOn]
    rw [if_pos (.inr en)]
    rfl
  | true =>
    refine iteF ?_
    have c0 : ¬ (Te.CENTS < c ∨ Te.isDigits d = false) := fun z => z.elim c1 fun z => by rw [en] at z; cases z
    refine ⟨_, rfl, da, _, rfl, .inl ⟨(hda.same s1).sq, fun tp htp => ?_⟩⟩
    have s2 : Same H (upd H1 tp (.tup (ivs d))) := Same.trans s1 (same_new htp)
    have R2 := R.same s2
    obtain ⟨kvs, hkv, pr⟩ := R2.pd
    have hm : h.prices.length = kvs.length := pr.len.symm
    have tup : upd H1 tp (.tup (ivs d)) tp = some (.tup ((keyOf d).map kV)) := by
      rw [upd_same, keyOf_kV]
    have g := DGet.t (a := L.pd) (b := tp) (k := keyOf d) hkv tup
    refine ⟨_, rfl, _, rfl, L.ex, _, dxe, _, _, rfl, s2 _ _ hxe, T.cl_Exchange, T.na_Exchange_prices, exF_prices L h, L.pd, _, rfl, g, _, rfl, ?_⟩
    have ep : (valV kvs (keyOf d)).isSome = (h.prices.find? fun p => p.1 == d).isSome := by
      rw [pr.at_ d, Option.isSome_map]
    have put : ∀ (nn : ¬ ((h.prices.all fun (p : Te.Digits × Nat) => p.1 != d) = true ∧ Te.PRICES ≤ h.prices.length)) (σ : L2.St) (D : L2.Ends) (_ : σ = [some (.ref L.ex), some (.ref rq), some (iv c), some (.ref da), some (.ref tp)]) (_ : D.rt = Q),
        sDPut (tFld K (tVar 0) "prices") (tVar 4) (tVar 2) { D with nx := fun σ H => tRet (tLst (tCons (tC (.int 0)) tNil)) D σ H } σ (upd H1 tp (.tup (ivs d))) := by
      rintro nn σ D rfl hD
      refine ⟨_, rfl, _, rfl, L.ex, _, dxe, _, _, rfl, s2 _ _ hxe, T.cl_Exchange, T.na_Exchange_prices, exF_prices L h, _, rfl, L.pd, _, rfl, DPut.t (k := keyOf d) hkv tup ?_, ?_⟩
      · rw [← hm]
        have : 16 < sizeLine := by decide
        have := B.sixteen
        omega
      · have R3 := R2.setPrices (pr.put B.keys d c)
        have ka : L.kind L.pd % 10 ≠ 0 := by rw [R.kpd]; decide
        have z := k.list (h1 := { h with prices := Te.setPrice d c h.prices }) ?_ R3 Tl ((Stp.of_same L s2).trans (Stp.upd ka)) (A := Te.says 0) (vs := [V.int 0]) rfl (by show 1 ≤ sizeLine; decide)
        · rw [← hD] at z
          exact z
        · dsimp only [Te.stepOn]
          rw [if_neg c0, if_neg nn]
    cases ee : (h.prices.find? fun p => p.1 == d).isSome with
    | true =>
      rw [ep, ee]
      refine iteF (iteF ?_)
      exact put (fun z => by rw [price_new, ee] at z; exact absurd z.1 (by decide)) _ _ rfl rfl
    | false =>
      rw [ep, ee]
      refine iteT ⟨_, rfl, L.ex, _, dxe, _, _, rfl, s2 _ _ hxe, T.cl_Exchange, T.na_Exchange_prices, exF_prices L h, L.pd, kvs, rfl, hkv, _, _, rfl, rfl, _, rfl, ?_⟩
      rw [← hm]
      by_cases c16 : 16 ≤ h.prices.length
      · refine if_t (decide_eq_true (by omega)) (k.no R Tl (z := -9) ?_ s2)
        dsimp only [Te.stepOn]
        rw [if_neg c0, if_pos ⟨by rw [price_new, ee]; rfl, show Te.PRICES ≤ h.prices.length from c16⟩]
      · refine if_f (decide_eq_false (by omega)) ?_
        exact put (fun z => c16 z.2) _ _ rfl rfl
/-! ### handed on -/
def sp_hand_on (K : PySem.W.Frag) (C : Cs) : Sp := fun vs H Q _ => ∃ (L : Lay) (h : Te.Hall) (rq : Addr) (x n : Nat) (d : List Nat), vs = [.ref L.ex, .ref rq] ∧ Rep C H L h ∧ Tells L h ∧ Base h ∧ ReqAt C H L rq 6 [x, n] [d] ∧ x < h.size.lines ∧ d.length ≤ 20 ∧ Ans C H L h (.hand x n d) Q
theorem opt_getD (d : List Nat) : ((if d.isEmpty = true then none else some d) : Option (List Nat)).getD [] = d := by
  cases d with
  | nil => rfl
  | cons x r => rfl
theorem cal_hand_on (T : Txt K mg C) : Cal P w K mg base 2 "hand_on" (sp_hand_on K C) := by
  refine T.d_hand_on.cal sc_hand_on (fun vs H Q E h => ?_) (fun f cdv A outer s H vs Q E hr h => ⟨_, (pss_cons (ps_set (i := 2) sc_hand_on.nd rfl (Or.inl rfl) (pe_ix ix_list (pe_fld (pv 0) rfl) (pe_ix ix_list (pe_fld (pv 1) rfl) pe_int (fun _ _ => rfl)) (fun _ _ => rfl)))
    (pss_cons (ps_set (i := 3) sc_hand_on.nd rfl (Or.inl rfl) (pe_ix ix_list (pe_fld (pv 1) rfl) pe_int (fun _ _ => rfl)))
    (pss_cons (ps_set (i := 4) sc_hand_on.nd rfl (Or.inl rfl) (pe_ix ix_list (pe_fld (pv 1) rfl) pe_int (fun _ _ => rfl)))
    (pss_cons (ps_if (PW.pt (pw_or (pt_cmpR op_gt (pv 3) (pe_gi rfl T.k_WHEN_UNANSWERED) (nomark _)) (pw_or1 (pt_not (pt_val (pe_c (cal_are_digits T) hr (by decide) rfl (pa_cons (pv 4) pa_nil)))))))
      (pss_one (ps_ret (pe_lst (pa_cons (pe_gi rfl T.k_NONE_SUCH) pa_nil))))
      pss_nil)
    (pss_cons (ps_asg (pv 4) (pg_sub (pe_fld (pv 2) rfl) (pv 3) set_list))
    (pss_one (ps_ret (pe_lst (pa_cons pe_int pa_nil))))))))), ?_⟩)
  · obtain ⟨L, h, rq, x, n, d, rfl, _⟩ := h
    rfl
  obtain ⟨L, h, rq, x, n, d, rfl, R, Tl, B, q, hx, hd, k⟩ := h
  obtain ⟨dxe, hxe⟩ := R.ex
  obtain ⟨dxr, na, ra, rs, hq1, hq2, hq3, hq4, hq5⟩ := q.ex
  have xl : x < h.lines.length := by rw [B.len]; exact hx
  have nx : ¬ h.size.lines ≤ x := Nat.not_le_of_lt hx
  obtain ⟨a, b, ha, hb, ql⟩ := R.lineAt xl
  cases hq5 with
  | @cons da _ _ _ hda t => cases t with | nil =>
  refine ⟨_, rfl, L.ex, _, dxe, _, _, rfl, hxe, T.cl_Exchange, T.na_Exchange_lines, exF_lines L h, _, rfl, rq, _, dxr, _, _, rfl, hq1, T.cl_Request, T.na_Request_numbers, reqF_numbers, na, _, 0, _, rfl, rfl, hq2.sq, at_of (j := 0) rfl rfl, L.ls, _, x, _, rfl, rfl, SqL.of R.ls, at_of (j := x) rfl (Rep.line_get (H := H) (h := h) ha), ?_⟩
  refine ⟨_, rfl, rq, _, dxr, _, _, rfl, hq1, T.cl_Request, T.na_Request_numbers, reqF_numbers, na, _, 1, _, rfl, rfl, hq2.sq, at_of (j := 1) rfl rfl, ?_⟩
  refine ⟨_, rfl, rq, _, dxr, _, _, rfl, hq1, T.cl_Request, T.na_Request_rows, reqF_rows, ra, _, 0, _, rfl, rfl, SqL.of hq3, at_of (j := 0) rfl rfl, ?_⟩
  refine ⟨_, rfl, _, _, rfl, rfl, _, rfl, ?_⟩
  by_cases c1 : 2 < n
  · refine if_t (decide_eq_true (by omega)) (iteT (k.no R Tl (z := -1) ?_ (Same.refl H)))
    dsimp only [Te.stepOn]
    rw [if_pos (.inr (.inl c1))]
    rfl
  refine if_f (decide_eq_false (by omega)) ?_
  refine ⟨_, rfl, da, d, rfl, hda.sq, by omega, fun H1 s1 => ⟨_, rfl, ?_⟩⟩
  cases en : Te.isDigits d with
  | false =>
    refine iteT (k.no R Tl (z := -1) ?_ s1)
    dsimp only [Te.stepOn]
    rw [if_pos (.inr (.inr en))]
    rfl
  | true =>
    refine iteF ?_
    have c0 : ¬ (h.size.lines ≤ x ∨ 2 < n ∨ Te.isDigits d = false) := fun z => z.elim nx fun z => z.elim c1 fun z => by rw [en] at z; cases z
    have R1 := R.same s1
    obtain ⟨dx1, nv, dl, d0, a0, a1, a2, cv, h1, h2, h3, h4, h5, h6, h7, h8, h9⟩ := (ql.same s1).ex
    have hda1 := hda.same s1
    have kb : L.kind b % 10 ≠ 0 := by rw [R.khand b (List.mem_of_getElem? hb)]; decide
    refine ⟨_, rfl, _, rfl, a, _, dx1, _, _, rfl, h1, T.cl_Line, T.na_Line_hands, lineF_hands, _, rfl, ?_⟩
    have st : Te.stepOn h (.hand x n d) = (Te.setLine h x (Te.setHand (Te.lineOf h x) n (if d.isEmpty = true then none else some d)), Te.says 0) := by
      dsimp only [Te.stepOn]
      rw [if_neg c0]
    have stg : (Te.setHand (Te.lineOf h x) n (if d.isEmpty = true then none else some d)).stage = (Te.lineOf h x).stage := by
      unfold Te.setHand
      split
      · rfl
      · split <;> rfl
    have num : (Te.setHand (Te.lineOf h x) n (if d.isEmpty = true then none else some d)).number = (Te.lineOf h x).number := by
      unfold Te.setHand
      split
      · rfl
      · split <;> rfl
    have owe : (Te.setHand (Te.lineOf h x) n (if d.isEmpty = true then none else some d)).owes = (Te.lineOf h x).owes := by
      unfold Te.setHand
      split
      · rfl
      · split <;> rfl
    have fin : ∀ b0 b1 b2, Dig H1 L b0 ((Te.setHand (Te.lineOf h x) n (if d.isEmpty = true then none else some d)).always.getD []) → Dig H1 L b1 ((Te.setHand (Te.lineOf h x) n (if d.isEmpty = true then none else some d)).busy.getD []) → Dig H1 L b2 ((Te.setHand (Te.lineOf h x) n (if d.isEmpty = true then none else some d)).late.getD []) →
        ([V.int 0] : List V).length ≤ sizeLine ∧ ∀ p, upd H1 b (.lst [.ref b0, .ref b1, .ref b2]) p = none → Q (.ref p) (upd (upd H1 b (.lst [.ref b0, .ref b1, .ref b2])) p (.lst [V.int 0])) := fun b0 b1 b2 g0 g1 g2 =>
      k.list st (R1.hands ha hb num stg owe g0 g1 g2) (keep_tells Tl xl stg) ((Stp.of_same L s1).trans (Stp.upd kb)) rfl (by show 1 ≤ sizeLine; decide)
    have o := opt_getD d
    have cases3 : n = 0 ∨ n = 1 ∨ n = 2 := by omega
    rcases cases3 with rfl | rfl | rfl
    · exact ⟨b, _, 0, 0, rfl, rfl, h5, rfl, fin da a1 a2 (show Dig H1 L da ((if d.isEmpty = true then none else some d : Option (List Nat)).getD []) by rw [o]; exact hda1) h7 h8⟩
    · exact ⟨b, _, 1, 1, rfl, rfl, h5, rfl, fin a0 da a2 h6 (show Dig H1 L da ((if d.isEmpty = true then none else some d : Option (List Nat)).getD []) by rw [o]; exact hda1) h8⟩
    · exact ⟨b, _, 2, 2, rfl, rfl, h5, rfl, fin a0 a1 da h6 h7 (show Dig H1 L da ((if d.isEmpty = true then none else some d : Option (List Nat)).getD []) by rw [o]; exact hda1)⟩
end
end Tx
end
section
namespace Tx
open PySem PySem.Spec PyProof.Rows L2
/-! ### what a line does changes nothing else -/
section
variable {h : Te.Hall} {x : Nat} {s : Te.Stage}
theorem staged_num (hx : x < h.lines.length) : (Te.staged h x s).lines.map (fun (l : Te.Line) => l.number) = h.lines.map (fun (l : Te.Line) => l.number) := by
  show (h.lines.set x { Te.lineOf h x with stage := s }).map _ = _
  rw [List.map_set]
  apply List.ext_getElem?
  intro j
  rw [List.getElem?_set]
  by_cases c : x = j
  · subst c
    rw [if_pos rfl, List.length_map, if_pos hx, List.getElem?_map, List.getElem?_eq_getElem hx, lineOf_get (List.getElem?_eq_getElem hx)]
    rfl
  · rw [if_neg c]
theorem find_num (ls : List Te.Line) (d : List Nat) : (ls.findIdx? fun (l : Te.Line) => l.number == some d) = (ls.map fun (l : Te.Line) => l.number).findIdx? (· == some d) := by
  rw [List.findIdx?_map]
  rfl
theorem staged_owner (hx : x < h.lines.length) (d : List Nat) : Te.ownerOf (Te.staged h x s) d = Te.ownerOf h d := by
  unfold Te.ownerOf
  rw [find_num, staged_num hx, ← find_num]
  rfl
theorem staged_numbers (hx : x < h.lines.length) : Te.numbers (Te.staged h x s) = Te.numbers h := by
  have e : ∀ ls : List Te.Line, ls.filterMap (fun (l : Te.Line) => l.number) = (ls.map (fun (l : Te.Line) => l.number)).filterMap id := fun ls => by
    rw [List.filterMap_map]
    rfl
  unfold Te.numbers
  rw [e, staged_num hx, ← e]
  rfl
theorem staged_twice (hx : x < h.lines.length) (t : Te.Stage) : Te.staged (Te.staged h x s) x t = Te.staged h x t := by
  have e : Te.lineOf (Te.staged h x s) x = { Te.lineOf h x with stage := s } := lineOf_same hx _
  show Te.setLine (Te.staged h x s) x { Te.lineOf (Te.staged h x s) x with stage := t } = _
  rw [e]
  show ({ h with lines := (h.lines.set x _).set x _ } : Te.Hall) = _
  rw [List.set_set]
  rfl
theorem staged_idle {y : Nat} (ne : y ≠ x) : Te.isIdle (Te.staged h x s) y = Te.isIdle h y := by
  unfold Te.isIdle
  have e : Te.lineOf (Te.staged h x s) y = Te.lineOf h y := lineOf_other ne _
  rw [e]
theorem staged_hands (hx : x < h.lines.length) (y : Nat) : (Te.lineOf (Te.staged h x s) y).always = (Te.lineOf h y).always ∧ (Te.lineOf (Te.staged h x s) y).busy = (Te.lineOf h y).busy := by
  rw [lineOf_staged hx]
  by_cases c : y = x
  · subst c
    rw [if_pos rfl]
    exact ⟨rfl, rfl⟩
  · rw [if_neg c]
    exact ⟨rfl, rfl⟩
theorem staged_connected (hx : x < h.lines.length) {y k : Nat} {dl : Te.Digits} : Te.connected (Te.staged h x s) x y dl k = Te.connected h x y dl k := by
  unfold Te.connected
  show (match Te.route h.size h.legs x y with
    | none => Te.staged (Te.staged h x s) x .tone
    | some w => _) = _
  cases Te.route h.size h.legs x y with
  | none => exact staged_twice hx .tone
  | some w =>
    exact congrArg (fun z => Te.staged z y .on) (staged_twice (h := { h with legs := w.2.1 ++ [⟨x, y, w.1⟩], calls := h.calls ++ [⟨x, y, dl, k, h.now, none⟩], moved := h.moved + w.2.2 }) hx .on)
theorem staged_tried {dl : Te.Digits} (hx : x < h.lines.length) : ∀ (f : Nat) (d : Te.Digits), Te.tried x dl f (Te.staged h x s) d = Te.tried x dl f h d
  | 0, d => staged_twice hx .tone
  | f + 1, d => by
    unfold Te.tried
    rw [staged_owner hx]
    cases Te.ownerOf h d with
    | nobody => exact staged_twice hx .tone
    | group l =>
      have e : (l.find? fun (y : Nat) => y != x && Te.isIdle (Te.staged h x s) y) = l.find? fun (y : Nat) => y != x && Te.isIdle h y := by
        congr 1
        funext y
        by_cases c : y = x
        · rw [c]
          simp
        · rw [staged_idle c]
      dsimp only
      rw [e]
      cases l.find? fun (y : Nat) => y != x && Te.isIdle h y with
      | none => exact staged_twice hx .tone
      | some y => exact staged_connected hx
    | line y =>
      obtain ⟨e1, e2⟩ := staged_hands (s := s) hx y
      dsimp only
      rw [e1, e2]
      cases (Te.lineOf h y).always with
      | some e => exact staged_tried hx f e
      | none =>
        dsimp only
        by_cases c : y = x
        · rw [if_neg fun z => z.1 c, if_neg fun z => z.1 c]
          cases (Te.lineOf h y).busy with
          | some e => exact staged_tried hx f e
          | none => exact staged_twice hx .tone
        · rw [staged_idle c]
          by_cases q : y ≠ x ∧ Te.isIdle h y = true
          · rw [if_pos q, if_pos q]
            exact staged_connected hx
          · rw [if_neg q, if_neg q]
            cases (Te.lineOf h y).busy with
            | some e => exact staged_tried hx f e
            | none => exact staged_twice hx .tone
end
/-! ### a call is answered -/
theorem stageNo_eq {h h' : Te.Hall} {j : Nat} (e1 : Te.lineOf h' j = Te.lineOf h j) (e2 : Te.callOf h' j = Te.callOf h j) : Te.stageNo h' j = Te.stageNo h j := by
  unfold Te.stageNo
  rw [e1, e2]
theorem set_begun {h : Te.Hall} (B : Base h) {p : Nat} {c : Te.Call_} (hc : h.calls[p]? = some c) : (h.calls.map fun (y : Te.Call_) => if y.from_ = c.from_ then { y with begun := some h.now } else y) = h.calls.set p { c with begun := some h.now } := by
  apply List.ext_getElem?
  intro j
  rw [List.getElem?_set, List.getElem?_map]
  by_cases e : p = j
  · subst e
    rw [if_pos rfl, if_pos (List.getElem?_eq_some_iff.mp hc).1, hc]
    show some (if c.from_ = c.from_ then _ else _) = _
    rw [if_pos rfl]
  · rw [if_neg e]
    cases ej : h.calls[j]? with
    | none => rfl
    | some y =>
      show some (if y.from_ = c.from_ then _ else _) = some y
      rw [if_neg]
      intro q
      have h1 := List.pairwise_iff_getElem.mp B.once
      obtain ⟨hp, ep⟩ := List.getElem?_eq_some_iff.mp hc
      obtain ⟨hj, ej⟩ := List.getElem?_eq_some_iff.mp ej
      rcases Nat.lt_or_gt_of_ne e with z | z
      · exact (h1 p j hp hj z).1 (by rw [ep, ej, q])
      · exact (h1 j p hj hp z).1 (by rw [ep, ej, q])
theorem lifted_tells {h : Te.Hall} (W : WF h) {L : Lay} (Tl : Tells L h) {c : Te.Call_} (hc : c ∈ h.calls) :
    ∀ j, j < h.lines.length → (if j = c.to_ then 2 else if j = c.from_ then 2 else L.st j) = Te.stageNo { h with calls := h.calls.map fun (y : Te.Call_) => if y.from_ = c.from_ then { y with begun := some h.now } else y } j := by
  have W2 := lifted_ok W c.from_
  have B := W.base
  have mem : ({ c with begun := some h.now } : Te.Call_) ∈ (h.calls.map fun (y : Te.Call_) => if y.from_ = c.from_ then { y with begun := some h.now } else y) := List.mem_map.mpr ⟨c, hc, by rw [if_pos rfl]⟩
  intro j hj
  have on : ∀ i, i < h.lines.length → (c.from_ = i ∨ c.to_ = i) → Te.stageNo { h with calls := h.calls.map fun (y : Te.Call_) => if y.from_ = c.from_ then { y with begun := some h.now } else y } i = 2 := by
    intro i hi e
    have e1 : (Te.lineOf h i).stage = .on := (W.on.on i (by rw [← B.len]; exact hi) id).mpr ⟨c, hc, e⟩
    have e2 := callOf_there W2.base mem (x := i) e
    unfold Te.stageNo
    show (match (Te.lineOf h i).stage with | .idle => 0 | .dials _ => 1 | .tone => 4 | .on => _) = 2
    rw [e1]
    show (match Te.callOf { h with calls := h.calls.map fun (y : Te.Call_) => if y.from_ = c.from_ then { y with begun := some h.now } else y } i with | none => 4 | some c => _) = 2
    rw [e2]
    rfl
  by_cases c1 : j = c.to_
  · rw [if_pos c1, on j hj (.inr c1.symm)]
  · rw [if_neg c1]
    by_cases c2 : j = c.from_
    · rw [if_pos c2, on j hj (.inl c2.symm)]
    · rw [if_neg c2, Tl j hj]
      have e : Te.callOf { h with calls := h.calls.map fun (y : Te.Call_) => if y.from_ = c.from_ then { y with begun := some h.now } else y } j = Te.callOf h j := by
        cases ec : Te.callOf h j with
        | none =>
          refine callOf_none.mpr fun ⟨d, hd, e⟩ => callOf_none.mp ec ?_
          obtain ⟨y, hy, rfl⟩ := List.mem_map.mp hd
          refine ⟨y, hy, ?_⟩
          by_cases q : y.from_ = c.from_
          · rw [if_pos q] at e
            exact e
          · rw [if_neg q] at e
            exact e
        | some d =>
          obtain ⟨hd, ed⟩ := callOf_some ec
          have ne : d.from_ ≠ c.from_ := fun q => by
            have := one_call B hd hc (x := c.from_) (.inl q) (.inl rfl)
            subst this
            rcases ed with ed | ed
            · exact c2 ed.symm
            · exact c1 ed.symm
          refine callOf_there W2.base (List.mem_map.mpr ⟨d, hd, by rw [if_neg ne]⟩) ed
      exact (stageNo_eq (h := h) (h' := { h with calls := h.calls.map fun (y : Te.Call_) => if y.from_ = c.from_ then { y with begun := some h.now } else y }) rfl e).symm
section
variable {P : Program} {w : World} {K : PySem.W.Frag} {mg : Str → Option Value} {base : Heap} {C : Cs}
def sp_start_talk (K : PySem.W.Frag) (C : Cs) : Sp := fun vs H Q _ => ∃ (L : Lay) (h : Te.Hall) (b : Addr) (p : Nat) (c : Te.Call_), vs = [.ref L.ex, .ref b] ∧ Rep C H L h ∧ Base h ∧ L.call[p]? = some b ∧ h.calls[p]? = some c ∧
  ∀ H', Rep C H' { L with st := fun j => if j = c.to_ then 2 else if j = c.from_ then 2 else L.st j } { h with calls := h.calls.set p { c with begun := some h.now } } → Stp H L H' { L with st := fun j => if j = c.to_ then 2 else if j = c.from_ then 2 else L.st j } → Q .non H'
theorem cal_start_talk (T : Txt K mg C) : Cal P w K mg base 1 "start_talk" (sp_start_talk K C) := by
  refine T.d_start_talk.cal sc_start_talk (fun vs H Q E h => ?_) (fun f cdv A outer s H vs Q E hr h => ⟨_, (pss_cons (ps_fld (pv 1) (pe_fld (pv 0) rfl) rfl)
    (pss_cons (ps_fld (pe_ix ix_list (pe_fld (pv 0) rfl) (pe_fld (pv 1) rfl) (fun _ _ => rfl)) (pe_gi rfl T.k_TALKS) rfl)
    (pss_one (ps_fld (pe_ix ix_list (pe_fld (pv 0) rfl) (pe_fld (pv 1) rfl) (fun _ _ => rfl)) (pe_gi rfl T.k_TALKS) rfl)))), ?_⟩)
  · obtain ⟨L, h, b, p, c, rfl, _⟩ := h
    rfl
  obtain ⟨L, h, b, p, c, rfl, R, B, hb, hc, k⟩ := h
  obtain ⟨dxe, hxe⟩ := R.ex
  obtain ⟨x, hx⟩ := R.legAt hb
  obtain ⟨dxc, na, h1, h2⟩ := (R.calls p b c x hb hc hx).ex
  have co := B.calls c (List.mem_of_getElem? hc)
  refine ⟨_, rfl, L.ex, _, dxe, _, _, rfl, hxe, T.cl_Exchange, T.na_Exchange_time, exF_time L h, _, rfl, b, _, dxc, _, rfl, h1, T.cl_Call, T.na_Call_talks_since, (by show 7 < 1000; decide), ?_⟩
  rw [callF_putTalks]
  have R1 := R.setTalks (t := h.now) hb hc hx h1 h2
  have fl : c.from_ < h.lines.length := by rw [B.len]; exact co.f
  have tl : c.to_ < h.lines.length := by rw [B.len]; exact co.t
  obtain ⟨dxe1, hxe1⟩ := R1.ex
  obtain ⟨a, d, ha, hd, q⟩ := R1.lineAt fl
  obtain ⟨dx1, nv, dl, d0, a0, a1, a2, cv, g1, g2, g3, g4, g5, g6, g7, g8, g9⟩ := q.ex
  have kb : L.kind b = 8 := R.kcall b (List.mem_of_getElem? hb)
  have ka : L.kind a = 6 := R.kline a (List.mem_of_getElem? ha)
  refine ⟨_, rfl, L.ex, _, dxe1, _, _, rfl, hxe1, T.cl_Exchange, T.na_Exchange_lines, exF_lines L _, _, rfl, b, _, dxc, _, _, rfl, upd_same, T.cl_Call, T.na_Call_caller, callF_caller, L.ls, _, c.from_, _, rfl, rfl, SqL.of R1.ls, at_of (j := c.from_) rfl (Rep.line_get (H := H) (h := h) ha), a, _, dx1, _, rfl, g1, T.cl_Line, T.na_Line_state, (by show 6 < 1000; decide), ?_⟩
  have R2 := R1.line (l' := Te.lineOf { h with calls := h.calls.set p { c with begun := some h.now } } c.from_) (sn := 2) (dx := dx1) (cv := cv) ha hd rfl rfl rfl g2 g3 g4 ⟨g9.1, fun z => by omega⟩
  rw [set_lineOf] at R2
  have e2 : ∀ ow, putF "state" (V.int 2) (lineF (L.st c.from_) nv dl d cv ow) = lineF 2 nv dl d cv ow := fun ow => lineF_putState 2
  rw [e2]
  obtain ⟨dxe2, hxe2⟩ := R2.ex
  obtain ⟨a', d', ha', hd', q'⟩ := R2.lineAt tl
  obtain ⟨dx2, nv2, dl2, d2, a02, a12, a22, cv2, f1, f2, f3, f4, f5, f6, f7, f8, f9⟩ := q'.ex
  have hb2 : ∀ o, upd (upd H b (.ins C.c_Call dxc (callF c.from_ c.to_ na c.hops c.since (iv h.now) (iv x.mid)))) a o b = some (.ins C.c_Call dxc (callF c.from_ c.to_ na c.hops c.since (iv h.now) (iv x.mid))) := fun o => by
    rw [upd_ne (Lay.ne kb ka (by decide))]
    exact upd_same
  refine ⟨_, rfl, L.ex, _, dxe2, _, _, rfl, hxe2, T.cl_Exchange, T.na_Exchange_lines, exF_lines _ _, _, rfl, b, _, dxc, _, _, rfl, hb2 _, T.cl_Call, T.na_Call_called, callF_called, L.ls, _, c.to_, _, rfl, rfl, SqL.of R2.ls, at_of (j := c.to_) rfl (Rep.line_get (H := H) (h := h) ha'), a', _, dx2, _, rfl, f1, T.cl_Line, T.na_Line_state, (by show 6 < 1000; decide), ?_⟩
  have R3 := R2.line (l' := Te.lineOf { h with calls := h.calls.set p { c with begun := some h.now } } c.to_) (sn := 2) (dx := dx2) (cv := cv2) ha' hd' rfl rfl rfl f2 f3 f4 ⟨f9.1, fun z => by omega⟩
  rw [set_lineOf] at R3
  have e3 : ∀ n ow, putF "state" (V.int 2) (lineF n nv2 dl2 d' cv2 ow) = lineF 2 nv2 dl2 d' cv2 ow := fun n ow => lineF_putState 2
  rw [e3]
  have ka' : L.kind a' = 6 := R.kline a' (List.mem_of_getElem? ha')
  refine k _ R3 ⟨fun z o hz kz => ⟨?_, rfl⟩, rfl, rfl⟩
  have nz : ∀ {y : Addr} {i : Nat}, L.kind y = i → i % 10 ≠ 0 → z ≠ y := fun hy hi e => hi (by rw [← hy, ← e]; exact kz)
  rw [upd_ne (nz ka' (by decide)), upd_ne (nz ka (by decide)), upd_ne (nz kb (by decide))]
  exact hz
/-! ### lifted -/
theorem stage5 {h : Te.Hall} {x : Nat} (e : Te.stageNo h x = 5) : ∃ c, Te.callOf h x = some c ∧ c.begun = none ∧ c.from_ ≠ x ∧ (Te.lineOf h x).stage = .on := by
  unfold Te.stageNo at e
  split at e
  · cases e
  · cases e
  · cases e
  · rename_i st
    split at e
    · cases e
    · rename_i c hc
      refine ⟨c, hc, ?_, ?_, st⟩
      · cases eb : c.begun with
        | none => rfl
        | some t =>
          rw [eb] at e
          cases e
      · intro q
        rw [if_pos q] at e
        split at e <;> cases e
def sp_lift (K : PySem.W.Frag) (C : Cs) : Sp := fun vs H Q _ => ∃ (L : Lay) (h : Te.Hall) (rq : Addr) (x : Nat), vs = [.ref L.ex, .ref rq] ∧ Rep C H L h ∧ Tells L h ∧ WF h ∧ ReqAt C H L rq 8 [x] [] ∧ x < h.size.lines ∧ Ans C H L h (.lift x) Q
theorem cal_lift (T : Txt K mg C) : Cal P w K mg base 2 "lift" (sp_lift K C) := by
  refine T.d_lift.cal sc_lift (fun vs H Q E h => ?_) (fun f cdv A outer s H vs Q E hr h => ⟨_, (pss_cons (ps_set (i := 2) sc_lift.nd rfl (Or.inl rfl) (pe_ix ix_list (pe_fld (pv 0) rfl) (pe_ix ix_list (pe_fld (pv 1) rfl) pe_int (fun _ _ => rfl)) (fun _ _ => rfl)))
    (pss_cons (ps_if (pt_cmpR op_eq (pe_fld (pv 2) rfl) (pe_gi rfl T.k_IDLE) (nomark _))
      (pss_cons (ps_fld (pv 2) (pe_gi rfl T.k_DIALS) rfl)
    (pss_cons (ps_fld (pv 2) (pe_lst pa_nil) rfl)
    (pss_one (ps_ret (pe_lst (pa_cons (pe_gi rfl T.k_DIALS) pa_nil))))))
      pss_nil)
    (pss_cons (ps_if (pt_cmpR op_eq (pe_fld (pv 2) rfl) (pe_gi rfl T.k_RINGS) (nomark _))
      (pss_cons (ps_expr (pe_c (cal_start_talk T) hr (by decide) rfl (pa_cons (pv 0) (pa_cons (pe_fld (pv 2) rfl) pa_nil))))
    (pss_one (ps_ret (pe_lst (pa_cons (pe_gi rfl T.k_TALKS) pa_nil)))))
      pss_nil)
    (pss_one (ps_ret (pe_lst (pa_cons (pe_gi rfl T.k_NOT_NOW) pa_nil))))))), ?_⟩)
  · obtain ⟨L, h, rq, x, rfl, _⟩ := h
    rfl
  obtain ⟨L, h, rq, x, rfl, R, Tl, W, q, hx, k⟩ := h
  have B := W.base
  obtain ⟨dxe, hxe⟩ := R.ex
  obtain ⟨dxr, na, ra, rs, hq1, hq2, hq3, hq4, hq5⟩ := q.ex
  have xl : x < h.lines.length := by rw [B.len]; exact hx
  have nx : ¬ h.size.lines ≤ x := Nat.not_le_of_lt hx
  obtain ⟨a, b, ha, hb, ql⟩ := R.lineAt xl
  obtain ⟨dx1, nv, dl, d0, a0, a1, a2, cv, h1, h2, h3, h4, h5, h6, h7, h8, h9⟩ := ql.ex
  have ka : L.kind a % 10 ≠ 0 := by rw [R.kline a (List.mem_of_getElem? ha)]; decide
  have sx := Tl x xl
  refine ⟨_, rfl, L.ex, _, dxe, _, _, rfl, hxe, T.cl_Exchange, T.na_Exchange_lines, exF_lines L h, _, rfl, rq, _, dxr, _, _, rfl, hq1, T.cl_Request, T.na_Request_numbers, reqF_numbers, na, _, 0, _, rfl, rfl, hq2.sq, at_of (j := 0) rfl rfl, L.ls, _, x, _, rfl, rfl, SqL.of R.ls, at_of (j := x) rfl (Rep.line_get (H := H) (h := h) ha), ?_⟩
  refine ⟨_, rfl, a, _, dx1, _, _, rfl, h1, T.cl_Line, T.na_Line_state, lineF_state, rfl, _, rfl, ?_⟩
  have e0 : decide (iv (L.st x) = V.int 0) = decide (L.st x = 0) := dec_iv (L.st x) 0
  rw [e0]
  by_cases c0 : L.st x = 0
  · refine if_t (decide_eq_true c0) ?_
    have idle : Te.isIdle h x = true := by rw [idle_no, ← sx]; exact decide_eq_true c0
    refine ⟨_, rfl, a, _, dx1, _, rfl, h1, T.cl_Line, T.na_Line_state, (by show 6 < 1000; decide), ?_⟩
    have e1 : putF "state" (V.int 1) (lineF (L.st x) nv dl b cv (Te.lineOf h x).owes) = lineF 1 nv dl b cv (Te.lineOf h x).owes := lineF_putState 1
    rw [e1]
    have R1 := R.line (l' := Te.lineOf h x) (sn := 1) (dx := dx1) (cv := cv) ha hb rfl rfl rfl h2 h3 h4 ⟨h9.1, fun z => by omega⟩
    rw [set_lineOf] at R1
    refine ⟨Nat.zero_le _, fun p hp => ?_⟩
    have s2 := same_new (o := .lst []) hp
    have R2 := R1.same s2
    obtain ⟨dx2, nv2, dl2, d2, a02, a12, a22, cv2, g1, g2, g3, g4, g5, g6, g7, g8, g9⟩ := (R2.lines x a b ha hb).ex
    refine ⟨_, rfl, a, _, dx2, _, rfl, g1, T.cl_Line, T.na_Line_dialed, (by show 6 < 1000; decide), ?_⟩
    rw [lineF_putDialed]
    have R3 := R2.line (l' := { Te.lineOf h x with stage := .dials [] }) (sn := if x = x then 1 else L.st x) (dx := dx2) (cv := cv2) (dl := p) (d0 := []) ha hb rfl rfl rfl g2 ⟨upd_same, R1.kfree p hp⟩ (fun d e => by cases e; rfl) ⟨fun k c e => (by cases e), fun z => by rw [if_pos rfl] at z; omega⟩
    have tl : Tells { L with st := fun j => if j = x then (if x = x then 1 else L.st x) else if j = x then 1 else L.st j } (Te.staged h x (.dials [])) := by
      intro j hj
      rw [staged_len] at hj
      show (if j = x then (if x = x then 1 else L.st x) else if j = x then 1 else L.st j) = _
      by_cases c : j = x
      · subst c
        rw [if_pos rfl, if_pos rfl]
        unfold Te.stageNo
        rw [lineOf_staged xl, if_pos rfl]
      · rw [if_neg c, if_neg c, Tl j hj]
        exact (stageNo_set c).symm
    refine k.list (h1 := Te.staged h x (.dials [])) ?_ R3 tl (((⟨(Stp.upd ka).keep, rfl, rfl⟩ : Stp H L _ { L with st := fun j => if j = x then 1 else L.st j }).trans (Stp.of_same _ s2)).trans ⟨(Stp.upd ka).keep, rfl, rfl⟩) (A := Te.says 1) rfl (by show 1 ≤ sizeLine; decide)
    dsimp only [Te.stepOn]
    rw [if_neg nx, if_pos idle]
  · refine if_f (decide_eq_false c0) ?_
    have nidle : ¬ Te.isIdle h x = true := by
      rw [idle_no, ← sx, decide_eq_false c0]
      decide
    refine ⟨_, rfl, a, _, dx1, _, _, rfl, h1, T.cl_Line, T.na_Line_state, lineF_state, rfl, _, rfl, ?_⟩
    have e5 : decide (iv (L.st x) = V.int 5) = decide (L.st x = 5) := dec_iv (L.st x) 5
    rw [e5]
    by_cases c5 : L.st x = 5
    · refine if_t (decide_eq_true c5) ?_
      obtain ⟨c, hc, hbg, hf, hon⟩ := stage5 (sx.symm.trans c5)
      obtain ⟨mc, ex⟩ := callOf_some hc
      have et : c.to_ = x := ex.resolve_left hf
      obtain ⟨p, hp⟩ := List.mem_iff_getElem?.mp mc
      obtain ⟨b', hb', rfl⟩ := h9.1 p c hon hp (.inr et)
      refine ⟨_, rfl, _, rfl, a, _, dx1, _, _, rfl, h1, T.cl_Line, T.na_Line_call, lineF_call, L, h, b', p, c, rfl, R, B, hb', hp, fun H2 R2 st => ?_⟩
      have tl : Tells { L with st := fun j => if j = c.to_ then 2 else if j = c.from_ then 2 else L.st j } { h with calls := h.calls.map fun (y : Te.Call_) => if y.from_ = c.from_ then { y with begun := some h.now } else y } := fun j hj => lifted_tells W Tl mc j hj
      rw [← set_begun B hp] at R2
      refine k.list ?_ R2 tl st (A := Te.says 2) rfl (by show 1 ≤ sizeLine; decide)
      dsimp only [Te.stepOn]
      rw [if_neg nx, if_neg nidle, hc]
      dsimp only
      rw [if_pos ⟨et, by rw [hbg]; rfl⟩]
    · refine if_f (decide_eq_false c5) (k.no R Tl (z := -5) ?_ (Same.refl H))
      dsimp only [Te.stepOn]
      rw [if_neg nx, if_neg nidle]
      cases hc : Te.callOf h x with
      | none => rfl
      | some c =>
        obtain ⟨mc, ex⟩ := callOf_some hc
        have hon : (Te.lineOf h x).stage = .on := (W.on.on x hx id).mpr ⟨c, mc, ex⟩
        dsimp only
        rw [if_neg]
        · rfl
        · rintro ⟨et, eb⟩
          apply c5
          rw [sx]
          unfold Te.stageNo
          rw [hon, hc]
          dsimp only
          have : c.begun = none := by simpa using eb
          rw [this, if_neg (by decide), if_neg]
          intro q
          exact (B.calls c mc).ne (q.trans et.symm)
/-! ### a digit -/
theorem upd_self {H : Hp} {a : Addr} {o : HO} (h : H a = some o) : upd H a o = H := by
  funext b
  by_cases e : b = a
  · subst e
    rw [upd_same, h]
  · rw [upd_ne e]
theorem connected_len {h : Te.Hall} {x y k : Nat} {dl : Te.Digits} : (Te.connected h x y dl k).lines.length = h.lines.length := by
  unfold Te.connected
  split
  · exact staged_len
  · rw [staged_len, staged_len]
theorem tried_len {x : Nat} {dl : Te.Digits} : ∀ (f : Nat) (h : Te.Hall) (d : Te.Digits), (Te.tried x dl f h d).lines.length = h.lines.length
  | 0, h, d => staged_len
  | f + 1, h, d => by
    unfold Te.tried
    split
    · exact staged_len
    · split
      · exact connected_len
      · exact staged_len
    · split
      · exact tried_len f h _
      · split
        · exact connected_len
        · split
          · exact tried_len f h _
          · exact staged_len
def sp_press_digit (K : PySem.W.Frag) (C : Cs) : Sp := fun vs H Q _ => ∃ (L : Lay) (h : Te.Hall) (rq : Addr) (x n : Nat), vs = [.ref L.ex, .ref rq] ∧ Rep C H L h ∧ Tells L h ∧ WF h ∧ ReqAt C H L rq 9 [x, n] [] ∧ x < h.size.lines ∧ Ans C H L h (.digit x n) Q
theorem stage1 {h : Te.Hall} {x : Nat} (e : Te.stageNo h x = 1) : ∃ d, (Te.lineOf h x).stage = .dials d := by
  unfold Te.stageNo at e
  split at e
  · cases e
  · exact ⟨_, by assumption⟩
  · cases e
  · split at e
    · cases e
    · split at e
      · cases e
      · split at e <;> cases e
theorem cal_press_digit (T : Txt K mg C) : Cal P w K mg base 6 "press_digit" (sp_press_digit K C) := by
  refine T.d_press_digit.cal sc_press_digit (fun vs H Q E h => ?_) (fun f cdv A outer s H vs Q E hr h => ⟨_, (pss_cons (ps_set (i := 2) sc_press_digit.nd rfl (Or.inl rfl) (pe_ix ix_list (pe_fld (pv 1) rfl) pe_int (fun _ _ => rfl)))
    (pss_cons (ps_set (i := 3) sc_press_digit.nd rfl (Or.inl rfl) (pe_ix ix_list (pe_fld (pv 1) rfl) pe_int (fun _ _ => rfl)))
    (pss_cons (ps_set (i := 4) sc_press_digit.nd rfl (Or.inl rfl) (pe_ix ix_list (pe_fld (pv 0) rfl) (pv 2) (fun _ _ => rfl)))
    (pss_cons (ps_if (pt_cmpR op_gt (pv 3) (pe_gi rfl T.k_TOP_DIGIT) (nomark _))
      (pss_one (ps_ret (pe_lst (pa_cons (pe_gi rfl T.k_NONE_SUCH) pa_nil))))
      pss_nil)
    (pss_cons (ps_if (pt_cmpR op_ne (pe_fld (pv 4) rfl) (pe_gi rfl T.k_DIALS) (nomark _))
      (pss_one (ps_ret (pe_lst (pa_cons (pe_gi rfl T.k_NOT_NOW) pa_nil))))
      pss_nil)
    (pss_cons (ps_set (i := 5) sc_press_digit.nd rfl (Or.inl rfl) (pe_op op_cat (pe_fld (pv 4) rfl) (pe_lst (pa_cons (pv 3) pa_nil))))
    (pss_cons (ps_fld (pv 4) (pv 5) rfl)
    (pss_cons (ps_set (i := 6) sc_press_digit.nd rfl (Or.inl rfl) pe_int)
    (pss_cons (ps_if (pt_val (pe_c (cal_is_somebodys T) hr (by decide) rfl (pa_cons (pv 0) (pa_cons (pv 5) pa_nil))))
      (pss_one (ps_set (i := 6) sc_press_digit.nd rfl (Or.inl rfl) (pe_c (cal_try_number T) hr (by decide) rfl (pa_cons (pv 0) (pa_cons (pv 2) (pa_cons (pv 5) (pa_cons (pv 5) (pa_cons pe_int pa_nil))))))))
      (pss_one (ps_if (pt_not (pt_val (pe_c (cal_some_number_begins T) hr (by decide) rfl (pa_cons (pv 0) (pa_cons (pv 5) pa_nil)))))
      (pss_one (ps_expr (pe_c (cal_give_tone T) hr (by decide) rfl (pa_cons (pv 4) pa_nil))))
      pss_nil)))
    (pss_one (ps_ret (pe_lst (pa_cons (pe_fld (pv 4) rfl) (pa_cons (pv 6) pa_nil)))))))))))))), ?_⟩)
  · obtain ⟨L, h, rq, x, n, rfl, _⟩ := h
    rfl
  obtain ⟨L, h, rq, x, n, rfl, R, Tl, W, q, hx, k⟩ := h
  have B := W.base
  obtain ⟨dxe, hxe⟩ := R.ex
  obtain ⟨dxr, na, ra, rs, hq1, hq2, hq3, hq4, hq5⟩ := q.ex
  have xl : x < h.lines.length := by rw [B.len]; exact hx
  have nx : ¬ h.size.lines ≤ x := Nat.not_le_of_lt hx
  obtain ⟨a, b, ha, hb, ql⟩ := R.lineAt xl
  obtain ⟨dx1, nv, dl, d0, a0, a1, a2, cv, h1, h2, h3, h4, h5, h6, h7, h8, h9⟩ := ql.ex
  have ka : L.kind a % 10 ≠ 0 := by rw [R.kline a (List.mem_of_getElem? ha)]; decide
  have sx := Tl x xl
  refine ⟨_, rfl, rq, _, dxr, _, _, rfl, hq1, T.cl_Request, T.na_Request_numbers, reqF_numbers, na, _, 0, _, rfl, rfl, hq2.sq, at_of (j := 0) rfl rfl, ?_⟩
  refine ⟨_, rfl, rq, _, dxr, _, _, rfl, hq1, T.cl_Request, T.na_Request_numbers, reqF_numbers, na, _, 1, _, rfl, rfl, hq2.sq, at_of (j := 1) rfl rfl, ?_⟩
  refine ⟨_, rfl, L.ex, _, dxe, _, _, rfl, hxe, T.cl_Exchange, T.na_Exchange_lines, exF_lines L h, _, rfl, L.ls, _, x, _, rfl, rfl, SqL.of R.ls, at_of (j := x) rfl (Rep.line_get (H := H) (h := h) ha), ?_⟩
  refine ⟨_, rfl, _, _, rfl, rfl, _, rfl, ?_⟩
  by_cases c9 : 9 < n
  · refine if_t (decide_eq_true (by omega)) (k.no R Tl (z := -1) ?_ (Same.refl H))
    dsimp only [Te.stepOn]
    rw [if_pos (.inr c9)]
    rfl
  refine if_f (decide_eq_false (by omega)) ?_
  have c0 : ¬ (h.size.lines ≤ x ∨ 9 < n) := fun z => z.elim nx c9
  refine ⟨_, rfl, a, _, dx1, _, _, rfl, h1, T.cl_Line, T.na_Line_state, lineF_state, rfl, _, rfl, ?_⟩
  have e1 : decide (iv (L.st x) = V.int 1) = decide (L.st x = 1) := dec_iv (L.st x) 1
  rw [e1]
  by_cases c1 : L.st x = 1
  · refine if_f (by rw [decide_eq_true c1]; rfl) ?_
    obtain ⟨d, hd⟩ := stage1 (sx.symm.trans c1)
    have ed := h4 d hd
    subst ed
    have dig : Te.isDigits d0 = true := (B.lineOk x).dials d0 hd
    have len8 : d0.length ≤ 8 := by
      unfold Te.isDigits at dig
      rw [Bool.and_eq_true] at dig
      exact of_decide_eq_true dig.1
    -- dialed = line.dialed + [digit]
    refine ⟨_, rfl, a, _, dx1, _, _, rfl, h1, T.cl_Line, T.na_Line_dialed, lineF_dialed, _, rfl, (by show 1 ≤ sizeLine; decide), fun p1 hp1 => ?_⟩
    refine ⟨dl, p1, _, _, rfl, rfl, (h3.same (same_new hp1)).1, upd_same, ?_, fun p hp => ?_⟩
    · rw [List.length_map]
      show d0.length + 1 ≤ sizeLine
      have : 9 ≤ sizeLine := by decide
      omega
    have s1 : Same H (upd (upd H p1 (.lst [V.int (n : Int)])) p (.lst (ivs d0 ++ [V.int (n : Int)]))) := Same.trans (same_new hp1) (same_new hp)
    have ep : ivs d0 ++ [V.int (n : Int)] = ivs (d0 ++ [n]) := by
      show _ = List.map iv (d0 ++ [n])
      rw [List.map_append]
      rfl
    rw [ep] at s1 ⊢
    have R1 := R.same s1
    have np : H p = none := (same_new hp1).free hp
    have hp' : Dig (upd (upd H p1 (.lst [V.int (n : Int)])) p (.lst (ivs (d0 ++ [n])))) L p (d0 ++ [n]) := ⟨upd_same, R.kfree p np⟩
    refine ⟨_, rfl, _, rfl, a, _, dx1, _, rfl, s1 _ _ h1, T.cl_Line, T.na_Line_dialed, (by show 6 < 1000; decide), ?_⟩
    rw [lineF_putDialed]
    have R2 := R1.line (l' := { Te.lineOf h x with stage := .tone }) (sn := L.st x) (dx := dx1) (cv := cv) (dl := p) ha hb rfl rfl rfl (h2.same s1) hp' (fun d e => by cases e) ⟨fun k c e => (by cases e), fun z => by omega⟩
    generalize hL : ({ L with st := fun j => if j = x then L.st x else L.st j } : Lay) = L2 at R2
    generalize hH : upd (upd (upd H p1 (.lst [V.int (n : Int)])) p (.lst (ivs (d0 ++ [n])))) a (.ins C.c_Line dx1 (lineF (L.st x) nv p b cv (Te.lineOf h x).owes)) = H2 at R2 ⊢
    have hex : L2.ex = L.ex := by rw [← hL]
    have st2 : Stp H L H2 L2 := by
      rw [← hH, ← hL]
      exact (Stp.of_same L s1).trans ⟨(Stp.upd ka).keep, rfl, rfl⟩
    have ha2 : L2.line[x]? = some a := by rw [← hL]; exact ha
    have hb2 : L2.hand[x]? = some b := by rw [← hL]; exact hb
    have ka2 : L2.kind a % 10 ≠ 0 := by rw [← hL]; exact ka
    have dp2 : Dig H2 L2 p (d0 ++ [n]) := by
      rw [← hH, ← hL]
      exact hp'.upd (m10 ka)
    have h12 : H2 a = some (.ins C.c_Line dx1 (lineF (L.st x) nv p b cv (Te.lineOf h x).owes)) := by
      rw [← hH]
      exact upd_same
    have R2 : Rep C H2 L2 (Te.staged h x .tone) := R2
    have fx : ¬ InCall h x := notOn W hx (by rw [hd]; exact fun z => by cases z)
    have O : OnBut h (· = x) := W.on.imp (fun _ q => q.elim) fun y q => q ▸ fx
    have W1 : WF (Te.staged h x .tone) := staged_wf B O (fun z => by cases z) (fun d z => by cases z)
    have ny : ∀ j, j < h.lines.length → L2.st j = Te.stageNo h j := by
      intro j hj
      rw [← hL]
      show (if j = x then L.st x else L.st j) = _
      by_cases c : j = x
      · subst c
        rw [if_pos rfl]
        exact sx
      · rw [if_neg c]
        exact Tl j hj
    have x1 : L2.st x = 1 := by rw [ny x xl, ← sx]; exact c1
    have lx1 : L.st x = L2.st x := by rw [x1, c1]
    have zl : ∀ s, x < (Te.staged h x s).lines.length := fun s => by rw [staged_len]; exact xl
    have ans : ∀ (H3 : Hp) (L3 : Lay) (z : Te.Hall), Te.dialed h x (d0 ++ [n]) = z → Rep C H3 L3 z → Tells L3 z → Stp H L H3 L3 → x < z.lines.length → tRet (tLst (tCons (tFld K (tVar 4) "state") (tCons (tVar 6) tNil))) { nx := fun _ H' => Q .non H', rt := Q } [some (.ref L.ex), some (.ref rq), some (iv x), some (iv n), some (.ref a), some (.ref p), some (iv (z.moved - h.moved))] H3 := by
      intro H3 L3 z ez R3 T3 S3 zl
      have ha3 : L3.line[x]? = some a := by rw [S3.line]; exact ha
      obtain ⟨a3, b3, ha3', hb3, q3⟩ := R3.lineAt zl
      rw [ha3] at ha3'
      cases ha3'
      obtain ⟨dx3, nv3, dl3, d3, _, _, _, cv3, g1, _⟩ := q3.ex
      refine ⟨_, rfl, a, _, dx3, _, _, rfl, g1, T.cl_Line, T.na_Line_state, lineF_state, _, rfl, ?_⟩
      refine k.list (h1 := z) (A := Te.tells (Te.stageNo z x : Nat) [z.moved - h.moved]) ?_ R3 T3 S3 ?_ (by show 2 ≤ sizeLine; decide)
      · dsimp only [Te.stepOn]
        rw [if_neg c0, hd]
        dsimp only
        rw [ez]
      · rw [T3 x zl]
        rfl
    refine ⟨_, rfl, _, rfl, L2, Te.staged h x .tone, p, d0 ++ [n], by rw [hex]; rfl, R2, W1.base, dp2.sq, fun H3 s3 => ⟨_, rfl, ?_⟩⟩
    have own : owned (Te.staged h x .tone) (d0 ++ [n]) = owned h (d0 ++ [n]) := by
      unfold owned
      rw [staged_owner xl]
    rw [own]
    have R3 := R2.same s3
    refine if_b (fun co => ?_) (fun co => ?_)
    · have no : Te.ownerOf h (d0 ++ [n]) ≠ .nobody := fun z => by
        unfold owned at co
        rw [z] at co
        cases co
      have ez : Te.dialed h x (d0 ++ [n]) = Te.tried x (d0 ++ [n]) 6 h (d0 ++ [n]) := by
        unfold Te.dialed
        cases e : Te.ownerOf h (d0 ++ [n]) with
        | nobody => exact absurd e no
        | line y => rfl
        | group l => rfl
      have et := staged_tried (s := .tone) (dl := d0 ++ [n]) xl 6 (d0 ++ [n])
      refine ⟨_, rfl, _, rfl, _, rfl, _, rfl, L2, Te.staged h x .tone, x, p, p, d0 ++ [n], d0 ++ [n], 0, by rw [hex]; rfl, R3, W1.base, dp2.same s3, dp2.same s3, owner_num B no, W1.on.imp (fun _ q => q.elim) (fun y q => q ▸ fx), hx, ⟨fun j hj ne => ?_, by rw [x1]; decide⟩, ?_, by decide, fun H4 L4 R4 T4 S4 _ => ?_⟩
      · rw [staged_len] at hj
        rw [ny j hj]
        exact (stageNo_set ne).symm
      · rw [lineOf_staged xl, if_pos rfl]
        exact fun z => by cases z
      · rw [show 6 - 0 = 6 from rfl, et] at R4 T4 ⊢
        refine ans H4 L4 _ ez R4 T4 ((st2.trans (Stp.of_same _ s3)).trans S4) ?_
        have W4 := dialed_ok W hx fx (d0 ++ [n])
        rw [ez] at W4
        have sz : (Te.tried x (d0 ++ [n]) 6 h (d0 ++ [n])).lines.length = h.lines.length := tried_len 6 h _
        rw [sz]
        exact xl
    · have nob : Te.ownerOf h (d0 ++ [n]) = .nobody := by
        unfold owned at co
        split at co
        · assumption
        · cases co
      refine ⟨_, rfl, _, rfl, L2, Te.staged h x .tone, p, d0 ++ [n], by rw [hex]; rfl, R3, W1.base, (dp2.same s3).sq, fun H4 s4 => ⟨_, rfl, ?_⟩⟩
      have may : Te.mayBe (Te.staged h x .tone) (d0 ++ [n]) = Te.mayBe h (d0 ++ [n]) := by
        unfold Te.mayBe
        rw [staged_numbers xl]
      rw [may]
      have R4 := R3.same s4
      have s34 := Same.trans s3 s4
      have dp4 := dp2.same s34
      have h14 := s34 _ _ h12
      have ow : (Te.lineOf (Te.staged h x .tone) x).owes = (Te.lineOf h x).owes := by rw [lineOf_staged xl, if_pos rfl]
      have h14' : H4 a = some (.ins C.c_Line dx1 (lineF (L.st x) nv p b cv (Te.lineOf (Te.staged h x .tone) x).owes)) := by
        rw [ow]
        exact h14
      obtain ⟨dx5, nv5, dl5, d5, _, _, _, cv5, g1, g2, _⟩ := (R4.lines x a b ha2 hb2).ex
      have num5 : NumV H4 L2 nv (Te.lineOf h x).number := by
        rw [g1] at h14
        injection h14 with z
        injection z with z1 z2 z3
        unfold lineF at z3
        injection z3 with _ z3
        injection z3 with z3 _
        injection z3 with _ z3
        rw [← z3]
        rw [lineOf_staged xl, if_pos rfl] at g2
        exact g2
      cases em : Te.mayBe h (d0 ++ [n]) with
      | true =>
        refine iteF ?_
        have ez : Te.dialed h x (d0 ++ [n]) = Te.staged h x (.dials (d0 ++ [n])) := by
          unfold Te.dialed
          rw [nob]
          dsimp only
          rw [if_pos em]
        have R5 : Rep C (upd H4 a (.ins C.c_Line dx1 (lineF (L.st x) nv p b cv (Te.lineOf (Te.staged h x .tone) x).owes))) _ (Te.setLine (Te.staged h x .tone) x { Te.lineOf (Te.staged h x .tone) x with stage := .dials (d0 ++ [n]) }) := R4.line (l' := { Te.lineOf (Te.staged h x .tone) x with stage := .dials (d0 ++ [n]) }) (sn := L.st x) (dx := dx1) (cv := cv) (dl := p) (nv := nv) ha2 hb2 rfl rfl rfl (by rw [lineOf_staged xl, if_pos rfl]; exact num5) dp4 (fun d e => by cases e; rfl) ⟨fun k c e => (by cases e), fun z => by omega⟩
        rw [upd_self h14'] at R5
        have e5 : Te.setLine (Te.staged h x .tone) x { Te.lineOf (Te.staged h x .tone) x with stage := .dials (d0 ++ [n]) } = Te.staged h x (.dials (d0 ++ [n])) := staged_twice xl _
        rw [e5] at R5
        have e0 : (Te.staged h x (.dials (d0 ++ [n]))).moved - h.moved = 0 := Nat.sub_self h.moved
        have z := ans H4 _ _ ez R5 (fun j hj => ?_) ((st2.trans (Stp.of_same _ s34)).trans ⟨fun _ _ h _ => ⟨h, rfl⟩, rfl, rfl⟩) (zl _)
        · rw [e0] at z
          exact z
        · rw [staged_len] at hj
          show (if j = x then L.st x else L2.st j) = _
          by_cases c : j = x
          · subst c
            rw [if_pos rfl, c1]
            unfold Te.stageNo
            rw [lineOf_staged xl, if_pos rfl]
          · rw [if_neg c, ny j hj]
            exact (stageNo_set c).symm
      | false =>
        refine iteT ?_
        have ez : Te.dialed h x (d0 ++ [n]) = Te.staged h x .tone := by
          unfold Te.dialed
          rw [nob]
          dsimp only
          rw [if_neg (by rw [em]; decide)]
        refine ⟨_, rfl, a, dx1, _, nv, p, b, cv, _, rfl, h14', ?_⟩
        have R5 := R4.line (l' := { Te.lineOf (Te.staged h x .tone) x with stage := .tone }) (sn := 4) (dx := dx1) (cv := .non) (dl := p) (nv := nv) ha2 hb2 rfl rfl rfl (by rw [lineOf_staged xl, if_pos rfl]; exact num5) dp4 (fun d e => by cases e) ⟨fun k c e => (by cases e), fun _ => rfl⟩
        have e5 : Te.setLine (Te.staged h x .tone) x { Te.lineOf (Te.staged h x .tone) x with stage := .tone } = Te.staged h x .tone := staged_twice xl _
        rw [e5] at R5
        have e0 : (Te.staged h x .tone).moved - h.moved = 0 := Nat.sub_self h.moved
        have z := ans _ _ _ ez R5 (fun j hj => ?_) ((st2.trans (Stp.of_same _ s34)).trans ⟨(Stp.upd ka2).keep, rfl, rfl⟩) (zl _)
        · rw [e0] at z
          exact z
        · rw [staged_len] at hj
          show (if j = x then 4 else L2.st j) = _
          by_cases c : j = x
          · subst c
            rw [if_pos rfl, stageNo_tone xl]
          · rw [if_neg c, ny j hj]
            exact (stageNo_set c).symm
  · refine if_t (by rw [decide_eq_false c1]; rfl) (k.no R Tl (z := -5) ?_ (Same.refl H))
    dsimp only [Te.stepOn]
    rw [if_neg c0]
    cases es : (Te.lineOf h x).stage with
    | dials d =>
      exfalso
      apply c1
      rw [sx]
      unfold Te.stageNo
      rw [es]
    | idle => rfl
    | on => rfl
    | tone => rfl
end
end Tx
end
section
namespace Tx
open PySem PySem.Spec PyProof.Rows L2
section
variable {P : Program} {w : World} {K : PySem.W.Frag} {mg : Str → Option Value} {base : Heap} {C : Cs}
/-! ### what a number costs -/
def sp_price_of (K : PySem.W.Frag) (C : Cs) : Sp := fun vs H Q _ => ∃ (L : Lay) (h : Te.Hall) (a : Addr) (d : List Nat), vs = [.ref L.ex, .ref a] ∧ Rep C H L h ∧ SqL K H a (ivs d) ∧ d.length ≤ 1000 ∧ ∀ H', Same H H' → Q (iv (Te.price h d)) H'
theorem told_val {kvs : List (List Key × V)} {ps : List (Te.Digits × Nat)} (pr : Prices kvs ps) (d : List Nat) (c : Nat) : (valV kvs (keyOf d)).getD (iv c) = iv (toldOr ps d c) := by
  rw [pr.at_ d]
  unfold toldOr
  cases ps.find? (fun p => p.1 == d) with
  | none => rfl
  | some p => rfl
theorem cal_price_of (T : Txt K mg C) : Cal P w K mg base 1 "price_of" (sp_price_of K C) := by
  refine T.d_price_of.cal sc_price_of (fun vs H Q E h => ?_) (fun f cdv A outer s H vs Q E hr h => ⟨_, (pss_cons (ps_set (i := 2) sc_price_of.nd rfl (Or.inl rfl) pe_int)
    (pss_cons (ps_for PassesOwn.never rfl (pi_range1 rfl T.n_range (pa_cons (pe_op op_add (pe_callB call_len_seq (by rfl) T.n_len PySem.boot_len (pa_cons (pv 1) pa_nil)) pe_int) pa_nil)) (pg_name (i := 3) sc_price_of.nd rfl (Or.inl rfl))
      (pss_one (ps_set (i := 2) sc_price_of.nd rfl (Or.inl rfl) (pe_dget2 (hu_of hr) (pe_fld (pv 0) rfl) (pe_callTy call_tuple_of (by rfl) T.n_tuple PyProof.Rows.boot_tuple (pa_cons (pe_slice sl_list (pv 1) po_none (po_some (pv 3))) pa_nil)) (pv 2) ⟨rfl, rfl, rfl, rfl⟩))))
    (pss_one (ps_ret (pv 2))))), ?_⟩)
  · obtain ⟨L, h, a, d, rfl, _⟩ := h
    rfl
  obtain ⟨L, h, a, d, rfl, R, ha, hl, k⟩ := h
  obtain ⟨dxe, hxe⟩ := R.ex
  obtain ⟨kvs, hkv, pr⟩ := R.pd
  have lm : (ivs d).length = d.length := List.length_map _
  have en : (((ivs d).length : Int) + 1).toNat = d.length + 1 := by rw [lm]; omega
  refine ⟨_, rfl, a, _, rfl, .inl ha, _, _, rfl, rfl, _, rfl, by omega, by rw [lm]; omega, ?_⟩
  rw [en]
  refine for_range (fun i σ H' => ∃ c u, σ = [some (.ref L.ex), some (.ref a), some (iv c), u] ∧ Same H H' ∧ c = (List.range i).foldl (fun c j => toldOr h.prices (d.take j) c) 0) ⟨0, none, rfl, Same.refl H, rfl⟩ ?_ ?_
  · rintro i σ H1 hi ⟨c, u, rfl, s1, ec⟩
    refine ⟨_, rfl, L.ex, _, dxe, _, _, rfl, s1 _ _ hxe, T.cl_Exchange, T.na_Exchange_prices, exF_prices L h, L.pd, rfl, .inr ⟨kvs, .inl (s1 _ _ hkv)⟩, ?_⟩
    refine ⟨_, rfl, _, rfl, _, rfl, a, _, rfl, Same.seq s1 ha, fun p hp => ?_⟩
    have e0 : cutV (ivs d) none (some (0 + (i : Int))) = ivs (d.take i) := by rw [Int.zero_add]; exact cut_to d i
    rw [e0]
    have s2 := same_new (o := .lst (ivs (d.take i))) hp
    refine ⟨p, _, rfl, .inl ⟨SqL.of upd_same, fun tp htp => ?_⟩⟩
    have s3 := same_new (o := .tup (ivs (d.take i))) htp
    have s13 := Same.trans s1 (Same.trans s2 s3)
    have tup : upd (upd H1 p (.lst (ivs (d.take i)))) tp (.tup (ivs (d.take i))) tp = some (.tup ((keyOf (d.take i)).map kV)) := by
      rw [upd_same, keyOf_kV]
    refine ⟨_, rfl, _, DGet.t (a := L.pd) (b := tp) (k := keyOf (d.take i)) (s13 _ _ hkv) tup, toldOr h.prices (d.take i) c, some (V.int (0 + (i : Int))), ?_, s13, ?_⟩
    · rw [told_val pr]
      rfl
    · rw [List.range_succ, List.foldl_append, ← ec]
      rfl
  · rintro σ H1 ⟨c, u, rfl, s1, ec⟩
    rw [← price_steps] at ec
    subst ec
    exact ⟨_, rfl, k H1 s1⟩
/-! ### minutes -/
def sp_minutes_begun (K : PySem.W.Frag) (C : Cs) : Sp := fun vs H Q _ => ∃ z : Int, vs = [.int z] ∧ 0 ≤ z ∧ Q (iv (max 1 ((z.toNat + 59) / 60))) H
theorem cal_minutes_begun (T : Txt K mg C) : Cal P w K mg base 1 "minutes_begun" (sp_minutes_begun K C) := by
  refine T.d_minutes_begun.cal sc_minutes_begun (fun vs H Q E h => ?_) (fun f cdv A outer s H vs Q E hr h => ⟨_, (pss_one (ps_ret (pe_callB (call_max2 rfl) (by rfl) T.n_max PyProof.Rows.boot_max (pa_cons pe_int (pa_cons (pe_op op_fdiv (pe_op op_sub (pe_op op_add (pv 0) (pe_gi rfl T.k_MINUTE)) pe_int) (pe_gi rfl T.k_MINUTE)) pa_nil))))), ?_⟩)
  · obtain ⟨z, rfl, _⟩ := h
    rfl
  obtain ⟨z, rfl, hz, k⟩ := h
  refine ⟨_, rfl, _, _, rfl, rfl, _, _, rfl, rfl, _, _, rfl, rfl, ⟨by omega, by omega⟩, _, _, rfl, ?_⟩
  have e : (if (z + 60 - 1) / 60 > 1 then (z + 60 - 1) / 60 else 1) = ((max 1 ((z.toNat + 59) / 60) : Nat) : Int) := by
    split <;> omega
  rw [e]
  exact k
theorem num8 {d : List Nat} (h : Te.isNumber d = true) : d.length ≤ 8 := by
  unfold Te.isNumber Te.isDigits at h
  rw [Bool.and_eq_true, Bool.and_eq_true] at h
  exact of_decide_eq_true h.2.1
def sp_cents_of (K : PySem.W.Frag) (C : Cs) : Sp := fun vs H Q _ => ∃ (L : Lay) (h : Te.Hall) (b : Addr) (p : Nat) (c : Te.Call_) (t : Nat), vs = [.ref L.ex, .ref b] ∧ Rep C H L h ∧ Base h ∧ L.call[p]? = some b ∧ h.calls[p]? = some c ∧ c.begun = some t ∧ ∀ H', Same H H' → Q (iv (Te.price h c.dialed * Te.minutes t h.now)) H'
theorem cal_cents_of (T : Txt K mg C) : Cal P w K mg base 2 "cents_of" (sp_cents_of K C) := by
  refine T.d_cents_of.cal sc_cents_of (fun vs H Q E h => ?_) (fun f cdv A outer s H vs Q E hr h => ⟨_, (pss_one (ps_ret (pe_op op_mul (pe_c (cal_price_of T) hr (by decide) rfl (pa_cons (pv 0) (pa_cons (pe_fld (pv 1) rfl) pa_nil))) (pe_c (cal_minutes_begun T) hr (by decide) rfl (pa_cons (pe_op op_sub (pe_fld (pv 0) rfl) (pe_fld (pv 1) rfl)) pa_nil))))), ?_⟩)
  · obtain ⟨L, h, b, p, c, t, rfl, _⟩ := h
    rfl
  obtain ⟨L, h, b, p, c, t, rfl, R, B, hb, hc, ht, k⟩ := h
  obtain ⟨dxe, hxe⟩ := R.ex
  obtain ⟨x, hx⟩ := R.legAt hb
  obtain ⟨dxc, na, h1, h2⟩ := (R.calls p b c x hb hc hx).ex
  rw [ht] at h1
  have co := B.calls c (List.mem_of_getElem? hc)
  have tn := co.begun t ht
  have l8 := num8 co.num
  refine ⟨_, rfl, _, rfl, b, _, dxc, _, _, rfl, h1, T.cl_Call, T.na_Call_number, callF_number, L, h, na, c.dialed, rfl, R, h2.sq, by omega, fun H1 s1 => ?_⟩
  refine ⟨_, rfl, L.ex, _, dxe, _, _, rfl, s1 _ _ hxe, T.cl_Exchange, T.na_Exchange_time, exF_time L h, _, rfl, b, _, dxc, _, _, rfl, s1 _ _ h1, T.cl_Call, T.na_Call_talks_since, callF_talks, _, _, rfl, rfl, (h.now : Int) - (t : Int), rfl, by omega, ?_⟩
  have pl := price_le B c.dialed
  refine ⟨_, _, rfl, rfl, .inl ⟨by omega, by omega⟩, ?_⟩
  have et : ((h.now : Int) - (t : Int)).toNat = h.now - t := by omega
  rw [et]
  have em : (Te.price h c.dialed : Int) * ((max 1 ((h.now - t + 59) / 60) : Nat) : Int) = ((Te.price h c.dialed * Te.minutes t h.now : Nat) : Int) := by
    rw [Int.natCast_mul]
    rfl
  show Q (.int ((Te.price h c.dialed : Int) * ((max 1 ((h.now - t + 59) / 60) : Nat) : Int))) H1
  rw [em]
  exact k H1 s1
/-! ### a line is idle -/
def sp_make_idle (K : PySem.W.Frag) (C : Cs) : Sp := fun vs H Q _ => ∃ (a dx : Addr) (n : Nat) (nv : V) (dl hd : Addr) (cv : V) (ow : Nat), vs = [.ref a] ∧ H a = some (.ins C.c_Line dx (lineF n nv dl hd cv ow)) ∧ Q .non (upd H a (.ins C.c_Line dx (lineF 0 nv dl hd .non ow)))
theorem cal_make_idle (T : Txt K mg C) : Cal P w K mg base 1 "make_idle" (sp_make_idle K C) := by
  refine T.d_make_idle.cal sc_make_idle (fun vs H Q E h => ?_) (fun f cdv A outer s H vs Q E hr h => ⟨_, (pss_cons (ps_fld (pv 0) (pe_gi rfl T.k_IDLE) rfl)
    (pss_one (ps_fld (pv 0) pe_non rfl))), ?_⟩)
  · obtain ⟨a, dx, n, nv, dl, hd, cv, ow, rfl, _⟩ := h
    rfl
  obtain ⟨a, dx, n, nv, dl, hd, cv, ow, rfl, ha, k⟩ := h
  refine ⟨_, rfl, a, _, dx, _, rfl, ha, T.cl_Line, T.na_Line_state, (by show 6 < 1000; decide), ?_⟩
  refine ⟨_, rfl, a, _, dx, _, rfl, upd_same, T.cl_Line, T.na_Line_call, (by show 6 < 1000; decide), ?_⟩
  rw [upd_upd]
  have e : putF "call" .non (putF "state" (iv 0) (lineF n nv dl hd cv ow)) = lineF 0 nv dl hd .non ow := by rw [lineF_putState, lineF_putCall]
  exact e ▸ k
/-! ### a call is taken out of the list -/
theorem Rep.isCall {H : Hp} {L : Lay} {h : Te.Hall} (R : Rep C H L h) : ∀ b ∈ L.call, ∃ dx fs, H b = some (.ins C.c_Call dx fs) := fun b hb => by
  obtain ⟨j, hj⟩ := List.mem_iff_getElem?.mp hb
  obtain ⟨x, hx⟩ := R.legAt hj
  have lt : j < h.calls.length := by
    rw [← R.cl]
    exact (List.getElem?_eq_some_iff.mp hj).1
  obtain ⟨dx, na, h1, _⟩ := (R.calls j b _ x hj (List.getElem?_eq_getElem lt) hx).ex
  exact ⟨dx, _, h1⟩
theorem Rep.without {H : Hp} {L : Lay} {h : Te.Hall} (R : Rep C H L h) (B : Base h) {p : Nat} {c : Te.Call_} (hc : h.calls[p]? = some c) : Rep C (upd H L.cs (.lst ((L.call.eraseIdx p).map V.ref))) { L with call := L.call.eraseIdx p } (Tx.without h c) := by
  have R1 := R.dropCall (k := p) (List.getElem?_eq_some_iff.mp hc).1
  have ew : ({ h with calls := h.calls.eraseIdx p, legs := h.legs.eraseIdx p } : Te.Hall) = Tx.without h c := by
    rw [← calls_without B hc, ← legs_without B hc]
    rfl
  rw [ew] at R1
  exact R1
def sp_end_ringing (K : PySem.W.Frag) (C : Cs) : Sp := fun vs H Q _ => ∃ (L : Lay) (h : Te.Hall) (b : Addr) (p : Nat) (c : Te.Call_), vs = [.ref L.ex, .ref b] ∧ Rep C H L h ∧ Base h ∧ L.call[p]? = some b ∧ h.calls[p]? = some c ∧
  ∀ H', Rep C H' { L with call := L.call.eraseIdx p, st := fun j => if j = c.to_ then 0 else L.st j } (lateOf h c) → Stp H L H' { L with call := L.call.eraseIdx p, st := fun j => if j = c.to_ then 0 else L.st j } → H' b = H b → Q .non H'
theorem cal_end_ringing (T : Txt K mg C) : Cal P w K mg base 2 "end_ringing" (sp_end_ringing K C) := by
  refine T.d_end_ringing.cal sc_end_ringing (fun vs H Q E h => ?_) (fun f cdv A outer s H vs Q E hr h => ⟨_, (pss_cons (ps_expr (pe_bm PySem.F.plainAttrs_list PySem.F.slot_list_remove PySem.F.type_list_remove (mt_remO (C := C.c_Call) (hu64 hr)) (pe_fld (pv 0) rfl) (pa_cons (pv 1) pa_nil)))
    (pss_one (ps_expr (pe_c (cal_make_idle T) hr (by decide) rfl (pa_cons (pe_ix ix_list (pe_fld (pv 0) rfl) (pe_fld (pv 1) rfl) (fun _ _ => rfl)) pa_nil))))), ?_⟩)
  · obtain ⟨L, h, b, p, c, rfl, _⟩ := h
    rfl
  obtain ⟨L, h, b, p, c, rfl, R, B, hb, hc, k⟩ := h
  obtain ⟨dxe, hxe⟩ := R.ex
  obtain ⟨x, hx⟩ := R.legAt hb
  obtain ⟨dxc, na, h1, h2⟩ := (R.calls p b c x hb hc hx).ex
  have co := B.calls c (List.mem_of_getElem? hc)
  refine ⟨_, rfl, L.ex, _, dxe, _, _, rfl, hxe, T.cl_Exchange, T.na_Exchange_calls, exF_calls L h, .inl ⟨rfl, _, SqL.of R.cs⟩, _, rfl, L.cs, L.call, b, p, rfl, rfl, R.cs, hb, R.ndc, R.isCall, T.mro_Call, T.eq_Call, ?_⟩
  have R1 := R.without B hc
  have kb : L.kind b = 8 := R.kcall b (List.mem_of_getElem? hb)
  have hb1 : upd H L.cs (.lst ((L.call.eraseIdx p).map V.ref)) b = some (.ins C.c_Call dxc (callF c.from_ c.to_ na c.hops c.since (optI c.begun) (iv x.mid))) := by
    rw [upd_ne (Lay.ne kb R.kcs (by decide))]
    exact h1
  have tl : c.to_ < (without h c).lines.length := by
    show c.to_ < h.lines.length
    rw [B.len]
    exact co.t
  obtain ⟨dxe1, hxe1⟩ := R1.ex
  obtain ⟨a, d, ha, hd, q⟩ := R1.lineAt tl
  obtain ⟨dx1, nv, dl, d0, a0, a1, a2, cv, g1, g2, g3, g4, g5, g6, g7, g8, g9⟩ := q.ex
  have ka : L.kind a = 6 := R.kline a (List.mem_of_getElem? ha)
  refine ⟨_, rfl, L.ex, _, dxe1, _, _, rfl, hxe1, T.cl_Exchange, T.na_Exchange_lines, exF_lines _ _, _, rfl, b, _, dxc, _, _, rfl, hb1, T.cl_Call, T.na_Call_called, callF_called, L.ls, _, c.to_, _, rfl, rfl, SqL.of R1.ls, at_of (j := c.to_) rfl (Rep.line_get (H := H) (h := h) ha), a, dx1, _, nv, dl, d, cv, _, rfl, g1, ?_⟩
  have R2 := R1.line (l' := { Te.lineOf (without h c) c.to_ with stage := .idle }) (sn := 0) (dx := dx1) (cv := .non) ha hd rfl rfl rfl g2 g3 (fun d e => by cases e) ⟨fun k c e => (by cases e), fun _ => rfl⟩
  refine k _ R2 ⟨fun z o hz kz => ⟨?_, rfl⟩, rfl, rfl⟩ ?_
  · have nz : ∀ {y : Addr} {i : Nat}, L.kind y = i → i % 10 ≠ 0 → z ≠ y := fun hy hi e => hi (by rw [← hy, ← e]; exact kz)
    rw [upd_ne (nz ka (by decide)), upd_ne (nz R.kcs (by decide))]
    exact hz
  · rw [upd_ne (Lay.ne kb ka (by decide)), upd_ne (Lay.ne kb R.kcs (by decide))]
end
end Tx
end
section
namespace Tx
open PySem PySem.Spec PyProof.Rows L2
/-! ### the others do what they did -/
theorem without_callOf {h : Te.Hall} (B : Base h) {c : Te.Call_} (hc : c ∈ h.calls) {j : Nat} (nf : j ≠ c.from_) (nt : j ≠ c.to_) : Te.callOf (without h c) j = Te.callOf h j := by
  cases e : Te.callOf h j with
  | none => exact callOf_none.mpr fun ⟨d, hd, ed⟩ => callOf_none.mp e ⟨d, (List.mem_filter.mp hd).1, ed⟩
  | some d =>
    obtain ⟨hd, ed⟩ := callOf_some e
    have ne : d.from_ ≠ c.from_ := fun q => by
      have := one_call B hd hc (x := c.from_) (.inl q) (.inl rfl)
      subst this
      rcases ed with ed | ed
      · exact nf ed.symm
      · exact nt ed.symm
    exact callOf_there (without_base B c) (List.mem_filter.mpr ⟨hd, bne_iff_ne.mpr ne⟩) ed
theorem other_stage {h z : Te.Hall} (B : Base h) {c : Te.Call_} (hc : c ∈ h.calls) (ez : z.calls = (without h c).calls) {j : Nat} (nf : j ≠ c.from_) (nt : j ≠ c.to_) (el : Te.lineOf z j = Te.lineOf h j) : Te.stageNo z j = Te.stageNo h j := by
  refine stageNo_eq el ?_
  have e : Te.callOf z j = Te.callOf (without h c) j := by
    unfold Te.callOf
    rw [ez]
  rw [e]
  exact without_callOf B hc nf nt
theorem stageNo_idle {h : Te.Hall} {i : Nat} (hi : i < h.lines.length) : Te.stageNo (Te.staged h i .idle) i = 0 := by
  unfold Te.stageNo
  rw [lineOf_staged hi, if_pos rfl]
/-- what it says, told back -/
theorem stage_on {h : Te.Hall} (W : WF h) {x : Nat} (hx : x < h.size.lines) (e : Te.stageNo h x = 2 ∨ Te.stageNo h x = 3 ∨ Te.stageNo h x = 5) : ∃ c, c ∈ h.calls ∧ (c.from_ = x ∨ c.to_ = x) ∧ Te.callOf h x = some c ∧ (Te.lineOf h x).stage = .on ∧ Te.stageNo h x = if c.begun.isSome = true then 2 else if c.from_ = x then 3 else 5 := by
  have on : (Te.lineOf h x).stage = .on := by
    cases es : (Te.lineOf h x).stage with
    | on => rfl
    | idle => unfold Te.stageNo at e; rw [es] at e; dsimp only at e; omega
    | tone => unfold Te.stageNo at e; rw [es] at e; dsimp only at e; omega
    | dials d => unfold Te.stageNo at e; rw [es] at e; dsimp only at e; omega
  obtain ⟨c, hc, ex⟩ := (W.on.on x hx id).mp on
  have ec := callOf_there W.base hc ex
  refine ⟨c, hc, ex, ec, on, ?_⟩
  unfold Te.stageNo
  rw [on, ec]
theorem stage_off {h : Te.Hall} (W : WF h) {x : Nat} (hx : x < h.size.lines) (e : Te.stageNo h x = 0 ∨ Te.stageNo h x = 1 ∨ Te.stageNo h x = 4) : Te.callOf h x = none := by
  cases ec : Te.callOf h x with
  | none => rfl
  | some c =>
    obtain ⟨hc, ex⟩ := callOf_some ec
    have on := (W.on.on x hx id).mpr ⟨c, hc, ex⟩
    exfalso
    unfold Te.stageNo at e
    rw [on, ec] at e
    dsimp only at e
    split at e
    · omega
    · split at e <;> omega
section
variable {P : Program} {w : World} {K : PySem.W.Frag} {mg : Str → Option Value} {base : Heap} {C : Cs}
/-! ### a talk ends -/
def sp_end_talk (K : PySem.W.Frag) (C : Cs) : Sp := fun vs H Q _ => ∃ (L : Lay) (h : Te.Hall) (b : Addr) (p : Nat) (c : Te.Call_) (t x : Nat), vs = [.ref L.ex, .ref b, iv x] ∧ Rep C H L h ∧ Tells L h ∧ WF h ∧ L.call[p]? = some b ∧ h.calls[p]? = some c ∧ c.begun = some t ∧ (c.from_ = x ∨ c.to_ = x) ∧ h.records.length ≤ 1000 ∧
  ∀ H' L', Rep C H' L' (Te.hung h x) → Tells L' (Te.hung h x) → Stp H L H' L' → Q (iv (Te.price h c.dialed * Te.minutes t h.now)) H'
/-- who hung up is idle, the other hears the tone -/
theorem talk_tail (T : Txt K mg C) {H H5 : Hp} {L L5 : Lay} {h : Te.Hall} {c : Te.Call_} {x o cents : Nat} {b : Addr} {Q : VK} (B : Base h) (Tl : Tells L h) (mc : c ∈ h.calls) (R5 : Rep C H5 L5 (Te.ended h c)) (st5 : Stp H L H5 L5) (ex5 : L5.ex = L.ex) (sts5 : ∀ j, L5.st j = L.st j)
    (lenE : (Te.ended h c).lines.length = h.lines.length) (callsE : (Te.ended h c).calls = (without h c).calls) (lineE : ∀ j, j ≠ c.from_ → Te.lineOf (Te.ended h c) j = Te.lineOf h j) (xl0 : x < h.lines.length) (ol : o < h.lines.length) (ox : o ≠ x) (two : ∀ j, j ≠ o → j ≠ x → j ≠ c.from_ ∧ j ≠ c.to_)
    (k : ∀ H' L', Rep C H' L' (Te.staged (Te.staged (Te.ended h c) x .idle) o .tone) → Tells L' (Te.staged (Te.staged (Te.ended h c) x .idle) o .tone) → Stp H L H' L' → Q (iv cents) H') :
    tSeq (tDrop (tCall (sp_make_idle K C) [] E0 (tCons (tOp (rIxL K) (tFld K (tVar 0) "lines") (tVar 2)) tNil))) (tSeq (tDrop (tCall (sp_give_tone K C) [] E0 (tCons (tOp (rIxL K) (tFld K (tVar 0) "lines") (tVar 4)) tNil))) (tRet (tVar 3))) { nx := fun _ H' => Q .non H', rt := Q } [some (.ref L.ex), some (.ref b), some (iv x), some (iv cents), some (iv o)] H5 := by
  obtain ⟨dxe5, hxe5⟩ := R5.ex
  rw [ex5] at hxe5
  -- who hung up is idle
  obtain ⟨a3, d3, ha3, hd3, q3⟩ := R5.lineAt (i := x) (by rw [lenE]; exact xl0)
  obtain ⟨dx3, nv3, dl3, d03, a03, a13, a23, cv3, f1, f2, f3, f4, f5, f6, f7, f8, f9⟩ := q3.ex
  refine ⟨_, rfl, L.ex, _, dxe5, _, _, rfl, hxe5, T.cl_Exchange, T.na_Exchange_lines, exF_lines _ _, _, rfl, L5.ls, _, x, _, rfl, rfl, SqL.of R5.ls, at_of (j := x) rfl (Rep.line_get (H := H) (h := h) ha3), a3, dx3, _, nv3, dl3, d3, cv3, _, rfl, f1, ?_⟩
  have R6 := R5.line (l' := { Te.lineOf (Te.ended h c) x with stage := .idle }) (sn := 0) (dx := dx3) (cv := .non) ha3 hd3 rfl rfl rfl f2 f3 (fun d e => by cases e) ⟨fun k c e => (by cases e), fun _ => rfl⟩
  have k3 : L5.kind a3 = 6 := R5.kline a3 (List.mem_of_getElem? ha3)
  obtain ⟨dxe6, hxe6⟩ := R6.ex
  have hxe6 := (congrArg (upd H5 a3 (.ins C.c_Line dx3 (lineF 0 nv3 dl3 d3 .non (Te.lineOf (Te.ended h c) x).owes))) ex5.symm).trans hxe6
  obtain ⟨a4, d4, ha4, hd4, q4⟩ := R6.lineAt (i := o) (by rw [show (Te.setLine (Te.ended h c) x { Te.lineOf (Te.ended h c) x with stage := .idle }).lines.length = (Te.ended h c).lines.length from List.length_set, lenE]; exact ol)
  obtain ⟨dx4, nv4, dl4, d04, a04, a14, a24, cv4, e1, e2, e3, e4, e5, e6, e7, e8, e9⟩ := q4.ex
  -- the other hears the tone
  refine ⟨_, rfl, L.ex, _, dxe6, _, _, rfl, hxe6, T.cl_Exchange, T.na_Exchange_lines, exF_lines _ _, _, rfl, L5.ls, _, o, _, rfl, rfl, SqL.of R6.ls, at_of (j := o) rfl (Rep.line_get (H := H) (h := h) ha4), a4, dx4, _, nv4, dl4, d4, cv4, _, rfl, e1, ?_⟩
  have R7 := R6.line (l' := { Te.lineOf (Te.staged (Te.ended h c) x .idle) o with stage := .tone }) (sn := 4) (dx := dx4) (cv := .non) ha4 hd4 rfl rfl rfl e2 e3 (fun d e => by cases e) ⟨fun k c e => (by cases e), fun _ => rfl⟩
  have k4 : L5.kind a4 = 6 := R5.kline a4 (List.mem_of_getElem? ha4)
  refine ⟨_, rfl, k _ _ R7 (fun j hj => ?_) (st5.trans (Stp.trans (L1 := { L5 with st := fun j => if j = x then 0 else L5.st j }) ⟨(Stp.upd (by rw [k3]; decide)).keep, rfl, rfl⟩ ⟨(Stp.upd (L := { L5 with st := fun j => if j = x then 0 else L5.st j }) (by show L5.kind a4 % 10 ≠ 0; rw [k4]; decide)).keep, rfl, rfl⟩))⟩
  rw [staged_len, staged_len, lenE] at hj
  show (if j = o then 4 else if j = x then 0 else L5.st j) = _
  by_cases c1 : j = o
  · rw [if_pos c1, c1, stageNo_tone (by rw [staged_len, lenE]; exact ol)]
  · rw [if_neg c1]
    have e10 : Te.stageNo (Te.staged (Te.staged (Te.ended h c) x .idle) o .tone) j = Te.stageNo (Te.staged (Te.ended h c) x .idle) j := stageNo_set c1
    rw [e10]
    by_cases c2 : j = x
    · rw [if_pos c2, c2, stageNo_idle (by rw [lenE]; exact xl0)]
    · rw [if_neg c2, sts5, Tl j hj]
      obtain ⟨nf, nt⟩ := two j c1 c2
      have el : Te.lineOf (Te.staged (Te.ended h c) x .idle) j = Te.lineOf h j := (lineOf_other c2 _).trans (lineE j nf)
      exact (other_stage (z := Te.staged (Te.ended h c) x .idle) B mc callsE nf nt el).symm
theorem cal_end_talk (T : Txt K mg C) : Cal P w K mg base 3 "end_talk" (sp_end_talk K C) := by
  refine T.d_end_talk.cal sc_end_talk (fun vs H Q E h => ?_) (fun f cdv A outer s H vs Q E hr h => ⟨_, (pss_cons (ps_set (i := 3) sc_end_talk.nd rfl (Or.inl rfl) (pe_c (cal_cents_of T) hr (by decide) rfl (pa_cons (pv 0) (pa_cons (pv 1) pa_nil))))
    (pss_cons (ps_expr (pe_bm PySem.F.plainAttrs_list PySem.F.slot_list_remove PySem.F.type_list_remove (mt_remO (C := C.c_Call) (hu64 hr)) (pe_fld (pv 0) rfl) (pa_cons (pv 1) pa_nil)))
    (pss_cons (ps_expr (pe_bm PySem.F.plainAttrs_list PySem.F.slot_list_append PySem.F.type_list_append mt_append (pe_fld (pv 0) rfl) (pa_cons (pe_lst (pa_cons (pe_fld (pv 1) rfl) (pa_cons (pe_fld (pv 1) rfl) (pa_cons (pe_fld (pv 1) rfl) (pa_cons (pe_fld (pv 0) rfl) (pa_cons (pv 3) pa_nil)))))) pa_nil)))
    (pss_cons (ps_fldaug (pe_ix ix_list (pe_fld (pv 0) rfl) (pe_fld (pv 1) rfl) (fun _ _ => rfl)) (pv 3) in_add)
    (pss_cons (ps_set (i := 4) sc_end_talk.nd rfl (Or.inl rfl) (pe_ifExp (pt_cmpR op_eq (pv 2) (pe_fld (pv 1) rfl) (nomark _)) (pe_fld (pv 1) rfl) (pe_fld (pv 1) rfl)))
    (pss_cons (ps_expr (pe_c (cal_make_idle T) hr (by decide) rfl (pa_cons (pe_ix ix_list (pe_fld (pv 0) rfl) (pv 2) (fun _ _ => rfl)) pa_nil)))
    (pss_cons (ps_expr (pe_c (cal_give_tone T) hr (by decide) rfl (pa_cons (pe_ix ix_list (pe_fld (pv 0) rfl) (pv 4) (fun _ _ => rfl)) pa_nil)))
    (pss_one (ps_ret (pv 3)))))))))), ?_⟩)
  · obtain ⟨L, h, b, p, c, t, x, rfl, _⟩ := h
    rfl
  obtain ⟨L, h, b, p, c, t, x, rfl, R, Tl, W, hb, hc, ht, ex, hr1, k⟩ := h
  have B := W.base
  obtain ⟨lg, hx⟩ := R.legAt hb
  obtain ⟨dxc, na, h1, h2⟩ := (R.calls p b c lg hb hc hx).ex
  rw [ht] at h1
  have mc := List.mem_of_getElem? hc
  have co := B.calls c mc
  refine ⟨_, rfl, _, rfl, L, h, b, p, c, t, rfl, R, B, hb, hc, ht, fun H1 s1 => ?_⟩
  generalize ecents : Te.price h c.dialed * Te.minutes t h.now = cents at k ⊢
  have R1 := R.same s1
  obtain ⟨dxe, hxe⟩ := R1.ex
  -- out of the calls
  refine ⟨_, rfl, L.ex, _, dxe, _, _, rfl, hxe, T.cl_Exchange, T.na_Exchange_calls, exF_calls L h, .inl ⟨rfl, _, SqL.of R1.cs⟩, _, rfl, L.cs, L.call, b, p, rfl, rfl, R1.cs, hb, R.ndc, R1.isCall, T.mro_Call, T.eq_Call, ?_⟩
  have R2 := R1.without B hc
  have kb : L.kind b = 8 := R.kcall b (List.mem_of_getElem? hb)
  have hb2 : upd H1 L.cs (.lst ((L.call.eraseIdx p).map V.ref)) b = some (.ins C.c_Call dxc (callF c.from_ c.to_ na c.hops c.since (iv t) (iv lg.mid))) := by
    rw [upd_ne (Lay.ne kb R.kcs (by decide))]
    exact s1 _ _ h1
  have st2 : Stp H L (upd H1 L.cs (.lst ((L.call.eraseIdx p).map V.ref))) { L with call := L.call.eraseIdx p } := (Stp.of_same L s1).trans ⟨(Stp.upd (by rw [R.kcs]; decide)).keep, rfl, rfl⟩
  generalize hL2 : ({ L with call := L.call.eraseIdx p } : Lay) = Lb at R2 st2
  generalize upd H1 L.cs (.lst ((L.call.eraseIdx p).map V.ref)) = H2 at R2 hb2 st2 ⊢
  have ex2 : Lb.ex = L.ex := by rw [← hL2]
  have ls2 : Lb.ls = L.ls := by rw [← hL2]
  have rs2 : Lb.rs = L.rs := by rw [← hL2]
  have kd2 : Lb.kind = L.kind := by rw [← hL2]
  have sts2 : Lb.st = L.st := by rw [← hL2]
  have ln2 : Lb.line = L.line := by rw [← hL2]
  obtain ⟨dxe2, hxe2⟩ := R2.ex
  rw [ex2] at hxe2
  -- one more record
  refine ⟨_, rfl, L.ex, _, dxe2, _, _, rfl, hxe2, T.cl_Exchange, T.na_Exchange_records, exF_records _ _, .inl ⟨rfl, _, SqL.of R2.rc.at_⟩, ?_⟩
  refine ⟨_, rfl, b, _, dxc, _, _, rfl, hb2, T.cl_Call, T.na_Call_caller, callF_caller, _, rfl, b, _, dxc, _, _, rfl, hb2, T.cl_Call, T.na_Call_called, callF_called, _, rfl, b, _, dxc, _, _, rfl, hb2, T.cl_Call, T.na_Call_talks_since, callF_talks, _, rfl, L.ex, _, dxe2, _, _, rfl, hxe2, T.cl_Exchange, T.na_Exchange_time, exF_time _ _, _, rfl, (by show 5 ≤ sizeLine; decide), fun pr hpr => ?_⟩
  have s3 : Same H2 (upd H2 pr (.lst [iv c.from_, iv c.to_, iv t, iv (without h c).now, iv cents])) := same_new hpr
  have R3 := R2.same s3
  have dg : Dig (upd H2 pr (.lst [iv c.from_, iv c.to_, iv t, iv (without h c).now, iv cents])) Lb pr (recN ⟨c.from_, c.to_, t, h.now, cents⟩) := ⟨upd_same, R2.kfree pr hpr⟩
  have R4 := R3.addRec dg
  have rl : (Lb.recs.map V.ref).length < sizeLine := by
    rw [List.length_map, R2.rc.all.length]
    show h.records.length < sizeLine
    have : 1000 < sizeLine := by decide
    omega
  refine ⟨Lb.rs, _, _, rfl, rfl, R3.rc.at_, rl, ?_⟩
  have e5 : Lb.recs.map V.ref ++ [V.ref pr] = (Lb.recs ++ [pr]).map V.ref := by
    rw [List.map_append]
    rfl
  rw [e5]
  have krs : Lb.kind Lb.rs = 9 := R2.rc.kind
  have st4 : Stp H L (upd (upd H2 pr (.lst [iv c.from_, iv c.to_, iv t, iv (without h c).now, iv cents])) Lb.rs (.lst ((Lb.recs ++ [pr]).map V.ref))) { Lb with recs := Lb.recs ++ [pr] } := st2.trans ((Stp.of_same Lb s3).trans ⟨(Stp.upd (by rw [krs]; decide)).keep, rfl, rfl⟩)
  have hb4 : upd (upd H2 pr (.lst [iv c.from_, iv c.to_, iv t, iv (without h c).now, iv cents])) Lb.rs (.lst ((Lb.recs ++ [pr]).map V.ref)) b = some (.ins C.c_Call dxc (callF c.from_ c.to_ na c.hops c.since (iv t) (iv lg.mid))) := by
    rw [upd_ne (Lay.ne (L := L) kb (by rw [← kd2, krs]) (by decide))]
    exact s3 _ _ hb2
  generalize hL4 : ({ Lb with recs := Lb.recs ++ [pr] } : Lay) = L4 at R4 st4
  generalize upd (upd H2 pr (.lst [iv c.from_, iv c.to_, iv t, iv (without h c).now, iv cents])) Lb.rs (.lst ((Lb.recs ++ [pr]).map V.ref)) = H4 at R4 st4 hb4 ⊢
  have ex4 : L4.ex = L.ex := by rw [← hL4]; exact ex2
  have kd4 : L4.kind = L.kind := by rw [← hL4]; exact kd2
  have sts4 : L4.st = L.st := by rw [← hL4]; exact sts2
  have fl0 : c.from_ < h.lines.length := by rw [B.len]; exact co.f
  -- who called pays
  obtain ⟨dxe4, hxe4⟩ := R4.ex
  rw [ex4] at hxe4
  obtain ⟨a, d, ha, hd, q⟩ := R4.lineAt (i := c.from_) fl0
  obtain ⟨dx1, nv, dl, d0, a0, a1, a2, cv, g1, g2, g3, g4, g5, g6, g7, g8, g9⟩ := q.ex
  refine ⟨_, rfl, L.ex, _, dxe4, _, _, rfl, hxe4, T.cl_Exchange, T.na_Exchange_lines, exF_lines _ _, _, rfl, b, _, dxc, _, _, rfl, hb4, T.cl_Call, T.na_Call_caller, callF_caller, L4.ls, _, c.from_, _, rfl, rfl, SqL.of R4.ls, at_of (j := c.from_) rfl (Rep.line_get (H := H) (h := h) ha), a, _, dx1, _, _, rfl, g1, T.cl_Line, T.na_Line_owed, lineF_owed, _, rfl, _, _, rfl, rfl, dx1, _, g1, (by show 6 < 1000; decide), ?_⟩
  have R5 := R4.line (l' := { Te.lineOf (without h c) c.from_ with owes := (Te.lineOf (without h c) c.from_).owes + cents }) (sn := L4.st c.from_) (dx := dx1) (cv := cv) ha hd rfl rfl rfl g2 g3 g4 g9
  have ee : Te.setLine { without h c with records := (without h c).records ++ [⟨c.from_, c.to_, t, h.now, cents⟩] } c.from_ { Te.lineOf (without h c) c.from_ with owes := (Te.lineOf (without h c) c.from_).owes + cents } = Te.ended h c := by
    unfold Te.ended
    rw [ht, ← ecents]
    rfl
  have R5 : Rep C (upd H4 a (.ins C.c_Line dx1 (lineF (L4.st c.from_) nv dl d cv ((Te.lineOf (without h c) c.from_).owes + cents)))) { L4 with st := fun j => if j = c.from_ then L4.st c.from_ else L4.st j } (Te.ended h c) := ee ▸ R5
  have e7 : putF "owed" (V.int (((Te.lineOf (without h c) c.from_).owes : Int) + (cents : Int))) (lineF (L4.st c.from_) nv dl d cv (Te.lineOf (without h c) c.from_).owes) = lineF (L4.st c.from_) nv dl d cv ((Te.lineOf (without h c) c.from_).owes + cents) := lineF_putOwed _
  have e8 : ∀ (D : L2.Ends) (σ : L2.St), D.nx σ (upd H4 a (.ins C.c_Line dx1 (lineF (L4.st c.from_) nv dl d cv ((Te.lineOf (without h c) c.from_).owes + cents)))) → D.nx σ (upd H4 a (.ins C.c_Line dx1 (putF "owed" (V.int (((Te.lineOf (without h c) c.from_).owes : Int) + (cents : Int))) (lineF (L4.st c.from_) nv dl d cv (Te.lineOf (without h c) c.from_).owes)))) := fun D σ z => by
    rw [e7]
    exact z
  refine e8 _ _ ?_
  have ka : L4.kind a = 6 := R4.kline a (List.mem_of_getElem? ha)
  have st5 : Stp H L (upd H4 a (.ins C.c_Line dx1 (lineF (L4.st c.from_) nv dl d cv ((Te.lineOf (without h c) c.from_).owes + cents)))) { L4 with st := fun j => if j = c.from_ then L4.st c.from_ else L4.st j } := st4.trans ⟨(Stp.upd (by rw [ka]; decide)).keep, rfl, rfl⟩
  have hb5 : upd H4 a (.ins C.c_Line dx1 (lineF (L4.st c.from_) nv dl d cv ((Te.lineOf (without h c) c.from_).owes + cents))) b = some (.ins C.c_Call dxc (callF c.from_ c.to_ na c.hops c.since (iv t) (iv lg.mid))) := by
    rw [upd_ne (Lay.ne (L := L4) (i := 8) (by rw [kd4]; exact kb) ka (by decide))]
    exact hb4
  have ex5 : ({ L4 with st := fun j => if j = c.from_ then L4.st c.from_ else L4.st j } : Lay).ex = L.ex := ex4
  have sts5 : ∀ j, ({ L4 with st := fun j => if j = c.from_ then L4.st c.from_ else L4.st j } : Lay).st j = L.st j := fun j => by
    show (if j = c.from_ then L4.st c.from_ else L4.st j) = _
    rw [sts4]
    by_cases z : j = c.from_
    · rw [if_pos z, z]
    · rw [if_neg z]
  generalize ({ L4 with st := fun j => if j = c.from_ then L4.st c.from_ else L4.st j } : Lay) = L5 at R5 st5 ex5 sts5
  generalize upd H4 a (.ins C.c_Line dx1 (lineF (L4.st c.from_) nv dl d cv ((Te.lineOf (without h c) c.from_).owes + cents))) = H5 at R5 st5 hb5 ⊢
  have lenE : (Te.ended h c).lines.length = h.lines.length := by
    rw [← ee]
    exact List.length_set
  have callsE : (Te.ended h c).calls = (without h c).calls := by
    rw [← ee]
    rfl
  have lineE : ∀ j, j ≠ c.from_ → Te.lineOf (Te.ended h c) j = Te.lineOf h j := fun j nj => by
    rw [← ee]
    exact lineOf_other nj _
  have tl0 : c.to_ < h.lines.length := by rw [B.len]; exact co.t
  have xl0 : x < h.lines.length := by
    rcases ex with z | z
    · rw [← z]; exact fl0
    · rw [← z]; exact tl0
  refine ⟨_, rfl, _, rfl, b, _, dxc, _, _, rfl, hb5, T.cl_Call, T.na_Call_caller, callF_caller, rfl, _, rfl, ?_⟩
  have ed : decide (iv x = iv c.from_) = decide (x = c.from_) := dec_iv x c.from_
  by_cases cx : c.from_ = x
  · have hu : Te.hung h x = Te.staged (Te.staged (Te.ended h c) x .idle) c.to_ .tone := by
      unfold Te.hung
      rw [callOf_there B (List.mem_of_getElem? hc) ex]
      dsimp only
      rw [if_pos cx, if_pos (by rw [ht]; rfl)]
    have ox : c.to_ ≠ x := fun z => co.ne (cx.trans z.symm)
    have two : ∀ j, j ≠ c.to_ → j ≠ x → j ≠ c.from_ ∧ j ≠ c.to_ := fun j h1 h2 => ⟨fun z => h2 (z.trans cx), h1⟩
    refine if_t (ed.trans (decide_eq_true cx.symm)) ⟨_, rfl, b, _, dxc, _, _, rfl, hb5, T.cl_Call, T.na_Call_called, callF_called, ?_⟩
    have ol := tl0
    generalize eo : c.to_ = o at hu ox ol ⊢
    have two : ∀ j, j ≠ o → j ≠ x → j ≠ c.from_ ∧ j ≠ c.to_ := fun j h1 h2 => two j (fun z => h1 (z.trans eo)) h2
    rw [hu] at k
    exact talk_tail T B Tl mc R5 st5 ex5 sts5 lenE callsE lineE xl0 ol ox two k
  · have hu : Te.hung h x = Te.staged (Te.staged (Te.ended h c) x .idle) c.from_ .tone := by
      unfold Te.hung
      rw [callOf_there B (List.mem_of_getElem? hc) ex]
      dsimp only
      rw [if_neg cx]
    have cx2 : c.to_ = x := ex.resolve_left cx
    have ox : c.from_ ≠ x := cx
    have two : ∀ j, j ≠ c.from_ → j ≠ x → j ≠ c.from_ ∧ j ≠ c.to_ := fun j h1 h2 => ⟨h1, fun z => h2 (z.trans cx2)⟩
    refine if_f (ed.trans (decide_eq_false (Ne.symm cx))) ⟨_, rfl, b, _, dxc, _, _, rfl, hb5, T.cl_Call, T.na_Call_caller, callF_caller, ?_⟩
    have ol := fl0
    generalize eo : c.from_ = o at hu ox ol ⊢
    have two : ∀ j, j ≠ o → j ≠ x → j ≠ c.from_ ∧ j ≠ c.to_ := fun j h1 h2 => two j (fun z => h1 (z.trans eo)) h2
    rw [hu] at k
    exact talk_tail T B Tl mc R5 st5 ex5 sts5 lenE callsE lineE xl0 ol ox two k
end
end Tx
end
section
namespace Tx
open PySem PySem.Spec PyProof.Rows L2
section
variable {P : Program} {w : World} {K : PySem.W.Frag} {mg : Str → Option Value} {base : Heap} {C : Cs}
/-! ### hung up -/
theorem hung_recs_none {h : Te.Hall} {x : Nat} (e : ∀ c, Te.callOf h x = some c → c.begun = none) : (Te.hung h x).records = h.records := by
  unfold Te.hung
  cases ec : Te.callOf h x with
  | none => rfl
  | some c =>
    dsimp only
    rw [ended_none (e c ec)]
    split <;> rfl
theorem hung_recs_some {h : Te.Hall} {x t : Nat} {c : Te.Call_} (ec : Te.callOf h x = some c) (ht : c.begun = some t) : (Te.hung h x).records = h.records ++ [⟨c.from_, c.to_, t, h.now, Te.price h c.dialed * Te.minutes t h.now⟩] := by
  have e : (Te.ended h c).records = h.records ++ [⟨c.from_, c.to_, t, h.now, Te.price h c.dialed * Te.minutes t h.now⟩] := by
    unfold Te.ended
    rw [ht]
  unfold Te.hung
  rw [ec]
  dsimp only
  split <;> exact e
def sp_hang (K : PySem.W.Frag) (C : Cs) : Sp := fun vs H Q _ => ∃ (L : Lay) (h : Te.Hall) (rq : Addr) (x : Nat), vs = [.ref L.ex, .ref rq] ∧ Rep C H L h ∧ Tells L h ∧ WF h ∧ ReqAt C H L rq 10 [x] [] ∧ x < h.size.lines ∧ h.records.length ≤ 1000 ∧ Ans C H L h (.hang x) Q
theorem cal_hang (T : Txt K mg C) : Cal P w K mg base 4 "hang" (sp_hang K C) := by
  refine T.d_hang.cal sc_hang (fun vs H Q E h => ?_) (fun f cdv A outer s H vs Q E hr h => ⟨_, (pss_cons (ps_set (i := 2) sc_hang.nd rfl (Or.inl rfl) (pe_ix ix_list (pe_fld (pv 1) rfl) pe_int (fun _ _ => rfl)))
    (pss_cons (ps_set (i := 3) sc_hang.nd rfl (Or.inl rfl) (pe_ix ix_list (pe_fld (pv 0) rfl) (pv 2) (fun _ _ => rfl)))
    (pss_cons (ps_if (PW.pt (pw_or (pt_cmpR op_eq (pe_fld (pv 3) rfl) (pe_gi rfl T.k_IDLE) (nomark _)) (pw_or1 (pt_cmpR op_eq (pe_fld (pv 3) rfl) (pe_gi rfl T.k_RINGS) (nomark _)))))
      (pss_one (ps_ret (pe_lst (pa_cons (pe_gi rfl T.k_NOT_NOW) pa_nil))))
      pss_nil)
    (pss_cons (ps_if (pt_cmpR op_eq (pe_fld (pv 3) rfl) (pe_gi rfl T.k_TALKS) (nomark _))
      (pss_one (ps_ret (pe_lst (pa_cons pe_int (pa_cons (pe_c (cal_end_talk T) hr (by decide) rfl (pa_cons (pv 0) (pa_cons (pe_fld (pv 3) rfl) (pa_cons (pv 2) pa_nil)))) pa_nil)))))
      pss_nil)
    (pss_cons (ps_if (pt_cmpR op_eq (pe_fld (pv 3) rfl) (pe_gi rfl T.k_WAITS) (nomark _))
      (pss_one (ps_expr (pe_c (cal_end_ringing T) hr (by decide) rfl (pa_cons (pv 0) (pa_cons (pe_fld (pv 3) rfl) pa_nil)))))
      pss_nil)
    (pss_cons (ps_expr (pe_c (cal_make_idle T) hr (by decide) rfl (pa_cons (pv 3) pa_nil)))
    (pss_one (ps_ret (pe_lst (pa_cons pe_int pa_nil)))))))))), ?_⟩)
  · obtain ⟨L, h, rq, x, rfl, _⟩ := h
    rfl
  obtain ⟨L, h, rq, x, rfl, R, Tl, W, q, hx, hr1, k⟩ := h
  have B := W.base
  obtain ⟨dxe, hxe⟩ := R.ex
  obtain ⟨dxr, na, ra, rs, hq1, hq2, hq3, hq4, hq5⟩ := q.ex
  have xl : x < h.lines.length := by rw [B.len]; exact hx
  have nx : ¬ h.size.lines ≤ x := Nat.not_le_of_lt hx
  obtain ⟨a, b, ha, hb, ql⟩ := R.lineAt xl
  obtain ⟨dx1, nv, dl, d0, a0, a1, a2, cv, h1, h2, h3, h4, h5, h6, h7, h8, h9⟩ := ql.ex
  have ka : L.kind a % 10 ≠ 0 := by rw [R.kline a (List.mem_of_getElem? ha)]; decide
  have sx := Tl x xl
  have step : ∀ (_ : ¬ (Te.stageNo h x = 0 ∨ Te.stageNo h x = 5)), Te.stepOn h (.hang x) = (Te.hung h x, Te.tells 0 (((Te.hung h x).records.drop h.records.length).map fun (r : Te.Record) => r.cents)) := fun z => by
    dsimp only [Te.stepOn]
    rw [if_neg nx, if_neg z]
  refine ⟨_, rfl, rq, _, dxr, _, _, rfl, hq1, T.cl_Request, T.na_Request_numbers, reqF_numbers, na, _, 0, _, rfl, rfl, hq2.sq, at_of (j := 0) rfl rfl, ?_⟩
  refine ⟨_, rfl, L.ex, _, dxe, _, _, rfl, hxe, T.cl_Exchange, T.na_Exchange_lines, exF_lines L h, _, rfl, L.ls, _, x, _, rfl, rfl, SqL.of R.ls, at_of (j := x) rfl (Rep.line_get (H := H) (h := h) ha), ?_⟩
  refine ⟨_, rfl, a, _, dx1, _, _, rfl, h1, T.cl_Line, T.na_Line_state, lineF_state, rfl, _, rfl, ?_⟩
  have dl_ : ∀ n : Nat, decide (iv (L.st x) = iv n) = decide (L.st x = n) := fun n => dec_iv (L.st x) n
  have no : Te.stageNo h x = 0 ∨ Te.stageNo h x = 5 → Te.stepOn h (.hang x) = (h, Te.says (-5)) := fun z => by
    dsimp only [Te.stepOn]
    rw [if_neg nx, if_pos z]
    rfl
  by_cases c0 : L.st x = 0
  · exact if_t ((dl_ 0).trans (decide_eq_true c0)) (iteT (k.no R Tl (no (.inl (sx.symm.trans c0))) (Same.refl H)))
  refine if_f ((dl_ 0).trans (decide_eq_false c0)) ⟨_, rfl, a, _, dx1, _, _, rfl, h1, T.cl_Line, T.na_Line_state, lineF_state, rfl, _, rfl, ?_⟩
  by_cases c5 : L.st x = 5
  · exact if_t ((dl_ 5).trans (decide_eq_true c5)) (k.no R Tl (no (.inr (sx.symm.trans c5))) (Same.refl H))
  refine if_f ((dl_ 5).trans (decide_eq_false c5)) ?_
  have step := step (by rw [← sx]; exact fun z => z.elim c0 c5)
  refine ⟨_, rfl, a, _, dx1, _, _, rfl, h1, T.cl_Line, T.na_Line_state, lineF_state, rfl, _, rfl, ?_⟩
  by_cases c2 : L.st x = 2
  · refine if_t ((dl_ 2).trans (decide_eq_true c2)) ?_
    obtain ⟨c, mc, ex, ec, on, es⟩ := stage_on W hx (.inl (sx.symm.trans c2))
    obtain ⟨t, ht⟩ : ∃ t, c.begun = some t := by
      cases eb : c.begun with
      | some t => exact ⟨t, rfl⟩
      | none =>
        rw [eb, ← sx, c2] at es
        rw [if_neg (by decide)] at es
        split at es <;> omega
    obtain ⟨p, hp⟩ := List.mem_iff_getElem?.mp mc
    obtain ⟨b', hb', ecv⟩ := h9.1 p c on hp ex
    subst ecv
    refine ⟨_, rfl, _, rfl, a, _, dx1, _, _, rfl, h1, T.cl_Line, T.na_Line_call, lineF_call, _, rfl, L, h, b', p, c, t, x, rfl, R, Tl, W, hb', hp, ht, ex, hr1, fun H2 L2 R2 T2 st2 => ?_⟩
    refine k.list step R2 T2 st2 ?_ (by show 2 ≤ sizeLine; decide)
    rw [hung_recs_some ec ht, List.drop_left]
    rfl
  refine if_f ((dl_ 2).trans (decide_eq_false c2)) ?_
  refine ⟨_, rfl, a, _, dx1, _, _, rfl, h1, T.cl_Line, T.na_Line_state, lineF_state, rfl, _, rfl, ?_⟩
  by_cases c3 : L.st x = 3
  · refine if_t ((dl_ 3).trans (decide_eq_true c3)) ?_
    obtain ⟨c, mc, ex, ec, on, es⟩ := stage_on W hx (.inr (.inl (sx.symm.trans c3)))
    have hn : c.begun = none := by
      cases eb : c.begun with
      | none => rfl
      | some t =>
        rw [eb, ← sx, c3, if_pos (show (some t).isSome = true from rfl)] at es
        omega
    have ef : c.from_ = x := by
      rw [hn, ← sx, c3, if_neg (by decide)] at es
      split at es
      · assumption
      · omega
    obtain ⟨p, hp⟩ := List.mem_iff_getElem?.mp mc
    obtain ⟨b', hb', ecv⟩ := h9.1 p c on hp ex
    subst ecv
    have nt : c.to_ ≠ x := fun z => (B.calls c mc).ne (ef.trans z.symm)
    refine ⟨_, rfl, _, rfl, a, _, dx1, _, _, rfl, h1, T.cl_Line, T.na_Line_call, lineF_call, L, h, b', p, c, rfl, R, B, hb', hp, fun H2 R2 st2 e2 => ?_⟩
    have ll : x < (lateOf h c).lines.length := by
      show x < (Te.staged (without h c) c.to_ .idle).lines.length
      rw [staged_len]
      exact xl
    obtain ⟨a', b2, ha', hb2, q2⟩ := R2.lineAt ll
    obtain rfl : a = a' := Option.some.inj (ha.symm.trans ha')
    obtain ⟨dx2, nv2, dl2, d2, a02, a12, a22, cv2, f1, f2, f3, f4, f5, f6, f7, f8, f9⟩ := q2.ex
    refine ⟨_, rfl, a, dx2, _, nv2, dl2, b2, cv2, _, rfl, f1, ?_⟩
    have R3 := R2.line (l' := { Te.lineOf (lateOf h c) x with stage := .idle }) (sn := 0) (dx := dx2) (cv := .non) ha' hb2 rfl rfl rfl f2 f3 (fun d e => by cases e) ⟨fun k c e => (by cases e), fun _ => rfl⟩
    have hu : Te.hung h x = Te.staged (lateOf h c) x .idle := by
      unfold Te.hung
      rw [ec]
      dsimp only
      rw [if_pos ef, ended_none hn, if_neg (by rw [hn]; decide)]
      exact staged_comm (Ne.symm nt)
    refine k.list (h1 := Te.staged (lateOf h c) x .idle) (A := Te.tells 0 []) ?_ R3 (fun j hj => ?_) (st2.trans ⟨(Stp.upd (L := { L with call := L.call.eraseIdx p, st := fun j => if j = c.to_ then 0 else L.st j }) ka).keep, rfl, rfl⟩) rfl (by show 1 ≤ sizeLine; decide)
    · rw [step, hung_recs_none (fun d hd => by rw [ec] at hd; cases hd; exact hn), List.drop_length, hu]
      rfl
    · rw [staged_len] at hj
      have hj' : j < h.lines.length := by
        have hj : j < (Te.staged (without h c) c.to_ .idle).lines.length := hj
        rw [staged_len] at hj
        exact hj
      show (if j = x then 0 else if j = c.to_ then 0 else L.st j) = _
      by_cases z : j = x
      · rw [if_pos z, z, stageNo_idle ll]
      · have e10 : Te.stageNo (Te.staged (lateOf h c) x .idle) j = Te.stageNo (lateOf h c) j := stageNo_set z
        rw [if_neg z, e10]
        by_cases z2 : j = c.to_
        · rw [if_pos z2, z2]
          exact (stageNo_idle (h := without h c) (by show c.to_ < h.lines.length; rw [B.len]; exact (B.calls c mc).t)).symm
        · rw [if_neg z2, Tl j hj']
          exact (other_stage (z := lateOf h c) B mc rfl (fun e => z (e.trans ef)) z2 (lineOf_other z2 _)).symm
  · refine if_f ((dl_ 3).trans (decide_eq_false c3)) ?_
    have off : Te.callOf h x = none := stage_off W hx (by
      have : Te.stageNo h x ≤ 5 := by
        unfold Te.stageNo
        split
        · omega
        · omega
        · omega
        · split
          · omega
          · split
            · omega
            · split <;> omega
      rw [← sx] at this ⊢
      omega)
    have hu : Te.hung h x = Te.staged h x .idle := by
      unfold Te.hung
      rw [off]
    refine ⟨_, rfl, a, dx1, _, nv, dl, b, cv, _, rfl, h1, ?_⟩
    have R3 := R.line (l' := { Te.lineOf h x with stage := .idle }) (sn := 0) (dx := dx1) (cv := .non) ha hb rfl rfl rfl h2 h3 (fun d e => by cases e) ⟨fun k c e => (by cases e), fun _ => rfl⟩
    refine k.list (h1 := Te.staged h x .idle) (A := Te.tells 0 []) ?_ R3 (tells_set xl (fun j hj _ => Tl j hj) (stageNo_idle xl).symm) ⟨(Stp.upd ka).keep, rfl, rfl⟩ rfl (by show 1 ≤ sizeLine; decide)
    rw [step, hung_recs_none (fun d hd => by rw [off] at hd; cases hd), List.drop_length, hu]
    rfl
end
end Tx
end
section
namespace Tx
open PySem PySem.Spec PyProof.Rows L2
/-! ### a call that rings -/
theorem stage_to {h : Te.Hall} (W : WF h) {c : Te.Call_} (hc : c ∈ h.calls) : Te.stageNo h c.to_ = if c.begun.isSome = true then 2 else 5 := by
  have on : (Te.lineOf h c.to_).stage = .on := (W.on.on c.to_ (W.base.calls c hc).t id).mpr ⟨c, hc, .inr rfl⟩
  unfold Te.stageNo
  rw [on, callOf_there W.base hc (x := c.to_) (.inr rfl)]
  dsimp only
  rw [if_neg (W.base.calls c hc).ne]
theorem stage_from {h : Te.Hall} (W : WF h) {c : Te.Call_} (hc : c ∈ h.calls) (hn : c.begun = none) : Te.stageNo h c.from_ = 3 := by
  have on : (Te.lineOf h c.from_).stage = .on := (W.on.on c.from_ (W.base.calls c hc).f id).mpr ⟨c, hc, .inl rfl⟩
  unfold Te.stageNo
  rw [on, callOf_there W.base hc (x := c.from_) (.inl rfl)]
  dsimp only
  rw [hn, if_neg (by decide), if_pos rfl]
theorem late_base {h : Te.Hall} (W : WF h) {c : Te.Call_} (hc : c ∈ h.calls) (hn : c.begun = none) : Base (lateOf h c) ∧ OnBut (lateOf h c) (· = c.from_) := by
  have B := ended_base W.base c
  have O := ended_on W hc
  rw [ended_none hn] at B O
  have ne := (W.base.calls c hc).ne
  exact ⟨staged_base B _ nofun, (staged_off B O (O.off c.to_ (.inr rfl)) (s := .idle) nofun).congr fun x => ⟨fun q => q.1.resolve_right q.2, fun q => ⟨.inl q, fun e => ne (q.symm.trans e)⟩⟩⟩
theorem late_other {h : Te.Hall} (B : Base h) {c : Te.Call_} (hc : c ∈ h.calls) {j : Nat} (nf : j ≠ c.from_) : Te.stageNo (lateOf h c) j = if j = c.to_ then 0 else Te.stageNo h j := by
  by_cases z : j = c.to_
  · rw [if_pos z, z]
    exact stageNo_idle (h := without h c) (by show c.to_ < h.lines.length; rw [B.len]; exact (B.calls c hc).t)
  · rw [if_neg z]
    exact other_stage (z := lateOf h c) B hc rfl nf z (lineOf_other z _)
theorem late_len {h : Te.Hall} {c : Te.Call_} : (lateOf h c).lines.length = h.lines.length := staged_len (h := without h c)
theorem late_late {h : Te.Hall} (B : Base h) {c : Te.Call_} (hc : c ∈ h.calls) : (Te.lineOf (lateOf h c) c.to_).late = (Te.lineOf h c.to_).late := by
  have e := lineOf_staged (h := without h c) (i := c.to_) (j := c.to_) (s := .idle) (by show c.to_ < h.lines.length; rw [B.len]; exact (B.calls c hc).t)
  rw [if_pos rfl] at e
  have e : Te.lineOf (lateOf h c) c.to_ = _ := e
  rw [e]
  rfl
section
variable {P : Program} {w : World} {K : PySem.W.Frag} {mg : Str → Option Value} {base : Heap} {C : Cs}
def sp_rang_too_long (K : PySem.W.Frag) (C : Cs) : Sp := fun vs H Q _ => ∃ (L : Lay) (h : Te.Hall) (b : Addr) (p : Nat) (c : Te.Call_), vs = [.ref L.ex, .ref b] ∧ Rep C H L h ∧ Tells L h ∧ WF h ∧ L.call[p]? = some b ∧ h.calls[p]? = some c ∧ Q (.bl (dueB h c)) H
theorem cal_rang_too_long (T : Txt K mg C) : Cal P w K mg base 1 "rang_too_long" (sp_rang_too_long K C) := by
  refine T.d_rang_too_long.cal sc_rang_too_long (fun vs H Q E h => ?_) (fun f cdv A outer s H vs Q E hr h => ⟨_, (pss_cons (ps_if (pt_cmpR op_ne (pe_fld (pe_ix ix_list (pe_fld (pv 0) rfl) (pe_fld (pv 1) rfl) (fun _ _ => rfl)) rfl) (pe_gi rfl T.k_RINGS) (nomark _))
      (pss_one (ps_ret pe_bl))
      pss_nil)
    (pss_one (ps_ret (pe_cmpR op_ge (pe_op op_sub (pe_fld (pv 0) rfl) (pe_fld (pv 1) rfl)) (pe_fld (pv 0) rfl) (nomark _))))), ?_⟩)
  · obtain ⟨L, h, b, p, c, rfl, _⟩ := h
    rfl
  obtain ⟨L, h, b, p, c, rfl, R, Tl, W, hb, hc, k⟩ := h
  have B := W.base
  have mc := List.mem_of_getElem? hc
  have co := B.calls c mc
  obtain ⟨dxe, hxe⟩ := R.ex
  obtain ⟨x, hx⟩ := R.legAt hb
  obtain ⟨dxc, na, h1, h2⟩ := (R.calls p b c x hb hc hx).ex
  have tl : c.to_ < h.lines.length := by rw [B.len]; exact co.t
  obtain ⟨a, d, ha, hd, q⟩ := R.lineAt tl
  obtain ⟨dx1, nv, dl, d0, a0, a1, a2, cv, g1, g2, g3, g4, g5, g6, g7, g8, g9⟩ := q.ex
  have sx := (Tl c.to_ tl).trans (stage_to W mc)
  refine ⟨_, rfl, L.ex, _, dxe, _, _, rfl, hxe, T.cl_Exchange, T.na_Exchange_lines, exF_lines L h, _, rfl, b, _, dxc, _, _, rfl, h1, T.cl_Call, T.na_Call_called, callF_called, L.ls, _, c.to_, _, rfl, rfl, SqL.of R.ls, at_of (j := c.to_) rfl (Rep.line_get (H := H) (h := h) ha), a, _, dx1, _, _, rfl, g1, T.cl_Line, T.na_Line_state, lineF_state, rfl, _, rfl, ?_⟩
  have e5 : decide (iv (L.st c.to_) = V.int 5) = decide (L.st c.to_ = 5) := dec_iv (L.st c.to_) 5
  rw [e5]
  cases eb : c.begun with
  | some t =>
    rw [eb, if_pos (show (some t).isSome = true from rfl)] at sx
    refine if_t (by rw [sx]; rfl) ?_
    have e : dueB h c = false := by
      unfold dueB
      rw [eb]
      rfl
    rw [e] at k
    exact k
  | none =>
    rw [eb, if_neg (by decide)] at sx
    refine if_f (by rw [sx]; rfl) ?_
    refine ⟨_, rfl, L.ex, _, dxe, _, _, rfl, hxe, T.cl_Exchange, T.na_Exchange_time, exF_time L h, _, rfl, b, _, dxc, _, _, rfl, h1, T.cl_Call, T.na_Call_rings_since, callF_rings, _, _, rfl, rfl, _, rfl, L.ex, _, dxe, _, _, rfl, hxe, T.cl_Exchange, T.na_Exchange_wait, exF_wait L h, _, _, rfl, rfl, ?_⟩
    have e : dueB h c = decide ((h.wait : Int) ≤ (h.now : Int) - (c.since : Int)) := by
      unfold dueB
      rw [eb]
      show decide (c.since + h.wait ≤ h.now) = _
      rw [decide_eq_decide]
      omega
    rw [e] at k
    exact k
/-! ### nobody answers -/
def sp_nobody_answers (K : PySem.W.Frag) (C : Cs) : Sp := fun vs H Q _ => ∃ (L : Lay) (h : Te.Hall) (b : Addr) (p : Nat) (c : Te.Call_), vs = [.ref L.ex, .ref b] ∧ Rep C H L h ∧ Tells L h ∧ WF h ∧ L.call[p]? = some b ∧ h.calls[p]? = some c ∧ isDue h c ∧
  ∀ H' L', Rep C H' L' (Te.overdue h c.from_) → Tells L' (Te.overdue h c.from_) → Stp H L H' L' → (∃ m, L'.call = L.call.eraseIdx p ++ m) → Q (iv ((Te.overdue h c.from_).moved - h.moved)) H'
theorem cal_nobody_answers (T : Txt K mg C) : Cal P w K mg base 6 "nobody_answers" (sp_nobody_answers K C) := by
  refine T.d_nobody_answers.cal sc_nobody_answers (fun vs H Q E h => ?_) (fun f cdv A outer s H vs Q E hr h => ⟨_, (pss_cons (ps_expr (pe_c (cal_end_ringing T) hr (by decide) rfl (pa_cons (pv 0) (pa_cons (pv 1) pa_nil))))
    (pss_cons (ps_set (i := 2) sc_nobody_answers.nd rfl (Or.inl rfl) (pe_ix ix_list (pe_fld (pe_ix ix_list (pe_fld (pv 0) rfl) (pe_fld (pv 1) rfl) (fun _ _ => rfl)) rfl) (pe_gi rfl T.k_WHEN_UNANSWERED) (fun _ _ => rfl)))
    (pss_cons (ps_if (pt_cmpR op_eq (pe_callB call_len_seq (by rfl) T.n_len PySem.boot_len (pa_cons (pv 2) pa_nil)) pe_int (nomark _))
      (pss_cons (ps_expr (pe_c (cal_give_tone T) hr (by decide) rfl (pa_cons (pe_ix ix_list (pe_fld (pv 0) rfl) (pe_fld (pv 1) rfl) (fun _ _ => rfl)) pa_nil)))
    (pss_one (ps_ret pe_int)))
      pss_nil)
    (pss_one (ps_ret (pe_c (cal_try_number T) hr (by decide) rfl (pa_cons (pv 0) (pa_cons (pe_fld (pv 1) rfl) (pa_cons (pe_fld (pv 1) rfl) (pa_cons (pv 2) (pa_cons (pe_op op_add (pe_fld (pv 1) rfl) pe_int) pa_nil))))))))))), ?_⟩)
  · obtain ⟨L, h, b, p, c, rfl, _⟩ := h
    rfl
  obtain ⟨L, h, b, p, c, rfl, R, Tl, W, hb, hc, due, k⟩ := h
  have B := W.base
  have mc := List.mem_of_getElem? hc
  have co := B.calls c mc
  obtain ⟨lg, hlg⟩ := R.legAt hb
  obtain ⟨dxc, na, h1, h2⟩ := (R.calls p b c lg hb hc hlg).ex
  have od := overdue_due B mc due
  obtain ⟨B2, O2⟩ := late_base W mc due.1
  have fl : c.from_ < h.lines.length := by rw [B.len]; exact co.f
  have tl : c.to_ < h.lines.length := by rw [B.len]; exact co.t
  have sf : L.st c.from_ = 3 := (Tl c.from_ fl).trans (stage_from W mc due.1)
  refine ⟨_, rfl, _, rfl, L, h, b, p, c, rfl, R, B, hb, hc, fun H1 R1 st1 hb1 => ?_⟩
  have hb1 := hb1.trans h1
  have h21 := st1.dig h2
  have oth : ∀ j, j < h.lines.length → j ≠ c.from_ → (if j = c.to_ then 0 else L.st j) = Te.stageNo (lateOf h c) j := fun j hj nj => by
    rw [late_other B mc nj, Tl j hj]
  have sfl : (if c.from_ = c.to_ then 0 else L.st c.from_) = 3 := by rw [if_neg co.ne, sf]
  obtain ⟨dxe, hxe⟩ := R1.ex
  obtain ⟨a, d, ha, hd, q⟩ := R1.lineAt (i := c.to_) (by rw [late_len]; exact tl)
  obtain ⟨dx1, nv, dl, d0, a0, a1, a2, cv, g1, g2, g3, g4, g5, g6, g7, g8, g9⟩ := q.ex
  rw [late_late B mc] at g8
  -- to what it's handed on
  refine ⟨_, rfl, L.ex, _, dxe, _, _, rfl, hxe, T.cl_Exchange, T.na_Exchange_lines, exF_lines _ _, _, rfl, b, _, dxc, _, _, rfl, hb1, T.cl_Call, T.na_Call_called, callF_called, L.ls, _, c.to_, _, rfl, rfl, SqL.of R1.ls, at_of (j := c.to_) rfl (Rep.line_get (H := H) (h := h) ha), a, _, dx1, _, _, rfl, g1, T.cl_Line, T.na_Line_hands, lineF_hands, d, _, 2, _, rfl, rfl, SqL.of g5, at_of (j := 2) rfl rfl, ?_⟩
  refine ⟨_, rfl, a2, _, rfl, .inl g8.sq, rfl, _, rfl, ?_⟩
  obtain ⟨a3, d3, ha3, hd3, q3⟩ := R1.lineAt (i := c.from_) (by rw [late_len]; exact fl)
  obtain ⟨dx3, nv3, dl3, d03, a03, a13, a23, cv3, f1, f2, f3, f4, f5, f6, f7, f8, f9⟩ := q3.ex
  have k3 : L.kind a3 = 6 := R.kline a3 (List.mem_of_getElem? ha3)
  cases el : (Te.lineOf h c.to_).late with
  | none =>
    rw [el] at g8 od
    refine if_t (decide_eq_true rfl) ?_
    refine ⟨_, rfl, L.ex, _, dxe, _, _, rfl, hxe, T.cl_Exchange, T.na_Exchange_lines, exF_lines _ _, _, rfl, b, _, dxc, _, _, rfl, hb1, T.cl_Call, T.na_Call_caller, callF_caller, L.ls, _, c.from_, _, rfl, rfl, SqL.of R1.ls, at_of (j := c.from_) rfl (Rep.line_get (H := H) (h := h) ha3), a3, dx3, _, nv3, dl3, d3, cv3, _, rfl, f1, ?_⟩
    have R2 := R1.line (l' := { Te.lineOf (lateOf h c) c.from_ with stage := .tone }) (sn := 4) (dx := dx3) (cv := .non) ha3 hd3 rfl rfl rfl f2 f3 (fun d e => by cases e) ⟨fun k c e => (by cases e), fun _ => rfl⟩
    rw [od] at k
    have e0 : (Te.staged (lateOf h c) c.from_ .tone).moved - h.moved = 0 := Nat.sub_self h.moved
    rw [e0] at k
    refine k _ _ R2 (tells_set (by rw [late_len]; exact fl) (fun j hj nj => ?_) (stageNo_tone (by rw [late_len]; exact fl)).symm) (st1.trans ⟨(Stp.upd (L := { L with call := L.call.eraseIdx p, st := fun j => if j = c.to_ then 0 else L.st j }) (by show L.kind a3 % 10 ≠ 0; rw [k3]; decide)).keep, rfl, rfl⟩) ⟨[], (List.append_nil _).symm⟩
    rw [late_len] at hj
    exact oth j hj nj
  | some e =>
    rw [el] at g8 od
    have ne : e ≠ [] := fun z => by
      have := (B.lineOk c.to_).late e el
      rw [z] at this
      cases this
    have le : (ivs e).length ≠ 0 := by
      rw [List.length_map]
      exact fun z => ne (List.eq_nil_of_length_eq_zero z)
    refine if_f ((dec_iv (ivs e).length 0).trans (decide_eq_false le)) ?_
    -- who called hears the tone, as far as it's told
    have R2 : Rep C (upd H1 a3 (.ins C.c_Line dx3 (lineF (if c.from_ = c.to_ then 0 else L.st c.from_) nv3 dl3 d3 cv3 (Te.lineOf (lateOf h c) c.from_).owes))) _ (Te.staged (lateOf h c) c.from_ .tone) := R1.line (l' := { Te.lineOf (lateOf h c) c.from_ with stage := .tone }) (sn := if c.from_ = c.to_ then 0 else L.st c.from_) (dx := dx3) (cv := cv3) ha3 hd3 rfl rfl rfl f2 f3 (fun d e => by cases e) ⟨fun k c e => (by cases e), fun z => by rw [sfl] at z; omega⟩
    rw [upd_self f1] at R2
    have W2 : WF (Te.staged (lateOf h c) c.from_ .tone) := staged_wf B2 O2 nofun nofun
    have et := staged_tried (h := lateOf h c) (x := c.from_) (s := .tone) (dl := c.dialed) (by rw [late_len]; exact fl) (5 - c.hops) e
    have h5 : c.hops ≤ 5 := co.hops
    have ef : 6 - (c.hops + 1) = 5 - c.hops := by omega
    have sz : (lateOf h c).size = h.size := rfl
    refine ⟨_, rfl, _, rfl, b, _, dxc, _, _, rfl, hb1, T.cl_Call, T.na_Call_caller, callF_caller, _, rfl, b, _, dxc, _, _, rfl, hb1, T.cl_Call, T.na_Call_number, callF_number, _, rfl, _, rfl, b, _, dxc, _, _, rfl, hb1, T.cl_Call, T.na_Call_handed_on, callF_handed, _, _, rfl, rfl, ?_⟩
    refine ⟨{ L with call := L.call.eraseIdx p, st := fun j => if j = c.from_ then (if c.from_ = c.to_ then 0 else L.st c.from_) else if j = c.to_ then 0 else L.st j }, Te.staged (lateOf h c) c.from_ .tone, c.from_, na, a2, c.dialed, e, c.hops + 1, rfl, R2, W2.base, h21, g8, co.num, W2.on.imp (fun _ q => q.elim) (fun y q => by subst q; exact O2.off c.from_ rfl), co.f, ⟨fun j hj nj => ?_, ?_⟩, ?_, by omega, fun H3 L3 R3 T3 st3 m3 => ?_⟩
    · rw [staged_len, late_len] at hj
      show (if j = c.from_ then (if c.from_ = c.to_ then 0 else L.st c.from_) else if j = c.to_ then 0 else L.st j) = _
      rw [if_neg nj, oth j hj nj]
      exact (stageNo_set nj).symm
    · show (if c.from_ = c.from_ then (if c.from_ = c.to_ then 0 else L.st c.from_) else if c.from_ = c.to_ then 0 else L.st c.from_) ≠ 0
      rw [if_pos rfl, sfl]
      decide
    · rw [lineOf_staged (by rw [late_len]; exact fl), if_pos rfl]
      exact fun z => by cases z
    · rw [ef, et] at R3 T3 ⊢
      have od : Te.overdue h c.from_ = Te.tried c.from_ c.dialed (5 - c.hops) (lateOf h c) e := od
      rw [← od] at R3 T3 ⊢
      exact k _ _ R3 T3 (st1.trans ⟨fun q o hq kq => st3.keep q o hq kq, st3.ex, st3.line⟩) m3
end
end Tx
end
section
namespace Tx
open PySem PySem.Spec PyProof.Rows L2
theorem erase_get {α : Type} {l : List α} {k j : Nat} (ne : j ≠ k) : (l.eraseIdx k)[if j < k then j else j - 1]? = l[j]? := by
  rw [List.getElem?_eraseIdx]
  by_cases c : j < k
  · rw [if_pos c, if_pos c]
  · rw [if_neg c, if_neg (by omega), show j - 1 + 1 = j by omega]
theorem overdue_calls {h : Te.Hall} (B : Base h) {k : Nat} {c : Te.Call_} (hk : h.calls[k]? = some c) (due : isDue h c) : ∃ m, (Te.overdue h c.from_).calls = h.calls.eraseIdx k ++ m := by
  have e0 : (lateOf h c).calls = h.calls.eraseIdx k := calls_without B hk
  rw [overdue_due B (List.mem_of_getElem? hk) due]
  split
  · rename_i e _
    obtain ⟨m, em⟩ := (tried_goes (x := c.from_) (dl := c.dialed) (Te.HOPS - c.hops) (lateOf h c) e).calls
    exact ⟨m, by rw [em, e0]⟩
  · exact ⟨[], by rw [List.append_nil]; exact e0⟩
theorem calls64 {h : Te.Hall} (B : Base h) : h.calls.length ≤ 64 := by
  have l1 : h.calls.length ≤ h.lines.length := by
    rw [B.len, ← List.length_map (f := fun (q : Te.Call_) => q.from_)]
    have := (from_nodup B).length_le_of_subset (l₂ := List.range h.size.lines) fun y hy => by
      obtain ⟨c, hc, rfl⟩ := List.mem_map.mp hy
      exact List.mem_range.mpr (B.calls c hc).f
    rw [List.length_range] at this
    exact this
  have := B.lines64
  omega
theorem exF_putTime (L : Lay) (h : Te.Hall) (t : Nat) : putF "time" (iv t) (exF L h) = exF L { h with now := t } := by
  unfold exF
  rw [put_past (by decide +kernel), put_past (by decide +kernel), put_past (by decide +kernel), put_past (by decide +kernel), put_past (by decide +kernel), put_past (by decide +kernel), put_past (by decide +kernel), put_past (by decide +kernel), put_here]
/-- the calls that are due, each with its place -/
def dueE (L : Lay) (h : Te.Hall) (i : Nat) : List (Addr × Te.Call_) := ((L.call.zip h.calls).take i).filter fun q => dueB h q.2
theorem dueE_all {L : Lay} {h : Te.Hall} (e : L.call.length = h.calls.length) : (dueE L h L.call.length).map (·.2) = h.calls.filter (dueB h) := by
  unfold dueE
  have e1 : (L.call.zip h.calls).take L.call.length = L.call.zip h.calls := List.take_of_length_le (by rw [List.length_zip, e]; omega)
  rw [e1]
  have e2 : (L.call.zip h.calls).map (·.2) = h.calls := List.map_snd_zip (by omega)
  have e3 : (L.call.zip h.calls).filter (fun q => dueB h q.2) = (L.call.zip h.calls).filter (dueB h ∘ (·.2)) := rfl
  rw [e3, ← List.filter_map, e2]
theorem dueE_at {L : Lay} {h : Te.Hall} {i j : Nat} {q : Addr × Te.Call_} (hq : (dueE L h i)[j]? = some q) : (∃ k : Nat, L.call[k]? = some q.1 ∧ h.calls[k]? = some q.2) ∧ dueB h q.2 = true := by
  have m := List.mem_filter.mp (List.mem_of_getElem? hq)
  refine ⟨?_, m.2⟩
  obtain ⟨k, hk⟩ := List.mem_iff_getElem?.mp (List.mem_of_mem_take m.1)
  rw [List.getElem?_zip_eq_some] at hk
  exact ⟨k, hk.1, hk.2⟩
theorem dueE_step {L : Lay} {h : Te.Hall} {i : Nat} {a : Addr} {c : Te.Call_} (ha : L.call[i]? = some a) (hc : h.calls[i]? = some c) : dueE L h (i + 1) = if dueB h c = true then dueE L h i ++ [(a, c)] else dueE L h i := by
  unfold dueE
  have hz : (L.call.zip h.calls)[i]? = some (a, c) := by
    rw [List.getElem?_zip_eq_some]
    exact ⟨ha, hc⟩
  rw [take_snoc hz, List.filter_append]
  cases e : dueB h c with
  | true => rw [List.filter_cons_of_pos (by exact e), if_pos rfl]; rfl
  | false => rw [List.filter_cons_of_neg (by rw [e]; exact Bool.false_ne_true), if_neg (by decide), List.filter_nil, List.append_nil]
section
variable {P : Program} {w : World} {K : PySem.W.Frag} {mg : Str → Option Value} {base : Heap} {C : Cs}
def sp_pass_time (K : PySem.W.Frag) (C : Cs) : Sp := fun vs H Q _ => ∃ (L : Lay) (h : Te.Hall) (rq : Addr) (t : Nat), vs = [.ref L.ex, .ref rq] ∧ Rep C H L h ∧ Tells L h ∧ WF h ∧ ReqAt C H L rq 11 [t] [] ∧ Ans C H L h (.tick t) Q
theorem cal_pass_time (T : Txt K mg C) : Cal P w K mg base 7 "pass_time" (sp_pass_time K C) := by
  refine T.d_pass_time.cal sc_pass_time (fun vs H Q E h => ?_) (fun f cdv A outer s H vs Q E hr h => ⟨_, (pss_cons (ps_set (i := 2) sc_pass_time.nd rfl (Or.inl rfl) (pe_ix ix_list (pe_fld (pv 1) rfl) pe_int (fun _ _ => rfl)))
    (pss_cons (ps_if (pt_cmpR op_lt (pv 2) (pe_fld (pv 0) rfl) (nomark _))
      (pss_one (ps_ret (pe_lst (pa_cons (pe_gi rfl T.k_NOT_NOW) pa_nil))))
      pss_nil)
    (pss_cons (ps_fld (pv 0) (pv 2) rfl)
    (pss_cons (ps_setLc (i := 4) (own := [("call", 3)]) (g := (gName 3)) (tt := (tB (tCall (sp_rang_too_long K C) [] E0 (tCons (tVar 0) (tCons (tVar 3) tNil))))) (te := (tVar 3)) rfl sc_pass_time.nd rfl rfl (sw_true rfl rfl rfl (by decide +kernel)) (pi_list (pe_fld (pv 0) rfl)) (blkOk_by (N := ["exchange", "request", "time", "call", "unanswered", "moved"]) (sc := defScope s_pass_time) (by decide +kernel)) (fun _ _ _ _ _ => (pg_name (i := 3) sc_pass_time.nd rfl (Or.inl rfl))) (fun _ _ _ _ _ => (pts_one (pt_val (pe_c (cal_rang_too_long T) hr (by decide) rfl (pa_cons (pv 0) (pa_cons (pv 3) pa_nil)))))) (fun _ _ _ _ _ => (pv 3)))
    (pss_cons (ps_set (i := 5) sc_pass_time.nd rfl (Or.inl rfl) pe_int)
    (pss_cons (ps_for PassesOwn.never rfl (pi_list (pv 4)) (pg_name (i := 3) sc_pass_time.nd rfl (Or.inl rfl))
      (pss_one (ps_aug (i := 5) sc_pass_time.nd rfl (Or.inl rfl) (pe_c (cal_nobody_answers T) hr (by decide) rfl (pa_cons (pv 0) (pa_cons (pv 3) pa_nil))) ip_add)))
    (pss_one (ps_ret (pe_lst (pa_cons pe_int (pa_cons (pv 5) pa_nil))))))))))), ?_⟩)
  · obtain ⟨L, h, rq, t, rfl, _⟩ := h
    rfl
  obtain ⟨L, h, rq, t, rfl, R, Tl, W, q, k⟩ := h
  obtain ⟨dxe, hxe⟩ := R.ex
  obtain ⟨dxr, na, ra, rs, hq1, hq2, hq3, hq4, hq5⟩ := q.ex
  refine ⟨_, rfl, rq, _, dxr, _, _, rfl, hq1, T.cl_Request, T.na_Request_numbers, reqF_numbers, na, _, 0, _, rfl, rfl, hq2.sq, at_of (j := 0) rfl rfl, ?_⟩
  refine ⟨_, rfl, _, rfl, L.ex, _, dxe, _, _, rfl, hxe, T.cl_Exchange, T.na_Exchange_time, exF_time L h, _, _, rfl, rfl, _, rfl, ?_⟩
  by_cases c1 : t < h.now
  · refine if_t (decide_eq_true (by omega)) (k.no R Tl (z := -5) ?_ (Same.refl H))
    dsimp only [Te.stepOn]
    rw [if_pos c1]
    rfl
  refine if_f (decide_eq_false (by omega)) ?_
  have W1 : WF { h with now := t } := later_ok W (by omega)
  have R1 : Rep C (upd H L.ex (.ins C.c_Exchange dxe (exF L { h with now := t }))) L { h with now := t } := R.setEx (dx := dxe) (t := h.wait) (n := t) (mv := h.moved)
  have T1 : Tells L { h with now := t } := Tl
  have st1 : Stp H L (upd H L.ex (.ins C.c_Exchange dxe (exF L { h with now := t }))) L := Stp.upd (by rw [R.kex]; decide)
  have td := ticked_due (h := h) (t := t) W1
  have step : Te.stepOn h (.tick t) = (Te.ticked h t, Te.tells 0 [(Te.ticked h t).moved - h.moved]) := by
    dsimp only [Te.stepOn]
    rw [if_neg c1]
  refine ⟨_, rfl, _, rfl, L.ex, _, dxe, _, rfl, hxe, T.cl_Exchange, T.na_Exchange_time, (by show 10 < 1000; decide), ?_⟩
  rw [exF_putTime]
  obtain ⟨dxe1, hxe1⟩ := R1.ex
  have hm : ({ h with now := t } : Te.Hall).moved = h.moved := rfl
  have hcalls : ({ h with now := t } : Te.Hall).calls = h.calls := rfl
  generalize ({ h with now := t } : Te.Hall) = h1 at R1 T1 W1 st1 td hxe1 hm hcalls ⊢
  generalize upd H L.ex (.ins C.c_Exchange dxe (exF L h1)) = H1 at R1 st1 hxe1 ⊢
  have B1 := W1.base
  have l64 := calls64 B1
  -- those that are due
  refine ⟨_, rfl, L.ex, _, dxe1, _, _, rfl, hxe1, T.cl_Exchange, T.na_Exchange_calls, exF_calls L h1, L.cs, rfl, ⟨_, SqL.of R1.cs⟩, fun D hD => lc_gen (acc := fun i => (dueE L h1 i).map fun q => V.ref q.1) (SqL.of R1.cs) hD rfl (fun i hi => ?_) (fun i x H2 Y Nn hx s2 fy fn => ?_) (fun H2 s2 hD2 => ?_)⟩
  · rw [List.length_map]
    refine Nat.lt_of_le_of_lt (Nat.le_trans (List.length_filter_le _ _) ?_) (show 64 < sizeLine by decide)
    rw [List.length_take, List.length_zip, R1.cl]
    omega
  · obtain ⟨a, ha, rfl⟩ := refs_get hx
    have hi : i < h1.calls.length := by
      rw [← R1.cl]
      exact (List.getElem?_eq_some_iff.mp ha).1
    have hc := List.getElem?_eq_getElem hi
    have es := dueE_step ha hc
    refine ⟨_, rfl, _, rfl, L, h1, a, i, h1.calls[i], rfl, R1.same s2, T1, W1, ha, hc, _, rfl, ?_⟩
    refine if_b (fun c => ⟨_, rfl, fy _ _ (Same.refl _) ?_⟩) (fun c => fn _ (Same.refl _) ?_)
    · show (dueE L h1 (i + 1)).map (fun q => V.ref q.1) = (dueE L h1 i).map (fun q => V.ref q.1) ++ [V.ref a]
      rw [es, if_pos c, List.map_append]
      rfl
    · show (dueE L h1 (i + 1)).map (fun q => V.ref q.1) = (dueE L h1 i).map (fun q => V.ref q.1)
      rw [es, if_neg (by rw [c]; decide)]
  rw [List.length_map] at hD2
  have ea := dueE_all R1.cl
  rw [hcalls] at ea
  rw [← ea] at td
  have inE : ∀ {j : Nat} {q : Addr × Te.Call_}, (dueE L h1 L.call.length)[j]? = some q → (∃ k : Nat, L.call[k]? = some q.1 ∧ h1.calls[k]? = some q.2) ∧ dueB h1 q.2 = true := fun hq => dueE_at hq
  have ndE : ((dueE L h1 L.call.length).map fun q => q.2.from_).Nodup := by
    have e : ((dueE L h1 L.call.length).map fun q => q.2.from_) = ((dueE L h1 L.call.length).map (·.2)).map (·.from_) := by
      rw [List.map_map]
      rfl
    rw [e, ea, ← hcalls]
    exact (from_nodup B1).sublist (List.Sublist.map _ List.filter_sublist)
  generalize dueE L h1 L.call.length = E at hD2 td inE ndE
  have mem : ∀ (i : Nat), ∀ c ∈ (E.take i).map (·.2), c ∈ h1.calls := fun i c hc => by
    obtain ⟨q, hq, rfl⟩ := List.mem_map.mp hc
    obtain ⟨j, hj⟩ := List.mem_iff_getElem?.mp (List.mem_of_mem_take hq)
    obtain ⟨⟨k, _, hk⟩, _⟩ := inE hj
    exact List.mem_of_getElem? hk
  have nds : ∀ i : Nat, (((E.take i).map (·.2)).map (·.from_)).Nodup := fun i => by
    rw [List.map_map]
    exact ndE.sublist (List.Sublist.map _ (List.take_sublist i E))
  have lk := fun i => late_keeps W1 ((E.take i).map (·.2)) (mem i) (nds i)
  have R2 := R1.same s2
  have kD : L.kind D = 0 := R1.kfree D hD
  refine ⟨_, rfl, D, rfl, ⟨_, SqL.of hD2⟩, for_list (xs := E.map fun q => V.ref q.1)
    (fun i σ H' => ∃ (L' : Lay) (u : Option V), σ = [some (.ref L.ex), some (.ref rq), some (iv t), u, some (.ref D), some (iv ((lateTo h1 ((E.take i).map (·.2))).moved - h.moved))] ∧ Rep C H' L' (lateTo h1 ((E.take i).map (·.2))) ∧ Tells L' (lateTo h1 ((E.take i).map (·.2))) ∧ Stp H L H' L' ∧
      (H' D = some (.lst (E.map fun q => V.ref q.1)) ∧ L'.kind D = 0) ∧ ∀ (j : Nat) q, i ≤ j → E[j]? = some q → ∃ k : Nat, L'.call[k]? = some q.1 ∧ (lateTo h1 ((E.take i).map (·.2))).calls[k]? = some q.2)
    ⟨L, none, ?_, R2, T1, st1.trans (Stp.of_same L s2), ⟨hD2, kD⟩, fun j q _ hq => (inE hq).1⟩ (fun i σ H' _ ⟨_, _, _, _, _, _, z, _⟩ => SqL.of z.1) ?_ ?_⟩
  · show _ = [some (V.ref L.ex), some (.ref rq), some (iv t), none, some (.ref D), some (iv (h1.moved - h.moved))]
    rw [hm, Nat.sub_self]
    rfl
  · rintro i v σ H3 hv ⟨L3, u, rfl, R3, T3, st3, hD3, at3⟩
    rw [List.getElem?_map] at hv
    cases eq : E[i]? with
    | none => rw [eq] at hv; cases hv
    | some q =>
      rw [eq] at hv
      obtain rfl : V.ref q.1 = v := Option.some.inj hv
      obtain ⟨kx, k1, k2⟩ := at3 i q (Nat.le_refl _) eq
      obtain ⟨e1, e2, e3, e4, _⟩ := lk i
      obtain ⟨_, du⟩ := inE eq
      have due : isDue (lateTo h1 ((E.take i).map (·.2))) q.2 := by
        obtain ⟨d1, d2⟩ := dueB_iff.mp du
        refine ⟨d1, ?_⟩
        rw [e1, e2]
        exact d2
      have W3 := lateTo_ok W1 ((E.take i).map (·.2))
      have et : lateTo h1 ((E.take (i + 1)).map (·.2)) = Te.overdue (lateTo h1 ((E.take i).map (·.2))) q.2.from_ := by
        rw [take_snoc eq, List.map_append]
        exact lateTo_snoc ..
      have mv := (overdue_same W3.base (List.mem_of_getElem? k2)).2.2.1
      obtain ⟨mm, em⟩ := overdue_calls W3.base k2 due
      rw [← et] at mv em
      rw [hm] at e3
      refine ⟨_, rfl, _, rfl, _, rfl, L3, _, q.1, kx, q.2, by rw [st3.ex]; rfl, R3, T3, W3, k1, k2, due, fun H4 L4 R4 T4 st4 m4 => ?_⟩
      obtain ⟨m4, em4⟩ := m4
      rw [← et] at R4 T4 ⊢
      refine ⟨_, _, rfl, rfl, L4, some (.ref q.1), ?_, R4, T4, st3.trans st4, ?_, fun j q' hj hq' => ?_⟩
      · have ei : ((((lateTo h1 ((E.take i).map (·.2))).moved - h.moved : Nat) : Int) + ((((lateTo h1 ((E.take (i + 1)).map (·.2))).moved - (lateTo h1 ((E.take i).map (·.2))).moved : Nat)) : Int)) = (((lateTo h1 ((E.take (i + 1)).map (·.2))).moved - h.moved : Nat) : Int) := by omega
        show [some (V.ref L.ex), some (.ref rq), some (iv t), some (.ref q.1), some (.ref D), some (V.int ((((lateTo h1 ((E.take i).map (·.2))).moved - h.moved : Nat) : Int) + ((((lateTo h1 ((E.take (i + 1)).map (·.2))).moved - (lateTo h1 ((E.take i).map (·.2))).moved : Nat)) : Int)))] = _
        rw [ei]
      · obtain ⟨g1, g2⟩ := st4.keep _ _ hD3.1 (by rw [hD3.2])
        exact ⟨g1, g2.trans hD3.2⟩
      · obtain ⟨kj, j1, j2⟩ := at3 j q' (by omega) hq'
        have nk : kj ≠ kx := fun e => by
          rw [e, k2] at j2
          have ej : (E.map fun q => q.2.from_)[j]? = (E.map fun q => q.2.from_)[i]? := by
            rw [List.getElem?_map, List.getElem?_map, hq', eq]
            show some q'.2.from_ = some q.2.from_
            rw [Option.some.inj j2]
          have lt : j < (E.map fun q => q.2.from_).length := by
            rw [List.length_map]
            exact (List.getElem?_eq_some_iff.mp hq').1
          have := (List.getElem?_inj lt ndE).mp ej
          omega
        refine ⟨if kj < kx then kj else kj - 1, ?_, ?_⟩
        · rw [em4, List.getElem?_append_left, erase_get nk]
          · exact j1
          · have := erase_get (l := L3.call) nk
            rw [j1] at this
            exact (List.getElem?_eq_some_iff.mp this).1
        · rw [em, List.getElem?_append_left, erase_get nk]
          · exact j2
          · have := erase_get (l := (lateTo h1 ((E.take i).map (·.2))).calls) nk
            rw [j2] at this
            exact (List.getElem?_eq_some_iff.mp this).1
  · rintro σ H3 ⟨L3, u, rfl, R3, T3, st3, hD3, at3⟩
    rw [List.length_map, List.take_length, ← td] at R3 T3
    rw [List.length_map, List.take_length, ← td]
    exact ⟨_, rfl, k.list step R3 T3 st3 rfl (by show 2 ≤ sizeLine; decide)⟩
end
end Tx
end
section
namespace Tx
open PySem PySem.Spec PyProof.Rows L2
/-! ### a call and its way -/
theorem leg_call {h : Te.Hall} (B : Base h) {p : Nat} {c : Te.Call_} {x : Te.Leg} (hc : h.calls[p]? = some c) (hx : h.legs[p]? = some x) : x.from_ = c.from_ ∧ x.to_ = c.to_ := by
  have e1 := congrArg (fun z => z[p]?) (legs_from B)
  have e2 := congrArg (fun z => z[p]?) (legs_to B)
  simp only [List.getElem?_map, hc, hx, Option.map_some, Option.some.injEq] at e1 e2
  exact ⟨e1, e2⟩
theorem legOf_at {h : Te.Hall} (B : Base h) {p : Nat} {c : Te.Call_} {x : Te.Leg} (hc : h.calls[p]? = some c) (hx : h.legs[p]? = some x) : Te.legOf h c.from_ = some x := by
  obtain ⟨e1, _⟩ := leg_call B hc hx
  refine find_at hx (by rw [e1]; exact beq_self_eq_true _) fun j y hj hy => ?_
  refine beq_eq_false_iff_ne.mpr fun e => ?_
  have ej : (h.legs.map (·.from_))[j]? = (h.legs.map (·.from_))[p]? := by
    rw [List.getElem?_map, List.getElem?_map, hy, hx]
    show some y.from_ = some x.from_
    rw [e, e1]
  have lt : j < (h.legs.map (·.from_)).length := by
    rw [List.length_map]
    exact (List.getElem?_eq_some_iff.mp hy).1
  have := (List.getElem?_inj lt (nodup_from B)).mp ej
  omega
theorem stage_le {h : Te.Hall} {x : Nat} : Te.stageNo h x ≤ 5 := by
  unfold Te.stageNo
  split
  · omega
  · omega
  · omega
  · split
    · omega
    · split
      · omega
      · split <;> omega
section
variable {P : Program} {w : World} {K : PySem.W.Frag} {mg : Str → Option Value} {base : Heap} {C : Cs}
/-- an answer that changes nothing -/
theorem Ans.tell {H : Hp} {L : Lay} {h : Te.Hall} {cl : Te.Call} {Q : VK} (k : Ans C H L h cl Q) (R : Rep C H L h) (Tl : Tells L h) {A : Te.Answer} (e : Te.stepOn h cl = (h, A)) {vs : List V} (ev : ansV A = vs) (len : vs.length ≤ sizeLine) {H1 : Hp} (s : Same H H1) :
    vs.length ≤ sizeLine ∧ ∀ p, H1 p = none → Q (.ref p) (upd H1 p (.lst vs)) := k.list e (R.same s) Tl (Stp.of_same L s) ev len
def sp_look_at_line (K : PySem.W.Frag) (C : Cs) : Sp := fun vs H Q _ => ∃ (L : Lay) (h : Te.Hall) (rq : Addr) (x : Nat), vs = [.ref L.ex, .ref rq] ∧ Rep C H L h ∧ Tells L h ∧ WF h ∧ ReqAt C H L rq 12 [x] [] ∧ x < h.size.lines ∧ Ans C H L h (.look x) Q
theorem cal_look_at_line (T : Txt K mg C) : Cal P w K mg base 1 "look_at_line" (sp_look_at_line K C) := by
  refine T.d_look_at_line.cal sc_look_at_line (fun vs H Q E h => ?_) (fun f cdv A outer s H vs Q E hr h => ⟨_, (pss_cons (ps_set (i := 2) sc_look_at_line.nd rfl (Or.inl rfl) (pe_ix ix_list (pe_fld (pv 0) rfl) (pe_ix ix_list (pe_fld (pv 1) rfl) pe_int (fun _ _ => rfl)) (fun _ _ => rfl)))
    (pss_cons (ps_if (pt_cmpR op_eq (pe_fld (pv 2) rfl) (pe_gi rfl T.k_DIALS) (nomark _))
      (pss_one (ps_ret (pe_op op_cat (pe_lst (pa_cons (pe_gi rfl T.k_DIALS) pa_nil)) (pe_fld (pv 2) rfl))))
      pss_nil)
    (pss_cons (ps_set (i := 3) sc_look_at_line.nd rfl (Or.inl rfl) (pe_fld (pv 2) rfl))
    (pss_cons (ps_if (pt_cmp (pc_isN (pv 3)))
      (pss_one (ps_ret (pe_lst (pa_cons (pe_fld (pv 2) rfl) pa_nil))))
      pss_nil)
    (pss_one (ps_ret (pe_lst (pa_cons (pe_fld (pv 2) rfl) (pa_cons (pe_fld (pv 3) rfl) (pa_cons (pe_fld (pv 3) rfl) (pa_cons (pe_fld (pv 3) rfl) (pa_cons (pe_fld (pv 3) rfl) (pa_cons (pe_fld (pv 3) rfl) pa_nil))))))))))))), ?_⟩)
  · obtain ⟨L, h, rq, x, rfl, _⟩ := h
    rfl
  obtain ⟨L, h, rq, x, rfl, R, Tl, W, q, hx, k⟩ := h
  have B := W.base
  obtain ⟨dxe, hxe⟩ := R.ex
  obtain ⟨dxr, na, ra, rs, hq1, hq2, hq3, hq4, hq5⟩ := q.ex
  have xl : x < h.lines.length := by rw [B.len]; exact hx
  have nx : ¬ h.size.lines ≤ x := Nat.not_le_of_lt hx
  obtain ⟨a, b, ha, hb, ql⟩ := R.lineAt xl
  obtain ⟨dx1, nv, dl, d0, a0, a1, a2, cv, h1, h2, h3, h4, h5, h6, h7, h8, h9⟩ := ql.ex
  have sx := Tl x xl
  have dl_ : ∀ n : Nat, decide (iv (L.st x) = iv n) = decide (L.st x = n) := fun n => dec_iv (L.st x) n
  refine ⟨_, rfl, L.ex, _, dxe, _, _, rfl, hxe, T.cl_Exchange, T.na_Exchange_lines, exF_lines L h, _, rfl, rq, _, dxr, _, _, rfl, hq1, T.cl_Request, T.na_Request_numbers, reqF_numbers, na, _, 0, _, rfl, rfl, hq2.sq, at_of (j := 0) rfl rfl, L.ls, _, x, _, rfl, rfl, SqL.of R.ls, at_of (j := x) rfl (Rep.line_get (H := H) (h := h) ha), ?_⟩
  refine ⟨_, rfl, a, _, dx1, _, _, rfl, h1, T.cl_Line, T.na_Line_state, lineF_state, rfl, _, rfl, ?_⟩
  by_cases c1 : L.st x = 1
  · refine if_t ((dl_ 1).trans (decide_eq_true c1)) ?_
    obtain ⟨d, hd⟩ := stage1 (sx.symm.trans c1)
    have ed := h4 d hd
    subst ed
    have dig : Te.isDigits d0 = true := (B.lineOk x).dials d0 hd
    have len8 : d0.length ≤ 8 := by
      unfold Te.isDigits at dig
      rw [Bool.and_eq_true] at dig
      exact of_decide_eq_true dig.1
    refine ⟨by show 1 ≤ sizeLine; decide, fun p1 hp1 => ?_⟩
    have s1 := same_new (o := .lst [V.int 1]) hp1
    refine ⟨_, rfl, a, _, dx1, _, _, rfl, s1 _ _ h1, T.cl_Line, T.na_Line_dialed, lineF_dialed, p1, dl, _, _, rfl, rfl, upd_same, (h3.same s1).1, ?_, fun p hp => ?_⟩
    · rw [List.length_map]
      show 1 + d0.length ≤ sizeLine
      have : 9 ≤ sizeLine := by decide
      omega
    refine k _ L p h (Te.tells 1 d0) ?_ (R.same (Same.trans s1 (same_new hp))) Tl (Stp.of_same L (Same.trans s1 (same_new hp))) upd_same
    dsimp only [Te.stepOn]
    rw [if_neg nx, hd, ← sx, c1]
    rfl
  refine if_f ((dl_ 1).trans (decide_eq_false c1)) ?_
  refine ⟨_, rfl, a, _, dx1, _, _, rfl, h1, T.cl_Line, T.na_Line_call, lineF_call, ?_⟩
  by_cases c0 : L.st x = 0 ∨ L.st x = 4
  · have ecv := h9.2 c0
    subst ecv
    refine ⟨_, rfl, _, rfl, if_t dec_nn ?_⟩
    refine ⟨_, rfl, a, _, dx1, _, _, rfl, h1, T.cl_Line, T.na_Line_state, lineF_state, ?_⟩
    refine k.tell R Tl (A := Te.tells (Te.stageNo h x : Nat) []) ?_ (by rw [sx]; rfl) (by show 1 ≤ sizeLine; decide) (Same.refl H)
    have off : Te.callOf h x = none := stage_off W hx (by rw [← sx]; omega)
    dsimp only [Te.stepOn]
    rw [if_neg nx, off]
    cases es : (Te.lineOf h x).stage with
    | dials d =>
      exfalso
      apply c1
      rw [sx]
      unfold Te.stageNo
      rw [es]
    | idle => rfl
    | tone => rfl
    | on => rfl
  · have l5 := stage_le (h := h) (x := x)
    rw [← sx] at l5
    obtain ⟨c, mc, ex, ec, on, es⟩ := stage_on W hx (by rw [← sx]; omega)
    obtain ⟨p, hp⟩ := List.mem_iff_getElem?.mp mc
    obtain ⟨b', hb', ecv⟩ := h9.1 p c on hp ex
    subst ecv
    obtain ⟨lg, hlg⟩ := R.legAt hb'
    obtain ⟨dxc, nc, g1, g2⟩ := (R.calls p b' c lg hb' hp hlg).ex
    refine ⟨_, rfl, _, rfl, if_f (dec_ref b') ?_⟩
    refine ⟨_, rfl, a, _, dx1, _, _, rfl, h1, T.cl_Line, T.na_Line_state, lineF_state, _, rfl, b', _, dxc, _, _, rfl, g1, T.cl_Call, T.na_Call_caller, callF_caller, _, rfl, b', _, dxc, _, _, rfl, g1, T.cl_Call, T.na_Call_called, callF_called, _, rfl, b', _, dxc, _, _, rfl, g1, T.cl_Call, T.na_Call_way, callF_way, _, rfl, b', _, dxc, _, _, rfl, g1, T.cl_Call, T.na_Call_handed_on, callF_handed, _, rfl, b', _, dxc, _, _, rfl, g1, T.cl_Call, T.na_Call_rings_since, callF_rings, ?_⟩
    refine k.tell R Tl (A := Te.tells (Te.stageNo h x : Nat) [c.from_, c.to_, lg.mid, c.hops, c.since]) ?_ (by rw [sx]; rfl) (by show 6 ≤ sizeLine; decide) (Same.refl H)
    dsimp only [Te.stepOn]
    rw [if_neg nx, on, ec]
    dsimp only
    rw [legOf_at B hp hlg]
    rfl
/-! ### what it owes, records, counts -/
def sp_tell_owed (K : PySem.W.Frag) (C : Cs) : Sp := fun vs H Q _ => ∃ (L : Lay) (h : Te.Hall) (rq : Addr) (x : Nat), vs = [.ref L.ex, .ref rq] ∧ Rep C H L h ∧ Tells L h ∧ WF h ∧ ReqAt C H L rq 14 [x] [] ∧ x < h.size.lines ∧ Ans C H L h (.owes x) Q
theorem cal_tell_owed (T : Txt K mg C) : Cal P w K mg base 1 "tell_owed" (sp_tell_owed K C) := by
  refine T.d_tell_owed.cal sc_tell_owed (fun vs H Q E h => ?_) (fun f cdv A outer s H vs Q E hr h => ⟨_, (pss_one (ps_ret (pe_lst (pa_cons (pe_fld (pe_ix ix_list (pe_fld (pv 0) rfl) (pe_ix ix_list (pe_fld (pv 1) rfl) pe_int (fun _ _ => rfl)) (fun _ _ => rfl)) rfl) pa_nil)))), ?_⟩)
  · obtain ⟨L, h, rq, x, rfl, _⟩ := h
    rfl
  obtain ⟨L, h, rq, x, rfl, R, Tl, W, q, hx, k⟩ := h
  obtain ⟨dxe, hxe⟩ := R.ex
  obtain ⟨dxr, na, ra, rs, hq1, hq2, hq3, hq4, hq5⟩ := q.ex
  have xl : x < h.lines.length := by rw [W.base.len]; exact hx
  obtain ⟨a, b, ha, hb, ql⟩ := R.lineAt xl
  obtain ⟨dx1, nv, dl, d0, a0, a1, a2, cv, h1, _⟩ := ql.ex
  refine ⟨_, rfl, L.ex, _, dxe, _, _, rfl, hxe, T.cl_Exchange, T.na_Exchange_lines, exF_lines L h, _, rfl, rq, _, dxr, _, _, rfl, hq1, T.cl_Request, T.na_Request_numbers, reqF_numbers, na, _, 0, _, rfl, rfl, hq2.sq, at_of (j := 0) rfl rfl, L.ls, _, x, _, rfl, rfl, SqL.of R.ls, at_of (j := x) rfl (Rep.line_get (H := H) (h := h) ha), a, _, dx1, _, _, rfl, h1, T.cl_Line, T.na_Line_owed, lineF_owed, ?_⟩
  refine k.tell R Tl (A := Te.says ((Te.lineOf h x).owes : Nat)) ?_ rfl (by show 1 ≤ sizeLine; decide) (Same.refl H)
  dsimp only [Te.stepOn]
  rw [if_neg (Nat.not_le_of_lt hx)]
def sp_tell_record (K : PySem.W.Frag) (C : Cs) : Sp := fun vs H Q _ => ∃ (L : Lay) (h : Te.Hall) (rq : Addr) (i : Nat), vs = [.ref L.ex, .ref rq] ∧ Rep C H L h ∧ Tells L h ∧ WF h ∧ ReqAt C H L rq 15 [i] [] ∧ Ans C H L h (.record i) Q
theorem cal_tell_record (T : Txt K mg C) : Cal P w K mg base 1 "tell_record" (sp_tell_record K C) := by
  refine T.d_tell_record.cal sc_tell_record (fun vs H Q E h => ?_) (fun f cdv A outer s H vs Q E hr h => ⟨_, (pss_cons (ps_set (i := 2) sc_tell_record.nd rfl (Or.inl rfl) (pe_ix ix_list (pe_fld (pv 1) rfl) pe_int (fun _ _ => rfl)))
    (pss_cons (ps_if (pt_cmpR op_ge (pv 2) (pe_callB call_len_seq (by rfl) T.n_len PySem.boot_len (pa_cons (pe_fld (pv 0) rfl) pa_nil)) (nomark _))
      (pss_one (ps_ret (pe_lst (pa_cons (pe_gi rfl T.k_NONE_THERE) pa_nil))))
      pss_nil)
    (pss_one (ps_ret (pe_op op_cat (pe_lst (pa_cons pe_int pa_nil)) (pe_ix ix_list (pe_fld (pv 0) rfl) (pv 2) (fun _ _ => rfl))))))), ?_⟩)
  · obtain ⟨L, h, rq, i, rfl, _⟩ := h
    rfl
  obtain ⟨L, h, rq, i, rfl, R, Tl, W, q, k⟩ := h
  obtain ⟨dxe, hxe⟩ := R.ex
  obtain ⟨dxr, na, ra, rs, hq1, hq2, hq3, hq4, hq5⟩ := q.ex
  have rl : (L.recs.map V.ref).length = h.records.length := by rw [List.length_map, R.rc.all.length]
  refine ⟨_, rfl, rq, _, dxr, _, _, rfl, hq1, T.cl_Request, T.na_Request_numbers, reqF_numbers, na, _, 0, _, rfl, rfl, hq2.sq, at_of (j := 0) rfl rfl, ?_⟩
  refine ⟨_, rfl, _, rfl, L.ex, _, dxe, _, _, rfl, hxe, T.cl_Exchange, T.na_Exchange_records, exF_records L h, L.rs, _, rfl, .inl (SqL.of R.rc.at_), _, _, rfl, rfl, _, rfl, ?_⟩
  rw [rl]
  cases er : h.records[i]? with
  | none =>
    have := List.getElem?_eq_none_iff.mp er
    refine if_t (decide_eq_true (by omega)) (k.no R Tl (z := -3) ?_ (Same.refl H))
    dsimp only [Te.stepOn]
    rw [er]
    rfl
  | some r =>
    have := (List.getElem?_eq_some_iff.mp er).1
    refine if_f (decide_eq_false (by omega)) ⟨by show 1 ≤ sizeLine; decide, fun p1 hp1 => ?_⟩
    obtain ⟨b, hb, db⟩ := R.rc.all.get2 er
    have s1 := same_new (o := .lst [V.int 0]) hp1
    have hbr : (L.recs.map V.ref)[i]? = some (.ref b) := by
      rw [List.getElem?_map, hb]
      rfl
    refine ⟨_, rfl, L.ex, _, dxe, _, _, rfl, s1 _ _ hxe, T.cl_Exchange, T.na_Exchange_records, exF_records L h, _, rfl, L.rs, _, i, _, rfl, rfl, SqL.of (s1 _ _ R.rc.at_), at_of (j := i) rfl hbr, p1, b, _, _, rfl, rfl, upd_same, (db.same s1).1, ?_, fun p hp => ?_⟩
    · show 6 ≤ sizeLine
      decide
    refine k _ L p h (Te.tells 0 (recN r)) ?_ (R.same (Same.trans s1 (same_new hp))) Tl (Stp.of_same L (Same.trans s1 (same_new hp))) upd_same
    dsimp only [Te.stepOn]
    rw [er]
def sp_tell_counts (K : PySem.W.Frag) (C : Cs) : Sp := fun vs H Q _ => ∃ (L : Lay) (h : Te.Hall), vs = [.ref L.ex] ∧ Rep C H L h ∧ Tells L h ∧ Ans C H L h .counts Q
theorem cal_tell_counts (T : Txt K mg C) : Cal P w K mg base 1 "tell_counts" (sp_tell_counts K C) := by
  refine T.d_tell_counts.cal sc_tell_counts (fun vs H Q E h => ?_) (fun f cdv A outer s H vs Q E hr h => ⟨_, (pss_one (ps_ret (pe_lst (pa_cons pe_int (pa_cons (pe_callB call_len_seq (by rfl) T.n_len PySem.boot_len (pa_cons (pe_fld (pv 0) rfl) pa_nil)) (pa_cons (pe_callB call_len_seq (by rfl) T.n_len PySem.boot_len (pa_cons (pe_fld (pv 0) rfl) pa_nil)) (pa_cons (pe_fld (pv 0) rfl) (pa_cons (pe_fld (pv 0) rfl) pa_nil)))))))), ?_⟩)
  · obtain ⟨L, h, rfl, _⟩ := h
    rfl
  obtain ⟨L, h, rfl, R, Tl, k⟩ := h
  obtain ⟨dxe, hxe⟩ := R.ex
  have rl : (L.recs.map V.ref).length = h.records.length := by rw [List.length_map, R.rc.all.length]
  have cl : (L.call.map V.ref).length = h.calls.length := by rw [List.length_map, R.cl]
  refine ⟨_, rfl, L.ex, _, dxe, _, _, rfl, hxe, T.cl_Exchange, T.na_Exchange_calls, exF_calls L h, L.cs, _, rfl, .inl (SqL.of R.cs), _, rfl, L.ex, _, dxe, _, _, rfl, hxe, T.cl_Exchange, T.na_Exchange_records, exF_records L h, L.rs, _, rfl, .inl (SqL.of R.rc.at_), _, rfl, L.ex, _, dxe, _, _, rfl, hxe, T.cl_Exchange, T.na_Exchange_moved, exF_moved L h, _, rfl, L.ex, _, dxe, _, _, rfl, hxe, T.cl_Exchange, T.na_Exchange_time, exF_time L h, ?_⟩
  rw [rl, cl]
  exact k.tell R Tl (A := Te.tells 0 [h.calls.length, h.records.length, h.moved, h.now]) rfl rfl (by show 5 ≤ sizeLine; decide) (Same.refl H)
/-! ### whose a number is -/
def sp_tell_owner (K : PySem.W.Frag) (C : Cs) : Sp := fun vs H Q _ => ∃ (L : Lay) (h : Te.Hall) (rq : Addr) (d : List Nat), vs = [.ref L.ex, .ref rq] ∧ Rep C H L h ∧ Tells L h ∧ WF h ∧ ReqAt C H L rq 16 [] [d] ∧ d.length ≤ 20 ∧ Ans C H L h (.owner d) Q
theorem cal_tell_owner (T : Txt K mg C) : Cal P w K mg base 3 "tell_owner" (sp_tell_owner K C) := by
  refine T.d_tell_owner.cal sc_tell_owner (fun vs H Q E h => ?_) (fun f cdv A outer s H vs Q E hr h => ⟨_, (pss_cons (ps_set (i := 2) sc_tell_owner.nd rfl (Or.inl rfl) (pe_ix ix_list (pe_fld (pv 1) rfl) pe_int (fun _ _ => rfl)))
    (pss_cons (ps_if (pt_not (pt_val (pe_c (cal_are_digits T) hr (by decide) rfl (pa_cons (pv 2) pa_nil))))
      (pss_one (ps_ret (pe_lst (pa_cons (pe_gi rfl T.k_NONE_SUCH) pa_nil))))
      pss_nil)
    (pss_cons (ps_set (i := 3) sc_tell_owner.nd rfl (Or.inl rfl) (pe_c (cal_line_of_number T) hr (by decide) rfl (pa_cons (pv 0) (pa_cons (pv 2) pa_nil))))
    (pss_cons (ps_if (pt_cmp (pc_notN (pv 3)))
      (pss_one (ps_ret (pe_lst (pa_cons (pe_gi rfl T.k_A_LINES) (pa_cons (pv 3) pa_nil)))))
      pss_nil)
    (pss_cons (ps_set (i := 4) sc_tell_owner.nd rfl (Or.inl rfl) (pe_c (cal_group_of_number T) hr (by decide) rfl (pa_cons (pv 0) (pa_cons (pv 2) pa_nil))))
    (pss_cons (ps_if (pt_cmp (pc_notN (pv 4)))
      (pss_one (ps_ret (pe_op op_cat (pe_lst (pa_cons (pe_gi rfl T.k_A_GROUPS) pa_nil)) (pe_fld (pv 4) rfl))))
      pss_nil)
    (pss_one (ps_ret (pe_ifExp (pt_val (pe_c (cal_some_number_begins T) hr (by decide) rfl (pa_cons (pv 0) (pa_cons (pv 2) pa_nil)))) (pe_lst (pa_cons (pe_gi rfl T.k_BEGINS_A_NUMBER) pa_nil)) (pe_lst (pa_cons (pe_gi rfl T.k_NO_NUMBER) pa_nil))))))))))), ?_⟩)
  · obtain ⟨L, h, rq, d, rfl, _⟩ := h
    rfl
  obtain ⟨L, h, rq, d, rfl, R, Tl, W, q, hd, k⟩ := h
  have B := W.base
  obtain ⟨dxr, na, ra, rs, hq1, hq2, hq3, hq4, hq5⟩ := q.ex
  obtain ⟨da, hda, e1⟩ := hq5.get2 (i := 0) rfl
  have hra : (rs.map V.ref)[0]? = some (.ref da) := by
    rw [List.getElem?_map, hda]
    rfl
  refine ⟨_, rfl, rq, _, dxr, _, _, rfl, hq1, T.cl_Request, T.na_Request_rows, reqF_rows, ra, _, 0, _, rfl, rfl, SqL.of hq3, at_of (j := 0) rfl hra, ?_⟩
  refine ⟨_, rfl, da, d, rfl, e1.sq, by omega, fun H1 s1 => ⟨_, rfl, ?_⟩⟩
  cases en : Te.isDigits d with
  | false =>
    refine iteT (k.no R Tl (z := -1) ?_ s1)
    dsimp only [Te.stepOn]
    rw [if_pos en]
    rfl
  | true =>
    refine iteF ?_
    have nd : ¬ Te.isDigits d = false := by rw [en]; decide
    refine ⟨_, rfl, _, rfl, L, h, da, d, rfl, R.same s1, (e1.same s1).sq, fun H2 s2 => ?_⟩
    have s12 := Same.trans s1 s2
    cases el : h.lines.findIdx? fun (l : Te.Line) => l.number == some d with
    | some y =>
      have eo : Te.ownerOf h d = .line y := by
        unfold Te.ownerOf
        rw [el]
      refine ⟨_, rfl, _, rfl, if_t (by rw [show optI (some y) = iv y from rfl, dec_non y]; rfl) ⟨_, rfl, ?_⟩⟩
      refine k.tell R Tl (A := Te.tells 1 [y]) ?_ rfl (by show 2 ≤ sizeLine; decide) s12
      dsimp only [Te.stepOn]
      rw [if_neg nd, eo]
    | none =>
      refine ⟨_, rfl, _, rfl, if_f (by rw [show optI (none : Option Nat) = V.non from rfl, dec_nn]; rfl) ?_⟩
      refine ⟨_, rfl, _, rfl, L, h, da, d, rfl, R.same s12, (e1.same s12).sq, fun H3 s3 e => ?_, fun H3 b g s3 e gb => ?_⟩
      · have s13 := Same.trans s12 s3
        have eo : Te.ownerOf h d = .nobody := by
          unfold Te.ownerOf
          rw [el]
          dsimp only
          rw [e]
        refine ⟨_, rfl, _, rfl, if_f (by rw [dec_nn]; rfl) ?_⟩
        refine ⟨_, rfl, _, rfl, L, h, da, d, rfl, R.same s13, B, (e1.same s13).sq, fun H4 s4 => ⟨_, rfl, ?_⟩⟩
        have s14 := Same.trans s13 s4
        cases em : Te.mayBe h d with
        | true =>
          refine iteT (k.tell R Tl (A := Te.says 0) ?_ rfl (by show 1 ≤ sizeLine; decide) s14)
          dsimp only [Te.stepOn]
          rw [if_neg nd, eo]
          dsimp only
          rw [if_pos em]
        | false =>
          refine iteF (k.no R Tl (z := -4) ?_ s14)
          dsimp only [Te.stepOn]
          rw [if_neg nd, eo]
          dsimp only
          rw [if_neg (by rw [em]; decide)]
      · have s13 := Same.trans s12 s3
        have eo : Te.ownerOf h d = .group g.2 := by
          unfold Te.ownerOf
          rw [el]
          dsimp only
          rw [e]
        obtain ⟨dxg, ng, ma, g1, g2, g3⟩ := gb.ex
        refine ⟨_, rfl, _, rfl, if_t (by rw [dec_ref b]; rfl) ⟨by show 1 ≤ sizeLine; decide, fun p1 hp1 => ?_⟩⟩
        have s4 := same_new (o := .lst [V.int 2]) hp1
        have s14 := Same.trans s13 s4
        have l8 := (B.groups g (List.mem_of_find?_eq_some e)).len
        refine ⟨_, rfl, b, _, dxg, _, _, rfl, s4 _ _ g1, T.cl_Group, T.na_Group_members, groupF_members, p1, ma, _, _, rfl, rfl, upd_same, (g3.same s4).1, ?_, fun p hp => ?_⟩
        · rw [List.length_map]
          show 1 + g.2.length ≤ sizeLine
          have : 9 ≤ sizeLine := by decide
          omega
        refine k _ L p h (Te.tells 2 g.2) ?_ (R.same (Same.trans s14 (same_new hp))) Tl (Stp.of_same L (Same.trans s14 (same_new hp))) upd_same
        dsimp only [Te.stepOn]
        rw [if_neg nd, eo]
end
end Tx
end
section
namespace Tx
open PySem PySem.Spec PyProof.Rows L2
/-- the calls that go by it, each with its place -/
def midE (L : Lay) (h : Te.Hall) (k i : Nat) : List (Addr × Te.Leg) := ((L.call.zip h.legs).take i).filter fun q => q.2.mid == k
theorem midE_all {L : Lay} {h : Te.Hall} {k : Nat} (e : L.call.length = h.legs.length) : (midE L h k L.call.length).map (·.2) = h.legs.filter fun (x : Te.Leg) => x.mid == k := by
  unfold midE
  have e1 : (L.call.zip h.legs).take L.call.length = L.call.zip h.legs := List.take_of_length_le (by rw [List.length_zip, e]; omega)
  rw [e1]
  have e2 : (L.call.zip h.legs).map (·.2) = h.legs := List.map_snd_zip (by omega)
  have e3 : (L.call.zip h.legs).filter (fun q => q.2.mid == k) = (L.call.zip h.legs).filter ((fun (x : Te.Leg) => x.mid == k) ∘ (·.2)) := rfl
  rw [e3, ← List.filter_map, e2]
theorem midE_at {L : Lay} {h : Te.Hall} {k i j : Nat} {q : Addr × Te.Leg} (hq : (midE L h k i)[j]? = some q) : ∃ p : Nat, L.call[p]? = some q.1 ∧ h.legs[p]? = some q.2 := by
  have m := List.mem_filter.mp (List.mem_of_getElem? hq)
  obtain ⟨p, hp⟩ := List.mem_iff_getElem?.mp (List.mem_of_mem_take m.1)
  rw [List.getElem?_zip_eq_some] at hp
  exact ⟨p, hp.1, hp.2⟩
theorem midE_step {L : Lay} {h : Te.Hall} {k i : Nat} {a : Addr} {c : Te.Leg} (ha : L.call[i]? = some a) (hc : h.legs[i]? = some c) : midE L h k (i + 1) = if (c.mid == k) = true then midE L h k i ++ [(a, c)] else midE L h k i := by
  unfold midE
  have hz : (L.call.zip h.legs)[i]? = some (a, c) := by
    rw [List.getElem?_zip_eq_some]
    exact ⟨ha, hc⟩
  rw [take_snoc hz, List.filter_append]
  cases e : c.mid == k with
  | true => rw [List.filter_cons_of_pos (by exact e), if_pos rfl]; rfl
  | false => rw [List.filter_cons_of_neg (by show ¬ (c.mid == k) = true; rw [e]; exact Bool.false_ne_true), if_neg (by decide), List.filter_nil, List.append_nil]
/-- what's told of so many -/
def toldOf (E : List (Addr × Te.Leg)) (i : Nat) : List Nat := ((E.take i).map (·.2)).flatMap fun (x : Te.Leg) => [x.from_, x.to_]
theorem toldOf_snoc {E : List (Addr × Te.Leg)} {i : Nat} {q : Addr × Te.Leg} (hq : E[i]? = some q) : toldOf E (i + 1) = toldOf E i ++ [q.2.from_, q.2.to_] := by
  unfold toldOf
  rw [take_snoc hq, List.map_append, List.flatMap_append]
  rfl
theorem toldOf_len (E : List (Addr × Te.Leg)) (i : Nat) : (toldOf E i).length ≤ 2 * E.length := by
  unfold toldOf
  have : ∀ l : List Te.Leg, (l.flatMap fun (x : Te.Leg) => [x.from_, x.to_]).length = 2 * l.length := by
    intro l
    induction l with
    | nil => rfl
    | cons a l ih =>
      rw [List.flatMap_cons, List.length_append, ih, List.length_cons (a := a)]
      show 2 + 2 * l.length = 2 * (l.length + 1)
      omega
  rw [this, List.length_map, List.length_take]
  omega
section
variable {P : Program} {w : World} {K : PySem.W.Frag} {mg : Str → Option Value} {base : Heap} {C : Cs}
def sp_look_at_middle (K : PySem.W.Frag) (C : Cs) : Sp := fun vs H Q _ => ∃ (L : Lay) (h : Te.Hall) (rq : Addr) (m : Nat), vs = [.ref L.ex, .ref rq] ∧ Rep C H L h ∧ Tells L h ∧ WF h ∧ ReqAt C H L rq 13 [m] [] ∧ Ans C H L h (.middle m) Q
theorem cal_look_at_middle (T : Txt K mg C) : Cal P w K mg base 1 "look_at_middle" (sp_look_at_middle K C) := by
  refine T.d_look_at_middle.cal sc_look_at_middle (fun vs H Q E h => ?_) (fun f cdv A outer s H vs Q E hr h => ⟨_, (pss_cons (ps_set (i := 2) sc_look_at_middle.nd rfl (Or.inr rfl) (pe_ix ix_list (pe_fld (pv 1) rfl) pe_int (fun _ _ => rfl)))
    (pss_cons (ps_if (pt_cmpR op_ge (pv 2) (pe_fld (pv 0) rfl) (nomark _))
      (pss_one (ps_ret (pe_lst (pa_cons (pe_gi rfl T.k_NONE_SUCH) pa_nil))))
      pss_nil)
    (pss_cons (ps_setLc (i := 4) (own := [("call", 3)]) (g := (gName 3)) (tt := (tTest (tOp rEq (tFld K (tVar 3) "way") (tVar 2)))) (te := (tVar 3)) rfl sc_look_at_middle.nd rfl rfl (sw_true rfl rfl rfl (by decide +kernel)) (pi_list (pe_fld (pv 0) rfl)) (blkOk_by (N := ["exchange", "request", "middle", "call", "by_it", "told"]) (sc := defScope s_look_at_middle) (by decide +kernel)) (fun _ _ _ _ _ => (pg_name (i := 3) sc_look_at_middle.nd rfl (Or.inl rfl))) (fun _ _ _ _ _ => (pts_one (pt_cmpR op_eq (pe_fld (pv 3) rfl) (pv 2) (nomark _)))) (fun _ _ _ _ _ => (pv 3)))
    (pss_cons (ps_set (i := 5) sc_look_at_middle.nd rfl (Or.inl rfl) (pe_lst (pa_cons (pe_callB call_len_seq (by rfl) T.n_len PySem.boot_len (pa_cons (pv 4) pa_nil)) pa_nil)))
    (pss_cons (ps_for PassesOwn.never rfl (pi_list (pv 4)) (pg_name (i := 3) sc_look_at_middle.nd rfl (Or.inl rfl))
      (pss_one (ps_expr (pe_bm PySem.F.plainAttrs_list PySem.F.slot_list_extend PySem.F.type_list_extend mt_extend (pv 5) (pa_cons (pe_lst (pa_cons (pe_fld (pv 3) rfl) (pa_cons (pe_fld (pv 3) rfl) pa_nil))) pa_nil)))))
    (pss_one (ps_ret (pv 5)))))))), ?_⟩)
  · obtain ⟨L, h, rq, m, rfl, _⟩ := h
    rfl
  obtain ⟨L, h, rq, m, rfl, R, Tl, W, q, k⟩ := h
  have B := W.base
  have l64 := calls64 B
  obtain ⟨dxe, hxe⟩ := R.ex
  obtain ⟨dxr, na, ra, rs, hq1, hq2, hq3, hq4, hq5⟩ := q.ex
  refine ⟨_, rfl, rq, _, dxr, _, _, rfl, hq1, T.cl_Request, T.na_Request_numbers, reqF_numbers, na, _, 0, _, rfl, rfl, hq2.sq, at_of (j := 0) rfl rfl, ?_⟩
  refine ⟨_, rfl, _, rfl, L.ex, _, dxe, _, _, rfl, hxe, T.cl_Exchange, T.na_Exchange_middles, exF_m L h, _, _, rfl, rfl, _, rfl, ?_⟩
  by_cases c1 : h.size.m ≤ m
  · refine if_t (decide_eq_true (by omega)) (k.no R Tl (z := -1) ?_ (Same.refl H))
    dsimp only [Te.stepOn]
    rw [if_pos c1]
    rfl
  refine if_f (decide_eq_false (by omega)) ?_
  have at_ : ∀ (p : Nat) a, L.call[p]? = some a → ∀ x, h.legs[p]? = some x → ∃ dx nc hops since tv, H a = some (.ins C.c_Call dx (callF x.from_ x.to_ nc hops since tv (iv x.mid))) := fun p a ha x hx => by
    have lt : p < h.calls.length := by
      rw [← R.cl]
      exact (List.getElem?_eq_some_iff.mp ha).1
    obtain ⟨e1, e2⟩ := leg_call B (List.getElem?_eq_getElem lt) hx
    obtain ⟨dx, nc, h1, _⟩ := (R.calls p a _ x ha (List.getElem?_eq_getElem lt) hx).ex
    rw [← e1, ← e2] at h1
    exact ⟨dx, nc, _, _, _, h1⟩
  refine ⟨_, rfl, L.ex, _, dxe, _, _, rfl, hxe, T.cl_Exchange, T.na_Exchange_calls, exF_calls L h, L.cs, rfl, ⟨_, SqL.of R.cs⟩, fun D hD => lc_gen (acc := fun i => (midE L h m i).map fun q => V.ref q.1) (SqL.of R.cs) hD rfl (fun i hi => ?_) (fun i x H2 Y Nn hx s2 fy fn => ?_) (fun H2 s2 hD2 => ?_)⟩
  · rw [List.length_map]
    refine Nat.lt_of_le_of_lt (Nat.le_trans (List.length_filter_le _ _) ?_) (show 64 < sizeLine by decide)
    rw [List.length_take, List.length_zip, R.cl]
    omega
  · obtain ⟨a, ha, rfl⟩ := refs_get hx
    obtain ⟨lg, hlg⟩ := R.legAt ha
    obtain ⟨dxc, nc, hops, since, tv, h1⟩ := at_ i a ha lg hlg
    have es := midE_step (k := m) ha hlg
    refine ⟨_, rfl, a, _, dxc, _, _, rfl, s2 _ _ h1, T.cl_Call, T.na_Call_way, callF_way, _, rfl, rfl, _, rfl, ?_⟩
    have ed : decide (iv lg.mid = iv m) = (lg.mid == m) := (dec_iv lg.mid m).trans (by rw [Bool.eq_iff_iff, decide_eq_true_iff, beq_iff_eq])
    have ed' : decide (iv lg.mid = V.int (m : Int)) = (lg.mid == m) := ed
    rw [ed']
    refine if_b (fun c => ⟨_, rfl, fy _ _ (Same.refl _) ?_⟩) (fun c => fn _ (Same.refl _) ?_)
    · show (midE L h m (i + 1)).map (fun q => V.ref q.1) = (midE L h m i).map (fun q => V.ref q.1) ++ [V.ref a]
      rw [es, if_pos c, List.map_append]
      rfl
    · show (midE L h m (i + 1)).map (fun q => V.ref q.1) = (midE L h m i).map (fun q => V.ref q.1)
      rw [es, if_neg (by rw [c]; decide)]
  rw [List.length_map] at hD2
  have ea := midE_all (k := m) (R.cl.trans R.gl.symm)
  have inE : ∀ {j : Nat} {q : Addr × Te.Leg}, (midE L h m L.call.length)[j]? = some q → ∃ p : Nat, L.call[p]? = some q.1 ∧ h.legs[p]? = some q.2 := fun hq => midE_at hq
  have lenE : (midE L h m L.call.length).length ≤ 64 := by
    refine Nat.le_trans (List.length_filter_le _ _) ?_
    rw [List.length_take, List.length_zip, R.cl]
    omega
  generalize midE L h m L.call.length = E at hD2 ea inE lenE
  have el : (E.map fun q => V.ref q.1).length = E.length := List.length_map _
  refine ⟨_, rfl, D, _, rfl, .inl (SqL.of hD2), (by show 1 ≤ sizeLine; decide), fun tp htp => ?_⟩
  rw [el]
  have s3 := same_new (o := .lst [V.int (E.length : Int)]) htp
  refine ⟨_, rfl, D, rfl, ⟨_, SqL.of (s3 _ _ hD2)⟩, for_list (xs := E.map fun q => V.ref q.1)
    (fun i σ H' => ∃ (u : Option V), σ = [some (.ref L.ex), some (.ref rq), some (iv m), u, some (.ref D), some (.ref tp)] ∧ Same H2 H' ∧ H' tp = some (.lst (V.int (E.length : Int) :: ivs (toldOf E i))))
    ⟨none, rfl, s3, upd_same⟩ (fun i σ H' _ ⟨_, _, z, _⟩ => SqL.of (z _ _ hD2)) ?_ ?_⟩
  · rintro i v σ H3 hv ⟨u, rfl, s4, ht⟩
    rw [List.getElem?_map] at hv
    cases eq : E[i]? with
    | none => rw [eq] at hv; cases hv
    | some q =>
      rw [eq] at hv
      obtain rfl : V.ref q.1 = v := Option.some.inj hv
      obtain ⟨p, p1, p2⟩ := inE eq
      obtain ⟨dxc, nc, hops, since, tv, h1⟩ := at_ p q.1 p1 q.2 p2
      have h3 := s4 _ _ (s2 _ _ h1)
      refine ⟨_, rfl, .inl ⟨rfl, _, SqL.of ht⟩, _, rfl, q.1, _, dxc, _, _, rfl, h3, T.cl_Call, T.na_Call_caller, callF_caller, _, rfl, q.1, _, dxc, _, _, rfl, h3, T.cl_Call, T.na_Call_called, callF_called, (by show 2 ≤ sizeLine; decide), fun pn hpn => ?_⟩
      have s5 := same_new (o := .lst [iv q.2.from_, iv q.2.to_]) hpn
      refine ⟨tp, pn, _, _, rfl, rfl, s5 _ _ ht, upd_same, ?_, ?_⟩
      · rw [List.length_cons, List.length_map]
        show (toldOf E i).length + 1 + 2 ≤ sizeLine
        have := toldOf_len E i
        have : 1000 ≤ sizeLine := by decide
        omega
      · refine ⟨_, rfl, same_upd (Same.trans s4 s5) htp, ?_⟩
        rw [toldOf_snoc eq]
        refine Eq.trans upd_same (congrArg (fun z => some (HO.lst z)) ?_)
        show V.int (E.length : Int) :: (ivs (toldOf E i) ++ [iv q.2.from_, iv q.2.to_]) = V.int (E.length : Int) :: ivs (toldOf E i ++ [q.2.from_, q.2.to_])
        rw [show ivs (toldOf E i ++ [q.2.from_, q.2.to_]) = ivs (toldOf E i) ++ [iv q.2.from_, iv q.2.to_] from List.map_append]
  · rintro σ H3 ⟨u, rfl, s4, ht⟩
    have s24 := Same.trans s2 s4
    have e0 : toldOf E (E.map fun q => V.ref q.1).length = (h.legs.filter fun (x : Te.Leg) => x.mid == m).flatMap fun (x : Te.Leg) => [x.from_, x.to_] := by
      unfold toldOf
      rw [el, List.take_length, ea]
    have e1 : E.length = (h.legs.filter fun (x : Te.Leg) => x.mid == m).length := by rw [← ea, List.length_map]
    rw [e0, e1] at ht
    refine ⟨_, rfl, k _ L tp h (Te.tells ((h.legs.filter fun (x : Te.Leg) => x.mid == m).length : Nat) ((h.legs.filter fun (x : Te.Leg) => x.mid == m).flatMap fun (x : Te.Leg) => [x.from_, x.to_])) ?_ (R.same s24) Tl (Stp.of_same L s24) ht⟩
    dsimp only [Te.stepOn]
    rw [if_neg c1]
end
end Tx
end
section
namespace Tx
open PySem PySem.Spec PyProof.Rows L2
/-! ### how a list of calls is read -/
/-- a layout of nothing: all is of kind 0 -/
def L0 : Lay := ⟨0, 0, 0, 0, 0, 0, [], [], [], [], [], fun _ => 0, fun _ => 0⟩
/-- what is new -/
def fresh (H H' : Hp) : Hp := fun b => match H b with
  | none => H' b
  | some _ => none
theorem fresh_of {H H' : Hp} {b : Addr} {o : HO} (h : H b = none) (h' : H' b = some o) : fresh H H' b = some o := by
  unfold fresh
  rw [h]
  exact h'
theorem fresh_at {H H' : Hp} {b : Addr} {o : HO} (h : fresh H H' b = some o) : H b = none ∧ H' b = some o := by
  unfold fresh at h
  cases e : H b with
  | none => rw [e] at h; exact ⟨rfl, h⟩
  | some _ => rw [e] at h; cases h
/-- all but one -/
def hid (H : Hp) (p : Addr) : Hp := fun b => if b = p then none else H b
theorem hid_same (H : Hp) (p : Addr) : Same (hid H p) H := fun b o e => by
  unfold hid at e
  by_cases c : b = p
  · rw [if_pos c] at e
    cases e
  · rw [if_neg c] at e
    exact e
theorem hid_of {H : Hp} {p b : Addr} {o : HO} (ne : b ≠ p) (h : H b = some o) : hid H p b = some o := by
  unfold hid
  rw [if_neg ne]
  exact h
theorem hid_at {H : Hp} {p b : Addr} {o : HO} (h : hid H p b = some o) : b ≠ p ∧ H b = some o := by
  unfold hid at h
  by_cases c : b = p
  · rw [if_pos c] at h
    cases h
  · rw [if_neg c] at h
    exact ⟨c, h⟩
theorem zero_dig {H : Hp} {a : Addr} {d : List Nat} (h : H a = some (.lst (ivs d))) : Dig H L0 a d := ⟨h, rfl⟩
section
variable {P : Program} {w : World} {K : PySem.W.Frag} {mg : Str → Option Value} {base : Heap} {C : Cs}
def sp_read_rows (K : PySem.W.Frag) (C : Cs) : Sp := fun vs H Q _ => ∃ (ca : Addr) (l : List Nat) (s k : Nat) (xs : List (List Nat)) (t : List Nat), vs = [.ref ca, iv s, iv k] ∧ SqL K H ca (ivs l) ∧ rowsN k (l.drop s) = some (xs, t) ∧ s ≤ l.length ∧ k ≤ 2 ∧
  ∀ H' p rs, Same H H' → H p = none → H' p = some (.lst (rs.map V.ref)) → All2 (Dig (fresh H H') L0) rs xs → Q (.ref p) H'
theorem cal_read_rows (T : Txt K mg C) : Cal P w K mg base 1 "read_rows" (sp_read_rows K C) := by
  refine T.d_read_rows.cal sc_read_rows (fun vs H Q E h => ?_) (fun f cdv A outer s H vs Q E hr h => ⟨_, (pss_cons (ps_set (i := 3) sc_read_rows.nd rfl (Or.inl rfl) (pe_lst pa_nil))
    (pss_cons (ps_set (i := 4) sc_read_rows.nd rfl (Or.inl rfl) (pv 1))
    (pss_cons (ps_while PassesOwn.never (pt_cmpR op_lt (pe_callB call_len_seq (by rfl) T.n_len PySem.boot_len (pa_cons (pv 3) pa_nil)) (pv 2) (nomark _))
      (pss_cons (ps_set (i := 5) sc_read_rows.nd rfl (Or.inl rfl) (pe_op op_add (pe_op op_add (pv 4) pe_int) (pe_ix ix_list (pv 0) (pv 4) (fun _ _ => rfl))))
    (pss_cons (ps_expr (pe_bm PySem.F.plainAttrs_list PySem.F.slot_list_append PySem.F.type_list_append mt_append (pv 3) (pa_cons (pe_slice sl_list (pv 0) (po_some (pe_op op_add (pv 4) pe_int)) (po_some (pv 5))) pa_nil)))
    (pss_one (ps_set (i := 4) sc_read_rows.nd rfl (Or.inl rfl) (pv 5))))))
    (pss_one (ps_ret (pv 3)))))), ?_⟩)
  · obtain ⟨ca, l, s, k, xs, t, rfl, _⟩ := h
    rfl
  obtain ⟨ca, l, s, k, xs, t, rfl, hS, hr0, hs, hk2, kk⟩ := h
  have xl := (rowsN_at hr0 hs).1
  refine ⟨Nat.zero_le _, fun p hp => ⟨_, rfl, ?_⟩⟩
  refine ⟨fun m σ H' => ∃ j pos rs u, m = k - j ∧ j ≤ k ∧ σ = [some (.ref ca), some (iv s), some (iv k), some (.ref p), some (iv pos), u] ∧ Same H H' ∧ H' p = some (.lst (rs.map V.ref)) ∧ All2 (Dig (hid (fresh H H') p) L0) rs (xs.take j) ∧ rowsN (k - j) (l.drop pos) = some (xs.drop j, t) ∧ pos ≤ l.length,
    ⟨_, 0, s, [], none, rfl, Nat.zero_le _, rfl, same_new hp, upd_same, .nil, hr0, hs⟩, ?_⟩
  rintro m σ H1 ⟨j, pos, rs, u, rfl, hj, rfl, s1, hp1, al, hr1, hpos⟩
  have rl : rs.length = j := by
    rw [al.length, List.length_take, xl]
    omega
  have lm : (rs.map V.ref).length = j := by rw [List.length_map, rl]
  refine ⟨_, rfl, p, _, rfl, .inl (SqL.of hp1), _, rfl, _, _, rfl, rfl, _, rfl, ?_⟩
  rw [lm]
  by_cases c : j < k
  · refine if_t (decide_eq_true (by omega)) ?_
    obtain ⟨k', hk'⟩ : ∃ k', k - j = k' + 1 := ⟨k - j - 1, by omega⟩
    have hr2 := hr1
    rw [hk', rowsN] at hr2
    cases e : rowN (l.drop pos) with
    | none => rw [e] at hr2; cases hr2
    | some z =>
    obtain ⟨x, s'⟩ := z
    rw [e] at hr2
    obtain ⟨n, e1, e2, e3, e4, e5⟩ := rowN_at e
    have hr2 : (match rowsN k' s' with | none => none | some (xs, t) => some (x :: xs, t)) = some (xs.drop j, t) := hr2
    cases e6 : rowsN k' s' with
    | none => rw [e6] at hr2; cases hr2
    | some z =>
    obtain ⟨ys, t'⟩ := z
    rw [e6] at hr2
    have hr2 : some (x :: ys, t') = some (xs.drop j, t) := hr2
    injection hr2 with hr2
    injection hr2 with hx ht
    subst ht
    have hxj : xs[j]? = some x := by
      have := congrArg (fun z => z[0]?) hx
      simp only [List.getElem?_drop, Nat.add_zero] at this
      exact this.symm
    have hys : xs.drop (j + 1) = ys := by
      have := congrArg (List.drop 1) hx
      rw [List.drop_drop] at this
      exact this.symm
    have sq1 := Same.seq s1 hS
    have at1 : (ivs l)[pos]? = some (iv n) := by
      rw [List.getElem?_map, e1]
      rfl
    refine ⟨fun σ' H' => ∃ rs u, σ' = [some (.ref ca), some (iv s), some (iv k), some (.ref p), some (iv (pos + 1 + n)), u] ∧ Same H H' ∧ H' p = some (.lst (rs.map V.ref)) ∧ All2 (Dig (hid (fresh H H') p) L0) rs (xs.take (j + 1)), ?_, ?_⟩
    · rintro σ' H' ⟨rs, u, rfl, s2, hp2, al2⟩
      refine ⟨_, ?_, j + 1, pos + 1 + n, rs, u, rfl, c, rfl, s2, hp2, al2, ?_, e5⟩
      · omega
      · rw [show k - (j + 1) = k' by omega, ← e4, e6, hys]
    refine ⟨_, rfl, _, _, rfl, rfl, _, rfl, _, rfl, ca, _, (pos : Int), _, rfl, rfl, sq1, at_of (j := pos) rfl at1, _, _, rfl, rfl, ?_⟩
    refine ⟨_, rfl, .inl ⟨rfl, _, SqL.of hp1⟩, _, rfl, _, rfl, _, _, rfl, rfl, _, rfl, _, rfl, _, rfl, ca, _, rfl, sq1, fun r hr => ?_⟩
    have ec : cutV (ivs l) (some ((pos : Int) + 1)) (some ((pos : Int) + 1 + (n : Int))) = ivs x := by
      have := cut_mid l (pos + 1) (pos + 1 + n) e5
      rw [show pos + 1 + n - (pos + 1) = n by omega, ← e3] at this
      exact this
    rw [ec]
    have rp : r ≠ p := fun z => by
      rw [z, hp1] at hr
      cases hr
    have hp2 : upd H1 r (.lst (ivs x)) p = some (.lst (rs.map V.ref)) := by
      rw [upd_ne (Ne.symm rp)]
      exact hp1
    have s2 : Same H1 (upd H1 r (.lst (ivs x))) := same_new hr
    refine ⟨p, _, _, rfl, rfl, hp2, ?_, ?_⟩
    · rw [lm]
      have : 2 < sizeLine := by decide
      omega
    · have e7 : rs.map V.ref ++ [V.ref r] = (rs ++ [r]).map V.ref := by
        rw [List.map_append]
        rfl
      rw [e7]
      have nr : H r = none := s1.free hr
      have keep : Same (hid (fresh H H1) p) (hid (fresh H (upd (upd H1 r (.lst (ivs x))) p (.lst ((rs ++ [r]).map V.ref)))) p) := fun b o e => by
        obtain ⟨b1, b2⟩ := hid_at e
        obtain ⟨b3, b4⟩ := fresh_at b2
        refine hid_of b1 (fresh_of b3 ?_)
        rw [upd_ne b1]
        exact s2 _ _ b4
      refine ⟨_, rfl, rs ++ [r], _, rfl, fun b o hb => ?_, upd_same, ?_⟩
      · rw [upd_ne (ne_of_none hb hp)]
        exact s2 _ _ (s1 _ _ hb)
      · rw [take_snoc hxj]
        refine (al.imp fun _ _ z => z.same keep).snoc ⟨hid_of rp (fresh_of nr ?_), rfl⟩
        rw [upd_ne rp]
        exact upd_same
  · refine if_f (decide_eq_false (by omega)) ?_
    have e : j = k := by omega
    subst e
    rw [List.take_of_length_le (by omega)] at al
    exact ⟨_, rfl, kk H1 p rs s1 hp hp1 (al.imp fun _ _ z => z.same (hid_same _ _))⟩
def sp_init_Request (K : PySem.W.Frag) (C : Cs) : Sp := fun vs H Q _ => ∃ (p dx : Addr) (kd : Nat) (na ra : Addr), vs = [.ref p, iv kd, .ref na, .ref ra] ∧ H p = some (.ins C.c_Request dx []) ∧ Q .non (upd H p (.ins C.c_Request dx (reqF kd na ra)))
theorem put_Request (kd : Nat) (na ra : Addr) : (putF "rows" (.ref ra) (putF "numbers" (.ref na) (putF "kind" (iv kd) []))) = ([("kind", (iv kd)), ("numbers", (.ref na)), ("rows", (.ref ra))] : List (Str × V)) := by
  have e1 : putF ("numbers" : Str) (.ref na) ([("kind", (iv kd))] : List (Str × V)) = ([("kind", (iv kd)), ("numbers", (.ref na))] : List (Str × V)) := by rw [put_past (by decide +kernel), put_nil]
  have e2 : putF ("rows" : Str) (.ref ra) ([("kind", (iv kd)), ("numbers", (.ref na))] : List (Str × V)) = ([("kind", (iv kd)), ("numbers", (.ref na)), ("rows", (.ref ra))] : List (Str × V)) := by rw [put_past (by decide +kernel), put_past (by decide +kernel), put_nil]
  rw [put_nil, e1, e2]
theorem mak_Request (T : Txt K mg C) : Mak P w K mg base 1 "Request" C.c_Request (sp_init_Request K C) := by
  refine T.l_Request.mak sc_init_Request (fun vs H Q E h => ?_) (fun f cdv A outer s H vs Q E hr h => ⟨_, (pss_cons (ps_fld (pv 0) (pv 1) rfl)
    (pss_cons (ps_fld (pv 0) (pv 2) rfl)
    (pss_one (ps_fld (pv 0) (pv 3) rfl)))), ?_⟩)
  · obtain ⟨p, dx, kd, na, ra, rfl, _⟩ := h
    rfl
  obtain ⟨p, dx, kd, na, ra, rfl, hp, k⟩ := h
  refine ⟨_, rfl, _, rfl, p, _, dx, _, rfl, hp, T.cl_Request, T.na_Request_kind, (by show 0 < 1000; decide), ?_⟩
  refine ⟨_, rfl, _, rfl, p, _, dx, _, rfl, upd_same, T.cl_Request, T.na_Request_numbers, (by show 1 < 1000; decide), ?_⟩
  refine ⟨_, rfl, _, rfl, p, _, dx, _, rfl, upd_same, T.cl_Request, T.na_Request_rows, (by show 2 < 1000; decide), ?_⟩
  rw [upd_upd, upd_upd, put_Request kd na ra]
  exact k
theorem shape_rows {k : Int} {n r : Nat} (h : PyWrtele.shape k = some (n, r)) : n ≤ 3 ∧ r ≤ 2 := by
  unfold PyWrtele.shape at h
  have go : ∀ {c : Prop} [Decidable c] {a : Nat × Nat} {o : Option (Nat × Nat)}, (a.1 ≤ 3 ∧ a.2 ≤ 2) → (o = some (n, r) → n ≤ 3 ∧ r ≤ 2) → (if c then some a else o) = some (n, r) → n ≤ 3 ∧ r ≤ 2 := by
    intro c _ a o ha ho e
    by_cases q : c
    · rw [if_pos q] at e
      cases e
      exact ha
    · rw [if_neg q] at e
      exact ho e
  exact go (by decide) (go (by decide) (go (by decide) (go (by decide) (go (by decide) (go (by decide) (go (by decide) (go (by decide) (go (by decide) (go (by decide) (go (by decide) (go (by decide) (go (by decide) (go (by decide) (go (by decide) (go (by decide) (go (by decide) (fun z => by cases z))))))))))))))))) h
def sp_read_request (K : PySem.W.Frag) (C : Cs) : Sp := fun vs H Q _ => ∃ (ca : Addr) (l : List Nat) (i : Nat) (q : Req) (t : List Nat), vs = [.ref ca, iv i] ∧ SqL K H ca (ivs l) ∧ callN (l.drop i) = some (q, t) ∧ ∀ H' p, Same H H' → ReqAt C (fresh H H') L0 p q.kind q.nums q.rows → Q (.ref p) H'
theorem cal_read_request (T : Txt K mg C) : Cal P w K mg base 3 "read_request" (sp_read_request K C) := by
  refine T.d_read_request.cal sc_read_request (fun vs H Q E h => ?_) (fun f cdv A outer s H vs Q E hr h => ⟨_, (pss_cons (ps_set (i := 2) sc_read_request.nd rfl (Or.inl rfl) (pe_ix (ix_forms T.f_FORMS) (pe_glob (v := .ref C.a_FORMS) rfl T.k_FORMS rfl) (pe_ix ix_list (pv 0) (pv 1) (fun _ _ => rfl)) (fun _ _ => rfl)))
    (pss_cons (ps_set (i := 3) sc_read_request.nd rfl (Or.inl rfl) (pe_op op_add (pe_op op_add (pv 1) pe_int) (pe_ix ix_tup (pv 2) pe_int (fun _ _ => rfl))))
    (pss_one (ps_ret (pe_mk (mak_Request T) hr (by decide) rfl (pa_cons (pe_ix ix_list (pv 0) (pv 1) (fun _ _ => rfl)) (pa_cons (pe_slice sl_list (pv 0) (po_some (pe_op op_add (pv 1) pe_int)) (po_some (pv 3))) (pa_cons (pe_c (cal_read_rows T) hr (by decide) rfl (pa_cons (pv 0) (pa_cons (pv 3) (pa_cons (pe_ix ix_tup (pv 2) pe_int (fun _ _ => rfl)) pa_nil)))) pa_nil)))))))), ?_⟩)
  · obtain ⟨ca, l, i, q, t, rfl, _⟩ := h
    rfl
  obtain ⟨ca, l, i, q, t, rfl, hS, hc, kk⟩ := h
  obtain ⟨n, k, sh, e1, e2, e3, e4, e5, e6, e7⟩ := callN_at hc
  obtain ⟨n3, k2⟩ := shape_rows sh
  have at1 : (ivs l)[i]? = some (iv q.kind) := by
    rw [List.getElem?_map, e1]
    rfl
  refine ⟨_, rfl, _, rfl, ca, _, (i : Int), _, rfl, rfl, hS, at_of (j := i) rfl at1, (q.kind : Int), n, k, rfl, rfl, sh, fun b hb => ?_⟩
  refine ⟨_, rfl, _, _, rfl, rfl, _, rfl, b, _, 0, _, rfl, rfl, hb, at_of (j := 0) rfl rfl, _, _, rfl, rfl, ?_⟩
  refine ⟨_, rfl, _, rfl, ca, _, (i : Int), _, rfl, rfl, hS, at_of (j := i) rfl at1, ?_⟩
  refine ⟨_, rfl, _, rfl, _, _, rfl, rfl, _, rfl, _, rfl, _, rfl, ca, _, rfl, hS, fun na hna => ?_⟩
  have ec : cutV (ivs l) (some ((i : Int) + 1)) (some ((i : Int) + 1 + (n : Int))) = ivs q.nums := by
    have := cut_mid l (i + 1) (i + 1 + n) e4
    rw [show i + 1 + n - (i + 1) = n by omega, ← e2] at this
    exact this
  rw [ec]
  have s1 : Same H (upd H na (.lst (ivs q.nums))) := same_new hna
  have hb1 : SqT K (upd H na (.lst (ivs q.nums))) b [.int (n : Int), .int (k : Int)] := by
    rcases hb with (z | ⟨o, z⟩) | z
    · exact .inl (.inl (s1 _ _ z))
    · exact .inl (.inr ⟨o, s1 _ _ z⟩)
    · exact .inr z
  refine ⟨_, rfl, _, rfl, _, rfl, b, _, 1, _, rfl, rfl, hb1, at_of (j := 1) rfl rfl, ca, l, i + 1 + n, k, q.rows, t, rfl, Same.seq s1 hS, e5, e4, k2, fun H2 ra rs s2 nra hra al => ?_⟩
  intro x dx nx nd ne
  refine ⟨x, dx, q.kind, na, ra, rfl, upd_same, rfl, ?_⟩
  rw [upd_upd]
  have s3 : Same H2 (upd (upd H2 dx (.own x)) x (.ins C.c_Request dx (reqF q.kind na ra))) := same_made nx nd
  have s12 := Same.trans s1 s2
  refine kk _ x (Same.trans s12 s3) ⟨⟨dx, na, ra, rs, fresh_of (s12.free nx) upd_same, ⟨fresh_of hna (s3 _ _ (s2 _ _ upd_same)), rfl⟩, fresh_of (s1.free nra) (s3 _ _ hra), rfl, al.imp fun b d z => ⟨?_, rfl⟩⟩, rfl⟩
  obtain ⟨z1, z2⟩ := fresh_at z.1
  exact fresh_of (s1.free z1) (s3 _ _ z2)
theorem sums_take {xs : List (List Nat)} {i : Nat} {x : List Nat} (h : xs[i]? = some x) : (xs.take (i + 1)).map (fun x => V.int (1 + (x.length : Int))) = (xs.take i).map (fun x => V.int (1 + (x.length : Int))) ++ [V.int (1 + (x.length : Int))] := by
  rw [take_snoc h, List.map_append]
  rfl
theorem sum_rows (xs : List (List Nat)) : (xs.map fun x => 1 + (x.length : Int)).sum = (rowsSize xs : Nat) := by
  induction xs with
  | nil => rfl
  | cons x r ih =>
    show 1 + (x.length : Int) + (r.map fun x => 1 + (x.length : Int)).sum = ((1 + x.length + rowsSize r : Nat) : Int)
    rw [ih]
    omega
def sp_length_of (K : PySem.W.Frag) (C : Cs) : Sp := fun vs H Q _ => ∃ (a : Addr) (q : Req), vs = [.ref a] ∧ ReqAt C H L0 a q.kind q.nums q.rows ∧ q.rows.length ≤ 2 ∧ ∀ H', Same H H' → Q (iv q.size) H'
theorem cal_length_of (T : Txt K mg C) : Cal P w K mg base 1 "length_of" (sp_length_of K C) := by
  refine T.d_length_of.cal sc_length_of (fun vs H Q E h => ?_) (fun f cdv A outer s H vs Q E hr h => ⟨_, (pss_one (ps_ret (pe_op op_add (pe_op op_add pe_int (pe_callB call_len_seq (by rfl) T.n_len PySem.boot_len (pa_cons (pe_fld (pv 0) rfl) pa_nil))) (pe_callB (cr_sum rfl) (by rfl) T.n_sum boot_sum (pa_cons (pe_lc (own := [("row", 1)]) (g := (gName 1)) (tt := tYes) (te := (tOp (rI0 fun i j => .int (i + j)) (tC (.int (1))) (tCB (rLenSeq K) (tCons (tVar 1) tNil)))) rfl sc_length_of.nd (pi_list (pe_fld (pv 0) rfl)) (blkOk_by (N := ["request", "row"]) (sc := defScope s_length_of) (by decide +kernel)) (fun _ _ _ _ _ => (pg_name (i := 1) sc_length_of.nd rfl (Or.inl rfl))) (fun _ _ _ _ _ => pts_nil) (fun _ _ _ _ _ => (pe_op op_add pe_int (pe_callB call_len_seq (by rfl) T.n_len PySem.boot_len (pa_cons (pv 1) pa_nil))))) pa_nil))))), ?_⟩)
  · obtain ⟨a, q, rfl, _⟩ := h
    rfl
  obtain ⟨a, q, rfl, hq, hl, k⟩ := h
  obtain ⟨dx, na, ra, rs, h1, h2, h3, h4, h5⟩ := hq.ex
  refine ⟨_, rfl, a, _, dx, _, _, rfl, h1, T.cl_Request, T.na_Request_numbers, reqF_numbers, na, _, rfl, .inl h2.sq, _, _, rfl, rfl, ?_⟩
  refine ⟨_, rfl, a, _, dx, _, _, rfl, h1, T.cl_Request, T.na_Request_rows, reqF_rows, ra, rfl, ⟨_, SqL.of h3⟩, fun D hD => lc_map (acc := fun i => (q.rows.take i).map fun x => V.int (1 + (x.length : Int))) (SqL.of h3) hD rfl (fun i hi => ?_) (fun i v H1 Y hv s1 fy => ?_) (fun H1 s1 hD1 => ?_)⟩
  · rw [List.length_map, List.length_take]
    have : 2 < sizeLine := by decide
    omega
  · obtain ⟨r, hr', rfl⟩ := refs_get hv
    obtain ⟨x, hx, dg⟩ := h5.get hr'
    refine ⟨_, rfl, r, _, rfl, .inl (dg.same s1).sq, _, _, rfl, rfl, fy _ _ (Same.refl _) ?_⟩
    have lm : (ivs x).length = x.length := List.length_map _
    rw [sums_take hx]
    show _ ++ [V.int (1 + (x.length : Int))] = _ ++ [V.int (1 + ((ivs x).length : Int))]
    rw [lm]
  · have ll : (rs.map V.ref).length = q.rows.length := by rw [List.length_map, h5.length]
    rw [ll, List.take_length] at hD1
    refine ⟨D, q.rows.map fun x => 1 + (x.length : Int), rfl, SqL.of ?_, _, _, rfl, rfl, ?_⟩
    · rw [hD1, List.map_map]
      rfl
    · have e : (1 : Int) + ((ivs q.nums).length : Int) + (q.rows.map fun x => 1 + (x.length : Int)).sum = (q.size : Nat) := by
        rw [sum_rows, List.length_map]
        unfold Req.size
        omega
      show Q (.int ((1 : Int) + ((ivs q.nums).length : Int) + (q.rows.map fun x => 1 + (x.length : Int)).sum)) H1
      rw [e]
      exact k H1 s1
def sp_read_requests (K : PySem.W.Frag) (C : Cs) : Sp := fun vs H Q _ => ∃ (ca : Addr) (l : List Nat) (f : Nat) (cs : List Req), vs = [.ref ca] ∧ SqL K H ca (ivs l) ∧ callsN f l = some cs ∧ cs.length ≤ 400 ∧
  ∀ H' p as, Same H H' → H p = none → H' p = some (.lst (as.map V.ref)) → All2 (fun a (q : Req) => ReqAt C (fresh H H') L0 a q.kind q.nums q.rows) as cs → Q (.ref p) H'
theorem ReqAt.same {H H' : Hp} {a : Addr} {kd : Nat} {ns : List Nat} {rows : List (List Nat)} (q : ReqAt C H L0 a kd ns rows) (s : Same H H') : ReqAt C H' L0 a kd ns rows := q.stp (Stp.of_same L0 s)
theorem cal_read_requests (T : Txt K mg C) : Cal P w K mg base 4 "read_requests" (sp_read_requests K C) := by
  refine T.d_read_requests.cal sc_read_requests (fun vs H Q E h => ?_) (fun f cdv A outer s H vs Q E hr h => ⟨_, (pss_cons (ps_set (i := 1) sc_read_requests.nd rfl (Or.inl rfl) (pe_lst pa_nil))
    (pss_cons (ps_set (i := 2) sc_read_requests.nd rfl (Or.inl rfl) pe_int)
    (pss_cons (ps_while PassesOwn.never (pt_cmpR op_lt (pv 2) (pe_callB call_len_seq (by rfl) T.n_len PySem.boot_len (pa_cons (pv 0) pa_nil)) (nomark _))
      (pss_cons (ps_set (i := 3) sc_read_requests.nd rfl (Or.inl rfl) (pe_c (cal_read_request T) hr (by decide) rfl (pa_cons (pv 0) (pa_cons (pv 2) pa_nil))))
    (pss_cons (ps_expr (pe_bm PySem.F.plainAttrs_list PySem.F.slot_list_append PySem.F.type_list_append mt_append (pv 1) (pa_cons (pv 3) pa_nil)))
    (pss_one (ps_aug (i := 2) sc_read_requests.nd rfl (Or.inl rfl) (pe_c (cal_length_of T) hr (by decide) rfl (pa_cons (pv 3) pa_nil)) ip_add)))))
    (pss_one (ps_ret (pv 1)))))), ?_⟩)
  · obtain ⟨ca, l, f, cs, rfl, _⟩ := h
    rfl
  obtain ⟨ca, l, f, cs, rfl, hS, hc, h4, kk⟩ := h
  refine ⟨Nat.zero_le _, fun p hp => ?_⟩
  refine ⟨fun m σ H' => ∃ j pos as fu u, m = l.length - pos ∧ pos ≤ l.length ∧ σ = [some (.ref ca), some (.ref p), some (iv pos), u] ∧ Same H H' ∧ H' p = some (.lst (as.map V.ref)) ∧ All2 (fun a (q : Req) => ReqAt C (hid (fresh H H') p) L0 a q.kind q.nums q.rows) as (cs.take j) ∧ callsN fu (l.drop pos) = some (cs.drop j) ∧ j ≤ cs.length,
    ⟨_, 0, 0, [], f, none, rfl, Nat.zero_le _, rfl, same_new hp, upd_same, .nil, hc, Nat.zero_le _⟩, ?_⟩
  rintro m σ H1 ⟨j, pos, as, fu, u, rfl, hpos, rfl, s1, hp1, al, hc1, hj⟩
  have sq1 := Same.seq s1 hS
  have lm : (ivs l).length = l.length := List.length_map _
  refine ⟨_, rfl, _, rfl, ca, _, rfl, .inl sq1, _, _, rfl, rfl, _, rfl, ?_⟩
  rw [lm]
  by_cases c : pos < l.length
  · refine if_t (decide_eq_true (by omega)) ?_
    obtain ⟨f', q, cs', e1, e2, e3⟩ := callsN_at hc1 c
    have hqj : cs[j]? = some q := by
      have := congrArg (fun z => z[0]?) e1
      simp only [List.getElem?_drop, Nat.add_zero] at this
      exact this
    have hcs : cs.drop (j + 1) = cs' := by
      have := congrArg (List.drop 1) e1
      rw [List.drop_drop] at this
      exact this
    have jl : j < cs.length := (List.getElem?_eq_some_iff.mp hqj).1
    obtain ⟨n, k, sh, g1, g2, g3, g4, g5, g6, g7⟩ := callN_at e2
    have q1 : 1 ≤ q.size := by
      unfold Req.size
      omega
    have rl : q.rows.length ≤ 2 := by
      rw [(rowsN_at g5 g4).1]
      exact (shape_rows sh).2
    refine ⟨fun σ' H' => ∃ as u, σ' = [some (.ref ca), some (.ref p), some (iv (pos + q.size)), u] ∧ Same H H' ∧ H' p = some (.lst (as.map V.ref)) ∧ All2 (fun a (q : Req) => ReqAt C (hid (fresh H H') p) L0 a q.kind q.nums q.rows) as (cs.take (j + 1)), ?_, ?_⟩
    · rintro σ' H' ⟨as, u, rfl, s2, hp2, al2⟩
      refine ⟨_, ?_, j + 1, pos + q.size, as, f', u, rfl, g7, rfl, s2, hp2, al2, ?_, jl⟩
      · omega
      · rw [hcs]
        exact e3
    refine ⟨_, rfl, _, rfl, ca, l, pos, q, _, rfl, sq1, e2, fun H2 a s2 ra => ?_⟩
    have hp2 := s2 _ _ hp1
    refine ⟨_, rfl, .inl ⟨rfl, _, SqL.of hp2⟩, _, rfl, p, _, _, rfl, rfl, hp2, ?_, ?_⟩
    · rw [List.length_map, al.length, List.length_take]
      have : 400 < sizeLine := by decide
      omega
    have e7 : as.map V.ref ++ [V.ref a] = (as ++ [a]).map V.ref := by
      rw [List.map_append]
      rfl
    rw [e7]
    have pa : ∀ o b o', fresh H1 H2 b = some o' → upd H2 p o b = some o' := fun o b o' e => by
      obtain ⟨z1, z2⟩ := fresh_at e
      rw [upd_ne (Ne.symm (ne_of_none hp1 z1))]
      exact z2
    have ra3 : ReqAt C (upd H2 p (.lst ((as ++ [a]).map V.ref))) L0 a q.kind q.nums q.rows := ra.same (pa _)
    have s3 : Same H (upd H2 p (.lst ((as ++ [a]).map V.ref))) := fun b o hb => by
      rw [upd_ne (ne_of_none hb hp)]
      exact s2 _ _ (s1 _ _ hb)
    refine ⟨_, rfl, _, rfl, a, q, rfl, ra3, rl, fun H4 s4 => ?_⟩
    refine ⟨_, _, rfl, rfl, as ++ [a], _, rfl, Same.trans s3 s4, s4 _ _ upd_same, ?_⟩
    rw [take_snoc hqj]
    refine (al.imp fun _ _ z => z.same fun b o e => ?_).snoc (ra.same fun b o e => ?_)
    · obtain ⟨z1, z2⟩ := fresh_at e
      exact hid_of (Ne.symm (ne_of_none hp1 z1)) (fresh_of (s1.free z1) (s4 _ _ (pa _ _ _ e)))
    · obtain ⟨z1, z2⟩ := hid_at e
      obtain ⟨z3, z4⟩ := fresh_at z2
      refine hid_of z1 (fresh_of z3 (s4 _ _ ?_))
      rw [upd_ne z1]
      exact s2 _ _ z4
  · refine if_f (decide_eq_false (by omega)) ?_
    have e : pos = l.length := by omega
    subst e
    rw [List.drop_length] at hc1
    have e2 : cs.drop j = [] := by
      cases fu <;> exact (Option.some.inj hc1).symm
    have e3 : cs.take j = cs := by
      have := List.take_append_drop j cs
      rw [e2, List.append_nil] at this
      exact this
    rw [e3] at al
    exact ⟨_, rfl, kk H1 p as s1 hp hp1 (al.imp fun _ _ z => z.same (hid_same _ _))⟩
end
end Tx
end
section
namespace Tx
open PySem PySem.Spec PyProof.Rows L2
/-! ### all but one stays -/
def Keep (p : Addr) (H H' : Hp) : Prop := ∀ b o, b ≠ p → H b = some o → H' b = some o
theorem Keep.refl (p : Addr) (H : Hp) : Keep p H H := fun _ _ _ h => h
theorem Keep.trans {p : Addr} {H H1 H2 : Hp} (a : Keep p H H1) (b : Keep p H1 H2) : Keep p H H2 := fun c o n h => b c o n (a c o n h)
theorem Keep.of_same {p : Addr} {H H1 : Hp} (s : Same H H1) : Keep p H H1 := fun c o _ h => s c o h
theorem Keep.upd {p : Addr} {H : Hp} {o : HO} : Keep p H (upd H p o) := fun c o' n h => by
  rw [upd_ne n]
  exact h
theorem Keep.free {p b : Addr} {H H' : Hp} (k : Keep p H H') (n : b ≠ p) (h : H' b = none) : H b = none := by
  cases e : H b with
  | none => rfl
  | some o => rw [k b o n e] at h; cases h
section
variable {P : Program} {w : World} {K : PySem.W.Frag} {mg : Str → Option Value} {base : Heap} {C : Cs}
/-! ### a new line -/
theorem put_Line (dl hd : Addr) : (putF "owed" (iv 0) (putF "call" .non (putF "hands" (.ref hd) (putF "dialed" (.ref dl) (putF "number" .non (putF "state" (iv 0) [])))))) = ([("state", (iv 0)), ("number", .non), ("dialed", (.ref dl)), ("hands", (.ref hd)), ("call", .non), ("owed", (iv 0))] : List (Str × V)) := by
  have e1 : putF ("number" : Str) .non ([("state", (iv 0))] : List (Str × V)) = ([("state", (iv 0)), ("number", .non)] : List (Str × V)) := by rw [put_past (by decide +kernel), put_nil]
  have e2 : putF ("dialed" : Str) (.ref dl) ([("state", (iv 0)), ("number", .non)] : List (Str × V)) = ([("state", (iv 0)), ("number", .non), ("dialed", (.ref dl))] : List (Str × V)) := by rw [put_past (by decide +kernel), put_past (by decide +kernel), put_nil]
  have e3 : putF ("hands" : Str) (.ref hd) ([("state", (iv 0)), ("number", .non), ("dialed", (.ref dl))] : List (Str × V)) = ([("state", (iv 0)), ("number", .non), ("dialed", (.ref dl)), ("hands", (.ref hd))] : List (Str × V)) := by rw [put_past (by decide +kernel), put_past (by decide +kernel), put_past (by decide +kernel), put_nil]
  have e4 : putF ("call" : Str) .non ([("state", (iv 0)), ("number", .non), ("dialed", (.ref dl)), ("hands", (.ref hd))] : List (Str × V)) = ([("state", (iv 0)), ("number", .non), ("dialed", (.ref dl)), ("hands", (.ref hd)), ("call", .non)] : List (Str × V)) := by rw [put_past (by decide +kernel), put_past (by decide +kernel), put_past (by decide +kernel), put_past (by decide +kernel), put_nil]
  have e5 : putF ("owed" : Str) (iv 0) ([("state", (iv 0)), ("number", .non), ("dialed", (.ref dl)), ("hands", (.ref hd)), ("call", .non)] : List (Str × V)) = ([("state", (iv 0)), ("number", .non), ("dialed", (.ref dl)), ("hands", (.ref hd)), ("call", .non), ("owed", (iv 0))] : List (Str × V)) := by rw [put_past (by decide +kernel), put_past (by decide +kernel), put_past (by decide +kernel), put_past (by decide +kernel), put_past (by decide +kernel), put_nil]
  rw [put_nil, e1, e2, e3, e4, e5]
/-- a line's object as it's new, all its parts in one heap -/
structure NewLine (C : Cs) (H : Hp) (a hd : Addr) : Prop where
  ex : ∃ dx dl a0 a1 a2, H a = some (.ins C.c_Line dx (lineF 0 .non dl hd .non 0)) ∧ H dl = some (.lst []) ∧ H hd = some (.lst [.ref a0, .ref a1, .ref a2]) ∧ H a0 = some (.lst []) ∧ H a1 = some (.lst []) ∧ H a2 = some (.lst [])
theorem NewLine.same {H H' : Hp} {a hd : Addr} (q : NewLine C H a hd) (s : Same H H') : NewLine C H' a hd := by
  obtain ⟨dx, dl, a0, a1, a2, h1, h2, h3, h4, h5, h6⟩ := q.ex
  exact ⟨dx, dl, a0, a1, a2, s _ _ h1, s _ _ h2, s _ _ h3, s _ _ h4, s _ _ h5, s _ _ h6⟩
/-- new, or the object that is made -/
def freshOr (p : Addr) (H H' : Hp) : Hp := fun b => if b = p then H' b else fresh H H' b
def sp_init_Line (K : PySem.W.Frag) (C : Cs) : Sp := fun vs H Q _ => ∃ (p dx : Addr), vs = [.ref p] ∧ H p = some (.ins C.c_Line dx []) ∧ ∀ H' hd, Keep p H H' → H hd = none → NewLine C (freshOr p H H') p hd → Q .non H'
theorem mak_Line (T : Txt K mg C) : Mak P w K mg base 1 "Line" C.c_Line (sp_init_Line K C) := by
  refine T.l_Line.mak sc_init_Line (fun vs H Q E h => ?_) (fun f cdv A outer s H vs Q E hr h => ⟨_, (pss_cons (ps_fld (pv 0) (pe_gi rfl T.k_IDLE) rfl)
    (pss_cons (ps_fld (pv 0) pe_non rfl)
    (pss_cons (ps_fld (pv 0) (pe_lst pa_nil) rfl)
    (pss_cons (ps_fld (pv 0) (pe_lst (pa_cons (pe_lst pa_nil) (pa_cons (pe_lst pa_nil) (pa_cons (pe_lst pa_nil) pa_nil)))) rfl)
    (pss_cons (ps_fld (pv 0) pe_non rfl)
    (pss_one (ps_fld (pv 0) pe_int rfl))))))), ?_⟩)
  · obtain ⟨p, dx, rfl, _⟩ := h
    rfl
  obtain ⟨p, dx, rfl, hp, k⟩ := h
  refine ⟨_, rfl, p, _, dx, _, rfl, hp, T.cl_Line, T.na_Line_state, (by show 0 < 1000; decide), ?_⟩
  refine ⟨_, rfl, p, _, dx, _, rfl, upd_same, T.cl_Line, T.na_Line_number, (by show 1 < 1000; decide), ?_⟩
  rw [upd_upd]
  generalize e1 : upd H p _ = H1
  have k1 : Keep p H H1 := by
    rw [← e1]
    exact Keep.upd
  have p1 : H1 p = some (.ins C.c_Line dx (putF "number" .non (putF "state" (iv 0) []))) := by
    rw [← e1]
    exact upd_same
  refine ⟨Nat.zero_le _, fun dl hdl => ?_⟩
  have s2 : Same H1 (upd H1 dl (.lst [])) := same_new hdl
  refine ⟨_, rfl, p, _, dx, _, rfl, s2 _ _ p1, T.cl_Line, T.na_Line_dialed, (by show 2 < 1000; decide), ?_⟩
  have np : dl ≠ p := Ne.symm (ne_of_none p1 hdl)
  have d2 : upd H1 dl (.lst []) dl = some (.lst []) := upd_same
  generalize e2 : upd H1 dl (.lst []) = H2 at s2 d2 ⊢
  have k2 : Keep p H1 H2 := Keep.of_same s2
  generalize e3 : upd H2 p _ = H3
  have k3 : Keep p H2 H3 := by
    rw [← e3]
    exact Keep.upd
  have p3 : H3 p = some (.ins C.c_Line dx (putF "dialed" (.ref dl) (putF "number" .non (putF "state" (iv 0) [])))) := by
    rw [← e3]
    exact upd_same
  have d3 := k3 _ _ np d2
  have dlf : H dl = none := k1.free np hdl
  have k03 := (k1.trans k2).trans k3
  refine ⟨Nat.zero_le _, fun a0 h0 => ⟨Nat.zero_le _, fun a1 h1 => ⟨Nat.zero_le _, fun a2 h2 => ⟨by show 3 ≤ sizeLine; decide, fun hd hh => ?_⟩⟩⟩⟩
  have s4 : Same H3 (upd H3 a0 (.lst [])) := same_new h0
  have s5 : Same (upd H3 a0 (.lst [])) (upd (upd H3 a0 (.lst [])) a1 (.lst [])) := same_new h1
  have s6 : Same (upd (upd H3 a0 (.lst [])) a1 (.lst [])) (upd (upd (upd H3 a0 (.lst [])) a1 (.lst [])) a2 (.lst [])) := same_new h2
  have s7 := same_new (o := .lst [.ref a0, .ref a1, .ref a2]) hh
  have s37 := Same.trans s4 (Same.trans s5 (Same.trans s6 s7))
  have g0 := s7 _ _ (s6 _ _ (s5 _ _ (upd_same (H := H3) (a := a0) (o := .lst []))))
  have g1 := s7 _ _ (s6 _ _ (upd_same (H := upd H3 a0 (.lst [])) (a := a1) (o := .lst [])))
  have g2 := s7 _ _ (upd_same (H := upd (upd H3 a0 (.lst [])) a1 (.lst [])) (a := a2) (o := .lst []))
  have g3 : upd (upd (upd (upd H3 a0 (.lst [])) a1 (.lst [])) a2 (.lst [])) hd (.lst [.ref a0, .ref a1, .ref a2]) hd = some (.lst [.ref a0, .ref a1, .ref a2]) := upd_same
  have f0 : H3 a0 = none := h0
  have f1 : H3 a1 = none := s4.free h1
  have f2 : H3 a2 = none := s4.free (s5.free h2)
  have fh : H3 hd = none := s4.free (s5.free (s6.free hh))
  have n0 : a0 ≠ p := Ne.symm (ne_of_none p3 f0)
  have n1 : a1 ≠ p := Ne.symm (ne_of_none p3 f1)
  have n2 : a2 ≠ p := Ne.symm (ne_of_none p3 f2)
  have nh : hd ≠ p := Ne.symm (ne_of_none p3 fh)
  refine ⟨_, rfl, p, _, dx, _, rfl, s37 _ _ p3, T.cl_Line, T.na_Line_hands, (by show 3 < 1000; decide), ?_⟩
  refine ⟨_, rfl, p, _, dx, _, rfl, upd_same, T.cl_Line, T.na_Line_call, (by show 4 < 1000; decide), ?_⟩
  refine ⟨_, rfl, p, _, dx, _, rfl, upd_same, T.cl_Line, T.na_Line_owed, (by show 5 < 1000; decide), ?_⟩
  rw [upd_upd, upd_upd]
  have ef := put_Line dl hd
  have ef' : putF "owed" (iv 0) (putF "call" .non (putF "hands" (.ref hd) (putF "dialed" (.ref dl) (putF "number" .non (putF "state" (iv 0) []))))) = lineF 0 .non dl hd .non 0 := ef
  generalize e7 : upd (upd (upd (upd H3 a0 (.lst [])) a1 (.lst [])) a2 (.lst [])) hd (.lst [.ref a0, .ref a1, .ref a2]) = H7 at s37 g0 g1 g2 g3 ⊢
  have k8 : ∀ o, Keep p H7 (upd H7 p o) := fun o => Keep.upd
  have fo : ∀ {b : Addr} {o o' : HO}, b ≠ p → H b = none → H7 b = some o → freshOr p H (upd H7 p o') b = some o := fun {b o o'} nb hb h7 => by
    unfold freshOr
    rw [if_neg nb]
    exact fresh_of hb (by rw [upd_ne nb]; exact h7)
  refine k _ hd ((k03.trans (Keep.of_same s37)).trans (k8 _)) (k03.free nh fh) ⟨dx, dl, a0, a1, a2, ?_, fo np dlf (s37 _ _ d3), fo nh (k03.free nh fh) g3, fo n0 (k03.free n0 f0) g0, fo n1 (k03.free n1 f1) g1, fo n2 (k03.free n2 f2) g2⟩
  unfold freshOr
  rw [if_pos rfl, upd_same]
  exact congrArg (fun z => some (HO.ins C.c_Line dx z)) ef'
/-! ### a new exchange -/
theorem yes_turn {te : TE} {σ : L2.St} {H : Hp} {Y : VK} {N : Hp → Prop} (h : te σ H Y) : tYes σ H (fun b H3 => if b = true then te σ H3 Y else N H3) := show (if true = true then te σ H Y else N H) from iteT h
def kindOf (p ls gs pd cs rs : Addr) (la ha : List Addr) (old : Addr → Nat) : Addr → Nat := fun b => if b = p then 1 else if b = ls then 2 else if b = gs then 3 else if b = pd then 4 else if b = cs then 5 else if b = rs then 9 else if b ∈ la then 6 else if b ∈ ha then 7 else old b
theorem newLine_at {z : Te.Size} {i : Nat} : Te.lineOf (Te.newHall z) i = Te.newLine := by
  unfold Te.lineOf Te.newHall
  rw [List.getD_eq_getElem?_getD, List.getElem?_replicate]
  split <;> rfl
theorem newStage {z : Te.Size} {i : Nat} : Te.stageNo (Te.newHall z) i = 0 := by
  unfold Te.stageNo
  rw [newLine_at]
  rfl
/-- the parts of a new exchange, and that they differ -/
theorem rep_new {H : Hp} {p ls gs pd cs rs dx : Addr} {la ha : List Addr} {old : Addr → Nat} {z : Te.Size} {G : Hp} (hp : H p = some (.ins C.c_Exchange dx (exF ⟨p, ls, gs, pd, cs, rs, la, ha, [], [], [], fun _ => 0, fun _ => 0⟩ (Te.newHall z)))) (hls : H ls = some (.lst (la.map V.ref))) (hgs : H gs = some (.lst [])) (hpd : H pd = some (.dT [])) (hcs : H cs = some (.lst [])) (hrs : H rs = some (.lst []))
    (ll : la.length = z.lines) (hl : ha.length = z.lines) (lines : ∀ (i : Nat) a b, la[i]? = some a → ha[i]? = some b → NewLine C G a b) (gH : Same G H) (gold : ∀ b, G b ≠ none → old b = 0)
    (np : ∀ b, G b ≠ none → b ≠ p ∧ b ≠ ls ∧ b ≠ gs ∧ b ≠ pd ∧ b ≠ cs ∧ b ≠ rs) (nla : la.Nodup) (nha : ha.Nodup) (d1 : ls ≠ p) (d2 : gs ≠ p ∧ gs ≠ ls) (d3 : pd ≠ p ∧ pd ≠ ls ∧ pd ≠ gs) (d4 : cs ≠ p ∧ cs ≠ ls ∧ cs ≠ gs ∧ cs ≠ pd) (d5 : rs ≠ p ∧ rs ≠ ls ∧ rs ≠ gs ∧ rs ≠ pd ∧ rs ≠ cs) (free : ∀ b, H b = none → old b = 0) :
    Rep C H ⟨p, ls, gs, pd, cs, rs, la, ha, [], [], [], kindOf p ls gs pd cs rs la ha old, fun _ => 0⟩ (Te.newHall z) := by
  have at_la : ∀ a ∈ la, ∃ b, NewLine C G a b := fun a ha' => by
    obtain ⟨i, hi⟩ := List.mem_iff_getElem?.mp ha'
    have : i < ha.length := by
      rw [hl, ← ll]
      exact (List.getElem?_eq_some_iff.mp hi).1
    exact ⟨_, lines i a _ hi (List.getElem?_eq_getElem this)⟩
  have at_ha : ∀ b ∈ ha, ∃ a, NewLine C G a b := fun b hb' => by
    obtain ⟨i, hi⟩ := List.mem_iff_getElem?.mp hb'
    have : i < la.length := by
      rw [ll, ← hl]
      exact (List.getElem?_eq_some_iff.mp hi).1
    exact ⟨_, lines i _ b (List.getElem?_eq_getElem this) hi⟩
  have G_la : ∀ a ∈ la, ∃ dx fs, G a = some (.ins C.c_Line dx fs) := fun a h => by
    obtain ⟨b, q⟩ := at_la a h
    obtain ⟨dx, _, _, _, _, h1, _⟩ := q.ex
    exact ⟨dx, _, h1⟩
  have G_ha : ∀ b ∈ ha, ∃ a0 a1 a2, G b = some (.lst [.ref a0, .ref a1, .ref a2]) := fun b h => by
    obtain ⟨a, q⟩ := at_ha b h
    obtain ⟨dx, _, a0, a1, a2, _, _, h3, _⟩ := q.ex
    exact ⟨a0, a1, a2, h3⟩
  have k0 : ∀ b, G b = some (.lst []) → kindOf p ls gs pd cs rs la ha old b = 0 := fun b hb => by
    have hb' : G b ≠ none := by rw [hb]; exact fun z => by cases z
    obtain ⟨n1, n2, n3, n4, n5, n8⟩ := np b hb'
    have n6 : b ∉ la := fun q => by
      obtain ⟨_, _, e⟩ := G_la b q
      rw [hb] at e
      cases e
    have n7 : b ∉ ha := fun q => by
      obtain ⟨_, _, _, e⟩ := G_ha b q
      rw [hb] at e
      cases e
    unfold kindOf
    rw [if_neg n1, if_neg n2, if_neg n3, if_neg n4, if_neg n5, if_neg n8, if_neg n6, if_neg n7]
    exact gold b hb'
  have some_ne : ∀ {b : Addr} {o : HO}, G b = some o → G b ≠ none := fun h => by rw [h]; exact fun z => by cases z
  refine ⟨⟨dx, hp⟩, hls, ?_, ?_, fun i a b h1 h2 => ?_, hgs, .nil, ⟨[], hpd, ⟨rfl, fun d => rfl⟩⟩, hcs, rfl, rfl, (fun k a c q h => by simp at h), ?_, ?_, ?_, ?_, ?_, fun a h => ?_, fun b h => ?_, (fun a h => by cases h), nla, nha, List.nodup_nil, fun b hb => ?_, ⟨hrs, ?_, .nil⟩⟩
  · show la.length = (List.replicate z.lines Te.newLine).length
    rw [List.length_replicate]
    exact ll
  · show ha.length = (List.replicate z.lines Te.newLine).length
    rw [List.length_replicate]
    exact hl
  · obtain ⟨dx1, dl, a0, a1, a2, g1, g2, g3, g4, g5, g6⟩ := (lines i a b h1 h2).ex
    refine ⟨dx1, .non, dl, [], a0, a1, a2, .non, by rw [newLine_at]; exact gH _ _ g1, ?_, ⟨gH _ _ g2, k0 dl g2⟩, fun d e => ?_, gH _ _ g3, ?_, ?_, ?_, fun k c e => ?_, fun _ => rfl⟩
    · rw [newLine_at]
      rfl
    · rw [newLine_at] at e
      cases e
    · rw [newLine_at]
      exact ⟨gH _ _ g4, k0 a0 g4⟩
    · rw [newLine_at]
      exact ⟨gH _ _ g5, k0 a1 g5⟩
    · rw [newLine_at]
      exact ⟨gH _ _ g6, k0 a2 g6⟩
    · rw [newLine_at] at e
      cases e
  · show kindOf p ls gs pd cs rs la ha old p = 1
    unfold kindOf
    rw [if_pos rfl]
  · show kindOf p ls gs pd cs rs la ha old ls = 2
    unfold kindOf
    rw [if_neg d1, if_pos rfl]
  · show kindOf p ls gs pd cs rs la ha old gs = 3
    unfold kindOf
    rw [if_neg d2.1, if_neg d2.2, if_pos rfl]
  · show kindOf p ls gs pd cs rs la ha old pd = 4
    unfold kindOf
    rw [if_neg d3.1, if_neg d3.2.1, if_neg d3.2.2, if_pos rfl]
  · show kindOf p ls gs pd cs rs la ha old cs = 5
    unfold kindOf
    rw [if_neg d4.1, if_neg d4.2.1, if_neg d4.2.2.1, if_neg d4.2.2.2, if_pos rfl]
  · obtain ⟨_, _, e⟩ := G_la a h
    obtain ⟨n1, n2, n3, n4, n5, n8⟩ := np a (some_ne e)
    show kindOf p ls gs pd cs rs la ha old a = 6
    unfold kindOf
    rw [if_neg n1, if_neg n2, if_neg n3, if_neg n4, if_neg n5, if_neg n8, if_pos h]
  · obtain ⟨_, _, _, e⟩ := G_ha b h
    obtain ⟨n1, n2, n3, n4, n5, n8⟩ := np b (some_ne e)
    have n6 : b ∉ la := fun q => by
      obtain ⟨_, _, e2⟩ := G_la b q
      rw [e] at e2
      cases e2
    show kindOf p ls gs pd cs rs la ha old b = 7
    unfold kindOf
    rw [if_neg n1, if_neg n2, if_neg n3, if_neg n4, if_neg n5, if_neg n8, if_neg n6, if_pos h]
  · have nb : ∀ {c : Addr} {o : HO}, H c = some o → b ≠ c := fun hc e => by
      rw [e, hc] at hb
      cases hb
    have n6 : b ∉ la := fun q => by
      obtain ⟨_, _, e⟩ := G_la b q
      exact nb (gH _ _ e) rfl
    have n7 : b ∉ ha := fun q => by
      obtain ⟨_, _, _, e⟩ := G_ha b q
      exact nb (gH _ _ e) rfl
    show kindOf p ls gs pd cs rs la ha old b = 0
    unfold kindOf
    rw [if_neg (nb hp), if_neg (nb hls), if_neg (nb hgs), if_neg (nb hpd), if_neg (nb hcs), if_neg (nb hrs), if_neg n6, if_neg n7]
    exact free b hb
  · show kindOf p ls gs pd cs rs la ha old rs = 9
    unfold kindOf
    rw [if_neg d5.1, if_neg d5.2.1, if_neg d5.2.2.1, if_neg d5.2.2.2.1, if_neg d5.2.2.2.2, if_pos rfl]
theorem put_Exchange (n m : Nat) (ls gs pd cs rs : Addr) : (putF "wait" (iv 30) (putF "time" (iv 0) (putF "moved" (iv 0) (putF "records" (.ref rs) (putF "calls" (.ref cs) (putF "prices" (.ref pd) (putF "groups" (.ref gs) (putF "lines" (.ref ls) (putF "middles" (iv m) (putF "lines_each" (iv n) [])))))))))) = ([("lines_each", (iv n)), ("middles", (iv m)), ("lines", (.ref ls)), ("groups", (.ref gs)), ("prices", (.ref pd)), ("calls", (.ref cs)), ("records", (.ref rs)), ("moved", (iv 0)), ("time", (iv 0)), ("wait", (iv 30))] : List (Str × V)) := by
  have e1 : putF ("middles" : Str) (iv m) ([("lines_each", (iv n))] : List (Str × V)) = ([("lines_each", (iv n)), ("middles", (iv m))] : List (Str × V)) := by rw [put_past (by decide +kernel), put_nil]
  have e2 : putF ("lines" : Str) (.ref ls) ([("lines_each", (iv n)), ("middles", (iv m))] : List (Str × V)) = ([("lines_each", (iv n)), ("middles", (iv m)), ("lines", (.ref ls))] : List (Str × V)) := by rw [put_past (by decide +kernel), put_past (by decide +kernel), put_nil]
  have e3 : putF ("groups" : Str) (.ref gs) ([("lines_each", (iv n)), ("middles", (iv m)), ("lines", (.ref ls))] : List (Str × V)) = ([("lines_each", (iv n)), ("middles", (iv m)), ("lines", (.ref ls)), ("groups", (.ref gs))] : List (Str × V)) := by rw [put_past (by decide +kernel), put_past (by decide +kernel), put_past (by decide +kernel), put_nil]
  have e4 : putF ("prices" : Str) (.ref pd) ([("lines_each", (iv n)), ("middles", (iv m)), ("lines", (.ref ls)), ("groups", (.ref gs))] : List (Str × V)) = ([("lines_each", (iv n)), ("middles", (iv m)), ("lines", (.ref ls)), ("groups", (.ref gs)), ("prices", (.ref pd))] : List (Str × V)) := by rw [put_past (by decide +kernel), put_past (by decide +kernel), put_past (by decide +kernel), put_past (by decide +kernel), put_nil]
  have e5 : putF ("calls" : Str) (.ref cs) ([("lines_each", (iv n)), ("middles", (iv m)), ("lines", (.ref ls)), ("groups", (.ref gs)), ("prices", (.ref pd))] : List (Str × V)) = ([("lines_each", (iv n)), ("middles", (iv m)), ("lines", (.ref ls)), ("groups", (.ref gs)), ("prices", (.ref pd)), ("calls", (.ref cs))] : List (Str × V)) := by rw [put_past (by decide +kernel), put_past (by decide +kernel), put_past (by decide +kernel), put_past (by decide +kernel), put_past (by decide +kernel), put_nil]
  have e6 : putF ("records" : Str) (.ref rs) ([("lines_each", (iv n)), ("middles", (iv m)), ("lines", (.ref ls)), ("groups", (.ref gs)), ("prices", (.ref pd)), ("calls", (.ref cs))] : List (Str × V)) = ([("lines_each", (iv n)), ("middles", (iv m)), ("lines", (.ref ls)), ("groups", (.ref gs)), ("prices", (.ref pd)), ("calls", (.ref cs)), ("records", (.ref rs))] : List (Str × V)) := by rw [put_past (by decide +kernel), put_past (by decide +kernel), put_past (by decide +kernel), put_past (by decide +kernel), put_past (by decide +kernel), put_past (by decide +kernel), put_nil]
  have e7 : putF ("moved" : Str) (iv 0) ([("lines_each", (iv n)), ("middles", (iv m)), ("lines", (.ref ls)), ("groups", (.ref gs)), ("prices", (.ref pd)), ("calls", (.ref cs)), ("records", (.ref rs))] : List (Str × V)) = ([("lines_each", (iv n)), ("middles", (iv m)), ("lines", (.ref ls)), ("groups", (.ref gs)), ("prices", (.ref pd)), ("calls", (.ref cs)), ("records", (.ref rs)), ("moved", (iv 0))] : List (Str × V)) := by rw [put_past (by decide +kernel), put_past (by decide +kernel), put_past (by decide +kernel), put_past (by decide +kernel), put_past (by decide +kernel), put_past (by decide +kernel), put_past (by decide +kernel), put_nil]
  have e8 : putF ("time" : Str) (iv 0) ([("lines_each", (iv n)), ("middles", (iv m)), ("lines", (.ref ls)), ("groups", (.ref gs)), ("prices", (.ref pd)), ("calls", (.ref cs)), ("records", (.ref rs)), ("moved", (iv 0))] : List (Str × V)) = ([("lines_each", (iv n)), ("middles", (iv m)), ("lines", (.ref ls)), ("groups", (.ref gs)), ("prices", (.ref pd)), ("calls", (.ref cs)), ("records", (.ref rs)), ("moved", (iv 0)), ("time", (iv 0))] : List (Str × V)) := by rw [put_past (by decide +kernel), put_past (by decide +kernel), put_past (by decide +kernel), put_past (by decide +kernel), put_past (by decide +kernel), put_past (by decide +kernel), put_past (by decide +kernel), put_past (by decide +kernel), put_nil]
  have e9 : putF ("wait" : Str) (iv 30) ([("lines_each", (iv n)), ("middles", (iv m)), ("lines", (.ref ls)), ("groups", (.ref gs)), ("prices", (.ref pd)), ("calls", (.ref cs)), ("records", (.ref rs)), ("moved", (iv 0)), ("time", (iv 0))] : List (Str × V)) = ([("lines_each", (iv n)), ("middles", (iv m)), ("lines", (.ref ls)), ("groups", (.ref gs)), ("prices", (.ref pd)), ("calls", (.ref cs)), ("records", (.ref rs)), ("moved", (iv 0)), ("time", (iv 0)), ("wait", (iv 30))] : List (Str × V)) := by rw [put_past (by decide +kernel), put_past (by decide +kernel), put_past (by decide +kernel), put_past (by decide +kernel), put_past (by decide +kernel), put_past (by decide +kernel), put_past (by decide +kernel), put_past (by decide +kernel), put_past (by decide +kernel), put_nil]
  rw [put_nil, e1, e2, e3, e4, e5, e6, e7, e8, e9]
def sp_init_Exchange (K : PySem.W.Frag) (C : Cs) : Sp := fun vs H Q _ => ∃ (p dx : Addr) (n r m : Nat) (old : Addr → Nat), vs = [.ref p, iv n, iv r, iv m] ∧ SizeOk ⟨n, r, m⟩ ∧ H p = some (.ins C.c_Exchange dx []) ∧ (∀ b, H b = none → old b = 0) ∧
  ∀ H' L, Keep p H H' → L.ex = p → Rep C H' L (Te.newHall ⟨n, r, m⟩) → Tells L (Te.newHall ⟨n, r, m⟩) → (∀ b o, H b = some o → b ≠ p → L.kind b = old b) → Q .non H'
theorem mak_Exchange (T : Txt K mg C) : Mak P w K mg base 3 "Exchange" C.c_Exchange (sp_init_Exchange K C) := by
  refine T.l_Exchange.mak sc_init_Exchange (fun vs H Q E h => ?_) (fun f cdv A outer s H vs Q E hr h => ⟨_, (pss_cons (ps_fld (pv 0) (pv 1) rfl)
    (pss_cons (ps_fld (pv 0) (pv 3) rfl)
    (pss_cons (ps_fld (pv 0) (pe_lc (own := [("place", 4)]) (g := (gName 4)) (tt := tYes) (te := (tMake C.c_Line (sp_init_Line K C) [] E0 tNil)) rfl sc_init_Exchange.nd (pi_range1 rfl T.n_range (pa_cons (pe_op op_mul (pv 1) (pv 2)) pa_nil)) (blkOk_by (N := ["self", "lines_each", "switches", "middles", "place"]) (sc := defScope s_init_Exchange) (by decide +kernel)) (fun _ _ _ _ _ => (pg_name (i := 4) sc_init_Exchange.nd rfl (Or.inl rfl))) (fun _ _ _ _ _ => pts_nil) (fun _ _ _ _ _ => (pe_mk0 (mak_Line T) hr (by decide) rfl))) rfl)
    (pss_cons (ps_fld (pv 0) (pe_lst pa_nil) rfl)
    (pss_cons (ps_fld (pv 0) pe_dnewT rfl)
    (pss_cons (ps_fld (pv 0) (pe_lst pa_nil) rfl)
    (pss_cons (ps_fld (pv 0) (pe_lst pa_nil) rfl)
    (pss_cons (ps_fld (pv 0) pe_int rfl)
    (pss_cons (ps_fld (pv 0) pe_int rfl)
    (pss_one (ps_fld (pv 0) (pe_gi rfl T.k_FIRST_WAIT) rfl))))))))))), ?_⟩)
  · obtain ⟨p, dx, n, r, m, old, rfl, _⟩ := h
    rfl
  obtain ⟨p, dx, n, r, m, old, rfl, Z, hp, ho, k⟩ := h
  have n8 : n ≤ 8 := Z.n8
  have r8 : r ≤ 8 := Z.r8
  have nr : n * r ≤ 64 := Nat.mul_le_mul n8 r8
  refine ⟨_, rfl, _, rfl, p, _, dx, _, rfl, hp, T.cl_Exchange, T.na_Exchange_lines_each, (by show 0 < 1000; decide), ?_⟩
  refine ⟨_, rfl, _, rfl, p, _, dx, _, rfl, upd_same, T.cl_Exchange, T.na_Exchange_middles, (by show 1 < 1000; decide), ?_⟩
  rw [upd_upd]
  generalize e1 : upd H p _ = H1
  have k1 : Keep p H H1 := by
    rw [← e1]
    exact Keep.upd
  have p1 : H1 p = some (.ins C.c_Exchange dx (putF "middles" (iv m) (putF "lines_each" (iv n) []))) := by
    rw [← e1]
    exact upd_same
  refine ⟨_, rfl, _, rfl, _, _, rfl, rfl, .inl ⟨by omega, by omega⟩, _, rfl, ?_, ?_, fun D hD => ?_⟩
  · have : (0 : Int) ≤ (n : Int) * (r : Int) := Int.mul_nonneg (by omega) (by omega)
    omega
  · have : (n : Int) * (r : Int) = ((n * r : Nat) : Int) := by rw [Int.natCast_mul]
    omega
  have en : ((n : Int) * (r : Int)).toNat = n * r := by rw [← Int.natCast_mul]; rfl
  rw [en]
  refine lc_range (fun i Hc => ∃ la ha, la.length = i ∧ ha.length = i ∧ Same H1 Hc ∧ Hc D = some (.lst (la.map V.ref)) ∧ la.Nodup ∧ ha.Nodup ∧ ∀ (j : Nat) a b, la[j]? = some a → ha[j]? = some b → NewLine C (hid (fresh H1 Hc) D) a b)
    ⟨[], [], rfl, rfl, same_new hD, upd_same, List.nodup_nil, List.nodup_nil, fun j a b h => by simp at h⟩ ?_ ?_
  · rintro i Hc hi ⟨la, ha, l1, l2, s1, hDc, nd1, nd2, nl⟩
    refine ⟨wipe_set _ 4 _, yes_turn ?_⟩
    intro x dx' nx ndx ne
    refine ⟨x, dx', rfl, upd_same, fun H' hd kp fhd nl' => ⟨rfl, ?_⟩⟩
    have hc' : ∀ b o, Hc b = some o → H' b = some o := fun b o hb => by
      refine kp b o (ne_of_none hb nx) ?_
      rw [upd_ne (ne_of_none hb nx), upd_ne (ne_of_none hb ndx)]
      exact hb
    have hDx : D ≠ x := ne_of_none hDc nx
    have fhd' : Hc hd = none := by
      have h1 : hd ≠ x := fun e => by
        rw [e, upd_same] at fhd
        cases fhd
      have h2 : hd ≠ dx' := fun e => by
        rw [e, upd_ne ne, upd_same] at fhd
        cases fhd
      rw [upd_ne h1, upd_ne h2] at fhd
      exact fhd
    have ll : (la.map V.ref).length < sizeLine := by
      rw [List.length_map, l1]
      have : 64 < sizeLine := by decide
      omega
    refine ⟨la.map V.ref, hc' _ _ hDc, ll, la ++ [x], ha ++ [hd], by rw [List.length_append, l1]; rfl, by rw [List.length_append, l2]; rfl, fun b o hb => ?_, ?_, ?_, ?_, ?_⟩
    · rw [upd_ne (ne_of_none hb hD)]
      exact hc' _ _ (s1 _ _ hb)
    · rw [List.map_append]
      exact upd_same
    · refine nd_snoc nd1 fun q => ?_
      obtain ⟨j, hj⟩ := List.mem_iff_getElem?.mp q
      have : j < ha.length := by
        rw [l2, ← l1]
        exact (List.getElem?_eq_some_iff.mp hj).1
      obtain ⟨_, _, _, _, _, g1, _⟩ := (nl j x _ hj (List.getElem?_eq_getElem this)).ex
      have := (fresh_at (hid_at g1).2).2
      rw [nx] at this
      cases this
    · refine nd_snoc nd2 fun q => ?_
      obtain ⟨j, hj⟩ := List.mem_iff_getElem?.mp q
      have : j < la.length := by
        rw [l1, ← l2]
        exact (List.getElem?_eq_some_iff.mp hj).1
      obtain ⟨_, _, _, _, _, _, _, g1, _⟩ := (nl j _ hd (List.getElem?_eq_getElem this) hj).ex
      have := (fresh_at (hid_at g1).2).2
      rw [fhd'] at this
      cases this
    · intro j a b hja hjb
      rw [List.getElem?_append] at hja hjb
      by_cases c : j < i
      · rw [if_pos (by rw [l1]; exact c)] at hja
        rw [if_pos (by rw [l2]; exact c)] at hjb
        refine (nl j a b hja hjb).same fun b' o' e => ?_
        obtain ⟨z1, z2⟩ := hid_at e
        obtain ⟨z3, z4⟩ := fresh_at z2
        refine hid_of z1 (fresh_of z3 ?_)
        rw [upd_ne z1]
        exact hc' _ _ z4
      · rw [if_neg (by rw [l1]; exact c)] at hja
        rw [if_neg (by rw [l2]; exact c)] at hjb
        have hja := List.mem_of_getElem? hja
        have hjb := List.mem_of_getElem? hjb
        rw [List.mem_singleton] at hja hjb
        subst hja hjb
        refine nl'.same fun b' o' e => ?_
        unfold freshOr at e
        by_cases q : b' = a
        · subst q
          rw [if_pos rfl] at e
          refine hid_of (Ne.symm hDx) (fresh_of (s1.free nx) ?_)
          rw [upd_ne (Ne.symm hDx)]
          exact e
        · rw [if_neg q] at e
          obtain ⟨z1, z2⟩ := fresh_at e
          have q2 : b' ≠ dx' := fun z => by
            rw [z, upd_ne ne, upd_same] at z1
            cases z1
          rw [upd_ne q, upd_ne q2] at z1
          have q3 : b' ≠ D := fun z => by
            rw [z, hDc] at z1
            cases z1
          refine hid_of q3 (fresh_of (s1.free z1) ?_)
          rw [upd_ne q3]
          exact z2
  · rintro Hc ⟨la, ha, l1, l2, s1, hDc, nd1, nd2, nl⟩
    have pc := s1 _ _ p1
    have dp : D ≠ p := Ne.symm (ne_of_none p1 hD)
    -- self.lines
    refine ⟨_, rfl, p, _, dx, _, rfl, pc, T.cl_Exchange, T.na_Exchange_lines, (by show 2 < 1000; decide), ?_⟩
    generalize e2 : upd Hc p _ = H2
    have k2 : Keep p Hc H2 := by
      rw [← e2]
      exact Keep.upd
    have p2 : H2 p = some (.ins C.c_Exchange dx (putF "lines" (.ref D) (putF "middles" (iv m) (putF "lines_each" (iv n) [])))) := by
      rw [← e2]
      exact upd_same
    -- self.groups
    refine ⟨Nat.zero_le _, fun gs hgs => ?_⟩
    have s3 : Same H2 (upd H2 gs (.lst [])) := same_new hgs
    refine ⟨_, rfl, p, _, dx, _, rfl, s3 _ _ p2, T.cl_Exchange, T.na_Exchange_groups, (by show 3 < 1000; decide), ?_⟩
    have gp : gs ≠ p := Ne.symm (ne_of_none p2 hgs)
    have q3 : upd H2 gs (.lst []) gs = some (.lst []) := upd_same
    generalize e3 : upd H2 gs (.lst []) = H3 at s3 q3 ⊢
    generalize e4 : upd H3 p _ = H4
    have k4 : Keep p H3 H4 := by
      rw [← e4]
      exact Keep.upd
    have p4 : H4 p = some (.ins C.c_Exchange dx (putF "groups" (.ref gs) (putF "lines" (.ref D) (putF "middles" (iv m) (putF "lines_each" (iv n) []))))) := by
      rw [← e4]
      exact upd_same
    have k24 : Keep p H2 H4 := (Keep.of_same s3).trans k4
    have q4 := k4 _ _ gp q3
    -- self.prices
    refine fun pd hpd => ?_
    have s5 : Same H4 (upd H4 pd (.dT [])) := same_new hpd
    refine ⟨_, rfl, p, _, dx, _, rfl, s5 _ _ p4, T.cl_Exchange, T.na_Exchange_prices, (by show 4 < 1000; decide), ?_⟩
    have pp : pd ≠ p := Ne.symm (ne_of_none p4 hpd)
    have q5 : upd H4 pd (.dT []) pd = some (.dT []) := upd_same
    generalize e5 : upd H4 pd (.dT []) = H5 at s5 q5 ⊢
    generalize e6 : upd H5 p _ = H6
    have k6 : Keep p H5 H6 := by
      rw [← e6]
      exact Keep.upd
    have p6 : H6 p = some (.ins C.c_Exchange dx (putF "prices" (.ref pd) (putF "groups" (.ref gs) (putF "lines" (.ref D) (putF "middles" (iv m) (putF "lines_each" (iv n) [])))))) := by
      rw [← e6]
      exact upd_same
    have k46 : Keep p H4 H6 := (Keep.of_same s5).trans k6
    have q6 := k6 _ _ pp q5
    -- self.calls
    refine ⟨Nat.zero_le _, fun cs hcs => ?_⟩
    have s7 : Same H6 (upd H6 cs (.lst [])) := same_new hcs
    refine ⟨_, rfl, p, _, dx, _, rfl, s7 _ _ p6, T.cl_Exchange, T.na_Exchange_calls, (by show 5 < 1000; decide), ?_⟩
    have cp : cs ≠ p := Ne.symm (ne_of_none p6 hcs)
    have q7 : upd H6 cs (.lst []) cs = some (.lst []) := upd_same
    generalize e7 : upd H6 cs (.lst []) = H7 at s7 q7 ⊢
    have k67 : Keep p H6 H7 := Keep.of_same s7
    have p7 := s7 _ _ p6
    generalize e8 : upd H7 p _ = H8
    have k78 : Keep p H7 H8 := by
      rw [← e8]
      exact Keep.upd
    have p8 : H8 p = some (.ins C.c_Exchange dx (putF "calls" (.ref cs) (putF "prices" (.ref pd) (putF "groups" (.ref gs) (putF "lines" (.ref D) (putF "middles" (iv m) (putF "lines_each" (iv n) []))))))) := by
      rw [← e8]
      exact upd_same
    have k68 : Keep p H6 H8 := k67.trans k78
    have q8 := k78 _ _ cp q7
    -- self.records
    refine ⟨Nat.zero_le _, fun rs hrs => ?_⟩
    have s9 : Same H8 (upd H8 rs (.lst [])) := same_new hrs
    refine ⟨_, rfl, p, _, dx, _, rfl, s9 _ _ p8, T.cl_Exchange, T.na_Exchange_records, (by show 6 < 1000; decide), ?_⟩
    have rp : rs ≠ p := Ne.symm (ne_of_none p8 hrs)
    have q9 : upd H8 rs (.lst []) rs = some (.lst []) := upd_same
    generalize e9 : upd H8 rs (.lst []) = H9 at s9 q9 ⊢
    -- self.moved, self.time, self.wait
    refine ⟨_, rfl, p, _, dx, _, rfl, upd_same, T.cl_Exchange, T.na_Exchange_moved, (by show 7 < 1000; decide), ?_⟩
    refine ⟨_, rfl, p, _, dx, _, rfl, upd_same, T.cl_Exchange, T.na_Exchange_time, (by show 8 < 1000; decide), ?_⟩
    refine ⟨_, rfl, p, _, dx, _, rfl, upd_same, T.cl_Exchange, T.na_Exchange_wait, (by show 9 < 1000; decide), ?_⟩
    rw [upd_upd, upd_upd, upd_upd]
    have kEnd : ∀ o, Keep p H9 (upd H9 p o) := fun o => Keep.upd
    have k89 : Keep p H8 H9 := Keep.of_same s9
    have ef := put_Exchange n m D gs pd cs rs
    -- all parts that were there stay
    have toEnd : ∀ {o}, Keep p Hc (upd H9 p o) := fun {o} => ((((k2.trans k24).trans k46).trans k68).trans k89).trans (kEnd o)
    have to4 : Keep p Hc H4 := k2.trans k24
    have to6 : Keep p Hc H6 := to4.trans k46
    have D4 := to4 _ _ dp hDc
    have D6 := to6 _ _ dp hDc
    have D2 := k2 _ _ dp hDc
    have ng : gs ≠ D := Ne.symm (ne_of_none D2 hgs)
    have npd : pd ≠ D ∧ pd ≠ gs := ⟨Ne.symm (ne_of_none D4 hpd), Ne.symm (ne_of_none q4 hpd)⟩
    have g6 := k46 _ _ gp q4
    have ncs : cs ≠ D ∧ cs ≠ gs ∧ cs ≠ pd := ⟨Ne.symm (ne_of_none D6 hcs), Ne.symm (ne_of_none g6 hcs), Ne.symm (ne_of_none q6 hcs)⟩
    have to8 : Keep p Hc H8 := to6.trans k68
    have D8 := to8 _ _ dp hDc
    have g8 := k68 _ _ gp g6
    have pd8 := k68 _ _ pp q6
    have nrs : rs ≠ D ∧ rs ≠ gs ∧ rs ≠ pd ∧ rs ≠ cs := ⟨Ne.symm (ne_of_none D8 hrs), Ne.symm (ne_of_none g8 hrs), Ne.symm (ne_of_none pd8 hrs), Ne.symm (ne_of_none q8 hrs)⟩
    have inG : ∀ b, hid (fresh H1 Hc) D b ≠ none → ∃ o, Hc b = some o ∧ b ≠ D ∧ H1 b = none ∧ b ≠ p := fun b hb => by
      cases e : hid (fresh H1 Hc) D b with
      | none => exact absurd e hb
      | some o =>
        obtain ⟨z1, z2⟩ := hid_at e
        obtain ⟨z3, z4⟩ := fresh_at z2
        exact ⟨o, z4, z1, z3, Ne.symm (ne_of_none p1 z3)⟩
    have RR := rep_new (C := C) (H := upd H9 p (.ins C.c_Exchange dx (exF ⟨p, D, gs, pd, cs, rs, la, ha, [], [], [], fun _ => 0, fun _ => 0⟩ (Te.newHall ⟨n, r, m⟩)))) (p := p) (ls := D) (gs := gs) (pd := pd) (cs := cs) (rs := rs) (dx := dx) (la := la) (ha := ha) (old := old) (z := ⟨n, r, m⟩) (G := hid (fresh H1 Hc) D) upd_same
      (toEnd _ _ dp hDc) (kEnd _ _ _ gp (k89 _ _ gp g8)) (kEnd _ _ _ pp (k89 _ _ pp pd8)) (kEnd _ _ _ cp (k89 _ _ cp q8)) (kEnd _ _ _ rp q9) l1 l2 nl (fun b o e => by
        obtain ⟨z1, z2⟩ := hid_at e
        obtain ⟨z3, z4⟩ := fresh_at z2
        exact toEnd _ _ (Ne.symm (ne_of_none p1 z3)) z4)
      (fun b hb => by
        obtain ⟨o, _, _, z3, z4⟩ := inG b hb
        exact ho b (k1.free z4 z3))
      (fun b hb => by
        obtain ⟨o, z1, z2, z3, z4⟩ := inG b hb
        exact ⟨z4, z2, ne_of_none (k2 _ _ z4 z1) hgs, ne_of_none (to4 _ _ z4 z1) hpd, ne_of_none (to6 _ _ z4 z1) hcs, ne_of_none (to8 _ _ z4 z1) hrs⟩)
      nd1 nd2 dp ⟨gp, ng⟩ ⟨pp, npd.1, npd.2⟩ ⟨cp, ncs.1, ncs.2.1, ncs.2.2⟩ ⟨rp, nrs.1, nrs.2.1, nrs.2.2.1, nrs.2.2.2⟩ (fun b hb => by
        by_cases e : b = p
        · subst e
          rw [upd_same] at hb
          cases hb
        · refine ho b (k1.free e (s1.free ?_))
          exact toEnd.free e hb)
    refine k _ ⟨p, D, gs, pd, cs, rs, la, ha, [], [], [], kindOf p D gs pd cs rs la ha old, fun _ => 0⟩ ((k1.trans (Keep.of_same s1)).trans toEnd) rfl ?_ (fun j _ => newStage.symm) (fun b o hb nb => ?_)
    rotate_left
    · have h1 := k1 _ _ nb hb
      have hc := s1 _ _ h1
      have n6 : b ∉ la := fun q => by
        obtain ⟨j, hj⟩ := List.mem_iff_getElem?.mp q
        have : j < ha.length := by
          rw [l2, ← l1]
          exact (List.getElem?_eq_some_iff.mp hj).1
        obtain ⟨_, _, _, _, _, g1, _⟩ := (nl j b _ hj (List.getElem?_eq_getElem this)).ex
        have := (fresh_at (hid_at g1).2).1
        rw [h1] at this
        cases this
      have n7 : b ∉ ha := fun q => by
        obtain ⟨j, hj⟩ := List.mem_iff_getElem?.mp q
        have : j < la.length := by
          rw [l1, ← l2]
          exact (List.getElem?_eq_some_iff.mp hj).1
        obtain ⟨_, _, _, _, _, _, _, g1, _⟩ := (nl j _ b (List.getElem?_eq_getElem this) hj).ex
        have := (fresh_at (hid_at g1).2).1
        rw [h1] at this
        cases this
      show kindOf p D gs pd cs rs la ha old b = old b
      unfold kindOf
      rw [if_neg nb, if_neg (ne_of_none h1 hD), if_neg (ne_of_none (k2 _ _ nb hc) hgs), if_neg (ne_of_none (to4 _ _ nb hc) hpd), if_neg (ne_of_none (to6 _ _ nb hc) hcs), if_neg (ne_of_none (to8 _ _ nb hc) hrs), if_neg n6, if_neg n7]
    · refine Eq.mpr ?_ RR
      congr 3
end
end Tx
end
section
namespace Tx
open PySem PySem.Spec PyProof.Rows L2
section
variable {P : Program} {w : World} {K : PySem.W.Frag} {mg : Str → Option Value} {base : Heap} {C : Cs}
/-! ### sizes -/
def fits (n r m : Nat) : Bool := decide (1 ≤ n ∧ n ≤ 8 ∧ 1 ≤ r ∧ r ≤ 8 ∧ n ≤ m ∧ m ≤ 16)
def sp_sizes_fit (K : PySem.W.Frag) (C : Cs) : Sp := fun vs H Q _ => ∃ n r m : Nat, vs = [iv n, iv r, iv m] ∧ Q (.bl (fits n r m)) H
theorem cal_sizes_fit (T : Txt K mg C) : Cal P w K mg base 1 "sizes_fit" (sp_sizes_fit K C) := by
  refine T.d_sizes_fit.cal sc_sizes_fit (fun vs H Q E h => ?_) (fun f cdv A outer s H vs Q E hr h => ⟨_, (pss_cons (ps_if (PW.pt (pw_or (pt_cmpR op_lt (pv 0) pe_int (nomark _)) (pw_or1 (pt_cmpR op_gt (pv 0) (pe_gi rfl T.k_MOST_LINES_EACH) (nomark _)))))
      (pss_one (ps_ret pe_bl))
      pss_nil)
    (pss_cons (ps_if (PW.pt (pw_or (pt_cmpR op_lt (pv 1) pe_int (nomark _)) (pw_or1 (pt_cmpR op_gt (pv 1) (pe_gi rfl T.k_MOST_SWITCHES) (nomark _)))))
      (pss_one (ps_ret pe_bl))
      pss_nil)
    (pss_one (ps_ret (pe_and (pe_cmpR op_le (pv 0) (pv 2) (nomark _)) (pe_one (pe_cmpR op_le (pv 2) (pe_gi rfl T.k_MOST_MIDDLES) (nomark _)))))))), ?_⟩)
  · obtain ⟨n, r, m, rfl, _⟩ := h
    rfl
  obtain ⟨n, r, m, rfl, k⟩ := h
  have no : ¬ (1 ≤ n ∧ n ≤ 8 ∧ 1 ≤ r ∧ r ≤ 8 ∧ n ≤ m ∧ m ≤ 16) → Q (.bl false) H := fun z => by
    have e : fits n r m = false := decide_eq_false z
    rw [e] at k
    exact k
  refine ⟨_, rfl, _, _, rfl, rfl, _, rfl, ?_⟩
  by_cases c1 : n < 1
  · exact if_t (decide_eq_true (by omega)) (iteT (no (by omega)))
  refine if_f (decide_eq_false (by omega)) ⟨_, rfl, _, _, rfl, rfl, _, rfl, ?_⟩
  by_cases c2 : 8 < n
  · exact if_t (decide_eq_true (by omega)) (no (by omega))
  refine if_f (decide_eq_false (by omega)) ⟨_, rfl, _, _, rfl, rfl, _, rfl, ?_⟩
  by_cases c3 : r < 1
  · exact if_t (decide_eq_true (by omega)) (iteT (no (by omega)))
  refine if_f (decide_eq_false (by omega)) ⟨_, rfl, _, _, rfl, rfl, _, rfl, ?_⟩
  by_cases c4 : 8 < r
  · exact if_t (decide_eq_true (by omega)) (no (by omega))
  refine if_f (decide_eq_false (by omega)) ⟨_, rfl, _, rfl, _, _, rfl, rfl, _, rfl, ?_⟩
  by_cases c5 : n ≤ m
  · refine if_t (decide_eq_true (by omega)) ⟨_, rfl, _, _, rfl, rfl, ?_⟩
    have e : fits n r m = decide ((m : Int) ≤ 16) := by
      unfold fits
      rw [decide_eq_decide]
      omega
    rw [e] at k
    exact k
  · exact if_f (decide_eq_false (by omega)) (no (by omega))
/-! ### an answer laid out -/
theorem cut_tail (x : V) (xs : List V) : cutV (x :: xs) (some 1) none = xs := by
  unfold cutV
  have e : HT.sIx (x :: xs).length 0 (some 1) = 1 := by
    have := HT.sIx_nat (x :: xs).length 0 1
    rw [List.length_cons] at this ⊢
    exact this.trans (Nat.min_eq_left (by omega))
  rw [e, HT.sIx_none]
  show List.take _ xs = xs
  rw [List.take_of_length_le (by rw [List.length_cons]; omega)]
def sp_laid_out (K : PySem.W.Frag) (C : Cs) : Sp := fun vs H Q _ => ∃ (a : Addr) (A : Te.Answer), vs = [.ref a] ∧ H a = some (.lst (ansV A)) ∧ A.nums.length ≤ 10000000 ∧ ∀ H' p, Same H H' → H p = none → H' p = some (.lst ((lay A).map V.int)) → Q (.ref p) H'
theorem cal_laid_out (T : Txt K mg C) : Cal P w K mg base 1 "laid_out" (sp_laid_out K C) := by
  refine T.d_laid_out.cal sc_laid_out (fun vs H Q E h => ?_) (fun f cdv A outer s H vs Q E hr h => ⟨_, (pss_cons (ps_set (i := 1) sc_laid_out.nd rfl (Or.inl rfl) (pe_slice sl_list (pv 0) (po_some pe_int) po_none))
    (pss_one (ps_ret (pe_op op_cat (pe_lst (pa_cons (pe_op op_add pe_int (pe_callB call_len_seq (by rfl) T.n_len PySem.boot_len (pa_cons (pv 1) pa_nil))) (pa_cons (pe_ix ix_list (pv 0) pe_int (fun _ _ => rfl)) (pa_cons (pe_callB call_len_seq (by rfl) T.n_len PySem.boot_len (pa_cons (pv 1) pa_nil)) pa_nil)))) (pv 1))))), ?_⟩)
  · obtain ⟨a, A, rfl, _⟩ := h
    rfl
  obtain ⟨a, B, rfl, ha, hl, k⟩ := h
  refine ⟨_, rfl, _, rfl, a, _, rfl, SqL.of ha, fun p hp => ?_⟩
  have ec : cutV (ansV B) (some 1) none = ivs B.nums := cut_tail _ _
  rw [ec]
  have s1 : Same H (upd H p (.lst (ivs B.nums))) := same_new hp
  have lm : (ivs B.nums).length = B.nums.length := List.length_map _
  have ha1 := s1 _ _ ha
  refine ⟨_, rfl, p, _, rfl, .inl (SqL.of upd_same), _, _, rfl, rfl, _, rfl, a, _, 0, _, rfl, rfl, SqL.of ha1, at_of (j := 0) rfl rfl, _, rfl, p, _, rfl, .inl (SqL.of upd_same), (by show 3 ≤ sizeLine; decide), fun p2 hp2 => ?_⟩
  have s2 := same_new (o := .lst [V.int (2 + ((ivs B.nums).length : Int)), V.int B.ret, V.int ((ivs B.nums).length : Int)]) hp2
  refine ⟨_, rfl, p2, p, _, _, rfl, rfl, upd_same, s2 _ _ upd_same, ?_, fun p3 hp3 => ?_⟩
  · rw [lm]
    show 3 + B.nums.length ≤ sizeLine
    have : 10000003 ≤ sizeLine := by decide
    omega
  · have s3 := same_new (o := .lst ([V.int (2 + ((ivs B.nums).length : Int)), V.int B.ret, V.int ((ivs B.nums).length : Int)] ++ ivs B.nums)) hp3
    refine k _ p3 (Same.trans s1 (Same.trans s2 s3)) (s1.free (s2.free hp3)) ?_
    refine Eq.trans upd_same (congrArg (fun z => some (HO.lst z)) ?_)
    unfold lay
    rw [lm]
    show [V.int (2 + (B.nums.length : Int)), V.int B.ret, V.int (B.nums.length : Int)] ++ ivs B.nums = V.int ((2 + B.nums.length : Nat) : Int) :: V.int B.ret :: V.int (B.nums.length : Int) :: (zs B.nums).map V.int
    rw [List.map_map, Int.natCast_add]
    rfl
/-! ### the town -/
def townF (v : V) : List (Str × V) := [("exchange", v)]
theorem townF_ex {v : V} : (townF v).lookup ("exchange" : Str) = some v := lk_here
def exV (L : Lay) : Te.State → V
  | none => .non
  | some _ => .ref L.ex
structure TownAt (C : Cs) (H : Hp) (L : Lay) (tw : Addr) (s : Te.State) : Prop where
  ex : ∃ dx, H tw = some (.ins C.c_Town dx (townF (exV L s)))
  kind : L.kind tw = 20
  on : ∀ h, s = some h → Rep C H L h ∧ Tells L h ∧ WF h
  free : ∀ b, H b = none → L.kind b = 0
/-- what a call leaves as it was, the town aside -/
def Kp (tw : Addr) (H : Hp) (L : Lay) (H' : Hp) (L' : Lay) : Prop := ∀ b o, b ≠ tw → H b = some o → L.kind b % 10 = 0 → H' b = some o ∧ L'.kind b = L.kind b
theorem Stp.kp {tw : Addr} {H H' : Hp} {L L' : Lay} (s : Stp H L H' L') : Kp tw H L H' L' := fun b o _ h k => s.keep b o h k
def sp_init_Town (K : PySem.W.Frag) (C : Cs) : Sp := fun vs H Q _ => ∃ (p dx : Addr), vs = [.ref p] ∧ H p = some (.ins C.c_Town dx []) ∧ Q .non (upd H p (.ins C.c_Town dx (townF .non)))
theorem mak_Town (T : Txt K mg C) : Mak P w K mg base 1 "Town" C.c_Town (sp_init_Town K C) := by
  refine T.l_Town.mak sc_init_Town (fun vs H Q E h => ?_) (fun f cdv A outer s H vs Q E hr h => ⟨_, (pss_one (ps_fld (pv 0) pe_non rfl)), ?_⟩)
  · obtain ⟨p, dx, rfl, _⟩ := h
    rfl
  obtain ⟨p, dx, rfl, hp, k⟩ := h
  exact ⟨_, rfl, p, _, dx, _, rfl, hp, T.cl_Town, T.na_Town_exchange, (by show 0 < 1000; decide), k⟩
/-- the answer of a call on the town -/
def AnsT (C : Cs) (H : Hp) (L : Lay) (tw : Addr) (s : Te.State) (cl : Te.Call) (Q : VK) : Prop := ∀ H' L' p s' A, Te.step s cl = (s', A) → TownAt C H' L' tw s' → Kp tw H L H' L' → H' p = some (.lst (ansV A)) → Q (.ref p) H'
theorem TownAt.same {H H' : Hp} {L : Lay} {tw : Addr} {s : Te.State} (t : TownAt C H L tw s) (z : Same H H') : TownAt C H' L tw s := by
  obtain ⟨dx, h1⟩ := t.ex
  exact ⟨⟨dx, z _ _ h1⟩, t.kind, fun h e => ⟨(t.on h e).1.same z, (t.on h e).2⟩, fun b hb => t.free b (z.free hb)⟩
theorem AnsT.no {H : Hp} {L : Lay} {tw : Addr} {s : Te.State} {cl : Te.Call} {Q : VK} (k : AnsT C H L tw s cl Q) (t : TownAt C H L tw s) {z : Int} (e : Te.step s cl = (s, Te.says z)) {H1 : Hp} (s1 : Same H H1) : ([V.int z] : List V).length ≤ sizeLine ∧ ∀ p, H1 p = none → Q (.ref p) (upd H1 p (.lst [V.int z])) :=
  ⟨by show 1 ≤ sizeLine; decide, fun p hp => k _ L p s (Te.says z) e (t.same (Same.trans s1 (same_new hp))) (Stp.of_same L (Same.trans s1 (same_new hp))).kp upd_same⟩
def sp_begin (K : PySem.W.Frag) (C : Cs) : Sp := fun vs H Q _ => ∃ (L : Lay) (tw rq : Addr) (s : Te.State) (n r m : Nat), vs = [.ref tw, .ref rq] ∧ TownAt C H L tw s ∧ ReqAt C H L rq 1 [n, r, m] [] ∧ AnsT C H L tw s (.begin_ n r m) Q
theorem cal_begin (T : Txt K mg C) : Cal P w K mg base 5 "begin" (sp_begin K C) := by
  refine T.d_begin.cal sc_begin (fun vs H Q E h => ?_) (fun f cdv A outer s H vs Q E hr h => ⟨_, (pss_cons (ps_set (i := 2) sc_begin.nd rfl (Or.inl rfl) (pe_ix ix_list (pe_fld (pv 1) rfl) pe_int (fun _ _ => rfl)))
    (pss_cons (ps_set (i := 3) sc_begin.nd rfl (Or.inl rfl) (pe_ix ix_list (pe_fld (pv 1) rfl) pe_int (fun _ _ => rfl)))
    (pss_cons (ps_set (i := 4) sc_begin.nd rfl (Or.inl rfl) (pe_ix ix_list (pe_fld (pv 1) rfl) pe_int (fun _ _ => rfl)))
    (pss_cons (ps_if (pt_not (pt_val (pe_c (cal_sizes_fit T) hr (by decide) rfl (pa_cons (pv 2) (pa_cons (pv 3) (pa_cons (pv 4) pa_nil))))))
      (pss_one (ps_ret (pe_lst (pa_cons (pe_gi rfl T.k_NONE_SUCH) pa_nil))))
      pss_nil)
    (pss_cons (ps_fld (pv 0) (pe_mk (mak_Exchange T) hr (by decide) rfl (pa_cons (pv 2) (pa_cons (pv 3) (pa_cons (pv 4) pa_nil)))) rfl)
    (pss_one (ps_ret (pe_lst (pa_cons (pe_callB call_len_seq (by rfl) T.n_len PySem.boot_len (pa_cons (pe_fld (pe_fld (pv 0) rfl) rfl) pa_nil)) pa_nil))))))))), ?_⟩)
  · obtain ⟨L, tw, rq, s, n, r, m, rfl, _⟩ := h
    rfl
  obtain ⟨L, tw, rq, s, n, r, m, rfl, t, q, k⟩ := h
  obtain ⟨dxr, na, ra, rs, hq1, hq2, hq3, hq4, hq5⟩ := q.ex
  obtain ⟨dxt, ht⟩ := t.ex
  refine ⟨_, rfl, rq, _, dxr, _, _, rfl, hq1, T.cl_Request, T.na_Request_numbers, reqF_numbers, na, _, 0, _, rfl, rfl, hq2.sq, at_of (j := 0) rfl rfl, ?_⟩
  refine ⟨_, rfl, rq, _, dxr, _, _, rfl, hq1, T.cl_Request, T.na_Request_numbers, reqF_numbers, na, _, 1, _, rfl, rfl, hq2.sq, at_of (j := 1) rfl rfl, ?_⟩
  refine ⟨_, rfl, rq, _, dxr, _, _, rfl, hq1, T.cl_Request, T.na_Request_numbers, reqF_numbers, na, _, 2, _, rfl, rfl, hq2.sq, at_of (j := 2) rfl rfl, ?_⟩
  refine ⟨_, rfl, _, rfl, _, rfl, n, r, m, rfl, _, rfl, ?_⟩
  by_cases c : 1 ≤ n ∧ n ≤ 8 ∧ 1 ≤ r ∧ r ≤ 8 ∧ n ≤ m ∧ m ≤ 16
  · have ef : fits n r m = true := decide_eq_true c
    rw [ef]
    refine iteF ?_
    refine ⟨_, rfl, _, rfl, _, rfl, fun x dx nx nd ne => ?_⟩
    have old0 : ∀ b, upd (upd H dx (.own x)) x (.ins C.c_Exchange dx []) b = none → (if L.kind b % 10 = 0 then L.kind b else 0) = 0 := fun b hb => by
      have h1 : b ≠ x := fun e => by rw [e, upd_same] at hb; cases hb
      rw [upd_ne h1] at hb
      have h2 : b ≠ dx := fun e => by rw [e, upd_same] at hb; cases hb
      rw [upd_ne h2] at hb
      rw [t.free b hb]
      rfl
    refine ⟨x, dx, n, r, m, fun b => if L.kind b % 10 = 0 then L.kind b else 0, rfl, ⟨c.1, c.2.1, c.2.2.1, c.2.2.2.1, c.2.2.2.2.1, c.2.2.2.2.2⟩, upd_same, old0, fun H1 L1 kp ex R1 T1 kk => ⟨rfl, ?_⟩⟩
    have old : ∀ b o, H b = some o → H1 b = some o ∧ L1.kind b = if L.kind b % 10 = 0 then L.kind b else 0 := fun b o hb => by
      have h1 := ne_of_none hb nx
      have h2 : upd (upd H dx (.own x)) x (.ins C.c_Exchange dx []) b = some o := by
        rw [upd_ne h1, upd_ne (ne_of_none hb nd)]
        exact hb
      exact ⟨kp b o h1 h2, kk b o h2 h1⟩
    obtain ⟨ht1, kt⟩ := old tw _ ht
    have kt : L1.kind tw = 20 := by
      rw [kt, t.kind]
      rfl
    refine ⟨_, rfl, tw, _, dxt, _, rfl, ht1, T.cl_Town, T.na_Town_exchange, (by show 1 < 1000; decide), ?_⟩
    have R2 := R1.far (g := tw) (o := .ins C.c_Town dxt (putF "exchange" (.ref x) (townF (exV L s)))) (by omega)
    have et : putF "exchange" (.ref x) (townF (exV L s)) = townF (.ref x) := put_here
    rw [et] at R2 ⊢
    obtain ⟨dxe, hxe⟩ := R2.ex
    rw [ex] at hxe
    have ls : (L1.line.map V.ref).length = n * r := by
      rw [List.length_map, R1.ll]
      exact List.length_replicate
    refine ⟨_, rfl, tw, _, dxt, _, _, rfl, upd_same, T.cl_Town, T.na_Town_exchange, townF_ex, x, _, dxe, _, _, rfl, hxe, T.cl_Exchange, T.na_Exchange_lines, exF_lines L1 _, L1.ls, _, rfl, .inl (SqL.of R2.ls), (by show 1 ≤ sizeLine; decide), fun p hp => ?_⟩
    rw [ls]
    have s3 := same_new (o := .lst [V.int ((n * r : Nat) : Int)]) hp
    refine k _ L1 p (some (Te.newHall ⟨n, r, m⟩)) (Te.says (n * r : Nat)) ?_ ⟨⟨dxt, ?_⟩, kt, fun h e => ?_, fun b hb => (R2.same s3).kfree b hb⟩ (fun b o nb hb k0 => ?_) upd_same
    · dsimp only [Te.step]
      rw [if_neg (by omega)]
    · refine (s3 _ _ upd_same).trans ?_
      show _ = some (HO.ins C.c_Town dxt (townF (.ref L1.ex)))
      rw [ex]
    · cases e
      exact ⟨R2.same s3, T1, new_ok ⟨c.1, c.2.1, c.2.2.1, c.2.2.2.1, c.2.2.2.2.1, c.2.2.2.2.2⟩⟩
    · obtain ⟨h1, h2⟩ := old b o hb
      refine ⟨s3 _ _ (by rw [upd_ne nb]; exact h1), ?_⟩
      rw [h2, if_pos k0]
  · have ef : fits n r m = false := decide_eq_false c
    rw [ef]
    refine iteT (k.no t ?_ (Same.refl H))
    dsimp only [Te.step]
    rw [if_pos (by omega)]
    rfl
end
end Tx
end
section
namespace Tx
open PySem PySem.Spec PyProof.Rows L2
/-! ### a list of calls, from one to the next -/
def after : Te.State → List Te.Call → Te.State
  | s, [] => s
  | s, c :: r => after (Te.step s c).1 r
theorem after_snoc (s : Te.State) (cs : List Te.Call) (c : Te.Call) : after s (cs ++ [c]) = (Te.step (after s cs) c).1 := by
  induction cs generalizing s with
  | nil => rfl
  | cons a r ih => exact ih _
theorem play_app (s : Te.State) (cs ds : List Te.Call) : play s (cs ++ ds) = play s cs ++ play (after s cs) ds := by
  induction cs generalizing s with
  | nil => rfl
  | cons a r ih =>
    show lay (Te.step s a).2 ++ play (Te.step s a).1 (r ++ ds) = (lay (Te.step s a).2 ++ play (Te.step s a).1 r) ++ play (after (Te.step s a).1 r) ds
    rw [ih, List.append_assoc]
theorem play_snoc (s : Te.State) (cs : List Te.Call) (c : Te.Call) : play s (cs ++ [c]) = play s cs ++ lay (Te.step (after s cs) c).2 := by
  rw [play_app]
  show _ ++ (lay _ ++ []) = _
  rw [List.append_nil]
theorem play_take (s : Te.State) (cs : List Te.Call) (t : Nat) : (play s (cs.take t)).length ≤ (play s cs).length := by
  have := play_app s (cs.take t) (cs.drop t)
  rw [List.take_append_drop] at this
  rw [this, List.length_append]
  omega
theorem AllIs.length : ∀ {qs : List Req} {cs : List Te.Call}, AllIs qs cs → qs.length = cs.length
  | _, _, .nil => rfl
  | _, _, .cons _ _ t => congrArg (· + 1) t.length
theorem AllIs.get : ∀ {qs : List Req} {cs : List Te.Call}, AllIs qs cs → ∀ {j : Nat} {q : Req}, qs[j]? = some q → ∃ c, cs[j]? = some c ∧ Is q c ∧ Short q
  | _, _, .cons h1 h2 _, 0, _, e => by
    cases e
    exact ⟨_, rfl, h1, h2⟩
  | _, _, .cons _ _ t, j + 1, _, e => t.get (j := j) e
theorem lay_len (A : Te.Answer) : (lay A).length = 3 + A.nums.length := by
  unfold lay
  rw [List.length_cons, List.length_cons, List.length_cons, List.length_map]
  omega
/-! ### how many are over -/
theorem step_recs {s : Te.State} {n : Nat} (hs : ∀ h, s = some h → h.records.length ≤ n) (c : Te.Call) : ∀ h, (Te.step s c).1 = some h → h.records.length ≤ n + 1 := by
  have on : ∀ (g h : Te.Hall), s = some g → some (Te.stepOn g c).1 = some h → h.records.length ≤ n + 1 := fun g h e1 e2 => by
    cases e2
    have := stepOn_recs g c
    have := hs g e1
    omega
  have old : ∀ h, s = some h → h.records.length ≤ n + 1 := fun h e => Nat.le_succ_of_le (hs h e)
  intro h e
  cases s with
  | none =>
    cases c <;> dsimp only [Te.step] at e <;> first | (cases e; done) | skip
    split at e
    · cases e
    · cases e
      exact Nat.zero_le _
  | some g =>
    cases c <;> dsimp only [Te.step] at e <;> first | exact on g h rfl e | skip
    split at e
    · exact old h e
    · cases e
      exact Nat.zero_le _
theorem after_recs : ∀ (cs : List Te.Call) (s : Te.State) (n : Nat), (∀ h, s = some h → h.records.length ≤ n) → ∀ h, after s cs = some h → h.records.length ≤ n + cs.length
  | [], s, n, hs, h, e => hs h e
  | c :: r, s, n, hs, h, e => by
    have := after_recs r (Te.step s c).1 (n + 1) (step_recs hs c) h e
    rw [List.length_cons]
    omega
/-! ### the calls of a line -/
def ofLine : List Nat := [2, 3, 6, 8, 9, 10, 12, 14]
/-- its first number is a line that there is -/
def InR (h : Te.Hall) (q : Req) : Prop := ∀ x ns, q.kind ∈ ofLine → q.nums = x :: ns → x < h.size.lines
theorem in_ofLine {q : Req} {c : Te.Call} (h : Is q c) : inV (iv q.kind) ([2, 3, 6, 8, 9, 10, 12, 14].map V.int) = decide (q.kind ∈ ofLine) := by
  cases h <;> rfl
theorem of_line_nums {q : Req} {c : Te.Call} (h : Is q c) (o : q.kind ∈ ofLine) : ∃ x ns, q.nums = x :: ns := by
  cases h <;> first | exact ⟨_, _, rfl⟩ | exact absurd o (by dsimp only; decide)
theorem bad_line {q : Req} {c : Te.Call} {h : Te.Hall} {x : Nat} {ns : List Nat} (i : Is q c) (o : q.kind ∈ ofLine) (e : q.nums = x :: ns) (g : h.size.lines ≤ x) : Te.step (some h) c = (some h, Te.says (-1)) := by
  cases i <;> first | exact absurd o (by dsimp only; decide) | skip
  all_goals
    injection e with e1 e2
    subst e1
    dsimp only [Te.step, Te.stepOn]
  all_goals first | rw [if_pos g]; rfl | rw [if_pos (.inl g)]; rfl
theorem step_none {q : Req} {c : Te.Call} (i : Is q c) (n1 : q.kind ≠ 1) : Te.step none c = (none, Te.says (-2)) := by
  cases i <;> first | rfl | exact absurd rfl n1
theorem step_some {q : Req} {c : Te.Call} {h : Te.Hall} (i : Is q c) (n1 : q.kind ≠ 1) : Te.step (some h) c = (some (Te.stepOn h c).1, (Te.stepOn h c).2) := by
  cases i <;> first | rfl | exact absurd rfl n1
section
variable {P : Program} {w : World} {K : PySem.W.Frag} {mg : Str → Option Value} {base : Heap} {C : Cs}
def sp_answer_of (K : PySem.W.Frag) (C : Cs) : Sp := fun vs H Q _ => ∃ (L : Lay) (h : Te.Hall) (rq : Addr) (q : Req) (cl : Te.Call), vs = [.ref L.ex, .ref rq] ∧ Rep C H L h ∧ Tells L h ∧ WF h ∧ Is q cl ∧ Short q ∧ q.kind ≠ 1 ∧ InR h q ∧ h.records.length ≤ 1000 ∧ ReqAt C H L rq q.kind q.nums q.rows ∧ Ans C H L h cl Q
/-- an answer on the exchange is one on the town -/
theorem AnsT.ans {H : Hp} {L : Lay} {tw : Addr} {h : Te.Hall} {q : Req} {cl : Te.Call} {Q : VK} (k : AnsT C H L tw (some h) cl Q) (t : TownAt C H L tw (some h)) (i : Is q cl) (n1 : q.kind ≠ 1) : Ans C H L h cl Q := by
  intro H' L' p h' A e R' T' st hp
  have es : Te.step (some h) cl = (some h', A) := by
    rw [step_some i n1, e]
  obtain ⟨dxt, ht⟩ := t.ex
  obtain ⟨g1, g2⟩ := st.keep _ _ ht (by rw [t.kind])
  refine k H' L' p (some h') A es ⟨⟨dxt, ?_⟩, g2.trans t.kind, fun h2 e2 => ?_, R'.kfree⟩ st.kp hp
  · refine g1.trans ?_
    show some (HO.ins C.c_Town dxt (townF (.ref L.ex))) = some (HO.ins C.c_Town dxt (townF (.ref L'.ex)))
    rw [st.ex]
  · cases e2
    refine ⟨R', T', step_ok (s := some h) (fun h3 e3 => (t.on h3 e3).2.2) cl h' ?_⟩
    rw [es]
def sp_answer_request (K : PySem.W.Frag) (C : Cs) : Sp := fun vs H Q _ => ∃ (L : Lay) (tw rq : Addr) (s : Te.State) (q : Req) (cl : Te.Call), vs = [.ref tw, .ref rq] ∧ TownAt C H L tw s ∧ Is q cl ∧ Short q ∧ (∀ h, s = some h → h.records.length ≤ 1000) ∧ ReqAt C H L rq q.kind q.nums q.rows ∧ AnsT C H L tw s cl Q
theorem is_begin {q : Req} {cl : Te.Call} (i : Is q cl) (e : q.kind = 1) : ∃ n r m, q = ⟨1, [n, r, m], []⟩ ∧ cl = .begin_ n r m := by
  cases i <;> first | exact ⟨_, _, _, rfl, rfl⟩ | exact absurd e (by dsimp only; decide)
theorem cal_answer_request (T : Txt K mg C) (cal_answer_of : Txt K mg C → Cal P w K mg base 9 "answer_of" (sp_answer_of K C)) : Cal P w K mg base 10 "answer_request" (sp_answer_request K C) := by
  refine T.d_answer_request.cal sc_answer_request (fun vs H Q E h => ?_) (fun f cdv A outer s H vs Q E hr h => ⟨_, (pss_cons (ps_if (pt_cmpR op_eq (pe_fld (pv 1) rfl) (pe_gi rfl T.k_BEGIN) (nomark _))
      (pss_one (ps_ret (pe_c (cal_begin T) hr (by decide) rfl (pa_cons (pv 0) (pa_cons (pv 1) pa_nil)))))
      pss_nil)
    (pss_cons (ps_set (i := 2) sc_answer_request.nd rfl (Or.inl rfl) (pe_fld (pv 0) rfl))
    (pss_cons (ps_if (pt_cmp (pc_isN (pv 2)))
      (pss_one (ps_ret (pe_lst (pa_cons (pe_gi rfl T.k_NOT_BEGUN) pa_nil))))
      pss_nil)
    (pss_cons (ps_if (PW.pt (pw_and (pt_cmpR op_in_seq (pe_fld (pv 1) rfl) (pe_glob (v := .ref C.a_OF_A_LINE) rfl T.k_OF_A_LINE rfl) (by with_unfolding_all rfl)) (pw_and1 (pt_cmpR op_ge (pe_ix ix_list (pe_fld (pv 1) rfl) pe_int (fun _ _ => rfl)) (pe_callB call_len_seq (by rfl) T.n_len PySem.boot_len (pa_cons (pe_fld (pv 2) rfl) pa_nil)) (nomark _)))))
      (pss_one (ps_ret (pe_lst (pa_cons (pe_gi rfl T.k_NONE_SUCH) pa_nil))))
      pss_nil)
    (pss_one (ps_ret (pe_c (cal_answer_of T) hr (by decide) rfl (pa_cons (pv 2) (pa_cons (pv 1) pa_nil))))))))), ?_⟩)
  · obtain ⟨L, tw, rq, s, q, cl, rfl, _⟩ := h
    rfl
  obtain ⟨L, tw, rq, s, q, cl, rfl, t, i, sh, rl, rq_, k⟩ := h
  obtain ⟨dxr, na, ra, rs, hq1, hq2, hq3, hq4, hq5⟩ := rq_.ex
  obtain ⟨dxt, ht⟩ := t.ex
  refine ⟨_, rfl, rq, _, dxr, _, _, rfl, hq1, T.cl_Request, T.na_Request_kind, reqF_kind, rfl, _, rfl, ?_⟩
  have e0 : decide (iv q.kind = V.int 1) = decide (q.kind = 1) := dec_iv q.kind 1
  rw [e0]
  by_cases c1 : q.kind = 1
  · refine if_t (decide_eq_true c1) ?_
    obtain ⟨n, r, m, rfl, rfl⟩ := is_begin i c1
    exact ⟨_, rfl, _, rfl, L, tw, rq, s, n, r, m, rfl, t, rq_, k⟩
  refine if_f (decide_eq_false c1) ?_
  refine ⟨_, rfl, tw, _, dxt, _, _, rfl, ht, T.cl_Town, T.na_Town_exchange, townF_ex, ?_⟩
  cases s with
  | none => exact ⟨_, rfl, _, rfl, if_t rfl (k.no t (step_none i c1) (Same.refl H))⟩
  | some h =>
    refine ⟨_, rfl, _, rfl, if_f rfl ?_⟩
    obtain ⟨R, Tl, W⟩ := t.on h rfl
    obtain ⟨dxe, hxe⟩ := R.ex
    have ll : (L.line.map V.ref).length = h.size.lines := by
      rw [List.length_map, R.ll]
      exact W.base.len
    have go : ∀ (_ : InR h q), sp_answer_of K C [.ref L.ex, .ref rq] H Q E0 := fun r => ⟨L, h, rq, q, cl, rfl, R, Tl, W, i, sh, c1, r, rl h rfl, rq_, k.ans t i c1⟩
    refine ⟨_, rfl, rq, _, dxr, _, _, rfl, hq1, T.cl_Request, T.na_Request_kind, reqF_kind, C.a_OF_A_LINE, _, rfl, .inr (T.q_OF_A_LINE H), rfl, rfl, _, rfl, ?_⟩
    rw [if_neg Bool.false_ne_true, in_ofLine i]
    by_cases c2 : q.kind ∈ ofLine
    · obtain ⟨x, ns, en⟩ := of_line_nums i c2
      rw [en] at hq2
      refine if_t (decide_eq_true c2) ⟨_, rfl, rq, _, dxr, _, _, rfl, hq1, T.cl_Request, T.na_Request_numbers, reqF_numbers, na, _, 0, _, rfl, rfl, hq2.sq, at_of (j := 0) rfl rfl, _, rfl, L.ex, _, dxe, _, _, rfl, hxe, T.cl_Exchange, T.na_Exchange_lines, exF_lines L h, L.ls, _, rfl, .inl (SqL.of R.ls), _, _, rfl, rfl, _, rfl, ?_⟩
      rw [ll]
      by_cases c3 : h.size.lines ≤ x
      · exact if_t (decide_eq_true (by omega)) (k.no t (bad_line i c2 en c3) (Same.refl H))
      · refine if_f (decide_eq_false (by omega)) ⟨_, rfl, _, rfl, go fun x' ns' _ e' => ?_⟩
        rw [en] at e'
        cases e'
        omega
    · exact if_f (decide_eq_false c2) ⟨_, rfl, _, rfl, go fun _ _ z _ => absurd z c2⟩
/-! ### all calls -/
theorem TownAt.far {H : Hp} {L : Lay} {tw g : Addr} {s : Te.State} {o : HO} (t : TownAt C H L tw s) (kg : L.kind g = 10) : TownAt C (upd H g o) L tw s := by
  obtain ⟨dx, h1⟩ := t.ex
  have ne : tw ≠ g := fun e => by
    have := t.kind
    rw [e, kg] at this
    cases this
  refine ⟨⟨dx, by rw [upd_ne ne]; exact h1⟩, t.kind, fun h e => ⟨(t.on h e).1.far (by omega), (t.on h e).2⟩, fun b hb => ?_⟩
  by_cases e : b = g
  · rw [e, upd_same] at hb
    cases hb
  · rw [upd_ne e] at hb
    exact t.free b hb
theorem ReqAt.kp {tw : Addr} {H H' : Hp} {L L' : Lay} {a : Addr} {kd : Nat} {ns : List Nat} {rows : List (List Nat)} (q : ReqAt C H L a kd ns rows) (kt : L.kind tw = 20) (s : Kp tw H L H' L') : ReqAt C H' L' a kd ns rows := by
  have go : ∀ b o, H b = some o → L.kind b = 0 → H' b = some o ∧ L'.kind b = 0 := fun b o h k => by
    have ne : b ≠ tw := fun e => by
      rw [e, kt] at k
      cases k
    obtain ⟨g1, g2⟩ := s b o ne h (by rw [k])
    exact ⟨g1, g2.trans k⟩
  have dg : ∀ {b : Addr} {d : List Nat}, Dig H L b d → Dig H' L' b d := fun z => go _ _ z.1 z.2
  obtain ⟨dx, na, ra, rs, h1, h2, h3, h4, h5⟩ := q.ex
  obtain ⟨g1, g2⟩ := go _ _ h1 q.kind
  obtain ⟨g3, g4⟩ := go _ _ h3 h4
  exact ⟨⟨dx, na, ra, rs, g1, dg h2, g3, g4, h5.imp fun _ _ z => dg z⟩, g2⟩
/-- read as new, with kinds of nothing new -/
theorem ReqAt.new {H H' : Hp} {L : Lay} {a : Addr} {kd : Nat} {ns : List Nat} {rows : List (List Nat)} (q : ReqAt C (fresh H H') L0 a kd ns rows) (kn : ∀ b, H b = none → L.kind b = 0) : ReqAt C H' L a kd ns rows := by
  have go : ∀ b o, fresh H H' b = some o → H' b = some o ∧ L.kind b = 0 := fun b o h => ⟨(fresh_at h).2, kn b (fresh_at h).1⟩
  obtain ⟨dx, na, ra, rs, h1, h2, h3, h4, h5⟩ := q.ex
  have dg : ∀ {b : Addr} {d : List Nat}, Dig (fresh H H') L0 b d → Dig H' L b d := fun z => go _ _ z.1
  exact ⟨⟨dx, na, ra, rs, (go _ _ h1).1, dg h2, (go _ _ h3).1, (go _ _ h3).2, h5.imp fun _ _ z => dg z⟩, (go _ _ h1).2⟩
def Lt (tw g : Addr) : Lay := ⟨0, 0, 0, 0, 0, 0, [], [], [], [], [], fun b => if b = tw then 20 else if b = g then 10 else 0, fun _ => 0⟩
def sp_answers (K : PySem.W.Frag) : Sp := fun vs H Q _ => ∃ (ca : Addr) (l : List Nat) (f : Nat) (qs : List Req) (cs : List Te.Call), vs = [.ref ca] ∧ SqL K H ca (ivs l) ∧ callsN f l = some qs ∧ qs.length ≤ 400 ∧ AllIs qs cs ∧ (play none cs).length ≤ 10000000 ∧
  ∀ H' p, Same H H' → H' p = some (.lst ((play none cs).map V.int)) → Q (.ref p) H'
theorem ok_answers {fa : Addr} {fd : FuncData} (F : Fun K "answers" "answers" s_answers fa fd) (T : Txt K mg C) (cal_answer_of : Txt K mg C → Cal P w K mg base 9 "answer_of" (sp_answer_of K C)) : FnOk P w K mg base CX0 11 fa fd ["calls"] (sp_answers K) := by
  have cal_answer_request := fun T => cal_answer_request T cal_answer_of
  refine F.ok sc_answers (fun vs H Q E h => ?_) (fun cdv A outer s H vs Q E hr h => ⟨_, (pss_cons (ps_set (i := 1) sc_answers.nd rfl (Or.inl rfl) (pe_mk0 (mak_Town T) hr (by decide) rfl))
    (pss_cons (ps_set (i := 2) sc_answers.nd rfl (Or.inl rfl) (pe_lst pa_nil))
    (pss_cons (ps_for PassesOwn.never rfl (pi_list (pe_c (cal_read_requests T) hr (by decide) rfl (pa_cons (pv 0) pa_nil))) (pg_name (i := 3) sc_answers.nd rfl (Or.inl rfl))
      (pss_one (ps_expr (pe_bm PySem.F.plainAttrs_list PySem.F.slot_list_extend PySem.F.type_list_extend mt_extend (pv 2) (pa_cons (pe_c (cal_laid_out T) hr (by decide) rfl (pa_cons (pe_c (cal_answer_request T) hr (by decide) rfl (pa_cons (pv 1) (pa_cons (pv 3) pa_nil))) pa_nil)) pa_nil)))))
    (pss_one (ps_ret (pv 2)))))), ?_⟩)
  · obtain ⟨ca, l, f, qs, cs, rfl, _⟩ := h
    rfl
  obtain ⟨ca, l, fu, qs, cs, rfl, hS, hc, h4, ai, len, k⟩ := h
  intro tw dx ntw ndx ne
  refine ⟨tw, dx, rfl, upd_same, rfl, ?_⟩
  rw [upd_upd]
  have s1 : Same H (upd (upd H dx (.own tw)) tw (.ins C.c_Town dx (townF .non))) := same_made ntw ndx
  refine ⟨Nat.zero_le _, fun g hg => ?_⟩
  have s2 := same_new (o := .lst []) hg
  have s12 := Same.trans s1 s2
  have gt : g ≠ tw := fun e => by
    rw [e, upd_same] at hg
    cases hg
  refine ⟨_, rfl, ca, l, fu, qs, rfl, Same.seq s12 hS, hc, h4, fun H3 p as s3 np hp al => ?_⟩
  have kn : ∀ b, upd (upd (upd H dx (.own tw)) tw (.ins C.c_Town dx (townF .non))) g (.lst []) b = none → (Lt tw g).kind b = 0 := fun b hb => by
    have e1 : b ≠ g := fun e => by
      rw [e, upd_same] at hb
      cases hb
    rw [upd_ne e1] at hb
    have e2 : b ≠ tw := fun e => by
      rw [e, upd_same] at hb
      cases hb
    show (if b = tw then 20 else if b = g then 10 else 0) = 0
    rw [if_neg e2, if_neg e1]
  have hk : ∀ b o, H b = some o → (Lt tw g).kind b = 0 := fun b o hb => by
    show (if b = tw then 20 else if b = g then 10 else 0) = 0
    rw [if_neg (ne_of_none hb ntw), if_neg (ne_of_none (s1 _ _ hb) hg)]
  have recs : ∀ t h, after none (cs.take t) = some h → h.records.length ≤ 1000 := fun t h e => by
    have z := after_recs (cs.take t) none 0 (fun h e => by cases e) h e
    rw [List.length_take] at z
    have := ai.length
    omega
  refine ⟨p, rfl, ⟨_, SqL.of hp⟩, for_list (xs := as.map V.ref)
    (fun t σ H' => ∃ (L : Lay) (u : Option V), σ = [some (.ref ca), some (.ref tw), some (.ref g), u] ∧ TownAt C H' L tw (after none (cs.take t)) ∧ H' g = some (.lst ((play none (cs.take t)).map V.int)) ∧ L.kind g = 10 ∧
      (H' p = some (.lst (as.map V.ref)) ∧ L.kind p = 0) ∧ All2 (fun a (q : Req) => ReqAt C H' L a q.kind q.nums q.rows) as qs ∧ ∀ b o, H b = some o → H' b = some o ∧ L.kind b = 0)
    ⟨Lt tw g, _, rfl, ?_, ?_, ?_, ⟨hp, kn p np⟩, al.imp fun _ _ z => z.new kn, fun b o hb => ⟨s3 _ _ (s12 _ _ hb), hk b o hb⟩⟩ (fun t σ H' _ ⟨_, _, _, _, _, _, z, _⟩ => SqL.of z.1) ?_ ?_⟩
  · refine ⟨⟨dx, s3 _ _ (s2 _ _ upd_same)⟩, ?_, fun h e => (nomatch e), fun b hb => kn b (s3.free hb)⟩
    show (if tw = tw then 20 else if tw = g then 10 else 0) = 20
    rw [if_pos rfl]
  · exact s3 _ _ upd_same
  · show (if g = tw then 20 else if g = g then 10 else 0) = 10
    rw [if_neg gt, if_pos rfl]
  · rintro t v σ H5 hv ⟨L, u, rfl, tn, hg5, kg, hp5, al5, kp5⟩
    obtain ⟨a, ha, rfl⟩ := refs_get hv
    obtain ⟨q, hq, ra⟩ := al5.get ha
    obtain ⟨c, hcs, ii, sh⟩ := ai.get hq
    have et := take_snoc hcs
    refine ⟨_, rfl, .inl ⟨rfl, _, SqL.of hg5⟩, _, rfl, _, rfl, L, tw, a, _, q, c, rfl, tn, ii, sh, recs t, ra, fun H6 L6 p6 s6 A6 e6 t6 k6 h6 => ?_⟩
    have ep : play none (cs.take (t + 1)) = play none (cs.take t) ++ lay A6 := by
      rw [et, play_snoc, e6]
    have ea : after none (cs.take (t + 1)) = s6 := by
      rw [et, after_snoc, e6]
    have lp := play_take none cs (t + 1)
    have lp2 : (play none (cs.take t)).length + (3 + A6.nums.length) ≤ 10000000 := by
      rw [ep, List.length_append, lay_len] at lp
      omega
    refine ⟨p6, A6, rfl, h6, by omega, fun H7 p7 s7 n7 h7 => ?_⟩
    have gtw : g ≠ tw := gt
    obtain ⟨g6, kg6⟩ := k6 g _ gtw hg5 (by rw [kg])
    refine ⟨g, p7, _, _, rfl, rfl, s7 _ _ g6, h7, ?_, ?_⟩
    · rw [List.length_map, List.length_map, lay_len]
      have : 10000000 ≤ sizeLine := by decide
      omega
    have up : ∀ b o, b ≠ g → H6 b = some o → upd H7 g (.lst ((play none (cs.take t)).map V.int ++ (lay A6).map V.int)) b = some o := fun b o nb hb => by
      rw [upd_ne nb]
      exact s7 _ _ hb
    have zero : ∀ b o, H5 b = some o → L.kind b = 0 → upd H7 g (.lst ((play none (cs.take t)).map V.int ++ (lay A6).map V.int)) b = some o ∧ L6.kind b = 0 := fun b o hb kb => by
      have n1 : b ≠ tw := fun e => by
        have := tn.kind
        rw [← e, kb] at this
        cases this
      have n2 : b ≠ g := fun e => by
        rw [e, kg] at kb
        cases kb
      obtain ⟨z1, z2⟩ := k6 b o n1 hb (by rw [kb])
      exact ⟨up b o n2 z1, z2.trans kb⟩
    refine ⟨L6, _, rfl, ?_, ?_, kg6.trans kg, zero _ _ hp5.1 hp5.2, al5.imp fun b q z => ?_, fun b o hb => zero b o (kp5 b o hb).1 (kp5 b o hb).2⟩
    · rw [ea]
      exact (t6.same s7).far (kg6.trans kg)
    · rw [ep, List.map_append]
      exact upd_same
    · obtain ⟨dx, na, ra, rs, h1, h2, h3, h4, h5⟩ := z.ex
      exact ⟨⟨dx, na, ra, rs, (zero _ _ h1 z.kind).1, zero _ _ h2.1 h2.2, (zero _ _ h3 h4).1, (zero _ _ h3 h4).2, h5.imp fun _ _ y => zero _ _ y.1 y.2⟩, (zero _ _ h1 z.kind).2⟩
  · rintro σ H5 ⟨L, u, rfl, tn, hg5, kg, hp5, al5, kp5⟩
    rw [List.length_map, al.length, ai.length, List.take_length] at hg5
    exact ⟨_, rfl, k H5 g (fun b o hb => (kp5 b o hb).1) hg5⟩
/-! ### what is handed in -/
theorem nat_of : ∀ {l : List Int}, (∀ z ∈ l, 0 ≤ z) → ∃ ns : List Nat, l = zs ns
  | [], _ => ⟨[], rfl⟩
  | z :: l, h => by
    obtain ⟨ns, e⟩ := nat_of (l := l) fun y hy => h y (List.mem_cons_of_mem _ hy)
    obtain ⟨n, e2⟩ := Int.eq_ofNat_of_zero_le (h z (List.mem_cons_self ..))
    exact ⟨n :: ns, by rw [e, e2]; rfl⟩
theorem sp_asked {H : Hp} {ca : Addr} {l : List Int} {E : XK} (ge : ∀ z ∈ l, 0 ≤ z) (ask : PyWrtele.answers_asked l = true) (hs : SqL K H ca (l.map V.int)) {Q : VK} (k : ∀ H' p, H' p = some (.lst ((PyWrtele.answers l).map V.int)) → Q (.ref p) H') : sp_answers K [.ref ca] H Q E := by
  obtain ⟨ns, rfl⟩ := nat_of ge
  obtain ⟨qs, cs, h1, h2, h3, h4, h5⟩ := asked_due ask
  have e : (zs ns).map V.int = ivs ns := List.map_map
  rw [e] at hs
  rw [h4] at k
  exact ⟨ca, ns, _, qs, cs, rfl, hs, h1, h2, h3, h5, fun H' p _ hp => k H' p hp⟩
theorem last {fa : Addr} (T : Txt K mg C) (hfa : mg "answers" = some (.ref fa)) (A : ∀ base : Heap, Txt K mg C → Cal P w K mg base 9 "answer_of" (sp_answer_of K C)) :
    ∃ fd : FuncData, (∀ (s : Shared) (us : List Value), us.length = (["calls"] : List Str).length → BindsTo s fd ⟨us, []⟩ ((["calls"] : List Str).zip us)) ∧ ∀ base : Heap, K.In base → base.Ns mainGlobals mg → FnOk P w K mg base CX0 11 fa fd ["calls"] (sp_answers K) := by
  obtain ⟨f, fd, F, g, b⟩ := T.d_answers
  cases hfa.symm.trans g
  refine ⟨fd, fun s us hu => ?_, fun base _ _ => ok_answers F T (A base)⟩
  obtain ⟨oc, od, kV, doc, pm, an, cdv, ct, osl, rfl, _, _⟩ := F.ex
  match us, hu with
  | [_], _ => exact .of_eq rfl
end
end Tx
end
section
namespace Tx
open PySem PySem.Spec PyProof.Rows L2
theorem kind_yes (k : Nat) : decide (iv k = V.int (k : Int)) = true := decide_eq_true rfl
theorem kind_no (k j : Nat) (h : k ≠ j) : decide (iv k = V.int (j : Int)) = false := (dec_iv k j).trans (decide_eq_false h)
section
variable {P : Program} {w : World} {K : PySem.W.Frag} {mg : Str → Option Value} {base : Heap} {C : Cs}
def sp_answer_of_order (K : PySem.W.Frag) (C : Cs) : Sp := fun vs H Q _ => ∃ (L : Lay) (h : Te.Hall) (rq : Addr) (q : Req) (cl : Te.Call), vs = [.ref L.ex, .ref rq] ∧ Rep C H L h ∧ Tells L h ∧ WF h ∧ Is q cl ∧ Short q ∧ q.kind ≠ 1 ∧ InR h q ∧ h.records.length ≤ 1000 ∧ ReqAt C H L rq q.kind q.nums q.rows ∧ Ans C H L h cl Q ∧ (q.kind ≤ 7)
theorem cal_answer_of_order (T : Txt K mg C) : Cal P w K mg base 4 "answer_of_order" (sp_answer_of_order K C) := by
  refine T.d_answer_of_order.cal sc_answer_of_order (fun vs H Q E h => ?_) (fun f cdv A outer s H vs Q E hr h => ⟨_, (pss_cons (ps_if (pt_cmpR op_eq (pe_fld (pv 1) rfl) (pe_gi rfl T.k_NUMBER) (nomark _))
      (pss_one (ps_ret (pe_c (cal_give_number T) hr (by decide) rfl (pa_cons (pv 0) (pa_cons (pv 1) pa_nil)))))
      pss_nil)
    (pss_cons (ps_if (pt_cmpR op_eq (pe_fld (pv 1) rfl) (pe_gi rfl T.k_CLEAR) (nomark _))
      (pss_one (ps_ret (pe_c (cal_clear_number T) hr (by decide) rfl (pa_cons (pv 0) (pa_cons (pv 1) pa_nil)))))
      pss_nil)
    (pss_cons (ps_if (pt_cmpR op_eq (pe_fld (pv 1) rfl) (pe_gi rfl T.k_GROUP) (nomark _))
      (pss_one (ps_ret (pe_c (cal_make_group T) hr (by decide) rfl (pa_cons (pv 0) (pa_cons (pv 1) pa_nil)))))
      pss_nil)
    (pss_cons (ps_if (pt_cmpR op_eq (pe_fld (pv 1) rfl) (pe_gi rfl T.k_PRICE) (nomark _))
      (pss_one (ps_ret (pe_c (cal_tell_price T) hr (by decide) rfl (pa_cons (pv 0) (pa_cons (pv 1) pa_nil)))))
      pss_nil)
    (pss_cons (ps_if (pt_cmpR op_eq (pe_fld (pv 1) rfl) (pe_gi rfl T.k_HAND) (nomark _))
      (pss_one (ps_ret (pe_c (cal_hand_on T) hr (by decide) rfl (pa_cons (pv 0) (pa_cons (pv 1) pa_nil)))))
      pss_nil)
    (pss_one (ps_ret (pe_c (cal_set_wait T) hr (by decide) rfl (pa_cons (pv 0) (pa_cons (pv 1) pa_nil)))))))))), ?_⟩)
  · obtain ⟨L, h, rq, q, cl, rfl, _⟩ := h
    rfl
  obtain ⟨L, h, rq, q, cl, rfl, R, Tl, W, i, sh, n1, r, rl, rq_, k, kd⟩ := h
  obtain ⟨dxr, na, ra, rs, hq1, hq2, hq3, hq4, hq5⟩ := rq_.ex
  cases i with
  | begin_ n r m => exact absurd rfl n1
  | number x d =>
    exact ⟨_, rfl, rq, _, dxr, _, _, rfl, hq1, T.cl_Request, T.na_Request_kind, reqF_kind, rfl, _, rfl, if_t (kind_yes 2) ⟨_, rfl, _, rfl, L, h, rq, x, d, rfl, R, Tl, W.base, rq_, r x _ (show (2 : Nat) ∈ ofLine by decide) rfl, sh d (List.mem_cons_self ..), k⟩⟩
  | clear x =>
    refine ⟨_, rfl, rq, _, dxr, _, _, rfl, hq1, T.cl_Request, T.na_Request_kind, reqF_kind, rfl, _, rfl, if_f (kind_no 3 2 (by decide)) ?_⟩
    exact ⟨_, rfl, rq, _, dxr, _, _, rfl, hq1, T.cl_Request, T.na_Request_kind, reqF_kind, rfl, _, rfl, if_t (kind_yes 3) ⟨_, rfl, _, rfl, L, h, rq, x, rfl, R, Tl, W.base, rq_, r x _ (show (3 : Nat) ∈ ofLine by decide) rfl, k⟩⟩
  | group d l =>
    refine ⟨_, rfl, rq, _, dxr, _, _, rfl, hq1, T.cl_Request, T.na_Request_kind, reqF_kind, rfl, _, rfl, if_f (kind_no 4 2 (by decide)) ?_⟩
    refine ⟨_, rfl, rq, _, dxr, _, _, rfl, hq1, T.cl_Request, T.na_Request_kind, reqF_kind, rfl, _, rfl, if_f (kind_no 4 3 (by decide)) ?_⟩
    exact ⟨_, rfl, rq, _, dxr, _, _, rfl, hq1, T.cl_Request, T.na_Request_kind, reqF_kind, rfl, _, rfl, if_t (kind_yes 4) ⟨_, rfl, _, rfl, L, h, rq, d, l, rfl, R, Tl, W.base, rq_, sh d (List.mem_cons_self ..), sh l (List.mem_cons_of_mem _ (List.mem_cons_self ..)), k⟩⟩
  | price c d =>
    refine ⟨_, rfl, rq, _, dxr, _, _, rfl, hq1, T.cl_Request, T.na_Request_kind, reqF_kind, rfl, _, rfl, if_f (kind_no 5 2 (by decide)) ?_⟩
    refine ⟨_, rfl, rq, _, dxr, _, _, rfl, hq1, T.cl_Request, T.na_Request_kind, reqF_kind, rfl, _, rfl, if_f (kind_no 5 3 (by decide)) ?_⟩
    refine ⟨_, rfl, rq, _, dxr, _, _, rfl, hq1, T.cl_Request, T.na_Request_kind, reqF_kind, rfl, _, rfl, if_f (kind_no 5 4 (by decide)) ?_⟩
    exact ⟨_, rfl, rq, _, dxr, _, _, rfl, hq1, T.cl_Request, T.na_Request_kind, reqF_kind, rfl, _, rfl, if_t (kind_yes 5) ⟨_, rfl, _, rfl, L, h, rq, c, d, rfl, R, Tl, W.base, rq_, sh d (List.mem_cons_self ..), k⟩⟩
  | hand x n d =>
    refine ⟨_, rfl, rq, _, dxr, _, _, rfl, hq1, T.cl_Request, T.na_Request_kind, reqF_kind, rfl, _, rfl, if_f (kind_no 6 2 (by decide)) ?_⟩
    refine ⟨_, rfl, rq, _, dxr, _, _, rfl, hq1, T.cl_Request, T.na_Request_kind, reqF_kind, rfl, _, rfl, if_f (kind_no 6 3 (by decide)) ?_⟩
    refine ⟨_, rfl, rq, _, dxr, _, _, rfl, hq1, T.cl_Request, T.na_Request_kind, reqF_kind, rfl, _, rfl, if_f (kind_no 6 4 (by decide)) ?_⟩
    refine ⟨_, rfl, rq, _, dxr, _, _, rfl, hq1, T.cl_Request, T.na_Request_kind, reqF_kind, rfl, _, rfl, if_f (kind_no 6 5 (by decide)) ?_⟩
    exact ⟨_, rfl, rq, _, dxr, _, _, rfl, hq1, T.cl_Request, T.na_Request_kind, reqF_kind, rfl, _, rfl, if_t (kind_yes 6) ⟨_, rfl, _, rfl, L, h, rq, x, n, d, rfl, R, Tl, W.base, rq_, r x _ (show (6 : Nat) ∈ ofLine by decide) rfl, sh d (List.mem_cons_self ..), k⟩⟩
  | wait t =>
    refine ⟨_, rfl, rq, _, dxr, _, _, rfl, hq1, T.cl_Request, T.na_Request_kind, reqF_kind, rfl, _, rfl, if_f (kind_no 7 2 (by decide)) ?_⟩
    refine ⟨_, rfl, rq, _, dxr, _, _, rfl, hq1, T.cl_Request, T.na_Request_kind, reqF_kind, rfl, _, rfl, if_f (kind_no 7 3 (by decide)) ?_⟩
    refine ⟨_, rfl, rq, _, dxr, _, _, rfl, hq1, T.cl_Request, T.na_Request_kind, reqF_kind, rfl, _, rfl, if_f (kind_no 7 4 (by decide)) ?_⟩
    refine ⟨_, rfl, rq, _, dxr, _, _, rfl, hq1, T.cl_Request, T.na_Request_kind, reqF_kind, rfl, _, rfl, if_f (kind_no 7 5 (by decide)) ?_⟩
    refine ⟨_, rfl, rq, _, dxr, _, _, rfl, hq1, T.cl_Request, T.na_Request_kind, reqF_kind, rfl, _, rfl, if_f (kind_no 7 6 (by decide)) ?_⟩
    exact ⟨_, rfl, _, rfl, L, h, rq, t, rfl, R, Tl, W.base, rq_, k⟩
  | lift x =>
    exact absurd kd (by show ¬ ((8 : Nat) ≤ 7); decide)
  | digit x d =>
    exact absurd kd (by show ¬ ((9 : Nat) ≤ 7); decide)
  | hang x =>
    exact absurd kd (by show ¬ ((10 : Nat) ≤ 7); decide)
  | tick t =>
    exact absurd kd (by show ¬ ((11 : Nat) ≤ 7); decide)
  | look x =>
    exact absurd kd (by show ¬ ((12 : Nat) ≤ 7); decide)
  | middle m =>
    exact absurd kd (by show ¬ ((13 : Nat) ≤ 7); decide)
  | owes x =>
    exact absurd kd (by show ¬ ((14 : Nat) ≤ 7); decide)
  | record j =>
    exact absurd kd (by show ¬ ((15 : Nat) ≤ 7); decide)
  | owner d =>
    exact absurd kd (by show ¬ ((16 : Nat) ≤ 7); decide)
  | counts =>
    exact absurd kd (by show ¬ ((17 : Nat) ≤ 7); decide)
def sp_answer_of_doing (K : PySem.W.Frag) (C : Cs) : Sp := fun vs H Q _ => ∃ (L : Lay) (h : Te.Hall) (rq : Addr) (q : Req) (cl : Te.Call), vs = [.ref L.ex, .ref rq] ∧ Rep C H L h ∧ Tells L h ∧ WF h ∧ Is q cl ∧ Short q ∧ q.kind ≠ 1 ∧ InR h q ∧ h.records.length ≤ 1000 ∧ ReqAt C H L rq q.kind q.nums q.rows ∧ Ans C H L h cl Q ∧ (8 ≤ q.kind ∧ q.kind ≤ 11)
theorem cal_answer_of_doing (T : Txt K mg C) : Cal P w K mg base 8 "answer_of_doing" (sp_answer_of_doing K C) := by
  refine T.d_answer_of_doing.cal sc_answer_of_doing (fun vs H Q E h => ?_) (fun f cdv A outer s H vs Q E hr h => ⟨_, (pss_cons (ps_if (pt_cmpR op_eq (pe_fld (pv 1) rfl) (pe_gi rfl T.k_LIFT) (nomark _))
      (pss_one (ps_ret (pe_c (cal_lift T) hr (by decide) rfl (pa_cons (pv 0) (pa_cons (pv 1) pa_nil)))))
      pss_nil)
    (pss_cons (ps_if (pt_cmpR op_eq (pe_fld (pv 1) rfl) (pe_gi rfl T.k_DIGIT) (nomark _))
      (pss_one (ps_ret (pe_c (cal_press_digit T) hr (by decide) rfl (pa_cons (pv 0) (pa_cons (pv 1) pa_nil)))))
      pss_nil)
    (pss_cons (ps_if (pt_cmpR op_eq (pe_fld (pv 1) rfl) (pe_gi rfl T.k_HANG) (nomark _))
      (pss_one (ps_ret (pe_c (cal_hang T) hr (by decide) rfl (pa_cons (pv 0) (pa_cons (pv 1) pa_nil)))))
      pss_nil)
    (pss_one (ps_ret (pe_c (cal_pass_time T) hr (by decide) rfl (pa_cons (pv 0) (pa_cons (pv 1) pa_nil)))))))), ?_⟩)
  · obtain ⟨L, h, rq, q, cl, rfl, _⟩ := h
    rfl
  obtain ⟨L, h, rq, q, cl, rfl, R, Tl, W, i, sh, n1, r, rl, rq_, k, kd⟩ := h
  obtain ⟨dxr, na, ra, rs, hq1, hq2, hq3, hq4, hq5⟩ := rq_.ex
  cases i with
  | begin_ n r m => exact absurd rfl n1
  | number x d =>
    exact absurd kd (by show ¬ (8 ≤ (2 : Nat) ∧ (2 : Nat) ≤ 11); decide)
  | clear x =>
    exact absurd kd (by show ¬ (8 ≤ (3 : Nat) ∧ (3 : Nat) ≤ 11); decide)
  | group d l =>
    exact absurd kd (by show ¬ (8 ≤ (4 : Nat) ∧ (4 : Nat) ≤ 11); decide)
  | price c d =>
    exact absurd kd (by show ¬ (8 ≤ (5 : Nat) ∧ (5 : Nat) ≤ 11); decide)
  | hand x n d =>
    exact absurd kd (by show ¬ (8 ≤ (6 : Nat) ∧ (6 : Nat) ≤ 11); decide)
  | wait t =>
    exact absurd kd (by show ¬ (8 ≤ (7 : Nat) ∧ (7 : Nat) ≤ 11); decide)
  | lift x =>
    exact ⟨_, rfl, rq, _, dxr, _, _, rfl, hq1, T.cl_Request, T.na_Request_kind, reqF_kind, rfl, _, rfl, if_t (kind_yes 8) ⟨_, rfl, _, rfl, L, h, rq, x, rfl, R, Tl, W, rq_, r x _ (show (8 : Nat) ∈ ofLine by decide) rfl, k⟩⟩
  | digit x d =>
    refine ⟨_, rfl, rq, _, dxr, _, _, rfl, hq1, T.cl_Request, T.na_Request_kind, reqF_kind, rfl, _, rfl, if_f (kind_no 9 8 (by decide)) ?_⟩
    exact ⟨_, rfl, rq, _, dxr, _, _, rfl, hq1, T.cl_Request, T.na_Request_kind, reqF_kind, rfl, _, rfl, if_t (kind_yes 9) ⟨_, rfl, _, rfl, L, h, rq, x, d, rfl, R, Tl, W, rq_, r x _ (show (9 : Nat) ∈ ofLine by decide) rfl, k⟩⟩
  | hang x =>
    refine ⟨_, rfl, rq, _, dxr, _, _, rfl, hq1, T.cl_Request, T.na_Request_kind, reqF_kind, rfl, _, rfl, if_f (kind_no 10 8 (by decide)) ?_⟩
    refine ⟨_, rfl, rq, _, dxr, _, _, rfl, hq1, T.cl_Request, T.na_Request_kind, reqF_kind, rfl, _, rfl, if_f (kind_no 10 9 (by decide)) ?_⟩
    exact ⟨_, rfl, rq, _, dxr, _, _, rfl, hq1, T.cl_Request, T.na_Request_kind, reqF_kind, rfl, _, rfl, if_t (kind_yes 10) ⟨_, rfl, _, rfl, L, h, rq, x, rfl, R, Tl, W, rq_, r x _ (show (10 : Nat) ∈ ofLine by decide) rfl, rl, k⟩⟩
  | tick t =>
    refine ⟨_, rfl, rq, _, dxr, _, _, rfl, hq1, T.cl_Request, T.na_Request_kind, reqF_kind, rfl, _, rfl, if_f (kind_no 11 8 (by decide)) ?_⟩
    refine ⟨_, rfl, rq, _, dxr, _, _, rfl, hq1, T.cl_Request, T.na_Request_kind, reqF_kind, rfl, _, rfl, if_f (kind_no 11 9 (by decide)) ?_⟩
    refine ⟨_, rfl, rq, _, dxr, _, _, rfl, hq1, T.cl_Request, T.na_Request_kind, reqF_kind, rfl, _, rfl, if_f (kind_no 11 10 (by decide)) ?_⟩
    exact ⟨_, rfl, _, rfl, L, h, rq, t, rfl, R, Tl, W, rq_, k⟩
  | look x =>
    exact absurd kd (by show ¬ (8 ≤ (12 : Nat) ∧ (12 : Nat) ≤ 11); decide)
  | middle m =>
    exact absurd kd (by show ¬ (8 ≤ (13 : Nat) ∧ (13 : Nat) ≤ 11); decide)
  | owes x =>
    exact absurd kd (by show ¬ (8 ≤ (14 : Nat) ∧ (14 : Nat) ≤ 11); decide)
  | record j =>
    exact absurd kd (by show ¬ (8 ≤ (15 : Nat) ∧ (15 : Nat) ≤ 11); decide)
  | owner d =>
    exact absurd kd (by show ¬ (8 ≤ (16 : Nat) ∧ (16 : Nat) ≤ 11); decide)
  | counts =>
    exact absurd kd (by show ¬ (8 ≤ (17 : Nat) ∧ (17 : Nat) ≤ 11); decide)
def sp_answer_of_telling (K : PySem.W.Frag) (C : Cs) : Sp := fun vs H Q _ => ∃ (L : Lay) (h : Te.Hall) (rq : Addr) (q : Req) (cl : Te.Call), vs = [.ref L.ex, .ref rq] ∧ Rep C H L h ∧ Tells L h ∧ WF h ∧ Is q cl ∧ Short q ∧ q.kind ≠ 1 ∧ InR h q ∧ h.records.length ≤ 1000 ∧ ReqAt C H L rq q.kind q.nums q.rows ∧ Ans C H L h cl Q ∧ (12 ≤ q.kind)
theorem cal_answer_of_telling (T : Txt K mg C) : Cal P w K mg base 4 "answer_of_telling" (sp_answer_of_telling K C) := by
  refine T.d_answer_of_telling.cal sc_answer_of_telling (fun vs H Q E h => ?_) (fun f cdv A outer s H vs Q E hr h => ⟨_, (pss_cons (ps_if (pt_cmpR op_eq (pe_fld (pv 1) rfl) (pe_gi rfl T.k_LOOK) (nomark _))
      (pss_one (ps_ret (pe_c (cal_look_at_line T) hr (by decide) rfl (pa_cons (pv 0) (pa_cons (pv 1) pa_nil)))))
      pss_nil)
    (pss_cons (ps_if (pt_cmpR op_eq (pe_fld (pv 1) rfl) (pe_gi rfl T.k_MIDDLE) (nomark _))
      (pss_one (ps_ret (pe_c (cal_look_at_middle T) hr (by decide) rfl (pa_cons (pv 0) (pa_cons (pv 1) pa_nil)))))
      pss_nil)
    (pss_cons (ps_if (pt_cmpR op_eq (pe_fld (pv 1) rfl) (pe_gi rfl T.k_OWES) (nomark _))
      (pss_one (ps_ret (pe_c (cal_tell_owed T) hr (by decide) rfl (pa_cons (pv 0) (pa_cons (pv 1) pa_nil)))))
      pss_nil)
    (pss_cons (ps_if (pt_cmpR op_eq (pe_fld (pv 1) rfl) (pe_gi rfl T.k_RECORD) (nomark _))
      (pss_one (ps_ret (pe_c (cal_tell_record T) hr (by decide) rfl (pa_cons (pv 0) (pa_cons (pv 1) pa_nil)))))
      pss_nil)
    (pss_cons (ps_if (pt_cmpR op_eq (pe_fld (pv 1) rfl) (pe_gi rfl T.k_OWNER) (nomark _))
      (pss_one (ps_ret (pe_c (cal_tell_owner T) hr (by decide) rfl (pa_cons (pv 0) (pa_cons (pv 1) pa_nil)))))
      pss_nil)
    (pss_one (ps_ret (pe_c (cal_tell_counts T) hr (by decide) rfl (pa_cons (pv 0) pa_nil))))))))), ?_⟩)
  · obtain ⟨L, h, rq, q, cl, rfl, _⟩ := h
    rfl
  obtain ⟨L, h, rq, q, cl, rfl, R, Tl, W, i, sh, n1, r, rl, rq_, k, kd⟩ := h
  obtain ⟨dxr, na, ra, rs, hq1, hq2, hq3, hq4, hq5⟩ := rq_.ex
  cases i with
  | begin_ n r m => exact absurd rfl n1
  | number x d =>
    exact absurd kd (by show ¬ (12 ≤ (2 : Nat)); decide)
  | clear x =>
    exact absurd kd (by show ¬ (12 ≤ (3 : Nat)); decide)
  | group d l =>
    exact absurd kd (by show ¬ (12 ≤ (4 : Nat)); decide)
  | price c d =>
    exact absurd kd (by show ¬ (12 ≤ (5 : Nat)); decide)
  | hand x n d =>
    exact absurd kd (by show ¬ (12 ≤ (6 : Nat)); decide)
  | wait t =>
    exact absurd kd (by show ¬ (12 ≤ (7 : Nat)); decide)
  | lift x =>
    exact absurd kd (by show ¬ (12 ≤ (8 : Nat)); decide)
  | digit x d =>
    exact absurd kd (by show ¬ (12 ≤ (9 : Nat)); decide)
  | hang x =>
    exact absurd kd (by show ¬ (12 ≤ (10 : Nat)); decide)
  | tick t =>
    exact absurd kd (by show ¬ (12 ≤ (11 : Nat)); decide)
  | look x =>
    exact ⟨_, rfl, rq, _, dxr, _, _, rfl, hq1, T.cl_Request, T.na_Request_kind, reqF_kind, rfl, _, rfl, if_t (kind_yes 12) ⟨_, rfl, _, rfl, L, h, rq, x, rfl, R, Tl, W, rq_, r x _ (show (12 : Nat) ∈ ofLine by decide) rfl, k⟩⟩
  | middle m =>
    refine ⟨_, rfl, rq, _, dxr, _, _, rfl, hq1, T.cl_Request, T.na_Request_kind, reqF_kind, rfl, _, rfl, if_f (kind_no 13 12 (by decide)) ?_⟩
    exact ⟨_, rfl, rq, _, dxr, _, _, rfl, hq1, T.cl_Request, T.na_Request_kind, reqF_kind, rfl, _, rfl, if_t (kind_yes 13) ⟨_, rfl, _, rfl, L, h, rq, m, rfl, R, Tl, W, rq_, k⟩⟩
  | owes x =>
    refine ⟨_, rfl, rq, _, dxr, _, _, rfl, hq1, T.cl_Request, T.na_Request_kind, reqF_kind, rfl, _, rfl, if_f (kind_no 14 12 (by decide)) ?_⟩
    refine ⟨_, rfl, rq, _, dxr, _, _, rfl, hq1, T.cl_Request, T.na_Request_kind, reqF_kind, rfl, _, rfl, if_f (kind_no 14 13 (by decide)) ?_⟩
    exact ⟨_, rfl, rq, _, dxr, _, _, rfl, hq1, T.cl_Request, T.na_Request_kind, reqF_kind, rfl, _, rfl, if_t (kind_yes 14) ⟨_, rfl, _, rfl, L, h, rq, x, rfl, R, Tl, W, rq_, r x _ (show (14 : Nat) ∈ ofLine by decide) rfl, k⟩⟩
  | record j =>
    refine ⟨_, rfl, rq, _, dxr, _, _, rfl, hq1, T.cl_Request, T.na_Request_kind, reqF_kind, rfl, _, rfl, if_f (kind_no 15 12 (by decide)) ?_⟩
    refine ⟨_, rfl, rq, _, dxr, _, _, rfl, hq1, T.cl_Request, T.na_Request_kind, reqF_kind, rfl, _, rfl, if_f (kind_no 15 13 (by decide)) ?_⟩
    refine ⟨_, rfl, rq, _, dxr, _, _, rfl, hq1, T.cl_Request, T.na_Request_kind, reqF_kind, rfl, _, rfl, if_f (kind_no 15 14 (by decide)) ?_⟩
    exact ⟨_, rfl, rq, _, dxr, _, _, rfl, hq1, T.cl_Request, T.na_Request_kind, reqF_kind, rfl, _, rfl, if_t (kind_yes 15) ⟨_, rfl, _, rfl, L, h, rq, j, rfl, R, Tl, W, rq_, k⟩⟩
  | owner d =>
    refine ⟨_, rfl, rq, _, dxr, _, _, rfl, hq1, T.cl_Request, T.na_Request_kind, reqF_kind, rfl, _, rfl, if_f (kind_no 16 12 (by decide)) ?_⟩
    refine ⟨_, rfl, rq, _, dxr, _, _, rfl, hq1, T.cl_Request, T.na_Request_kind, reqF_kind, rfl, _, rfl, if_f (kind_no 16 13 (by decide)) ?_⟩
    refine ⟨_, rfl, rq, _, dxr, _, _, rfl, hq1, T.cl_Request, T.na_Request_kind, reqF_kind, rfl, _, rfl, if_f (kind_no 16 14 (by decide)) ?_⟩
    refine ⟨_, rfl, rq, _, dxr, _, _, rfl, hq1, T.cl_Request, T.na_Request_kind, reqF_kind, rfl, _, rfl, if_f (kind_no 16 15 (by decide)) ?_⟩
    exact ⟨_, rfl, rq, _, dxr, _, _, rfl, hq1, T.cl_Request, T.na_Request_kind, reqF_kind, rfl, _, rfl, if_t (kind_yes 16) ⟨_, rfl, _, rfl, L, h, rq, d, rfl, R, Tl, W, rq_, sh d (List.mem_cons_self ..), k⟩⟩
  | counts =>
    refine ⟨_, rfl, rq, _, dxr, _, _, rfl, hq1, T.cl_Request, T.na_Request_kind, reqF_kind, rfl, _, rfl, if_f (kind_no 17 12 (by decide)) ?_⟩
    refine ⟨_, rfl, rq, _, dxr, _, _, rfl, hq1, T.cl_Request, T.na_Request_kind, reqF_kind, rfl, _, rfl, if_f (kind_no 17 13 (by decide)) ?_⟩
    refine ⟨_, rfl, rq, _, dxr, _, _, rfl, hq1, T.cl_Request, T.na_Request_kind, reqF_kind, rfl, _, rfl, if_f (kind_no 17 14 (by decide)) ?_⟩
    refine ⟨_, rfl, rq, _, dxr, _, _, rfl, hq1, T.cl_Request, T.na_Request_kind, reqF_kind, rfl, _, rfl, if_f (kind_no 17 15 (by decide)) ?_⟩
    refine ⟨_, rfl, rq, _, dxr, _, _, rfl, hq1, T.cl_Request, T.na_Request_kind, reqF_kind, rfl, _, rfl, if_f (kind_no 17 16 (by decide)) ?_⟩
    exact ⟨_, rfl, L, h, rfl, R, Tl, k⟩
theorem cal_answer_of (T : Txt K mg C) : Cal P w K mg base 9 "answer_of" (sp_answer_of K C) := by
  refine T.d_answer_of.cal sc_answer_of (fun vs H Q E h => ?_) (fun f cdv A outer s H vs Q E hr h => ⟨_, (pss_cons (ps_if (pt_cmpR op_le (pe_fld (pv 1) rfl) (pe_gi rfl T.k_WAIT) (nomark _))
      (pss_one (ps_ret (pe_c (cal_answer_of_order T) hr (by decide) rfl (pa_cons (pv 0) (pa_cons (pv 1) pa_nil)))))
      pss_nil)
    (pss_cons (ps_if (pt_cmpR op_le (pe_fld (pv 1) rfl) (pe_gi rfl T.k_TICK) (nomark _))
      (pss_one (ps_ret (pe_c (cal_answer_of_doing T) hr (by decide) rfl (pa_cons (pv 0) (pa_cons (pv 1) pa_nil)))))
      pss_nil)
    (pss_one (ps_ret (pe_c (cal_answer_of_telling T) hr (by decide) rfl (pa_cons (pv 0) (pa_cons (pv 1) pa_nil))))))), ?_⟩)
  · obtain ⟨L, h, rq, q, cl, rfl, _⟩ := h
    rfl
  obtain ⟨L, h, rq, q, cl, rfl, R, Tl, W, i, sh, n1, r, rl, rq_, k⟩ := h
  obtain ⟨dxr, na, ra, rs, hq1, hq2, hq3, hq4, hq5⟩ := rq_.ex
  refine ⟨_, rfl, rq, _, dxr, _, _, rfl, hq1, T.cl_Request, T.na_Request_kind, reqF_kind, _, _, rfl, rfl, _, rfl, ?_⟩
  by_cases c1 : q.kind ≤ 7
  · exact if_t (decide_eq_true (by omega)) ⟨_, rfl, _, rfl, L, h, rq, q, cl, rfl, R, Tl, W, i, sh, n1, r, rl, rq_, k, c1⟩
  refine if_f (decide_eq_false (by omega)) ⟨_, rfl, rq, _, dxr, _, _, rfl, hq1, T.cl_Request, T.na_Request_kind, reqF_kind, _, _, rfl, rfl, _, rfl, ?_⟩
  by_cases c2 : q.kind ≤ 11
  · exact if_t (decide_eq_true (by omega)) ⟨_, rfl, _, rfl, L, h, rq, q, cl, rfl, R, Tl, W, i, sh, n1, r, rl, rq_, k, by omega, c2⟩
  · exact if_f (decide_eq_false (by omega)) ⟨_, rfl, _, rfl, L, h, rq, q, cl, rfl, R, Tl, W, i, sh, n1, r, rl, rq_, k, by omega⟩
end
end Tx
end
section
namespace Tx
open PySem PySem.W PyProof.Rows
abbrev row := PySem.Challenge.rw_townexchange_s01_answers
theorem asked_in (K : Frag) (H : L2.Hp) (xs : List L2.V) (a : Codec.denoteAll row.args) (_ : L2.OnlyF H) (hwi : Codec.withinAll row.args a = true) (hask : Codec.app row.args row.asked a = true) (hx : L2.DwAll K H xs (Codec.encAll row.args a)) :
    sp_answers K xs H (fun v H' => L2.Dw K H' v (row.ret.enc (Codec.app row.args row.f a))) fun _ _ _ => False := by
  cases hx with
  | cons h1 h2 =>
    cases h2
    cases h1 with
    | lst hs ha =>
      have e := L2.ints_dw a.1 _ ha
      subst e
      have q : ((Codec.inLen 0 16000 a.1 && a.1.all (Codec.inInt 0 9223372036854775807)) && true) = true := hwi
      rw [Bool.and_eq_true, Bool.and_eq_true] at q
      refine sp_asked (fun z hz => ?_) hask hs fun H' p hp => .lst (L2.SqL.of hp) (L2.dw_ints _)
      exact (Codec.inInt_iff.mp (List.all_eq_true.mp q.1.2 z hz)).1
end Tx
end
section
namespace Tx
open PySem PySem.Spec PyProof.Rows L2
/-! ### what the top has written -/
def Bd (x q : Str) (st : Stmt) (ps : List Str) : Prop := ∀ (kV doc pm : Value) (an : Option Addr) (cdv ct : Value) (us : List Value), us.length = ps.length → bindArgs (PySem.W.fnOf x q (defArgs st) (defBody st) (defScope st) .none kV doc pm an cdv ct) ⟨us, []⟩ = pure (ps.zip us)
theorem bd_init_Line : Bd "__init__" "Line.__init__" s_init_Line ["self"] := fun _ _ _ _ _ _ us hl => match us, hl with | [_], _ => rfl
theorem bd_init_Group : Bd "__init__" "Group.__init__" s_init_Group ["self", "number", "members"] := fun _ _ _ _ _ _ us hl => match us, hl with | [_, _, _], _ => rfl
theorem bd_init_Call : Bd "__init__" "Call.__init__" s_init_Call ["self", "caller", "called", "number", "handed_on", "time"] := fun _ _ _ _ _ _ us hl => match us, hl with | [_, _, _, _, _, _], _ => rfl
theorem bd_init_Exchange : Bd "__init__" "Exchange.__init__" s_init_Exchange ["self", "lines_each", "switches", "middles"] := fun _ _ _ _ _ _ us hl => match us, hl with | [_, _, _, _], _ => rfl
theorem bd_init_Town : Bd "__init__" "Town.__init__" s_init_Town ["self"] := fun _ _ _ _ _ _ us hl => match us, hl with | [_], _ => rfl
theorem bd_are_digits : Bd "are_digits" "are_digits" s_are_digits ["row"] := fun _ _ _ _ _ _ us hl => match us, hl with | [_], _ => rfl
theorem bd_is_number : Bd "is_number" "is_number" s_is_number ["row"] := fun _ _ _ _ _ _ us hl => match us, hl with | [_], _ => rfl
theorem bd_begins : Bd "begins" "begins" s_begins ["start", "row"] := fun _ _ _ _ _ _ us hl => match us, hl with | [_, _], _ => rfl
theorem bd_numbers_there : Bd "numbers_there" "numbers_there" s_numbers_there ["exchange"] := fun _ _ _ _ _ _ us hl => match us, hl with | [_], _ => rfl
theorem bd_some_number_begins : Bd "some_number_begins" "some_number_begins" s_some_number_begins ["exchange", "digits"] := fun _ _ _ _ _ _ us hl => match us, hl with | [_, _], _ => rfl
theorem bd_clashes : Bd "clashes" "clashes" s_clashes ["exchange", "digits"] := fun _ _ _ _ _ _ us hl => match us, hl with | [_, _], _ => rfl
theorem bd_line_of_number : Bd "line_of_number" "line_of_number" s_line_of_number ["exchange", "digits"] := fun _ _ _ _ _ _ us hl => match us, hl with | [_, _], _ => rfl
theorem bd_group_of_number : Bd "group_of_number" "group_of_number" s_group_of_number ["exchange", "digits"] := fun _ _ _ _ _ _ us hl => match us, hl with | [_, _], _ => rfl
theorem bd_is_somebodys : Bd "is_somebodys" "is_somebodys" s_is_somebodys ["exchange", "digits"] := fun _ _ _ _ _ _ us hl => match us, hl with | [_, _], _ => rfl
theorem bd_price_of : Bd "price_of" "price_of" s_price_of ["exchange", "number"] := fun _ _ _ _ _ _ us hl => match us, hl with | [_, _], _ => rfl
theorem bd_give_number : Bd "give_number" "give_number" s_give_number ["exchange", "request"] := fun _ _ _ _ _ _ us hl => match us, hl with | [_, _], _ => rfl
theorem bd_clear_number : Bd "clear_number" "clear_number" s_clear_number ["exchange", "request"] := fun _ _ _ _ _ _ us hl => match us, hl with | [_, _], _ => rfl
theorem bd_are_members : Bd "are_members" "are_members" s_are_members ["exchange", "places"] := fun _ _ _ _ _ _ us hl => match us, hl with | [_, _], _ => rfl
theorem bd_make_group : Bd "make_group" "make_group" s_make_group ["exchange", "request"] := fun _ _ _ _ _ _ us hl => match us, hl with | [_, _], _ => rfl
theorem bd_tell_price : Bd "tell_price" "tell_price" s_tell_price ["exchange", "request"] := fun _ _ _ _ _ _ us hl => match us, hl with | [_, _], _ => rfl
theorem bd_hand_on : Bd "hand_on" "hand_on" s_hand_on ["exchange", "request"] := fun _ _ _ _ _ _ us hl => match us, hl with | [_, _], _ => rfl
theorem bd_set_wait : Bd "set_wait" "set_wait" s_set_wait ["exchange", "request"] := fun _ _ _ _ _ _ us hl => match us, hl with | [_, _], _ => rfl
theorem bd_switch_of : Bd "switch_of" "switch_of" s_switch_of ["exchange", "line"] := fun _ _ _ _ _ _ us hl => match us, hl with | [_, _], _ => rfl
theorem bd_call_from : Bd "call_from" "call_from" s_call_from ["exchange", "switch", "middle"] := fun _ _ _ _ _ _ us hl => match us, hl with | [_, _, _], _ => rfl
theorem bd_call_to : Bd "call_to" "call_to" s_call_to ["exchange", "switch", "middle"] := fun _ _ _ _ _ _ us hl => match us, hl with | [_, _, _], _ => rfl
theorem bd_free_from : Bd "free_from" "free_from" s_free_from ["exchange", "switch"] := fun _ _ _ _ _ _ us hl => match us, hl with | [_, _], _ => rfl
theorem bd_free_to : Bd "free_to" "free_to" s_free_to ["exchange", "switch"] := fun _ _ _ _ _ _ us hl => match us, hl with | [_, _], _ => rfl
theorem bd_calls_to_move : Bd "calls_to_move" "calls_to_move" s_calls_to_move ["exchange", "last", "leave", "take"] := fun _ _ _ _ _ _ us hl => match us, hl with | [_, _, _, _], _ => rfl
theorem bd_put_on_a_way : Bd "put_on_a_way" "put_on_a_way" s_put_on_a_way ["exchange", "call"] := fun _ _ _ _ _ _ us hl => match us, hl with | [_, _], _ => rfl
theorem bd_give_tone : Bd "give_tone" "give_tone" s_give_tone ["line"] := fun _ _ _ _ _ _ us hl => match us, hl with | [_], _ => rfl
theorem bd_enter_call : Bd "enter_call" "enter_call" s_enter_call ["line", "state", "call"] := fun _ _ _ _ _ _ us hl => match us, hl with | [_, _, _], _ => rfl
theorem bd_is_idle : Bd "is_idle" "is_idle" s_is_idle ["exchange", "place"] := fun _ _ _ _ _ _ us hl => match us, hl with | [_, _], _ => rfl
theorem bd_handed_on_to : Bd "handed_on_to" "handed_on_to" s_handed_on_to ["line"] := fun _ _ _ _ _ _ us hl => match us, hl with | [_], _ => rfl
theorem bd_first_idle_member : Bd "first_idle_member" "first_idle_member" s_first_idle_member ["exchange", "digits", "caller"] := fun _ _ _ _ _ _ us hl => match us, hl with | [_, _, _], _ => rfl
theorem bd_call_that_rings : Bd "call_that_rings" "call_that_rings" s_call_that_rings ["exchange", "caller", "dialed", "digits", "handed_on"] := fun _ _ _ _ _ _ us hl => match us, hl with | [_, _, _, _, _], _ => rfl
theorem bd_try_number : Bd "try_number" "try_number" s_try_number ["exchange", "caller", "dialed", "digits", "handed_on"] := fun _ _ _ _ _ _ us hl => match us, hl with | [_, _, _, _, _], _ => rfl
theorem bd_make_idle : Bd "make_idle" "make_idle" s_make_idle ["line"] := fun _ _ _ _ _ _ us hl => match us, hl with | [_], _ => rfl
theorem bd_minutes_begun : Bd "minutes_begun" "minutes_begun" s_minutes_begun ["time"] := fun _ _ _ _ _ _ us hl => match us, hl with | [_], _ => rfl
theorem bd_cents_of : Bd "cents_of" "cents_of" s_cents_of ["exchange", "call"] := fun _ _ _ _ _ _ us hl => match us, hl with | [_, _], _ => rfl
theorem bd_end_ringing : Bd "end_ringing" "end_ringing" s_end_ringing ["exchange", "call"] := fun _ _ _ _ _ _ us hl => match us, hl with | [_, _], _ => rfl
theorem bd_end_talk : Bd "end_talk" "end_talk" s_end_talk ["exchange", "call", "hung_up"] := fun _ _ _ _ _ _ us hl => match us, hl with | [_, _, _], _ => rfl
theorem bd_rang_too_long : Bd "rang_too_long" "rang_too_long" s_rang_too_long ["exchange", "call"] := fun _ _ _ _ _ _ us hl => match us, hl with | [_, _], _ => rfl
theorem bd_nobody_answers : Bd "nobody_answers" "nobody_answers" s_nobody_answers ["exchange", "call"] := fun _ _ _ _ _ _ us hl => match us, hl with | [_, _], _ => rfl
theorem bd_pass_time : Bd "pass_time" "pass_time" s_pass_time ["exchange", "request"] := fun _ _ _ _ _ _ us hl => match us, hl with | [_, _], _ => rfl
theorem bd_start_talk : Bd "start_talk" "start_talk" s_start_talk ["exchange", "call"] := fun _ _ _ _ _ _ us hl => match us, hl with | [_, _], _ => rfl
theorem bd_lift : Bd "lift" "lift" s_lift ["exchange", "request"] := fun _ _ _ _ _ _ us hl => match us, hl with | [_, _], _ => rfl
theorem bd_press_digit : Bd "press_digit" "press_digit" s_press_digit ["exchange", "request"] := fun _ _ _ _ _ _ us hl => match us, hl with | [_, _], _ => rfl
theorem bd_hang : Bd "hang" "hang" s_hang ["exchange", "request"] := fun _ _ _ _ _ _ us hl => match us, hl with | [_, _], _ => rfl
theorem bd_init_Request : Bd "__init__" "Request.__init__" s_init_Request ["self", "kind", "numbers", "rows"] := fun _ _ _ _ _ _ us hl => match us, hl with | [_, _, _, _], _ => rfl
theorem bd_read_rows : Bd "read_rows" "read_rows" s_read_rows ["calls", "start", "how_many"] := fun _ _ _ _ _ _ us hl => match us, hl with | [_, _, _], _ => rfl
theorem bd_read_request : Bd "read_request" "read_request" s_read_request ["calls", "start"] := fun _ _ _ _ _ _ us hl => match us, hl with | [_, _], _ => rfl
theorem bd_length_of : Bd "length_of" "length_of" s_length_of ["request"] := fun _ _ _ _ _ _ us hl => match us, hl with | [_], _ => rfl
theorem bd_read_requests : Bd "read_requests" "read_requests" s_read_requests ["calls"] := fun _ _ _ _ _ _ us hl => match us, hl with | [_], _ => rfl
theorem bd_look_at_line : Bd "look_at_line" "look_at_line" s_look_at_line ["exchange", "request"] := fun _ _ _ _ _ _ us hl => match us, hl with | [_, _], _ => rfl
theorem bd_look_at_middle : Bd "look_at_middle" "look_at_middle" s_look_at_middle ["exchange", "request"] := fun _ _ _ _ _ _ us hl => match us, hl with | [_, _], _ => rfl
theorem bd_tell_owed : Bd "tell_owed" "tell_owed" s_tell_owed ["exchange", "request"] := fun _ _ _ _ _ _ us hl => match us, hl with | [_, _], _ => rfl
theorem bd_tell_record : Bd "tell_record" "tell_record" s_tell_record ["exchange", "request"] := fun _ _ _ _ _ _ us hl => match us, hl with | [_, _], _ => rfl
theorem bd_tell_owner : Bd "tell_owner" "tell_owner" s_tell_owner ["exchange", "request"] := fun _ _ _ _ _ _ us hl => match us, hl with | [_, _], _ => rfl
theorem bd_tell_counts : Bd "tell_counts" "tell_counts" s_tell_counts ["exchange"] := fun _ _ _ _ _ _ us hl => match us, hl with | [_], _ => rfl
theorem bd_sizes_fit : Bd "sizes_fit" "sizes_fit" s_sizes_fit ["lines_each", "switches", "middles"] := fun _ _ _ _ _ _ us hl => match us, hl with | [_, _, _], _ => rfl
theorem bd_begin : Bd "begin" "begin" s_begin ["town", "request"] := fun _ _ _ _ _ _ us hl => match us, hl with | [_, _], _ => rfl
theorem bd_answer_of_order : Bd "answer_of_order" "answer_of_order" s_answer_of_order ["exchange", "request"] := fun _ _ _ _ _ _ us hl => match us, hl with | [_, _], _ => rfl
theorem bd_answer_of_doing : Bd "answer_of_doing" "answer_of_doing" s_answer_of_doing ["exchange", "request"] := fun _ _ _ _ _ _ us hl => match us, hl with | [_, _], _ => rfl
theorem bd_answer_of_telling : Bd "answer_of_telling" "answer_of_telling" s_answer_of_telling ["exchange", "request"] := fun _ _ _ _ _ _ us hl => match us, hl with | [_, _], _ => rfl
theorem bd_answer_of : Bd "answer_of" "answer_of" s_answer_of ["exchange", "request"] := fun _ _ _ _ _ _ us hl => match us, hl with | [_, _], _ => rfl
theorem bd_answer_request : Bd "answer_request" "answer_request" s_answer_request ["town", "request"] := fun _ _ _ _ _ _ us hl => match us, hl with | [_, _], _ => rfl
theorem bd_laid_out : Bd "laid_out" "laid_out" s_laid_out ["answer"] := fun _ _ _ _ _ _ us hl => match us, hl with | [_], _ => rfl
theorem bd_answers : Bd "answers" "answers" s_answers ["calls"] := fun _ _ _ _ _ _ us hl => match us, hl with | [_], _ => rfl
theorem txt_mk {K : PySem.W.Frag} {mg : Str → Option Value} {c_Line c_Group c_Call c_Exchange c_Town c_Request a_FORMS a_OF_A_LINE : Addr} (l_Line : Klass K mg "Line" "Line.__init__" s_init_Line ["self"] c_Line) (cl_Line : Cls K c_Line) (na_Line_state : NoAttr K c_Line "state") (na_Line_number : NoAttr K c_Line "number") (na_Line_dialed : NoAttr K c_Line "dialed") (na_Line_hands : NoAttr K c_Line "hands") (na_Line_call : NoAttr K c_Line "call") (na_Line_owed : NoAttr K c_Line "owed") (l_Group : Klass K mg "Group" "Group.__init__" s_init_Group ["self", "number", "members"] c_Group) (cl_Group : Cls K c_Group) (na_Group_number : NoAttr K c_Group "number") (na_Group_members : NoAttr K c_Group "members") (l_Call : Klass K mg "Call" "Call.__init__" s_init_Call ["self", "caller", "called", "number", "handed_on", "time"] c_Call) (cl_Call : Cls K c_Call) (mro_Call : PySem.W.mroIn K c_Call (.type "object") = some true) (eq_Call : PySem.W.findIn K (.ref c_Call) "__eq__" = some (some (.builtin "object.__eq__"))) (na_Call_caller : NoAttr K c_Call "caller") (na_Call_called : NoAttr K c_Call "called") (na_Call_number : NoAttr K c_Call "number") (na_Call_handed_on : NoAttr K c_Call "handed_on") (na_Call_rings_since : NoAttr K c_Call "rings_since") (na_Call_talks_since : NoAttr K c_Call "talks_since") (na_Call_way : NoAttr K c_Call "way") (l_Exchange : Klass K mg "Exchange" "Exchange.__init__" s_init_Exchange ["self", "lines_each", "switches", "middles"] c_Exchange) (cl_Exchange : Cls K c_Exchange) (na_Exchange_lines_each : NoAttr K c_Exchange "lines_each") (na_Exchange_middles : NoAttr K c_Exchange "middles") (na_Exchange_lines : NoAttr K c_Exchange "lines") (na_Exchange_groups : NoAttr K c_Exchange "groups") (na_Exchange_prices : NoAttr K c_Exchange "prices") (na_Exchange_calls : NoAttr K c_Exchange "calls") (na_Exchange_records : NoAttr K c_Exchange "records") (na_Exchange_moved : NoAttr K c_Exchange "moved") (na_Exchange_time : NoAttr K c_Exchange "time") (na_Exchange_wait : NoAttr K c_Exchange "wait") (l_Town : Klass K mg "Town" "Town.__init__" s_init_Town ["self"] c_Town) (cl_Town : Cls K c_Town) (na_Town_exchange : NoAttr K c_Town "exchange") (d_are_digits : Def K mg "are_digits" s_are_digits ["row"]) (d_is_number : Def K mg "is_number" s_is_number ["row"]) (d_begins : Def K mg "begins" s_begins ["start", "row"]) (d_numbers_there : Def K mg "numbers_there" s_numbers_there ["exchange"]) (d_some_number_begins : Def K mg "some_number_begins" s_some_number_begins ["exchange", "digits"]) (d_clashes : Def K mg "clashes" s_clashes ["exchange", "digits"]) (d_line_of_number : Def K mg "line_of_number" s_line_of_number ["exchange", "digits"]) (d_group_of_number : Def K mg "group_of_number" s_group_of_number ["exchange", "digits"]) (d_is_somebodys : Def K mg "is_somebodys" s_is_somebodys ["exchange", "digits"]) (d_price_of : Def K mg "price_of" s_price_of ["exchange", "number"]) (d_give_number : Def K mg "give_number" s_give_number ["exchange", "request"]) (d_clear_number : Def K mg "clear_number" s_clear_number ["exchange", "request"]) (d_are_members : Def K mg "are_members" s_are_members ["exchange", "places"]) (d_make_group : Def K mg "make_group" s_make_group ["exchange", "request"]) (d_tell_price : Def K mg "tell_price" s_tell_price ["exchange", "request"]) (d_hand_on : Def K mg "hand_on" s_hand_on ["exchange", "request"]) (d_set_wait : Def K mg "set_wait" s_set_wait ["exchange", "request"]) (d_switch_of : Def K mg "switch_of" s_switch_of ["exchange", "line"]) (d_call_from : Def K mg "call_from" s_call_from ["exchange", "switch", "middle"]) (d_call_to : Def K mg "call_to" s_call_to ["exchange", "switch", "middle"]) (d_free_from : Def K mg "free_from" s_free_from ["exchange", "switch"]) (d_free_to : Def K mg "free_to" s_free_to ["exchange", "switch"]) (d_calls_to_move : Def K mg "calls_to_move" s_calls_to_move ["exchange", "last", "leave", "take"]) (d_put_on_a_way : Def K mg "put_on_a_way" s_put_on_a_way ["exchange", "call"]) (d_give_tone : Def K mg "give_tone" s_give_tone ["line"]) (d_enter_call : Def K mg "enter_call" s_enter_call ["line", "state", "call"]) (d_is_idle : Def K mg "is_idle" s_is_idle ["exchange", "place"]) (d_handed_on_to : Def K mg "handed_on_to" s_handed_on_to ["line"]) (d_first_idle_member : Def K mg "first_idle_member" s_first_idle_member ["exchange", "digits", "caller"]) (d_call_that_rings : Def K mg "call_that_rings" s_call_that_rings ["exchange", "caller", "dialed", "digits", "handed_on"]) (d_try_number : Def K mg "try_number" s_try_number ["exchange", "caller", "dialed", "digits", "handed_on"]) (d_make_idle : Def K mg "make_idle" s_make_idle ["line"]) (d_minutes_begun : Def K mg "minutes_begun" s_minutes_begun ["time"]) (d_cents_of : Def K mg "cents_of" s_cents_of ["exchange", "call"]) (d_end_ringing : Def K mg "end_ringing" s_end_ringing ["exchange", "call"]) (d_end_talk : Def K mg "end_talk" s_end_talk ["exchange", "call", "hung_up"]) (d_rang_too_long : Def K mg "rang_too_long" s_rang_too_long ["exchange", "call"]) (d_nobody_answers : Def K mg "nobody_answers" s_nobody_answers ["exchange", "call"]) (d_pass_time : Def K mg "pass_time" s_pass_time ["exchange", "request"]) (d_start_talk : Def K mg "start_talk" s_start_talk ["exchange", "call"]) (d_lift : Def K mg "lift" s_lift ["exchange", "request"]) (d_press_digit : Def K mg "press_digit" s_press_digit ["exchange", "request"]) (d_hang : Def K mg "hang" s_hang ["exchange", "request"]) (l_Request : Klass K mg "Request" "Request.__init__" s_init_Request ["self", "kind", "numbers", "rows"] c_Request) (cl_Request : Cls K c_Request) (na_Request_kind : NoAttr K c_Request "kind") (na_Request_numbers : NoAttr K c_Request "numbers") (na_Request_rows : NoAttr K c_Request "rows") (d_read_rows : Def K mg "read_rows" s_read_rows ["calls", "start", "how_many"]) (d_read_request : Def K mg "read_request" s_read_request ["calls", "start"]) (d_length_of : Def K mg "length_of" s_length_of ["request"]) (d_read_requests : Def K mg "read_requests" s_read_requests ["calls"]) (d_look_at_line : Def K mg "look_at_line" s_look_at_line ["exchange", "request"]) (d_look_at_middle : Def K mg "look_at_middle" s_look_at_middle ["exchange", "request"]) (d_tell_owed : Def K mg "tell_owed" s_tell_owed ["exchange", "request"]) (d_tell_record : Def K mg "tell_record" s_tell_record ["exchange", "request"]) (d_tell_owner : Def K mg "tell_owner" s_tell_owner ["exchange", "request"]) (d_tell_counts : Def K mg "tell_counts" s_tell_counts ["exchange"]) (d_sizes_fit : Def K mg "sizes_fit" s_sizes_fit ["lines_each", "switches", "middles"]) (d_begin : Def K mg "begin" s_begin ["town", "request"]) (d_answer_of_order : Def K mg "answer_of_order" s_answer_of_order ["exchange", "request"]) (d_answer_of_doing : Def K mg "answer_of_doing" s_answer_of_doing ["exchange", "request"]) (d_answer_of_telling : Def K mg "answer_of_telling" s_answer_of_telling ["exchange", "request"]) (d_answer_of : Def K mg "answer_of" s_answer_of ["exchange", "request"]) (d_answer_request : Def K mg "answer_request" s_answer_request ["town", "request"]) (d_laid_out : Def K mg "laid_out" s_laid_out ["answer"]) (d_answers : Def K mg "answers" s_answers ["calls"]) (k_IDLE : ∃ t, mg "IDLE" = some (.int (0) t)) (k_DIALS : ∃ t, mg "DIALS" = some (.int (1) t)) (k_TALKS : ∃ t, mg "TALKS" = some (.int (2) t)) (k_WAITS : ∃ t, mg "WAITS" = some (.int (3) t)) (k_TONE : ∃ t, mg "TONE" = some (.int (4) t)) (k_RINGS : ∃ t, mg "RINGS" = some (.int (5) t)) (k_ALWAYS : ∃ t, mg "ALWAYS" = some (.int (0) t)) (k_WHEN_BUSY : ∃ t, mg "WHEN_BUSY" = some (.int (1) t)) (k_WHEN_UNANSWERED : ∃ t, mg "WHEN_UNANSWERED" = some (.int (2) t)) (k_FIRST_WAIT : ∃ t, mg "FIRST_WAIT" = some (.int (30) t)) (k_MOST_DIGITS : ∃ t, mg "MOST_DIGITS" = some (.int (8) t)) (k_TOP_DIGIT : ∃ t, mg "TOP_DIGIT" = some (.int (9) t)) (k_NONE_SUCH : ∃ t, mg "NONE_SUCH" = some (.int (-1) t)) (k_NOT_BEGUN : ∃ t, mg "NOT_BEGUN" = some (.int (-2) t)) (k_NONE_THERE : ∃ t, mg "NONE_THERE" = some (.int (-3) t)) (k_NO_NUMBER : ∃ t, mg "NO_NUMBER" = some (.int (-4) t)) (k_NOT_NOW : ∃ t, mg "NOT_NOW" = some (.int (-5) t)) (k_NUMBERS_CLASH : ∃ t, mg "NUMBERS_CLASH" = some (.int (-6) t)) (k_ALL_TAKEN : ∃ t, mg "ALL_TAKEN" = some (.int (-9) t)) (k_MOST_MEMBERS : ∃ t, mg "MOST_MEMBERS" = some (.int (8) t)) (k_MOST_GROUPS : ∃ t, mg "MOST_GROUPS" = some (.int (8) t)) (k_MOST_PRICES : ∃ t, mg "MOST_PRICES" = some (.int (16) t)) (k_MOST_CENTS : ∃ t, mg "MOST_CENTS" = some (.int (1000) t)) (k_LONGEST_WAIT : ∃ t, mg "LONGEST_WAIT" = some (.int (1000) t)) (k_MOST_HANDED_ON : ∃ t, mg "MOST_HANDED_ON" = some (.int (5) t)) (k_MINUTE : ∃ t, mg "MINUTE" = some (.int (60) t)) (k_BEGIN : ∃ t, mg "BEGIN" = some (.int (1) t)) (k_NUMBER : ∃ t, mg "NUMBER" = some (.int (2) t)) (k_CLEAR : ∃ t, mg "CLEAR" = some (.int (3) t)) (k_GROUP : ∃ t, mg "GROUP" = some (.int (4) t)) (k_PRICE : ∃ t, mg "PRICE" = some (.int (5) t)) (k_HAND : ∃ t, mg "HAND" = some (.int (6) t)) (k_WAIT : ∃ t, mg "WAIT" = some (.int (7) t)) (k_LIFT : ∃ t, mg "LIFT" = some (.int (8) t)) (k_DIGIT : ∃ t, mg "DIGIT" = some (.int (9) t)) (k_HANG : ∃ t, mg "HANG" = some (.int (10) t)) (k_TICK : ∃ t, mg "TICK" = some (.int (11) t)) (k_LOOK : ∃ t, mg "LOOK" = some (.int (12) t)) (k_MIDDLE : ∃ t, mg "MIDDLE" = some (.int (13) t)) (k_OWES : ∃ t, mg "OWES" = some (.int (14) t)) (k_RECORD : ∃ t, mg "RECORD" = some (.int (15) t)) (k_OWNER : ∃ t, mg "OWNER" = some (.int (16) t)) (k_FORMS : mg "FORMS" = some (.ref a_FORMS)) (f_FORMS : Forms K a_FORMS) (k_OF_A_LINE : mg "OF_A_LINE" = some (.ref a_OF_A_LINE)) (q_OF_A_LINE : ∀ H : Hp, SqT K H a_OF_A_LINE ([2, 3, 6, 8, 9, 10, 12, 14].map V.int)) (k_BEGINS_A_NUMBER : ∃ t, mg "BEGINS_A_NUMBER" = some (.int (0) t)) (k_A_LINES : ∃ t, mg "A_LINES" = some (.int (1) t)) (k_A_GROUPS : ∃ t, mg "A_GROUPS" = some (.int (2) t)) (k_MOST_LINES_EACH : ∃ t, mg "MOST_LINES_EACH" = some (.int (8) t)) (k_MOST_SWITCHES : ∃ t, mg "MOST_SWITCHES" = some (.int (8) t)) (k_MOST_MIDDLES : ∃ t, mg "MOST_MIDDLES" = some (.int (16) t)) (n_len : mg "len" = none) (n_any : mg "any" = none) (n_all : mg "all" = none) (n_sum : mg "sum" = none) (n_tuple : mg "tuple" = none) (n_set : mg "set" = none) (n_range : mg "range" = none) (n_enumerate : mg "enumerate" = none) (n_max : mg "max" = none) : ∃ C, Txt K mg C := ⟨⟨c_Line, c_Group, c_Call, c_Exchange, c_Town, c_Request, a_FORMS, a_OF_A_LINE⟩, ⟨l_Line, cl_Line, na_Line_state, na_Line_number, na_Line_dialed, na_Line_hands, na_Line_call, na_Line_owed, l_Group, cl_Group, na_Group_number, na_Group_members, l_Call, cl_Call, mro_Call, eq_Call, na_Call_caller, na_Call_called, na_Call_number, na_Call_handed_on, na_Call_rings_since, na_Call_talks_since, na_Call_way, l_Exchange, cl_Exchange, na_Exchange_lines_each, na_Exchange_middles, na_Exchange_lines, na_Exchange_groups, na_Exchange_prices, na_Exchange_calls, na_Exchange_records, na_Exchange_moved, na_Exchange_time, na_Exchange_wait, l_Town, cl_Town, na_Town_exchange, d_are_digits, d_is_number, d_begins, d_numbers_there, d_some_number_begins, d_clashes, d_line_of_number, d_group_of_number, d_is_somebodys, d_price_of, d_give_number, d_clear_number, d_are_members, d_make_group, d_tell_price, d_hand_on, d_set_wait, d_switch_of, d_call_from, d_call_to, d_free_from, d_free_to, d_calls_to_move, d_put_on_a_way, d_give_tone, d_enter_call, d_is_idle, d_handed_on_to, d_first_idle_member, d_call_that_rings, d_try_number, d_make_idle, d_minutes_begun, d_cents_of, d_end_ringing, d_end_talk, d_rang_too_long, d_nobody_answers, d_pass_time, d_start_talk, d_lift, d_press_digit, d_hang, l_Request, cl_Request, na_Request_kind, na_Request_numbers, na_Request_rows, d_read_rows, d_read_request, d_length_of, d_read_requests, d_look_at_line, d_look_at_middle, d_tell_owed, d_tell_record, d_tell_owner, d_tell_counts, d_sizes_fit, d_begin, d_answer_of_order, d_answer_of_doing, d_answer_of_telling, d_answer_of, d_answer_request, d_laid_out, d_answers, k_IDLE, k_DIALS, k_TALKS, k_WAITS, k_TONE, k_RINGS, k_ALWAYS, k_WHEN_BUSY, k_WHEN_UNANSWERED, k_FIRST_WAIT, k_MOST_DIGITS, k_TOP_DIGIT, k_NONE_SUCH, k_NOT_BEGUN, k_NONE_THERE, k_NO_NUMBER, k_NOT_NOW, k_NUMBERS_CLASH, k_ALL_TAKEN, k_MOST_MEMBERS, k_MOST_GROUPS, k_MOST_PRICES, k_MOST_CENTS, k_LONGEST_WAIT, k_MOST_HANDED_ON, k_MINUTE, k_BEGIN, k_NUMBER, k_CLEAR, k_GROUP, k_PRICE, k_HAND, k_WAIT, k_LIFT, k_DIGIT, k_HANG, k_TICK, k_LOOK, k_MIDDLE, k_OWES, k_RECORD, k_OWNER, k_FORMS, f_FORMS, k_OF_A_LINE, q_OF_A_LINE, k_BEGINS_A_NUMBER, k_A_LINES, k_A_GROUPS, k_MOST_LINES_EACH, k_MOST_SWITCHES, k_MOST_MIDDLES, n_len, n_any, n_all, n_sum, n_tuple, n_set, n_range, n_enumerate, n_max⟩⟩
section
variable {K : PySem.W.Frag} {h : Heap} {mg : Str → Option Value}
theorem def_mk {x : Str} {st : Stmt} {ps : List Str} {f : Addr} {oc kV dc pm cd ct : Value} {od an : Option Addr} {sl : Array (Option Value)} (X : K.In h) (G : h.Ns mainGlobals mg) (a : PySem.W.nsIn K mainGlobals x = some (some (.ref f)))
    (l : K.lookup f = some ⟨oc, od, .func (PySem.W.fnOf x x (defArgs st) (defBody st) (defScope st) .none kV dc pm an cd ct), sl⟩) (c : PySem.W.codeIn K cd x = true) (k : PySem.W.keepIn K (.ref f) = true) (b : Bd x x st ps) : Def K mg x st ps :=
  ⟨f, _, fun_mk l c k, PySem.W.mg_of X G a, (fun_mk (st := st) l c k).binds b⟩
theorem klass_mk {x q : Str} {st : Stmt} {ps : List Str} {C f : Addr} {oc kV dc pm cd ct : Value} {od an : Option Addr} {sl : Array (Option Value)} (X : K.In h) (G : h.Ns mainGlobals mg) (a : PySem.W.nsIn K mainGlobals x = some (some (.ref C)))
    (i : PySem.W.findIn K (.ref C) "__init__" = some (some (.ref f))) (fn : PySem.W.isFn K (.ref f) = true) (l : K.lookup f = some ⟨oc, od, .func (PySem.W.fnOf "__init__" q (defArgs st) (defBody st) (defScope st) .none kV dc pm an cd ct), sl⟩)
    (c : PySem.W.codeIn K cd q = true) (k : PySem.W.keepIn K (.ref f) = true) (mk : PySem.W.makesIn K C = true) (kc : PySem.W.keepIn K (.ref C) = true) (b : Bd "__init__" q st ps) : Klass K mg x q st ps C :=
  ⟨f, _, ⟨mk, i, fn, kc⟩, fun_mk l c k, PySem.W.mg_of X G a, (fun_mk (st := st) l c k).binds b⟩
theorem int_mk {x : Str} {z : Int} {t : Tok} (X : K.In h) (G : h.Ns mainGlobals mg) (a : PySem.W.nsIn K mainGlobals x = some (some (.int z t))) : ∃ t, mg x = some (.int z t) := ⟨t, PySem.W.mg_of X G a⟩
theorem tup_mk {a : Addr} {dd : Option Addr} {its : Array Value} {n : Nat} {sl : Array (Option Value)} {xs : List V} (l : K.lookup a = some ⟨.type "tuple", dd, .seq its n, sl⟩) (hs : its.size ≤ sizeLine) (hv : Vals xs its.toList) : ∀ H : Hp, SqT K H a xs :=
  fun _ => .inr ⟨_, its, n, l, rfl, rfl, hs, hv⟩
end
/-! ### the table of forms -/
def FormAt (K : PySem.W.Frag) (es : Array DictEntry) (k m r : Nat) : Prop := ∃ b, findBy Value.isInt es (k : Int) = some (.ref b) ∧ ∀ H : Hp, SqT K H b [.int (m : Int), .int (r : Int)]
theorem form_at {K : PySem.W.Frag} {es : Array DictEntry} {k m r : Nat} {b : Addr} {dd : Option Addr} {its : Array Value} {n : Nat} {sl : Array (Option Value)} (f : findBy Value.isInt es (k : Int) = some (.ref b)) (l : K.lookup b = some ⟨.type "tuple", dd, .seq its n, sl⟩) (s : its.size ≤ sizeLine) (v : Vals [.int (m : Int), .int (r : Int)] its.toList) : FormAt K es k m r := ⟨b, f, tup_mk l s v⟩
def keyOk (e : DictEntry) : Bool := match e.key with
  | .int k _ => e.hash == hashInt k
  | _ => false
theorem key_ok {e : DictEntry} (h : keyOk e = true) : ∃ k t, e.key = .int k t ∧ e.hash = hashInt k := by
  unfold keyOk at h
  cases q : e.key with
  | int k t =>
    rw [q] at h
    exact ⟨k, t, rfl, eq_of_beq h⟩
  | _ =>
    rw [q] at h
    cases h
theorem forms_mk {K : PySem.W.Frag} {a : Addr} {es : Array DictEntry} {n : Nat} (l : K.lookup a = some ⟨.type "dict", none, .dict es n, #[]⟩) (ks : es.toList.all keyOk = true)
    (f1 : FormAt K es 1 3 0)
    (f2 : FormAt K es 2 1 1)
    (f3 : FormAt K es 3 1 0)
    (f4 : FormAt K es 4 0 2)
    (f5 : FormAt K es 5 1 1)
    (f6 : FormAt K es 6 2 1)
    (f7 : FormAt K es 7 1 0)
    (f8 : FormAt K es 8 1 0)
    (f9 : FormAt K es 9 2 0)
    (f10 : FormAt K es 10 1 0)
    (f11 : FormAt K es 11 1 0)
    (f12 : FormAt K es 12 1 0)
    (f13 : FormAt K es 13 1 0)
    (f14 : FormAt K es 14 1 0)
    (f15 : FormAt K es 15 1 0)
    (f16 : FormAt K es 16 0 1)
    (f17 : FormAt K es 17 0 0) : Forms K a := by
  refine ⟨es, n, l, fun e he => key_ok (List.all_eq_true.mp ks e he), fun k m r h => ?_⟩
  obtain ⟨p, hp, rfl, rfl, rfl⟩ := shape_kinds h
  simp only [kinds, List.mem_cons, List.not_mem_nil, or_false] at hp
  rcases hp with rfl | rfl | rfl | rfl | rfl | rfl | rfl | rfl | rfl | rfl | rfl | rfl | rfl | rfl | rfl | rfl | rfl
  · exact f1
  · exact f2
  · exact f3
  · exact f4
  · exact f5
  · exact f6
  · exact f7
  · exact f8
  · exact f9
  · exact f10
  · exact f11
  · exact f12
  · exact f13
  · exact f14
  · exact f15
  · exact f16
  · exact f17
end Tx
end
section
open PySem PySem.W PyProof.Rows
namespace Tx
theorem with_txt {K : PySem.W.Frag} {h : Heap} {mg : Str → Option Value} {G : Prop} (_ : K.In h) (T : ∃ C, Txt K mg C) (f : ∀ C, Txt K mg C → G) : G := T.elim f
end Tx
open Tx
set_option maxHeartbeats 16000000 in
theorem PySem.Challenge.cw_townexchange_s01_answers_holds : PySem.Challenge.rw_townexchange_s01_answers.Holds := by
  w_on; k_headS; (case hw => exact ⟨[.list [.int 17]], by decide +kernel, by decide +kernel⟩)
  k_fillS
  refine L2.walk_specK (r := PySem.Challenge.rw_townexchange_s01_answers) (k := 11) (CX := L2.CX0) (ps := ["calls"]) (sp := Tx.sp_answers) (by decide +kernel) rfl rfl ⟨rfl, by decide, by decide⟩ (fun w h Y => PySem.W.kIn_of Y) ?F Tx.asked_in (fun _ _ _ _ z => z)
  case F =>
    intro w mg fa h Y KX G hmg
    refine' Tx.with_txt (mg := mg) KX ?T ?R
    case T =>
      refine' txt_mk ?l_Line ?cl_Line ?na_Line_state ?na_Line_number ?na_Line_dialed ?na_Line_hands ?na_Line_call ?na_Line_owed ?l_Group ?cl_Group ?na_Group_number ?na_Group_members ?l_Call ?cl_Call ?mro_Call ?eq_Call ?na_Call_caller ?na_Call_called ?na_Call_number ?na_Call_handed_on ?na_Call_rings_since ?na_Call_talks_since ?na_Call_way ?l_Exchange ?cl_Exchange ?na_Exchange_lines_each ?na_Exchange_middles ?na_Exchange_lines ?na_Exchange_groups ?na_Exchange_prices ?na_Exchange_calls ?na_Exchange_records ?na_Exchange_moved ?na_Exchange_time ?na_Exchange_wait ?l_Town ?cl_Town ?na_Town_exchange ?d_are_digits ?d_is_number ?d_begins ?d_numbers_there ?d_some_number_begins ?d_clashes ?d_line_of_number ?d_group_of_number ?d_is_somebodys ?d_price_of ?d_give_number ?d_clear_number ?d_are_members ?d_make_group ?d_tell_price ?d_hand_on ?d_set_wait ?d_switch_of ?d_call_from ?d_call_to ?d_free_from ?d_free_to ?d_calls_to_move ?d_put_on_a_way ?d_give_tone ?d_enter_call ?d_is_idle ?d_handed_on_to ?d_first_idle_member ?d_call_that_rings ?d_try_number ?d_make_idle ?d_minutes_begun ?d_cents_of ?d_end_ringing ?d_end_talk ?d_rang_too_long ?d_nobody_answers ?d_pass_time ?d_start_talk ?d_lift ?d_press_digit ?d_hang ?l_Request ?cl_Request ?na_Request_kind ?na_Request_numbers ?na_Request_rows ?d_read_rows ?d_read_request ?d_length_of ?d_read_requests ?d_look_at_line ?d_look_at_middle ?d_tell_owed ?d_tell_record ?d_tell_owner ?d_tell_counts ?d_sizes_fit ?d_begin ?d_answer_of_order ?d_answer_of_doing ?d_answer_of_telling ?d_answer_of ?d_answer_request ?d_laid_out ?d_answers ?k_IDLE ?k_DIALS ?k_TALKS ?k_WAITS ?k_TONE ?k_RINGS ?k_ALWAYS ?k_WHEN_BUSY ?k_WHEN_UNANSWERED ?k_FIRST_WAIT ?k_MOST_DIGITS ?k_TOP_DIGIT ?k_NONE_SUCH ?k_NOT_BEGUN ?k_NONE_THERE ?k_NO_NUMBER ?k_NOT_NOW ?k_NUMBERS_CLASH ?k_ALL_TAKEN ?k_MOST_MEMBERS ?k_MOST_GROUPS ?k_MOST_PRICES ?k_MOST_CENTS ?k_LONGEST_WAIT ?k_MOST_HANDED_ON ?k_MINUTE ?k_BEGIN ?k_NUMBER ?k_CLEAR ?k_GROUP ?k_PRICE ?k_HAND ?k_WAIT ?k_LIFT ?k_DIGIT ?k_HANG ?k_TICK ?k_LOOK ?k_MIDDLE ?k_OWES ?k_RECORD ?k_OWNER ?k_FORMS ?f_FORMS ?k_OF_A_LINE ?q_OF_A_LINE ?k_BEGINS_A_NUMBER ?k_A_LINES ?k_A_GROUPS ?k_MOST_LINES_EACH ?k_MOST_SWITCHES ?k_MOST_MIDDLES ?n_len ?n_any ?n_all ?n_sum ?n_tuple ?n_set ?n_range ?n_enumerate ?n_max
      (case l_Line => refine' klass_mk KX G ?a ?i ?f ?l ?c ?k ?m ?e bd_init_Line; (case a => k_is); (case i => k_is); (case f => k_is); (case l => k_is); (case c => k_is); (case k => k_is); (case m => k_is); (case e => k_is))
      (case l_Group => refine' klass_mk KX G ?a ?i ?f ?l ?c ?k ?m ?e bd_init_Group; (case a => k_is); (case i => k_is); (case f => k_is); (case l => k_is); (case c => k_is); (case k => k_is); (case m => k_is); (case e => k_is))
      (case l_Call => refine' klass_mk KX G ?a ?i ?f ?l ?c ?k ?m ?e bd_init_Call; (case a => k_is); (case i => k_is); (case f => k_is); (case l => k_is); (case c => k_is); (case k => k_is); (case m => k_is); (case e => k_is))
      (case l_Exchange => refine' klass_mk KX G ?a ?i ?f ?l ?c ?k ?m ?e bd_init_Exchange; (case a => k_is); (case i => k_is); (case f => k_is); (case l => k_is); (case c => k_is); (case k => k_is); (case m => k_is); (case e => k_is))
      (case l_Town => refine' klass_mk KX G ?a ?i ?f ?l ?c ?k ?m ?e bd_init_Town; (case a => k_is); (case i => k_is); (case f => k_is); (case l => k_is); (case c => k_is); (case k => k_is); (case m => k_is); (case e => k_is))
      (case l_Request => refine' klass_mk KX G ?a ?i ?f ?l ?c ?k ?m ?e bd_init_Request; (case a => k_is); (case i => k_is); (case f => k_is); (case l => k_is); (case c => k_is); (case k => k_is); (case m => k_is); (case e => k_is))
      (case k_FORMS => refine' PySem.W.mg_of KX G ?a; (case a => k_is))
      (case k_OF_A_LINE => refine' PySem.W.mg_of KX G ?a; (case a => k_is))
      (case cl_Line => refine' ⟨?a, ?b, ?c, ?d⟩; (case a => k_is); (case b => k_is); (case c => k_is); (case d => k_is))
      (case na_Line_state => show PySem.W.findIn _ _ _ = _; k_is)
      (case na_Line_number => show PySem.W.findIn _ _ _ = _; k_is)
      (case na_Line_dialed => show PySem.W.findIn _ _ _ = _; k_is)
      (case na_Line_hands => show PySem.W.findIn _ _ _ = _; k_is)
      (case na_Line_call => show PySem.W.findIn _ _ _ = _; k_is)
      (case na_Line_owed => show PySem.W.findIn _ _ _ = _; k_is)
      (case cl_Group => refine' ⟨?a, ?b, ?c, ?d⟩; (case a => k_is); (case b => k_is); (case c => k_is); (case d => k_is))
      (case na_Group_number => show PySem.W.findIn _ _ _ = _; k_is)
      (case na_Group_members => show PySem.W.findIn _ _ _ = _; k_is)
      (case cl_Call => refine' ⟨?a, ?b, ?c, ?d⟩; (case a => k_is); (case b => k_is); (case c => k_is); (case d => k_is))
      (case mro_Call => k_is)
      (case eq_Call => k_is)
      (case na_Call_caller => show PySem.W.findIn _ _ _ = _; k_is)
      (case na_Call_called => show PySem.W.findIn _ _ _ = _; k_is)
      (case na_Call_number => show PySem.W.findIn _ _ _ = _; k_is)
      (case na_Call_handed_on => show PySem.W.findIn _ _ _ = _; k_is)
      (case na_Call_rings_since => show PySem.W.findIn _ _ _ = _; k_is)
      (case na_Call_talks_since => show PySem.W.findIn _ _ _ = _; k_is)
      (case na_Call_way => show PySem.W.findIn _ _ _ = _; k_is)
      (case cl_Exchange => refine' ⟨?a, ?b, ?c, ?d⟩; (case a => k_is); (case b => k_is); (case c => k_is); (case d => k_is))
      (case na_Exchange_lines_each => show PySem.W.findIn _ _ _ = _; k_is)
      (case na_Exchange_middles => show PySem.W.findIn _ _ _ = _; k_is)
      (case na_Exchange_lines => show PySem.W.findIn _ _ _ = _; k_is)
      (case na_Exchange_groups => show PySem.W.findIn _ _ _ = _; k_is)
      (case na_Exchange_prices => show PySem.W.findIn _ _ _ = _; k_is)
      (case na_Exchange_calls => show PySem.W.findIn _ _ _ = _; k_is)
      (case na_Exchange_records => show PySem.W.findIn _ _ _ = _; k_is)
      (case na_Exchange_moved => show PySem.W.findIn _ _ _ = _; k_is)
      (case na_Exchange_time => show PySem.W.findIn _ _ _ = _; k_is)
      (case na_Exchange_wait => show PySem.W.findIn _ _ _ = _; k_is)
      (case cl_Town => refine' ⟨?a, ?b, ?c, ?d⟩; (case a => k_is); (case b => k_is); (case c => k_is); (case d => k_is))
      (case na_Town_exchange => show PySem.W.findIn _ _ _ = _; k_is)
      (case d_are_digits => refine' def_mk KX G ?a ?l ?c ?k bd_are_digits; (case a => k_is); (case l => k_is); (case c => k_is); (case k => k_is))
      (case d_is_number => refine' def_mk KX G ?a ?l ?c ?k bd_is_number; (case a => k_is); (case l => k_is); (case c => k_is); (case k => k_is))
      (case d_begins => refine' def_mk KX G ?a ?l ?c ?k bd_begins; (case a => k_is); (case l => k_is); (case c => k_is); (case k => k_is))
      (case d_numbers_there => refine' def_mk KX G ?a ?l ?c ?k bd_numbers_there; (case a => k_is); (case l => k_is); (case c => k_is); (case k => k_is))
      (case d_some_number_begins => refine' def_mk KX G ?a ?l ?c ?k bd_some_number_begins; (case a => k_is); (case l => k_is); (case c => k_is); (case k => k_is))
      (case d_clashes => refine' def_mk KX G ?a ?l ?c ?k bd_clashes; (case a => k_is); (case l => k_is); (case c => k_is); (case k => k_is))
      (case d_line_of_number => refine' def_mk KX G ?a ?l ?c ?k bd_line_of_number; (case a => k_is); (case l => k_is); (case c => k_is); (case k => k_is))
      (case d_group_of_number => refine' def_mk KX G ?a ?l ?c ?k bd_group_of_number; (case a => k_is); (case l => k_is); (case c => k_is); (case k => k_is))
      (case d_is_somebodys => refine' def_mk KX G ?a ?l ?c ?k bd_is_somebodys; (case a => k_is); (case l => k_is); (case c => k_is); (case k => k_is))
      (case d_price_of => refine' def_mk KX G ?a ?l ?c ?k bd_price_of; (case a => k_is); (case l => k_is); (case c => k_is); (case k => k_is))
      (case d_give_number => refine' def_mk KX G ?a ?l ?c ?k bd_give_number; (case a => k_is); (case l => k_is); (case c => k_is); (case k => k_is))
      (case d_clear_number => refine' def_mk KX G ?a ?l ?c ?k bd_clear_number; (case a => k_is); (case l => k_is); (case c => k_is); (case k => k_is))
      (case d_are_members => refine' def_mk KX G ?a ?l ?c ?k bd_are_members; (case a => k_is); (case l => k_is); (case c => k_is); (case k => k_is))
      (case d_make_group => refine' def_mk KX G ?a ?l ?c ?k bd_make_group; (case a => k_is); (case l => k_is); (case c => k_is); (case k => k_is))
      (case d_tell_price => refine' def_mk KX G ?a ?l ?c ?k bd_tell_price; (case a => k_is); (case l => k_is); (case c => k_is); (case k => k_is))
      (case d_hand_on => refine' def_mk KX G ?a ?l ?c ?k bd_hand_on; (case a => k_is); (case l => k_is); (case c => k_is); (case k => k_is))
      (case d_set_wait => refine' def_mk KX G ?a ?l ?c ?k bd_set_wait; (case a => k_is); (case l => k_is); (case c => k_is); (case k => k_is))
      (case d_switch_of => refine' def_mk KX G ?a ?l ?c ?k bd_switch_of; (case a => k_is); (case l => k_is); (case c => k_is); (case k => k_is))
      (case d_call_from => refine' def_mk KX G ?a ?l ?c ?k bd_call_from; (case a => k_is); (case l => k_is); (case c => k_is); (case k => k_is))
      (case d_call_to => refine' def_mk KX G ?a ?l ?c ?k bd_call_to; (case a => k_is); (case l => k_is); (case c => k_is); (case k => k_is))
      (case d_free_from => refine' def_mk KX G ?a ?l ?c ?k bd_free_from; (case a => k_is); (case l => k_is); (case c => k_is); (case k => k_is))
      (case d_free_to => refine' def_mk KX G ?a ?l ?c ?k bd_free_to; (case a => k_is); (case l => k_is); (case c => k_is); (case k => k_is))
      (case d_calls_to_move => refine' def_mk KX G ?a ?l ?c ?k bd_calls_to_move; (case a => k_is); (case l => k_is); (case c => k_is); (case k => k_is))
      (case d_put_on_a_way => refine' def_mk KX G ?a ?l ?c ?k bd_put_on_a_way; (case a => k_is); (case l => k_is); (case c => k_is); (case k => k_is))
      (case d_give_tone => refine' def_mk KX G ?a ?l ?c ?k bd_give_tone; (case a => k_is); (case l => k_is); (case c => k_is); (case k => k_is))
      (case d_enter_call => refine' def_mk KX G ?a ?l ?c ?k bd_enter_call; (case a => k_is); (case l => k_is); (case c => k_is); (case k => k_is))
      (case d_is_idle => refine' def_mk KX G ?a ?l ?c ?k bd_is_idle; (case a => k_is); (case l => k_is); (case c => k_is); (case k => k_is))
      (case d_handed_on_to => refine' def_mk KX G ?a ?l ?c ?k bd_handed_on_to; (case a => k_is); (case l => k_is); (case c => k_is); (case k => k_is))
      (case d_first_idle_member => refine' def_mk KX G ?a ?l ?c ?k bd_first_idle_member; (case a => k_is); (case l => k_is); (case c => k_is); (case k => k_is))
      (case d_call_that_rings => refine' def_mk KX G ?a ?l ?c ?k bd_call_that_rings; (case a => k_is); (case l => k_is); (case c => k_is); (case k => k_is))
      (case d_try_number => refine' def_mk KX G ?a ?l ?c ?k bd_try_number; (case a => k_is); (case l => k_is); (case c => k_is); (case k => k_is))
      (case d_make_idle => refine' def_mk KX G ?a ?l ?c ?k bd_make_idle; (case a => k_is); (case l => k_is); (case c => k_is); (case k => k_is))
      (case d_minutes_begun => refine' def_mk KX G ?a ?l ?c ?k bd_minutes_begun; (case a => k_is); (case l => k_is); (case c => k_is); (case k => k_is))
      (case d_cents_of => refine' def_mk KX G ?a ?l ?c ?k bd_cents_of; (case a => k_is); (case l => k_is); (case c => k_is); (case k => k_is))
      (case d_end_ringing => refine' def_mk KX G ?a ?l ?c ?k bd_end_ringing; (case a => k_is); (case l => k_is); (case c => k_is); (case k => k_is))
      (case d_end_talk => refine' def_mk KX G ?a ?l ?c ?k bd_end_talk; (case a => k_is); (case l => k_is); (case c => k_is); (case k => k_is))
      (case d_rang_too_long => refine' def_mk KX G ?a ?l ?c ?k bd_rang_too_long; (case a => k_is); (case l => k_is); (case c => k_is); (case k => k_is))
      (case d_nobody_answers => refine' def_mk KX G ?a ?l ?c ?k bd_nobody_answers; (case a => k_is); (case l => k_is); (case c => k_is); (case k => k_is))
      (case d_pass_time => refine' def_mk KX G ?a ?l ?c ?k bd_pass_time; (case a => k_is); (case l => k_is); (case c => k_is); (case k => k_is))
      (case d_start_talk => refine' def_mk KX G ?a ?l ?c ?k bd_start_talk; (case a => k_is); (case l => k_is); (case c => k_is); (case k => k_is))
      (case d_lift => refine' def_mk KX G ?a ?l ?c ?k bd_lift; (case a => k_is); (case l => k_is); (case c => k_is); (case k => k_is))
      (case d_press_digit => refine' def_mk KX G ?a ?l ?c ?k bd_press_digit; (case a => k_is); (case l => k_is); (case c => k_is); (case k => k_is))
      (case d_hang => refine' def_mk KX G ?a ?l ?c ?k bd_hang; (case a => k_is); (case l => k_is); (case c => k_is); (case k => k_is))
      (case cl_Request => refine' ⟨?a, ?b, ?c, ?d⟩; (case a => k_is); (case b => k_is); (case c => k_is); (case d => k_is))
      (case na_Request_kind => show PySem.W.findIn _ _ _ = _; k_is)
      (case na_Request_numbers => show PySem.W.findIn _ _ _ = _; k_is)
      (case na_Request_rows => show PySem.W.findIn _ _ _ = _; k_is)
      (case d_read_rows => refine' def_mk KX G ?a ?l ?c ?k bd_read_rows; (case a => k_is); (case l => k_is); (case c => k_is); (case k => k_is))
      (case d_read_request => refine' def_mk KX G ?a ?l ?c ?k bd_read_request; (case a => k_is); (case l => k_is); (case c => k_is); (case k => k_is))
      (case d_length_of => refine' def_mk KX G ?a ?l ?c ?k bd_length_of; (case a => k_is); (case l => k_is); (case c => k_is); (case k => k_is))
      (case d_read_requests => refine' def_mk KX G ?a ?l ?c ?k bd_read_requests; (case a => k_is); (case l => k_is); (case c => k_is); (case k => k_is))
      (case d_look_at_line => refine' def_mk KX G ?a ?l ?c ?k bd_look_at_line; (case a => k_is); (case l => k_is); (case c => k_is); (case k => k_is))
      (case d_look_at_middle => refine' def_mk KX G ?a ?l ?c ?k bd_look_at_middle; (case a => k_is); (case l => k_is); (case c => k_is); (case k => k_is))
      (case d_tell_owed => refine' def_mk KX G ?a ?l ?c ?k bd_tell_owed; (case a => k_is); (case l => k_is); (case c => k_is); (case k => k_is))
      (case d_tell_record => refine' def_mk KX G ?a ?l ?c ?k bd_tell_record; (case a => k_is); (case l => k_is); (case c => k_is); (case k => k_is))
      (case d_tell_owner => refine' def_mk KX G ?a ?l ?c ?k bd_tell_owner; (case a => k_is); (case l => k_is); (case c => k_is); (case k => k_is))
      (case d_tell_counts => refine' def_mk KX G ?a ?l ?c ?k bd_tell_counts; (case a => k_is); (case l => k_is); (case c => k_is); (case k => k_is))
      (case d_sizes_fit => refine' def_mk KX G ?a ?l ?c ?k bd_sizes_fit; (case a => k_is); (case l => k_is); (case c => k_is); (case k => k_is))
      (case d_begin => refine' def_mk KX G ?a ?l ?c ?k bd_begin; (case a => k_is); (case l => k_is); (case c => k_is); (case k => k_is))
      (case d_answer_of_order => refine' def_mk KX G ?a ?l ?c ?k bd_answer_of_order; (case a => k_is); (case l => k_is); (case c => k_is); (case k => k_is))
      (case d_answer_of_doing => refine' def_mk KX G ?a ?l ?c ?k bd_answer_of_doing; (case a => k_is); (case l => k_is); (case c => k_is); (case k => k_is))
      (case d_answer_of_telling => refine' def_mk KX G ?a ?l ?c ?k bd_answer_of_telling; (case a => k_is); (case l => k_is); (case c => k_is); (case k => k_is))
      (case d_answer_of => refine' def_mk KX G ?a ?l ?c ?k bd_answer_of; (case a => k_is); (case l => k_is); (case c => k_is); (case k => k_is))
      (case d_answer_request => refine' def_mk KX G ?a ?l ?c ?k bd_answer_request; (case a => k_is); (case l => k_is); (case c => k_is); (case k => k_is))
      (case d_laid_out => refine' def_mk KX G ?a ?l ?c ?k bd_laid_out; (case a => k_is); (case l => k_is); (case c => k_is); (case k => k_is))
      (case d_answers => refine' def_mk KX G ?a ?l ?c ?k bd_answers; (case a => k_is); (case l => k_is); (case c => k_is); (case k => k_is))
      (case k_IDLE => refine' int_mk KX G ?a; (case a => k_is))
      (case k_DIALS => refine' int_mk KX G ?a; (case a => k_is))
      (case k_TALKS => refine' int_mk KX G ?a; (case a => k_is))
      (case k_WAITS => refine' int_mk KX G ?a; (case a => k_is))
      (case k_TONE => refine' int_mk KX G ?a; (case a => k_is))
      (case k_RINGS => refine' int_mk KX G ?a; (case a => k_is))
      (case k_ALWAYS => refine' int_mk KX G ?a; (case a => k_is))
      (case k_WHEN_BUSY => refine' int_mk KX G ?a; (case a => k_is))
      (case k_WHEN_UNANSWERED => refine' int_mk KX G ?a; (case a => k_is))
      (case k_FIRST_WAIT => refine' int_mk KX G ?a; (case a => k_is))
      (case k_MOST_DIGITS => refine' int_mk KX G ?a; (case a => k_is))
      (case k_TOP_DIGIT => refine' int_mk KX G ?a; (case a => k_is))
      (case k_NONE_SUCH => refine' int_mk KX G ?a; (case a => k_is))
      (case k_NOT_BEGUN => refine' int_mk KX G ?a; (case a => k_is))
      (case k_NONE_THERE => refine' int_mk KX G ?a; (case a => k_is))
      (case k_NO_NUMBER => refine' int_mk KX G ?a; (case a => k_is))
      (case k_NOT_NOW => refine' int_mk KX G ?a; (case a => k_is))
      (case k_NUMBERS_CLASH => refine' int_mk KX G ?a; (case a => k_is))
      (case k_ALL_TAKEN => refine' int_mk KX G ?a; (case a => k_is))
      (case k_MOST_MEMBERS => refine' int_mk KX G ?a; (case a => k_is))
      (case k_MOST_GROUPS => refine' int_mk KX G ?a; (case a => k_is))
      (case k_MOST_PRICES => refine' int_mk KX G ?a; (case a => k_is))
      (case k_MOST_CENTS => refine' int_mk KX G ?a; (case a => k_is))
      (case k_LONGEST_WAIT => refine' int_mk KX G ?a; (case a => k_is))
      (case k_MOST_HANDED_ON => refine' int_mk KX G ?a; (case a => k_is))
      (case k_MINUTE => refine' int_mk KX G ?a; (case a => k_is))
      (case k_BEGIN => refine' int_mk KX G ?a; (case a => k_is))
      (case k_NUMBER => refine' int_mk KX G ?a; (case a => k_is))
      (case k_CLEAR => refine' int_mk KX G ?a; (case a => k_is))
      (case k_GROUP => refine' int_mk KX G ?a; (case a => k_is))
      (case k_PRICE => refine' int_mk KX G ?a; (case a => k_is))
      (case k_HAND => refine' int_mk KX G ?a; (case a => k_is))
      (case k_WAIT => refine' int_mk KX G ?a; (case a => k_is))
      (case k_LIFT => refine' int_mk KX G ?a; (case a => k_is))
      (case k_DIGIT => refine' int_mk KX G ?a; (case a => k_is))
      (case k_HANG => refine' int_mk KX G ?a; (case a => k_is))
      (case k_TICK => refine' int_mk KX G ?a; (case a => k_is))
      (case k_LOOK => refine' int_mk KX G ?a; (case a => k_is))
      (case k_MIDDLE => refine' int_mk KX G ?a; (case a => k_is))
      (case k_OWES => refine' int_mk KX G ?a; (case a => k_is))
      (case k_RECORD => refine' int_mk KX G ?a; (case a => k_is))
      (case k_OWNER => refine' int_mk KX G ?a; (case a => k_is))
      (case f_FORMS => refine' forms_mk ?l ?k ?f1 ?f2 ?f3 ?f4 ?f5 ?f6 ?f7 ?f8 ?f9 ?f10 ?f11 ?f12 ?f13 ?f14 ?f15 ?f16 ?f17; (case l => k_is); (case k => decide +kernel); (case f1 => refine' form_at ?f ?l ?s ?v; (case f => rfl); (case l => k_is); (case s => decide); (case v => repeat (first | exact .nil | refine .cons ⟨_, rfl⟩ ?_))); (case f2 => refine' form_at ?f ?l ?s ?v; (case f => rfl); (case l => k_is); (case s => decide); (case v => repeat (first | exact .nil | refine .cons ⟨_, rfl⟩ ?_))); (case f3 => refine' form_at ?f ?l ?s ?v; (case f => rfl); (case l => k_is); (case s => decide); (case v => repeat (first | exact .nil | refine .cons ⟨_, rfl⟩ ?_))); (case f4 => refine' form_at ?f ?l ?s ?v; (case f => rfl); (case l => k_is); (case s => decide); (case v => repeat (first | exact .nil | refine .cons ⟨_, rfl⟩ ?_))); (case f5 => refine' form_at ?f ?l ?s ?v; (case f => rfl); (case l => k_is); (case s => decide); (case v => repeat (first | exact .nil | refine .cons ⟨_, rfl⟩ ?_))); (case f6 => refine' form_at ?f ?l ?s ?v; (case f => rfl); (case l => k_is); (case s => decide); (case v => repeat (first | exact .nil | refine .cons ⟨_, rfl⟩ ?_))); (case f7 => refine' form_at ?f ?l ?s ?v; (case f => rfl); (case l => k_is); (case s => decide); (case v => repeat (first | exact .nil | refine .cons ⟨_, rfl⟩ ?_))); (case f8 => refine' form_at ?f ?l ?s ?v; (case f => rfl); (case l => k_is); (case s => decide); (case v => repeat (first | exact .nil | refine .cons ⟨_, rfl⟩ ?_))); (case f9 => refine' form_at ?f ?l ?s ?v; (case f => rfl); (case l => k_is); (case s => decide); (case v => repeat (first | exact .nil | refine .cons ⟨_, rfl⟩ ?_))); (case f10 => refine' form_at ?f ?l ?s ?v; (case f => rfl); (case l => k_is); (case s => decide); (case v => repeat (first | exact .nil | refine .cons ⟨_, rfl⟩ ?_))); (case f11 => refine' form_at ?f ?l ?s ?v; (case f => rfl); (case l => k_is); (case s => decide); (case v => repeat (first | exact .nil | refine .cons ⟨_, rfl⟩ ?_))); (case f12 => refine' form_at ?f ?l ?s ?v; (case f => rfl); (case l => k_is); (case s => decide); (case v => repeat (first | exact .nil | refine .cons ⟨_, rfl⟩ ?_))); (case f13 => refine' form_at ?f ?l ?s ?v; (case f => rfl); (case l => k_is); (case s => decide); (case v => repeat (first | exact .nil | refine .cons ⟨_, rfl⟩ ?_))); (case f14 => refine' form_at ?f ?l ?s ?v; (case f => rfl); (case l => k_is); (case s => decide); (case v => repeat (first | exact .nil | refine .cons ⟨_, rfl⟩ ?_))); (case f15 => refine' form_at ?f ?l ?s ?v; (case f => rfl); (case l => k_is); (case s => decide); (case v => repeat (first | exact .nil | refine .cons ⟨_, rfl⟩ ?_))); (case f16 => refine' form_at ?f ?l ?s ?v; (case f => rfl); (case l => k_is); (case s => decide); (case v => repeat (first | exact .nil | refine .cons ⟨_, rfl⟩ ?_))); (case f17 => refine' form_at ?f ?l ?s ?v; (case f => rfl); (case l => k_is); (case s => decide); (case v => repeat (first | exact .nil | refine .cons ⟨_, rfl⟩ ?_))))
      (case q_OF_A_LINE => refine' tup_mk ?l ?s ?v; (case l => k_is); (case s => decide); (case v => repeat (first | exact .nil | refine .cons ⟨_, rfl⟩ ?_)))
      (case k_BEGINS_A_NUMBER => refine' int_mk KX G ?a; (case a => k_is))
      (case k_A_LINES => refine' int_mk KX G ?a; (case a => k_is))
      (case k_A_GROUPS => refine' int_mk KX G ?a; (case a => k_is))
      (case k_MOST_LINES_EACH => refine' int_mk KX G ?a; (case a => k_is))
      (case k_MOST_SWITCHES => refine' int_mk KX G ?a; (case a => k_is))
      (case k_MOST_MIDDLES => refine' int_mk KX G ?a; (case a => k_is))
      (case n_len => refine' PySem.W.mg_none_of KX G ?a; (case a => k_is))
      (case n_any => refine' PySem.W.mg_none_of KX G ?a; (case a => k_is))
      (case n_all => refine' PySem.W.mg_none_of KX G ?a; (case a => k_is))
      (case n_sum => refine' PySem.W.mg_none_of KX G ?a; (case a => k_is))
      (case n_tuple => refine' PySem.W.mg_none_of KX G ?a; (case a => k_is))
      (case n_set => refine' PySem.W.mg_none_of KX G ?a; (case a => k_is))
      (case n_range => refine' PySem.W.mg_none_of KX G ?a; (case a => k_is))
      (case n_enumerate => refine' PySem.W.mg_none_of KX G ?a; (case a => k_is))
      (case n_max => refine' PySem.W.mg_none_of KX G ?a; (case a => k_is))
    case R =>
      intro C T
      exact Tx.last T hmg fun base T => cal_answer_of T
end
